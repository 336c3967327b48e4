import PyProof.Rows.All
import Wide.All
import OpenK.AllK
import Wide.FinOn
import PyProof.EqAt
import PyProof.EqKinds
import PyProof.TupleCall
import Lean
import HandS.ForMost
import HandS.ForExc
import HandS.Defaults
import HandS.Steps
import HandS.Evl
import HandS.More
import HandS.TupAny
import HandS.Style
import HandS.Conv
import HandS.SortInts
import HandS.IsInst
import HandS.FStr
import HandS.Deep
import HandS.ExcInit
import HandS.TryMany
import HandS.RaiseFrom
import HandS.SuiteRaise
import HandS.Zip
import HandS.HeadHook4
import HandS.HeadEnd
import HandS.HeadWalk
import HandS.Head0
import HandS.Head1
import HandS.Head2
import HandS.NoneIn
import HandS.StrMore
import HandS.WideBits
import HandS.Small
import KE.KExcIs
import HandS.ExcIs
import HandS.ExcField
import HandS.ExcValue
import HandS.ExcInitHot
import HandS.RaiseMore
import HandS.Replace
import KE.IntTextLaws
import KE.BitLaws
import HandS.SetFor
import HandS.TupSets
import KE.DataMinMax
import HandS.SortKw
import HandS.RevRange
import PyProof.Rows.BitMore
import HandS.Strs
import HandS.SetBool
import HandS.Text
import HandS.TupLen
import HandS.Iter
import PyProof.TupleOfSeq
import HandS.DictComp
import PySem.Challenge.RW_sortweb_k01_refused_in_order
set_option Elab.async false
set_option linter.all false
set_option maxRecDepth 100000
set_option maxHeartbeats 4000000
namespace Sw
open PySem PySem.Spec PyProof.Rows L2

/-! ## A def by its promise -/
/-- the name x of the module is a def that keeps sp -/
structure Cal (P : Program) (w : World) (K : PySem.W.Frag) (mg : Str → Option Value) (base : Heap) (CX : CXT) (k : Nat) (x : Str) (ps : List Str) (sp : Sp) : Prop where
  ex : ∃ (f : Addr) (fd : FuncData), FnOk P w K mg base CX k f fd ps sp ∧ mg x = some (.ref f) ∧ PySem.W.keepIn K (.ref f) = true ∧ Binds K fd ps [] ∧
    (∀ (s : Shared) (us : List Value), us.length = ps.length → BindsTo s fd ⟨us, []⟩ (ps.zip us)) ∧ ∃ (oc : Value) (od : Option Addr) (osl : Array (Option Value)), K.lookup f = some ⟨oc, od, .func fd, osl⟩
/-- the name x of the module is the def st of the text -/
structure Here (K : PySem.W.Frag) (mg : Str → Option Value) (x : Str) (st : Stmt) : Prop where
  ex : ∃ (f : Addr) (fd : FuncData), FunD K x x (defArgs st) (defBody st) (defScope st) [] [] f fd ∧ mg x = some (.ref f)
abbrev BX (CX : CXT) (P : Program) (w : World) (K : PySem.W.Frag) (mg : Str → Option Value) (base : Heap) (N : List Str) (x : Str) (st : Stmt) (f : Addr) (cdv : Value) (A : Around) (outer : List Env) (s : Shared) (H : Hp) (E : XK) : Cx :=
  cxOf CX P w K mg base N x (defScope st) f cdv A outer s H E
abbrev RmIn (k : Nat) (A : Around) (x : Str) (st : Stmt) (s : Shared) (f : Addr) (cdv : Value) : Prop := Room k (A.deeper (envOfC x (defScope st) s.heap.objs.size f cdv))
section
variable {P : Program} {w : World} {K : PySem.W.Frag} {mg : Str → Option Value} {base : Heap} {x : Str} {st : Stmt} {N ps : List Str} {k : Nat} {sp : Sp}
theorem Here.cal {r : TS} (F : Here K mg x st) (S : FnScope N ps (defScope st)) (len : ∀ vs H Q E, sp vs H Q E → vs.length = ps.length)
    (bd : ∀ (kV doc pm : Value) (an : Option Addr) (cdv ct : Value) (us : List Value), us.length = ps.length →
      bindArgs (PySem.W.fnOf x x (defArgs st) (defBody st) (defScope st) .none kV doc pm an cdv ct) ⟨us, []⟩ = pure (ps.zip us))
    (dv : ∀ (f : Addr) (cdv : Value) (A : Around) (outer : List Env) (s : Shared) (H : Hp) (E : XK), RmIn k A x st s f cdv → PSs (BX CX0 P w K mg base N x st f cdv A outer s H E).nox (defBody st) r)
    (rd : ∀ (vs : List V) (H : Hp) (Q : VK) (E : XK), sp vs H Q E → r { nx := fun _ H' => Q .non H', rt := Q } (start N vs) H) :
    Cal P w K mg base CX0 (k + 1) x ps sp := by
  obtain ⟨f, fd, D, g⟩ := F.ex
  refine ⟨f, fd, ?_, g, D.kp, D.bindsN bd, fun s us hl => D.bindsA bd s us hl, ?_⟩
  · exact D.ok S len fun cdv A outer s H vs Q E hr h => ⟨r, (dv f cdv A outer s H E hr).nox, rd vs H Q E h⟩
  · obtain ⟨oc, od, _, _, _, _, _, _, _, osl, _, lk, _⟩ := D.ex
    exact ⟨oc, od, osl, lk⟩
theorem Cal.mono {CX : CXT} {j : Nat} (c : Cal P w K mg base CX j x ps sp) (h : j ≤ k) : Cal P w K mg base CX k x ps sp := by
  obtain ⟨f, fd, F, g, kp, b, ba⟩ := c.ex
  exact ⟨f, fd, F.mono h, g, kp, b, ba⟩
end
/-- f(e, ..), nothing raised -/
def tCal (sp : Sp) (t : TA) : TE := fun σ H Q => t σ H fun vs H1 => sp vs H1 Q E0
section
variable {X : Cx} {k : Nat} {x : Str} {ps : List Str} {sp : Sp} {t : TA} {e : Expr} {es : List Expr} {p pos : Pos}
theorem pe_cal (c : Cal X.prog X.w X.K X.mg X.base CX0 k x ps sp) (hr : Room k X.A) (hg : Gl X x) (ha : PA X (e :: es) t)
    (hdb : (x == ("__debug__" : Str)) = false := by decide) (he : starEach (e :: es) X.env = (false, eval e X.env) :: starEach es X.env := by rfl)
    (hpl : (backTo pos (starEach es X.env)).any (·.1) = false := by rfl) : PE X (.Call (.Name x p) (e :: es) [] pos) (tCal sp t) := by
  obtain ⟨f, fd, F, gm, kp, b, _⟩ := c.ex
  refine ⟨fun pins s σ H Q I h => ?_⟩
  refine (pe_call (E := E0) (dvs := []) F hr hg gm kp b .nil pass0 ha hdb he hpl).run pins s σ H Q I ?_
  have eq : (fun (vs : List V) (H1 : Hp) => sp vs H1 Q E0) = fun vs H1 => sp (vs ++ []) H1 Q E0 := by
    funext vs H1
    rw [List.append_nil]
  show t σ H fun vs H1 => sp (vs ++ []) H1 Q E0
  rw [← eq]
  exact h
end

/-! ## The head: what the top has left, by names -/
def defD (x : Str) (st : Stmt) : He.DefD := ⟨(x, none), x, x, defArgs st, defBody st, defScope st, [], []⟩
def asZ (g : Addr → Option Obj) : Nat → List Addr
  | 0 => [mainGlobals, cStatics]
  | n + 1 => He.growD g (asZ g n)
def fragZ (g : Addr → Option Obj) (n : Nat) : PySem.W.Frag := He.frG g (asZ g n)
def obsZ (n : Nat) (fa : List He.Fa) (fn : List He.DefD) (ex : PySem.W.Frag → Bool) (g : Addr → Option Obj) : He.AlD × Bool := (fun K : PySem.W.Frag => (He.obsD fa fn K, ex K)) (fragZ g n)
/-- what the head tells of the written part K -/
structure SaysZ (fa : List He.Fa) (fn : List He.DefD) (ex : PySem.W.Frag → Bool) (K : PySem.W.Frag) : Prop where
  d : He.SaysD fa fn K
  x : ex K = true
def hookZ (n : Nat) (fa : List He.Fa) (fn : List He.DefD) (ex : PySem.W.Frag → Bool) : PySem.W.Hook where
  α := He.AlD × Bool
  obs := fun s => obsZ n fa fn ex s.heap.get?
  val := fun _ => (He.valD fn, true)
  says := fun _ h => ∃ K : PySem.W.Frag, K.In h ∧ SaysZ fa fn ex K
  of := fun _ _ e => ⟨_, He.frG_in, congrArg (fun z : He.AlD × Bool => z.1) e, congrArg (fun z : He.AlD × Bool => z.2) e⟩
  keeps := fun _ _ _ ⟨K, hK, c⟩ k => ⟨K, PySem.W.Frag.In.keeps hK k, c⟩
theorem obsZ_eq {n : Nat} {fa : List He.Fa} {fn : List He.DefD} {ex : PySem.W.Frag → Bool} {g : Addr → Option Obj} {s : Shared} (h : ∀ a, g a = s.heap.get? a) : obsZ n fa fn ex g = (hookZ n fa fn ex).obs s := by
  have e : g = s.heap.get? := funext h
  rw [e] <;> rfl
section
variable {fa : List He.Fa} {fn : List He.DefD} {ex : PySem.W.Frag → Bool} {h : Heap} {K : PySem.W.Frag} {mg : Str → Option Value}
theorem here_of (c : SaysZ fa fn ex K) (X : K.In h) (G : h.Ns mainGlobals mg) {x : Str} {st : Stmt} (i j : Nat) (hi : fn[i]? = some (defD x st)) (hj : fa[j]? = some (.glo x)) : Here K mg x st := by
  obtain ⟨fd, F⟩ := c.d.def_ i hi
  exact ⟨_, fd, F, He.glo_ok X G (c.d.fact j hj)⟩
theorem none_of (c : SaysZ fa fn ex K) (X : K.In h) (G : h.Ns mainGlobals mg) {x : Str} (j : Nat) (hj : fa[j]? = some (.free x)) : mg x = none := He.free_ok X G (c.d.fact j hj)
theorem int_of (c : SaysZ fa fn ex K) (X : K.In h) (G : h.Ns mainGlobals mg) {x : Str} {z : Int} (j : Nat) (hj : fa[j]? = some (.int x z)) : ∃ t, mg x = some (.int z t) := He.int_ok X G (c.d.fact j hj)
end
/-- the law's own promise -/
def spLaw (K : PySem.W.Frag) : Sp := fun vs H Q _ => ∃ (a : Addr) (ns : List Int), vs = [.ref a] ∧ SqL K H a (ns.map V.int) ∧ ns.length ≤ 63 ∧ ∀ H', Q (.bl true) H'
theorem law_end {l : PySem.W.OpenLaw} {k : Nat} {q : Program} {loose : List Str} {XP : (Str → Option Value) → Heap → Prop} {fa : List He.Fa} {fn : List He.DefD} {ex : PySem.W.Frag → Bool} {d : DefRec} {x : Str} {n : Nat}
    (hm : l.most = some 63) (hdf : d.params.defaults = []) (hr : Room k callerA) (hd : d.name = ("law" : Str))
    (F : ∀ (w : World) (mg : Str → Option Value) (h : Heap) (K : PySem.W.Frag), K.In h → h.Ns mainGlobals mg → SaysZ fa fn ex K → ∀ base : Heap, K.In base → base.Ns mainGlobals mg → Cal l.prog w K mg base CX0 k "law" [x] (spLaw K)) :
    PySem.W.WalkO q loose XP (hookZ n fa fn ex).says l.row.toRowW d [] (fun f vs => PySem.call f vs) := by
  refine walk_ofE (CX := CX0) (x := x) hm (by rw [sizeLine_eq]; decide) hdf hr (fun w mg f h Y G hf => ?_) (fun _ _ _ _ z => z)
  obtain ⟨K, KX, c⟩ := Y
  rw [hd] at hf
  obtain ⟨f0, fd0, _, g0, _, _, ba0, oc0, od0, osl0, lk0⟩ := (F w mg h K KX G c h KX G).ex
  have e0 : f0 = f := by
    rw [hf] at g0
    cases g0
    rfl
  subst e0
  refine ⟨K, fd0, spLaw K, KX, fun s u => ba0 s [u] rfl, fun H a ns hl _ hS => ⟨a, ns, rfl, hS, hl, fun _ => rfl⟩, fun base KB GB => ?_⟩
  obtain ⟨f1, fd1, F1, g1, _, _, _, oc1, od1, osl1, lk1⟩ := (F w mg h K KX G c base KB GB).ex
  have e1 : f1 = f0 := by
    rw [hf] at g1
    cases g1
    rfl
  subst e1
  rw [lk0] at lk1
  cases lk1
  exact F1
/-! ## Readings by name -/
abbrev oAdd : R2 := rI0 fun i j => .int (i + j)
abbrev oSub : R2 := rI0 fun i j => .int (i - j)
abbrev oMul : R2 := rI CMul fun i j => .int (i * j)
abbrev oDiv : R2 := rI CDiv fun i j => .int (i / j)
abbrev oMod : R2 := rI (fun _ j => 0 < j) fun i j => .int (i % j)
abbrev oPow : R2 := rI CPow fun i j => .int (i ^ j.toNat)
abbrev oShl : R2 := rI CPow fun i j => .int (i * 2 ^ j.toNat)
abbrev oShr : R2 := rI (fun _ j => 0 ≤ j) fun i j => .int (i / 2 ^ j.toNat)
abbrev oBAnd : R2 := rI0 fun i j => .int (Builtin.bitAnd i j)
abbrev oLt : R2 := rI0 fun i j => .bl (decide (i < j))
abbrev oLe : R2 := rI0 fun i j => .bl (decide (i ≤ j))
abbrev oGt : R2 := rI0 fun i j => .bl (decide (j < i))
abbrev oGe : R2 := rI0 fun i j => .bl (decide (j ≤ i))
abbrev oNeg : V → Hp → VK → Prop := rU fun i => .int (-i)
def kLen (K : PySem.W.Frag) : List V → Hp → VK → Prop := fun xs H Q => ∃ p ys, xs = [.ref p] ∧ (SqL K H p ys ∨ SqT K H p ys) ∧ Q (.int ys.length) H
def kList (K : PySem.W.Frag) : List V → Hp → VK → Prop := fun xs H Q => ∃ p ys, xs = [.ref p] ∧ (SqL K H p ys ∨ SqT K H p ys) ∧ ∀ l, H l = none → Q (.ref l) (upd H l (.lst ys))
def kMin : List V → Hp → VK → Prop := fun xs H Q => ∃ i j, xs = [.int i, .int j] ∧ Q (.int (if j < i then j else i)) H
def kMax : List V → Hp → VK → Prop := fun xs H Q => ∃ i j, xs = [.int i, .int j] ∧ Q (.int (if j > i then j else i)) H
def rInsert : V → List V → Hp → VK → Prop := fun x vs H Q => ∃ (l : Addr) (xs : List V) (i : Int) (y : V), x = .ref l ∧ vs = [.int i, y] ∧ H l = some (.lst xs) ∧ xs.length < sizeLine ∧ 0 ≤ i ∧ i < 2 ^ 63 ∧ Q .non (upd H l (.lst (xs.take i.toNat ++ [y] ++ xs.drop i.toNat)))
abbrev oAddS : R2 := fun x y H Q => ∃ i j, x = .str i ∧ y = .str j ∧ i.length + j.length ≤ sizeLine ∧ Q (.str (i ++ j)) H
abbrev rIsTyB : R2 := fun x y H Q => ∃ a b, x = .ty a ∧ y = .ty b ∧ Q (.bl (decide (a = b))) H
theorem hu64 {k : Nat} {A : Around} (hr : Room k A) : A.units + 64 < cLine := hr.units
section
variable {X : Cx}
theorem cl_len : CallR X (.builtin "len") (kLen X.K) := call_len_seq
theorem cl_list : CallR X (.type "list") (kList X.K) := call_list_of
theorem cl_min (hc : X.calm = true) : CallR X (.builtin "min") kMin := call_min2 hc
theorem cl_max (hc : X.calm = true) : CallR X (.builtin "max") kMax := call_max2 hc
theorem md_insert : MtR X "list.insert" rInsert := mt_insert
theorem md_append : MtR X "list.append" rAppend := mt_append
theorem md_popAt : MtR X "list.pop" rPopAt := mt_popAt
/-- a module's int -/
theorem pe_gi {x : Str} {i : Int} {pos : Pos} (h : ∃ t, X.mg x = some (.int i t)) (hg : Gl X x) (hd : (x == ("__debug__" : Str)) = false := by decide) : PE X (.Name x pos) (tC (.int i)) := by
  obtain ⟨t, h⟩ := h
  exact pe_glob hg h ⟨t, rfl⟩ hd
/-- what is never reached -/
def tOff : TS := fun _ _ _ => False
theorem ps_off {st : Stmt} : PS X st tOff := ⟨fun _ _ _ _ _ _ h => h.elim⟩
end
end Sw

set_option Elab.async false
set_option linter.all false
set_option maxRecDepth 100000
set_option maxHeartbeats 4000000
namespace Sw
open PySem PySem.Spec PyProof.Rows L2
/-! ## (a, b)[::-1] -/
section
variable {prog : Program} {w : World} {A : Around} {E : Value → Shared → Prop} {s : Shared}
theorem applied_back2 {sl : Addr} {tk : Tok} {Q : Int × Int × Nat → Shared → Prop} (hs : s.heap.IsSliceOf sl .none .none (.int (-1) tk)) (h : Q (1, -1, 2) s) :
    wpAny (model prog w) A (Builtin.Slice.sliceApplied (.ref sl) (pure (2 : Int))) Q E s := by
  obtain ⟨os, hos, hcs, hds⟩ := id hs
  unfold Builtin.Slice.sliceApplied Builtin.Slice.sliceFields
  refine wpAny_bind (wpAny_bind ?_)
  refine wpAny_field hos hds (x := .none) rfl ?_
  refine wpAny_bind (wpAny_field hos hds (x := .none) rfl ?_)
  refine wpAny_bind (wpAny_field hos hds (x := .int (-1) tk) rfl ?_)
  refine wpAny_pure ?_
  refine wpAny_bind (HT.slicePart_ (.int (-1) tk) ?_)
  show wpAny _ _ (if ((-1 : Int) == 0) = true then _ else _) _ _ s
  rw [if_neg (by decide)]
  refine wpAny_bind (HT.slicePart_ .none ?_)
  refine wpAny_bind (HT.slicePart_ .none ?_)
  refine wpAny_bind (wpAny_pure ?_)
  exact wpAny_pure h
theorem item_back2 {t sl : Addr} {u v : Value} {tk : Tok} {Q : Value → Shared → Prop} (ht : IsTup s.heap t #[u, v]) (hs : s.heap.IsSliceOf sl .none .none (.int (-1) tk))
    (h : Q (.ref s.heap.objs.size) { s with heap := s.heap.push { cls := .type "tuple", data := .seq #[v, u] } }) : wpAny (model prog w) A (getItem (.ref t) (.ref sl)) Q E s := by
  have two : sizeOk (.seq #[v, u]) := by
    show 2 ≤ sizeLine
    rw [sizeLine_eq]
    decide
  obtain ⟨os, hos, hcs, hds⟩ := id hs
  have kind : s.TypeIs (.ref sl) "slice" := ⟨os, hos, hcs⟩
  unfold getItem
  try with_reducible refine wpAny_holding ?_
  first
    | refine wpAny_bind (wpAny_pure ?_)
    | skip
  refine wpAny_bind (wpAny_sequenceKey ht.typeIs (by decide) ?_)
  refine wpAny_bind (wpAny_callSpecial?_slot (name := Str.ofString "__getitem__") ht.typeIs slot_tuple_getitem ?_)
  refine wpAny_call_entry slot_tuple_getitem ht.typeIs entry_tuple_getitem ?_ (args_tuple_getitem _ _)
  show wpAny _ _ (Builtin.Tuple.tupleItemsOf (.ref t) >>= _) _ _ s
  refine wpAny_bind (tupleItemsOf_ ht ?_)
  refine wpAny_bind (wpAny_typeOf kind ?_)
  rw [if_pos (by decide)]
  refine wpAny_bind (applied_back2 hs ?_)
  show wpAny _ _ (if ((1 : Int) == 0 && (-1 : Int) == 1 && (2 : Nat) == 2) = true then _ else _) _ _ s
  rw [if_neg (by decide)]
  first
    | exact wpAny_bind (m := Builtin.Tuple.tupleExact _) (wpAny_newObj_type (wpAny_pure ⟨_, rfl, wpAny_pure h⟩) two)
    | exact wpAny_bind (m := Builtin.Tuple.tupleExact _) (wpAny_newObj_type (wpAny_bind (wpAny_pure (wpAny_pure ⟨_, rfl, wpAny_pure h⟩))) two)
    | exact wpAny_bind (wpAny_bind (m := Builtin.Tuple.tupleExact _) (wpAny_newObj_type (wpAny_pure (wpAny_pure ⟨_, rfl, wpAny_pure h⟩)) two))
    | exact wpAny_bind (wpAny_bind (m := Builtin.Tuple.tupleExact _) (wpAny_newObj_type (wpAny_pure ⟨_, rfl, wpAny_pure h⟩) two))
end
/-- t[::-1], t a pair -/
def tTurn (K : PySem.W.Frag) (te : TE) : TE := fun σ H Q => te σ H fun x H1 => ∃ (a : Addr) (y z : V), x = .ref a ∧ SqT K H1 a [y, z] ∧ ∀ p, H1 p = none → Q (.ref p) (upd H1 p (.tup [z, y]))
section
variable {X : Cx}
theorem pe_turn {e : Expr} {te : TE} {k : Nat} {p1 p2 p3 pos : Pos} (he : PE X e te) : PE X (.Subscript e (.Slice none none (some (.UnaryOp .USub (.Constant (.int 1) k p1) p2)) p3) pos) (tTurn X.K te) := by
  refine ⟨fun pins s σ H Q I h => ?_⟩
  refine Subscript_ (thn (he.run pins s σ H _ I h) fun v s1 ⟨x, H1, I1, r1, q1⟩ => ?_)
  obtain ⟨a, y, z, rfl, hx, q⟩ := q1
  cases r1
  have back : PO X (some (.UnaryOp .USub (.Constant (.int 1) k p1) p2)) (tPart (tUn oNeg (tC (.int 1)))) := po_some (pe_un un_neg pe_int)
  refine wpAny_Slice ?_
  refine thn (po_none.run pins s1 σ H1 (fun o G => o = none ∧ G = H1) I1 ⟨rfl, rfl⟩) fun vl s2 ⟨l, H2, I2, pl, el, e2⟩ => ?_
  subst el e2
  refine thn (po_none.run pins s2 σ H2 (fun o G => o = none ∧ G = H2) I2 ⟨rfl, rfl⟩) fun vu s3 ⟨u, H3, I3, pu, eu, e3⟩ => ?_
  subst eu e3
  refine thn (back.run pins s3 σ H3 (fun o G => o = some (-1) ∧ G = H3) I3 ⟨1, rfl, -1, rfl, rfl, rfl⟩) fun vs s4 ⟨o, H4, I4, ps, eo, e4⟩ => ?_
  subst eo e4
  cases pl
  cases pu
  cases ps with
  | int i tk =>
    have I5 : Inv X pins σ H4 { s4 with heap := s4.heap.push { cls := .type "slice", data := .fields #[.none, .none, .int (-1) tk] } } :=
      I4.kept (t' := s4.toks) fun b ob q => Heap.get?_push_of_some _ q
    obtain ⟨its, r, ht, hz⟩ := I5.tuple hx
    obtain ⟨y', z', rfl, ry, rz⟩ : ∃ y' z', its = [y', z'] ∧ RelV y y' ∧ RelV z z' := by
      cases r with
      | cons r1 r2 =>
        cases r2 with
        | cons r3 r4 =>
          cases r4
          exact ⟨_, _, rfl, r1, r3⟩
    show wpAny (model X.prog X.w) X.A (subscriptTail e (.Slice none none (some (.UnaryOp .USub (.Constant (.int 1) k p1) p2)) p3) (.ref a) (.ref s4.heap.objs.size)) (EP X pins σ Q) X.xe { s4 with heap := s4.heap.push { cls := .type "slice", data := .fields #[.none, .none, .int (-1) tk] } }
    refine tail_any (ops := [.ref a, .ref s4.heap.objs.size]) ht.typeIs slot_tuple_getitem.lookup ?_ (by with_unfolding_all rfl)
    refine item_back2 ht (Heap.IsSliceOf.new _ .none .none _) ?_
    refine ⟨.ref _, _, I5.laid (t' := s4.toks) (o := .tup [z, y]) (fun b ob q => Heap.get?_push_of_some _ q) (Nat.le_refl _) ?_, rfl, q _ (I5.hok.fresh (Nat.le_refl _))⟩
    refine ⟨by show 2 ≤ sizeLine; rw [sizeLine_eq]; decide, [z', y'], .cons rz (.cons ry .nil), IsTup.new _ _⟩
end
end Sw

set_option Elab.async false
set_option linter.all false
set_option maxRecDepth 100000
set_option maxHeartbeats 4000000
namespace Sw
open PySem PySem.Spec PyProof.Rows L2
/-! ## Two lists, item by item -/
inductive All2 {α β : Type} (R : α → β → Prop) : List α → List β → Prop
  | nil : All2 R [] []
  | cons {a : α} {b : β} {l : List α} {m : List β} : R a b → All2 R l m → All2 R (a :: l) (b :: m)
namespace All2
variable {α β : Type} {R S : α → β → Prop}
theorem length {l : List α} {m : List β} (h : All2 R l m) : l.length = m.length := by
  induction h with
  | nil => rfl
  | cons _ _ ih => rw [List.length_cons, List.length_cons, ih]
theorem imp {l : List α} {m : List β} (h : All2 R l m) (f : ∀ a b, R a b → S a b) : All2 S l m := by
  induction h with
  | nil => exact .nil
  | cons r _ ih => exact .cons (f _ _ r) ih
theorem append {l l' : List α} {m m' : List β} (h : All2 R l m) (h' : All2 R l' m') : All2 R (l ++ l') (m ++ m') := by
  induction h with
  | nil => exact h'
  | cons r _ ih => exact .cons r ih
theorem one {a : α} {b : β} (h : R a b) : All2 R [a] [b] := .cons h .nil
theorem take {l : List α} {m : List β} (h : All2 R l m) : ∀ n, All2 R (l.take n) (m.take n) := by
  induction h with
  | nil => intro n; rw [List.take_nil, List.take_nil]; exact .nil
  | cons r _ ih =>
    intro n
    cases n with
    | zero => exact .nil
    | succ n => exact .cons r (ih n)
theorem drop {l : List α} {m : List β} (h : All2 R l m) : ∀ n, All2 R (l.drop n) (m.drop n) := by
  induction h with
  | nil => intro n; rw [List.drop_nil, List.drop_nil]; exact .nil
  | cons r h ih =>
    intro n
    cases n with
    | zero => exact .cons r h
    | succ n => exact ih n
theorem set {a : α} {b : β} (r : R a b) {l : List α} {m : List β} (h : All2 R l m) : ∀ n, All2 R (l.set n a) (m.set n b) := by
  induction h with
  | nil => intro n; exact .nil
  | cons q h ih =>
    intro n
    cases n with
    | zero => exact .cons r h
    | succ n => exact .cons q (ih n)
theorem erase {l : List α} {m : List β} (h : All2 R l m) : ∀ n, All2 R (l.eraseIdx n) (m.eraseIdx n) := by
  induction h with
  | nil => intro n; exact .nil
  | cons q h ih =>
    intro n
    cases n with
    | zero => exact h
    | succ n => exact .cons q (ih n)
theorem get {l : List α} {m : List β} (h : All2 R l m) : ∀ {i : Nat} {b : β}, m[i]? = some b → ∃ a, l[i]? = some a ∧ R a b := by
  induction h with
  | nil => intro i b e; simp at e
  | cons q h ih =>
    intro i b e
    cases i with
    | zero =>
      rw [List.getElem?_cons_zero] at e
      cases e
      exact ⟨_, rfl, q⟩
    | succ i => exact ih (by simpa using e)
theorem getL {l : List α} {m : List β} (h : All2 R l m) : ∀ {i : Nat} {a : α}, l[i]? = some a → ∃ b, m[i]? = some b ∧ R a b := by
  induction h with
  | nil => intro i b e; simp at e
  | cons q h ih =>
    intro i b e
    cases i with
    | zero =>
      rw [List.getElem?_cons_zero] at e
      cases e
      exact ⟨_, rfl, q⟩
    | succ i => exact ih (by simpa using e)
theorem snoc {l : List α} {m : List β} {a : α} {b : β} (h : All2 R l m) (r : R a b) : All2 R (l ++ [a]) (m ++ [b]) := h.append (.one r)
end All2
/-! ## Webs on the heap -/
abbrev Cmp := Nat × Nat
def V2 (c : Cmp) : List V := [.int (c.1 : Int), .int (c.2 : Int)]
/-- at each address a pair: the comparer -/
abbrev Prs (K : PySem.W.Frag) (H : Hp) (ps : List Addr) (cs : List Cmp) : Prop := All2 (fun p c => SqT K H p (V2 c)) ps cs
def Rfs (ps : List Addr) : List V := ps.map V.ref
def CmpOk (n : Nat) (c : Cmp) : Prop := c.1 < n ∧ c.2 < n ∧ c.1 ≠ c.2
def CmpsOk (n : Nat) (cs : List Cmp) : Prop := ∀ c ∈ cs, CmpOk n c
def WebOk (n : Nat) (cs : List Cmp) : Prop := cs.length ≤ 60 ∧ CmpsOk n cs
theorem same_new {H : Hp} {p : Addr} {o : HO} (h : H p = none) : Same H (upd H p o) := fun b x e => by
  rw [upd_ne (ne_of_none e h)]
  exact e
theorem Same.sqt {K : PySem.W.Frag} {H H' : Hp} {a : Addr} {xs : List V} (e : Same H H') (h : SqT K H a xs) : SqT K H' a xs := by
  rcases h with (h | ⟨o, h⟩) | h
  · exact .inl (.inl (e _ _ h))
  · exact .inl (.inr ⟨o, e _ _ h⟩)
  · exact .inr h
theorem Same.prs {K : PySem.W.Frag} {H H' : Hp} {ps : List Addr} {cs : List Cmp} (e : Same H H') (h : Prs K H ps cs) : Prs K H' ps cs := h.imp fun _ _ r => Same.sqt e r
/-- a list of ours changes: the tuples stay -/
theorem sqt_upd {K : PySem.W.Frag} {H : Hp} {a l : Addr} {xs ys : List V} {o : HO} (hl : H l = some (.lst ys)) (h : SqT K H a xs) : SqT K (upd H l o) a xs := by
  rcases h with (h | ⟨u, h⟩) | h
  · refine .inl (.inl ?_)
    rw [upd_ne (ne_of h hl (by intro z; cases z))]
    exact h
  · refine .inl (.inr ⟨u, ?_⟩)
    rw [upd_ne (ne_of h hl (by intro z; cases z))]
    exact h
  · exact .inr h
theorem prs_upd {K : PySem.W.Frag} {H : Hp} {l : Addr} {ys : List V} {o : HO} {ps : List Addr} {cs : List Cmp} (hl : H l = some (.lst ys)) (h : Prs K H ps cs) : Prs K (upd H l o) ps cs := h.imp fun _ _ r => sqt_upd hl r
/-- what H knew stays where an object that H did not know changes -/
theorem same_mut {H H' : Hp} {p : Addr} {o : HO} (e : Same H H') (h : H p = none) : Same H (upd H' p o) := fun b x q => by
  rw [upd_ne (ne_of_none q h)]
  exact e b x q
theorem small_line {n : Nat} (h : n ≤ 1000000) : n ≤ sizeLine := Nat.le_trans h (by rw [sizeLine_eq]; decide)
theorem small_lt {n : Nat} (h : n < 1000000) : n < sizeLine := Nat.lt_of_lt_of_le h (by rw [sizeLine_eq]; decide)
end Sw

set_option Elab.async false
set_option linter.all false
set_option maxRecDepth 100000
set_option maxHeartbeats 4000000
namespace Sw
open PySem PySem.Spec PyProof.Rows L2
/-! ## Loops and comprehensions over any walk of n turns -/
theorem it_for {J : It} {n : Nat} {g : TG} {tb : TS} {D : Ends} {σ : L2.St} {H : Hp} (Pv : Nat → L2.St → Hp → Prop) (h0 : Pv 0 σ H)
    (go : ∀ i σ H, i < n → Pv i σ H → J.go i H) (stop : ∀ σ H, Pv n σ H → J.stop n H)
    (turn : ∀ i σ H, i < n → Pv i σ H → ∀ x H', J.yld i H x H' → g x σ H' fun σ2 H2 => tb { D with nx := Pv (i + 1), ct := Pv (i + 1), bk := D.nx } σ2 H2)
    (done : ∀ σ H, Pv n σ H → D.nx σ H) :
    ∃ W : Nat → Nat → L2.St → Hp → Prop, (∃ m, W 0 m σ H) ∧ ∀ i m σ H, W i m σ H →
      (J.stop i H ∧ D.nx σ H) ∨ (J.go i H ∧ ∃ N : L2.St → Hp → Prop, (∀ σ' H', N σ' H' → ∃ m', m' < m ∧ W (i + 1) m' σ' H') ∧ ∀ x H', J.yld i H x H' → g x σ H' fun σ2 H2 => tb { D with nx := N, ct := N, bk := D.nx } σ2 H2) := by
  refine ⟨fun i m σ H => m + i = n ∧ Pv i σ H, ⟨n, rfl, h0⟩, fun i m σ H hW => ?_⟩
  obtain ⟨e, p⟩ := hW
  by_cases h : i < n
  · refine .inr ⟨go i σ H h p, Pv (i + 1), fun σ' H' q => ⟨m - 1, by omega, by omega, q⟩, turn i σ H h p⟩
  · have e' : i = n := by omega
    subst e'
    exact .inl ⟨stop σ H p, done σ H p⟩
theorem it_lc {J : It} {n : Nat} {g : TG} {tt : TT} {te : TE} {vs : List Nat} {σ : L2.St} {H1 : Hp} {D : Addr} {Qd : Hp → Prop} (Pv : Nat → Hp → Prop) (h0 : Pv 0 (upd H1 D (.lst [])))
    (go : ∀ i H, i < n → Pv i H → J.go i H) (stop : ∀ H, Pv n H → J.stop n H)
    (turn : ∀ i H, i < n → Pv i H → ∀ x H', J.yld i H x H' → g x (wipe σ vs) H' fun σ2 H2 => wipe σ2 vs = wipe σ vs ∧ tt σ2 H2 fun b H3 =>
      if b = true then te σ2 H3 fun y H4 => ∃ acc, H4 D = some (.lst acc) ∧ acc.length < sizeLine ∧ Pv (i + 1) (upd H4 D (.lst (acc ++ [y]))) else Pv (i + 1) H3)
    (done : ∀ H, Pv n H → Qd H) :
    ∃ W : Nat → Nat → Hp → Prop, (∃ m, W 0 m (upd H1 D (.lst []))) ∧ ∀ i m H, W i m H →
      (J.stop i H ∧ Qd H) ∨ (J.go i H ∧ ∃ Nx : Hp → Prop, (∀ H', Nx H' → ∃ m', m' < m ∧ W (i + 1) m' H') ∧ ∀ x H', J.yld i H x H' → g x (wipe σ vs) H' fun σ2 H2 => wipe σ2 vs = wipe σ vs ∧ tt σ2 H2 fun b H3 =>
        if b = true then te σ2 H3 fun y H4 => ∃ acc, H4 D = some (.lst acc) ∧ acc.length < sizeLine ∧ Nx (upd H4 D (.lst (acc ++ [y]))) else Nx H3) := by
  refine ⟨fun i m H => m + i = n ∧ Pv i H, ⟨n, rfl, h0⟩, fun i m H hW => ?_⟩
  obtain ⟨e, p⟩ := hW
  by_cases h : i < n
  · refine .inr ⟨go i H h p, Pv (i + 1), fun H' q => ⟨m - 1, by omega, by omega, q⟩, turn i H h p⟩
  · have e' : i = n := by omega
    subst e'
    exact .inl ⟨stop H p, done H p⟩
section
variable {K : PySem.W.Frag} {σ : L2.St} {H : Hp} {D : Ends} {tb : TS} {a b : Addr} {xs ys : List V} {j1 j2 : Nat}
theorem get_of {α : Type} {xs : List α} {i : Nat} (h : i < xs.length) : ∃ x, xs[i]? = some x := ⟨xs[i], List.getElem?_eq_getElem h⟩
theorem g2_run {n1 n2 : Nat} {x y : V} {T : Addr} {σ : L2.St} {H : Hp} {Q : L2.St → Hp → Prop} (hT : SqT K H T [x, y]) (q : Q ((σ.set n1 (some x)).set n2 (some y)) H) :
    gTup K 2 (gCons (gName n1) (gCons (gName n2) gNil)) (.ref T) σ H Q := ⟨T, [x, y], rfl, hT, rfl, x, [y], rfl, y, [], rfl, rfl, q⟩
/-- for j1, j2 in enumerate(x), x at a -/
theorem for_enum2 {k : Nat} (hk : σ[k]? = some (some (.ref a))) (hx : SqL K H a xs) (Pv : Nat → L2.St → Hp → Prop) (h0 : Pv 0 σ H) (hl : ∀ i σ H, i ≤ xs.length → Pv i σ H → SqL K H a xs)
    (turn : ∀ i x σ H H', xs[i]? = some x → i < xs.length → Pv i σ H → Same H H' → tb { D with nx := Pv (i + 1), ct := Pv (i + 1), bk := D.nx } ((σ.set j1 (some (.int (i : Int)))).set j2 (some x)) H')
    (done : ∀ σ H, Pv xs.length σ H → D.nx σ H) : tFor (iEnum K (tCons (tVar k) tNil)) (gTup K 2 (gCons (gName j1) (gCons (gName j2) gNil))) tb D σ H := by
  refine ⟨.ref a, hk, a, xs, rfl, hx, it_for (n := xs.length) Pv h0 (fun i σ H hi p => ?_) (fun σ H p => ?_) (fun i σ H hi p v H' y => ?_) done⟩
  · obtain ⟨x, hx⟩ := get_of hi
    exact ⟨xs, x, hl i σ H (Nat.le_of_lt hi) p, hx⟩
  · exact ⟨xs, hl _ σ H (Nat.le_refl _) p, Nat.le_refl _⟩
  · obtain ⟨T, x, rfl, nT, rfl, f⟩ := y
    exact g2_run (.inl (.inl upd_same)) (turn i x σ H _ (f xs (hl i σ H (Nat.le_of_lt hi) p)) hi p (same_new nT))
/-- for j1, j2 in x, x at a a list of pairs -/
theorem for_pairs {k : Nat} {ps : List Addr} (hk : σ[k]? = some (some (.ref a))) (hx : SqL K H a (Rfs ps)) (u : Nat → V × V) (Pv : Nat → L2.St → Hp → Prop) (h0 : Pv 0 σ H)
    (hl : ∀ i σ H, i ≤ ps.length → Pv i σ H → SqL K H a (Rfs ps)) (hp : ∀ i p σ H, ps[i]? = some p → Pv i σ H → SqT K H p [(u i).1, (u i).2])
    (turn : ∀ i p σ H, ps[i]? = some p → Pv i σ H → tb { D with nx := Pv (i + 1), ct := Pv (i + 1), bk := D.nx } ((σ.set j1 (some (u i).1)).set j2 (some (u i).2)) H)
    (done : ∀ σ H, Pv ps.length σ H → D.nx σ H) : tFor (iList K (tVar k)) (gTup K 2 (gCons (gName j1) (gCons (gName j2) gNil))) tb D σ H := by
  have hn : (Rfs ps).length = ps.length := List.length_map ..
  refine ⟨.ref a, hk, a, rfl, ⟨_, hx⟩, it_for (n := ps.length) Pv h0 (fun i σ H hi p => ?_) (fun σ H p => ?_) (fun i σ H hi p v H' y => ?_) done⟩
  · obtain ⟨x, hx⟩ := get_of (xs := Rfs ps) (by rw [hn]; exact hi)
    exact ⟨_, x, hl i σ H (Nat.le_of_lt hi) p, hx⟩
  · exact ⟨_, hl _ σ H (Nat.le_refl _) p, by rw [hn]; exact Nat.le_refl _⟩
  · obtain ⟨rfl, f⟩ := y
    have e := f _ (hl i σ H' (Nat.le_of_lt hi) p)
    unfold Rfs at e
    rw [List.getElem?_map, List.getElem?_eq_getElem hi] at e
    cases e
    have g : ps[i]? = some ps[i] := List.getElem?_eq_getElem hi
    exact g2_run (hp i _ σ H' g p) (turn i _ σ H' g p)
/-- for x in y, y at a -/
theorem for_each {k : Nat} (hk : σ[k]? = some (some (.ref a))) (hx : SqL K H a xs) (Pv : Nat → L2.St → Hp → Prop) (h0 : Pv 0 σ H) (hl : ∀ i σ H, i ≤ xs.length → Pv i σ H → SqL K H a xs)
    (turn : ∀ i x σ H, xs[i]? = some x → i < xs.length → Pv i σ H → tb { D with nx := Pv (i + 1), ct := Pv (i + 1), bk := D.nx } (σ.set j1 (some x)) H)
    (done : ∀ σ H, Pv xs.length σ H → D.nx σ H) : tFor (iList K (tVar k)) (gName j1) tb D σ H := by
  refine ⟨.ref a, hk, a, rfl, ⟨_, hx⟩, it_for (n := xs.length) Pv h0 (fun i σ H hi p => ?_) (fun σ H p => ?_) (fun i σ H hi p v H' y => ?_) done⟩
  · obtain ⟨x, hx⟩ := get_of hi
    exact ⟨_, x, hl i σ H (Nat.le_of_lt hi) p, hx⟩
  · exact ⟨_, hl _ σ H (Nat.le_refl _) p, Nat.le_refl _⟩
  · obtain ⟨rfl, f⟩ := y
    exact turn i v σ H' (f _ (hl i σ H' (Nat.le_of_lt hi) p)) hi p
/-- for i in range(n) -/
theorem for_rng {ta : TA} {n : Nat} (ht : ∀ Q, Q [V.int (n : Int)] H → ta σ H Q) (hn : n ≤ 1000000) (Pv : Nat → L2.St → Hp → Prop) (h0 : Pv 0 σ H)
    (turn : ∀ (i : Nat) σ H, i < n → Pv i σ H → tb { D with nx := Pv (i + 1), ct := Pv (i + 1), bk := D.nx } (σ.set j1 (some (.int (i : Int)))) H)
    (done : ∀ σ H, Pv n σ H → D.nx σ H) : tFor (iRng1 ta) (gName j1) tb D σ H := by
  refine ht _ ⟨(n : Int), rfl, by omega, by omega, it_for (n := n) Pv h0 (fun i σ H hi p => ?_) (fun σ H p => ?_) (fun i σ H hi p v H' y => ?_) done⟩
  · exact hi
  · exact Nat.le_refl _
  · obtain ⟨rfl, rfl⟩ := y
    have e : (0 : Int) + (i : Int) = (i : Int) := Int.zero_add _
    rw [e]
    exact turn i σ H' hi p
end
/-! ## What a comprehension gives, item by item: G of the turn, the list so far, the heap -/
section
variable {K : PySem.W.Frag} {σ : L2.St} {H : Hp} {te : TE} {a b : Addr} {xs ys : List V} {j1 j2 : Nat} {Q : VK}
/-- the list so far stands at D, and G holds of it -/
def So (D : Addr) (G : Nat → List V → Hp → Prop) (i : Nat) (H' : Hp) : Prop := ∃ acc, H' D = some (.lst acc) ∧ G i acc H'
/-- the wish of a turn: v comes, on it goes -/
def GoOn (D : Addr) (G : Nat → List V → Hp → Prop) (i : Nat) : VK := fun v H' => ∃ acc, H' D = some (.lst acc) ∧ acc.length < sizeLine ∧ So D G (i + 1) (upd H' D (.lst (acc ++ [v])))
theorem GoOn.mk {D : Addr} {G : Nat → List V → Hp → Prop} {i : Nat} {v : V} {H' : Hp} {acc : List V} (h : H' D = some (.lst acc)) (hz : acc.length < 1000000) (g : G (i + 1) (acc ++ [v]) (upd H' D (.lst (acc ++ [v])))) : GoOn D G i v H' :=
  ⟨acc, h, small_lt hz, _, upd_same, g⟩
/-- of a turn that tests -/
def Turn (tt : TT) (te : TE) (D : Addr) (G : Nat → List V → Hp → Prop) (i : Nat) (σ : L2.St) (H : Hp) : Prop := tt σ H fun b H3 => if b = true then te σ H3 (GoOn D G i) else So D G (i + 1) H3
theorem Turn.yes {te : TE} {D : Addr} {G : Nat → List V → Hp → Prop} {i : Nat} (h : te σ H (GoOn D G i)) : Turn tYes te D G i σ H := by
  show (if true = true then te σ H (GoOn D G i) else So D G (i + 1) H)
  rw [if_pos rfl]
  exact h
theorem lc_enum2 {tt : TT} {k : Nat} {vs : List Nat} (hk : σ[k]? = some (some (.ref a))) (hx : SqL K H a xs) (hvs : ∀ v w, wipe (((wipe σ vs).set j1 v).set j2 w) vs = wipe σ vs)
    (G : Addr → Nat → List V → Hp → Prop) (h0 : ∀ D, H D = none → G D 0 [] (upd H D (.lst []))) (hl : ∀ D i acc H', H D = none → G D i acc H' → SqL K H' a xs)
    (turn : ∀ D i x acc H' H2, H D = none → xs[i]? = some x → i < xs.length → H' D = some (.lst acc) → G D i acc H' → Same H' H2 → Turn tt te D (G D) i (((wipe σ vs).set j1 (some (.int (i : Int)))).set j2 (some x)) H2)
    (done : ∀ D acc H', H D = none → H' D = some (.lst acc) → G D xs.length acc H' → Q (.ref D) H') :
    tLc (iEnum K (tCons (tVar k) tNil)) (gTup K 2 (gCons (gName j1) (gCons (gName j2) gNil))) tt te vs σ H Q := by
  refine ⟨.ref a, hk, a, xs, rfl, hx, fun D nD => ?_⟩
  refine it_lc (n := xs.length) (So D (G D)) ⟨[], upd_same, h0 D nD⟩ (fun i H' hi p => ?_) (fun H' p => ?_) (fun i H' hi p v H2 y => ?_) (fun H' p => ?_)
  · obtain ⟨acc, _, g⟩ := p
    obtain ⟨x, hx⟩ := get_of hi
    exact ⟨xs, x, hl D _ _ _ nD g, hx⟩
  · obtain ⟨acc, _, g⟩ := p
    exact ⟨xs, hl D _ _ _ nD g, Nat.le_refl _⟩
  · obtain ⟨acc, hD, g⟩ := p
    obtain ⟨T, x, rfl, nT, rfl, f⟩ := y
    exact g2_run (.inl (.inl upd_same)) ⟨hvs _ _, turn D i x acc H' _ nD (f xs (hl D _ _ _ nD g)) hi hD g (same_new (o := .tup [.int (i : Int), x]) nT)⟩
  · obtain ⟨acc, hD, g⟩ := p
    exact done D acc H' nD hD g
theorem lc_pairs {tt : TT} {k : Nat} {vs : List Nat} {ps : List Addr} (u : Nat → V × V) (hk : σ[k]? = some (some (.ref a))) (hx : SqL K H a (Rfs ps)) (hvs : ∀ v w, wipe (((wipe σ vs).set j1 v).set j2 w) vs = wipe σ vs)
    (G : Addr → Nat → List V → Hp → Prop) (h0 : ∀ D, H D = none → G D 0 [] (upd H D (.lst []))) (hl : ∀ D i acc H', H D = none → G D i acc H' → SqL K H' a (Rfs ps))
    (hp : ∀ D i p acc H', H D = none → ps[i]? = some p → H' D = some (.lst acc) → G D i acc H' → SqT K H' p [(u i).1, (u i).2])
    (turn : ∀ D i acc H', H D = none → i < ps.length → H' D = some (.lst acc) → G D i acc H' → Turn tt te D (G D) i (((wipe σ vs).set j1 (some (u i).1)).set j2 (some (u i).2)) H')
    (done : ∀ D acc H', H D = none → H' D = some (.lst acc) → G D ps.length acc H' → Q (.ref D) H') :
    tLc (iList K (tVar k)) (gTup K 2 (gCons (gName j1) (gCons (gName j2) gNil))) tt te vs σ H Q := by
  have hn : (Rfs ps).length = ps.length := List.length_map ..
  refine ⟨.ref a, hk, a, rfl, ⟨_, hx⟩, fun D nD => ?_⟩
  refine it_lc (n := ps.length) (So D (G D)) ⟨[], upd_same, h0 D nD⟩ (fun i H' hi p => ?_) (fun H' p => ?_) (fun i H' hi p v H2 y => ?_) (fun H' p => ?_)
  · obtain ⟨acc, _, g⟩ := p
    obtain ⟨x, hx⟩ := get_of (xs := Rfs ps) (by rw [hn]; exact hi)
    exact ⟨_, x, hl D _ _ _ nD g, hx⟩
  · obtain ⟨acc, _, g⟩ := p
    exact ⟨_, hl D _ _ _ nD g, by rw [hn]; exact Nat.le_refl _⟩
  · obtain ⟨acc, hD, g⟩ := p
    obtain ⟨rfl, f⟩ := y
    have e := f _ (hl D _ _ _ nD g)
    unfold Rfs at e
    rw [List.getElem?_map, List.getElem?_eq_getElem hi] at e
    cases e
    have gp : ps[i]? = some ps[i] := List.getElem?_eq_getElem hi
    exact g2_run (hp D i _ acc H2 nD gp hD g) ⟨hvs _ _, turn D i acc H2 nD hi hD g⟩
  · obtain ⟨acc, hD, g⟩ := p
    exact done D acc H' nD hD g
/-- [.. for j1 in x], x at a -/
theorem lc_each {tt : TT} {k : Nat} {vs : List Nat} (hk : σ[k]? = some (some (.ref a))) (hx : SqL K H a xs) (hvs : ∀ v, wipe ((wipe σ vs).set j1 v) vs = wipe σ vs)
    (G : Addr → Nat → List V → Hp → Prop) (h0 : ∀ D, H D = none → G D 0 [] (upd H D (.lst []))) (hl : ∀ D i acc H', H D = none → G D i acc H' → SqL K H' a xs)
    (turn : ∀ D i x acc H', H D = none → xs[i]? = some x → i < xs.length → H' D = some (.lst acc) → G D i acc H' → Turn tt te D (G D) i ((wipe σ vs).set j1 (some x)) H')
    (done : ∀ D acc H', H D = none → H' D = some (.lst acc) → G D xs.length acc H' → Q (.ref D) H') :
    tLc (iList K (tVar k)) (gName j1) tt te vs σ H Q := by
  refine ⟨.ref a, hk, a, rfl, ⟨_, hx⟩, fun D nD => ?_⟩
  refine it_lc (n := xs.length) (So D (G D)) ⟨[], upd_same, h0 D nD⟩ (fun i H' hi p => ?_) (fun H' p => ?_) (fun i H' hi p v H2 y => ?_) (fun H' p => ?_)
  · obtain ⟨acc, _, g⟩ := p
    obtain ⟨x, hx⟩ := get_of hi
    exact ⟨_, x, hl D _ _ _ nD g, hx⟩
  · obtain ⟨acc, _, g⟩ := p
    exact ⟨_, hl D _ _ _ nD g, Nat.le_refl _⟩
  · obtain ⟨acc, hD, g⟩ := p
    obtain ⟨rfl, f⟩ := y
    exact ⟨hvs _, turn D i v acc H2 nD (f _ (hl D _ _ _ nD g)) hi hD g⟩
  · obtain ⟨acc, hD, g⟩ := p
    exact done D acc H' nD hD g
/-- [.. for j1 in range(lo, hi, c)]: n turns -/
theorem lc_rng3 {tt : TT} {ta : TA} {vs : List Nat} {lo hi c : Int} {n : Nat} (ht : ∀ Q, Q [V.int lo, V.int hi, V.int c] H → ta σ H Q) (hn : RgC lo hi c n) (hvs : ∀ v, wipe ((wipe σ vs).set j1 v) vs = wipe σ vs)
    (G : Addr → Nat → List V → Hp → Prop) (h0 : ∀ D, H D = none → G D 0 [] (upd H D (.lst [])))
    (turn : ∀ (D : Addr) (i : Nat) (acc : List V) (H' : Hp), H D = none → i < n → H' D = some (.lst acc) → G D i acc H' → Turn tt te D (G D) i ((wipe σ vs).set j1 (some (.int (lo + (i : Int) * c)))) H')
    (done : ∀ D acc H', H D = none → H' D = some (.lst acc) → G D n acc H' → Q (.ref D) H') :
    tLc (iRng3 ta) (gName j1) tt te vs σ H Q := by
  refine ht _ ⟨lo, hi, c, n, rfl, hn, fun D nD => ?_⟩
  refine it_lc (n := n) (So D (G D)) ⟨[], upd_same, h0 D nD⟩ (fun i H' hi p => hi) (fun H' p => Nat.le_refl _) (fun i H' hi p v H2 y => ?_) (fun H' p => ?_)
  · obtain ⟨acc, hD, g⟩ := p
    obtain ⟨rfl, rfl⟩ := y
    exact ⟨hvs _, turn D i acc H2 nD hi hD g⟩
  · obtain ⟨acc, hD, g⟩ := p
    exact done D acc H' nD hD g
/-- [.. for j1 in range(n)] -/
theorem lc_rng {tt : TT} {ta : TA} {vs : List Nat} {n : Nat} (ht : ∀ Q, Q [V.int (n : Int)] H → ta σ H Q) (hn : n ≤ 1000000) (hvs : ∀ v, wipe ((wipe σ vs).set j1 v) vs = wipe σ vs)
    (G : Addr → Nat → List V → Hp → Prop) (h0 : ∀ D, H D = none → G D 0 [] (upd H D (.lst [])))
    (turn : ∀ (D : Addr) (i : Nat) (acc : List V) (H' : Hp), H D = none → i < n → H' D = some (.lst acc) → G D i acc H' → Turn tt te D (G D) i ((wipe σ vs).set j1 (some (.int (i : Int)))) H')
    (done : ∀ D acc H', H D = none → H' D = some (.lst acc) → G D n acc H' → Q (.ref D) H') :
    tLc (iRng1 ta) (gName j1) tt te vs σ H Q := by
  refine ht _ ⟨(n : Int), rfl, by omega, by omega, fun D nD => ?_⟩
  refine it_lc (n := n) (So D (G D)) ⟨[], upd_same, h0 D nD⟩ (fun i H' hi p => hi) (fun H' p => Nat.le_refl _) (fun i H' hi p v H2 y => ?_) (fun H' p => ?_)
  · obtain ⟨acc, hD, g⟩ := p
    obtain ⟨rfl, rfl⟩ := y
    have e : (0 : Int) + (i : Int) = (i : Int) := Int.zero_add _
    rw [e]
    exact ⟨hvs _, turn D i acc H2 nD hi hD g⟩
  · obtain ⟨acc, hD, g⟩ := p
    exact done D acc H' nD hD g
end
/-- how many turns range(lo, hi, c) has, c above 0 -/
def upN (lo hi c : Int) : Nat := if lo < hi then ((hi - lo - 1) / c).toNat + 1 else 0
theorem upN_rgc {lo hi c : Int} (hc : 1 ≤ c ∧ c ≤ 1000000) (hl : -1000000 ≤ lo ∧ lo ≤ 1000000) (hh : -1000000 ≤ hi ∧ hi ≤ 1000000) : RgC lo hi c (upN lo hi c) := by
  have size : Builtin.Range.rangeSize lo hi c = ((upN lo hi c : Nat) : Int) := by
    unfold Builtin.Range.rangeSize upN
    rw [if_pos (by omega)]
    split
    · have := Int.ediv_nonneg (a := hi - lo - 1) (b := c) (by omega) (by omega)
      omega
    · rfl
  have le : ((upN lo hi c : Nat) : Int) ≤ 2000001 := by
    unfold upN
    split
    · have h1 := Int.ediv_nonneg (a := hi - lo - 1) (b := c) (by omega) (by omega)
      have h2 := Int.ediv_le_self (a := hi - lo - 1) (b := c) (by omega)
      omega
    · decide
  refine ⟨by omega, by omega, ?_, size⟩
  unfold Builtin.Range.small
  rw [size]
  simp only [Builtin.Range.rangeFitsLong, Bool.and_eq_true, Bool.or_eq_true, decide_eq_true_eq, beq_iff_eq, show c > 0 by omega, if_true]
  omega
theorem upN_lt {lo hi c : Int} (hc : 1 ≤ c) {i : Nat} (h : i < upN lo hi c) : lo + (i : Int) * c < hi := by
  unfold upN at h
  split at h
  · have h1 := Int.ediv_nonneg (a := hi - lo - 1) (b := c) (by omega) (by omega)
    have h2 := Int.ediv_mul_le (hi - lo - 1) (b := c) (by omega)
    have h3 : (i : Int) ≤ (hi - lo - 1) / c := by omega
    have h4 : (i : Int) * c ≤ (hi - lo - 1) / c * c := Int.mul_le_mul_of_nonneg_right h3 (by omega)
    omega
  · omega
theorem upN_le {lo hi c : Int} (hc : 1 ≤ c) : upN lo hi c ≤ (hi - lo).toNat := by
  unfold upN
  split
  · have h1 := Int.ediv_nonneg (a := hi - lo - 1) (b := c) (by omega) (by omega)
    have h2 := Int.ediv_le_self (a := hi - lo - 1) (b := c) (by omega)
    omega
  · omega
theorem scal_ii (i j : Int) : scal (.int i) (.int j) = true := rfl
theorem scal_ss (i j : Str) : scal (.str i) (.str j) = true := rfl
theorem scal_nn : scal .non .non = true := rfl
theorem scal_bb (i j : Bool) : scal (.bl i) (.bl j) = true := rfl
theorem scal_ni (j : Int) : scal .non (.int j) = true := rfl
theorem scal_in (j : Int) : scal (.int j) .non = true := rfl
theorem cutV_to (xs : List V) (k : Nat) : cutV xs none (some (k : Int)) = xs.take k := by
  unfold cutV
  rw [HT.sIx_none, HT.sIx_nat]
  show (xs.drop 0).take (min k xs.length - 0) = _
  rw [List.drop_zero, Nat.sub_zero]
  by_cases h : k ≤ xs.length
  · rw [Nat.min_eq_left h]
  · rw [Nat.min_eq_right (by omega), List.take_of_length_le (Nat.le_refl _), List.take_of_length_le (by omega)]
theorem cutV_from (xs : List V) (k : Nat) : cutV xs (some (k : Int)) none = xs.drop k := by
  unfold cutV
  rw [HT.sIx_none, HT.sIx_nat]
  by_cases h : k ≤ xs.length
  · rw [Nat.min_eq_left h, List.take_of_length_le (by rw [List.length_drop]; exact Nat.le_refl _)]
  · rw [Nat.min_eq_right (by omega), List.drop_eq_nil_of_le (Nat.le_refl _), List.drop_eq_nil_of_le (by omega), List.take_nil]
theorem cut_ints_to (ns : List Int) (k : Nat) : cutV (ns.map V.int) none (some (k : Int)) = (ns.take k).map V.int := by rw [cutV_to, List.map_take]
theorem ints_get {l : List Int} {i : Nat} {x : V} (h : (l.map V.int)[i]? = some x) : ∃ z, x = .int z ∧ l[i]? = some z := by
  rw [List.getElem?_map] at h
  cases e : l[i]? with
  | none => rw [e] at h; cases h
  | some z => rw [e] at h; exact ⟨z, (Option.some.inj h).symm, rfl⟩
theorem rfs_get {l : List Addr} {i : Nat} {x : V} (h : (Rfs l)[i]? = some x) : ∃ z, x = .ref z ∧ l[i]? = some z := by
  unfold Rfs at h
  rw [List.getElem?_map] at h
  cases e : l[i]? with
  | none => rw [e] at h; cases h
  | some z => rw [e] at h; exact ⟨z, (Option.some.inj h).symm, rfl⟩
theorem rfs_len (l : List Addr) : (Rfs l).length = l.length := List.length_map ..
theorem rfs_at {l : List Addr} {i : Nat} {p : Addr} (h : l[i]? = some p) : (Rfs l)[i]? = some (.ref p) := by
  unfold Rfs
  rw [List.getElem?_map, h] <;> rfl
theorem seqIndex_nat {k n : Nat} (h : k < n) : seqIndex? (k : Int) n = some k := by
  have e := atI_nat (α := Nat) (xs := List.range n) (j := k) (v := k) (by rw [List.getElem?_range h])
  obtain ⟨j, h1, h2, h3, _⟩ := atI_get e
  rw [List.length_range] at h1
  rw [List.getElem?_eq_getElem h3] at h2
  rw [h1]
  have := Option.some.inj h2
  rw [List.getElem_range] at this
  rw [this]
theorem mem_set {α : Type} {l : List α} {n : Nat} {a b : α} (h : b ∈ l.set n a) : b ∈ l ∨ b = a := List.mem_or_eq_of_mem_set h
theorem rfs_erase : ∀ (l : List Addr) (n : Nat), (Rfs l).eraseIdx n = Rfs (l.eraseIdx n)
  | [], _ => rfl
  | _ :: _, 0 => rfl
  | a :: l, n + 1 => by
    show V.ref a :: (Rfs l).eraseIdx n = V.ref a :: Rfs (l.eraseIdx n)
    rw [rfs_erase l n]
end Sw

set_option Elab.async false
set_option linter.all false
set_option maxRecDepth 100000
set_option maxHeartbeats 4000000
namespace Sw
open PySem PySem.Spec PyProof.Rows L2
/-! ## Defs that may raise -/
section
variable {P : Program} {w : World} {K : PySem.W.Frag} {mg : Str → Option Value} {base : Heap} {x : Str} {st : Stmt} {N ps : List Str} {k : Nat} {sp : Sp}
theorem Here.calX {r : XK → TS} (F : Here K mg x st) (S : FnScope N ps (defScope st)) (len : ∀ vs H Q E, sp vs H Q E → vs.length = ps.length)
    (bd : ∀ (kV doc pm : Value) (an : Option Addr) (cdv ct : Value) (us : List Value), us.length = ps.length →
      bindArgs (PySem.W.fnOf x x (defArgs st) (defBody st) (defScope st) .none kV doc pm an cdv ct) ⟨us, []⟩ = pure (ps.zip us))
    (dv : ∀ (f : Addr) (cdv : Value) (A : Around) (outer : List Env) (s : Shared) (H : Hp) (E : XK), RmIn k A x st s f cdv → PSs (BX (L2.CX P w) P w K mg base N x st f cdv A outer s H E) (defBody st) (r E))
    (rd : ∀ (vs : List V) (H : Hp) (Q : VK) (E : XK), sp vs H Q E → r E { nx := fun _ H' => Q .non H', rt := Q } (L2.start N vs) H) :
    Cal P w K mg base (L2.CX P w) (k + 1) x ps sp := by
  obtain ⟨f, fd, D, g⟩ := F.ex
  refine ⟨f, fd, ?_, g, D.kp, D.bindsN bd, fun s us hl => D.bindsA bd s us hl, ?_⟩
  · exact D.ok S len fun cdv A outer s H vs Q E hr h => ⟨r E, dv f cdv A outer s H E hr, rd vs H Q E h⟩
  · obtain ⟨oc, od, _, _, _, _, _, _, _, osl, _, lk, _⟩ := D.ex
    exact ⟨oc, od, osl, lk⟩
/-- the same, where nothing is raised -/
def quiet (sp : Sp) : Sp := fun vs H Q _ => sp vs H Q E0
theorem Cal.quiet (c : Cal P w K mg base (L2.CX P w) k x ps sp) : Cal P w K mg base CX0 k x ps (quiet sp) := by
  obtain ⟨f, fd, F, g, kp, b, ba, lk⟩ := c.ex
  refine ⟨f, fd, ⟨fun vs H Q E h => F.len vs H Q E0 h, fun A outer s H args us vs Q E hr he hb rv h => ?_⟩, g, kp, b, ba, lk⟩
  refine codeAny_mono (F.run A outer s H args us vs Q E0 hr he hb rv h) fun r s' q => ?_
  cases r with
  | ok fl => cases fl <;> exact q
  | error e =>
    obtain ⟨_, _, _, _, _, _, _, _, _, _, _, _, z⟩ := q
    exact z.elim
end
/-- f(e, ..) that may raise, the wish about that W -/
def tCalW (sp : Sp) (W : WX) (t : TA) : TE := fun σ H Q => t σ H fun vs H1 => sp vs H1 Q fun cls d H' => W cls d σ H'
section
variable {X : Cx} {k : Nat} {x : Str} {ps : List Str} {sp : Sp} {t : TA} {e : Expr} {es : List Expr} {p pos : Pos} {W : WX}
theorem pe_calW (c : Cal X.prog X.w X.K X.mg X.base (L2.CX X.prog X.w) k x ps sp) (hr : Room k X.A) (tk : Takes X W) (hg : Gl X x) (ha : PA X (e :: es) t)
    (hdb : (x == ("__debug__" : Str)) = false := by decide) (he : starEach (e :: es) X.env = (false, eval e X.env) :: starEach es X.env := by rfl)
    (hpl : (backTo pos (starEach es X.env)).any (·.1) = false := by rfl) : PE X (.Call (.Name x p) (e :: es) [] pos) (tCalW sp W t) := by
  obtain ⟨f, fd, F, gm, kp, b, _⟩ := c.ex
  exact pe_callS F hr hg gm kp b (fun σ => passAt tk σ) ha hdb he hpl
/-! ## Raising -/
/-- the class x of the text, without an __init__ of its own, over ValueError -/
structure ExK (K : PySem.W.Frag) (mg : Str → Option Value) (x : Str) : Prop where
  g : mg x = some (.ref (He.ga K x))
  m : PySem.W.excIn K (He.ga K x) He.veBase "ValueError.__new__" = true ∧ PySem.W.keepIn K (.ref (He.ga K x)) = true ∧ PySem.W.subIn K (.ref (He.ga K x)) (.type "BaseException") = some true ∧ PySem.W.typeIn K (.ref (He.ga K x)) = some (.type "type")
/-- raise x(e, ..) -/
def tRzA (C : Addr) (W : WX) (t : TA) : TS := fun _ σ H => t σ H fun vs H1 => vs.length ≤ sizeLine ∧ W (.ref C) none σ H1
theorem ps_rzA {pos2 : Pos} (hc : X.calm = true) (tk : Takes X W) (m : ExK X.K X.mg x) (hg : Gl X x) (ha : PA X (e :: es) t)
    (hdb : (x == ("__debug__" : Str)) = false := by decide)
    (he : starEach (e :: es) X.env = (false, eval e X.env) :: starEach es X.env := by rfl) (hpl : (backTo pos (starEach es X.env)).any (·.1) = false := by rfl) :
    PS X (.Raise (some (.Call (.Name x p) (e :: es) [] pos)) none pos2) (tRzA (He.ga X.K x) W t) :=
  ps_raise hc tk (pmk_ownA PySem.F.excBase_ValueError m.m.1 m.g m.m.2.1 (raises_own m.m.2.2.1 m.m.2.2.2) hg ha hdb he hpl)
/-! ## {x} of a whole number or None -/
def tFmtN (te : TE) : TE := fun σ H Q => te σ H fun x H1 => (x = .non ∧ Q (.str "None") H1) ∨ ∃ i : Int, x = .int i ∧ i.natAbs.log2 < 1920 ∧ Q (.str (toString i)) H1
theorem pe_fmtN {te : TE} (he : PE X e te) : PE X (.FormattedValue e (-1) none pos) (tFmtN te) := by
  refine ⟨fun pins s σ H Q I h => ?_⟩
  refine wpAny_FormattedValue_plain (thn (he.run pins s σ H _ I h) fun v s1 hv => ?_)
  obtain ⟨y, H1, I1, r1, q⟩ := hv
  rcases q with ⟨rfl, q⟩ | ⟨i, rfl, hz, q⟩
  · cases r1
    exact wpAny_formatField_none ⟨.str "None", H1, (I1.tok _).tok _, ⟨_, rfl⟩, q⟩
  · obtain ⟨tk, rfl⟩ := r1
    exact wpAny_formatField_int hz ⟨.str (toString i), H1, I1.tok _, ⟨_, rfl⟩, q⟩
/-! ## W.__init__(self, ..), W an own class that has ValueError's -/
structure InK (K : PySem.W.Frag) (mg : Str → Option Value) (x : Str) : Prop where
  g : mg x = some (.ref (He.ga K x))
  sp : PySem.W.specialIn K (.ref (He.ga K x)) "__getattribute__" = some (some (.builtin "type.__getattribute__"))
  rd : PySem.W.readsIn K (He.ga K x) (.type "type") = true
  ty : PySem.W.typeIn K (.ref (He.ga K x)) = some (.type "type")
  fc : PySem.W.findCls K (.ref (He.ga K x)) (.type "type") "__init__" = some (.val (.builtin "ValueError.__init__"))
theorem pe_winit {pl : Sem Bool} {p1 p2 : Pos} (m : InK X.K X.mg x) (hg : Gl X x) (ha : PA X (e :: es) t)
    (hc : eval (.Call (.Attribute (.Name x p1) "__init__" p2) (e :: es) [] pos) X.env = (do
      let ov ← eval (.Name x p1) X.env
      standAt p2.atName
      let (f, first) ← holding [ov] (getMethod ov "__init__" pl)
      callWith pos f first (backTo pos (starEach (e :: es) X.env)) (backToKw pos (keywordEach [] X.env))) := by rfl)
    (hdb : (x == ("__debug__" : Str)) = false := by decide)
    (he : starEach (e :: es) X.env = (false, eval e X.env) :: starEach es X.env := by rfl) (hpl : (backTo pos (starEach es X.env)).any (·.1) = false := by rfl) :
    PE X (.Call (.Attribute (.Name x p1) "__init__" p2) (e :: es) [] pos) (tVeI X.K t) := by
  refine ⟨fun pins s σ H Q I h => ?_⟩
  refine PySem.W.methodCall_KW (ld_glob I hg m.g ?_ hdb) hc
  obtain ⟨mm, fr⟩ := I.fr
  refine PySem.W.method_of_cls fr I.ok.mod.kin m.sp ?_
  refine PySem.W.cls_val fr I.ok.mod.kin m.ty m.rd m.fc (by decide +kernel) ?_
  show wpAny _ _ (callWith pos (Value.builtin "ValueError.__init__") [] (backTo pos (starEach (e :: es) X.env)) []) _ _ _
  refine callWith_method1 (thn (ha.run pos pins _ σ H _ (I.tok _) h) fun us s1 hv => ?_) he hpl
  obtain ⟨vs, H1, I1, r1, a, C, ws, rfl, hl, T, ea, q⟩ := hv
  cases r1 with
  | @cons _ u0 _ ur ra rw' =>
    obtain rfl : u0 = Value.ref a := ra
    have small : ur.length ≤ sizeLine := by
      rw [← Paired.length rw']
      exact small_line (by omega)
    exact oinit_ok T I1 ea small fun s' J => ⟨.non, H1, J, rfl, q⟩
end
end Sw

set_option Elab.async false
set_option linter.all false
set_option maxRecDepth 100000
set_option maxHeartbeats 4000000
namespace Sw
open PySem PySem.Spec PyProof.Rows L2
/-! ## What the head is asked of the classes of errors -/
def oexB (K : PySem.W.Frag) (C : Addr) : Bool :=
  (match K.lookup C with
  | some ⟨.type "type", _, .cls cd, sl⟩ => (match cd.mro, sl.toList with
    | .ref C' :: bm, [_, _, _, _, some (.builtin n), _] => decide (C' = C) && (decide (n = "ValueError.__new__") && (!cd.hasDel && (cd.hasDict && PySem.HandSPX.refsVE bm)))
    | _, _ => false)
  | _ => false) && (He.eqO (PySem.W.findIn K (.ref C) "__setattr__") (some (some (.builtin "object.__setattr__"))) && (decide (PySem.W.subIn K (.ref C) (.type "BaseException") = some true) &&
    (decide (PySem.W.typeIn K (.ref C) = some (.type "type")) && PySem.W.keepIn K (.ref C))))
theorem oexB_ok {K : PySem.W.Frag} {C : Addr} (h : oexB K C = true) : OexC K C := by
  unfold oexB at h
  obtain ⟨h1, h⟩ := He.ba h
  obtain ⟨h2, h⟩ := He.ba h
  obtain ⟨h3, h⟩ := He.ba h
  obtain ⟨h4, h5⟩ := He.ba h
  refine ⟨?_, He.eqO_ok h2, of_decide_eq_true h3, of_decide_eq_true h4, h5⟩
  split at h1
  · rename_i dd cd sl ho
    split at h1
    · rename_i C' bm k0 k1 k2 k3 n k5 hm hs
      obtain ⟨q1, h1⟩ := He.ba h1
      obtain ⟨q2, h1⟩ := He.ba h1
      obtain ⟨q3, h1⟩ := He.ba h1
      obtain ⟨q4, q5⟩ := He.ba h1
      have q1 := of_decide_eq_true q1
      have q2 := of_decide_eq_true q2
      try subst q1
      try subst q2
      obtain ⟨nm, bs, mro, ns, qn, hd, sn, sub, ab, col, del⟩ := cd
      dsimp only at hm q3 q4
      have q3 : del = false := by simpa using q3
      subst hm q3 q4
      have hsl : sl = #[k0, k1, k2, k3, some (.builtin "ValueError.__new__"), k5] := by
        obtain ⟨l⟩ := sl
        simp only at hs
        rw [hs]
      subst hsl
      exact ⟨nm, qn, ns, bs, bm, sn, sub, ab, col, dd, k0, k1, k2, k3, k5, ho, q5⟩
    · cases h1
  · cases h1
def winB (K : PySem.W.Frag) (x : Str) : Bool := He.eqO (PySem.W.nsIn K mainGlobals x) (some (some (.ref (He.ga K x)))) && (He.eqO (PySem.W.specialIn K (.ref (He.ga K x)) "__getattribute__") (some (some (.builtin "type.__getattribute__"))) &&
  (PySem.W.readsIn K (He.ga K x) (.type "type") && (decide (PySem.W.typeIn K (.ref (He.ga K x)) = some (.type "type")) && (match PySem.W.findCls K (.ref (He.ga K x)) (.type "type") "__init__" with
    | some (.val v) => decide (v = .builtin "ValueError.__init__")
    | _ => false))))
theorem winB_ok {K : PySem.W.Frag} {h : Heap} {mg : Str → Option Value} {x : Str} (X : K.In h) (G : h.Ns mainGlobals mg) (e : winB K x = true) : InK K mg x := by
  unfold winB at e
  obtain ⟨h1, e⟩ := He.ba e
  obtain ⟨h2, e⟩ := He.ba e
  obtain ⟨h3, e⟩ := He.ba e
  obtain ⟨h4, h5⟩ := He.ba e
  refine ⟨PySem.W.mg_of X G (He.eqO_ok h1), He.eqO_ok h2, h3, of_decide_eq_true h4, ?_⟩
  split at h5
  · rename_i v hv
    have := of_decide_eq_true h5
    subst this
    exact hv
  · cases h5
/-- an error class with an __init__ of its own (x.__init__ keeps one field f) -/
structure OwK (K : PySem.W.Frag) (mg : Str → Option Value) (x f : Str) : Prop where
  g : mg x = some (.ref (He.ga K x))
  o : OexC K (He.ga K x)
  i : PySem.W.findIn K (.ref (He.ga K x)) "__init__" = some (some (.ref (He.ma K (He.ga K x) "__init__")))
  t : PySem.W.typeIn K (.ref (He.ma K (He.ga K x) "__init__")) = some (.type "function")
  n : PySem.W.findIn K (.ref (He.ga K x)) f = some none
def owB (K : PySem.W.Frag) (x f : Str) : Bool := He.eqO (PySem.W.nsIn K mainGlobals x) (some (some (.ref (He.ga K x)))) && (oexB K (He.ga K x) && (He.eqO (PySem.W.findIn K (.ref (He.ga K x)) "__init__") (some (some (.ref (He.ma K (He.ga K x) "__init__")))) &&
  (decide (PySem.W.typeIn K (.ref (He.ma K (He.ga K x) "__init__")) = some (.type "function")) && He.eqO (PySem.W.findIn K (.ref (He.ga K x)) f) (some none))))
theorem owB_ok {K : PySem.W.Frag} {h : Heap} {mg : Str → Option Value} {x f : Str} (X : K.In h) (G : h.Ns mainGlobals mg) (e : owB K x f = true) : OwK K mg x f := by
  unfold owB at e
  obtain ⟨h1, e⟩ := He.ba e
  obtain ⟨h2, e⟩ := He.ba e
  obtain ⟨h3, e⟩ := He.ba e
  obtain ⟨h4, h5⟩ := He.ba e
  exact ⟨PySem.W.mg_of X G (He.eqO_ok h1), oexB_ok h2, He.eqO_ok h3, of_decide_eq_true h4, He.eqO_ok h5⟩
section
variable {fa : List He.Fa} {fn : List He.DefD} {ex : PySem.W.Frag → Bool} {h : Heap} {K : PySem.W.Frag} {mg : Str → Option Value}
theorem exk_of (c : SaysZ fa fn ex K) (X : K.In h) (G : h.Ns mainGlobals mg) {x : Str} (i j : Nat) (hi : fa[i]? = some (.glo x)) (hj : fa[j]? = some (.exc x)) : ExK K mg x :=
  ⟨He.glo_ok X G (c.d.fact i hi), He.exc_ok (c.d.fact j hj)⟩
theorem exm_of' (c : SaysZ fa fn ex K) {x y : Str} {b : Bool} (j : Nat) (hj : fa[j]? = some (.exm x y b)) : PySem.W.exmOne K (.ref (He.ga K x)) (.ref (He.ga K y)) = some b := He.exm_ok (c.d.fact j hj)
end
/-! ## raise x(e), x with such an __init__: the error's own dict is new and holds the field -/
def spInit (K : PySem.W.Frag) (C : Addr) (f : Str) : Sp := fun vs H Q _ => ∃ (a : Addr) (v : V), vs = [.ref a, v] ∧ H a = some (exo a C none) ∧ (v = .non ∨ ∃ i : Int, v = .int i ∧ 0 ≤ i ∧ i ≤ 1000) ∧
  ∀ dx, H dx = none → dx ≠ a → Q .non (upd (upd H dx (exd dx [(f, v)])) a (exo a C (some dx)))
/-- the error x of that field -/
def EOwn (K : PySem.W.Frag) (x f : Str) (v : V) (σ : L2.St) (H : Hp) (W : WX) : Prop := ∀ d, H d = none → W (.ref (He.ga K x)) (some d) σ (upd H d (.xd [(f, v)]))
/-- what is wished of the field's value ahead of the raise -/
def OwnWish (K : PySem.W.Frag) (x f : Str) (W : WX) (σ : L2.St) : VK := fun v H1 => [v].length ≤ 1000 ∧ ∀ a, H1 a = none → spInit K (He.ga K x) f (.ref a :: ([v] ++ [])) (upd H1 a (exo a (He.ga K x) none))
  (fun u H2 => u = .non ∧ ∃ (d : Addr) (fs : List (Str × V)), H2 a = some (exo a (He.ga K x) (some d)) ∧ H2 d = some (exd d fs) ∧ H1 d = none ∧ W (.ref (He.ga K x)) (some d) σ (upd (L2.del H2 a) d (.xd fs))) (fun _ _ _ => False)
theorem del_upd {H1 : Hp} {a dx : Addr} {o u w : HO} (ha : H1 a = none) (ne : dx ≠ a) : upd (L2.del (upd (upd (upd H1 a o) dx u) a w) a) dx u = upd H1 dx u := by
  funext b
  by_cases hb : b = dx
  · subst hb
    rw [upd_same, upd_same]
  · rw [upd_ne hb, upd_ne hb]
    by_cases h2 : b = a
    · subst h2
      rw [del_same, ha]
    · rw [del_ne h2, upd_ne h2, upd_ne hb, upd_ne h2]
theorem OwnWish.mk {K : PySem.W.Frag} {x f : Str} {W : WX} {σ : L2.St} {v : V} {H1 : Hp} (hv : v = .non ∨ ∃ i : Int, v = .int i ∧ 0 ≤ i ∧ i ≤ 1000) (h : EOwn K x f v σ H1 W) : OwnWish K x f W σ v H1 := by
  refine ⟨by show 1 ≤ 1000; decide, fun a na => ⟨a, v, rfl, upd_same, hv, fun dx ndx ne => ⟨rfl, dx, [(f, v)], upd_same, ?_, ?_, ?_⟩⟩⟩
  · rw [upd_ne ne, upd_same]
  · rw [upd_ne ne] at ndx
    exact ndx
  · have nd : H1 dx = none := by
      rw [upd_ne ne] at ndx
      exact ndx
    have e : upd (L2.del (upd (upd (upd H1 a (exo a (He.ga K x) none)) dx (exd dx [(f, v)])) a (exo a (He.ga K x) (some dx))) a) dx (.xd [(f, v)]) = upd H1 dx (.xd [(f, v)]) := by
      funext b
      by_cases hb : b = dx
      · subst hb
        rw [upd_same, upd_same]
      · rw [upd_ne hb, upd_ne hb]
        by_cases h2 : b = a
        · subst h2
          rw [del_same, na]
        · rw [del_ne h2, upd_ne h2, upd_ne hb, upd_ne h2]
    rw [e]
    exact h dx nd
def tRzO (K : PySem.W.Frag) (x f : Str) (W : WX) (te : TE) : TS := fun _ σ H => te σ H (OwnWish K x f W σ)
section
variable {X : Cx} {k : Nat} {x f : Str} {te : TE} {e : Expr} {p pos : Pos} {W : WX} {fdI : FuncData} {qs : List Str}
theorem ps_rzO {pos2 : Pos} (hc : X.calm = true) (tk : Takes X W) (m : OwK X.K X.mg x f) (F : FnOk X.prog X.w X.K X.mg X.base CX0 k (He.ma X.K (He.ga X.K x) "__init__") fdI qs (spInit X.K (He.ga X.K x) f)) (hb : Binds X.K fdI qs [])
    (hr : Room (k + 1) X.A) (hg : Gl X x) (ha : PA X [e] (tCons te tNil)) (hdb : (x == ("__debug__" : Str)) = false := by decide)
    (hs : starEach [e] X.env = (false, eval e X.env) :: starEach [] X.env := by rfl) (hpl : (backTo pos (starEach [] X.env)).any (·.1) = false := by rfl) :
    PS X (.Raise (some (.Call (.Name x p) [e] [] pos)) none pos2) (tRzO X.K x f W te) :=
  ps_raise (pos := pos2) hc tk (pmk_oex (X := X) (dvs := []) (ds := []) m.o m.i m.t F hr hb .nil pass0 hg m.g ha hdb hs hpl)
end
end Sw

set_option Elab.async false
set_option linter.all false
set_option maxRecDepth 100000
set_option maxHeartbeats 4000000
namespace Sw
open PySem PySem.Spec PyProof.Rows L2
/-! ## A caught error: come down to the ground -/
theorem fly_keep {g B g' : Heap} {l : List Env} {a : Addr} {Z : Obj → Prop} (f : HandSPX.FlyingZ B l a Z g) (k : ∀ b o, g.get? b = some o → g'.get? b = some o) : HandSPX.FlyingZ B l a Z g' := by
  obtain ⟨q1, q2, q3, ob, ws, T, oT, tr, y1, y2, y3, y4, y5, y6, y7, y8, y9⟩ := f
  exact ⟨fun b o e => k b o (q1 b o e), q2, q3.of_keeps fun b o e _ => ⟨o, k b o e, rfl⟩, ob, ws, T, oT, tr, k _ _ y1, y2, y3, y4, y5, y6, k _ _ y7, y8, y9⟩
/-- what holds of the error at a, once it is noted -/
structure Down (X : Cx) (pins : List (Addr × Obj)) (σ : L2.St) (H : Hp) (a : Addr) (Z : Obj → Prop) (s : Shared) : Prop where
  at_ : ∃ ob ws, s.heap.get? a = some ob ∧ Z ob ∧ ob.data = .fields ws
  inv : Inv X pins σ H s
  nl : a ≠ X.env.locals
  nf : a ∉ X.fs
  n0 : X.s_0.heap.get? a = none
  np : ∀ p ∈ X.pn ++ pins, p.1 ≠ a
section
variable {X : Cx} {pins : List (Addr × Obj)} {σ : L2.St} {H : Hp} {a : Addr} {Z : Obj → Prop}
theorem down_of {B g : Heap} {r t : Shared} (hx : X.ex = []) (hf : X.env.frame = some X.env.locals) (hs : X.stack = X.env :: X.outer) (I : Inv X pins σ H r) (nb : ∀ b o, r.heap.get? b = some o → b ∉ frs X.stack → B.get? b = some o)
    (up : r.heap.UpToSlots g) (eo : t.os = r.os) (eg : AllBare t.gens) (fl : HandSPX.FlyingZ B (X.env :: X.outer) a Z g) : Down X pins σ H a Z { t with heap := g } := by
  obtain ⟨ob, ws, e1, e2, e3⟩ := fl.there
  have out : a ∉ frs (X.env :: X.outer) := fun hm => by
    obtain ⟨_, o, e, nd⟩ := (show g.FunFrames B (X.env :: X.outer) from fl.2.2.1).mem hm
    rw [e1] at e
    cases e
    exact nd _ e3
  have gone : ∀ o, r.heap.get? a = some o → False := fun o e => by
    have z := nb a o e (by rw [hs]; exact out)
    rw [fl.2.1] at z
    cases z
  refine ⟨⟨ob, ws, e1, e2, e3⟩, I.landed (s' := { t with heap := g }) nb fl.1 up eo eg, fun z => out ?_, fun z => out ?_, ?_, fun p hp z => ?_⟩
  · exact List.mem_filterMap.mpr ⟨X.env, List.mem_cons_self, by rw [hf, z]⟩
  · obtain ⟨e, he, q⟩ := List.mem_filterMap.mp z
    exact List.mem_filterMap.mpr ⟨e, List.mem_cons_of_mem _ he, q⟩
  · cases e : X.s_0.heap.get? a with
    | none => rfl
    | some o =>
      obtain ⟨o', q⟩ := I.base.there a o e (by rw [hx]; exact fun z => nomatch z)
      exact (gone o' q).elim
  · exact gone p.2 (by rw [← z]; exact (I.pin p hp).1)
/-- an error that stands at a: its class, its dict -/
def ErO (cls : Value) (d : Option Addr) (a : Addr) : HO := .ext fun g => ∃ (ob : Obj) (ws : Array Value), g.get? a = some ob ∧ Zc cls d ob ∧ ob.data = .fields ws
theorem track {s : Shared} {cls : Value} {d : Option Addr} {ob : Obj} {ws : Array Value} (I : Inv X pins σ H s) (e : s.heap.get? a = some ob) (z : Zc cls d ob) (ed : ob.data = .fields ws) (na : H a = none) (nl : a ≠ X.env.locals) (n0 : X.s_0.heap.get? a = none)
    (np : ∀ p ∈ X.pn ++ pins, p.1 ≠ a) : Inv X pins σ (upd H a (ErO cls d a)) s := by
  have ne0 : ∀ b o, X.s_0.heap.get? b = some o → b ≠ a := fun b o q y => by
    rw [y, n0] at q
    cases q
  have neH : ∀ b u, H b = some u → b ≠ a := fun b u q => ne_of_none q na
  refine ⟨I.ok, I.os, I.bare, ⟨I.base.keep, I.base.slot, fun b o q n x => ?_, I.base.there, fun b xs q => ?_, fun b o u q => ?_, fun b ps q => ?_⟩, I.loc, I.cell, ?_, fun x c q => ?_, fun p hp => ?_, ?_, I.len⟩
  · rw [upd_ne (ne0 b o q)]
    exact I.base.free b o q n x
  · have y := I.base.tups b xs q
    rw [upd_ne (neH b _ y)]
    exact y
  · have y := I.base.frzs b o u q
    rw [upd_ne (neH b _ y)]
    exact y
  · obtain ⟨m, y⟩ := I.base.tbls b ps q
    exact ⟨m, by rw [upd_ne (neH b _ y)]; exact y⟩
  · rw [upd_ne nl.symm]
    exact I.free
  · obtain ⟨v, o, ho, hd⟩ := I.cell x c q
    have : c ≠ a := fun y => by
      rw [y, e] at ho
      cases ho
      rw [ed] at hd
      cases hd
    rw [upd_ne this]
    exact I.freeC x c q
  · obtain ⟨y1, y2, y3⟩ := I.pin p hp
    exact ⟨y1, by rw [upd_ne (np p hp)]; exact y2, y3⟩
  · exact I.hok.laidN (fun _ _ q => q) na ⟨⟨ob, ws, e, z, ed⟩, ⟨ob, e⟩, fun _ _ ⟨o, v, q, r⟩ k => ⟨o, v, k o q, r⟩⟩
end
/-! ## try: .. except x as n: .., the error kept behind it -/
/-- what such a try wishes of an error of its body: x names it, the suite goes on, then it stands -/
def wKeep (K : PySem.W.Frag) (c : Value) (i : Nat) (ts : Addr → Value → Option Addr → TS) (D : Ends) : WX := fun cls d σ H => PySem.W.exmOne K cls c = some true ∧ ∀ a, H a = none →
  ts a cls d { nx := fun σ' H' => D.nx (σ'.set i none) (upd H' a (ErO cls d a)), rt := fun v H' => D.rt v (upd H' a (ErO cls d a)), bk := fun σ' H' => D.bk (σ'.set i none) (upd H' a (ErO cls d a)), ct := fun σ' H' => D.ct (σ'.set i none) (upd H' a (ErO cls d a)) } (σ.set i (some (.ref a))) H
section
variable {X : Cx} {x n : Str} {c : Value} {i : Nat} {body suite : List Stmt} {b₀ : Stmt} {np pos pos' : Pos} {tb : WX → TS} {ts : Addr → Value → Option Addr → TS}
theorem ps_try_keep (hs : X.stack = X.env :: X.outer) (hf : X.env.frame = some X.env.locals) (hx : X.ex = []) (hN : X.N.Nodup) (hi : X.N[i]? = some n) (hln : X.env.kindOf n = some .local) (hc : Names X x c)
    (hb : ∀ (W : WX) (pn : List (Addr × Obj)) (xe : Value → Shared → Prop), L2.Takes (X.tr pn xe) W → PassesOwn (model X.prog X.w) X.A X.env xe → PSs (X.tr pn xe) body (tb W))
    (hsu : ∀ (a : Addr) (oe : Obj) (cls : Value) (d : Option Addr) (pn : List (Addr × Obj)), Zc cls d oe → (∃ vs, oe.data = .fields vs) → PSs (X.suite a ((a, oe) :: pn)) (b₀ :: suite) (ts a cls d)) :
    PS X (.Try body [.ExceptHandler (some (.Name x np)) (some n) (b₀ :: suite) pos'] [] [] pos) (fun D σ H => tb (wKeep X.K c i ts D) D σ H) := by
  refine ⟨fun pins s σ H D I h => wpAny_Try_except ?_⟩
  have ok := I.ok
  have frm : X.A.frames = some (X.env :: X.outer) := hs ▸ ok.frames
  refine wpAny_mono ((hb (wKeep X.K c i ts D) (X.pn ++ pins) (fun e t => wpAny (model X.prog X.w) X.A (noteFrame e X.env) (fun _ t2 => wpAny (model X.prog X.w) X.A (setFlight e none) (fun _ t3 =>
    wpAny (model X.prog X.w) X.A (handleBy e X.env [.ExceptHandler (some (.Name x np)) (some n) (b₀ :: suite) pos']) (SP X pins D) X.xe t3) X.xe t2) X.xe t) (fun u t xx => ?_) PassesOwn.looking).run [] s σ H D (I.toTry _) h) (fun f t hsp => ?_) (fun _ _ z => z)
  · obtain ⟨a, B, r, pr, σ1, H1, cls, d, rfl, I1, nb, up, sky, na, eo, eg, hm, hgo⟩ := xx
    have I2 : Inv X pins σ1 H1 r := I1.ofTry ok
    show wpAny (model X.prog X.w) X.A (noteFrame (.ref a) X.env) _ _ _
    refine L2.Sky.land (Z := Zc cls d) (B := B) (L := X.env.locals) Zc.steady frm hf (by rw [← hs]; exact sky) fun g3 fl3 up3 => ?_
    have d3 := down_of (t := t) hx hf hs I2 nb (up.trans up3) eo eg fl3
    obtain ⟨ob3, ws3, e3, z3, dt3⟩ := d3.at_
    have S3 := d3.inv.suite e3 dt3 na d3.nl d3.nf
    refine wpAny_handleBy_cons (codeAny_handlers_test ?_) (fun q => nomatch q)
    have LT : PySem.W.Looks (model X.prog X.w) g3 (typeOf (.ref a)) cls := fun _ _ _ _ k q => wpAny_typeOf_ref (k _ _ e3) (by rw [z3.1]; exact q)
    have LM := PySem.W.exm_one (M := model X.prog X.w) d3.inv.kIn LT hm
    have test : ∀ {Q E : Value → Shared → Prop}, Q c { t with heap := g3 } → wpAny (model X.prog X.w) (X.A.mark (some (.ref a))) (eval (.Name x np) X.env) Q E { t with heap := g3 } := fun {Q E} q => by
      obtain ⟨y1, y2, y3 | ⟨y3, y4, y5⟩⟩ := hc
      · exact ld_glob (X := X.suite a ((a, ob3) :: (X.pn ++ pins))) S3 y1 y3 q y2
      · exact ld_blt (X := X.suite a ((a, ob3) :: (X.pn ++ pins))) S3 y1 y3 y4 q y5 y2
    refine test (LM.here (codeAny_handlers_suite_as ?_))
    refine HandSPX.lands_againZ fl3 fun g4 fl4 up4 => ?_
    have d4 := down_of (t := t) hx hf hs I2 nb ((up.trans up3).trans up4) eo eg fl4
    obtain ⟨ob4, ws4, e4, z4, dt4⟩ := d4.at_
    have S4 := d4.inv.suite e4 dt4 na d4.nl d4.nf
    refine store_ok (X := X.suite a ((a, ob4) :: (X.pn ++ pins))) (v := .ref a) S4 hN hi (.inl hln) rfl (fun s5 S5 => ?_) (.inr hln)
    refine wpAny_mono ((hsu a ob4 cls d (X.pn ++ pins) z4 ⟨_, dt4⟩).run [] s5 _ H1 _ S5 (hgo a na)) (fun f s6 hsp => ?_) (fun _ _ z => z.elim)
    have fin : ∀ {σ6 : L2.St} {H6 : Hp} {Q : Shared → Prop}, Inv (X.suite a ((a, ob4) :: (X.pn ++ pins))) [] σ6 H6 s6 → (∀ s7, Inv X pins (σ6.set i none) (upd H6 a (ErO cls d a)) s7 → Q s7) →
        wpAny (model X.prog X.w) X.A (do bindName X.env n .none; unbindBehindTheSuite X.env n pos') (fun _ s7 => Q s7) X.xe s6 := fun {σ6 H6 Q} S6 hq => by
      obtain ⟨y1, y2, _⟩ := S6.pin (a, ob4) (List.mem_append_left _ List.mem_cons_self)
      exact gone_ok (track (S6.unsuite ok) y1 z4 dt4 y2 d4.nl d4.n0 d4.np) hN hi hln hq
    cases f with
    | next =>
      obtain ⟨σ6, H6, S6, q6⟩ := hsp
      exact fin S6 fun s7 J7 => ⟨_, _, J7, q6⟩
    | brk =>
      obtain ⟨σ6, H6, S6, q6⟩ := hsp
      exact fin S6 fun s7 J7 => ⟨_, _, J7, q6⟩
    | cont =>
      obtain ⟨σ6, H6, S6, q6⟩ := hsp
      exact fin S6 fun s7 J7 => ⟨_, _, J7, q6⟩
    | ret u =>
      obtain ⟨v6, σ6, H6, S6, r6, q6⟩ := hsp
      exact fin S6 fun s7 J7 => ⟨_, _, _, J7, r6, q6⟩
  · cases f with
    | next =>
      obtain ⟨σ1, H1, I1, q⟩ := hsp
      exact wpAny_execs_nil ⟨σ1, H1, I1.ofTry ok, q⟩
    | brk =>
      obtain ⟨σ1, H1, I1, q⟩ := hsp
      exact ⟨σ1, H1, I1.ofTry ok, q⟩
    | cont =>
      obtain ⟨σ1, H1, I1, q⟩ := hsp
      exact ⟨σ1, H1, I1.ofTry ok, q⟩
    | ret u =>
      obtain ⟨v, σ1, H1, I1, r, q⟩ := hsp
      exact ⟨v, σ1, H1, I1.ofTry ok, r, q⟩
end
end Sw

set_option Elab.async false
set_option linter.all false
set_option maxRecDepth 100000
set_option maxHeartbeats 4000000
namespace Sw
open PySem PySem.Spec PyProof.Rows L2
/-! ## What is asked of a kept error -/
/-- the error's dict stands -/
def DicOk (H : Hp) (d : Option Addr) : Prop := d = none ∨ ∃ dd fs, d = some dd ∧ H dd = some (.xd fs)
section
variable {X : Cx} {pins : List (Addr × Obj)} {σ : L2.St} {H : Hp} {s : Shared} {a C : Addr} {d : Option Addr}
theorem inst_at (I : Inv X pins σ H s) (e : H a = some (ErO (.ref C) d a)) (hd : DicOk H d) : ∃ ob od, PySem.W.InstAt s.heap a ob C od ∧ (∀ dd fs, d = some dd → H dd = some (.xd fs) → ∃ o, od = some o ∧ s.heap.get? dd = some o) := by
  obtain ⟨⟨ob, ws, y1, ⟨y2, y3⟩, y4⟩, _, _⟩ := I.hok a _ e
  have nc : PySem.W.notCls ob = true := by
    unfold PySem.W.notCls
    rw [y4] <;> rfl
  rcases hd with rfl | ⟨dd, fs, rfl, hx⟩
  · exact ⟨ob, none, ⟨y1, y2, nc, by rw [y3]; trivial⟩, fun _ _ z => nomatch z⟩
  · obtain ⟨mA, ⟨o, es, ep, e1, _⟩, _⟩ := (show ObjOk X.prog X.w H s.heap dd (.xd fs) from I.hok dd _ hx)
    exact ⟨ob, some o, ⟨y1, y2, nc, by rw [y3]; exact e1⟩, fun d2 f2 z _ => by cases z; exact ⟨o, rfl, e1⟩⟩
end
/-- isinstance(x, c) of what rIsi knows, or of a kept error -/
def rIsK (K : PySem.W.Frag) : List V → Hp → VK → Prop := fun xs H Q => rIsi K xs H Q ∨ ∃ (a C : Addr) (d : Option Addr) (c : V) (u : Value) (b : Bool), xs = [.ref a, c] ∧ H a = some (ErO (.ref C) d a) ∧ DicOk H d ∧ ExcC K C ∧ ClsV c u ∧ PySem.W.kitOne K (.ref C) u = some b ∧ Q (.bl b) H
theorem cl_isk {X : Cx} : CallR X (.builtin "isinstance") (rIsK X.K) := by
  intro pins s σ H xs us Q I r h
  rcases h with h | ⟨a, C, d, c, u, b, rfl, ea, hd, T, k, e, q⟩
  · exact call_isi pins s σ H xs us Q I r h
  · obtain ⟨u1, u2, rfl, r1, r2⟩ := vals2 r
    obtain rfl := k.eq r2
    obtain rfl : u1 = Value.ref a := r1
    obtain ⟨ob, od, J, _⟩ := inst_at I ea hd
    have hcl : (PySem.W.clsIn X.K C).isSome = true := by
      obtain ⟨cd, hc, _⟩ := PySem.W.any_some T.hd
      rw [hc] <;> rfl
    exact PySem.W.kia_one (PySem.W.kitx_exc hcl T.hg T.hk T.hs T.ha T.hn T.ht T.hm) I.kIn J e (fun z => nomatch z) fun tk => ⟨.bl b, H, I.tok tk, rfl, q⟩
/-- x.f of a kept error -/
def tXk (K : PySem.W.Frag) (f : Str) (te : TE) : TE := fun σ H Q => te σ H fun x H1 => ∃ (a C dd : Addr) (fs : List (Str × V)) (v : V), x = .ref a ∧ H1 a = some (ErO (.ref C) (some dd) a) ∧ H1 dd = some (.xd fs) ∧ XfC K C ∧ PySem.W.findIn K (.ref C) f = some none ∧ fs.lookup f = some v ∧ Q v H1
theorem pe_xk {X : Cx} {e : Expr} {te : TE} {pos : Pos} {n : Str} (he : PE X e te) (hb : attributeBase e n X.env (eval e X.env) = eval e X.env := by rfl) : PE X (.Attribute e n pos) (tXk X.K n te) := by
  refine ⟨fun pins s σ H Q I h => attr_of hb (thn (he.run pins s σ H _ I h) fun u s1 hh => ?_)⟩
  obtain ⟨x, H1, I1, rx, a, C, dd, fs, v, rfl, ea, ed, T, hno, l, q⟩ := hh
  obtain rfl : u = Value.ref a := rx
  obtain ⟨ob, od, J, jd⟩ := inst_at I1 ea (.inr ⟨dd, fs, rfl, ed⟩)
  obtain ⟨o, rfl, eo⟩ := jd dd fs rfl ed
  obtain ⟨mA, hns, hr⟩ := (show ObjOk X.prog X.w H1 s1.heap dd (.xd fs) from I1.hok dd _ ed)
  obtain ⟨o2, ho, hl⟩ := lookIn_ns hns
  rw [eo] at ho
  cases ho
  obtain ⟨w, hw, rw'⟩ := RelO.some_of (v := v) (o := mA n) (by rw [← l]; exact hr n)
  exact HandSPX.exc_get I1.kIn J T.ga T.gg T.exC (PySem.W.findObj_own T.hdC hno rfl (by rw [hl, hw])) (handed_of rw') ⟨v, H1, I1.tok _, rw', q⟩
/-! ## Errors raised where nothing is handled: their context is None -/
theorem weak_cx {P : Program} {w : World} {K : PySem.W.Frag} {mg : Str → Option Value} {base : Heap} {k : Nat} {x : Str} {ps : List Str} {sp : Sp} (c : Cal P w K mg base (L2N.CX P w) k x ps sp) : Cal P w K mg base (L2.CX P w) k x ps sp := by
  obtain ⟨f, fd, F, g, kp, b, ba, lk⟩ := c.ex
  refine ⟨f, fd, ⟨F.len, fun A outer s H args us vs Q E hr he hb rv h => codeAny_mono (F.run A outer s H args us vs Q E hr he hb rv h) fun r s' q => ?_⟩, g, kp, b, ba, lk⟩
  cases r with
  | ok fl => cases fl <;> exact q
  | error e =>
    obtain ⟨a, B, H', cls, d, rfl, fl, z⟩ := q
    exact ⟨a, B, H', cls, d, rfl, L2H.flyingZ_imp (fun o y => y.zc) fl, z⟩
section
variable {P : Program} {w : World} {K : PySem.W.Frag} {mg : Str → Option Value} {base : Heap} {x : Str} {st : Stmt} {N ps : List Str} {k : Nat} {sp : Sp}
theorem Here.calN {r : XK → TS} (F : Here K mg x st) (S : FnScope N ps (defScope st)) (len : ∀ vs H Q E, sp vs H Q E → vs.length = ps.length)
    (bd : ∀ (kV doc pm : Value) (an : Option Addr) (cdv ct : Value) (us : List Value), us.length = ps.length →
      bindArgs (PySem.W.fnOf x x (defArgs st) (defBody st) (defScope st) .none kV doc pm an cdv ct) ⟨us, []⟩ = pure (ps.zip us))
    (dv : ∀ (f : Addr) (cdv : Value) (A : Around) (outer : List Env) (s : Shared) (H : Hp) (E : XK), RmIn k A x st s f cdv → PSs (BX (L2N.CX P w) P w K mg base N x st f cdv A outer s H E) (defBody st) (r E))
    (rd : ∀ (vs : List V) (H : Hp) (Q : VK) (E : XK), sp vs H Q E → r E { nx := fun _ H' => Q .non H', rt := Q } (L2.start N vs) H) :
    Cal P w K mg base (L2N.CX P w) (k + 1) x ps sp := by
  obtain ⟨f, fd, D, g⟩ := F.ex
  refine ⟨f, fd, D.ok S len fun cdv A outer s H vs Q E hr h => ⟨r E, dv f cdv A outer s H E hr, rd vs H Q E h⟩, g, D.kp, D.bindsN bd, fun s us hl => D.bindsA bd s us hl, ?_⟩
  obtain ⟨oc, od, _, _, _, _, _, _, _, osl, _, lk, _⟩ := D.ex
  exact ⟨oc, od, osl, lk⟩
end
section
variable {X : Cx} {k : Nat} {x : Str} {ps : List Str} {sp : Sp} {t : TA} {e : Expr} {es : List Expr} {p pos : Pos} {W : WX}
theorem pe_calN (c : Cal X.prog X.w X.K X.mg X.base (L2N.CX X.prog X.w) k x ps sp) (hr : Room k X.A) (tk : L2N.Takes X W) (hg : Gl X x) (ha : PA X (e :: es) t)
    (hdb : (x == ("__debug__" : Str)) = false := by decide) (he : starEach (e :: es) X.env = (false, eval e X.env) :: starEach es X.env := by rfl)
    (hpl : (backTo pos (starEach es X.env)).any (·.1) = false := by rfl) : PE X (.Call (.Name x p) (e :: es) [] pos) (tCalW sp W t) := by
  obtain ⟨f, fd, F, gm, kp, b, _⟩ := c.ex
  exact pe_callS F hr hg gm kp b (fun σ => L2N.passAt tk σ) ha hdb he hpl
/-- x(e, ..), x an error class without an __init__ of its own -/
theorem pmkA_N (m : ExK X.K X.mg x) (hg : Gl X x) (ha : PA X (e :: es) t) (hdb : (x == ("__debug__" : Str)) = false := by decide)
    (he : starEach (e :: es) X.env = (false, eval e X.env) :: starEach es X.env := by rfl) (hpl : (backTo pos (starEach es X.env)).any (·.1) = false := by rfl) :
    L2H.PMk5 X (.Call (.Name x p) (e :: es) [] pos) (fun σ H Q => t σ H fun vs H1 => vs.length ≤ sizeLine ∧ Q (.ref (He.ga X.K x)) none H1) := by
  intro pins s σ H Q I h
  refine wpAny_Call_Name_kw (ld_glob I hg m.g (PySem.W.callWith_K (h₀ := X.base) I.ok.mod.kin m.m.2.1 (thn (ha.run pos pins s σ H _ I h) fun us s1 hv => ?_) he hpl) hdb)
  obtain ⟨vs, H1, I1, rv, small, q⟩ := hv
  refine ⟨I1.kIn, ?_⟩
  show wpAny _ _ (call (.ref (He.ga X.K x)) us) _ _ _
  obtain ⟨y1, y2, y3, y4, y5, y6, y7, y8, y9, y10, y11, y12, y13, z1, z2, z3, z4, u1, u2, u3, T⟩ := exc_obj I1.kIn m.m.1
  exact wpAny_call_exc_subT PySem.F.excBase_ValueError T u1 u2 u3 (fun g1 a mk => L2H.mk_of5 I1 mk (raises_own m.m.2.2.1 m.m.2.2.2) q (I1.hok.gone mk.new)) (by rw [← rv.length]; exact small)
theorem ps_rzAN {pos2 : Pos} (hc : X.calm = true) (tk : L2N.Takes X W) (m : ExK X.K X.mg x) (hg : Gl X x) (ha : PA X (e :: es) t) (hdb : (x == ("__debug__" : Str)) = false := by decide)
    (he : starEach (e :: es) X.env = (false, eval e X.env) :: starEach es X.env := by rfl) (hpl : (backTo pos (starEach es X.env)).any (·.1) = false := by rfl) :
    PS X (.Raise (some (.Call (.Name x p) (e :: es) [] pos)) none pos2) (tRzA (He.ga X.K x) W t) := L2N.ps_raise hc tk (pmkA_N m hg ha hdb he hpl).pmk
/-- raise x(e, ..) from None in an except suite -/
theorem ps_rzAF {pos2 cp : Pos} {j : Nat} (hc : L2H.HotC X) (tk : L2.Takes X W) (m : ExK X.K X.mg x) (hg : Gl X x) (ha : PA X (e :: es) t) (hdb : (x == ("__debug__" : Str)) = false := by decide)
    (he : starEach (e :: es) X.env = (false, eval e X.env) :: starEach es X.env := by rfl) (hpl : (backTo pos (starEach es X.env)).any (·.1) = false := by rfl) :
    PS X (.Raise (some (.Call (.Name x p) (e :: es) [] pos)) (some (.Constant .none j cp)) pos2) (tRzA (He.ga X.K x) W t) := L2H.ps_raiseHN hc tk (pmkA_N m hg ha hdb he hpl)
end
end Sw

set_option Elab.async false
set_option linter.all false
set_option maxRecDepth 100000
set_option maxHeartbeats 4000000
namespace Sw
open PySem PySem.Spec PyProof.Rows L2
section
variable {X : Cx} {k : Nat} {x f : Str} {te : TE} {e : Expr} {p pos : Pos} {W : WX} {fdI : FuncData} {qs : List Str}
/-- x(e), x an error class whose own __init__ keeps one field: its context is None -/
theorem pmkO_N (m : OwK X.K X.mg x f) (F1 : FnOk X.prog X.w X.K X.mg X.base CX0 k (He.ma X.K (He.ga X.K x) "__init__") fdI qs (spInit X.K (He.ga X.K x) f)) (hb : Binds X.K fdI qs [])
    (hr : Room (k + 1) X.A) (hg : Gl X x) (ha : PA X [e] (tCons te tNil)) (hdb : (x == ("__debug__" : Str)) = false := by decide)
    (hs : starEach [e] X.env = (false, eval e X.env) :: starEach [] X.env := by rfl) (hpl : (backTo pos (starEach [] X.env)).any (·.1) = false := by rfl) :
    L2N.PMk X (.Call (.Name x p) [e] [] pos) (tMkO (He.ga X.K x) (spInit X.K (He.ga X.K x) f) [] (tCons te tNil)) := by
  intro pins s σ H Q I h
  have T := m.o
  obtain ⟨y1, y2, y3, y4, bm, y5, y6, y7, y8, y9, y10, y11, y12, y13, y14, cls, tail⟩ := T.cls
  refine wpAny_Call_Name_kw (ld_glob I hg m.g (PySem.W.callWith_K (h₀ := X.base) I.ok.mod.kin T.kC (thn (ha.run pos pins s σ H _ I h) fun us s1 hv => ?_) hs hpl) hdb)
  obtain ⟨vs, H1, I1, rv, small, ask⟩ := hv
  refine ⟨I1.kIn, ?_⟩
  show wpAny _ _ (call (.ref (He.ga X.K x)) us) _ _ _
  obtain ⟨hp, gn, dr, tk, os⟩ := s1
  have up1 : hp.objs.size ≤ hp.objs.size + 1 := Nat.le_succ _
  have kept : ∀ b o, hp.get? b = some o → ((hp.push (PySem.W.kdv_tup us)).push (PySem.HandSPX.excO (He.ga X.K x) hp.objs.size)).get? b = some o := fun b o y => Heap.get?_push_of_some _ (Heap.get?_push_of_some _ y)
  have there : ((hp.push (PySem.W.kdv_tup us)).push (PySem.HandSPX.excO (He.ga X.K x) hp.objs.size)).get? (hp.objs.size + 1) = some (PySem.HandSPX.excO (He.ga X.K x) hp.objs.size) := by heap_get
  have wish := ask (hp.objs.size + 1) (I1.hok.fresh up1)
  have J := I1.laid (t' := tk) (a := hp.objs.size + 1) (o := exo (hp.objs.size + 1) (He.ga X.K x) none) kept up1 (exo_ok there)
  have rel : Vals (V.ref (hp.objs.size + 1) :: vs) (Value.ref (hp.objs.size + 1) :: us) := .cons rfl rv
  rw [List.append_nil] at wish
  have bd := hb _ (Value.ref (hp.objs.size + 1) :: us) J.kIn (by rw [List.append_nil]; exact rel.length.symm.trans (F1.len _ _ _ _ wish))
  rw [List.append_nil] at bd
  have few : us.length ≤ sizeLine := by
    rw [← rv.length, sizeLine_eq]
    omega
  refine wpAny_call (PySem.HandSPX.call_own PySem.F.excBase_ValueError (fun Y => PySem.HandSPX.refsVE_contains Y bm tail) (I1.kIn _ _ cls) (PySem.W.looks_findIn I1.kIn m.i) (fun self => PySem.W.bind_fn I1.kIn self m.t) few
    (codeAny_mono (F1.run _ X.stack _ _ ⟨Value.ref (hp.objs.size + 1) :: us, []⟩ (Value.ref (hp.objs.size + 1) :: us) _ _ (fun _ _ _ => False) (hr.make (He.ga X.K x) us []) (J.env0.make (He.ga X.K x) us []) bd rel wish) fun r s2 hq => ?_))
  cases r with
  | error er => exact (show False from hq).elim
  | ok fl =>
    cases fl with
    | next => exact (show False from hq).elim
    | brk => exact (show False from hq).elim
    | cont => exact (show False from hq).elim
    | ret u =>
      obtain ⟨v, H2, eo, eb, un, hok, ru, rfl, dd, fs, ea, ed, nd, q⟩ := hq
      obtain ⟨h2, g2, d2, t2, o2⟩ := s2
      obtain ⟨t0, G, IG, kG, gone, obj, na⟩ := mk_end0 (d2 := d2) (t2 := t2) I1 up1 kept un hok eo eb ea ed nd
      exact ⟨ru, hp.objs.size + 1, _, _, ⟨G, g2, d2, t2, o2⟩, _, .ref (He.ga X.K x), some dd, rfl, IG, kG, gone, obj, ⟨rfl, rfl, fun ws hw => by cases hw; rfl⟩, rfl, rfl, na, rfl, eb, raises_own T.exC T.tyC, q⟩
theorem ps_rzON {pos2 : Pos} (hc : X.calm = true) (tk : L2N.Takes X W) (m : OwK X.K X.mg x f) (F : FnOk X.prog X.w X.K X.mg X.base CX0 k (He.ma X.K (He.ga X.K x) "__init__") fdI qs (spInit X.K (He.ga X.K x) f)) (hb : Binds X.K fdI qs [])
    (hr : Room (k + 1) X.A) (hg : Gl X x) (ha : PA X [e] (tCons te tNil)) (hdb : (x == ("__debug__" : Str)) = false := by decide)
    (hs : starEach [e] X.env = (false, eval e X.env) :: starEach [] X.env := by rfl) (hpl : (backTo pos (starEach [] X.env)).any (·.1) = false := by rfl) :
    PS X (.Raise (some (.Call (.Name x p) [e] [] pos)) none pos2) (tRzO X.K x f W te) := L2N.ps_raise hc tk (pmkO_N m F hb hr hg ha hdb hs hpl)
end
/-! ## try: .. except (x, y): .., the suite raises out -/
def wTup (K : PySem.W.Frag) (c1 c2 : Value) (ts : Addr → Value → Option Addr → TS) (D : Ends) : WX := fun cls d σ H => PySem.W.exmAny K cls [c1, c2] = some true ∧ ∀ a, H a = none → ts a cls d D σ H
section
variable {X : Cx} {x1 x2 : Str} {c1 c2 : Value} {body suite : List Stmt} {b₀ : Stmt} {np1 np2 tp pos pos' : Pos} {kk : Nat} {tb : WX → TS} {ts : Addr → Value → Option Addr → TS} {Wout : WX}
theorem ps_try_tupX (hs : X.stack = X.env :: X.outer) (hf : X.env.frame = some X.env.locals) (hx : X.ex = []) (n1 : Names X x1 c1) (n2 : Names X x2 c2) (hpa : ∀ hd : Option Value, PassesOwnAt (model X.prog X.w) (X.A.mark hd) X.A X.env X.xe) (tk : L2.Takes X Wout)
    (hb : ∀ (W : WX) (pn : List (Addr × Obj)) (xe : Value → Shared → Prop), L2N.Takes (X.tr pn xe) W → PassesOwn (model X.prog X.w) X.A X.env xe → PSs (X.tr pn xe) body (tb W))
    (hsu : ∀ (a : Addr) (ob : Obj) (cls : Value) (d : Option Addr) (pn : List (Addr × Obj)), L2N.Zn cls d ob → (∃ vs, ob.data = .fields vs) → L2.Takes (L2H.suiteX X a ((a, ob) :: pn)) Wout → L2H.HotC (L2H.suiteX X a ((a, ob) :: pn)) →
      PSs (L2H.suiteX X a ((a, ob) :: pn)) (b₀ :: suite) (ts a cls d)) :
    PS X (.Try body [.ExceptHandler (some (.Tuple [.Name x1 np1, .Name x2 np2] kk tp)) none (b₀ :: suite) pos'] [] [] pos) (fun D σ H => tb (wTup X.K c1 c2 ts D) D σ H) := by
  refine ⟨fun pins s σ H D I h => wpAny_Try_except ?_⟩
  have ok := I.ok
  have frm : X.A.frames = some (X.env :: X.outer) := hs ▸ ok.frames
  refine wpAny_mono ((hb (wTup X.K c1 c2 ts D) (X.pn ++ pins) (fun e t => wpAny (model X.prog X.w) X.A (noteFrame e X.env) (fun _ t2 => wpAny (model X.prog X.w) X.A (setFlight e none) (fun _ t3 =>
    wpAny (model X.prog X.w) X.A (handleBy e X.env [.ExceptHandler (some (.Tuple [.Name x1 np1, .Name x2 np2] kk tp)) none (b₀ :: suite) pos']) (SP X pins D) X.xe t3) X.xe t2) X.xe t) (fun u t xx => ?_) PassesOwn.looking).run [] s σ H D (I.toTry _) h) (fun f t hsp => ?_) (fun _ _ z => z)
  · obtain ⟨a, B, r, pr, σ1, H1, cls, d, rfl, I1, nb, up, sky, na, eo, eg, hm, hgo⟩ := xx
    have I2 : Inv X pins σ1 H1 r := I1.ofTry ok
    show wpAny (model X.prog X.w) X.A (noteFrame (.ref a) X.env) _ _ _
    refine L2N.Sky.land (Z := L2N.Zn cls d) (B := B) (L := X.env.locals) L2N.Zn.steady frm hf (by rw [← hs]; exact sky) fun g3 fl3 up3 => ?_
    have d3 := down_of (t := t) hx hf hs I2 nb (up.trans up3) eo eg fl3
    obtain ⟨ob3, ws3, e3, z3, dt3⟩ := d3.at_
    have S3 := d3.inv.suite e3 dt3 na d3.nl d3.nf
    refine wpAny_handleBy_cons (codeAny_handlers_test ?_) (fun q => nomatch q)
    have name : ∀ {y : Str} {c : Value} {q : Pos} {Q E : Value → Shared → Prop}, Names X y c → Q c { t with heap := g3 } → wpAny (model X.prog X.w) (X.A.mark (some (.ref a))) (eval (.Name y q) X.env) Q E { t with heap := g3 } := fun {y c q Q E} hc hq => by
      obtain ⟨y1, y2, y3 | ⟨y3, y4, y5⟩⟩ := hc
      · exact ld_glob (X := X.suite a ((a, ob3) :: (X.pn ++ pins))) S3 y1 y3 hq y2
      · exact ld_blt (X := X.suite a ((a, ob3) :: (X.pn ++ pins))) S3 y1 y3 y4 hq y5 y2
    refine wpAny_Tuple ?_
    refine wpAny_items_cons (name n1 ?_)
    refine wpAny_items_cons (name n2 ?_)
    refine wpAny_items_nil ⟨by size_fits, ?_⟩
    have kp : ∀ b o, g3.get? b = some o → (g3.push { cls := .type "tuple", data := .seq [c1, c2].toArray }).get? b = some o := fun _ _ z => Heap.get?_push_of_some _ z
    have LT : PySem.W.Looks (model X.prog X.w) (g3.push { cls := .type "tuple", data := .seq [c1, c2].toArray }) (typeOf (.ref a)) cls := fun _ _ _ _ k q => wpAny_typeOf_ref (k _ _ (kp _ _ e3)) (by rw [z3.1]; exact q)
    refine (PySem.W.exm_tup2 (M := model X.prog X.w) (d3.inv.kIn.keeps kp) LT (Heap.get?_push_size g3 rfl) hm).here (codeAny_handlers_suite ?_)
    refine HandSPX.lands_againZ (fly_keep fl3 kp) fun g4 fl4 up4 => ?_
    have d4 := down_of (t := t) hx hf hs I2 nb (((up.trans up3).trans (Heap.UpToSlots.of_keeps kp)).trans up4) eo eg fl4
    obtain ⟨ob4, ws4, e4, z4, dt4⟩ := d4.at_
    have S4 := d4.inv.suite e4 dt4 na d4.nl d4.nf
    have tkS : L2.Takes (L2H.suiteX X a ((a, ob4) :: (X.pn ++ pins))) Wout := fun u2 s2 ⟨a2, B2, r2, pn2, σ2, H2, cls2, dd2, q1, J2, q3⟩ => tk u2 s2 ⟨a2, B2, r2, pins, σ2, H2, cls2, dd2, q1, L2H.unsuiteX J2 ok, q3⟩
    have hot : L2H.HotC (L2H.suiteX X a ((a, ob4) :: (X.pn ++ pins))) := ⟨(a, ob4), ⟨rfl, ws4, dt4, z4.2.2 ws4 dt4⟩, List.mem_cons_self⟩
    refine wpAny_mono ((hsu a ob4 cls d (X.pn ++ pins) z4 ⟨_, dt4⟩ tkS hot).run [] _ _ H1 _ (L2H.suiteX_of S4) (hgo a na)) (fun f s6 hsp => ?_) (fun e6 s6 z => hpa (some (.ref a)) e6 s6 z)
    cases f with
    | next =>
      obtain ⟨σ6, H6, S6, q6⟩ := hsp
      exact ⟨_, _, L2H.unsuiteX S6 ok, q6⟩
    | brk =>
      obtain ⟨σ6, H6, S6, q6⟩ := hsp
      exact ⟨_, _, L2H.unsuiteX S6 ok, q6⟩
    | cont =>
      obtain ⟨σ6, H6, S6, q6⟩ := hsp
      exact ⟨_, _, L2H.unsuiteX S6 ok, q6⟩
    | ret u =>
      obtain ⟨v6, σ6, H6, S6, r6, q6⟩ := hsp
      exact ⟨_, _, _, L2H.unsuiteX S6 ok, r6, q6⟩
  · cases f with
    | next =>
      obtain ⟨σ1, H1, I1, q⟩ := hsp
      exact wpAny_execs_nil ⟨σ1, H1, I1.ofTry ok, q⟩
    | brk =>
      obtain ⟨σ1, H1, I1, q⟩ := hsp
      exact ⟨σ1, H1, I1.ofTry ok, q⟩
    | cont =>
      obtain ⟨σ1, H1, I1, q⟩ := hsp
      exact ⟨σ1, H1, I1.ofTry ok, q⟩
    | ret u =>
      obtain ⟨v, σ1, H1, I1, r, q⟩ := hsp
      exact ⟨v, σ1, H1, I1.ofTry ok, r, q⟩
end
end Sw

set_option Elab.async false
set_option linter.all false
set_option maxRecDepth 100000
set_option maxHeartbeats 4000000
namespace Sw
open PySem PySem.Spec PyProof.Rows L2
/-! ## first, *rest = a list that is not empty -/
section
variable {prog : Program} {w : World} {A : Around} {E : Value → Shared → Prop} {s : Shared}
theorem unpack_head {l : Addr} {u : Value} {us : List Value} {Q : List Value → Shared → Prop} (hl : s.heap.IsList l (u :: us).toArray) (hh : A.handled = none) (hz : us.length < 1000000)
    (h : ∀ (h2 : Heap) (tk : Nat), (∀ b o, s.heap.get? b = some o → h2.get? b = some o) →
      Q [u, .ref h2.objs.size] { s with heap := h2.push { cls := .type "list", data := .seq us.toArray }, toks := tk }) : wpAny (model prog w) A (unpackItems (.ref l) 2 (some 1)) Q E s := by
  have ne : l ≠ s.heap.objs.size := by
    obtain ⟨o, ho, _⟩ := hl
    exact Nat.ne_of_lt (Heap.lt_size ho)
  have size : (u :: us).toArray.size = us.length + 1 := by rw [List.size_toArray, List.length_cons]
  unfold unpackItems notIterableAtAll
  refine wpAny_bind (wpAny_bind ?_)
  refine wpAny_specialOf hl.typeIs slot_list_iter.lookup ?_
  refine wpAny_pure ?_
  simp only [Bool.false_eq_true, if_false]
  refine wpAny_bind (wpAny_holding (wpAny_pyIter_list hl ?_))
  refine wpAny_bind (wpAny_holding ?_)
  refine PySem.W.kun_draw ne 1 0 _ _ ⟨_, Heap.get?_push_size _ rfl, rfl, rfl⟩ (hl.push _) (by rw [size]; omega) fun h1 it1 sb1 => ?_
  have hl1 : h1.IsList l (u :: us).toArray := (hl.push _).extBut sb1.extBut ne
  have itx := it1
  obtain ⟨oi, hoi, _⟩ := itx
  have hlx := hl1
  obtain ⟨ol, hol, _⟩ := hlx
  show wpAny _ _ (if [u].length < 1 then _ else _) _ _ _
  rw [if_neg (show ¬ [u].length < 1 from fun z => absurd z (by show ¬ 1 < 1; omega))]
  refine wpAny_bind (wpAny_holding ?_)
  refine PySem.W.kun_collect (s := { s with heap := h1 }) (T := "list_iterator") (.inr (.inr (.inl rfl))) (Walks.list (A := A.in1) hh s.heap.objs.size l ne (u :: us).toArray) (fun j v st => st.1.typeIs) (k := 1) (by rw [size]; omega)
    ⟨it1, hl1⟩ (Heap.lt_size hoi) (Heap.lt_size hol) (fun h2 tk k2 => ?_) (by rw [size]; exact small_line (by omega))
  show wpAny _ _ (if us.length < 0 then _ else _) _ _ _
  rw [if_neg (Nat.not_lt_zero _)]
  have stay : ∀ b o, s.heap.get? b = some o → h2.get? b = some o := fun b o e => by
    have lt := Heap.lt_size e
    have nb : b ≠ s.heap.objs.size := Nat.ne_of_lt lt
    exact k2 b o nb (sb1.extBut b o nb (Heap.get?_push_of_some _ e))
  show wpAny _ _ (newList (us.take (us.length - 0)) >>= fun d => pure ([u] ++ [d] ++ us.drop (us.length - 0))) _ _ _
  rw [Nat.sub_zero, List.take_length, List.drop_length]
  refine wpAny_bind (wpAny_newObj_type ?_ (by show us.toArray.size ≤ sizeLine; rw [List.size_toArray]; exact small_line (by omega)))
  exact wpAny_pure (h h2 tk stay)
end
/-- first, *rest = a list -/
def gHead (K : PySem.W.Frag) (t : TGs) : TG := fun v σ H Q => ∃ (a : Addr) (x : V) (xs : List V), v = .ref a ∧ SqL K H a (x :: xs) ∧ xs.length < 1000000 ∧ ∀ p, H p = none → t [x, .ref p] σ (upd H p (.lst xs)) Q
section
variable {X : Cx} {pos : Pos}
theorem pg_head {es : List Expr} {k : Nat} {t : TGs} (hc : X.calm = true) (h : PGs X es t) (hn : (assignEach es X.env).length = 2 := by rfl) (hst : (assignEach es X.env).findIdx? (·.1) = some 1 := by rfl) :
    PG X (.Tuple es k pos) (gHead X.K t) := by
  refine ⟨fun pins s σ H v u Q I r hw => ?_⟩
  obtain ⟨a, x, xs, rfl, hq, hz, hw⟩ := hw
  cases r
  obtain ⟨its, rv, pl, _⟩ := I.list hq
  cases rv with
  | @cons _ u0 _ us r0 rs =>
    have hl := rs.length
    rw [PyProof.Rows.assign_Tuple]
    refine wpAny_bind (wpAny_standAt ?_)
    unfold unpack
    rw [hn, hst]
    refine wpAny_bind (wpAny_holding (unpack_head pl.isList (I.ok.hd hc) (by omega) fun h2 tk st => ?_))
    have I1 : Inv X pins σ H { s with heap := h2, toks := tk } := I.kept (t' := tk) st
    have I2 := I1.laid (t' := tk) (a := h2.objs.size) (o := .lst xs) (h' := h2.push { cls := .type "list", data := .seq us.toArray }) (fun b o q => Heap.get?_push_of_some _ q) (Nat.le_refl _)
      ⟨small_line (by omega), us, 0, rs, Heap.get?_push_size _ rfl⟩
    exact h.run pins _ σ _ [x, .ref h2.objs.size] [u0, .ref h2.objs.size] Q I2 (.cons r0 (.cons rfl .nil)) (hw _ (I1.hok.fresh (Nat.le_refl _)))
/-- *words among targets: the name in it -/
theorem pgs_star {e : Expr} {es : List Expr} {p : Pos} {t : TG} {u : TGs} (h1 : PG X e t) (h2 : PGs X es u)
    (hs : (assignEach (.Starred e p :: es) X.env).map (·.2) = assign e X.env :: (assignEach es X.env).map (·.2) := by rfl) : PGs X (.Starred e p :: es) (gCons t u) := by
  refine ⟨fun pins s σ H vs us Q I r h => ?_⟩
  obtain ⟨v, vr, rfl, h⟩ := h
  cases r with
  | cons r rr =>
    rw [hs]
    exact assignInOrder_cons (thn (h1.run pins s σ H _ _ _ I r h) fun _ s1 hq => by
      obtain ⟨σ1, H1, I1, q1⟩ := hq
      exact h2.run pins s1 σ1 H1 _ _ Q I1 rr q1)
end
end Sw

set_option Elab.async false
set_option linter.all false
set_option maxRecDepth 100000
set_option maxHeartbeats 4000000
namespace Sw
open PySem PySem.Spec PyProof.Rows L2
/-! ## Rows through a web -/
abbrev Row := List Int
def vis (r : Row) : List V := r.map V.int
def at0 (r : Row) (k : Nat) : Int := r.getD k 0
/-- one comparer -/
def goC (r : Row) (c : Cmp) : Row := if at0 r c.1 > at0 r c.2 then (r.set c.1 (at0 r c.2)).set c.2 (at0 r c.1) else r
def gone (cs : List Cmp) (r : Row) : Row := cs.foldl goC r
/-- the rows ahead of each comparer, and the last one -/
def trace : List Cmp → Row → List Row
  | [], r => [r]
  | c :: cs, r => r :: trace cs (goC r c)
theorem goC_len (r : Row) (c : Cmp) : (goC r c).length = r.length := by
  unfold goC
  split
  · rw [List.length_set, List.length_set]
  · rfl
theorem gone_len (cs : List Cmp) : ∀ r, (gone cs r).length = r.length := by
  induction cs with
  | nil => intro r; rfl
  | cons c cs ih =>
    intro r
    show (gone cs (goC r c)).length = r.length
    rw [ih, goC_len]
theorem gone_snoc (cs : List Cmp) (c : Cmp) (r : Row) : gone (cs ++ [c]) r = goC (gone cs r) c := by
  unfold gone
  rw [List.foldl_append] <;> rfl
theorem gone_take {cs : List Cmp} {i : Nat} {c : Cmp} (h : cs[i]? = some c) (r : Row) : gone (cs.take (i + 1)) r = goC (gone (cs.take i) r) c := by
  rw [List.take_add_one, h]
  exact gone_snoc _ _ _
theorem trace_len (cs : List Cmp) : ∀ r, (trace cs r).length = cs.length + 1 := by
  induction cs with
  | nil => intro r; rfl
  | cons c cs ih => intro r; show (trace cs (goC r c)).length + 1 = _; rw [ih] <;> rfl
theorem trace_snoc (cs : List Cmp) (c : Cmp) : ∀ r, trace (cs ++ [c]) r = trace cs r ++ [gone (cs ++ [c]) r] := by
  induction cs with
  | nil => intro r; rfl
  | cons d cs ih => intro r; show r :: trace (cs ++ [c]) (goC r d) = _; rw [ih] <;> rfl
theorem trace_take {cs : List Cmp} {i : Nat} {c : Cmp} (h : cs[i]? = some c) (r : Row) : trace (cs.take (i + 1)) r = trace (cs.take i) r ++ [gone (cs.take (i + 1)) r] := by
  rw [List.take_add_one, h]
  exact trace_snoc _ _ _
theorem trace_get (cs : List Cmp) : ∀ (r : Row) (i : Nat), i ≤ cs.length → (trace cs r)[i]? = some (gone (cs.take i) r) := by
  induction cs with
  | nil =>
    intro r i h
    have : i = 0 := by simpa using h
    subst this
    rfl
  | cons c cs ih =>
    intro r i h
    cases i with
    | zero => rfl
    | succ i =>
      show (trace cs (goC r c))[i]? = _
      rw [ih (goC r c) i (by simpa using h)] <;> rfl
theorem trace_last (cs : List Cmp) (r : Row) : (trace cs r)[cs.length]? = some (gone cs r) := by
  rw [trace_get cs r _ (Nat.le_refl _), List.take_length]
/-! ## Data: what == says -/
structure Enc {α : Type} [DecidableEq α] (enc : α → PyData) (k : Nat) : Prop where
  eq : ∀ a b, PyData.eqv (enc a) (enc b) = decide (a = b)
  lay : ∀ a, (enc a).canLay0 = true
  dep : ∀ a, (enc a).depth ≤ k
theorem Enc.shaped {α : Type} [DecidableEq α] {enc : α → PyData} {k : Nat} (h : Enc enc k) (hk : k ≤ 64) (a : α) : SeqAt.shaped (enc a) = true := by
  unfold SeqAt.shaped
  rw [h.lay a, decide_eq_true (Nat.le_trans (h.dep a) hk)] <;> rfl
def dL {α : Type} (enc : α → PyData) (xs : List α) : PyData := .list (xs.map enc)
theorem enc_all {α : Type} [DecidableEq α] {enc : α → PyData} {k : Nat} (h : Enc enc k) : ∀ xs ys : List α, PyData.eqvAll (xs.map enc) (ys.map enc) = decide (xs = ys)
  | [], [] => by simp [PyData.eqvAll]
  | [], _ :: _ => by simp [PyData.eqvAll]
  | _ :: _, [] => by simp [PyData.eqvAll]
  | x :: xs, y :: ys => by
    show (PyData.eqv (enc x) (enc y) && PyData.eqvAll (xs.map enc) (ys.map enc)) = _
    rw [h.eq, enc_all h xs ys, ← Bool.decide_and]
    congr 1
    simp
theorem lay_all {α : Type} {enc : α → PyData} (h : ∀ a, (enc a).canLay0 = true) : ∀ xs : List α, PyData.canLayAll0 (xs.map enc) = true
  | [] => rfl
  | x :: xs => by
    show ((enc x).canLay0 && PyData.canLayAll0 (xs.map enc)) = true
    rw [h x, lay_all h xs] <;> rfl
theorem dep_all {α : Type} {enc : α → PyData} {k : Nat} (h : ∀ a, (enc a).depth ≤ k) : ∀ xs : List α, PyData.depthAll (xs.map enc) ≤ k
  | [] => Nat.zero_le _
  | x :: xs => by
    show max (enc x).depth (PyData.depthAll (xs.map enc)) ≤ k
    have := h x
    have := dep_all h xs
    omega
theorem Enc.list {α : Type} [DecidableEq α] {enc : α → PyData} {k : Nat} (h : Enc enc k) : Enc (dL enc) (k + 1) where
  eq := fun a b => enc_all h a b
  lay := fun a => lay_all h.lay a
  dep := fun a => by
    show PyData.depthAll (a.map enc) + 1 ≤ k + 1
    have := dep_all h.dep a
    omega
theorem enc_int : Enc PyData.int 0 where
  eq := fun a b => by
    show (a == b) = _
    rw [Bool.beq_eq_decide_eq]
  lay := fun _ => rfl
  dep := fun _ => Nat.le_refl _
def dI : Row → PyData := dL PyData.int
theorem enc_row : Enc dI 1 := enc_int.list
def dC (c : Cmp) : PyData := .tuple [.int (c.1 : Int), .int (c.2 : Int)]
theorem enc_cmp : Enc dC 1 where
  eq := fun a b => by
    obtain ⟨a1, a2⟩ := a
    obtain ⟨b1, b2⟩ := b
    show (((a1 : Int) == (b1 : Int)) && (((a2 : Int) == (b2 : Int)) && true)) = _
    rw [Bool.and_true, Bool.beq_eq_decide_eq, Bool.beq_eq_decide_eq, ← Bool.decide_and]
    congr 1
    simp only [Prod.mk.injEq, Int.natCast_inj]
  lay := fun _ => rfl
  dep := fun _ => Nat.le_refl _
def dCs : List Cmp → PyData := dL dC
theorem enc_cmps : Enc dCs 2 := enc_cmp.list
def dRs : List Row → PyData := dL dI
theorem enc_rows : Enc dRs 2 := enc_row.list
section
variable {K : PySem.W.Frag} {H : Hp}
theorem dp_ints : ∀ r : Row, DpAll K H (vis r) (r.map PyData.int)
  | [] => .nil
  | i :: r => .cons (.int i) (dp_ints r)
theorem dp_row {a : Addr} {r : Row} (h : SqL K H a (vis r)) : Dp K H (.ref a) (dI r) := .lst h (dp_ints r)
theorem dp_cmp {p : Addr} {c : Cmp} (h : SqT K H p (V2 c)) : Dp K H (.ref p) (dC c) := .tup h (.cons (.int _) (.cons (.int _) .nil))
theorem dp_prs {ps : List Addr} {cs : List Cmp} (h : Prs K H ps cs) : DpAll K H (Rfs ps) (cs.map dC) := by
  induction h with
  | nil => exact .nil
  | cons r _ ih => exact .cons (dp_cmp r) ih
theorem dp_web {a : Addr} {ps : List Addr} {cs : List Cmp} (h : SqL K H a (Rfs ps)) (hp : Prs K H ps cs) : Dp K H (.ref a) (dCs cs) := .lst h (dp_prs hp)
abbrev Rws (K : PySem.W.Frag) (H : Hp) (qs : List Addr) (rs : List Row) : Prop := All2 (fun q r => SqL K H q (vis r)) qs rs
theorem dp_rws {qs : List Addr} {rs : List Row} (h : Rws K H qs rs) : DpAll K H (Rfs qs) (rs.map dI) := by
  induction h with
  | nil => exact .nil
  | cons r _ ih => exact .cons (dp_row r) ih
theorem dp_rows {a : Addr} {qs : List Addr} {rs : List Row} (h : SqL K H a (Rfs qs)) (hp : Rws K H qs rs) : Dp K H (.ref a) (dRs rs) := .lst h (dp_rws hp)
end
theorem Same.rws {K : PySem.W.Frag} {H H' : Hp} {qs : List Addr} {rs : List Row} (e : Same H H') (h : Rws K H qs rs) : Rws K H' qs rs := h.imp fun _ _ r => Same.seq e r
/-- lists of one's own, new behind H0 -/
abbrev Own (H0 H : Hp) (qs : List Addr) (rs : List Row) : Prop := All2 (fun q r => H0 q = none ∧ H q = some (.lst (vis r))) qs rs
theorem Own.rws {K : PySem.W.Frag} {H0 H : Hp} {qs : List Addr} {rs : List Row} (h : Own H0 H qs rs) : Rws K H qs rs := h.imp fun _ _ r => .inl (.inl r.2)
theorem Own.same {H0 H H' : Hp} {qs : List Addr} {rs : List Row} (e : Same H H') (h : Own H0 H qs rs) : Own H0 H' qs rs := h.imp fun _ _ r => ⟨r.1, e _ _ r.2⟩
theorem Own.back {H0 H1 H : Hp} {qs : List Addr} {rs : List Row} (e : Same H0 H1) (h : Own H1 H qs rs) : Own H0 H qs rs := h.imp fun _ _ r => ⟨e.free r.1, r.2⟩
theorem ints_at {r : Row} {k : Nat} (h : k < r.length) : (vis r)[k]? = some (.int (at0 r k)) := by
  unfold vis at0
  rw [List.getElem?_map, List.getElem?_eq_getElem h, List.getD_eq_getElem?_getD, List.getElem?_eq_getElem h] <;> rfl
theorem ints_set (r : Row) (k : Nat) (z : Int) : (vis r).set k (.int z) = vis (r.set k z) := by
  unfold vis
  rw [List.map_set]
theorem ints_len (r : Row) : (vis r).length = r.length := List.length_map ..
theorem row_ne {H : Hp} {q f : Addr} {r : Row} {qs : List Addr} (h : H q = some (.lst (vis r))) (hf : H f = some (.lst (Rfs qs))) (hr : r ≠ []) : q ≠ f := fun e => by
  subst e
  rw [h] at hf
  cases r with
  | nil => exact hr rfl
  | cons x r =>
    cases qs with
    | nil => cases hf
    | cons y qs => cases hf
theorem Own.upd {H0 H : Hp} {qs qs' : List Addr} {rs : List Row} {f : Addr} {o : HO} (h : Own H0 H qs rs) (hf : H f = some (.lst (Rfs qs'))) (hr : ∀ r ∈ rs, r ≠ []) : Own H0 (L2.upd H f o) qs rs := by
  induction h with
  | nil => exact .nil
  | cons r _ ih =>
    refine .cons ⟨r.1, ?_⟩ (ih fun r hr' => hr r (List.mem_cons_of_mem _ hr'))
    rw [upd_ne (row_ne r.2 hf (hr _ List.mem_cons_self))]
    exact r.2
theorem ne_of_len {r : Row} {n : Nat} (h : r.length = n) (hn : 1 ≤ n) : r ≠ [] := fun e => by
  subst e
  simp at h
  omega
theorem trace_all (cs : List Cmp) : ∀ (r s : Row), s ∈ trace cs r → s.length = r.length := by
  induction cs with
  | nil =>
    intro r s h
    rw [List.mem_singleton.mp h]
  | cons c cs ih =>
    intro r s h
    rcases List.mem_cons.mp h with e | h
    · rw [e]
    · rw [ih (goC r c) s h, goC_len]
section
variable {K : PySem.W.Frag} {σ : L2.St} {H : Hp} {D : Ends} {tb : TS} {j1 : Nat}
/-- for i in range(lo, hi, c): n turns -/
theorem for_rng3 {ta : TA} {lo hi c : Int} {n : Nat} (ht : ∀ Q, Q [V.int lo, V.int hi, V.int c] H → ta σ H Q) (hn : RgC lo hi c n) (Pv : Nat → L2.St → Hp → Prop) (h0 : Pv 0 σ H)
    (turn : ∀ (i : Nat) σ H, i < n → Pv i σ H → tb { D with nx := Pv (i + 1), ct := Pv (i + 1), bk := D.nx } (σ.set j1 (some (.int (lo + (i : Int) * c)))) H)
    (done : ∀ σ H, Pv n σ H → D.nx σ H) : tFor (iRng3 ta) (gName j1) tb D σ H := by
  refine ht _ ⟨lo, hi, c, n, rfl, hn, it_for (n := n) Pv h0 (fun i σ H hi p => hi) (fun σ H p => Nat.le_refl _) (fun i σ H hi p v H' y => ?_) done⟩
  obtain ⟨rfl, rfl⟩ := y
  exact turn i σ H' hi p
end
/-- a drawn item of four -/
theorem pick4 {a b c d : V} {n : Int} (h : 0 ≤ n) : ∃ v, atI [a, b, c, d] (n % 4) = some v ∧ (v = a ∨ v = b ∨ v = c ∨ v = d) := by
  have e : n % 4 = ((0 : Nat) : Int) ∨ n % 4 = ((1 : Nat) : Int) ∨ n % 4 = ((2 : Nat) : Int) ∨ n % 4 = ((3 : Nat) : Int) := by omega
  rcases e with e | e | e | e <;> rw [e]
  · exact ⟨a, rfl, .inl rfl⟩
  · exact ⟨b, rfl, .inr (.inl rfl)⟩
  · exact ⟨c, rfl, .inr (.inr (.inl rfl))⟩
  · exact ⟨d, rfl, .inr (.inr (.inr rfl))⟩
/-- an open place of a list -/
theorem drawn_at {n m : Int} (h : 0 < m) : ∃ k : Nat, n % m = (k : Int) ∧ (k : Int) < m := by
  have a0 := Int.emod_nonneg n (Int.ne_of_gt h)
  have a1 := Int.emod_lt_of_pos n h
  exact ⟨(n % m).toNat, by omega, by omega⟩
section
variable {K : PySem.W.Frag} {σ : L2.St} {H : Hp} {D : Ends} {tb : TS} {te : TE} {a b : Addr} {xs ys : List V} {j1 j2 : Nat} {Q : VK}
/-- for j1, j2 in enumerate(..), the list come to a -/
theorem enum_in (hx : SqL K H a xs) (Pv : Nat → L2.St → Hp → Prop) (h0 : Pv 0 σ H) (hl : ∀ i σ H, i ≤ xs.length → Pv i σ H → SqL K H a xs)
    (turn : ∀ i x σ H H', xs[i]? = some x → i < xs.length → Pv i σ H → Same H H' → tb { D with nx := Pv (i + 1), ct := Pv (i + 1), bk := D.nx } ((σ.set j1 (some (.int (i : Int)))).set j2 (some x)) H')
    (done : ∀ σ H, Pv xs.length σ H → D.nx σ H) :
    ∃ a' xs', [V.ref a] = [V.ref a'] ∧ SqL K H a' xs' ∧ ∃ W : Nat → Nat → L2.St → Hp → Prop, (∃ m, W 0 m σ H) ∧ ∀ i m σ H, W i m σ H → ((Ite K a').stop i H ∧ D.nx σ H) ∨ ((Ite K a').go i H ∧ ∃ N : L2.St → Hp → Prop,
      (∀ σ' H', N σ' H' → ∃ m', m' < m ∧ W (i + 1) m' σ' H') ∧ ∀ x H', (Ite K a').yld i H x H' → gTup K 2 (gCons (gName j1) (gCons (gName j2) gNil)) x σ H' fun σ2 H2 => tb { D with nx := N, ct := N, bk := D.nx } σ2 H2) := by
  refine ⟨a, xs, rfl, hx, it_for (n := xs.length) Pv h0 (fun i σ H hi p => ?_) (fun σ H p => ?_) (fun i σ H hi p v H' y => ?_) done⟩
  · obtain ⟨x, hx⟩ := get_of hi
    exact ⟨xs, x, hl i σ H (Nat.le_of_lt hi) p, hx⟩
  · exact ⟨xs, hl _ σ H (Nat.le_refl _) p, Nat.le_refl _⟩
  · obtain ⟨T, x, rfl, nT, rfl, f⟩ := y
    exact g2_run (.inl (.inl upd_same)) (turn i x σ H _ (f xs (hl i σ H (Nat.le_of_lt hi) p)) hi p (same_new nT))
/-- [.. for j1, j2 in zip(x, y)], lists at a and b of one length -/
theorem lc_zip2 {tt : TT} {k1 k2 : Nat} {vs : List Nat} (h1 : σ[k1]? = some (some (.ref a))) (h2 : σ[k2]? = some (some (.ref b))) (hx : SqL K H a xs) (hy : SqL K H b ys) (hz : xs.length = ys.length)
    (hvs : ∀ v w, wipe (((wipe σ vs).set j1 v).set j2 w) vs = wipe σ vs)
    (G : Addr → Nat → List V → Hp → Prop) (h0 : ∀ D, H D = none → G D 0 [] (upd H D (.lst []))) (hl : ∀ D i acc H', H D = none → G D i acc H' → SqL K H' a xs ∧ SqL K H' b ys)
    (turn : ∀ D i x y acc H' H2, H D = none → xs[i]? = some x → ys[i]? = some y → i < xs.length → H' D = some (.lst acc) → G D i acc H' → Same H' H2 → Turn tt te D (G D) i (((wipe σ vs).set j1 (some x)).set j2 (some y)) H2)
    (done : ∀ D acc H', H D = none → H' D = some (.lst acc) → G D xs.length acc H' → Q (.ref D) H') :
    tLc (iZip K (tCons (tVar k1) (tCons (tVar k2) tNil))) (gTup K 2 (gCons (gName j1) (gCons (gName j2) gNil))) tt te vs σ H Q := by
  refine ⟨.ref a, h1, .ref b, h2, a, b, xs, ys, rfl, hx, hy, fun D nD => ?_⟩
  refine it_lc (n := xs.length) (So D (G D)) ⟨[], upd_same, h0 D nD⟩ (fun i H' hi p => ?_) (fun H' p => ?_) (fun i H' hi p v H2 y => ?_) (fun H' p => ?_)
  · obtain ⟨acc, _, g⟩ := p
    obtain ⟨x, gx⟩ := get_of hi
    obtain ⟨y, gy⟩ := get_of (xs := ys) (i := i) (by omega)
    obtain ⟨q1, q2⟩ := hl D _ _ _ nD g
    exact ⟨xs, ys, x, y, q1, q2, gx, gy⟩
  · obtain ⟨acc, _, g⟩ := p
    obtain ⟨q1, q2⟩ := hl D _ _ _ nD g
    exact ⟨xs, ys, q1, q2, .inl (Nat.le_refl _)⟩
  · obtain ⟨acc, hD, g⟩ := p
    obtain ⟨T, x, y, rfl, nT, rfl, f1, f2⟩ := y
    obtain ⟨q1, q2⟩ := hl D _ _ _ nD g
    exact g2_run (.inl (.inl upd_same)) ⟨hvs _ _, turn D i x y acc H' _ nD (f1 xs q1) (f2 ys q2) hi hD g (same_new (o := .tup [x, y]) nT)⟩
  · obtain ⟨acc, hD, g⟩ := p
    exact done D acc H' nD hD g
end
theorem atI_end {α : Type} {xs : List α} {v : α} {n : Nat} (h : xs[n]? = some v) (hl : xs.length = n + 1) : atI xs (-1) = some v := by
  have lt : n < xs.length := by omega
  have e : xs = xs.take n ++ [v] := by
    have h1 : xs.take (n + 1) = xs := List.take_of_length_le (by omega)
    rw [List.take_add_one, h] at h1
    exact h1.symm
  rw [e]
  exact atI_last _ _
theorem eqv_refl2 {α β : Type} [DecidableEq α] [DecidableEq β] {ea : α → PyData} {eb : β → PyData} {k l : Nat} (h1 : Enc ea k) (h2 : Enc eb l) (x : α) (y : β) : PyData.eqv (.list [ea x, eb y]) (.list [ea x, eb y]) = true := by
  show (PyData.eqv (ea x) (ea x) && (PyData.eqv (eb y) (eb y) && true)) = true
  rw [h1.eq, h2.eq, decide_eq_true rfl, decide_eq_true rfl] <;> rfl
theorem shaped2 {α β : Type} [DecidableEq α] [DecidableEq β] {ea : α → PyData} {eb : β → PyData} {k l : Nat} (h1 : Enc ea k) (h2 : Enc eb l) (hk : k ≤ 63) (hl : l ≤ 63) (x : α) (y : β) : SeqAt.shaped (.list [ea x, eb y]) = true := by
  have e1 := h1.dep x
  have e2 := h2.dep y
  have d : PyData.depth (.list [ea x, eb y]) ≤ 64 := by
    show max (ea x).depth (max (eb y).depth 0) + 1 ≤ 64
    omega
  have l1 : PyData.canLay0 (.list [ea x, eb y]) = true := by
    show ((ea x).canLay0 && ((eb y).canLay0 && true)) = true
    rw [h1.lay, h2.lay] <;> rfl
  unfold SeqAt.shaped
  rw [l1, decide_eq_true d] <;> rfl
/-- isinstance(x, T) of a list of ours -/
theorem isi_lst {K : PySem.W.Frag} {H : Hp} {a : Addr} {xs : List V} {Q : VK} (h : H a = some (.lst xs)) (q : Q (.bl true) H) : rIsi K [.ref a, .ty "list"] H Q :=
  ⟨.ref a, .ty "list", .type "list", .type "list", true, rfl, .ty _, .base (.lst h), kit_ty (by decide +kernel), q⟩
theorem isi_int_bool {K : PySem.W.Frag} {H : Hp} {z : Int} {Q : VK} (q : Q (.bl false) H) : rIsi K [.int z, .ty "bool"] H Q :=
  ⟨.int z, .ty "bool", .type "int", .type "bool", false, rfl, .ty _, .base (.int z), kit_ty (by decide +kernel), q⟩
theorem isi_int_int {K : PySem.W.Frag} {H : Hp} {z : Int} {Q : VK} (q : Q (.bl true) H) : rIsi K [.int z, .ty "int"] H Q :=
  ⟨.int z, .ty "int", .type "int", .type "int", true, rfl, .ty _, .base (.int z), kit_ty (by decide +kernel), q⟩
end Sw

set_option Elab.async false
set_option linter.all false
set_option maxRecDepth 100000
set_option maxHeartbeats 4000000
namespace Sw
open PySem PySem.Spec PyProof.Rows L2
/-! ## Texts as lists of signs -/
def sg (x : Str) : List Nat := x.cps.toList
def tx (l : List Nat) : Str := ⟨l.toArray⟩
theorem sg_tx (l : List Nat) : sg (tx l) = l := rfl
theorem tx_sg (x : Str) : tx (sg x) = x := by
  obtain ⟨⟨l⟩⟩ := x
  rfl
theorem sg_inj {x y : Str} (h : sg x = sg y) : x = y := by rw [← tx_sg x, ← tx_sg y, h]
theorem sg_len (x : Str) : x.length = (sg x).length := by
  obtain ⟨⟨l⟩⟩ := x
  rfl
/-- where the sign c stands in l, counted from k -/
def hits (c : Nat) : List Nat → Nat → List Nat
  | [], _ => []
  | a :: l, k => if a = c then k :: hits c l (k + 1) else hits c l (k + 1)
open Builtin Builtin.Str in
theorem sub_one (x : Str) (c i : Nat) : (i + 1 ≤ x.length ∧ subAt x ⟨#[c]⟩ i = true) ↔ (sg x)[i]? = some c := by
  obtain ⟨⟨l⟩⟩ := x
  show (i + 1 ≤ l.length ∧ _) ↔ l[i]? = some c
  unfold subAt
  have e1 : (⟨#[c]⟩ : Str).length = 1 := rfl
  rw [e1]
  simp only [List.extract_toArray, beq_iff_eq]
  constructor
  · rintro ⟨h1, h2⟩
    have h3 : (List.extract l i (i + 1)) = [c] := by
      have := congrArg Array.toList h2
      simpa using this
    rw [List.extract_eq_drop_take] at h3
    have h4 : i < l.length := by omega
    rw [List.getElem?_eq_getElem h4]
    have h5 : (l.drop i).take (i + 1 - i) = [l[i]] := by
      rw [show i + 1 - i = 1 by omega, List.drop_eq_getElem_cons h4] <;> rfl
    rw [h5] at h3
    rw [List.cons.inj h3 |>.1]
  · intro h
    obtain ⟨h4, h5⟩ := List.getElem?_eq_some_iff.mp h
    refine ⟨by omega, ?_⟩
    have h6 : List.extract l i (i + 1) = [c] := by
      rw [List.extract_eq_drop_take, show i + 1 - i = 1 by omega, List.drop_eq_getElem_cons h4, h5] <;> rfl
    rw [h6]
open Builtin Builtin.Str in
theorem occ_run (x : Str) (c limit : Nat) : ∀ (r : List Nat) (k : Nat) (arr : Array Nat) (free : Nat), (sg x).drop k = r → free ≤ k →
    (forIn (List.range' k (r.length + 1)) (arr, free) (StrLaws.occBody x ⟨#[c]⟩ x.length limit)).run.fst.toList = arr.toList ++ (hits c r k).take (limit - arr.size)
  | [], k, arr, free, e, hf => by
    have hk : (sg x).length ≤ k := List.drop_eq_nil_iff.mp e
    rw [show List.range' k (([] : List Nat).length + 1) = [k] from rfl, List.forIn_cons]
    unfold StrLaws.occBody
    rw [if_neg (fun h => by
      have h2 : k + 1 ≤ x.length := h.1.2
      rw [sg_len] at h2
      omega)]
    show arr.toList = arr.toList ++ (hits c [] k).take (limit - arr.size)
    simp [hits]
  | a :: r, k, arr, free, e, hf => by
    have hk : (sg x)[k]? = some a := by
      have := congrArg (fun l => l[0]?) e
      simpa using this
    have e2 : (sg x).drop (k + 1) = r := by
      rw [← List.drop_drop, e] <;> rfl
    rw [show List.range' k ((a :: r).length + 1) = k :: List.range' (k + 1) (r.length + 1) from rfl, List.forIn_cons]
    unfold hits
    by_cases hc : a = c
    · subst hc
      rw [if_pos rfl]
      have h1 := (sub_one x a k).mpr hk
      by_cases hl : arr.size < limit
      · conv => lhs; unfold StrLaws.occBody
        rw [if_pos ⟨⟨⟨hl, hf⟩, h1.1⟩, h1.2⟩]
        have ih := occ_run x a limit r (k + 1) (arr.push k) (k + 1) e2 (Nat.le_refl _)
        refine Eq.trans ih ?_
        rw [Array.toList_push, Array.size_push, show limit - arr.size = (limit - (arr.size + 1)) + 1 by omega, List.take_succ_cons, List.append_assoc] <;> rfl
      · conv => lhs; unfold StrLaws.occBody
        rw [if_neg (fun h => hl h.1.1.1)]
        have ih := occ_run x a limit r (k + 1) arr free e2 (by omega)
        refine Eq.trans ih ?_
        rw [show limit - arr.size = 0 by omega, List.take_zero, List.take_zero]
    · rw [if_neg hc]
      conv => lhs; unfold StrLaws.occBody
      rw [if_neg (fun h => hc (Option.some.inj (hk.symm.trans ((sub_one x c k).mp ⟨h.1.2, h.2⟩))))]
      exact occ_run x c limit r (k + 1) arr free e2 (by omega)
theorem occ_sign (x : Str) (c limit : Nat) : Builtin.Str.occurrences x ⟨#[c]⟩ 0 x.length limit = (hits c (sg x) 0).take limit := by
  rw [StrLaws.occ_eq, sg_len, Nat.sub_zero]
  have h := occ_run x c limit (sg x) 0 #[] 0 rfl (Nat.le_refl _)
  rw [sg_len] at h
  simpa using h
theorem hits_len (c : Nat) : ∀ (l : List Nat) (k : Nat), (hits c l k).length ≤ l.length
  | [], _ => Nat.le_refl _
  | a :: l, k => by
    unfold hits
    have := hits_len c l (k + 1)
    split
    · rw [List.length_cons, List.length_cons]; omega
    · rw [List.length_cons]; omega
/-- l cut at each sign c -/
def cutOn (c : Nat) : List Nat → List (List Nat)
  | [] => [[]]
  | a :: l => if a = c then [] :: cutOn c l else match cutOn c l with
    | h :: t => (a :: h) :: t
    | [] => [[a]]
theorem cutOn_ne (c : Nat) : ∀ l, cutOn c l ≠ []
  | [] => by simp [cutOn]
  | a :: l => by
    unfold cutOn
    split
    · simp
    · split <;> simp
/-- p ahead of the first part -/
def ahead (p : List Nat) : List (List Nat) → List (List Nat)
  | h :: t => (p ++ h) :: t
  | [] => [p]
theorem extract_sg (x : Str) (i j : Nat) : sg (Builtin.Str.strSub x i j) = ((sg x).drop i).take (j - i) := by
  obtain ⟨⟨l⟩⟩ := x
  show (Array.extract l.toArray i j).toList = _
  rw [List.extract_toArray, List.extract_eq_drop_take] <;> rfl
theorem parts_run (x : Str) (c : Nat) : ∀ (r : List Nat) (s k : Nat), (sg x).drop k = r → s ≤ k →
    (((s :: (hits c r k).map (· + 1)).zip (hits c r k ++ [x.length])).map fun (q : Nat × Nat) => sg (Builtin.Str.strSub x q.1 q.2)) = ahead (((sg x).drop s).take (k - s)) (cutOn c r)
  | [], s, k, e, hs => by
    have hk : (sg x).length ≤ k := List.drop_eq_nil_iff.mp e
    show [sg (Builtin.Str.strSub x s x.length)] = [((sg x).drop s).take (k - s) ++ []]
    rw [extract_sg, sg_len, List.append_nil, List.take_of_length_le (by rw [List.length_drop]; omega), List.take_of_length_le (by rw [List.length_drop]; omega)]
  | a :: r, s, k, e, hs => by
    have hk : (sg x)[k]? = some a := by
      have := congrArg (fun l => l[0]?) e
      simpa using this
    have e2 : (sg x).drop (k + 1) = r := by
      rw [← List.drop_drop, e] <;> rfl
    unfold hits cutOn
    by_cases hc : a = c
    · rw [if_pos hc, if_pos hc]
      have ih := parts_run x c r (k + 1) (k + 1) e2 (Nat.le_refl _)
      show sg (Builtin.Str.strSub x s k) :: ((((k + 1) :: (hits c r (k + 1)).map (· + 1)).zip (hits c r (k + 1) ++ [x.length])).map fun (q : Nat × Nat) => sg (Builtin.Str.strSub x q.1 q.2)) = _
      rw [ih, extract_sg, Nat.sub_self, List.take_zero]
      show _ = (((sg x).drop s).take (k - s) ++ []) :: cutOn c r
      rw [List.append_nil]
      congr 1
      have := cutOn_ne c r
      revert this
      cases cutOn c r with
      | nil => intro h; exact absurd rfl h
      | cons h t => intro _; rfl
    · rw [if_neg hc, if_neg hc]
      have ih := parts_run x c r s (k + 1) e2 (by omega)
      rw [ih]
      have pre : ((sg x).drop s).take (k + 1 - s) = ((sg x).drop s).take (k - s) ++ [a] := by
        rw [show k + 1 - s = (k - s) + 1 by omega, List.take_add_one]
        congr 1
        rw [List.getElem?_drop, show s + (k - s) = k by omega, hk] <;> rfl
      rw [pre]
      have := cutOn_ne c r
      revert this
      cases cutOn c r with
      | nil => intro h; exact absurd rfl h
      | cons h t =>
        intro _
        show ((((sg x).drop s).take (k - s) ++ [a]) ++ h) :: t = (((sg x).drop s).take (k - s) ++ (a :: h)) :: t
        rw [List.append_assoc] <;> rfl
/-- text.split(sign) -/
theorem split_sign (x : Str) (c : Nat) (hc : c < 256) : (Txt.split x ⟨#[c]⟩).map sg = cutOn c (sg x) := by
  have kind : Builtin.Str.strKind (⟨#[c]⟩ : Str) = 1 := by
    unfold Builtin.Str.strKind
    rw [if_pos (by simp [hc])]
  have pos : ∀ y : Str, 1 ≤ Builtin.Str.strKind y := fun y => by
    unfold Builtin.Str.strKind
    split
    · exact Nat.le_refl _
    · split <;> decide
  have many : (hits c (sg x) 0).take (x.length + 1) = hits c (sg x) 0 := List.take_of_length_le (by rw [sg_len]; exact Nat.le_succ_of_le (hits_len c _ 0))
  have run := parts_run x c (sg x) 0 0 rfl (Nat.le_refl _)
  have start : ahead (((sg x).drop 0).take (0 - 0)) (cutOn c (sg x)) = cutOn c (sg x) := by
    rw [Nat.sub_self, List.take_zero]
    have := cutOn_ne c (sg x)
    revert this
    cases cutOn c (sg x) with
    | nil => intro h; exact absurd rfl h
    | cons h t => intro _; rfl
  rw [start] at run
  unfold Txt.split
  rw [occ_sign, many]
  have zero : hits c (sg x) 0 = [] → [x].map sg = cutOn c (sg x) := fun h => by
    rw [h] at run
    rw [← run]
    show [sg x] = [sg (Builtin.Str.strSub x 0 x.length)]
    rw [extract_sg, List.drop_zero, Nat.sub_zero, sg_len, List.take_length]
  split
  · rename_i h
    have h2 : x.length < 1 := by
      have h3 := pos x
      simp only [Bool.or_eq_true, decide_eq_true_eq] at h
      rcases h with h | h
      · exact h
      · rw [kind] at h
        omega
    refine zero ?_
    have := hits_len c (sg x) 0
    rw [← sg_len] at this
    exact List.eq_nil_of_length_eq_zero (by omega)
  · split
    · rename_i h
      refine zero ?_
      simpa using h
    · unfold Builtin.Str.partsBetween
      rw [List.map_map]
      exact run
/-- text.partition(sign) -/
def part1 (c : Nat) : List Nat → List Nat × Bool × List Nat
  | [] => ([], false, [])
  | a :: l => if a = c then ([], true, l) else (a :: (part1 c l).1, (part1 c l).2.1, (part1 c l).2.2)
theorem hits_head (c : Nat) : ∀ (l : List Nat) (k : Nat), (hits c l k = [] → part1 c l = (l, false, [])) ∧ ∀ i t, hits c l k = i :: t → k ≤ i ∧ part1 c l = (l.take (i - k), true, l.drop (i - k + 1))
  | [], k => ⟨fun _ => rfl, fun i t h => nomatch h⟩
  | a :: l, k => by
    have ih := hits_head c l (k + 1)
    unfold hits part1
    by_cases hc : a = c
    · rw [if_pos hc, if_pos hc]
      refine ⟨(fun h => nomatch h), fun i t h => ?_⟩
      obtain ⟨rfl, rfl⟩ := List.cons.inj h
      refine ⟨Nat.le_refl _, ?_⟩
      rw [Nat.sub_self] <;> rfl
    · rw [if_neg hc, if_neg hc]
      refine ⟨fun h => ?_, fun i t h => ?_⟩
      · rw [ih.1 h]
      · obtain ⟨h1, h2⟩ := ih.2 i t h
        refine ⟨by omega, ?_⟩
        rw [h2, show i - k = (i - (k + 1)) + 1 by omega, List.take_succ_cons, List.drop_succ_cons]
theorem partition_sign (x : Str) (c : Nat) : sg (Txt.partition x ⟨#[c]⟩).1 = (part1 c (sg x)).1 ∧ (Txt.partition x ⟨#[c]⟩).2.1 = (if (part1 c (sg x)).2.1 = true then ⟨#[c]⟩ else Str.empty) ∧ sg (Txt.partition x ⟨#[c]⟩).2.2 = (part1 c (sg x)).2.2 := by
  have hh := hits_head c (sg x) 0
  unfold Txt.partition
  rw [occ_sign]
  cases e : hits c (sg x) 0 with
  | nil =>
    rw [List.take_nil, hh.1 e]
    exact ⟨rfl, rfl, rfl⟩
  | cons i t =>
    rw [List.take_succ_cons]
    obtain ⟨_, h2⟩ := hh.2 i t e
    rw [Nat.sub_zero] at h2
    rw [h2]
    refine ⟨?_, rfl, ?_⟩
    · show sg (Builtin.Str.strSub x 0 i) = _
      rw [extract_sg, List.drop_zero, Nat.sub_zero]
    · show sg (Builtin.Str.strSub x (i + 1) x.length) = _
      rw [extract_sg, sg_len, List.take_of_length_le (by rw [List.length_drop]; exact Nat.le_refl _)]
end Sw

set_option Elab.async false
set_option linter.all false
set_option maxRecDepth 100000
set_option maxHeartbeats 4000000
namespace Sw
open PySem PySem.Spec PyProof.Rows L2
/-! ## x * n of a text -/
def repS (z : Str) (k : Nat) : Str := tx (List.replicate k (sg z)).flatten
theorem fold_app (x : Array Nat) : ∀ (k : Nat) (a : Array Nat), ((List.replicate k x).foldl (· ++ ·) a).toList = a.toList ++ (List.replicate k x.toList).flatten
  | 0, a => by simp
  | k + 1, a => by
    rw [List.replicate_succ, List.foldl_cons, fold_app x k (a ++ x), List.replicate_succ, List.flatten_cons, Array.toList_append, List.append_assoc]
theorem len_flat (l : List Nat) : ∀ k : Nat, (List.replicate k l).flatten.length = l.length * k
  | 0 => by simp
  | k + 1 => by
    rw [List.replicate_succ, List.flatten_cons, List.length_append, len_flat l k, Nat.mul_succ]
    omega
def rMulS : R2 := fun x y H Q => ∃ (z : Str) (n : Nat), x = .str z ∧ y = .int (n : Int) ∧ n ≤ 1000 ∧ z.length ≤ 10000 ∧ Q (.str (repS z n)) H
theorem op_mulS {X : Cx} : OpR X (binaryOp .Mult) rMulS := by
  intro pins s σ H x y v u Q I rx ry h
  obtain ⟨z, n, rfl, rfl, hn, hz, q⟩ := h
  obtain ⟨t, rfl⟩ := rx
  obtain ⟨t', rfl⟩ := ry
  have few : z.length * n ≤ 10000000 := Nat.le_trans (Nat.mul_le_mul hz hn) (by decide)
  refine P.mul_str ?_ (fun h1 h2 => ?_) (fun h1 h2 => ?_) ?_
  · rw [decide_eq_false (by omega), decide_eq_false (by omega)] <;> rfl
  · intro h3
    have h4 : ((z.length : Int) + 1) * (n : Int) ≤ 2 ^ 63 - 1 := by
      have h5 : (((z.length + 1) * n : Nat) : Int) ≤ 10001000 := by
        have := Nat.mul_le_mul (show z.length + 1 ≤ 10001 by omega) hn
        omega
      have h6 : ((z.length : Int) + 1) * (n : Int) = (((z.length + 1) * n : Nat) : Int) := by
        rw [Int.natCast_mul] <;> rfl
      rw [h6]
      omega
    have := Int.le_ediv_of_mul_le (by omega) h4
    omega
  · unfold Builtin.Str.tooLong
    rw [Int.toNat_natCast]
    simp only [decide_eq_false_iff_not, gt_iff_lt]
    have := sizeLine_eq
    omega
  · rw [Int.toNat_natCast]
    have e0 : n < 1 → repS z n = Str.empty := fun h => by
      have : n = 0 := by omega
      subst this
      rfl
    split
    · rename_i h
      refine ⟨by decide, ?_⟩
      rw [e0 (by omega)] at q
      exact ⟨.str Str.empty, H, I.tok _, ⟨_, rfl⟩, q⟩
    · split
      · rename_i h1 h2
        have e : repS z n = z := by
          rcases Bool.or_eq_true_iff.mp h2 with h3 | h3
          · have : n = 1 := by
              have := beq_iff_eq.mp h3
              omega
            subst this
            show tx ([sg z].flatten) = z
            rw [List.flatten_singleton, tx_sg]
          · have hl := beq_iff_eq.mp h3
            rw [sg_len] at hl
            have hs : sg z = [] := List.length_eq_zero_iff.mp hl
            apply sg_inj
            unfold repS
            rw [sg_tx, hs]
            simp
        rw [e] at q
        exact ⟨.str z, H, I, ⟨t, rfl⟩, q⟩
      · have e : (⟨(List.replicate n z.cps).foldl (· ++ ·) #[]⟩ : Str) = repS z n := by
          apply sg_inj
          unfold repS
          rw [sg_tx]
          show ((List.replicate n z.cps).foldl (· ++ ·) #[]).toList = _
          rw [fold_app] <;> rfl
        rw [e]
        refine ⟨?_, ?_⟩
        · unfold repS
          rw [sg_len, sg_tx, len_flat, ← sg_len]
          have := sizeLine_eq
          omega
        · exact ⟨.str (repS z n), H, I.tok _, ⟨_, rfl⟩, q⟩
/-! ## names of classes -/
section
variable {X : Cx}
theorem pe_cls {x : Str} {pos : Pos} (h : X.mg x = some (.ref (He.ga X.K x))) (hg : Gl X x) (hd : (x == ("__debug__" : Str)) = false := by decide) : PE X (.Name x pos) (tC (.ref (He.ga X.K x))) := pe_glob hg h rfl hd
theorem nm_cls {x : Str} (h : X.mg x = some (.ref (He.ga X.K x))) (hg : Gl X x) (hd : (x == ("__debug__" : Str)) = false := by decide) : Names X x (.ref (He.ga X.K x)) := ⟨hg, hd, .inl h⟩
end
/-! ## readings of trys -/
def tTryT (K : PySem.W.Frag) (c1 c2 : Value) (tb : WX → TS) (ts : Addr → Value → Option Addr → TS) : TS := fun D σ H => tb (wTup K c1 c2 ts D) D σ H
def tTryK (K : PySem.W.Frag) (c : Value) (i : Nat) (tb : WX → TS) (ts : Addr → Value → Option Addr → TS) : TS := fun D σ H => tb (wKeep K c i ts D) D σ H
def tJoin (ts : List TE) : TE := fun σ H Q => tJs ts Str.empty σ H fun out H1 => Q (.str out) H1
def kStrI : List V → Hp → VK → Prop := fun xs H Q => ∃ i : Int, xs = [.int i] ∧ i.natAbs.log2 < 1920 ∧ Q (.str (toString i)) H
def kIntS : List V → Hp → VK → Prop := fun xs H Q => ∃ (a : Str) (n : Int), xs = [.str a] ∧ PySem.intText? a = some n ∧ a.length ≤ 640 ∧ Q (.int n) H
def kLenS : List V → Hp → VK → Prop := fun xs H Q => ∃ z : Str, xs = [.str z] ∧ z.length ≤ sizeLine ∧ Q (.int z.length) H
def mSplit : V → List V → Hp → VK → Prop := fun x xs H Q => ∃ a b : Str, x = .str a ∧ xs = [.str b] ∧ (b.length == 0) = false ∧ a.length + 2 ≤ sizeLine ∧ rNewStrs (Txt.split a b) H Q
def mPart : V → List V → Hp → VK → Prop := fun x xs H Q => ∃ a b : Str, x = .str a ∧ xs = [.str b] ∧ (b.length == 0) = false ∧ a.length ≤ sizeLine ∧ ∀ p, H p = none → Q (.ref p) (upd H p (.tup [.str (Txt.partition a b).1, .str (Txt.partition a b).2.1, .str (Txt.partition a b).2.2]))
def mJoin (K : PySem.W.Frag) : V → List V → Hp → VK → Prop := fun x xs H Q => ∃ a p, ∃ ys : List Str, x = .str a ∧ xs = [.ref p] ∧ (SqL K H p (ys.map V.str) ∨ SqT K H p (ys.map V.str)) ∧ (ys.map (·.length)).sum + ys.length * a.length ≤ 16777216 ∧ Q (.str (Txt.join a ys)) H
def mIndex : V → List V → Hp → VK → Prop := fun x xs H Q => ∃ (a b : Str) (i : Nat) (rest : List Nat), x = .str a ∧ xs = [.str b] ∧ Builtin.Str.occurrences a b 0 a.length 1 = i :: rest ∧ Q (.int (i : Int)) H
def oNotInC : R2 := fun x y H Q => ∃ (c : Nat) (z : Str), x = .str ⟨#[c]⟩ ∧ y = .str z ∧ Q (.bl (!decide (c ∈ sg z))) H
def oInC : R2 := fun x y H Q => ∃ (c : Nat) (z : Str), x = .str ⟨#[c]⟩ ∧ y = .str z ∧ Q (.bl (decide (c ∈ sg z))) H
section
variable {X : Cx}
theorem op_inC : OpR X (compareOp .In) oInC := op_in_sign
theorem cl_strI : CallR X (.type "str") kStrI := call_str_int
theorem cl_lenS : CallR X (.builtin "len") kLenS := call_len_str
theorem cl_intS : CallR X (.type "int") kIntS := call_int_str
theorem md_split : MtR X "str.split" mSplit := mt_split
theorem md_part : MtR X "str.partition" mPart := mt_partition
theorem md_join : MtR X "str.join" (mJoin X.K) := mt_join
theorem md_index : MtR X "str.index" mIndex := mt_sindex
theorem op_notInC : OpR X (compareOp .NotIn) oNotInC := op_notIn_sign
end
/-! ## an error's __init__ -/
def InitOk (P : Program) (w : World) (K : PySem.W.Frag) (mg : Str → Option Value) (base : Heap) (k : Nat) (x f : Str) : Prop := ∃ fd : FuncData, FnOk P w K mg base CX0 k (He.ma K (He.ga K x) "__init__") fd ["self", f] (spInit K (He.ga K x) f) ∧ Binds K fd ["self", f] []
end Sw

set_option Elab.async false
set_option linter.all false
set_option maxRecDepth 100000
set_option maxHeartbeats 4000000
namespace Sw
open PySem PySem.Spec PyProof.Rows L2 PySem.NumText
/-! ## Numbers as signs -/
def numT (k : Nat) : List Nat := if k < 10 then [48 + k] else [49, 48]
theorem num_str : ∀ k : Nat, k ≤ 10 → sg (Str.ofString (toString (k : Int))) = numT k
  | 0, _ => by decide +kernel
  | 1, _ => by decide +kernel
  | 2, _ => by decide +kernel
  | 3, _ => by decide +kernel
  | 4, _ => by decide +kernel
  | 5, _ => by decide +kernel
  | 6, _ => by decide +kernel
  | 7, _ => by decide +kernel
  | 8, _ => by decide +kernel
  | 9, _ => by decide +kernel
  | 10, _ => by decide +kernel
  | k + 11, h => by omega
theorem num_inj {j k : Nat} (hj : j ≤ 10) (hk : k ≤ 10) (h : numT j = numT k) : j = k := by
  unfold numT at h
  split at h <;> split at h <;> simp at h <;> omega
theorem num_sign {k : Nat} (hk : k ≤ 10) : ∀ c ∈ numT k, 48 ≤ c ∧ c ≤ 57 := by
  unfold numT
  split <;> simp <;> omega
theorem num_ne (k : Nat) : numT k ≠ [] := by
  unfold numT
  split <;> simp
theorem num_len (k : Nat) : (numT k).length ≤ 2 := by
  unfold numT
  split <;> simp
/-- the number from 0 to 10 that the word is the figures of -/
def readN (w : List Nat) : Option Nat := (List.range 11).find? fun k => decide (w = numT k)
theorem readN_some {w : List Nat} {k : Nat} (h : readN w = some k) : k ≤ 10 ∧ w = numT k := by
  have h1 := List.find?_some h
  have h2 := List.mem_of_find?_eq_some h
  exact ⟨by have := List.mem_range.mp h2; omega, of_decide_eq_true h1⟩
theorem readN_none {w : List Nat} (h : readN w = none) (k : Nat) (hk : k ≤ 10) : w ≠ numT k := fun e => by
  have := List.find?_eq_none.mp h k (List.mem_range.mpr (by omega))
  exact this (decide_eq_true e)
theorem readN_of {w : List Nat} {k : Nat} (hk : k ≤ 10) (e : w = numT k) : readN w = some k := by
  cases h : readN w with
  | none => exact absurd e (readN_none h k hk)
  | some j =>
    obtain ⟨h1, h2⟩ := readN_some h
    rw [num_inj h1 hk (h2.symm.trans e)]
theorem readN_num {k : Nat} (hk : k ≤ 10) : readN (numT k) = some k := readN_of hk rfl
/-- the law's own reading -/
def isFig (c : Nat) : Bool := decide (48 ≤ c ∧ c ≤ 57)
def lawN (w : List Nat) : Option Nat := if (1 ≤ w.length ∧ w.length ≤ 2) ∧ w.all isFig = true then (if w.length = 2 ∧ w.head? = some 48 then none else some (digitsVal w)) else none
theorem lawN_one (a : Nat) : lawN [a] = if isFig a = true then some (a - 48) else none := by
  unfold lawN isFig digitsVal
  simp
theorem lawN_two (a b : Nat) : lawN [a, b] = if isFig a = true ∧ isFig b = true ∧ a ≠ 48 then some ((a - 48) * 10 + (b - 48)) else none := by
  unfold lawN isFig digitsVal
  by_cases h1 : 48 ≤ a ∧ a ≤ 57 <;> by_cases h2 : 48 ≤ b ∧ b ≤ 57 <;> by_cases h3 : a = 48 <;> simp [h1, h2, h3]
theorem law_read {w : List Nat} {k : Nat} (h : readN w = some k) : lawN w = some k := by
  obtain ⟨h1, rfl⟩ := readN_some h
  unfold numT
  split
  · rename_i h2
    rw [lawN_one, if_pos (show isFig (48 + k) = true from decide_eq_true (by omega))]
    congr 1
    omega
  · have : k = 10 := by omega
    subst this
    rw [lawN_two, if_pos ⟨by decide, by decide, by decide⟩]
theorem read_law {w : List Nat} {k : Nat} (h : lawN w = some k) (hk : k ≤ 10) : readN w = some k := by
  apply readN_of hk
  match w with
  | [] => unfold lawN at h; simp at h
  | [a] =>
    rw [lawN_one] at h
    split at h
    · rename_i h1
      have h2 := of_decide_eq_true h1
      have h3 := Option.some.inj h
      unfold numT
      rw [if_pos (by omega)]
      congr 1
      omega
    · cases h
  | [a, b] =>
    rw [lawN_two] at h
    split at h
    · rename_i h1
      have h2 := of_decide_eq_true h1.1
      have h4 := of_decide_eq_true h1.2.1
      have h5 := h1.2.2
      have h3 := Option.some.inj h
      have h6 : k = 10 := by omega
      have h7 : a = 49 := by omega
      have h8 : b = 48 := by omega
      rw [h6, h7, h8] <;> rfl
    · cases h
  | _ :: _ :: _ :: l => unfold lawN at h; simp at h
theorem law_none {w : List Nat} (h : readN w = none) : ∀ k, lawN w = some k → 10 < k := fun k e => by
  by_cases hk : k ≤ 10
  · rw [read_law e hk] at h
    cases h
  · omega
/-! ## cutting -/
theorem cut_same (c : Nat) (l : List Nat) : cutOn c (c :: l) = [] :: cutOn c l := by
  show (if c = c then _ else _) = _
  rw [if_pos rfl]
theorem cut_other {c a : Nat} (h : a ≠ c) (l : List Nat) : cutOn c (a :: l) = match cutOn c l with
    | h :: t => (a :: h) :: t
    | [] => [[a]] := by
  show (if a = c then _ else _) = _
  rw [if_neg h] <;> rfl
theorem part_same (c : Nat) (l : List Nat) : part1 c (c :: l) = ([], true, l) := by
  show (if c = c then _ else _) = _
  rw [if_pos rfl]
theorem part_other {c a : Nat} (h : a ≠ c) (l : List Nat) : part1 c (a :: l) = (a :: (part1 c l).1, (part1 c l).2.1, (part1 c l).2.2) := by
  show (if a = c then _ else _) = _
  rw [if_neg h]
theorem cut_part (c : Nat) : ∀ w : List Nat, cutOn c w = if (part1 c w).2.1 = true then (part1 c w).1 :: cutOn c (part1 c w).2.2 else [(part1 c w).1]
  | [] => rfl
  | a :: l => by
    have ih := cut_part c l
    by_cases h : a = c
    · rw [h, cut_same, part_same, if_pos rfl]
    · rw [cut_other h, part_other h, ih]
      cases (part1 c l).2.1 <;> rfl
theorem part_no {c : Nat} : ∀ {w : List Nat}, (∀ a ∈ w, a ≠ c) → part1 c w = (w, false, [])
  | [], _ => rfl
  | a :: l, h => by
    unfold part1
    rw [if_neg (h a List.mem_cons_self), part_no fun b hb => h b (List.mem_cons_of_mem _ hb)]
theorem part_at {c : Nat} {t : List Nat} : ∀ {w : List Nat}, (∀ a ∈ w, a ≠ c) → part1 c (w ++ c :: t) = (w, true, t)
  | [], _ => by
    show (if c = c then _ else _) = _
    rw [if_pos rfl]
  | a :: l, h => by
    rw [List.cons_append, part_other (h a List.mem_cons_self), part_at (w := l) fun b hb => h b (List.mem_cons_of_mem _ hb)]
theorem part_off {c : Nat} : ∀ {w : List Nat}, (part1 c w).2.1 = false → (part1 c w).2.2 = []
  | [], _ => rfl
  | a :: l, h => by
    unfold part1 at h ⊢
    by_cases e : a = c
    · rw [if_pos e] at h
      cases h
    · rw [if_neg e] at h ⊢
      exact part_off (w := l) h
theorem part_in {c : Nat} : ∀ {w : List Nat}, (part1 c w).2.1 = decide (c ∈ w)
  | [] => by simp [part1]
  | a :: l => by
    unfold part1
    by_cases e : a = c
    · rw [if_pos e]
      simp [e]
    · rw [if_neg e, part_in (w := l)]
      simp [Ne.symm e]
theorem part_len (c : Nat) : ∀ w : List Nat, (part1 c w).1.length ≤ w.length ∧ (part1 c w).2.2.length ≤ w.length
  | [] => ⟨Nat.le_refl _, Nat.le_refl _⟩
  | a :: l => by
    have ih := part_len c l
    unfold part1
    split
    · exact ⟨by simp, by simp⟩
    · exact ⟨by simp; omega, by simp; omega⟩
theorem cut_no {c : Nat} {w : List Nat} (h : ∀ a ∈ w, a ≠ c) : cutOn c w = [w] := by
  rw [cut_part, part_no h] <;> rfl
theorem cut_mem (c : Nat) : ∀ (w : List Nat) (u : List Nat), u ∈ cutOn c w → u.length ≤ w.length
  | [], u, h => by
    unfold cutOn at h
    rw [List.mem_singleton.mp h] <;> exact Nat.le_refl _
  | a :: l, u, h => by
    have ih := cut_mem c l
    unfold cutOn at h
    split at h
    · rcases List.mem_cons.mp h with e | h
      · rw [e]; exact Nat.zero_le _
      · exact Nat.le_trans (ih u h) (by simp)
    · cases e : cutOn c l with
      | nil => exact absurd e (cutOn_ne c l)
      | cons x t =>
        rw [e] at h ih
        rcases List.mem_cons.mp h with e2 | h
        · rw [e2]
          have := ih x List.mem_cons_self
          simp
          exact this
        · exact Nat.le_trans (ih u (List.mem_cons_of_mem _ h)) (by simp)
theorem cut_count (c : Nat) : ∀ w : List Nat, (cutOn c w).length ≤ w.length + 1
  | [] => Nat.le_refl _
  | a :: l => by
    have ih := cut_count c l
    unfold cutOn
    split
    · simp; omega
    · cases e : cutOn c l with
      | nil => exact absurd e (cutOn_ne c l)
      | cons x t =>
        rw [e] at ih
        simp at ih ⊢
        omega
/-! ## Comparers and webs as texts -/
def pairOk (n : Nat) : Option Nat → Option Nat → Option Cmp
  | some a, some b => if a < n ∧ b < n ∧ a ≠ b then some (a, b) else none
  | _, _ => none
def readC (n : Nat) (w : List Nat) : Option Cmp := pairOk n (readN (part1 45 w).1) (readN (part1 45 w).2.2)
def lawC (n : Nat) (w : List Nat) : Option Cmp := match cutOn 45 w with
  | [u, v] => pairOk n (lawN u) (lawN v)
  | _ => none
theorem pair_eq {n : Nat} (hn : n ≤ 10) (u v : List Nat) : pairOk n (lawN u) (lawN v) = pairOk n (readN u) (readN v) := by
  have one : ∀ w : List Nat, (∃ k, lawN w = some k ∧ readN w = some k ∧ k ≤ 10) ∨ (readN w = none ∧ (lawN w = none ∨ ∃ k, lawN w = some k ∧ 10 < k)) := fun w => by
    cases e : readN w with
    | some k => exact .inl ⟨k, law_read e, rfl, (readN_some e).1⟩
    | none =>
      refine .inr ⟨rfl, ?_⟩
      cases e2 : lawN w with
      | none => exact .inl rfl
      | some k => exact .inr ⟨k, rfl, law_none e k e2⟩
  rcases one u with ⟨a, h1, h2, _⟩ | ⟨h2, h1 | ⟨a, h1, h3⟩⟩ <;> rcases one v with ⟨b, g1, g2, _⟩ | ⟨g2, g1 | ⟨b, g1, g3⟩⟩ <;> rw [h1, h2, g1, g2]
  all_goals try rfl
  all_goals
    show (if _ then _ else _) = _
    rw [if_neg (by omega)] <;> rfl
theorem law_cmp {n : Nat} (hn : n ≤ 10) (w : List Nat) : lawC n w = readC n w := by
  unfold lawC readC
  rw [cut_part]
  cases e : (part1 45 w).2.1 with
  | false =>
    rw [part_off e]
    have : readN [] = none := by decide
    rw [this, if_neg (by simp)]
    cases readN (part1 45 w).1 <;> rfl
  | true =>
    rw [if_pos rfl, cut_part]
    cases e2 : (part1 45 (part1 45 w).2.2).2.1 with
    | false =>
      rw [if_neg (by simp)]
      have h : part1 45 (part1 45 w).2.2 = ((part1 45 w).2.2, false, []) := by
        have hh : ∀ a ∈ (part1 45 w).2.2, a ≠ 45 := fun a ha z => by
          rw [part_in] at e2
          exact of_decide_eq_false e2 (z ▸ ha)
        exact part_no hh
      rw [h]
      exact pair_eq hn _ _
    | true =>
      rw [if_pos rfl]
      have hne := cutOn_ne 45 (part1 45 (part1 45 w).2.2).2.2
      have none2 : readN (part1 45 w).2.2 = none := by
        cases q : readN (part1 45 w).2.2 with
        | none => rfl
        | some k =>
          obtain ⟨h1, h2⟩ := readN_some q
          have h3 : (45 : Nat) ∈ (part1 45 w).2.2 := by
            rw [part_in] at e2
            exact of_decide_eq_true e2
          rw [h2] at h3
          have := num_sign h1 45 h3
          omega
      rw [none2]
      cases q : cutOn 45 (part1 45 (part1 45 w).2.2).2.2 with
      | nil => exact absurd q hne
      | cons x t => cases readN (part1 45 w).1 <;> rfl
def getAll {α β : Type} (f : α → Option β) : List α → Option (List β)
  | [] => some []
  | a :: l => match f a, getAll f l with
    | some b, some r => some (b :: r)
    | _, _ => none
theorem getAll_some {α β : Type} {f : α → Option β} : ∀ {l : List α} {r : List β}, getAll f l = some r → All2 (fun a b => f a = some b) l r
  | [], r, h => by
    cases h
    exact .nil
  | a :: l, r, h => by
    unfold getAll at h
    split at h
    · rename_i b r' h1 h2
      cases h
      exact .cons h1 (getAll_some h2)
    · cases h
theorem getAll_none {α β : Type} {f : α → Option β} : ∀ {l : List α}, getAll f l = none → ∃ (k : Nat) (a : α), l[k]? = some a ∧ f a = none ∧ ∀ i < k, ∃ (b : α) (c : β), l[i]? = some b ∧ f b = some c
  | [], h => by cases h
  | a :: l, h => by
    unfold getAll at h
    cases e : f a with
    | none => exact ⟨0, a, rfl, e, fun i hi => absurd hi (Nat.not_lt_zero i)⟩
    | some b =>
      rw [e] at h
      cases e2 : getAll f l with
      | some r => rw [e2] at h; cases h
      | none =>
        obtain ⟨k, x, h1, h2, h3⟩ := getAll_none e2
        refine ⟨k + 1, x, h1, h2, fun i hi => ?_⟩
        cases i with
        | zero => exact ⟨a, b, rfl, e⟩
        | succ i => exact h3 i (by omega)
theorem getAll_of {α β : Type} {f : α → Option β} {l : List α} {r : List β} (h : All2 (fun a b => f a = some b) l r) : getAll f l = some r := by
  induction h with
  | nil => rfl
  | cons h1 _ ih =>
    unfold getAll
    rw [h1, ih]
theorem getAll_congr {α β : Type} {f g : α → Option β} (h : ∀ a, f a = g a) (l : List α) : getAll f l = getAll g l := by
  have : f = g := funext h
  rw [this]
/-- the web that a text writes -/
def tailW (n : Nat) (t : List Nat) : Option (List Cmp) := match cutOn 32 t with
  | [] :: ws => if ws.length ≤ 60 then getAll (readC n) ws else none
  | _ => none
def readW (x : List Nat) : Option (Nat × List Cmp) := if (part1 58 x).2.1 = true then match readN (part1 58 x).1 with
  | some n => if 1 ≤ n then (tailW n (part1 58 x).2.2).map fun cs => (n, cs) else none
  | none => none
  else none
def cmpT (c : Cmp) : List Nat := numT c.1 ++ 45 :: numT c.2
def tailT (cs : List Cmp) : List Nat := (cs.map fun c => 32 :: cmpT c).flatten
def webT (n : Nat) (cs : List Cmp) : List Nat := numT n ++ 58 :: tailT cs
def webTx (n : Nat) (cs : List Cmp) : Str := tx (webT n cs)
theorem cmp_sign {c : Cmp} (h1 : c.1 ≤ 10) (h2 : c.2 ≤ 10) : ∀ a ∈ cmpT c, a ≠ 32 ∧ a ≠ 58 := by
  intro a ha
  rcases List.mem_append.mp ha with h | h
  · have := num_sign h1 a h
    omega
  · rcases List.mem_cons.mp h with h | h
    · omega
    · have := num_sign h2 a h
      omega
theorem readC_cmp {n : Nat} {c : Cmp} (hn : n ≤ 10) (h : CmpOk n c) : readC n (cmpT c) = some c := by
  obtain ⟨h1, h2, h3⟩ := h
  have e : part1 45 (cmpT c) = (numT c.1, true, numT c.2) := part_at fun a ha z => by
    have := num_sign (show c.1 ≤ 10 by omega) a ha
    omega
  unfold readC
  rw [e, readN_num (by omega), readN_num (by omega)]
  show (if _ then _ else _) = _
  rw [if_pos ⟨h1, h2, h3⟩]
theorem cut_app {c : Nat} {t : List Nat} : ∀ {w : List Nat}, (∀ a ∈ w, a ≠ c) → cutOn c (w ++ c :: t) = w :: cutOn c t := fun {w} h => by
  rw [cut_part, part_at h] <;> rfl
theorem cut_tail : ∀ cs : List Cmp, (∀ c ∈ cs, c.1 ≤ 10 ∧ c.2 ≤ 10) → cutOn 32 (tailT cs) = [] :: cs.map cmpT
  | [], _ => rfl
  | c :: cs, h => by
    have hc := h c List.mem_cons_self
    have ih := cut_tail cs fun d hd => h d (List.mem_cons_of_mem _ hd)
    have no : ∀ a ∈ cmpT c, a ≠ 32 := fun a ha => (cmp_sign hc.1 hc.2 a ha).1
    show (if (32 : Nat) = 32 then [] :: cutOn 32 (cmpT c ++ tailT cs) else _) = _
    rw [if_pos rfl]
    show [] :: cutOn 32 (cmpT c ++ tailT cs) = [] :: cmpT c :: cs.map cmpT
    congr 1
    cases cs with
    | nil =>
      show cutOn 32 (cmpT c ++ []) = _
      rw [List.append_nil, cut_no no] <;> rfl
    | cons d ds =>
      have e : tailT (d :: ds) = 32 :: (cmpT d ++ tailT ds) := rfl
      rw [e] at ih ⊢
      rw [cut_app no]
      congr 1
      have e2 : cutOn 32 (32 :: (cmpT d ++ tailT ds)) = [] :: cutOn 32 (cmpT d ++ tailT ds) := by
        show (if (32 : Nat) = 32 then _ else _) = _
        rw [if_pos rfl]
      rw [e2] at ih
      exact (List.cons.inj ih).2
theorem readW_web {n : Nat} {cs : List Cmp} (h : WebOk n cs) (n1 : 1 ≤ n) (n10 : n ≤ 10) : readW (webT n cs) = some (n, cs) := by
  have e : part1 58 (webT n cs) = (numT n, true, tailT cs) := part_at fun a ha z => by
    have := num_sign n10 a ha
    omega
  have ok : ∀ c ∈ cs, c.1 ≤ 10 ∧ c.2 ≤ 10 := fun c hc => by
    obtain ⟨h1, h2, _⟩ := h.2 c hc
    exact ⟨by omega, by omega⟩
  have all : All2 (fun a b => readC n a = some b) (cs.map cmpT) cs := by
    have : ∀ l : List Cmp, (∀ c ∈ l, CmpOk n c) → All2 (fun a b => readC n a = some b) (l.map cmpT) l := fun l => by
      induction l with
      | nil => intro _; exact .nil
      | cons c l ih => intro hl; exact .cons (readC_cmp n10 (hl c List.mem_cons_self)) (ih fun d hd => hl d (List.mem_cons_of_mem _ hd))
    exact this cs h.2
  unfold readW
  rw [e, readN_num n10]
  show (if 1 ≤ n then _ else _) = _
  rw [if_pos n1]
  unfold tailW
  rw [cut_tail cs ok]
  show Option.map _ (if (cs.map cmpT).length ≤ 60 then _ else _) = _
  rw [if_pos (by rw [List.length_map]; exact h.1), getAll_of all] <;> rfl
theorem readW_ok {x : List Nat} {n : Nat} {cs : List Cmp} (h : readW x = some (n, cs)) : WebOk n cs ∧ 1 ≤ n ∧ n ≤ 10 := by
  unfold readW at h
  split at h
  · split at h
    · rename_i m hm
      split at h
      · rename_i h1
        cases e : tailW m (part1 58 x).2.2 with
        | none => rw [e] at h; cases h
        | some l =>
          rw [e] at h
          cases h
          refine ⟨?_, h1, (readN_some hm).1⟩
          unfold tailW at e
          split at e
          · rename_i ws _
            split at e
            · rename_i hl
              have a := getAll_some e
              refine ⟨by rw [← a.length]; exact hl, fun c hc => ?_⟩
              obtain ⟨i, hi⟩ := List.mem_iff_getElem?.mp hc
              obtain ⟨w, _, hw⟩ := a.get hi
              unfold readC pairOk at hw
              split at hw
              · split at hw
                · rename_i h3
                  cases hw
                  exact h3
                · cases hw
              · cases hw
            · cases e
          · cases e
      · cases h
    · cases h
  · cases h
end Sw

set_option Elab.async false
set_option linter.all false
set_option maxRecDepth 100000
set_option maxHeartbeats 4000000
namespace Sw
open PySem PySem.Spec PyProof.Rows L2
/-! ## What is handed in, and how it is judged -/
/-- a line of n -/
def lnV (n : Nat) : V → Bool
  | .int i => decide (0 ≤ i ∧ i < (n : Int))
  | _ => false
/-- two lines of n, unlike -/
def twV (n : Nat) : V → V → Bool
  | .int i, .int j => decide (0 ≤ i ∧ i < (n : Int)) && (decide (0 ≤ j ∧ j < (n : Int)) && decide (¬ i = j))
  | _, _ => false
/-- a number of lines -/
def noV : V → Bool
  | .int i => decide (1 ≤ i ∧ i ≤ 10)
  | _ => false
theorem tyb_int {K : PySem.W.Frag} {H : Hp} {v : V} {T : String} (h : TyB K H v T) : (T = "int" ∧ ∃ i, v = .int i) ∨ (T ≠ "int" ∧ ∀ i, v ≠ .int i) := by
  cases h with
  | int i => exact .inl ⟨rfl, i, rfl⟩
  | _ => exact .inr ⟨by decide, fun _ z => nomatch z⟩
/-- an item of comparers, and whether it is one -/
inductive ItOk (K : PySem.W.Frag) (H : Hp) (n : Nat) : V → Bool → Prop
  | other {v : V} {T : String} (h : TyB K H v T) (ne : T ≠ "tuple") : ItOk K H n v false
  | long {p : Addr} {xs : List V} (h : SqT K H p xs) (ne : xs.length ≠ 2) : ItOk K H n (.ref p) false
  | two {p : Addr} {x y : V} {Tx Ty : String} (h : SqT K H p [x, y]) (hx : TyB K H x Tx) (hy : TyB K H y Ty) : ItOk K H n (.ref p) (twV n x y)
/-- what need_web finds -/
inductive Verd where
  | good
  | lines
  | web (at_ : Option Nat)
inductive WebV (K : PySem.W.Frag) (H : Hp) : V → V → Verd → Prop
  | lines {lv cv : V} {T : String} (h : TyB K H lv T) (bad : noV lv = false) : WebV K H lv cv .lines
  | kind {n : Nat} {cv : V} {T : String} (hn : noV (.int (n : Int)) = true) (h : TyB K H cv T) (ne : T ≠ "list") : WebV K H (.int (n : Int)) cv (.web none)
  | many {n : Nat} {a : Addr} {xs : List V} (hn : noV (.int (n : Int)) = true) (h : SqL K H a xs) (hl : 60 < xs.length) : WebV K H (.int (n : Int)) (.ref a) (.web none)
  | item {n k : Nat} {a : Addr} {xs : List V} {y : V} (hn : noV (.int (n : Int)) = true) (h : SqL K H a xs) (hl : xs.length ≤ 60) (ok : ∀ i < k, ∃ x : V, xs[i]? = some x ∧ ItOk K H n x true) (hy : xs[k]? = some y) (bad : ItOk K H n y false) : WebV K H (.int (n : Int)) (.ref a) (.web (some k))
  | good {n : Nat} {a : Addr} {xs : List V} (hn : noV (.int (n : Int)) = true) (h : SqL K H a xs) (hl : xs.length ≤ 60) (ok : ∀ (i : Nat) (x : V), xs[i]? = some x → ItOk K H n x true) : WebV K H (.int (n : Int)) (.ref a) .good
/-- None or a number -/
def onV : Option Nat → V
  | none => .non
  | some k => .int (k : Int)
/-- how a bad web is refused -/
def Refu (K : PySem.W.Frag) (H : Hp) (E : XK) : Verd → Prop
  | .good => False
  | .lines => ∀ H', Same H H' → E (.ref (He.ga K "BadLines")) none H'
  | .web o => ∀ H' d, Same H H' → H' d = none → E (.ref (He.ga K "BadWeb")) (some d) (upd H' d (.xd [("place", onV o)]))
theorem tyb_same {K : PySem.W.Frag} {H H' : Hp} {v : V} {T : String} (s : Same H H') (h : TyB K H v T) : TyB K H' v T := by
  cases h with
  | non => exact .non
  | bl b => exact .bl b
  | int i => exact .int i
  | str x => exact .str x
  | byt b => exact .byt b
  | lst h => exact .lst (s.seq h)
  | tup h => exact .tup (Same.sqt s h)
  | dK h => exact .dK (s _ _ h)
theorem it_same {K : PySem.W.Frag} {H H' : Hp} {n : Nat} {v : V} {b : Bool} (s : Same H H') (h : ItOk K H n v b) : ItOk K H' n v b := by
  cases h with
  | other h ne => exact .other (tyb_same s h) ne
  | long h ne => exact .long (Same.sqt s h) ne
  | two h hx hy => exact .two (Same.sqt s h) (tyb_same s hx) (tyb_same s hy)
theorem it_cmp {K : PySem.W.Frag} {H : Hp} {n : Nat} {p : Addr} {c : Cmp} (h : SqT K H p (V2 c)) (ok : CmpOk n c) : ItOk K H n (.ref p) true := by
  have e : twV n (.int (c.1 : Int)) (.int (c.2 : Int)) = true := by
    obtain ⟨h1, h2, h3⟩ := ok
    show (decide _ && (decide _ && decide _)) = true
    rw [decide_eq_true (by omega), decide_eq_true (by omega), decide_eq_true (by omega)] <;> rfl
  rw [← e]
  exact .two h (.int _) (.int _)
end Sw

set_option Elab.async false
set_option linter.all false
set_option maxRecDepth 100000
set_option maxHeartbeats 4000000
namespace Sw
open PySem PySem.Spec PyProof.Rows L2
/-! ## Methods -/
def memS (st : Stmt) (i : Nat) : Stmt := match st with
  | .ClassDef _ _ _ b _ _ _ _ _ _ _ => b.getD i (.Pass ⟨0, 0, 0, 0⟩)
  | _ => .Pass ⟨0, 0, 0, 0⟩
def metD (x m q : Str) (st : Stmt) : He.DefD := ⟨(x, some m), m, q, defArgs st, defBody st, defScope st, [], []⟩
/-- the method m of the class x is the def st of the text -/
def Met (K : PySem.W.Frag) (x m q : Str) (st : Stmt) : Prop := ∃ fd : FuncData, FunD K m q (defArgs st) (defBody st) (defScope st) [] [] (He.ma K (He.ga K x) m) fd
theorem met_of {fa : List He.Fa} {fn : List He.DefD} {ex : PySem.W.Frag → Bool} {K : PySem.W.Frag} (c : SaysZ fa fn ex K) {x m q : Str} {st : Stmt} (i : Nat) (hi : fn[i]? = some (metD x m q st)) : Met K x m q st := c.d.def_ i hi
/-- the reading of an error's __init__ that keeps one field f, behind a text of it -/
def rInit (K : PySem.W.Frag) (z f : Str) : TS := tSeq (tDrop (tVeI K (tCons (tVar 0) (tCons (tJoin [tC (.str z), tFmtN (tVar 1)]) tNil)))) (tOst K f (tVar 0) (tVar 1))
theorem rd_init {K : PySem.W.Frag} {mg : Str → Option Value} {x z f : Str} (m : OwK K mg x f) (hz : z.length ≤ 1000) (vs : List V) (H : Hp) (Q : VK) (E : XK) (h : spInit K (He.ga K x) f vs H Q E) : rInit K z f { nx := fun _ H' => Q .non H', rt := Q } (L2.start ["self", f] vs) H := by
  obtain ⟨a, v, rfl, ha, hv, q⟩ := h
  have el : (Str.empty ++ z).length ≤ 1000 := by
    have : (Str.empty ++ z).length = z.length := by
      show (#[] ++ z.cps).size = z.cps.size
      simp
    omega
  have el2 : ∀ y : Str, y.length ≤ 400 → (Str.empty ++ z ++ y).length ≤ 1000000 := fun y hy => by
    have : (Str.empty ++ z ++ y).length = (Str.empty ++ z).length + y.length := by
      show ((Str.empty ++ z).cps ++ y.cps).size = _
      rw [Array.size_append] <;> rfl
    omega
  have gen : ∀ y : Str, y.length ≤ 400 → (Str.empty ++ z ++ y).length ≤ sizeLine ∧ (tVeI K (fun _ H Q => Q [.ref a, .str (Str.empty ++ z ++ y)] H)) [some (.ref a), some v] H fun _ H' => tOst K f (tVar 0) (tVar 1) { nx := fun _ H' => Q .non H', rt := Q } [some (.ref a), some v] H' := fun y hy => by
    refine ⟨small_line (el2 y hy), a, He.ga K x, [.str (Str.empty ++ z ++ y)], rfl, by show 1 ≤ 1000; decide, m.o, ha, ?_⟩
    exact ⟨v, rfl, .ref a, rfl, a, He.ga K x, rfl, m.o, m.n, .inl ⟨ha, fun dx h1 h2 => q dx h1 h2⟩⟩
  simp only [rInit, tSeq, tDrop, L2.start, List.map_cons, List.map_nil, List.length_cons, List.length_nil, Nat.reduceAdd, Nat.sub_self, List.replicate_zero, List.append_nil]
  rcases hv with rfl | ⟨i, rfl, i0, i1⟩
  · obtain ⟨g1, g2⟩ := gen "None" (by decide +kernel)
    exact ⟨.ref a, rfl, z, rfl, small_line (by omega), .non, rfl, .inl ⟨rfl, "None", rfl, g1, g2⟩⟩
  · have hi : i.natAbs.log2 < 1920 := by
      have h3 : i.natAbs ≤ 1000 := by omega
      have : i.natAbs.log2 ≤ i.natAbs := Nat.log2_le_self _
      omega
    have len : (toString i : Str).length ≤ 400 := by
      have h3 : ∀ n : Nat, n ≤ 1000 → (Str.ofString (toString (n : Int))).length ≤ 400 := by decide +kernel
      have := h3 i.toNat (by omega)
      rw [Int.toNat_of_nonneg i0] at this
      exact this
    obtain ⟨g1, g2⟩ := gen (toString i) len
    exact ⟨.ref a, rfl, z, rfl, small_line (by omega), .int i, rfl, .inr ⟨i, rfl, hi, toString i, rfl, g1, g2⟩⟩
end Sw

set_option Elab.async false
set_option linter.all false
set_option maxRecDepth 100000
set_option maxHeartbeats 4000000
namespace Sw
open PySem PySem.Spec PyProof.Rows L2
theorem sg_app (x y : Str) : sg (x ++ y) = sg x ++ sg y := by
  show (x.cps ++ y.cps).toList = x.cps.toList ++ y.cps.toList
  rw [Array.toList_append]
theorem sg_nil : sg Str.empty = [] := rfl
theorem sg_nil2 : sg ("" : Str) = [] := by decide +kernel
theorem app_len (x y : Str) : (x ++ y).length = x.length + y.length := by
  rw [sg_len, sg_len, sg_len, sg_app, List.length_append]
theorem tx_len (l : List Nat) : (tx l).length = l.length := by rw [sg_len, sg_tx]
theorem eq_tx {x : Str} {l : List Nat} (h : sg x = l) : x = tx l := by rw [← h, tx_sg]
theorem joinL_nil : ∀ l : List (List Nat), TL.joinL [] l = l.flatten
  | [] => rfl
  | [p] => by simp [TL.joinL]
  | p :: q :: r => by
    show p ++ ([] ++ TL.joinL [] (q :: r)) = _
    rw [joinL_nil (q :: r)] <;> rfl
theorem joinL_one (c : Nat) : ∀ (l : List (List Nat)) (p : List Nat), TL.joinL [c] (p :: l) = p ++ (l.map fun y => c :: y).flatten
  | [], p => by simp [TL.joinL]
  | q :: r, p => by
    show p ++ ([c] ++ TL.joinL [c] (q :: r)) = _
    rw [joinL_one c r q] <;> rfl
theorem sg_join0 (ys : List Str) : sg (Txt.join "" ys) = (ys.map sg).flatten := by
  rw [TL.join_eq]
  show TL.tl (Str.join _ ys) = _
  rw [TL.tl_join]
  have e : TL.tl ("" : Str) = [] := by decide +kernel
  rw [e]
  exact joinL_nil _
theorem sg_join1 (z p : Str) (c : Nat) (hz : sg z = [c]) (ys : List Str) : sg (Txt.join z (p :: ys)) = sg p ++ (ys.map fun y => c :: sg y).flatten := by
  rw [TL.join_eq]
  show TL.tl (Str.join _ (p :: ys)) = _
  rw [TL.tl_join]
  have e : TL.tl z = [c] := hz
  rw [e, List.map_cons, joinL_one, List.map_map] <;> rfl
theorem cutS_to (z : Str) (k : Nat) : sg (cutS z none (some (k : Int))) = (sg z).take k := by
  unfold cutS
  rw [HT.sIx_none, HT.sIx_nat]
  show ((sg z).drop 0).take (min k z.length - 0) = _
  rw [List.drop_zero, Nat.sub_zero, sg_len]
  by_cases h : k ≤ (sg z).length
  · rw [Nat.min_eq_left h]
  · rw [Nat.min_eq_right (by omega), List.take_of_length_le (Nat.le_refl _), List.take_of_length_le (by omega)]
theorem cutS_from (z : Str) (k : Nat) : sg (cutS z (some (k : Int)) none) = (sg z).drop k := by
  unfold cutS
  rw [HT.sIx_none, HT.sIx_nat]
  show ((sg z).drop (min k z.length)).take (z.length - min k z.length) = _
  rw [sg_len]
  by_cases h : k ≤ (sg z).length
  · rw [Nat.min_eq_left h, List.take_of_length_le (by rw [List.length_drop]; exact Nat.le_refl _)]
  · rw [Nat.min_eq_right (by omega), List.drop_eq_nil_of_le (Nat.le_refl _), List.drop_eq_nil_of_le (by omega), List.take_nil]
theorem log_small {i : Int} (h : i.natAbs ≤ 1000) : i.natAbs.log2 < 1920 := by
  have := Nat.log2_le_self i.natAbs
  omega
/-- the word of a comparer, a blank ahead -/
def wordT (c : Cmp) : Str := tx (32 :: cmpT c)
theorem cmp_len (c : Cmp) : (cmpT c).length ≤ 5 := by
  unfold cmpT
  rw [List.length_append, List.length_cons]
  have := num_len c.1
  have := num_len c.2
  omega
theorem tail_len (cs : List Cmp) : (tailT cs).length ≤ 6 * cs.length := by
  unfold tailT
  induction cs with
  | nil => simp
  | cons c cs ih =>
    rw [List.map_cons, List.flatten_cons, List.length_append, List.length_cons, List.length_cons]
    have := cmp_len c
    omega
theorem web_len (n : Nat) (cs : List Cmp) : (webTx n cs).length ≤ 3 + 6 * cs.length := by
  unfold webTx webT
  rw [tx_len, List.length_append, List.length_cons]
  have := num_len n
  have := tail_len cs
  omega
theorem join_words (cs : List Cmp) : sg (Txt.join "" (cs.map wordT)) = tailT cs := by
  rw [sg_join0, List.map_map] <;> rfl
theorem lens_words (cs : List Cmp) : ((cs.map wordT).map (·.length)).sum ≤ 6 * cs.length := by
  induction cs with
  | nil => simp
  | cons c cs ih =>
    rw [List.map_cons, List.map_cons, List.sum_cons, List.length_cons]
    have e : (wordT c).length ≤ 6 := by
      unfold wordT
      rw [tx_len, List.length_cons]
      have := cmp_len c
      omega
    omega
/-- f" {a}-{b}" -/
theorem word_eq {a b : Nat} (ha : a ≤ 10) (hb : b ≤ 10) (s1 s2 : Str) (h1 : sg s1 = [32]) (h2 : sg s2 = [45]) : Str.empty ++ s1 ++ Str.ofString (toString (a : Int)) ++ s2 ++ Str.ofString (toString (b : Int)) = wordT (a, b) := by
  refine eq_tx ?_
  rw [sg_app, sg_app, sg_app, sg_app, sg_nil, h1, h2, num_str a ha, num_str b hb]
  show [] ++ [32] ++ numT a ++ [45] ++ numT b = 32 :: (numT a ++ 45 :: numT b)
  simp
theorem sg_num {a : Nat} (ha : a ≤ 10) : (Str.ofString (toString (a : Int))).length ≤ 2 := by
  rw [sg_len, num_str a ha]
  exact num_len a
end Sw

set_option Elab.async false
set_option linter.all false
set_option maxRecDepth 100000
set_option maxHeartbeats 4000000
namespace Sw
open PySem PySem.Spec PyProof.Rows L2
/-! ## Walks, once what is walked is at hand -/
def LcK (g : TG) (tt : TT) (te : TE) (vs : List Nat) (σ : L2.St) (Q : VK) : It → Hp → Prop := fun J H1 => tLc (fun _ _ R => R J H1) g tt te vs σ H1 Q
theorem lc_def (wi : TI) (g : TG) (tt : TT) (te : TE) (vs : List Nat) (σ : L2.St) (H : Hp) (Q : VK) : tLc wi g tt te vs σ H Q = wi σ H (LcK g tt te vs σ Q) := rfl
def ForK (g : TG) (tb : TS) (D : Ends) (σ : L2.St) : It → Hp → Prop := fun J H1 => tFor (fun _ _ R => R J H1) g tb D σ H1
theorem for_def (wi : TI) (g : TG) (tb : TS) (D : Ends) (σ : L2.St) (H : Hp) : tFor wi g tb D σ H = wi σ H (ForK g tb D σ) := rfl
section
variable {K : PySem.W.Frag} {σ : L2.St} {H : Hp} {te : TE} {tb : TS} {D : Ends} {a : Addr} {xs : List V} {j1 j2 : Nat} {Q : VK}
theorem lck_list {tt : TT} {vs : List Nat} (hx : SqL K H a xs) (hvs : ∀ v, wipe ((wipe σ vs).set j1 v) vs = wipe σ vs)
    (G : Addr → Nat → List V → Hp → Prop) (h0 : ∀ D, H D = none → G D 0 [] (upd H D (.lst []))) (hl : ∀ D i acc H', H D = none → G D i acc H' → SqL K H' a xs)
    (turn : ∀ D i x acc H', H D = none → xs[i]? = some x → i < xs.length → H' D = some (.lst acc) → G D i acc H' → Turn tt te D (G D) i ((wipe σ vs).set j1 (some x)) H')
    (done : ∀ D acc H', H D = none → H' D = some (.lst acc) → G D xs.length acc H' → Q (.ref D) H') : LcK (gName j1) tt te vs σ Q (Itl K a) H := by
  refine fun D nD => it_lc (n := xs.length) (So D (G D)) ⟨[], upd_same, h0 D nD⟩ (fun i H' hi p => ?_) (fun H' p => ?_) (fun i H' hi p v H2 y => ?_) (fun H' p => ?_)
  · obtain ⟨acc, _, g⟩ := p
    obtain ⟨x, hx⟩ := get_of hi
    exact ⟨_, x, hl D _ _ _ nD g, hx⟩
  · obtain ⟨acc, _, g⟩ := p
    exact ⟨_, hl D _ _ _ nD g, Nat.le_refl _⟩
  · obtain ⟨acc, hD, g⟩ := p
    obtain ⟨rfl, f⟩ := y
    exact ⟨hvs _, turn D i v acc H2 nD (f _ (hl D _ _ _ nD g)) hi hD g⟩
  · obtain ⟨acc, hD, g⟩ := p
    exact done D acc H' nD hD g
theorem lck_tup {tt : TT} {vs : List Nat} (hx : SqT K H a xs) (hvs : ∀ v, wipe ((wipe σ vs).set j1 v) vs = wipe σ vs)
    (G : Addr → Nat → List V → Hp → Prop) (h0 : ∀ D, H D = none → G D 0 [] (upd H D (.lst []))) (hl : ∀ D i acc H', H D = none → G D i acc H' → SqT K H' a xs)
    (turn : ∀ D i x acc H', H D = none → xs[i]? = some x → i < xs.length → H' D = some (.lst acc) → G D i acc H' → Turn tt te D (G D) i ((wipe σ vs).set j1 (some x)) H')
    (done : ∀ D acc H', H D = none → H' D = some (.lst acc) → G D xs.length acc H' → Q (.ref D) H') : LcK (gName j1) tt te vs σ Q (Itt K a) H := by
  refine fun D nD => it_lc (n := xs.length) (So D (G D)) ⟨[], upd_same, h0 D nD⟩ (fun i H' hi p => ?_) (fun H' p => ?_) (fun i H' hi p v H2 y => ?_) (fun H' p => ?_)
  · obtain ⟨acc, _, g⟩ := p
    obtain ⟨x, hx⟩ := get_of hi
    exact ⟨_, x, hl D _ _ _ nD g, hx⟩
  · obtain ⟨acc, _, g⟩ := p
    exact ⟨_, hl D _ _ _ nD g, Nat.le_refl _⟩
  · obtain ⟨acc, hD, g⟩ := p
    obtain ⟨rfl, f⟩ := y
    exact ⟨hvs _, turn D i v acc H2 nD (f _ (hl D _ _ _ nD g)) hi hD g⟩
  · obtain ⟨acc, hD, g⟩ := p
    exact done D acc H' nD hD g
theorem lck_str {tt : TT} {vs : List Nat} {z : Str} (hvs : ∀ v, wipe ((wipe σ vs).set j1 v) vs = wipe σ vs)
    (G : Addr → Nat → List V → Hp → Prop) (h0 : ∀ D, H D = none → G D 0 [] (upd H D (.lst [])))
    (turn : ∀ D i c acc H', H D = none → (sg z)[i]? = some c → i < (sg z).length → H' D = some (.lst acc) → G D i acc H' → Turn tt te D (G D) i ((wipe σ vs).set j1 (some (.str ⟨#[c]⟩))) H')
    (done : ∀ D acc H', H D = none → H' D = some (.lst acc) → G D (sg z).length acc H' → Q (.ref D) H') : LcK (gName j1) tt te vs σ Q (Its z) H := by
  have size : z.cps.size = (sg z).length := by
    show _ = z.cps.toList.length
    rw [Array.length_toList]
  refine fun D nD => it_lc (n := (sg z).length) (So D (G D)) ⟨[], upd_same, h0 D nD⟩ (fun i H' hi p => ?_) (fun H' p => ?_) (fun i H' hi p v H2 y => ?_) (fun H' p => ?_)
  · show i < z.cps.size
    rw [size]
    exact hi
  · show z.cps.size ≤ (sg z).length
    rw [size]
    exact Nat.le_refl _
  · obtain ⟨acc, hD, g⟩ := p
    obtain ⟨rfl, c, hc, rfl⟩ := y
    refine ⟨hvs _, turn D i c acc H2 nD ?_ hi hD g⟩
    show z.cps.toList[i]? = some c
    rw [← hc]
    simp
  · obtain ⟨acc, hD, g⟩ := p
    exact done D acc H' nD hD g
theorem fork_list (hx : SqL K H a xs) (Pv : Nat → L2.St → Hp → Prop) (h0 : Pv 0 σ H) (hl : ∀ i σ H, i ≤ xs.length → Pv i σ H → SqL K H a xs)
    (turn : ∀ i x σ H, xs[i]? = some x → i < xs.length → Pv i σ H → tb { D with nx := Pv (i + 1), ct := Pv (i + 1), bk := D.nx } (σ.set j1 (some x)) H)
    (done : ∀ σ H, Pv xs.length σ H → D.nx σ H) : ForK (gName j1) tb D σ (Itl K a) H := by
  refine it_for (n := xs.length) Pv h0 (fun i σ H hi p => ?_) (fun σ H p => ?_) (fun i σ H hi p v H' y => ?_) done
  · obtain ⟨x, hx⟩ := get_of hi
    exact ⟨_, x, hl i σ H (Nat.le_of_lt hi) p, hx⟩
  · exact ⟨_, hl _ σ H (Nat.le_refl _) p, Nat.le_refl _⟩
  · obtain ⟨rfl, f⟩ := y
    exact turn i v σ H' (f _ (hl i σ H' (Nat.le_of_lt hi) p)) hi p
theorem fork_tup (hx : SqT K H a xs) (Pv : Nat → L2.St → Hp → Prop) (h0 : Pv 0 σ H) (hl : ∀ i σ H, i ≤ xs.length → Pv i σ H → SqT K H a xs)
    (turn : ∀ i x σ H, xs[i]? = some x → i < xs.length → Pv i σ H → tb { D with nx := Pv (i + 1), ct := Pv (i + 1), bk := D.nx } (σ.set j1 (some x)) H)
    (done : ∀ σ H, Pv xs.length σ H → D.nx σ H) : ForK (gName j1) tb D σ (Itt K a) H := by
  refine it_for (n := xs.length) Pv h0 (fun i σ H hi p => ?_) (fun σ H p => ?_) (fun i σ H hi p v H' y => ?_) done
  · obtain ⟨x, hx⟩ := get_of hi
    exact ⟨_, x, hl i σ H (Nat.le_of_lt hi) p, hx⟩
  · exact ⟨_, hl _ σ H (Nat.le_refl _) p, Nat.le_refl _⟩
  · obtain ⟨rfl, f⟩ := y
    exact turn i v σ H' (f _ (hl i σ H' (Nat.le_of_lt hi) p)) hi p
end
/-! ## isinstance -/
theorem tyx_tup {K : PySem.W.Frag} {H : Hp} {p : Addr} {xs : List V} (h : SqT K H p xs) : TyX K H (.ref p) (.type "tuple") := by
  rcases h with (h | ⟨o, h⟩) | ⟨o, its, n, h, hc, _⟩
  · exact .base (.tup h)
  · exact .fTuple h
  · exact .kTuple h hc
theorem tyx_lst {K : PySem.W.Frag} {H : Hp} {p : Addr} {xs : List V} (h : SqL K H p xs) : TyX K H (.ref p) (.type "list") := by
  rcases h with (h | ⟨o, h⟩) | ⟨o, its, n, h, hc, _⟩
  · exact .base (.lst h)
  · exact .base (.frz h)
  · exact .kList h hc
/-- isinstance(x, T), T a built-in type -/
theorem isk_ty {K : PySem.W.Frag} {H : Hp} {x : V} {t T : String} {b : Bool} {Q : VK} (h : TyX K H x (.type t)) (e : kitB t T = some b) (q : Q (.bl b) H) : rIsK K [x, .ty T] H Q :=
  .inl ⟨x, .ty T, .type t, .type T, b, rfl, .ty _, h, kit_ty e, q⟩
end Sw

set_option Elab.async false
set_option linter.all false
set_option maxRecDepth 100000
set_option maxHeartbeats 4000000
namespace Sw
open PySem PySem.Spec PyProof.Rows L2
/-! ## What the head is asked of errors that are kept -/
/-- the law's words for errors -/
def errWs : List (Str × Str) := [("BadLines", "lines"), ("BadWeb", "web"), ("BadRow", "row"), ("BadPlace", "place"), ("BadOrder", "order"), ("BadText", "text"), ("NothingPut", "nothing")]
structure ErrF (K : PySem.W.Frag) : Prop where
  e : ∀ C u, (C, u) ∈ errWs → ExcC K (He.ga K C)
  k : ∀ C u D v, (C, u) ∈ errWs → (D, v) ∈ errWs → PySem.W.kitOne K (.ref (He.ga K C)) (.ref (He.ga K D)) = some (decide (C = D))
  n : ∀ D v, (D, v) ∈ errWs → PySem.W.kitOne K (.type "NoneType") (.ref (He.ga K D)) = some false
  v : ∀ C u, (C, u) ∈ errWs → PySem.W.kitOne K (.ref (He.ga K C)) (.type "ValueError") = some true
def excCB (K : PySem.W.Frag) (D : Addr) : Bool := decide (PySem.W.findIn K (.ref D) "__getattribute__" = some (some (.builtin "BaseException.__getattribute__"))) && (decide (PySem.W.findIn K (.ref D) "__getattr__" = some none) &&
  (decide (PySem.W.subIn K (.ref D) (.type "BaseException") = some true) && (PySem.W.hasDictIn K D && (decide (PySem.W.findIn K (.ref D) "__class__" = some (some (.builtin "object.__class__"))) &&
    (decide (PySem.W.specialIn K (.builtin "object.__class__") "__get__" = some (some (.builtin "getset_descriptor.__get__"))) && (decide (PySem.W.takesIn K (.builtin "object.__class__") = some true) && decide (PySem.W.mroIn K D (.type "object") = some true)))))))
theorem excCB_ok {K : PySem.W.Frag} {D : Addr} (h : excCB K D = true) : ExcC K D := by
  unfold excCB at h
  obtain ⟨h1, h⟩ := He.ba h
  obtain ⟨h2, h⟩ := He.ba h
  obtain ⟨h3, h⟩ := He.ba h
  obtain ⟨h4, h⟩ := He.ba h
  obtain ⟨h5, h⟩ := He.ba h
  obtain ⟨h6, h⟩ := He.ba h
  obtain ⟨h7, h8⟩ := He.ba h
  exact ⟨of_decide_eq_true h1, of_decide_eq_true h2, of_decide_eq_true h3, h4, of_decide_eq_true h5, of_decide_eq_true h6, of_decide_eq_true h7, of_decide_eq_true h8⟩
def errFB (K : PySem.W.Frag) : Bool := errWs.all fun p => excCB K (He.ga K p.1) && (decide (PySem.W.kitOne K (.type "NoneType") (.ref (He.ga K p.1)) = some false) && (decide (PySem.W.kitOne K (.ref (He.ga K p.1)) (.type "ValueError") = some true) &&
  errWs.all fun q => decide (PySem.W.kitOne K (.ref (He.ga K p.1)) (.ref (He.ga K q.1)) = some (decide (p.1 = q.1)))))
theorem errFB_ok {K : PySem.W.Frag} (h : errFB K = true) : ErrF K := by
  have each : ∀ C u, (C, u) ∈ errWs → ExcC K (He.ga K C) ∧ PySem.W.kitOne K (.type "NoneType") (.ref (He.ga K C)) = some false ∧ PySem.W.kitOne K (.ref (He.ga K C)) (.type "ValueError") = some true ∧
      ∀ D v, (D, v) ∈ errWs → PySem.W.kitOne K (.ref (He.ga K C)) (.ref (He.ga K D)) = some (decide (C = D)) := fun C u hC => by
    have h0 := List.all_eq_true.mp h (C, u) hC
    obtain ⟨h1, h0⟩ := He.ba h0
    obtain ⟨h2, h0⟩ := He.ba h0
    obtain ⟨h3, h4⟩ := He.ba h0
    exact ⟨excCB_ok h1, of_decide_eq_true h2, of_decide_eq_true h3, fun D v hD => of_decide_eq_true (List.all_eq_true.mp h4 (D, v) hD)⟩
  exact ⟨fun C u h => (each C u h).1, fun C u D v h h2 => (each C u h).2.2.2 D v h2, fun D v h => (each D v h).2.1, fun C u h => (each C u h).2.2.1⟩
theorem cls_of {fa : List He.Fa} {fn : List He.DefD} {ex : PySem.W.Frag → Bool} {h : Heap} {K : PySem.W.Frag} {mg : Str → Option Value} (c : SaysZ fa fn ex K) (X : K.In h) (G : h.Ns mainGlobals mg) {x : Str} (j : Nat) (hj : fa[j]? = some (.glo x)) : mg x = some (.ref (He.ga K x)) := He.glo_ok X G (c.d.fact j hj)
end Sw

set_option Elab.async false
set_option linter.all false
set_option maxRecDepth 100000
set_option maxHeartbeats 4000000
namespace Sw
open PySem PySem.Spec PyProof.Rows L2
/-! ## Noughts and ones stand for all numbers -/
def Mono (f : Int → Int) : Prop := ∀ x y, x ≤ y → f x ≤ f y
theorem at0_map {r : Row} {f : Int → Int} {k : Nat} (h : k < r.length) : at0 (r.map f) k = f (at0 r k) := by
  unfold at0
  rw [List.getD_eq_getElem?_getD, List.getD_eq_getElem?_getD, List.getElem?_map, List.getElem?_eq_getElem h] <;> rfl
theorem at0_get {r : Row} {k : Nat} (h : k < r.length) : r[k]? = some (at0 r k) := by
  unfold at0
  rw [List.getD_eq_getElem?_getD, List.getElem?_eq_getElem h] <;> rfl
theorem set_at0' {r : Row} {k : Nat} : r.set k (at0 r k) = r := by
  by_cases h : k < r.length
  · have e : at0 r k = r[k] := by
      unfold at0
      rw [List.getD_eq_getElem?_getD, List.getElem?_eq_getElem h] <;> rfl
    rw [e, List.set_getElem_self]
  · rw [List.set_eq_of_length_le (by omega)]
theorem goC_map {n : Nat} {r : Row} {c : Cmp} {f : Int → Int} (hf : Mono f) (ok : CmpOk n c) (hr : r.length = n) : goC (r.map f) c = (goC r c).map f := by
  have h1 : at0 (r.map f) c.1 = f (at0 r c.1) := at0_map (by rw [hr]; exact ok.1)
  have h2 : at0 (r.map f) c.2 = f (at0 r c.2) := at0_map (by rw [hr]; exact ok.2.1)
  unfold goC
  rw [h1, h2]
  by_cases g : at0 r c.1 > at0 r c.2
  · rw [if_pos g, List.map_set, List.map_set]
    by_cases g2 : f (at0 r c.1) > f (at0 r c.2)
    · rw [if_pos g2]
    · rw [if_neg g2]
      have e : f (at0 r c.1) = f (at0 r c.2) := by
        have := hf _ _ (show at0 r c.2 ≤ at0 r c.1 by omega)
        omega
      rw [e, ← h2]
      have e1 : (r.map f).set c.1 (at0 (r.map f) c.2) = r.map f := by
        rw [h2, ← e, ← h1, set_at0']
      rw [e1, set_at0']
  · rw [if_neg g]
    have := hf _ _ (show at0 r c.1 ≤ at0 r c.2 by omega)
    rw [if_neg (by omega)]
theorem gone_map {n : Nat} {f : Int → Int} (hf : Mono f) : ∀ (cs : List Cmp) (r : Row), CmpsOk n cs → r.length = n → gone cs (r.map f) = (gone cs r).map f
  | [], _, _, _ => rfl
  | c :: cs, r, ok, hr => by
    show gone cs (goC (r.map f) c) = (gone cs (goC r c)).map f
    rw [goC_map hf (ok c List.mem_cons_self) hr]
    exact gone_map hf cs (goC r c) (fun d hd => ok d (List.mem_cons_of_mem _ hd)) (by rw [goC_len, hr])
/-- one from t on -/
def thr (t x : Int) : Int := if t ≤ x then 1 else 0
theorem thr_mono (t : Int) : Mono (thr t) := fun x y h => by
  unfold thr
  split <;> split <;> omega
theorem thr_bit (t x : Int) : thr t x = 0 ∨ thr t x = 1 := by
  unfold thr
  split
  · exact .inr rfl
  · exact .inl rfl
def bareR (n m : Nat) : Row := (List.range n).map fun k => ((m / 2 ^ k % 2 : Nat) : Int)
def bares (n : Nat) : List Row := (List.range (2 ^ n)).map (bareR n)
def Bits (r : Row) : Prop := ∀ x ∈ r, x = 0 ∨ x = 1
theorem bareR_len (n m : Nat) : (bareR n m).length = n := by
  unfold bareR
  rw [List.length_map, List.length_range]
theorem bareR_succ (n m : Nat) : bareR (n + 1) m = ((m % 2 : Nat) : Int) :: bareR n (m / 2) := by
  unfold bareR
  rw [List.range_succ_eq_map, List.map_cons, List.map_map]
  congr 1
  · rw [Nat.pow_zero, Nat.div_one]
  · apply List.map_congr_left
    intro k _
    show ((m / 2 ^ (k + 1) % 2 : Nat) : Int) = _
    rw [Nat.pow_succ, Nat.mul_comm, ← Nat.div_div_eq_div_mul]
theorem bits_bare : ∀ (r : Row), Bits r → ∃ m, m < 2 ^ r.length ∧ bareR r.length m = r
  | [], _ => ⟨0, by decide, rfl⟩
  | x :: r, h => by
    obtain ⟨m, hm, e⟩ := bits_bare r fun y hy => h y (List.mem_cons_of_mem _ hy)
    have p : 2 ^ (r.length + 1) = 2 * 2 ^ r.length := by rw [Nat.pow_succ, Nat.mul_comm]
    rcases h x List.mem_cons_self with hx | hx
    · refine ⟨2 * m, ?_, ?_⟩
      · rw [List.length_cons, p]
        omega
      · rw [List.length_cons, bareR_succ, show 2 * m / 2 = m by omega, show 2 * m % 2 = 0 by omega, e, hx] <;> rfl
    · refine ⟨2 * m + 1, ?_, ?_⟩
      · rw [List.length_cons, p]
        omega
      · rw [List.length_cons, bareR_succ, show (2 * m + 1) / 2 = m by omega, show (2 * m + 1) % 2 = 1 by omega, e, hx] <;> rfl
theorem bits_mem {r : Row} {n : Nat} (h : Bits r) (hr : r.length = n) : r ∈ bares n := by
  subst hr
  obtain ⟨m, hm, e⟩ := bits_bare r h
  exact List.mem_map.mpr ⟨m, List.mem_range.mpr hm, e⟩
theorem bares_ok {n : Nat} {r : Row} (h : r ∈ bares n) : r.length = n ∧ Bits r := by
  obtain ⟨m, _, rfl⟩ := List.mem_map.mp h
  refine ⟨bareR_len n m, fun x hx => ?_⟩
  obtain ⟨k, _, rfl⟩ := List.mem_map.mp hx
  have : m / 2 ^ k % 2 = 0 ∨ m / 2 ^ k % 2 = 1 := by omega
  rcases this with h | h <;> rw [h]
  · exact .inl rfl
  · exact .inr rfl
theorem thr_bare {r : Row} {n : Nat} (t : Int) (hr : r.length = n) : r.map (thr t) ∈ bares n := by
  refine bits_mem (fun x hx => ?_) (by rw [List.length_map, hr])
  obtain ⟨y, _, rfl⟩ := List.mem_map.mp hx
  exact thr_bit t y
/-- in order -/
abbrev Srt (r : Row) : Prop := r.Pairwise (· ≤ ·)
theorem zero_one {n : Nat} {cs : List Cmp} (ok : CmpsOk n cs) (h : ∀ r ∈ bares n, Srt (gone cs r)) {r : Row} (hr : r.length = n) : Srt (gone cs r) := by
  rw [Srt, List.pairwise_iff_getElem]
  intro i j hi hj hij
  by_cases g : (gone cs r)[i] ≤ (gone cs r)[j]
  · exact g
  · exfalso
    have hb := h _ (thr_bare (gone cs r)[i] hr)
    rw [gone_map (thr_mono _) cs r ok hr, Srt, List.pairwise_iff_getElem] at hb
    have := hb i j (by rw [List.length_map]; exact hi) (by rw [List.length_map]; exact hj) hij
    rw [List.getElem_map, List.getElem_map] at this
    unfold thr at this
    rw [if_pos (Int.le_refl _), if_neg (by omega)] at this
    omega
theorem zero_one_eq {n : Nat} {cs ds : List Cmp} (ok : CmpsOk n cs) (ok2 : CmpsOk n ds) (h : ∀ r ∈ bares n, gone cs r = gone ds r) {r : Row} (hr : r.length = n) : gone cs r = gone ds r := by
  apply List.ext_getElem
  · rw [gone_len, gone_len]
  · intro i hi hj
    have key : ∀ t, thr t (gone cs r)[i] = thr t (gone ds r)[i] := fun t => by
      have hb := h _ (thr_bare t hr)
      rw [gone_map (thr_mono _) cs r ok hr, gone_map (thr_mono _) ds r ok2 hr] at hb
      have := congrArg (fun l => l[i]?) hb
      simp only [List.getElem?_map, List.getElem?_eq_getElem hi, List.getElem?_eq_getElem hj, Option.map_some] at this
      exact Option.some.inj this
    have k1 := key (gone cs r)[i]
    have k2 := key (gone ds r)[i]
    unfold thr at k1 k2
    rw [if_pos (Int.le_refl _)] at k1
    rw [if_pos (Int.le_refl _)] at k2
    split at k1
    · split at k2
      · omega
      · cases k2
    · cases k1
/-- where a comparer exchanges some row, it exchanges one of noughts and ones -/
theorem zero_one_stir {n k : Nat} {cs : List Cmp} {c : Cmp} (ok : CmpsOk n cs) (hc : CmpOk n c) {r : Row} (hr : r.length = n) (g : at0 (gone (cs.take k) r) c.1 > at0 (gone (cs.take k) r) c.2) :
    ∃ b ∈ bares n, at0 (gone (cs.take k) b) c.1 > at0 (gone (cs.take k) b) c.2 := by
  refine ⟨_, thr_bare (at0 (gone (cs.take k) r) c.1) hr, ?_⟩
  have okt : CmpsOk n (cs.take k) := fun d hd => ok d (List.mem_of_mem_take hd)
  have hl : (gone (cs.take k) r).length = n := by rw [gone_len, hr]
  rw [gone_map (thr_mono _) _ r okt hr, at0_map (by rw [hl]; exact hc.1), at0_map (by rw [hl]; exact hc.2.1)]
  unfold thr
  rw [if_pos (Int.le_refl _), if_neg (by omega)]
  decide
/-- numbers laid upon noughts and ones go as these -/
theorem laid_goes {n : Nat} {cs : List Cmp} {t : Int} (ok : CmpsOk n cs) {r b : Row} (hr : r.length = n) (e : r.map (thr t) = b) : gone cs b = (gone cs r).map (thr t) := by
  rw [← e, gone_map (thr_mono _) cs r ok hr]
end Sw

set_option Elab.async false
set_option linter.all false
set_option maxRecDepth 100000
set_option maxHeartbeats 4000000
namespace Sw
open PySem PySem.Spec PyProof.Rows L2
/-! ## Layers -/
/-- two comparers with a line in common -/
def share (c d : Cmp) : Bool := decide (c.1 = d.1 ∨ c.1 = d.2 ∨ c.2 = d.1 ∨ c.2 = d.2)
abbrev Hgt := Nat → Nat
def tierH (h : Hgt) (c : Cmp) : Nat := max (h c.1) (h c.2)
def stepH (h : Hgt) (c : Cmp) : Hgt := fun l => if l = c.1 ∨ l = c.2 then tierH h c + 1 else h l
/-- the layer of each comparer, by heights of lines -/
def tiersH : Hgt → List Cmp → List Nat
  | _, [] => []
  | h, c :: cs => tierH h c :: tiersH (stepH h c) cs
def hgtH : Hgt → List Cmp → Hgt
  | h, [] => h
  | h, c :: cs => hgtH (stepH h c) cs
def tiers (cs : List Cmp) : List Nat := tiersH (fun _ => 0) cs
theorem tiersH_len : ∀ (h : Hgt) (cs : List Cmp), (tiersH h cs).length = cs.length
  | _, [] => rfl
  | h, c :: cs => by
    show (tiersH (stepH h c) cs).length + 1 = _
    rw [tiersH_len] <;> rfl
theorem tiersH_app : ∀ (h : Hgt) (cs ds : List Cmp), tiersH h (cs ++ ds) = tiersH h cs ++ tiersH (hgtH h cs) ds
  | _, [], _ => rfl
  | h, c :: cs, ds => by
    show tierH h c :: tiersH (stepH h c) (cs ++ ds) = _
    rw [tiersH_app (stepH h c) cs ds] <;> rfl
theorem hgtH_app : ∀ (h : Hgt) (cs ds : List Cmp), hgtH h (cs ++ ds) = hgtH (hgtH h cs) ds
  | _, [], _ => rfl
  | h, c :: cs, ds => hgtH_app (stepH h c) cs ds
theorem tiersH_take (h : Hgt) (cs : List Cmp) (i : Nat) : tiersH h (cs.take i) = (tiersH h cs).take i := by
  have e := tiersH_app h (cs.take i) (cs.drop i)
  rw [List.take_append_drop] at e
  by_cases hi : i ≤ cs.length
  · have l1 : (tiersH h (cs.take i)).length = i := by
      rw [tiersH_len, List.length_take]
      omega
    rw [e, List.take_left' l1]
  · rw [List.take_of_length_le (show cs.length ≤ i by omega), List.take_of_length_le (by rw [tiersH_len]; omega)]
theorem snocInd {α : Type} {P : List α → Prop} (h0 : P []) (h1 : ∀ l a, P l → P (l ++ [a])) (l : List α) : P l := by
  rw [← List.reverse_reverse l]
  induction l.reverse with
  | nil => exact h0
  | cons a r ih =>
    rw [List.reverse_cons]
    exact h1 _ _ ih
theorem tiers_get {cs : List Cmp} {i : Nat} {c : Cmp} (h : cs[i]? = some c) : (tiers cs)[i]? = some (tierH (hgtH (fun _ => 0) (cs.take i)) c) := by
  have hi : i < cs.length := (List.getElem?_eq_some_iff.mp h).1
  have e : cs = cs.take i ++ c :: cs.drop (i + 1) := by
    have := List.getElem?_eq_some_iff.mp h
    obtain ⟨_, hc⟩ := this
    rw [← hc, List.getElem_cons_drop, List.take_append_drop]
  have e2 : tiers cs = tiersH (fun _ => 0) (cs.take i) ++ tierH (hgtH (fun _ => 0) (cs.take i)) c :: tiersH (stepH (hgtH (fun _ => 0) (cs.take i)) c) (cs.drop (i + 1)) := by
    unfold tiers
    conv => lhs; rw [e, tiersH_app]
    rfl
  rw [e2, List.getElem?_append_right (by rw [tiersH_len, List.length_take]; omega), tiersH_len, List.length_take, Nat.min_eq_left (by omega), Nat.sub_self] <;> rfl
/-- a line's height: one above the highest of those that touch it -/
theorem hgt_spec : ∀ (cs : List Cmp) (l : Nat), (∀ (i : Nat) (c : Cmp), cs[i]? = some c → (c.1 = l ∨ c.2 = l) → ∀ t, (tiers cs)[i]? = some t → t + 1 ≤ hgtH (fun _ => 0) cs l) ∧
    (hgtH (fun _ => 0) cs l = 0 ∨ ∃ (i : Nat) (c : Cmp) (t : Nat), cs[i]? = some c ∧ (c.1 = l ∨ c.2 = l) ∧ (tiers cs)[i]? = some t ∧ hgtH (fun _ => 0) cs l = t + 1) := by
  intro cs
  induction cs using snocInd with
  | h0 => exact fun l => ⟨(fun i c h => nomatch h), .inl rfl⟩
  | h1 cs d ih =>
    intro l
    obtain ⟨ih1, ih2⟩ := ih l
    have eh : hgtH (fun _ => 0) (cs ++ [d]) = stepH (hgtH (fun _ => 0) cs) d := by rw [hgtH_app] <;> rfl
    have et : tiers (cs ++ [d]) = tiers cs ++ [tierH (hgtH (fun _ => 0) cs) d] := by
      unfold tiers
      rw [tiersH_app] <;> rfl
    have tl : (tiers cs).length = cs.length := tiersH_len _ _
    rw [eh, et]
    have low : hgtH (fun _ => 0) cs l ≤ stepH (hgtH (fun _ => 0) cs) d l := by
      unfold stepH
      split
      · rename_i h
        unfold tierH
        rcases h with h | h <;> rw [h] <;> omega
      · exact Nat.le_refl _
    constructor
    · intro i c hc ht t gt
      by_cases hi : i < cs.length
      · rw [List.getElem?_append_left hi] at hc
        rw [List.getElem?_append_left (by rw [tl]; exact hi)] at gt
        exact Nat.le_trans (ih1 i c hc ht t gt) low
      · have hl := (List.getElem?_eq_some_iff.mp hc).1
        rw [List.length_append, List.length_singleton] at hl
        have ei : i = cs.length := by omega
        subst ei
        rw [List.getElem?_append_right (Nat.le_refl _), Nat.sub_self] at hc
        rw [List.getElem?_append_right (by rw [tl]; exact Nat.le_refl _), tl, Nat.sub_self] at gt
        have e1 : d = c := Option.some.inj hc
        have e2 : tierH (hgtH (fun _ => 0) cs) d = t := Option.some.inj gt
        subst e1
        unfold stepH
        rw [if_pos (by rcases ht with h | h <;> simp [h]), e2]
        exact Nat.le_refl _
    · by_cases hd : l = d.1 ∨ l = d.2
      · refine .inr ⟨cs.length, d, tierH (hgtH (fun _ => 0) cs) d, ?_, ?_, ?_, ?_⟩
        · rw [List.getElem?_append_right (Nat.le_refl _), Nat.sub_self] <;> rfl
        · rcases hd with h | h
          · exact .inl h.symm
          · exact .inr h.symm
        · rw [List.getElem?_append_right (by rw [tl]; exact Nat.le_refl _), tl, Nat.sub_self] <;> rfl
        · unfold stepH
          rw [if_pos hd]
      · have es : stepH (hgtH (fun _ => 0) cs) d l = hgtH (fun _ => 0) cs l := by
          unfold stepH
          rw [if_neg hd]
        rw [es]
        rcases ih2 with h | ⟨i, c, t, h1, h2, h3, h4⟩
        · exact .inl h
        · have hi := (List.getElem?_eq_some_iff.mp h1).1
          exact .inr ⟨i, c, t, by rw [List.getElem?_append_left hi]; exact h1, h2, by rw [List.getElem?_append_left (by rw [tl]; exact hi)]; exact h3, h4⟩
/-- neighbours without a common line -/
theorem stepH_comm {h : Hgt} {c d : Cmp} (s : share c d = false) : tierH (stepH h c) d = tierH h d ∧ stepH (stepH h c) d = stepH (stepH h d) c := by
  unfold share at s
  have n := of_decide_eq_false s
  have n1 : c.1 ≠ d.1 := fun z => n (.inl z)
  have n2 : c.1 ≠ d.2 := fun z => n (.inr (.inl z))
  have n3 : c.2 ≠ d.1 := fun z => n (.inr (.inr (.inl z)))
  have n4 : c.2 ≠ d.2 := fun z => n (.inr (.inr (.inr z)))
  have a1 : tierH (stepH h c) d = tierH h d := by
    unfold tierH stepH
    rw [if_neg (fun z => by rcases z with z | z <;> simp_all), if_neg (fun z => by rcases z with z | z <;> simp_all)]
  have a2 : tierH (stepH h d) c = tierH h c := by
    unfold tierH stepH
    rw [if_neg (fun z => by rcases z with z | z <;> simp_all), if_neg (fun z => by rcases z with z | z <;> simp_all)]
  refine ⟨a1, ?_⟩
  funext l
  show (if l = d.1 ∨ l = d.2 then tierH (stepH h c) d + 1 else stepH h c l) = (if l = c.1 ∨ l = c.2 then tierH (stepH h d) c + 1 else stepH h d l)
  rw [a1, a2]
  unfold stepH
  by_cases h1 : l = d.1 ∨ l = d.2
  · have h2 : ¬ (l = c.1 ∨ l = c.2) := fun z => by
      rcases h1 with h1 | h1 <;> rcases z with z | z <;> simp_all
    rw [if_pos h1, if_neg h2, if_pos h1]
  · rw [if_neg h1, if_neg h1]
/-- the comparers of one layer -/
def layerOf (cs : List Cmp) (ts : List Nat) (t : Nat) : List Cmp := ((cs.zip ts).filter fun p => p.2 == t).map (·.1)
theorem share_comm (c d : Cmp) : share c d = share d c := by
  unfold share
  exact decide_eq_decide.mpr ⟨fun h => by rcases h with h | h | h | h <;> simp [h], fun h => by rcases h with h | h | h | h <;> simp [h]⟩
theorem layer_swap (h : Hgt) (c d : Cmp) (cs : List Cmp) (s : share c d = false) (t : Nat) : (layerOf (c :: d :: cs) (tiersH h (c :: d :: cs)) t).Perm (layerOf (d :: c :: cs) (tiersH h (d :: c :: cs)) t) := by
  obtain ⟨a1, a3⟩ := stepH_comm (h := h) s
  obtain ⟨a2, _⟩ := stepH_comm (h := h) (c := d) (d := c) (by rw [share_comm]; exact s)
  have e1 : tiersH h (c :: d :: cs) = tierH h c :: tierH h d :: tiersH (stepH (stepH h c) d) cs := by
    show tierH h c :: tierH (stepH h c) d :: _ = _
    rw [a1]
  have e2 : tiersH h (d :: c :: cs) = tierH h d :: tierH h c :: tiersH (stepH (stepH h c) d) cs := by
    show tierH h d :: tierH (stepH h d) c :: tiersH (stepH (stepH h d) c) cs = _
    rw [a2, ← a3]
  rw [e1, e2]
  unfold layerOf
  simp only [List.zip_cons_cons, List.filter_cons]
  split <;> split
  · exact List.Perm.swap _ _ _
  · exact List.Perm.refl _
  · exact List.Perm.refl _
  · exact List.Perm.refl _
theorem layer_cons (h : Hgt) (c : Cmp) (cs : List Cmp) (t : Nat) : layerOf (c :: cs) (tiersH h (c :: cs)) t = (if tierH h c = t then [c] else []) ++ layerOf cs (tiersH (stepH h c) cs) t := by
  unfold layerOf
  show List.map _ (List.filter _ ((c, tierH h c) :: cs.zip (tiersH (stepH h c) cs))) = _
  rw [List.filter_cons]
  by_cases e : tierH h c = t
  · rw [if_pos (by simpa using e), if_pos e] <;> rfl
  · rw [if_neg (by simpa using e), if_neg e] <;> rfl
/-- exchanging neighbours without a common line keeps each layer's comparers -/
theorem layer_perm : ∀ (pre : List Cmp) (h : Hgt) (c d : Cmp) (cs : List Cmp) (t : Nat), share c d = false → (layerOf (pre ++ c :: d :: cs) (tiersH h (pre ++ c :: d :: cs)) t).Perm (layerOf (pre ++ d :: c :: cs) (tiersH h (pre ++ d :: c :: cs)) t)
  | [], h, c, d, cs, t, s => layer_swap h c d cs s t
  | p :: pre, h, c, d, cs, t, s => by
    rw [List.cons_append, List.cons_append, layer_cons, layer_cons]
    exact (List.Perm.refl _).append (layer_perm pre (stepH h p) c d cs t s)
end Sw

set_option Elab.async false
set_option linter.all false
set_option maxRecDepth 100000
set_option maxHeartbeats 4000000
namespace Sw
open PySem PySem.Spec PyProof.Rows L2
/-! ## len(set(x)), x a tuple of whole numbers -/
def tLenSetI (K : PySem.W.Frag) (ta : TE) : TE := fun σ H Q => ta σ H fun x H1 => ∃ (l : Addr) (ns : List Int), x = .ref l ∧ SqT K H1 l (ns.map V.int) ∧ ns.length ≤ 1000 ∧ ∀ ks : List Int, ks.Nodup → (∀ k, k ∈ ks ↔ k ∈ ns) → Q (.int ks.length) H1
section
variable {X : Cx}
theorem pe_lenSetI {a : Expr} {ta : TE} {p p2 q pos : Pos} (hc : X.calm = true) (hg : Gl X "len") (hm : X.mg "len" = none) (hg2 : Gl X "set") (hm2 : X.mg "set" = none) (ha : PE X a ta)
    (na : starEach [a] X.env = (false, eval a X.env) :: starEach [] X.env := by rfl) : PE X (.Call (.Name "len" p) [.Call (.Name "set" p2) [a] [] q] [] pos) (tLenSetI X.K ta) := by
  refine ⟨fun pins s σ H Q I h => Call_ (ld_blt I hg hm boot_len (PyProof.Rows.callWith_builtin1 (PyProof.Rows.args_cons ?_ rfl) rfl rfl))⟩
  refine Call_ (ld_blt I hg2 hm2 boot_set (PyProof.Rows.callWith_type1 (PyProof.Rows.args_cons (thn (ha.run pins s σ H _ I h) fun v s1 hv => PyProof.Rows.args_nil ?_) na) na rfl))
  obtain ⟨x, H1, I1, r1, l, ns, rfl, hq, few, q1⟩ := hv
  cases r1
  obtain ⟨its, rv, pt, _⟩ := I1.tuple hq
  refine call_set_tupI ns (I1.ok.hd hc) (show s1.heap.IsTuple l its.toArray from pt) (ints_of_vals rv) (by unfold scanBound; omega) fun g tk c R hcn k => ?_
  obtain ⟨o, es, ep, t, ho, hex, hdt, _, nd, mem, hb, hf, hn, _⟩ := R
  refine PyProof.Rows.args_nil ?_
  have I2 : Inv X pins σ H1 { s1 with heap := g, toks := tk } := I1.kept k
  refine call_len_set ho hex hdt hf (by rw [hn]; have := sizeLine_eq; omega) ⟨.int (es.toList.map keyOf).length, H1, I2.tok _, ⟨_, by rw [List.length_map, Array.length_toList]⟩, q1 _ nd fun j => ?_⟩
  rw [← mem j, decide_eq_true_eq]
theorem md_count : MtR X "list.count" (rCntI X.K) := mt_lcount
end
/-! ## x[::k] of a list, k one or one less than nought -/
theorem pick_one (items : Array Value) : slicePick items none none (some 1) = items := by
  have e : (sliceBounds none none (some 1) items.size) = (((0 : Nat) : Int), ((items.size : Nat) : Int), (1 : Int)) := by
    first
      | rfl
      | simp [sliceBounds]
  unfold slicePick
  rw [e]
  show ((sliceRange ((0 : Nat) : Int) ((items.size : Nat) : Int) 1).filterMap (items[·]?)).toArray = _
  rw [sliceRange_one, Nat.sub_zero]
  have e2 : (List.range items.size).map (0 + ·) = List.range items.size := by
    rw [show ((0 + ·) : Nat → Nat) = id from funext fun k => Nat.zero_add k, List.map_id]
  rw [e2, PySem.W.krv_all]
def tStepL (K : PySem.W.Frag) (te ts : TE) : TE := fun σ H Q => te σ H fun x H1 => tPart ts σ H1 fun o H4 => ∃ k : Int, o = some k ∧ ∃ (a : Addr) (xs : List V), x = .ref a ∧ SqL K H4 a xs ∧ (k = 1 ∨ k = -1) ∧ ∀ p, H4 p = none → Q (.ref p) (upd H4 p (.lst (if k = 1 then xs else xs.reverse)))
section
variable {X : Cx}
theorem pe_stepL {e es : Expr} {te ts : TE} {p3 pos : Pos} (he : PE X e te) (hs : PE X es ts) (hl : ∀ o i, subscripted (.Slice none none (some es) p3) false o i = operate [o, i] (getItem o i) := by intro _ _; with_unfolding_all rfl) :
    PE X (.Subscript e (.Slice none none (some es) p3) pos) (tStepL X.K te ts) := by
  refine ⟨fun pins s σ H Q I h => Subscript_ (thn (he.run pins s σ H _ I h) fun v s1 hv => ?_)⟩
  obtain ⟨x, H1, I1, r1, q1⟩ := hv
  have pst : PO X (some es) (tPart ts) := po_some hs
  refine wpAny_Slice (thn (po_none.run pins s1 σ H1 (fun o H2 => o = none ∧ H2 = H1) I1 ⟨rfl, rfl⟩) fun vl s2 hl2 => ?_)
  obtain ⟨l, H2, I2, pl, rfl, rfl⟩ := hl2
  refine thn (po_none.run pins s2 σ H2 (fun o H3 => o = none ∧ H3 = H2) I2 ⟨rfl, rfl⟩) fun vu s3 hu2 => ?_
  obtain ⟨u, H3, I3, pu, rfl, rfl⟩ := hu2
  refine thn (pst.run pins s3 σ H3 (fun o H4 => ∃ k : Int, o = some k ∧ ∃ (a : Addr) (xs : List V), x = .ref a ∧ SqL X.K H4 a xs ∧ (k = 1 ∨ k = -1) ∧ ∀ p, H4 p = none → Q (.ref p) (upd H4 p (.lst (if k = 1 then xs else xs.reverse)))) I3 q1) fun vs s4 hs4 => ?_
  · obtain ⟨o, H4, I4, ps, k, rfl, a, xs, rfl, hx, hk, q⟩ := hs4
    cases r1
    have I5 : Inv X pins σ H4 { s4 with heap := s4.heap.push { cls := .type "slice", data := .fields #[vl, vu, vs] } } := I4.kept (t' := s4.toks) fun b ob z => Heap.get?_push_of_some _ z
    obtain ⟨its, r, ht, hz⟩ := I5.list hx
    have len := r.length
    show wpAny (model X.prog X.w) X.A (subscriptTail e (.Slice none none (some es) p3) (.ref a) (.ref s4.heap.objs.size)) (EP X pins σ Q) X.xe { s4 with heap := s4.heap.push { cls := .type "slice", data := .fields #[vl, vu, vs] } }
    refine tail_any (ops := [.ref a, .ref s4.heap.objs.size]) ht.isList.typeIs (PySem.slot_list_getitem.lookup) ?_ (hl _ _)
    refine wpAny_getItem_list_slice ht.isList (Heap.IsSliceOf.new _ vl vu vs) pl pu ps (by rcases hk with rfl | rfl <;> decide) ?_ (by rw [List.size_toArray]; omega)
    rcases hk with rfl | rfl
    · rw [pick_one]
      refine ⟨.ref _, _, I5.laid (t' := s4.toks) (o := .lst xs) (fun b ob z => Heap.get?_push_of_some _ z) (Nat.le_refl _) ?_, rfl, q _ (I5.hok.fresh (Nat.le_refl _))⟩
      exact ⟨hz, its, 0, r, Heap.get?_push_size _ rfl⟩
    · rw [PySem.W.krv_pick]
      refine ⟨.ref _, _, I5.laid (t' := s4.toks) (o := .lst xs.reverse) (fun b ob z => Heap.get?_push_of_some _ z) (Nat.le_refl _) ?_, rfl, q _ (I5.hok.fresh (Nat.le_refl _))⟩
      exact ⟨by rw [List.length_reverse]; exact hz, _, 0, r.reverse, Heap.get?_push_size _ rfl⟩
end
/-! ## a comprehension within a comprehension -/
theorem look_map (g : Str → NameKind → NameKind) : ∀ (l : List (Str × NameKind)) (x : Str), (l.map fun p => (p.1, g p.1 p.2)).lookup x = (l.lookup x).map (g x)
  | [], _ => rfl
  | (n, k) :: l, x => by
    rw [List.map_cons, List.lookup_cons, List.lookup_cons]
    cases h : x == n with
    | true =>
      have e : x = n := eq_of_beq h
      rw [e] <;> rfl
    | false => exact look_map g l x
theorem blkOk_in {N : List Str} {sc scope : Scope} {own : List (Str × Nat)} {env : Env} (h : BlkOk N sc scope own) : BlkOk N (relabel sc env) scope own := by
  refine ⟨h.kind, h.uniq, h.ix, fun y hy e => ?_, h.own⟩
  have q := h.free y hy e
  have em : (relabel sc env).names = sc.names.map fun p => (p.1, if (p.2 == NameKind.free && env.scope.kind == .function && env.kindOf p.1 == some .cell) then NameKind.cell else p.2) := by
    unfold relabel
    show List.map _ _ = List.map _ _
    congr 1
    funext p
    obtain ⟨n, k⟩ := p
    show (if _ then _ else _) = _
    split
    · rfl
    · rfl
  rw [em, look_map fun n k => if (k == NameKind.free && env.scope.kind == .function && env.kindOf n == some .cell) then NameKind.cell else k]
  rcases q with q | q
  · rw [q]
    exact .inl (by rfl)
  · rw [q]
    show some (if _ then _ else _) = _ ∨ some (if _ then _ else _) = _
    split
    · exact .inl rfl
    · exact .inr rfl
end Sw

set_option Elab.async false
set_option linter.all false
set_option maxRecDepth 100000
set_option maxHeartbeats 4000000
namespace Sw
open PySem PySem.Spec PyProof.Rows L2 PySem.W
/-! ## max(ns, default=d) -/
theorem ints_reads {h : Heap} : ∀ {vs : List Value} {ns : List Int}, IntsAre vs ns → ReadsAll h vs (ns.map PyData.int) []
  | _, _, .nil => .nil
  | _, _, .cons _ _ r => .cons (as := []) (.int _ _) (ints_reads r)
theorem ints_alike (ns : List Int) : AlikeAll (ns.map PyData.int) := by
  refine ⟨fun x hx y hy => ?_, fun x hx => ?_⟩
  · obtain ⟨a, _, rfl⟩ := List.mem_map.mp hx
    obtain ⟨b, _, rfl⟩ := List.mem_map.mp hy
    rfl
  · obtain ⟨a, _, rfl⟩ := List.mem_map.mp hx
    exact fun z => nomatch z
theorem depth_ints : ∀ ns : List Int, PyData.depthAll (ns.map PyData.int) = 0
  | [] => rfl
  | n :: ns => by
    show max 0 (PyData.depthAll (ns.map PyData.int)) = 0
    rw [depth_ints ns] <;> rfl
theorem fold_max : ∀ (ns : List Int) (n : Int), ns.foldl max n ∈ n :: ns ∧ ∀ y ∈ n :: ns, y ≤ ns.foldl max n
  | [], n => ⟨.head _, fun y hy => by rw [List.mem_singleton.mp hy]; exact Int.le_refl _⟩
  | k :: ns, n => by
    obtain ⟨h1, h2⟩ := fold_max ns (max n k)
    show ns.foldl max (max n k) ∈ n :: k :: ns ∧ _
    constructor
    · rcases List.mem_cons.mp h1 with h | h
      · rw [h]
        have : max n k = n ∨ max n k = k := by omega
        rcases this with e | e <;> rw [e]
        · exact .head _
        · exact .tail _ (.head _)
      · exact .tail _ (.tail _ h)
    · intro y hy
      have h3 := h2 _ (List.mem_cons_self (a := max n k))
      show y ≤ ns.foldl max (max n k)
      rcases List.mem_cons.mp hy with h | h
      · omega
      · rcases List.mem_cons.mp h with h | h
        · omega
        · exact h2 y (.tail _ h)
def rMaxDI (K : PySem.W.Frag) : List V → List V → Hp → VK → Prop := fun vs zs H Q => ∃ (a : Addr) (ns : List Int) (d : Int), vs = [.ref a] ∧ zs = [.int d] ∧ SqL K H a (ns.map V.int) ∧ (ns = [] → Q (.int d) H) ∧ ∀ m, m ∈ ns → (∀ y ∈ ns, y ≤ m) → Q (.int m) H
section
variable {X : Cx}
theorem cl_maxDI (hc : X.calm = true) (hu : X.A.units + 64 < cLine) : CallRK X (.builtin "max") ["default"] (rMaxDI X.K) := by
  intro pins s σ H vs zs us ws Q I r1 r2 h
  obtain ⟨a, ns, d, rfl, rfl, hs, q0, q1⟩ := h
  obtain ⟨its, rv, hl, _⟩ := I.list hs
  rw [Vals.ref1 r1]
  obtain ⟨u, rfl, t, rfl⟩ : ∃ u, ws = [u] ∧ ∃ t, u = .int d t := by
    cases r2 with
    | cons r rs =>
      cases rs
      exact ⟨_, rfl, r⟩
  refine max_list_default (as := []) (I.ok.hd hc) hl.isList (ints_reads rv.ints) (ints_alike ns) (by rw [depth_ints]; omega) (fun e h' tk hk => ?_) (fun y ys i v h' tk bs e hv hrd hk => ?_)
  · exact ⟨.int d, H, I.kept hk, ⟨t, rfl⟩, q0 (List.map_eq_nil_iff.mp e)⟩
  · cases ns with
    | nil => cases e
    | cons n ns =>
      cases e
      rw [maxD_ints] at hrd
      obtain ⟨t2, rfl, _⟩ := reads_int_inv hrd
      obtain ⟨f1, f2⟩ := fold_max ns n
      exact ⟨.int _, H, I.kept hk, ⟨t2, rfl⟩, q1 _ f1 f2⟩
end
end Sw

set_option Elab.async false
set_option linter.all false
set_option maxRecDepth 100000
set_option maxHeartbeats 4000000
namespace Sw
open PySem PySem.Spec PyProof.Rows L2
/-! ## t[::k] of a pair, k one or one less than nought -/
section
variable {prog : Program} {w : World} {A : Around} {E : Value → Shared → Prop} {s : Shared}
theorem applied_one2 {sl : Addr} {tk : Tok} {Q : Int × Int × Nat → Shared → Prop} (hs : s.heap.IsSliceOf sl .none .none (.int 1 tk)) (h : Q (0, 1, 2) s) :
    wpAny (model prog w) A (Builtin.Slice.sliceApplied (.ref sl) (pure (2 : Int))) Q E s := by
  obtain ⟨os, hos, hcs, hds⟩ := id hs
  unfold Builtin.Slice.sliceApplied Builtin.Slice.sliceFields
  refine wpAny_bind (wpAny_bind ?_)
  refine wpAny_field hos hds (x := .none) rfl ?_
  refine wpAny_bind (wpAny_field hos hds (x := .none) rfl ?_)
  refine wpAny_bind (wpAny_field hos hds (x := .int 1 tk) rfl ?_)
  refine wpAny_pure ?_
  refine wpAny_bind (HT.slicePart_ (.int 1 tk) ?_)
  show wpAny _ _ (if ((1 : Int) == 0) = true then _ else _) _ _ s
  rw [if_neg (by decide)]
  refine wpAny_bind (HT.slicePart_ .none ?_)
  refine wpAny_bind (HT.slicePart_ .none ?_)
  refine wpAny_bind (wpAny_pure ?_)
  exact wpAny_pure h
theorem item_one2 {t sl : Addr} {u v : Value} {tk : Tok} {Q : Value → Shared → Prop} (ht : IsTup s.heap t #[u, v]) (hs : s.heap.IsSliceOf sl .none .none (.int 1 tk))
    (h : Q (.ref t) s) : wpAny (model prog w) A (getItem (.ref t) (.ref sl)) Q E s := by
  obtain ⟨os, hos, hcs, hds⟩ := id hs
  have kind : s.TypeIs (.ref sl) "slice" := ⟨os, hos, hcs⟩
  unfold getItem
  try with_reducible refine wpAny_holding ?_
  first
    | refine wpAny_bind (wpAny_pure ?_)
    | skip
  refine wpAny_bind (wpAny_sequenceKey ht.typeIs (by decide) ?_)
  refine wpAny_bind (wpAny_callSpecial?_slot (name := Str.ofString "__getitem__") ht.typeIs slot_tuple_getitem ?_)
  refine wpAny_call_entry slot_tuple_getitem ht.typeIs entry_tuple_getitem ?_ (args_tuple_getitem _ _)
  show wpAny _ _ (Builtin.Tuple.tupleItemsOf (.ref t) >>= _) _ _ s
  refine wpAny_bind (tupleItemsOf_ ht ?_)
  refine wpAny_bind (wpAny_typeOf kind ?_)
  rw [if_pos (by decide)]
  refine wpAny_bind (applied_one2 hs ?_)
  show wpAny _ _ (if ((0 : Int) == 0 && (1 : Int) == 1 && (2 : Nat) == 2) = true then _ else _) _ _ s
  rw [if_pos (by decide)]
  refine wpAny_bind (m := Builtin.Tuple.tupleIsExact _) ?_
  unfold Builtin.Tuple.tupleIsExact
  refine wpAny_bind (wpAny_typeOf ht.typeIs ?_)
  refine wpAny_pure ?_
  rw [if_pos (by decide)]
  refine wpAny_bind (wpAny_rule ?_)
  exact wpAny_pure ⟨_, rfl, wpAny_pure h⟩
end
/-- t[::k], t a pair: itself, or turned -/
def tStepT (K : PySem.W.Frag) (te ts : TE) : TE := fun σ H Q => te σ H fun x H1 => tPart ts σ H1 fun o H4 => ∃ k : Int, o = some k ∧ ∃ (a : Addr) (y z : V), x = .ref a ∧ SqT K H4 a [y, z] ∧ ((k = 1 ∧ Q (.ref a) H4) ∨ (k = -1 ∧ ∀ p, H4 p = none → Q (.ref p) (upd H4 p (.tup [z, y]))))
section
variable {X : Cx}
theorem pe_stepT {e es : Expr} {te ts : TE} {p3 pos : Pos} (he : PE X e te) (hs : PE X es ts) (hl : ∀ o i, subscripted (.Slice none none (some es) p3) false o i = operate [o, i] (getItem o i) := by intro _ _; with_unfolding_all rfl) :
    PE X (.Subscript e (.Slice none none (some es) p3) pos) (tStepT X.K te ts) := by
  refine ⟨fun pins s σ H Q I h => Subscript_ (thn (he.run pins s σ H _ I h) fun v s1 hv => ?_)⟩
  obtain ⟨x, H1, I1, r1, q1⟩ := hv
  have pst : PO X (some es) (tPart ts) := po_some hs
  refine wpAny_Slice (thn (po_none.run pins s1 σ H1 (fun o H2 => o = none ∧ H2 = H1) I1 ⟨rfl, rfl⟩) fun vl s2 hl2 => ?_)
  obtain ⟨l, H2, I2, pl, rfl, rfl⟩ := hl2
  refine thn (po_none.run pins s2 σ H2 (fun o H3 => o = none ∧ H3 = H2) I2 ⟨rfl, rfl⟩) fun vu s3 hu2 => ?_
  obtain ⟨u, H3, I3, pu, rfl, rfl⟩ := hu2
  refine thn (pst.run pins s3 σ H3 (fun o H4 => ∃ k : Int, o = some k ∧ ∃ (a : Addr) (y z : V), x = .ref a ∧ SqT X.K H4 a [y, z] ∧ ((k = 1 ∧ Q (.ref a) H4) ∨ (k = -1 ∧ ∀ p, H4 p = none → Q (.ref p) (upd H4 p (.tup [z, y]))))) I3 q1) fun vs s4 hs4 => ?_
  obtain ⟨o, H4, I4, ps, k, rfl, a, y, z, rfl, hx, hk⟩ := hs4
  cases r1
  cases pl
  cases pu
  cases ps with
  | int i tk =>
    have I5 : Inv X pins σ H4 { s4 with heap := s4.heap.push { cls := .type "slice", data := .fields #[.none, .none, .int k tk] } } := I4.kept (t' := s4.toks) fun b ob z => Heap.get?_push_of_some _ z
    obtain ⟨its, r, ht, hz⟩ := I5.tuple hx
    obtain ⟨y', z', rfl, ry, rz⟩ : ∃ y' z', its = [y', z'] ∧ RelV y y' ∧ RelV z z' := by
      cases r with
      | cons r1 r2 =>
        cases r2 with
        | cons r3 r4 =>
          cases r4
          exact ⟨_, _, rfl, r1, r3⟩
    show wpAny (model X.prog X.w) X.A (subscriptTail e (.Slice none none (some es) p3) (.ref a) (.ref s4.heap.objs.size)) (EP X pins σ Q) X.xe { s4 with heap := s4.heap.push { cls := .type "slice", data := .fields #[.none, .none, .int k tk] } }
    refine tail_any (ops := [.ref a, .ref s4.heap.objs.size]) ht.typeIs slot_tuple_getitem.lookup ?_ (hl _ _)
    rcases hk with ⟨rfl, q⟩ | ⟨rfl, q⟩
    · exact item_one2 ht (Heap.IsSliceOf.new _ .none .none _) ⟨.ref a, H4, I5, rfl, q⟩
    · refine item_back2 ht (Heap.IsSliceOf.new _ .none .none _) ?_
      refine ⟨.ref _, _, I5.laid (t' := s4.toks) (o := .tup [z, y]) (fun b ob q => Heap.get?_push_of_some _ q) (Nat.le_refl _) ?_, rfl, q _ (I5.hok.fresh (Nat.le_refl _))⟩
      refine ⟨by show 2 ≤ sizeLine; rw [sizeLine_eq]; decide, [z', y'], .cons rz (.cons ry .nil), IsTup.new _ _⟩
end
/-! ## xs.extend(t), t a tuple -/
def rExtT (K : PySem.W.Frag) : V → List V → Hp → VK → Prop := fun x vs H Q => ∃ l b xs zs, x = .ref l ∧ vs = [.ref b] ∧ H l = some (.lst xs) ∧ SqT K H b zs ∧ xs.length + zs.length ≤ 1000000 ∧ Q .non (upd H l (.lst (xs ++ zs)))
theorem list_extend_tupG (l : Addr) (items : Array Value) (n : Nat) (b : Addr) (items2 : Array Value) (hs0 : ¬(!items.isEmpty && Builtin.List.listTooLong (items.size + items2.size)) = true) (hs1 : items.size ≤ sizeLine) (hs2 : items.size + items2.size ≤ sizeLine + 1) :
    Meets (Builtin.«list.extend» ⟨[.ref l, .ref b], []⟩) (fun _ R s => s.heap.get? l = some { cls := .type "list", dict := none, data := .seq items n, slots := #[] } ∧ IsTup s.heap b items2 ∧ R (.ok (.ret Value.none)) { s with heap := s.heap.update l (Obj.mapSeq fun x => x ++ items2), toks := s.toks }) :=
  .of_wp fun prog w A R s h => by
    obtain ⟨hp, g, d, tk, os⟩ := s
    obtain ⟨hl, ⟨o, hb, hc, n2, hd⟩, h⟩ := h
    obtain ⟨oc, od, odt, osl⟩ := o
    cases hc
    cases hd
    have f1 := AutoSeq1.idx_int; have f2 := AutoSeq1.sub_tuple_tuple; have f3 := AutoSeq1.sub_list_list; have f4 := AutoSeq1.sub_tuple_list; have f5 := AutoSeq1.sub_list_tuple
    have hz' : (items ++ items2).size ≤ sizeLine + 1 := by rw [Array.size_append]; exact hs2
    wp_walk using (wpAny_updateSeq hl rfl (hz := hs1) (_hz' := hz')), AutoSeq1.wpAny_loadPart' hl, AutoSeq1.wpAny_loadPart' hb; exact ⟨_, rfl, h⟩
section
variable {X : Cx}
theorem md_extT : MtR X "list.extend" (rExtT X.K) := by
  intro pins s σ H x vs v us Q I rx rv h
  obtain ⟨l, b, xs, zs, rfl, rfl, hH, hB, hz, q⟩ := h
  cases rx
  obtain ⟨u, rfl, ru⟩ := rv.one
  cases ru
  obtain ⟨z, its, n, r, hl, e⟩ := I.lstM hH
  obtain ⟨its2, r2, hl2, z2⟩ := I.tuple hB
  have l1 := r.length
  have l2 := r2.length
  have sl := sizeLine_eq
  have hsz : its.toArray.size + its2.toArray.size ≤ sizeLine := by rw [List.size_toArray, List.size_toArray]; omega
  have hlong : ¬ (!its.toArray.isEmpty && Builtin.List.listTooLong (its.toArray.size + its2.toArray.size)) = true := by
    rw [notLongL hsz, Bool.and_false]
    exact Bool.false_ne_true
  refine call_meets PySem.F.slot_list_extend ⟨_, e, rfl⟩ PySem.F.entry_list_extend (PySem.F.args_list_extend_2 _ _)
    (list_extend_tupG l its.toArray n b its2.toArray hlong (by rw [List.size_toArray]; omega) (by omega)) ⟨e, hl2, ?_⟩
  refine ⟨.non, _, I.lset (its' := its ++ its2) hH e (by simp) (r.append r2) ?_, rfl, q⟩
  rw [List.length_append]
  omega
theorem md_indexL : MtR X "list.index" (rIndex X.K) := mt_index
end
/-! ## a < b < c < d -/
def tChain3 (r r' r'' : R2) (ta tb tc td : TE) : TE := fun σ H Q => ta σ H fun x H1 => tb σ H1 fun y H2 => r x y H2 fun z H3 => ∃ k, z = .bl k ∧ (if k = true then tc σ H3 fun w' H4 => r' y w' H4 fun z2 H5 => ∃ k2, z2 = .bl k2 ∧ (if k2 = true then td σ H5 fun u H6 => r'' w' u H6 Q else Q (.bl false) H5) else Q (.bl false) H3)
section
variable {X : Cx} {a b c d : Expr} {ta tb tc td : TE} {pos : Pos}
theorem pt_chain3 {op op' op'' : CmpOp} {r r' r'' : R2} (ho : OpR X (compareOp op) r) (ho' : OpR X (compareOp op') r') (ho'' : OpR X (compareOp op'') r'') (ha : PE X a ta) (hb : PE X b tb) (hc : PE X c tc) (hd : PE X d td)
    (hm : lastMarks [op, op', op''] [b, c, d] = false := by with_unfolding_all rfl) : PT X (.Compare a [op, op', op''] [b, c, d] pos) (tTest (tChain3 r r' r'' ta tb tc td)) := by
  refine ⟨fun pins s σ H Q I h => ?_⟩
  refine isTrue_chain (thn (ha.run pins s σ H _ I h) fun v s1 ⟨x, H1, I1, r1, q1⟩ => test_link (thn (hb.run pins s1 σ H1 _ I1 q1) fun u s2 ⟨y, H2, I2, r2, q2⟩ =>
    thn (ho pins s2 σ H2 x y v u _ I2 r1 r2 q2) fun d s3 ⟨z, H3, I3, r3, k, e, q3⟩ => ?_)) hm
  subst e
  cases r3
  refine wpAny_truthy_bool ?_
  cases k with
  | false =>
    obtain ⟨k', e', q'⟩ := q3
    cases e'
    exact ite_ff ⟨H3, I3, q'⟩
  | true =>
    refine ite_tt (test_link (thn (hc.run pins s3 σ H3 _ I3 q3) fun w' s4 ⟨z', H4, I4, r4, q4⟩ => thn (ho' pins s4 σ H4 y z' u w' _ I4 r2 r4 q4) fun d' s5 ⟨z2, H5, I5, r5, k2, e2, q5⟩ => ?_))
    subst e2
    cases r5
    refine wpAny_truthy_bool ?_
    cases k2 with
    | false =>
      obtain ⟨k', e', q'⟩ := q5
      cases e'
      exact ite_ff ⟨H5, I5, q'⟩
    | true =>
      refine ite_tt (test_last (thn (hd.run pins s5 σ H5 _ I5 q5) fun w2 s6 ⟨z6, H6, I6, r6, q6⟩ => thn (ho'' pins s6 σ H6 z' z6 w' w2 _ I6 r4 r6 q6) fun d2 s7 ⟨z7, H7, I7, r7, k3, e3, q7⟩ => ?_))
      subst e3
      cases r7
      exact wpAny_truthy_bool ⟨H7, I7, q7⟩
end
end Sw

set_option Elab.async false
set_option linter.all false
set_option maxRecDepth 100000
set_option maxHeartbeats 4000000
namespace Sw
open PySem PySem.Spec PyProof.Rows L2
/-! ## try: .. except A: .. except B: .., nothing passed on -/
def wNo : WX := fun _ _ _ _ => False
theorem takes_no {X : Cx} : L2.Takes X wNo := fun _ _ ⟨_, _, _, _, _, _, _, _, _, _, _, _, _, _, _, _, w⟩ => w.elim
def tTryM (K : PySem.W.Frag) (l : List (Value × (Addr → Value → Option Addr → TS))) (tb : WX → TS) : TS := fun D σ H => tb (wMany K wNo D l) D σ H
/-! ## int(b) -/
def kInt1 : List V → Hp → VK → Prop := fun xs H Q => (∃ i, xs = [.int i] ∧ Q (.int i) H) ∨ ∃ k, xs = [.bl k] ∧ Q (.int (if k then 1 else 0)) H
theorem cl_int1 {X : Cx} : CallR X (.type "int") kInt1 := call_int1
end Sw

set_option Elab.async false
set_option linter.all false
set_option maxRecDepth 100000
set_option maxHeartbeats 4000000
namespace Sw
open PySem PySem.Spec PyProof.Rows L2
/-! ## sum(lists, []) -/
section
variable {prog : Program} {w : World} {A : Around} {R : Result → Shared → Prop} {E : Value → Shared → Prop}
def catFrom (its : Nat → Array Value) : Nat → Nat → Array Value → Array Value
  | _, 0, acc => acc
  | i, k + 1, acc => catFrom its (i + 1) k (acc ++ its i)
theorem catFrom_size (its : Nat → Array Value) : ∀ (k i : Nat) (acc : Array Value), acc.size ≤ (catFrom its i k acc).size
  | 0, _, _ => Nat.le_refl _
  | k + 1, i, acc => by
    have := catFrom_size its k (i + 1) (acc ++ its i)
    rw [Array.size_append] at this
    show acc.size ≤ (catFrom its (i + 1) k (acc ++ its i)).size
    omega
theorem codeAny_sum_cat {I ax : Addr} {items : Array Value} (hh : A.in1.handled = none) (hne : ax ≠ I) (hv : Nat → Addr) (its : Nat → Array Value) (hi : ∀ i v, items[i]? = some v → v = Value.ref (hv i)) (S : Addr) (hSI : S ≠ I) (hSa : S ≠ ax) :
    ∀ (k i : Nat) (s : Shared) (p : Addr) (acc : Array Value) (m c : Nat), items.size - i = k → i ≤ items.size → (s.heap.IsListIter I ax i ∧ s.heap.IsList ax items) →
      s.heap.get? S = some { cls := .type "list", dict := none, data := .seq #[.ref p] c, slots := #[] } → IsL s.heap p acc m → p ≠ I → p ≠ S →
      (∀ j, i ≤ j → j < items.size → ∃ m, IsL s.heap (hv j) (its j) m ∧ hv j ≠ I ∧ hv j ≠ S) → (catFrom its i k acc).size ≤ sizeLine →
      (∀ h' tk p' m', (∀ b o, b ≠ I → b ≠ S → s.heap.get? b = some o → h'.get? b = some o) → IsL h' p' (catFrom its i k acc) m' → ((k = 0 ∧ p' = p) ∨ I < p') → R (.ok (.ret (.ref p'))) { s with heap := h', toks := tk }) →
      codeAny (model prog w) A (.builtin "sum.loop" ⟨[.ref I, .ref S, rawInt 2, rawInt 0], []⟩) R s := by
  have W := Walks.list (prog := prog) (w := w) (A := A.in1) hh I ax hne items
  have hSw : S ∉ [I] := by simp [hSI]
  intro k
  induction k with
  | zero =>
    intro i s p acc m c hk hi' hst hS hp hpI hpS hits hsz hR
    have hin : i = items.size := by omega
    subst hin
    refine codeAny_builtin F.entry_sum_loop ?_
    rw [Around.under_plainId F.plain_sum_loop _]
    show wpAny _ A.in1 (seqItems? (.ref S) >>= _) _ _ s
    refine wpAny_bind (wpAny_seqItems hS rfl ?_)
    show wpAny _ A.in1 (tryCatch (pyNext (.ref I)) _ >>= _) _ _ s
    refine wpAny_bind (wpAny_tryCatch (W.done s _ _ hst fun h' tk hk' => ?_))
    exact wpAny_pure (hR h' tk p m (fun b o h1 _ e => hk' b o (by simpa using h1) e) (hk' p _ (by simpa using hpI) hp) (.inl ⟨rfl, rfl⟩))
  | succ k ih =>
    intro i s p acc m c hk hi' hst hS hp hpI hpS hits hsz hR
    have hlt : i < items.size := by omega
    refine codeAny_builtin F.entry_sum_loop ?_
    rw [Around.under_plainId F.plain_sum_loop _]
    show wpAny _ A.in1 (seqItems? (.ref S) >>= _) _ _ s
    refine wpAny_bind (wpAny_seqItems hS rfl ?_)
    show wpAny _ A.in1 (tryCatch (pyNext (.ref I)) _ >>= _) _ _ s
    refine wpAny_bind (wpAny_tryCatch (W.item i s _ _ hlt hst fun v h' tk hP hst' hk' => ?_))
    obtain rfl := hi i v hP
    have hS' := hk' S _ hSw hS
    have hp' := hk' p _ (by simpa using hpI) hp
    obtain ⟨mj, hj, hjI, hjS⟩ := hits i (Nat.le_refl _) hlt
    have hj' := hk' (hv i) _ (by simpa using hjI) hj
    have big := catFrom_size its k (i + 1) (acc ++ its i)
    have big2 : (catFrom its (i + 1) k (acc ++ its i)).size ≤ sizeLine := hsz
    rw [Array.size_append] at big
    have fits : acc.size + (its i).size ≤ sizeLine := Nat.le_trans big big2
    show wpAny _ A.in1 ((holding [Value.ref (hv i)] (binaryOp .Add (.ref p) (.ref (hv i)))).attempt >>= _) _ _ _
    refine wpAny_bind (wpAny_attempt (wpAny_holding (PySem.P.add_list hp' hj' ?_ fits)))
    show wpAny _ A.in1 (updateSeq S (fun _ => #[.ref h'.objs.size]) >>= _) _ _ _
    have hSp := Heap.get?_push_of_some { cls := .type "list", data := .seq (acc ++ its i) } hS'
    have hnew : IsL (h'.push { cls := .type "list", data := .seq (acc ++ its i) }) h'.objs.size (acc ++ its i) 0 := Heap.get?_push_size _ rfl
    refine wpAny_bind ?_
    refine wpAny_updateSeq hSp rfl ?_
    have hS2 := Heap.get?_update_self (Obj.mapSeq fun _ => #[Value.ref h'.objs.size]) hSp rfl
    refine wpAny_bind (wpAny_letGo ?_)
    refine wpAny_bind ?_
    have hSlt : S < h'.objs.size := Heap.lt_size hS'
    have hIlt : I < h'.objs.size := by
      obtain ⟨⟨_, e, _⟩, _⟩ := hst'
      exact Heap.lt_size e
    have keep : ∀ b o, b ≠ S → h'.get? b = some o → (((h'.push { cls := .type "list", data := .seq (acc ++ its i) }).update S (Obj.mapSeq fun _ => #[Value.ref h'.objs.size])).update S (Obj.mapSeq fun _ => #[Value.ref h'.objs.size])).get? b = some o := fun b o hb e =>
      (Heap.get?_update_other _ _ (Ne.symm hb)).trans ((Heap.get?_update_other _ _ (Ne.symm hb)).trans (Heap.get?_push_of_some _ e))
    refine wpAny_updateSeq hS2 rfl (wpAny_pure ⟨plainId_quiet F.plain_sum_loop _, ih (i + 1) _ h'.objs.size (acc ++ its i) 0 _ (by omega) hlt (W.frame _ h' _ hst' fun b hb o e => keep b o ?_ e) (Heap.get?_update_self _ hS2 rfl) ?_ (Nat.ne_of_gt hIlt) (Nat.ne_of_gt hSlt) (fun j h1 h2 => ?_) big2 fun h'' tk'' p'' m'' hk'' hl'' hn'' => ?_⟩)
    · rcases List.mem_cons.mp hb with rfl | hb
      · exact fun z => hSI z.symm
      · rw [List.mem_singleton.mp hb]
        exact fun z => hSa z.symm
    · exact (Heap.get?_update_other _ _ (Nat.ne_of_lt hSlt)).trans ((Heap.get?_update_other _ _ (Nat.ne_of_lt hSlt)).trans hnew)
    · obtain ⟨m2, e2, n1, n2⟩ := hits j (by omega) h2
      exact ⟨m2, keep _ _ n2 (hk' _ _ (by simpa using n1) e2), n1, n2⟩
    · refine hR h'' tk'' p'' m'' (fun b o h1 h2 e => hk'' b o h1 h2 (keep b o h2 (hk' b o (by simpa using h1) e))) hl'' (.inr ?_)
      rcases hn'' with ⟨_, rfl⟩ | h
      · exact hIlt
      · exact h
theorem sub_ls : isSubtype (.type "list") (.type "str") = pure false := by rw [isSubtype_type]; kernel_rfl
theorem sub_lb : isSubtype (.type "list") (.type "bytes") = pure false := by rw [isSubtype_type]; kernel_rfl
theorem sub_la : isSubtype (.type "list") (.type "bytearray") = pure false := by rw [isSubtype_type]; kernel_rfl
theorem call_sum_cat {s : Shared} {l st : Addr} {items : Array Value} {Q : Value → Shared → Prop} {m : Nat} (hh : A.handled = none) (hl : s.heap.IsList l items) (hv : Nat → Addr) (its : Nat → Array Value) (hi : ∀ i v, items[i]? = some v → v = Value.ref (hv i))
    (hs : IsL s.heap st #[] m) (hits : ∀ j, j < items.size → ∃ m, IsL s.heap (hv j) (its j) m) (hsz : (catFrom its 0 items.size #[]).size ≤ sizeLine)
    (h : ∀ h' tk p' m', (∀ b o, s.heap.get? b = some o → h'.get? b = some o) → IsL h' p' (catFrom its 0 items.size #[]) m' → ((items.size = 0 ∧ p' = st) ∨ s.heap.objs.size ≤ p') → Q (.ref p') { s with heap := h', toks := tk }) :
    wpAny (model prog w) A (call (.builtin "sum") [.ref l, .ref st]) Q E s := by
  refine call_function_tree F.kind_sum F.plain_sum F.entry_sum (by unfold argsOk; kernel_rfl) ?_
  unfold Builtin.«sum»
  simp only [List.length_cons, List.length_nil]
  rw [if_neg (by decide)]
  refine wpAny_bind (wpAny_of_eq (show Builtin.Builtins.bindParams "sum" ["start"] 0 ⟨[.ref st], []⟩ = pure [some (.ref st)] from rfl) ?_)
  refine wpAny_bind (wpAny_pyIter_list hl ?_)
  refine wpAny_bind (wpAny_pure ?_)
  have hlt : l < s.heap.objs.size := by obtain ⟨_, e, _⟩ := hl; exact Heap.lt_size e
  have hst1 := Heap.get?_push_of_some { cls := .type "list_iterator", data := .fields #[.ref l, .int 0 0] } hs
  simp only [List.forIn_cons, List.forIn_nil]
  refine wpAny_bind (wpAny_bind (wpAny_bind (wpAny_isInstance (T := "list") (b := false) ⟨_, hst1, rfl⟩ sub_ls ?_)))
  simp only [Bool.false_eq_true, if_false]
  refine wpAny_pure (wpAny_bind (wpAny_bind (wpAny_isInstance (T := "list") (b := false) ⟨_, hst1, rfl⟩ sub_lb ?_)))
  simp only [Bool.false_eq_true, if_false]
  refine wpAny_pure (wpAny_bind (wpAny_bind (wpAny_isInstance (T := "list") (b := false) ⟨_, hst1, rfl⟩ sub_la ?_)))
  simp only [Bool.false_eq_true, if_false]
  refine wpAny_pure (wpAny_pure ?_)
  refine wpAny_bind (wpAny_newObj_type ?_)
  have sz : (s.heap.push { cls := .type "list_iterator", data := .fields #[.ref l, .int 0 0] }).objs.size = s.heap.objs.size + 1 := Heap.size_push ..
  have old : ∀ (o : Obj) {b : Addr} {u : Obj}, s.heap.get? b = some u → ((s.heap.push { cls := .type "list_iterator", data := .fields #[.ref l, .int 0 0] }).push o).get? b = some u := fun o b u e => Heap.get?_push_of_some _ (Heap.get?_push_of_some _ e)
  refine wpAny_pure ⟨plainId_quiet F.plain_sum_loop _, codeAny_sum_cat (A := A) hh (Nat.ne_of_lt hlt) hv its hi _ ?_ ?_ items.size 0 _ st #[] m 0 rfl (Nat.zero_le _) ⟨⟨_, Heap.get?_push_of_some _ (Heap.get?_push_size _ rfl), rfl, rfl⟩, ?_⟩ (Heap.get?_push_size _ rfl) (old _ hs) ?_ ?_ (fun j _ hj => ?_) hsz fun h' tk p' m' hk hl' hn => ?_⟩
  · show (s.heap.push _).objs.size ≠ s.heap.objs.size
    rw [sz]
    exact Nat.succ_ne_self _
  · show (s.heap.push _).objs.size ≠ l
    rw [sz]
    exact Nat.ne_of_gt (Nat.lt_succ_of_lt hlt)
  · exact (hl.push _).push _
  · exact Nat.ne_of_lt (Heap.lt_size hs)
  · rw [sz]
    exact Nat.ne_of_lt (Nat.lt_succ_of_lt (Heap.lt_size hs))
  · obtain ⟨m2, e⟩ := hits j hj
    exact ⟨m2, old _ e, Nat.ne_of_lt (Heap.lt_size e), by rw [sz]; exact Nat.ne_of_lt (Nat.lt_succ_of_lt (Heap.lt_size e))⟩
  · refine h h' tk p' m' (fun b o e => hk b o (Nat.ne_of_lt (Heap.lt_size e)) (by rw [sz]; exact Nat.ne_of_lt (Nat.lt_succ_of_lt (Heap.lt_size e))) (old _ e)) hl' ?_
    rcases hn with h1 | h1
    · exact .inl h1
    · exact .inr (Nat.le_of_lt h1)
end
theorem vals_rfs : ∀ {ls : List Addr} {its : List Value}, Vals (Rfs ls) its → its = ls.map Value.ref
  | [], _, h => by
    cases h
    rfl
  | a :: ls, _, h => by
    cases h with
    | cons r rs =>
      cases r
      rw [vals_rfs rs] <;> rfl
theorem cat_vals {vsOf : Nat → List Value} {yss : List (List V)} (hv : ∀ j ys, yss[j]? = some ys → Vals ys (vsOf j)) : ∀ (k i : Nat) (acc : List Value) (done : List V), i + k = yss.length → Vals done acc →
    ∃ w : List Value, catFrom (fun j => (vsOf j).toArray) i k acc.toArray = w.toArray ∧ Vals (done ++ (yss.drop i).flatten) w
  | 0, i, acc, done, e, h => ⟨acc, rfl, by rw [List.drop_eq_nil_of_le (by omega), List.flatten_nil, List.append_nil]; exact h⟩
  | k + 1, i, acc, done, e, h => by
    have hi : i < yss.length := by omega
    obtain ⟨w, e1, e2⟩ := cat_vals hv k (i + 1) (acc ++ vsOf i) (done ++ yss[i]) (by omega) (h.append (hv i yss[i] (List.getElem?_eq_getElem hi)))
    refine ⟨w, ?_, ?_⟩
    · rw [← e1]
      show catFrom _ (i + 1) k (acc.toArray ++ (vsOf i).toArray) = _
      rw [show acc.toArray ++ (vsOf i).toArray = (acc ++ vsOf i).toArray by simp]
    · rw [List.drop_eq_getElem_cons hi, List.flatten_cons, ← List.append_assoc]
      exact e2
/-- sum(lists, []): a new list of all, or the list handed in where there is none -/
def rSumL (K : PySem.W.Frag) : List V → Hp → VK → Prop := fun vs H Q => ∃ (l st : Addr) (ls : List Addr) (yss : List (List V)), vs = [.ref l, .ref st] ∧ SqL K H l (Rfs ls) ∧ H st = some (.lst []) ∧ All2 (fun a ys => H a = some (.lst ys)) ls yss ∧
  yss.flatten.length ≤ sizeLine ∧ ∀ H' p, Same H H' → H' p = some (.lst yss.flatten) → (H p = none ∨ (yss = [] ∧ p = st)) → Q (.ref p) H'
theorem cr_sumL {X : Cx} (hc : X.calm = true) : CallR X (.builtin "sum") (rSumL X.K) := by
  intro pins s σ H xs us Q I r h
  obtain ⟨l, st, ls, yss, rfl, hl, hs, hys, hsz, q⟩ := h
  obtain ⟨its0, rv, hL, _⟩ := I.list hl
  have e0 := vals_rfs rv
  subst e0
  obtain rfl : us = [Value.ref l, Value.ref st] := by
    cases r with
    | cons r1 rs =>
      cases rs with
      | cons r2 rs =>
        cases rs
        cases r1
        cases r2
        rfl
  obtain ⟨_, e0, n0, r0, _, hst⟩ := I.lstM hs
  cases r0
  have ll := hys.length
  have hval : ∀ j, ∃ a : List Value, ∀ ys, yss[j]? = some ys → Vals ys a ∧ ∃ m, IsL s.heap (ls.getD j 0) a.toArray m := fun j => by
    by_cases hj : j < yss.length
    · have gy := List.getElem?_eq_getElem hj
      obtain ⟨a, ga⟩ := get_of (xs := ls) (i := j) (by omega)
      obtain ⟨ys, gy2, ha⟩ := hys.getL ga
      obtain ⟨_, its, n, rr, _, e⟩ := I.lstM ha
      refine ⟨its, fun ys' gy' => ?_⟩
      rw [gy2] at gy'
      cases gy'
      have ea : ls.getD j 0 = a := by rw [List.getD_eq_getElem?_getD, ga] <;> rfl
      rw [ea]
      exact ⟨rr, n, e⟩
    · exact ⟨[], fun ys gy => absurd (List.getElem?_eq_some_iff.mp gy).1 hj⟩
  have hv : ∀ j ys, yss[j]? = some ys → Vals ys (Classical.choose (hval j)) := fun j ys g => (Classical.choose_spec (hval j) ys g).1
  obtain ⟨w, ew, vw⟩ := cat_vals hv yss.length 0 [] [] (Nat.zero_add _) .nil
  rw [List.drop_zero, List.nil_append] at vw
  have lw := vw.length
  have sz : (ls.map Value.ref).toArray.size = yss.length := by rw [List.size_toArray, List.length_map, ll]
  refine call_sum_cat (m := n0) (I.ok.hd hc) hL.isList (fun j => ls.getD j 0) (fun j => (Classical.choose (hval j)).toArray) (fun i v g => ?_) hst (fun j hj => ?_) ?_ fun h' tk p' m' hk hl' hn => ?_
  · rw [List.getElem?_toArray, List.getElem?_map] at g
    cases g2 : ls[i]? with
    | none =>
      rw [g2] at g
      exact nomatch g
    | some a =>
      rw [g2] at g
      rw [List.getD_eq_getElem?_getD, g2]
      exact (Option.some.inj g).symm
  · rw [sz] at hj
    exact (Classical.choose_spec (hval j) _ (List.getElem?_eq_getElem hj)).2
  · rw [sz, show (#[] : Array Value) = ([] : List Value).toArray from rfl, ew, List.size_toArray]
    omega
  · rw [sz, show (#[] : Array Value) = ([] : List Value).toArray from rfl, ew] at hl'
    rcases hn with ⟨n1, rfl⟩ | big
    · rw [sz] at n1
      have en : yss = [] := List.eq_nil_of_length_eq_zero n1
      refine ⟨.ref p', H, I.kept hk, rfl, q H p' (.refl H) (by rw [en]; exact hs) (.inr ⟨en, rfl⟩)⟩
    · have nf : H p' = none := I.hok.fresh big
      exact ⟨.ref p', upd H p' (.lst yss.flatten), I.laid hk big ⟨hsz, w, m', vw, hl'⟩, rfl, q _ p' (same_new nf) upd_same (.inl nf)⟩
end Sw

set_option Elab.async false
set_option linter.all false
set_option maxRecDepth 100000
set_option maxHeartbeats 4000000
namespace Sw
open PySem PySem.Spec PyProof.Rows L2
abbrev oBOr : R2 := rI0 fun i j => .int (Builtin.bitOr i j)
abbrev oBXor : R2 := rI0 fun i j => .int (Builtin.bitXor i j)
abbrev oShlW : R2 := rI CShl fun i j => .int (i * 2 ^ j.toNat)
abbrev oInv : V → Hp → VK → Prop := rU fun i => .int (Builtin.bitNot i)
/-! ## All rows of noughts and ones at once: a bit for each -/
def maskN {α : Type} (f : α → Bool) : List α → Nat
  | [] => 0
  | x :: l => (f x).toNat + 2 * maskN f l
section
variable {α β : Type}
theorem tb_cons (b : Bool) (m i : Nat) : (b.toNat + 2 * m).testBit i = match i with | 0 => b | i + 1 => m.testBit i := by
  cases i with
  | zero =>
    rw [Nat.testBit_zero]
    cases b
    · show decide ((0 + 2 * m) % 2 = 1) = false
      rw [decide_eq_false (by omega)]
    · show decide ((1 + 2 * m) % 2 = 1) = true
      rw [decide_eq_true (by omega)]
  | succ i =>
    rw [Nat.testBit_succ]
    have : (b.toNat + 2 * m) / 2 = m := by cases b <;> simp <;> omega
    rw [this]
theorem cons_and (a b : Bool) (m k : Nat) : (a.toNat + 2 * m) &&& (b.toNat + 2 * k) = (a && b).toNat + 2 * (m &&& k) := by
  apply Nat.eq_of_testBit_eq
  intro i
  rw [Nat.testBit_and, tb_cons, tb_cons, tb_cons]
  cases i with
  | zero => rfl
  | succ i =>
    show (m.testBit i && k.testBit i) = (m &&& k).testBit i
    rw [Nat.testBit_and]
theorem mask_and (f g : α → Bool) : ∀ l : List α, maskN f l &&& maskN g l = maskN (fun x => f x && g x) l
  | [] => by
    show 0 &&& 0 = 0
    decide
  | x :: l => by
    show ((f x).toNat + 2 * maskN f l) &&& ((g x).toNat + 2 * maskN g l) = _
    rw [cons_and, mask_and f g l] <;> rfl
theorem mask_split (f g : α → Bool) : ∀ l : List α, maskN f l = maskN (fun x => f x && g x) l + maskN (fun x => f x && !g x) l
  | [] => rfl
  | x :: l => by
    show (f x).toNat + 2 * maskN f l = ((f x && g x).toNat + 2 * _) + ((f x && !g x).toNat + 2 * _)
    have e : (f x).toNat = (f x && g x).toNat + (f x && !g x).toNat := by cases f x <;> cases g x <;> rfl
    have := mask_split f g l
    omega
theorem mask_or' (f g : α → Bool) : ∀ l : List α, maskN (fun x => f x || g x) l + maskN (fun x => f x && g x) l = maskN f l + maskN g l
  | [] => rfl
  | x :: l => by
    show ((f x || g x).toNat + 2 * _) + ((f x && g x).toNat + 2 * _) = ((f x).toNat + 2 * _) + ((g x).toNat + 2 * _)
    have e : (f x || g x).toNat + (f x && g x).toNat = (f x).toNat + (g x).toNat := by cases f x <;> cases g x <;> rfl
    have := mask_or' f g l
    omega
theorem mask_xor' (f g : α → Bool) : ∀ l : List α, maskN (fun x => f x != g x) l + 2 * maskN (fun x => f x && g x) l = maskN f l + maskN g l
  | [] => rfl
  | x :: l => by
    show ((f x != g x).toNat + 2 * _) + 2 * ((f x && g x).toNat + 2 * _) = ((f x).toNat + 2 * _) + ((g x).toNat + 2 * _)
    have e : (f x != g x).toNat + 2 * (f x && g x).toNat = (f x).toNat + (g x).toNat := by cases f x <;> cases g x <;> rfl
    have := mask_xor' f g l
    omega
theorem i_and (f g : α → Bool) (l : List α) : Builtin.bitAnd (maskN f l : Int) (maskN g l : Int) = (maskN (fun x => f x && g x) l : Nat) := by
  rw [bitAnd_pp (Int.natCast_nonneg _) (Int.natCast_nonneg _), Int.toNat_natCast, Int.toNat_natCast, mask_and]
theorem i_or (f g : α → Bool) (l : List α) : Builtin.bitOr (maskN f l : Int) (maskN g l : Int) = (maskN (fun x => f x || g x) l : Nat) := by
  rw [bitOr_and, i_and]
  have := mask_or' f g l
  omega
theorem i_xor (f g : α → Bool) (l : List α) : Builtin.bitXor (maskN f l : Int) (maskN g l : Int) = (maskN (fun x => f x != g x) l : Nat) := by
  rw [bitXor_and, i_and]
  have := mask_xor' f g l
  omega
theorem i_andnot (f g : α → Bool) (l : List α) : Builtin.bitAnd (maskN f l : Int) (Builtin.bitNot (maskN g l : Int)) = (maskN (fun x => f x && !g x) l : Nat) := by
  rw [bitAnd_not, i_and]
  have := mask_split f g l
  omega
theorem mask_zero {f : α → Bool} : ∀ {l : List α}, maskN f l = 0 ↔ ∀ x ∈ l, f x = false
  | [] => ⟨fun _ _ h => (nomatch h), fun _ => rfl⟩
  | x :: l => by
    have ih := mask_zero (f := f) (l := l)
    constructor
    · intro h
      have h' : (f x).toNat + 2 * maskN f l = 0 := h
      have h1 : (f x).toNat = 0 := by omega
      have h2 : maskN f l = 0 := by omega
      intro y hy
      cases hy with
      | head => cases e : f x with
        | false => rfl
        | true => rw [e] at h1; cases h1
      | tail _ hy => exact ih.mp h2 y hy
    · intro h
      show (f x).toNat + 2 * maskN f l = 0
      rw [h x (.head _), ih.mpr fun y hy => h y (.tail _ hy)] <;> rfl
theorem mask_congr {f g : α → Bool} : ∀ {l : List α}, (∀ x ∈ l, f x = g x) → maskN f l = maskN g l
  | [], _ => rfl
  | x :: l, h => by
    show (f x).toNat + 2 * maskN f l = (g x).toNat + 2 * maskN g l
    rw [h x (.head _), mask_congr fun y hy => h y (.tail _ hy)]
theorem mask_app (f : α → Bool) : ∀ l m : List α, maskN f (l ++ m) = maskN f l + 2 ^ l.length * maskN f m
  | [], m => by
    show maskN f m = 0 + 2 ^ 0 * maskN f m
    omega
  | x :: l, m => by
    show (f x).toNat + 2 * maskN f (l ++ m) = (f x).toNat + 2 * maskN f l + 2 ^ (l.length + 1) * maskN f m
    rw [mask_app f l m, Nat.pow_succ, Nat.mul_add, Nat.mul_comm (2 ^ l.length) 2, Nat.mul_assoc]
    omega
theorem mask_map (f : β → Bool) (g : α → β) : ∀ l : List α, maskN f (l.map g) = maskN (fun x => f (g x)) l
  | [] => rfl
  | x :: l => by
    show (f (g x)).toNat + 2 * maskN f (l.map g) = _
    rw [mask_map f g l] <;> rfl
theorem mask_lt (f : α → Bool) : ∀ l : List α, maskN f l < 2 ^ l.length
  | [] => by
    show 0 < 2 ^ 0
    decide
  | x :: l => by
    show (f x).toNat + 2 * maskN f l < 2 ^ (l.length + 1)
    have := mask_lt f l
    have : (f x).toNat ≤ 1 := by cases f x <;> decide
    rw [Nat.pow_succ]
    omega
theorem mask_ones (k : Nat) : ∀ n : Nat, maskN (fun _ : Nat => true) (List.replicate n k) = 2 ^ n - 1
  | 0 => rfl
  | n + 1 => by
    show 1 + 2 * maskN _ (List.replicate n k) = _
    rw [mask_ones k n, Nat.pow_succ]
    have := Nat.two_pow_pos n
    omega
theorem mask_true : ∀ l : List α, maskN (fun _ => true) l = 2 ^ l.length - 1
  | [] => rfl
  | x :: l => by
    show 1 + 2 * maskN _ l = 2 ^ (l.length + 1) - 1
    rw [mask_true l, Nat.pow_succ]
    have := Nat.two_pow_pos l.length
    omega
/-- the first one -/
theorem mask_first (f : α → Bool) : ∀ l : List α, maskN f l ≠ 0 → ∃ (t : Nat) (x : α), l[t]? = some x ∧ l.find? f = some x ∧ maskN f l - (maskN f l &&& (maskN f l - 1)) = 2 ^ t
  | [], h => absurd rfl h
  | x :: l, h => by
    cases e : f x with
    | true =>
      refine ⟨0, x, rfl, by rw [List.find?_cons_of_pos (h := e)], ?_⟩
      have em : maskN f (x :: l) = true.toNat + 2 * maskN f l := by
        show (f x).toNat + _ = _
        rw [e]
      have em1 : maskN f (x :: l) - 1 = false.toNat + 2 * maskN f l := by
        rw [em]
        show 1 + 2 * maskN f l - 1 = 0 + 2 * maskN f l
        omega
      rw [em1, em, cons_and]
      show 1 + 2 * maskN f l - (0 + 2 * (maskN f l &&& maskN f l)) = 1
      rw [Nat.and_self]
      omega
    | false =>
      have em : maskN f (x :: l) = false.toNat + 2 * maskN f l := by
        show (f x).toNat + _ = _
        rw [e]
      have h2 : maskN f l ≠ 0 := fun z => h (by rw [em, z] <;> rfl)
      obtain ⟨t, y, h3, h4, h5⟩ := mask_first f l h2
      refine ⟨t + 1, y, h3, by rw [List.find?_cons_of_neg (h := by rw [e]; decide), h4], ?_⟩
      have em1 : maskN f (x :: l) - 1 = true.toNat + 2 * (maskN f l - 1) := by
        rw [em]
        show 0 + 2 * maskN f l - 1 = 1 + 2 * (maskN f l - 1)
        omega
      rw [em1, em, cons_and, Nat.pow_succ, ← h5]
      show 0 + 2 * maskN f l - (0 + 2 * (maskN f l &&& (maskN f l - 1))) = _
      omega
end
theorem low_bit {α : Type} {f : α → Bool} {l : List α} (h : maskN f l ≠ 0) : ∃ (t : Nat) (x : α), l[t]? = some x ∧ l.find? f = some x ∧ Builtin.bitAnd (maskN f l : Int) (-(maskN f l : Int)) = ((2 ^ t : Nat) : Int) := by
  obtain ⟨t, x, h1, h2, h3⟩ := mask_first f l h
  refine ⟨t, x, h1, h2, ?_⟩
  have e : -(maskN f l : Int) = Builtin.bitNot ((maskN f l - 1 : Nat) : Int) := by
    show _ = -((maskN f l - 1 : Nat) : Int) - 1
    omega
  rw [e, bitAnd_not, bitAnd_pp (Int.natCast_nonneg _) (Int.natCast_nonneg _), Int.toNat_natCast, Int.toNat_natCast, ← h3]
  have : maskN f l &&& (maskN f l - 1) ≤ maskN f l := Nat.and_le_left
  omega
theorem bits_pow (t : Nat) : Builtin.Int.intBits ((2 ^ t : Nat) : Int) = t + 1 := by
  have h0 : ((2 ^ t : Nat) : Int) ≠ 0 := by
    have := Nat.two_pow_pos t
    omega
  unfold Builtin.Int.intBits
  rw [if_neg (by simpa using h0), Int.natAbs_natCast, Nat.log2_two_pow]
/-! ## Rows of noughts and ones through a web -/
theorem bits_goC {r : Row} {c : Cmp} (h : Bits r) : Bits (goC r c) := by
  unfold goC
  split
  · intro x hx
    have z : ∀ k, at0 r k = 0 ∨ at0 r k = 1 := fun k => by
      by_cases hk : k < r.length
      · have := at0_get hk
        exact h _ (List.mem_of_getElem? this)
      · left
        unfold at0
        rw [List.getD_eq_getElem?_getD, List.getElem?_eq_none (by omega)] <;> rfl
    cases mem_set hx with
    | inl hx => cases mem_set hx with
      | inl hx => exact h x hx
      | inr e => rw [e]; exact z _
    | inr e => rw [e]; exact z _
  · exact h
theorem bits_gone {cs : List Cmp} : ∀ {r : Row}, Bits r → Bits (gone cs r) := by
  induction cs with
  | nil => intro r h; exact h
  | cons c cs ih => intro r h; exact ih (bits_goC h)
theorem bits_at {r : Row} (h : Bits r) (k : Nat) : at0 r k = 0 ∨ at0 r k = 1 := by
  by_cases hk : k < r.length
  · exact h _ (List.mem_of_getElem? (at0_get hk))
  · left
    unfold at0
    rw [List.getD_eq_getElem?_getD, List.getElem?_eq_none (by omega)] <;> rfl
def one0 (r : Row) (k : Nat) : Bool := at0 r k == 1
def colV (n : Nat) (cs : List Cmp) (k : Nat) : Int := (maskN (fun r => one0 (gone cs r) k) (bares n) : Nat)
def cols (n : Nat) (cs : List Cmp) : Row := (List.range n).map (colV n cs)
theorem cols_len (n : Nat) (cs : List Cmp) : (cols n cs).length = n := by
  unfold cols
  rw [List.length_map, List.length_range]
theorem cols_at {n : Nat} {cs : List Cmp} {k : Nat} (h : k < n) : at0 (cols n cs) k = colV n cs k := by
  unfold at0 cols
  rw [List.getD_eq_getElem?_getD, List.getElem?_map, List.getElem?_range h] <;> rfl
/-- whether the row is exchanged at lines a, b behind cs -/
def gtB (cs : List Cmp) (a b : Nat) (r : Row) : Bool := decide (at0 (gone cs r) a > at0 (gone cs r) b)
theorem col_gt {n : Nat} {cs : List Cmp} {a b : Nat} : Builtin.bitAnd (colV n cs a) (Builtin.bitNot (colV n cs b)) = (maskN (gtB cs a b) (bares n) : Nat) := by
  unfold colV
  rw [i_andnot, mask_congr]
  intro r hr
  have hb := bits_gone (cs := cs) (bares_ok hr).2
  unfold gtB one0
  rcases bits_at hb a with h | h <;> rcases bits_at hb b with h2 | h2 <;> rw [h, h2] <;> rfl
theorem col_behind {n : Nat} {cs : List Cmp} {c : Cmp} (ok : CmpOk n c) : ((cols n cs).set c.1 (Builtin.bitAnd (colV n cs c.1) (colV n cs c.2))).set c.2 (Builtin.bitOr (colV n cs c.1) (colV n cs c.2)) = cols n (cs ++ [c]) := by
  have g : ∀ k, colV n (cs ++ [c]) k = (maskN (fun r => one0 (goC (gone cs r) c) k) (bares n) : Nat) := fun k => by
    unfold colV
    rw [mask_congr]
    intro r _
    rw [gone_snoc]
  apply List.ext_getElem
  · rw [List.length_set, List.length_set, cols_len, cols_len]
  · intro k h1 h2
    have hk : k < n := by rw [cols_len] at h2; exact h2
    have e0 : ∀ (ds : List Cmp) (h : k < (cols n ds).length), (cols n ds)[k] = colV n ds k := fun ds h => by
      have := cols_at (cs := ds) hk
      rw [← this]
      unfold at0
      rw [List.getD_eq_getElem?_getD, List.getElem?_eq_getElem h] <;> rfl
    have e2 := e0 _ h2
    have e1 := e0 cs
    rw [e2, List.getElem_set, List.getElem_set, g, e1]
    have val : ∀ r ∈ bares n, at0 (goC (gone cs r) c) k = if c.2 = k then max (at0 (gone cs r) c.1) (at0 (gone cs r) c.2) else if c.1 = k then min (at0 (gone cs r) c.1) (at0 (gone cs r) c.2) else at0 (gone cs r) k := fun r hr => by
      have hl : (gone cs r).length = n := by rw [gone_len, (bares_ok hr).1]
      have a1 := ok.1
      have a2 := ok.2.1
      have a3 := ok.2.2
      unfold goC
      split
      · rename_i gt
        unfold at0
        rw [List.getD_eq_getElem?_getD, List.getElem?_set, List.length_set]
        by_cases z : c.2 = k
        · rw [if_pos z, if_pos z, if_pos (by omega)]
          show (gone cs r).getD c.1 0 = max _ _
          unfold at0 at gt
          omega
        · rw [if_neg z, if_neg z, List.getElem?_set]
          by_cases y : c.1 = k
          · rw [if_pos y, if_pos y, if_pos (by omega)]
            show (gone cs r).getD c.2 0 = min _ _
            unfold at0 at gt
            omega
          · rw [if_neg y, if_neg y] <;> rfl
      · rename_i gt
        by_cases z : c.2 = k
        · rw [if_pos z, ← z]
          omega
        · rw [if_neg z]
          by_cases y : c.1 = k
          · rw [if_pos y, ← y]
            omega
          · rw [if_neg y]
    have bt : ∀ r ∈ bares n, (at0 (gone cs r) c.1 = 0 ∨ at0 (gone cs r) c.1 = 1) ∧ (at0 (gone cs r) c.2 = 0 ∨ at0 (gone cs r) c.2 = 1) := fun r hr => ⟨bits_at (bits_gone (bares_ok hr).2) _, bits_at (bits_gone (bares_ok hr).2) _⟩
    by_cases z : c.2 = k
    · rw [if_pos z]
      unfold colV
      rw [i_or, mask_congr]
      intro r hr
      unfold one0
      rw [val r hr, if_pos z]
      obtain ⟨h1 | h1, h2 | h2⟩ := bt r hr <;> rw [h1, h2] <;> rfl
    · rw [if_neg z]
      by_cases y : c.1 = k
      · rw [if_pos y]
        unfold colV
        rw [i_and, mask_congr]
        intro r hr
        unfold one0
        rw [val r hr, if_neg z, if_pos y]
        obtain ⟨h1 | h1, h2 | h2⟩ := bt r hr <;> rw [h1, h2] <;> rfl
      · rw [if_neg y]
        unfold colV
        rw [mask_congr]
        intro r hr
        unfold one0
        rw [val r hr, if_neg z, if_neg y]
/-! ### making them -/
def mkC (j k : Nat) : Int := (maskN (fun m : Nat => m.testBit k) (List.range (2 ^ j)) : Nat)
def mkCs (j : Nat) : Row := (List.range j).map (mkC j)
theorem mkC_step {j k : Nat} (h : k < j) : Builtin.bitOr (mkC j k) (mkC j k * 2 ^ (2 ^ j)) = mkC (j + 1) k := by
  unfold mkC
  have e : List.range (2 ^ (j + 1)) = List.range (2 ^ j) ++ (List.range (2 ^ j)).map (2 ^ j + ·) := by rw [Nat.pow_succ, Nat.mul_two, List.range_add]
  have lt := mask_lt (fun m : Nat => m.testBit k) (List.range (2 ^ j))
  rw [List.length_range] at lt
  rw [bitOr_comm, or_low (Int.natCast_nonneg _) (Int.natCast_nonneg _) (by rw [← PySem.W.kbt_cast]; exact Int.ofNat_lt.mpr lt), e, mask_app, mask_map, List.length_range]
  rw [mask_congr (f := fun x => (2 ^ j + x).testBit k) (g := fun m => m.testBit k) fun x _ => Nat.testBit_two_pow_add_gt h x]
  rw [cast_parts, ← Int.natCast_add, Nat.add_comm]
theorem mkC_new (j : Nat) : ((1 : Int) * 2 ^ (2 ^ j) - 1) * 2 ^ (2 ^ j) = mkC (j + 1) j := by
  unfold mkC
  have e : List.range (2 ^ (j + 1)) = List.range (2 ^ j) ++ (List.range (2 ^ j)).map (2 ^ j + ·) := by rw [Nat.pow_succ, Nat.mul_two, List.range_add]
  rw [e, mask_app, mask_map, List.length_range]
  have c1 : maskN (fun x => (2 ^ j + x).testBit j) (List.range (2 ^ j)) = maskN (fun _ => true) (List.range (2 ^ j)) := mask_congr fun x hx => by
    rw [Nat.testBit_two_pow_add_eq, Nat.testBit_lt_two_pow (List.mem_range.mp hx)] <;> rfl
  have c2 : maskN (fun m : Nat => m.testBit j) (List.range (2 ^ j)) = 0 := mask_zero.mpr fun x hx => Nat.testBit_lt_two_pow (List.mem_range.mp hx)
  rw [c1, c2, mask_true, List.length_range, Int.one_mul]
  have hp := Nat.two_pow_pos (2 ^ j)
  have e3 : (2 : Int) ^ (2 ^ j) - 1 = ((2 ^ 2 ^ j - 1 : Nat) : Int) := by
    rw [← PySem.W.kbt_cast]
    omega
  rw [e3, cast_parts, Nat.zero_add]
theorem mkCs_cols (n : Nat) : mkCs n = cols n [] := by
  unfold mkCs cols
  apply List.map_congr_left
  intro k hk
  have hk' := List.mem_range.mp hk
  unfold mkC colV bares
  rw [mask_map, mask_congr]
  intro m _
  unfold one0
  show m.testBit k = (at0 (bareR n m) k == 1)
  have e : at0 (bareR n m) k = ((m / 2 ^ k % 2 : Nat) : Int) := by
    unfold at0 bareR
    rw [List.getD_eq_getElem?_getD, List.getElem?_map, List.getElem?_range hk'] <;> rfl
  rw [e, Nat.testBit_eq_decide_div_mod_eq]
  rw [Bool.eq_iff_iff, decide_eq_true_eq, beq_iff_eq]
  omega
def firstB (n : Nat) (f : Row → Bool) : Option Row := (bares n).find? f
theorem mkC_lt (j k : Nat) : mkC j k < 2 ^ (2 ^ j) ∧ 0 ≤ mkC j k := by
  unfold mkC
  have lt := mask_lt (fun m : Nat => m.testBit k) (List.range (2 ^ j))
  rw [List.length_range] at lt
  rw [← PySem.W.kbt_cast]
  omega
/-- what stands at places that b holds of -/
def pick {α : Type} (b : Nat → Bool) : Nat → List α → List α
  | _, [] => []
  | k, x :: l => (if b k = true then [x] else []) ++ pick b (k + 1) l
theorem pick_snoc {α : Type} (b : Nat → Bool) (x : α) : ∀ (l : List α) (k : Nat), pick b k (l ++ [x]) = pick b k l ++ (if b (k + l.length) = true then [x] else [])
  | [], k => by
    show (if b k = true then [x] else []) ++ [] = [] ++ _
    rw [List.append_nil, List.nil_append, List.length_nil, Nat.add_zero]
  | y :: l, k => by
    show (if b k = true then [y] else []) ++ pick b (k + 1) (l ++ [x]) = (if b k = true then [y] else []) ++ pick b (k + 1) l ++ _
    rw [pick_snoc b x l (k + 1), List.append_assoc, List.length_cons, show k + 1 + l.length = k + (l.length + 1) by omega]
theorem pick_take {α : Type} {b : Nat → Bool} {l : List α} {i : Nat} {x : α} (h : l[i]? = some x) : pick b 0 (l.take (i + 1)) = pick b 0 (l.take i) ++ (if b i = true then [x] else []) := by
  have hi : i < l.length := (List.getElem?_eq_some_iff.mp h).1
  rw [List.take_add_one, h]
  show pick b 0 (l.take i ++ [x]) = _
  rw [pick_snoc, List.length_take, Nat.zero_add, Nat.min_eq_left (by omega)]
theorem pick_len {α : Type} (b : Nat → Bool) : ∀ (l : List α) (k : Nat), (pick b k l).length ≤ l.length
  | [], _ => Nat.le_refl _
  | x :: l, k => by
    show ((if b k = true then [x] else []) ++ pick b (k + 1) l).length ≤ l.length + 1
    have := pick_len b l (k + 1)
    rw [List.length_append]
    split
    · rw [List.length_singleton]
      omega
    · rw [List.length_nil]
      omega
theorem pick_all2 {α β : Type} {R : α → β → Prop} (b : Nat → Bool) {l : List α} {m : List β} (h : All2 R l m) : ∀ k, All2 R (pick b k l) (pick b k m) := by
  induction h with
  | nil => intro k; exact .nil
  | cons r _ ih =>
    intro k
    show All2 R ((if b k = true then [_] else []) ++ _) ((if b k = true then [_] else []) ++ _)
    refine All2.append ?_ (ih (k + 1))
    split
    · exact .one r
    · exact .nil
theorem pick_mem {α : Type} {b : Nat → Bool} {x : α} : ∀ {l : List α} {k : Nat}, x ∈ pick b k l → x ∈ l
  | [], _, h => h
  | y :: l, k, h => by
    have h' : x ∈ (if b k = true then [y] else []) ++ pick b (k + 1) l := h
    rcases List.mem_append.mp h' with h | h
    · split at h
      · rw [List.mem_singleton.mp h]
        exact .head _
      · cases h
    · exact .tail _ (pick_mem h)
def natL (ts : List Nat) : List V := ts.map fun (t : Nat) => V.int (t : Int)
theorem nat_len (l : List Nat) : (natL l).length = l.length := List.length_map ..
def stirsAt (cs : List Cmp) (k : Nat) (r : Row) : Bool := match cs[k]? with
  | some c => decide (at0 (gone (cs.take k) r) c.1 > at0 (gone (cs.take k) r) c.2)
  | none => false
def stirB (cs : List Cmp) (rs : List Row) : List Bool := (List.range cs.length).map fun k => rs.any (stirsAt cs k)
end Sw

set_option Elab.async false
set_option linter.all false
set_option maxRecDepth 100000
set_option maxHeartbeats 4000000
namespace Sw
open PySem PySem.Spec PyProof.Rows L2
/-! ## Layers and chains -/
def manyL (ts : List Nat) : Nat := ts.foldr (fun t m => max (t + 1) m) 0
theorem manyL_lt : ∀ {ts : List Nat} {t : Nat}, t ∈ ts → t < manyL ts
  | [], _, h => nomatch h
  | s :: ts, t, h => by
    show t < max (s + 1) (manyL ts)
    rcases List.mem_cons.mp h with h | h
    · omega
    · have := manyL_lt h
      omega
theorem manyL_mem : ∀ {ts : List Nat} {m : Nat}, manyL ts = m + 1 → m ∈ ts
  | [], m, h => by cases h
  | s :: ts, m, h => by
    have h' : max (s + 1) (manyL ts) = m + 1 := h
    by_cases e : s = m
    · rw [e]
      exact .head _
    · exact .tail _ (manyL_mem (by omega))
theorem manyL_app : ∀ (ts us : List Nat), manyL (ts ++ us) = max (manyL ts) (manyL us)
  | [], us => by
    show manyL us = max 0 (manyL us)
    omega
  | s :: ts, us => by
    show max (s + 1) (manyL (ts ++ us)) = max (max (s + 1) (manyL ts)) (manyL us)
    rw [manyL_app ts us]
    omega
theorem manyL_nil {ts : List Nat} (h : manyL ts = 0) : ts = [] := by
  cases ts with
  | nil => rfl
  | cons s ts =>
    have h' : max (s + 1) (manyL ts) = 0 := h
    omega
def manyT (cs : List Cmp) : Nat := manyL (tiers cs)
theorem tiers_len (cs : List Cmp) : (tiers cs).length = cs.length := tiersH_len _ cs
theorem tiers_take (cs : List Cmp) (i : Nat) : tiers (cs.take i) = (tiers cs).take i := tiersH_take _ cs i
theorem tier_back {cs : List Cmp} {q t : Nat} {c : Cmp} (hc : cs[q]? = some c) (h : (tiers cs)[q]? = some (t + 1)) : ∃ (k : Nat) (d : Cmp), k < q ∧ cs[k]? = some d ∧ (tiers cs)[k]? = some t ∧ share d c = true := by
  have g := tiers_get hc
  rw [h] at g
  have e : t + 1 = max (hgtH (fun _ => 0) (cs.take q) c.1) (hgtH (fun _ => 0) (cs.take q) c.2) := Option.some.inj g
  obtain ⟨l, hl, hh⟩ : ∃ l, (l = c.1 ∨ l = c.2) ∧ hgtH (fun _ => 0) (cs.take q) l = t + 1 := by
    by_cases z : hgtH (fun _ => 0) (cs.take q) c.1 = t + 1
    · exact ⟨_, .inl rfl, z⟩
    · exact ⟨_, .inr rfl, by omega⟩
  rcases (hgt_spec (cs.take q) l).2 with z | ⟨i, d, t', h1, h2, h3, h4⟩
  · omega
  · have hi : i < (cs.take q).length := (List.getElem?_eq_some_iff.mp h1).1
    rw [List.length_take] at hi
    have iq : i < q := by omega
    rw [List.getElem?_take_of_lt iq] at h1
    rw [tiers_take, List.getElem?_take_of_lt iq] at h3
    refine ⟨i, d, iq, h1, by rw [h3]; congr 1; omega, ?_⟩
    unfold share
    rw [decide_eq_true_eq]
    rcases hl with hl | hl <;> rcases h2 with h2 | h2
    · exact .inl (by omega)
    · exact .inr (.inr (.inl (by omega)))
    · exact .inr (.inl (by omega))
    · exact .inr (.inr (.inr (by omega)))
theorem tier_le {cs : List Cmp} {i t : Nat} (h : (tiers cs)[i]? = some t) : t ≤ manyL ((tiers cs).take i) := by
  cases t with
  | zero => exact Nat.zero_le _
  | succ t =>
    have hi : i < cs.length := by
      have := (List.getElem?_eq_some_iff.mp h).1
      rw [tiers_len] at this
      exact this
    obtain ⟨c, hc⟩ := get_of hi
    obtain ⟨k, d, hk, _, ht, _⟩ := tier_back hc h
    have : t ∈ (tiers cs).take i := List.mem_of_getElem? (i := k) (by rw [List.getElem?_take_of_lt hk]; exact ht)
    exact manyL_lt this
/-! ### layers -/
def layI (cs : List Cmp) (i : Nat) (u : Nat) : List Cmp := layerOf (cs.take i) ((tiers cs).take i) u
theorem layI_step {cs : List Cmp} {i t : Nat} {c : Cmp} (hc : cs[i]? = some c) (ht : (tiers cs)[i]? = some t) (u : Nat) : layI cs (i + 1) u = layI cs i u ++ (if t = u then [c] else []) := by
  have hi : i < cs.length := (List.getElem?_eq_some_iff.mp hc).1
  unfold layI layerOf
  rw [List.take_add_one, List.take_add_one (l := tiers cs), hc, ht]
  show List.map _ (List.filter _ ((cs.take i ++ [c]).zip ((tiers cs).take i ++ [t]))) = _
  rw [List.zip_append (by rw [List.length_take, List.length_take, tiers_len]), List.filter_append, List.map_append]
  congr 1
  show List.map _ (List.filter _ [(c, t)]) = _
  by_cases e : t = u
  · rw [List.filter_cons_of_pos (by simpa using e), if_pos e] <;> rfl
  · rw [List.filter_cons_of_neg (by simpa using e), if_neg e] <;> rfl
theorem layI_nil {cs : List Cmp} {i u : Nat} (h : manyL ((tiers cs).take i) ≤ u) : layI cs i u = [] := by
  unfold layI layerOf
  rw [List.map_eq_nil_iff, List.filter_eq_nil_iff]
  rintro ⟨d, t⟩ hd
  have := (List.of_mem_zip hd).2
  have := manyL_lt this
  simp only [beq_iff_eq]
  omega
def layL (cs : List Cmp) (i M : Nat) : List (List Cmp) := (List.range M).map (layI cs i)
def layersOf (cs : List Cmp) : List (List Cmp) := layL cs cs.length (manyT cs)
theorem layL_len (cs : List Cmp) (i M : Nat) : (layL cs i M).length = M := by
  unfold layL
  rw [List.length_map, List.length_range]
theorem layL_get {cs : List Cmp} {i M u : Nat} (h : u < M) : (layL cs i M)[u]? = some (layI cs i u) := by
  unfold layL
  rw [List.getElem?_map, List.getElem?_range h] <;> rfl
theorem layL_set {cs : List Cmp} {i M t : Nat} {c : Cmp} (hc : cs[i]? = some c) (ht : (tiers cs)[i]? = some t) : (layL cs i M).set t (layI cs i t ++ [c]) = layL cs (i + 1) M := by
  apply List.ext_getElem
  · rw [List.length_set, layL_len, layL_len]
  · intro u h1 h2
    have hu : u < M := by rw [layL_len] at h2; exact h2
    have e : ∀ (j : Nat) (h : u < (layL cs j M).length), (layL cs j M)[u] = layI cs j u := fun j h => by
      have := layL_get (cs := cs) (i := j) hu
      rw [List.getElem?_eq_getElem h] at this
      exact Option.some.inj this
    rw [List.getElem_set, e, e, layI_step hc ht]
    by_cases z : t = u
    · rw [if_pos z, if_pos z, z]
    · rw [if_neg z, if_neg z, List.append_nil]
theorem layL_zero (cs : List Cmp) (M : Nat) : layL cs 0 M = (List.range M).map fun _ => [] := by
  unfold layL
  apply List.map_congr_left
  intro u _
  rfl
theorem layL_more (cs : List Cmp) (i : Nat) : layL cs i (manyL ((tiers cs).take i) + 1) = layL cs i (manyL ((tiers cs).take i)) ++ [[]] := by
  unfold layL
  rw [List.range_succ, List.map_append]
  show _ ++ [layI cs i _] = _
  rw [layI_nil (Nat.le_refl _)]
theorem layersOf_eq (cs : List Cmp) : layersOf cs = (List.range (manyT cs)).map (layerOf cs (tiers cs)) := by
  unfold layersOf layL
  apply List.map_congr_left
  intro u _
  unfold layI
  rw [List.take_length, ← tiers_len, List.take_length]
/-! ### a chain, from its end -/
def tAt (cs : List Cmp) (k : Nat) : Int := ((tiers cs).getD k 0 : Nat)
def cAt (cs : List Cmp) (k : Nat) : Cmp := cs.getD k (0, 0)
def topT (cs : List Cmp) : Int := ((manyT cs - 1 : Nat) : Int)
def chOk (cs : List Cmp) (k : Nat) (st : List Nat × Int) : Prop := tAt cs k = st.2 ∧ ∀ q, st.1.getLast? = some q → share (cAt cs k) (cAt cs q) = true
instance (cs : List Cmp) (k : Nat) (st : List Nat × Int) : Decidable (chOk cs k st) := by
  unfold chOk
  cases h : st.1.getLast? with
  | none => exact if e : tAt cs k = st.2 then isTrue ⟨e, fun q z => nomatch z⟩ else isFalse fun z => e z.1
  | some q => exact if e : tAt cs k = st.2 ∧ share (cAt cs k) (cAt cs q) = true then isTrue ⟨e.1, fun q' z => by cases z; exact e.2⟩ else isFalse fun z => e ⟨z.1, z.2 q rfl⟩
def chStep (cs : List Cmp) (k : Nat) (st : List Nat × Int) : List Nat × Int := if chOk cs k st then (st.1 ++ [k], st.2 - 1) else st
def chSt (cs : List Cmp) : Nat → List Nat × Int
  | 0 => ([], topT cs)
  | i + 1 => chStep cs (cs.length - 1 - i) (chSt cs i)
def chainOf (cs : List Cmp) : List Nat := (chSt cs cs.length).1.reverse
structure ChI (cs : List Cmp) (i : Nat) (st : List Nat × Int) : Prop where
  w : st.2 = topT cs - st.1.length
  at' : ∀ (j k : Nat), st.1[j]? = some k → cs.length - i ≤ k ∧ k < cs.length ∧ tAt cs k = topT cs - j
  nb : ∀ (j k k' : Nat), st.1[j]? = some k → st.1[j + 1]? = some k' → k' < k ∧ share (cAt cs k') (cAt cs k) = true
  no : st.1 = [] → ∀ k : Nat, cs.length - i ≤ k → k < cs.length → tAt cs k ≠ topT cs
  la : ∀ q : Nat, st.1.getLast? = some q → ∀ k : Nat, cs.length - i ≤ k → k < q → ¬ (tAt cs k = st.2 ∧ share (cAt cs k) (cAt cs q) = true)
theorem last_at {l : List Nat} {q : Nat} (h : l.getLast? = some q) : l[l.length - 1]? = some q := by rw [← List.getLast?_eq_getElem?]; exact h
theorem ch_inv (cs : List Cmp) : ∀ i, i ≤ cs.length → ChI cs i (chSt cs i)
  | 0, _ => ⟨by show topT cs = topT cs - ((0 : Nat) : Int); omega, fun j k h => (nomatch h), fun j k k' h => (nomatch h), fun _ k h1 h2 => by omega, fun q h => nomatch h⟩
  | i + 1, hi => by
    have I := ch_inv cs i (by omega)
    show ChI cs (i + 1) (chStep cs (cs.length - 1 - i) (chSt cs i))
    generalize chSt cs i = st at I
    obtain ⟨ps, w⟩ := st
    have ek : cs.length - 1 - i = cs.length - (i + 1) := by omega
    rw [ek]
    unfold chStep
    by_cases c : chOk cs (cs.length - (i + 1)) (ps, w)
    · rw [if_pos c]
      obtain ⟨c1, c2⟩ := c
      have iw : w = topT cs - ps.length := I.w
      have c1' : tAt cs (cs.length - (i + 1)) = w := c1
      refine ⟨?_, ?_, ?_, ?_, ?_⟩
      · show w - 1 = topT cs - ((ps ++ [_]).length : Nat)
        rw [List.length_append, List.length_singleton]
        omega
      · intro j k h
        rcases Nat.lt_or_ge j ps.length with hj | hj
        · rw [List.getElem?_append_left hj] at h
          obtain ⟨a1, a2, a3⟩ := I.at' j k h
          exact ⟨by omega, a2, a3⟩
        · rw [List.getElem?_append_right hj] at h
          have hj2 : j - ps.length = 0 := by
            have := (List.getElem?_eq_some_iff.mp h).1
            rw [List.length_singleton] at this
            omega
          rw [hj2] at h
          have e := Option.some.inj h
          subst e
          refine ⟨Nat.le_refl _, by omega, ?_⟩
          rw [c1', iw]
          omega
      · intro j k k' h h'
        have hj1 : j + 1 < ps.length + 1 := by
          have := (List.getElem?_eq_some_iff.mp h').1
          rw [List.length_append, List.length_singleton] at this
          exact this
        have hj0 : j < ps.length := by omega
        rw [List.getElem?_append_left (show j < (ps, w).1.length from hj0)] at h
        rcases Nat.lt_or_ge (j + 1) ps.length with hj | hj
        · rw [List.getElem?_append_left hj] at h'
          exact I.nb j k k' h h'
        · rw [List.getElem?_append_right hj, show j + 1 - ps.length = 0 by omega] at h'
          have e := Option.some.inj h'
          subst e
          have hl : ps.getLast? = some k := by rw [List.getLast?_eq_getElem?, show ps.length - 1 = j by omega]; exact h
          obtain ⟨a1, a2, a3⟩ := I.at' j k h
          refine ⟨by omega, c2 k hl⟩
      · intro z
        exact absurd z (by simp)
      · intro q hq k h1 h2
        have e : cs.length - (i + 1) = q := by
          have hq' : (ps ++ [cs.length - (i + 1)]).getLast? = some q := hq
          rw [List.getLast?_concat] at hq'
          exact Option.some.inj hq'
        omega
    · rw [if_neg c]
      refine ⟨I.w, fun j k h => ?_, I.nb, fun z k h1 h2 => ?_, fun q hq k h1 h2 => ?_⟩
      · obtain ⟨a1, a2, a3⟩ := I.at' j k h
        exact ⟨by omega, a2, a3⟩
      · have z' : ps = [] := z
        rcases Nat.eq_or_lt_of_le h1 with e | e
        · subst e
          intro t
          refine c ⟨?_, fun q hq => ?_⟩
          · have iw : w = topT cs - ps.length := I.w
            rw [z'] at iw
            show _ = w
            rw [t, iw]
            show _ = topT cs - ((0 : Nat) : Int)
            omega
          · have hq' : ps.getLast? = some q := hq
            rw [z'] at hq'
            cases hq'
        · exact I.no z k (by omega) h2
      · rcases Nat.eq_or_lt_of_le h1 with e | e
        · subst e
          rintro ⟨t1, t2⟩
          refine c ⟨t1, fun q' hq' => ?_⟩
          have : q' = q := Option.some.inj (hq'.symm.trans hq)
          rw [this]
          exact t2
        · exact I.la q hq k (by omega) h2
theorem tAt_get {cs : List Cmp} {k t : Nat} (h : (tiers cs)[k]? = some t) : tAt cs k = t := by
  unfold tAt
  rw [List.getD_eq_getElem?_getD, h] <;> rfl
theorem cAt_get {cs : List Cmp} {k : Nat} {c : Cmp} (h : cs[k]? = some c) : cAt cs k = c := by
  unfold cAt
  rw [List.getD_eq_getElem?_getD, h] <;> rfl
theorem chain_len (cs : List Cmp) : (chainOf cs).length = manyT cs := by
  have I := ch_inv cs cs.length (Nat.le_refl _)
  unfold chainOf
  rw [List.length_reverse]
  generalize chSt cs cs.length = st at I
  obtain ⟨ps, w⟩ := st
  have iw : w = topT cs - ps.length := I.w
  show ps.length = manyT cs
  cases hl : ps.getLast? with
  | none =>
    have z : ps = [] := List.getLast?_eq_none_iff.mp hl
    cases hm : manyT cs with
    | zero => rw [z] <;> rfl
    | succ m =>
      exfalso
      obtain ⟨k, hk⟩ := List.getElem?_of_mem (manyL_mem hm)
      have hk2 := (List.getElem?_eq_some_iff.mp hk).1
      rw [tiers_len] at hk2
      refine I.no z k (by omega) hk2 ?_
      rw [tAt_get hk]
      unfold topT
      rw [hm] <;> rfl
  | some q =>
    have hq := last_at hl
    have lp : ps.length ≠ 0 := fun z => by
      rw [List.eq_nil_of_length_eq_zero z] at hl
      cases hl
    obtain ⟨a1, a2, a3⟩ := I.at' _ _ hq
    obtain ⟨t, ht⟩ := get_of (xs := tiers cs) (i := q) (by rw [tiers_len]; exact a2)
    rw [tAt_get ht] at a3
    have mt : t < manyT cs := manyL_lt (List.mem_of_getElem? ht)
    unfold topT at a3
    cases t with
    | zero => omega
    | succ t =>
      exfalso
      obtain ⟨c, hc⟩ := get_of a2
      obtain ⟨k, d, hk, hd, hkt, hs⟩ := tier_back hc ht
      refine I.la q hl k (by omega) hk ⟨?_, ?_⟩
      · rw [tAt_get hkt]
        show (t : Int) = w
        rw [iw]
        unfold topT
        omega
      · rw [cAt_get hd, cAt_get hc]
        exact hs
theorem chain_lt {cs : List Cmp} {k : Nat} (h : k ∈ chainOf cs) : k < cs.length := by
  obtain ⟨j, hj⟩ := List.getElem?_of_mem (List.mem_reverse.mp h)
  exact ((ch_inv cs cs.length (Nat.le_refl _)).at' j k hj).2.1
theorem chain_nb {cs : List Cmp} {j a b : Nat} (h1 : (chainOf cs)[j]? = some a) (h2 : (chainOf cs)[j + 1]? = some b) : a < b ∧ share (cAt cs a) (cAt cs b) = true := by
  have l2 := (List.getElem?_eq_some_iff.mp h2).1
  unfold chainOf at h1 h2 l2
  rw [List.length_reverse] at l2
  rw [List.getElem?_reverse (by omega)] at h1 h2
  refine (ch_inv cs cs.length (Nat.le_refl _)).nb ((chSt cs cs.length).1.length - 1 - (j + 1)) b a h2 ?_
  rw [show (chSt cs cs.length).1.length - 1 - (j + 1) + 1 = (chSt cs cs.length).1.length - 1 - j by omega]
  exact h1
theorem ch_len (cs : List Cmp) : ∀ i, (chSt cs i).1.length ≤ i
  | 0 => Nat.le_refl _
  | i + 1 => by
    have := ch_len cs i
    show (chStep cs _ (chSt cs i)).1.length ≤ i + 1
    unfold chStep
    split
    · show ((chSt cs i).1 ++ [_]).length ≤ i + 1
      rw [List.length_append, List.length_singleton]
      omega
    · omega
end Sw

set_option Elab.async false
set_option linter.all false
set_option maxRecDepth 100000
set_option maxHeartbeats 4000000
namespace Sw
open PySem PySem.Spec PyProof.Rows L2
/-! ## The straight web of a web -/
def spA (sp : List Nat) (k : Nat) : Nat := sp.getD k 0
def strC (st : List Cmp × List Nat) (c : Cmp) : List Cmp × List Nat :=
  if spA st.2 c.1 < spA st.2 c.2 then (st.1 ++ [(spA st.2 c.1, spA st.2 c.2)], st.2)
  else (st.1 ++ [(spA st.2 c.2, spA st.2 c.1)], (st.2.set c.1 (spA st.2 c.2)).set c.2 (spA st.2 c.1))
def strOf (n : Nat) (cs : List Cmp) : List Cmp × List Nat := cs.foldl strC ([], List.range n)
theorem strOf_snoc (n : Nat) (cs : List Cmp) (c : Cmp) : strOf n (cs ++ [c]) = strC (strOf n cs) c := by
  unfold strOf
  rw [List.foldl_append] <;> rfl
theorem spA_get {sp : List Nat} {k : Nat} (h : k < sp.length) : sp[k]? = some (spA sp k) := by
  unfold spA
  rw [List.getD_eq_getElem?_getD, List.getElem?_eq_getElem h] <;> rfl
theorem spA_eq {sp : List Nat} {k : Nat} (h : k < sp.length) : sp[k] = spA sp k := by
  have := spA_get h
  rw [List.getElem?_eq_getElem h] at this
  exact Option.some.inj this
/-- all that holds of it -/
structure StrI (n : Nat) (cs : List Cmp) (st : List Cmp × List Nat) : Prop where
  len : st.1.length = cs.length
  perm : st.2.Perm (List.range n)
  str : ∀ c ∈ st.1, c.1 < c.2 ∧ c.2 < n
  goes : ∀ r : Row, r.length = n → ∀ k, k < n → at0 (gone st.1 r) (spA st.2 k) = at0 (gone cs r) k
theorem StrI.slen {n : Nat} {cs : List Cmp} {st : List Cmp × List Nat} (I : StrI n cs st) : st.2.length = n := by
  rw [I.perm.length_eq, List.length_range]
theorem StrI.lt {n : Nat} {cs : List Cmp} {st : List Cmp × List Nat} (I : StrI n cs st) {k : Nat} (h : k < n) : spA st.2 k < n := by
  have := List.mem_of_getElem? (spA_get (sp := st.2) (k := k) (by rw [I.slen]; exact h))
  exact List.mem_range.mp (I.perm.mem_iff.mp this)
theorem StrI.inj {n : Nat} {cs : List Cmp} {st : List Cmp × List Nat} (I : StrI n cs st) {j k : Nat} (hj : j < n) (hk : k < n) (e : spA st.2 j = spA st.2 k) : j = k := by
  have nd : st.2.Nodup := I.perm.nodup_iff.mpr List.nodup_range
  have z := List.pairwise_iff_getElem.mp nd
  have l := I.slen
  rcases Nat.lt_trichotomy j k with h | h | h
  · exact absurd (by rw [spA_eq, spA_eq]; exact e) (z j k (by omega) (by omega) h)
  · exact h
  · exact absurd (by rw [spA_eq, spA_eq]; exact e.symm) (z k j (by omega) (by omega) h)
theorem at0_set {r : Row} {k j : Nat} {v : Int} (h : k < r.length) : at0 (r.set k v) j = if k = j then v else at0 r j := by
  unfold at0
  rw [List.getD_eq_getElem?_getD, List.getElem?_set]
  by_cases e : k = j
  · rw [if_pos e, if_pos e, if_pos h] <;> rfl
  · rw [if_neg e, if_neg e, List.getD_eq_getElem?_getD]
theorem goC_at {r : Row} {c : Cmp} {n : Nat} (hr : r.length = n) (ok : CmpOk n c) (k : Nat) : at0 (goC r c) k = if c.2 = k then max (at0 r c.1) (at0 r c.2) else if c.1 = k then min (at0 r c.1) (at0 r c.2) else at0 r k := by
  obtain ⟨h1, h2, h3⟩ := ok
  unfold goC
  split
  · rename_i gt
    rw [at0_set (by rw [List.length_set, hr]; exact h2), at0_set (by rw [hr]; exact h1)]
    by_cases z : c.2 = k
    · rw [if_pos z, if_pos z]
      omega
    · rw [if_neg z, if_neg z]
      by_cases y : c.1 = k
      · rw [if_pos y, if_pos y]
        omega
      · rw [if_neg y, if_neg y]
  · rename_i gt
    by_cases z : c.2 = k
    · rw [if_pos z, ← z]
      omega
    · rw [if_neg z]
      by_cases y : c.1 = k
      · rw [if_pos y, ← y]
        omega
      · rw [if_neg y]
theorem spA_set {sp : List Nat} {k j v : Nat} (h : k < sp.length) : spA (sp.set k v) j = if k = j then v else spA sp j := by
  unfold spA
  rw [List.getD_eq_getElem?_getD, List.getElem?_set]
  by_cases e : k = j
  · rw [if_pos e, if_pos e, if_pos h] <;> rfl
  · rw [if_neg e, if_neg e, List.getD_eq_getElem?_getD]
theorem str_step {n : Nat} {cs : List Cmp} {c : Cmp} {st : List Cmp × List Nat} (ok : CmpOk n c) (I : StrI n cs st) : StrI n (cs ++ [c]) (strC st c) := by
  obtain ⟨h1, h2, h3⟩ := id ok
  have l1 := I.lt h1
  have l2 := I.lt h2
  have sl := I.slen
  have ne : spA st.2 c.1 ≠ spA st.2 c.2 := fun e => h3 (I.inj h1 h2 e)
  unfold strC
  split
  · rename_i lt
    refine ⟨?_, I.perm, ?_, ?_⟩
    · show (st.1 ++ [_]).length = _
      rw [List.length_append, List.length_append, I.len] <;> rfl
    · intro d hd
      rcases List.mem_append.mp hd with h | h
      · exact I.str d h
      · rw [List.mem_singleton.mp h]
        exact ⟨lt, l2⟩
    · intro r hr k hk
      show at0 (gone (st.1 ++ [_]) r) (spA st.2 k) = _
      have g := I.goes r hr
      rw [gone_snoc, gone_snoc, goC_at (n := n) (by rw [gone_len, hr]) ⟨l1, l2, ne⟩, goC_at (n := n) (by rw [gone_len, hr]) ok]
      show (if spA st.2 c.2 = spA st.2 k then max (at0 (gone st.1 r) (spA st.2 c.1)) (at0 (gone st.1 r) (spA st.2 c.2)) else if spA st.2 c.1 = spA st.2 k then min (at0 (gone st.1 r) (spA st.2 c.1)) (at0 (gone st.1 r) (spA st.2 c.2)) else at0 (gone st.1 r) (spA st.2 k)) = _
      rw [g _ h1, g _ h2, g _ hk]
      by_cases z : c.2 = k
      · rw [if_pos z, if_pos (by rw [z])]
      · rw [if_neg z, if_neg fun e => z (I.inj h2 hk e)]
        by_cases y : c.1 = k
        · rw [if_pos y, if_pos (by rw [y])]
        · rw [if_neg y, if_neg fun e => y (I.inj h1 hk e)]
  · rename_i lt
    have gt : spA st.2 c.2 < spA st.2 c.1 := by omega
    refine ⟨?_, ?_, ?_, ?_⟩
    · show (st.1 ++ [_]).length = _
      rw [List.length_append, List.length_append, I.len] <;> rfl
    · refine List.Perm.trans ?_ I.perm
      have p := List.set_set_perm (as := st.2) (i := c.1) (j := c.2) (by omega) (by omega)
      rw [spA_eq (by omega), spA_eq (by omega)] at p
      exact p
    · intro d hd
      rcases List.mem_append.mp hd with h | h
      · exact I.str d h
      · rw [List.mem_singleton.mp h]
        exact ⟨gt, l1⟩
    · intro r hr k hk
      show at0 (gone (st.1 ++ [_]) r) (spA ((st.2.set c.1 (spA st.2 c.2)).set c.2 (spA st.2 c.1)) k) = _
      have g := I.goes r hr
      rw [spA_set (by rw [List.length_set]; omega), spA_set (by omega)]
      rw [gone_snoc, gone_snoc, goC_at (n := n) (by rw [gone_len, hr]) ⟨l2, l1, ne.symm⟩, goC_at (n := n) (by rw [gone_len, hr]) ok]
      dsimp only
      rw [g _ h1, g _ h2]
      by_cases z : c.2 = k
      · rw [if_pos z, if_pos z, if_pos rfl]
        omega
      · rw [if_neg z, if_neg z]
        by_cases y : c.1 = k
        · rw [if_pos y, if_pos y, if_neg ne, if_pos rfl]
          omega
        · rw [if_neg y, if_neg y, if_neg fun e => y (I.inj h1 hk e), if_neg fun e => z (I.inj h2 hk e), g _ hk]
theorem str_all {n : Nat} {cs : List Cmp} (ok : CmpsOk n cs) : StrI n cs (strOf n cs) := by
  induction cs using snocInd with
  | h0 =>
    refine ⟨rfl, List.Perm.refl _, (fun c hc => nomatch hc), fun r hr k hk => ?_⟩
    show at0 r (spA (List.range n) k) = at0 r k
    have : spA (List.range n) k = k := by
      unfold spA
      rw [List.getD_eq_getElem?_getD, List.getElem?_range hk] <;> rfl
    rw [this]
  | h1 l c ih =>
    rw [strOf_snoc]
    exact str_step (ok c (List.mem_append.mpr (.inr (List.mem_singleton.mpr rfl)))) (ih fun d hd => ok d (List.mem_append.mpr (.inl hd)))
theorem str_ok {n : Nat} {cs : List Cmp} (ok : CmpsOk n cs) : CmpsOk n (strOf n cs).1 := fun c hc => by
  obtain ⟨h1, h2⟩ := (str_all ok).str c hc
  exact ⟨by omega, h2, by omega⟩
/-- rising numbers stay as they are in a straight web -/
def idR (n : Nat) : Row := (List.range n).map fun (k : Nat) => (k : Int)
theorem idR_at {n k : Nat} (h : k < n) : at0 (idR n) k = k := by
  unfold at0 idR
  rw [List.getD_eq_getElem?_getD, List.getElem?_map, List.getElem?_range h] <;> rfl
theorem idR_len (n : Nat) : (idR n).length = n := by
  unfold idR
  rw [List.length_map, List.length_range]
theorem straight_id {n : Nat} : ∀ {cs : List Cmp}, (∀ c ∈ cs, c.1 < c.2 ∧ c.2 < n) → gone cs (idR n) = idR n
  | [], _ => rfl
  | c :: cs, h => by
    obtain ⟨h1, h2⟩ := h c (.head _)
    have e : goC (idR n) c = idR n := by
      unfold goC
      rw [if_neg (by rw [idR_at (by omega), idR_at h2]; omega)]
    show gone cs (goC (idR n) c) = idR n
    rw [e]
    exact straight_id fun d hd => h d (.tail _ hd)
/-- of a web that sorts, the spots are the lines -/
theorem str_sorts {n : Nat} {cs : List Cmp} (ok : CmpsOk n cs) (s : ∀ r : Row, r.length = n → Srt (gone cs r)) : (strOf n cs).2 = List.range n ∧ ∀ r : Row, r.length = n → gone (strOf n cs).1 r = gone cs r := by
  have I := str_all ok
  have sl := I.slen
  have e1 : (strOf n cs).2 = List.range n := by
    refine List.Perm.eq_of_pairwise (le := fun a b => a ≤ b) (fun a b _ _ h1 h2 => Nat.le_antisymm h1 h2) ?_ ?_ I.perm
    · rw [List.pairwise_iff_getElem]
      intro i j hi hj hij
      have z := s (idR n) (idR_len n)
      rw [Srt, List.pairwise_iff_getElem] at z
      have gl : (gone cs (idR n)).length = n := by rw [gone_len, idR_len]
      have g := I.goes (idR n) (idR_len n)
      rw [straight_id I.str] at g
      have zi := z i j (by omega) (by omega) hij
      have a : ∀ (k : Nat) (hk : k < (gone cs (idR n)).length), (gone cs (idR n))[k] = (spA (strOf n cs).2 k : Int) := fun k hk => by
        have : (gone cs (idR n))[k] = at0 (gone cs (idR n)) k := by
          unfold at0
          rw [List.getD_eq_getElem?_getD, List.getElem?_eq_getElem hk] <;> rfl
        rw [this, ← g k (by omega), idR_at (I.lt (by omega))]
      rw [a, a] at zi
      rw [spA_eq hi, spA_eq hj]
      omega
    · exact List.pairwise_lt_range.imp fun h => Nat.le_of_lt h
  refine ⟨e1, fun r hr => ?_⟩
  apply List.ext_getElem
  · rw [gone_len, gone_len]
  · intro k h1 h2
    have g := I.goes r hr k (by rw [gone_len, hr] at h2; exact h2)
    rw [e1] at g
    have hk : k < n := by rw [gone_len, hr] at h2; exact h2
    have sk : spA (List.range n) k = k := by
      unfold spA
      rw [List.getD_eq_getElem?_getD, List.getElem?_range hk] <;> rfl
    rw [sk] at g
    unfold at0 at g
    rw [List.getD_eq_getElem?_getD, List.getD_eq_getElem?_getD, List.getElem?_eq_getElem h1, List.getElem?_eq_getElem h2] at g
    exact g
end Sw

set_option Elab.async false
set_option linter.all false
set_option maxRecDepth 100000
set_option maxHeartbeats 4000000
namespace Sw
open PySem PySem.Spec PyProof.Rows L2
/-! ## Lines called otherwise, upside down, beside one another -/
def callC (o : List Nat) (c : Cmp) : Cmp := (spA o c.1, spA o c.2)
def upC (n : Nat) (c : Cmp) : Cmp := (n - 1 - c.2, n - 1 - c.1)
def besC (n : Nat) (c : Cmp) : Cmp := (c.1 + n, c.2 + n)
def backOf (n : Nat) (o : List Nat) : List Nat := (List.range n).map fun k => o.idxOf k
def calledR (n : Nat) (o : List Nat) (r : Row) : Row := (List.range n).map fun k => at0 r (spA (backOf n o) k)
def turnR (r : Row) : Row := r.reverse.map fun x => 0 - x
theorem row_ext {n : Nat} {r s : Row} (hr : r.length = n) (hs : s.length = n) (h : ∀ k, k < n → at0 r k = at0 s k) : r = s := by
  apply List.ext_getElem (by omega)
  intro k h1 h2
  have := h k (by omega)
  unfold at0 at this
  rw [List.getD_eq_getElem?_getD, List.getD_eq_getElem?_getD, List.getElem?_eq_getElem h1, List.getElem?_eq_getElem h2] at this
  exact this
theorem perm_len {n : Nat} {o : List Nat} (hp : o.Perm (List.range n)) : o.length = n := by rw [hp.length_eq, List.length_range]
theorem perm_lt {n : Nat} {o : List Nat} (hp : o.Perm (List.range n)) {k : Nat} (h : k < n) : spA o k < n :=
  List.mem_range.mp (hp.mem_iff.mp (List.mem_of_getElem? (spA_get (sp := o) (k := k) (by rw [perm_len hp]; exact h))))
theorem perm_inj {n : Nat} {o : List Nat} (hp : o.Perm (List.range n)) {j k : Nat} (hj : j < n) (hk : k < n) (e : spA o j = spA o k) : j = k := by
  have nd : o.Nodup := hp.nodup_iff.mpr List.nodup_range
  have z := List.pairwise_iff_getElem.mp nd
  have l := perm_len hp
  rcases Nat.lt_trichotomy j k with h | h | h
  · exact absurd (by rw [spA_eq, spA_eq]; exact e) (z j k (by omega) (by omega) h)
  · exact h
  · exact absurd (by rw [spA_eq, spA_eq]; exact e.symm) (z k j (by omega) (by omega) h)
theorem idx_lt {n : Nat} {o : List Nat} (hp : o.Perm (List.range n)) {k : Nat} (h : k < n) : o.idxOf k < n := by
  have := List.idxOf_lt_length_of_mem (hp.mem_iff.mpr (List.mem_range.mpr h))
  rwa [perm_len hp] at this
theorem spA_idx {n : Nat} {o : List Nat} (hp : o.Perm (List.range n)) {k : Nat} (h : k < n) : spA o (o.idxOf k) = k := by
  have l := idx_lt hp h
  have := spA_eq (sp := o) (k := o.idxOf k) (by rw [perm_len hp]; exact l)
  rw [← this]
  exact List.getElem_idxOf _
theorem spA_back {n : Nat} {o : List Nat} {k : Nat} (h : k < n) : spA (backOf n o) k = o.idxOf k := by
  unfold spA backOf
  rw [List.getD_eq_getElem?_getD, List.getElem?_map, List.getElem?_range h] <;> rfl
theorem back_spA {n : Nat} {o : List Nat} (hp : o.Perm (List.range n)) {k : Nat} (h : k < n) : spA (backOf n o) (spA o k) = k := by
  have l := perm_lt hp h
  rw [spA_back l]
  exact perm_inj hp (idx_lt hp l) h (spA_idx hp l)
theorem back_perm {n : Nat} {o : List Nat} (hp : o.Perm (List.range n)) : (backOf n o).Perm (List.range n) := by
  have e : (List.range n).map (fun k => o.idxOf k) = backOf n o := rfl
  have p := hp.map (fun k => o.idxOf k)
  refine (p.symm).trans ?_
  have : o.map (fun k => o.idxOf k) = List.range n := by
    apply List.ext_getElem
    · rw [List.length_map, perm_len hp, List.length_range]
    · intro k h1 h2
      rw [List.length_range] at h2
      rw [List.getElem_map, List.getElem_range]
      have := back_spA hp h2
      rw [spA_back (perm_lt hp h2)] at this
      rw [spA_eq]
      exact this
  rw [this]
theorem call_ok {n : Nat} {o : List Nat} (hp : o.Perm (List.range n)) {c : Cmp} (ok : CmpOk n c) : CmpOk n (callC o c) :=
  ⟨perm_lt hp ok.1, perm_lt hp ok.2.1, fun e => ok.2.2 (perm_inj hp ok.1 ok.2.1 e)⟩
theorem calls_ok {n : Nat} {o : List Nat} (hp : o.Perm (List.range n)) {cs : List Cmp} (ok : WebOk n cs) : WebOk n (cs.map (callC o)) :=
  ⟨by rw [List.length_map]; exact ok.1, fun d hd => by
    obtain ⟨c, hc, rfl⟩ := List.mem_map.mp hd
    exact call_ok hp (ok.2 c hc)⟩
theorem call_back {n : Nat} {o : List Nat} (hp : o.Perm (List.range n)) {cs : List Cmp} (ok : WebOk n cs) : (cs.map (callC o)).map (callC (backOf n o)) = cs := by
  rw [List.map_map]
  conv => rhs; rw [← List.map_id cs]
  apply List.map_congr_left
  intro c hc
  obtain ⟨h1, h2, _⟩ := ok.2 c hc
  show (spA _ (spA o c.1), spA _ (spA o c.2)) = c
  rw [back_spA hp h1, back_spA hp h2]
theorem goes_called {n : Nat} {o : List Nat} (hp : o.Perm (List.range n)) {cs : List Cmp} : CmpsOk n cs → ∀ {r s : Row}, r.length = n → s.length = n → (∀ k, k < n → at0 s (spA o k) = at0 r k) → ∀ k, k < n → at0 (gone (cs.map (callC o)) s) (spA o k) = at0 (gone cs r) k := by
  induction cs with
  | nil => intro _ r s _ _ h; exact h
  | cons c cs ih =>
    intro ok r s hr hs h
    have okc := ok c (List.mem_cons_self ..)
    refine ih (fun d hd => ok d (List.mem_cons_of_mem _ hd)) (r := goC r c) (s := goC s (callC o c)) (by rw [goC_len, hr]) (by rw [goC_len, hs]) fun k hk => ?_
    rw [goC_at hs (call_ok hp okc), goC_at hr okc]
    show (if spA o c.2 = spA o k then max (at0 s (spA o c.1)) (at0 s (spA o c.2)) else if spA o c.1 = spA o k then min (at0 s (spA o c.1)) (at0 s (spA o c.2)) else at0 s (spA o k)) = _
    rw [h _ okc.1, h _ okc.2.1, h _ hk]
    by_cases z : c.2 = k
    · rw [if_pos z, if_pos (by rw [z])]
    · rw [if_neg z, if_neg fun e => z (perm_inj hp okc.2.1 hk e)]
      by_cases y : c.1 = k
      · rw [if_pos y, if_pos (by rw [y])]
      · rw [if_neg y, if_neg fun e => y (perm_inj hp okc.1 hk e)]
theorem at0_rng {n : Nat} {f : Nat → Int} {k : Nat} (h : k < n) : at0 ((List.range n).map f) k = f k := by
  unfold at0
  rw [List.getD_eq_getElem?_getD, List.getElem?_map, List.getElem?_range h] <;> rfl
theorem called_len {n : Nat} {o : List Nat} {r : Row} : (calledR n o r).length = n := by
  unfold calledR
  rw [List.length_map, List.length_range]
theorem gone_called {n : Nat} {o : List Nat} (hp : o.Perm (List.range n)) {cs : List Cmp} (ok : CmpsOk n cs) {r : Row} (hr : r.length = n) : gone (cs.map (callC o)) (calledR n o r) = calledR n o (gone cs r) := by
  refine row_ext (n := n) (by rw [gone_len, called_len]) called_len fun k hk => ?_
  have hj := idx_lt hp hk
  have g := goes_called hp ok hr (s := calledR n o r) called_len (fun j hj => by
    unfold calledR
    rw [at0_rng (perm_lt hp hj), back_spA hp hj]) _ hj
  rw [spA_idx hp hk] at g
  rw [g]
  unfold calledR
  rw [at0_rng hk, spA_back hk]
theorem up_ok {n : Nat} {c : Cmp} (ok : CmpOk n c) : CmpOk n (upC n c) := by
  obtain ⟨h1, h2, h3⟩ := ok
  refine ⟨?_, ?_, ?_⟩ <;> show _ <;> unfold upC <;> dsimp only <;> omega
theorem ups_ok {n : Nat} {cs : List Cmp} (ok : WebOk n cs) : WebOk n (cs.map (upC n)) :=
  ⟨by rw [List.length_map]; exact ok.1, fun d hd => by
    obtain ⟨c, hc, rfl⟩ := List.mem_map.mp hd
    exact up_ok (ok.2 c hc)⟩
theorem up_up {n : Nat} {cs : List Cmp} (ok : WebOk n cs) : (cs.map (upC n)).map (upC n) = cs := by
  rw [List.map_map]
  conv => rhs; rw [← List.map_id cs]
  apply List.map_congr_left
  intro c hc
  obtain ⟨h1, h2, _⟩ := ok.2 c hc
  show (n - 1 - (n - 1 - c.1), n - 1 - (n - 1 - c.2)) = c
  rw [show n - 1 - (n - 1 - c.1) = c.1 by omega, show n - 1 - (n - 1 - c.2) = c.2 by omega]
theorem goes_up {n : Nat} {cs : List Cmp} : CmpsOk n cs → ∀ {r s : Row}, r.length = n → s.length = n → (∀ k, k < n → at0 s (n - 1 - k) = 0 - at0 r k) → ∀ k, k < n → at0 (gone (cs.map (upC n)) s) (n - 1 - k) = 0 - at0 (gone cs r) k := by
  induction cs with
  | nil => intro _ r s _ _ h; exact h
  | cons c cs ih =>
    intro ok r s hr hs h
    have okc := ok c (List.mem_cons_self ..)
    have h1 := okc.1
    have h2 := okc.2.1
    have h3 := okc.2.2
    refine ih (fun d hd => ok d (List.mem_cons_of_mem _ hd)) (r := goC r c) (s := goC s (upC n c)) (by rw [goC_len, hr]) (by rw [goC_len, hs]) fun k hk => ?_
    rw [goC_at hs (up_ok okc), goC_at hr okc]
    show (if n - 1 - c.1 = n - 1 - k then max (at0 s (n - 1 - c.2)) (at0 s (n - 1 - c.1)) else if n - 1 - c.2 = n - 1 - k then min (at0 s (n - 1 - c.2)) (at0 s (n - 1 - c.1)) else at0 s (n - 1 - k)) = _
    rw [h _ h1, h _ h2, h _ hk]
    by_cases z : c.2 = k
    · rw [if_pos z, if_neg (by omega), if_pos (by rw [z])]
      omega
    · rw [if_neg z]
      by_cases y : c.1 = k
      · rw [if_pos y, if_pos (by rw [y])]
        omega
      · rw [if_neg y, if_neg (by omega), if_neg (by omega)]
theorem turn_len {r : Row} : (turnR r).length = r.length := by
  unfold turnR
  rw [List.length_map, List.length_reverse]
theorem at0_turn {n : Nat} {r : Row} (hr : r.length = n) {k : Nat} (h : k < n) : at0 (turnR r) (n - 1 - k) = 0 - at0 r k := by
  unfold at0 turnR
  rw [List.getD_eq_getElem?_getD, List.getD_eq_getElem?_getD, List.getElem?_map, List.getElem?_reverse (by omega), hr, show n - 1 - (n - 1 - k) = k by omega, List.getElem?_eq_getElem (by omega)] <;> rfl
theorem gone_turned {n : Nat} {cs : List Cmp} (ok : CmpsOk n cs) {r : Row} (hr : r.length = n) : gone (cs.map (upC n)) (turnR r) = turnR (gone cs r) := by
  refine row_ext (n := n) (by rw [gone_len, turn_len, hr]) (by rw [turn_len, gone_len, hr]) fun k hk => ?_
  have g := goes_up ok hr (s := turnR r) (by rw [turn_len, hr]) (fun j hj => at0_turn hr hj) (n - 1 - k) (by omega)
  have e := at0_turn (n := n) (r := gone cs r) (by rw [gone_len, hr]) (k := n - 1 - k) (by omega)
  rw [show n - 1 - (n - 1 - k) = k by omega] at g e
  rw [g, e]
theorem bes_ok {n m : Nat} {c : Cmp} (ok : CmpOk m c) : CmpOk (n + m) (besC n c) := by
  obtain ⟨h1, h2, h3⟩ := ok
  refine ⟨?_, ?_, ?_⟩ <;> show _ <;> unfold besC <;> dsimp only <;> omega
theorem cmp_more {n m : Nat} {c : Cmp} (ok : CmpOk n c) : CmpOk (n + m) c := by
  obtain ⟨h1, h2, h3⟩ := ok
  exact ⟨by omega, by omega, h3⟩
theorem bes_all {n m : Nat} {cs ds : List Cmp} (ok : CmpsOk n cs) (od : CmpsOk m ds) : CmpsOk (n + m) (cs ++ ds.map (besC n)) := fun d hd => by
  rcases List.mem_append.mp hd with h | h
  · exact cmp_more (ok d h)
  · obtain ⟨c, hc, rfl⟩ := List.mem_map.mp h
    exact bes_ok (od c hc)
theorem at0_app1 {a b : Row} {k : Nat} (h : k < a.length) : at0 (a ++ b) k = at0 a k := by
  unfold at0
  rw [List.getD_eq_getElem?_getD, List.getD_eq_getElem?_getD, List.getElem?_append_left h]
theorem at0_app2 {a b : Row} {k : Nat} : at0 (a ++ b) (k + a.length) = at0 b k := by
  unfold at0
  rw [List.getD_eq_getElem?_getD, List.getD_eq_getElem?_getD, List.getElem?_append_right (by omega), show k + a.length - a.length = k by omega]
theorem goC_app1 {n : Nat} {a b : Row} {c : Cmp} (ha : a.length = n) (ok : CmpOk n c) : goC (a ++ b) c = goC a c ++ b := by
  obtain ⟨h1, h2, h3⟩ := ok
  unfold goC
  rw [at0_app1 (by omega), at0_app1 (by omega)]
  split
  · rw [List.set_append_left _ _ (by omega), List.set_append_left _ _ (by rw [List.length_set]; omega)]
  · rfl
theorem goC_app2 {n : Nat} {a b : Row} {c : Cmp} (ha : a.length = n) : goC (a ++ b) (besC n c) = a ++ goC b c := by
  subst ha
  unfold goC besC
  dsimp only
  rw [at0_app2, at0_app2]
  split
  · rw [List.set_append_right _ _ (by omega), List.set_append_right _ _ (by omega), Nat.add_sub_cancel, Nat.add_sub_cancel]
  · rfl
theorem gone_app1 {n : Nat} {cs : List Cmp} : ∀ {a b : Row}, a.length = n → CmpsOk n cs → gone cs (a ++ b) = gone cs a ++ b := by
  induction cs with
  | nil => intro a b _ _; rfl
  | cons c cs ih =>
    intro a b ha ok
    show gone cs (goC (a ++ b) c) = gone cs (goC a c) ++ b
    rw [goC_app1 ha (ok c (List.mem_cons_self ..)), ih (by rw [goC_len, ha]) fun d hd => ok d (List.mem_cons_of_mem _ hd)]
theorem gone_app2 {n : Nat} {ds : List Cmp} : ∀ {a b : Row}, a.length = n → gone (ds.map (besC n)) (a ++ b) = a ++ gone ds b := by
  induction ds with
  | nil => intro a b _; rfl
  | cons c cs ih =>
    intro a b ha
    show gone (cs.map (besC n)) (goC (a ++ b) (besC n c)) = a ++ gone cs (goC b c)
    rw [goC_app2 ha, ih ha]
theorem gone_beside {n : Nat} {cs ds : List Cmp} {r : Row} (ok : CmpsOk n cs) (h : n ≤ r.length) : gone (cs ++ ds.map (besC n)) r = gone cs (r.take n) ++ gone ds (r.drop n) := by
  have e : gone (cs ++ ds.map (besC n)) r = gone (ds.map (besC n)) (gone cs r) := by
    unfold gone
    rw [List.foldl_append]
  rw [e]
  conv => lhs; rw [← List.take_append_drop n r]
  have l : (r.take n).length = n := by rw [List.length_take]; omega
  rw [gone_app1 l ok, gone_app2 (by rw [gone_len, l])]
section
variable {K : PySem.W.Frag} {σ : L2.St} {H : Hp} {te : TE} {j1 j2 : Nat} {a : Addr} {Q : VK}
def cmU (cs : List Cmp) (i : Nat) : V × V := match cs[i]? with
  | some c => (.int (c.1 : Int), .int (c.2 : Int))
  | none => (.non, .non)
/-- [(.., ..) for a, b in comparers] -/
theorem lc_cmps {k : Nat} {vs : List Nat} {ps : List Addr} {cs : List Cmp} (f : Cmp → Cmp) (hk : σ[k]? = some (some (.ref a))) (hx : SqL K H a (Rfs ps)) (hp : Prs K H ps cs) (few : cs.length ≤ 1000)
    (hvs : ∀ v w, wipe (((wipe σ vs).set j1 v).set j2 w) vs = wipe σ vs)
    (turn : ∀ (c : Cmp) (H' : Hp) (Q' : VK), c ∈ cs → Same H H' → (∀ T, H' T = none → Q' (.ref T) (upd H' T (.tup (V2 (f c))))) → te (((wipe σ vs).set j1 (some (.int (c.1 : Int)))).set j2 (some (.int (c.2 : Int)))) H' Q')
    (done : ∀ D H' qs, Same H H' → H D = none → H' D = some (.lst (Rfs qs)) → Prs K H' qs (cs.map f) → Q (.ref D) H') :
    tLc (iList K (tVar k)) (gTup K 2 (gCons (gName j1) (gCons (gName j2) gNil))) tYes te vs σ H Q := by
  have lp := hp.length
  refine lc_pairs (a := a) (ps := ps) (cmU cs) hk hx hvs (fun D i acc H' => Same H H' ∧ ∃ qs, acc = Rfs qs ∧ Prs K H' qs ((cs.take i).map f)) (fun D nD => ⟨same_new nD, [], rfl, .nil⟩) (fun D i acc H' nD g => g.1.seq hx) ?_ ?_ ?_
  · intro D i p acc H' nD gp hD g
    obtain ⟨c, gc, hc⟩ := hp.getL gp
    unfold cmU
    rw [gc]
    exact Same.sqt g.1 hc
  · intro D i acc H' nD hi hD g
    obtain ⟨s, qs, rfl, hq⟩ := g
    obtain ⟨c, gc⟩ := get_of (xs := cs) (i := i) (by omega)
    have lq := hq.length
    rw [List.length_map, List.length_take] at lq
    unfold cmU
    rw [gc]
    refine .yes (turn c H' _ (List.mem_of_getElem? gc) s fun T nT => ?_)
    have sT := same_new (o := .tup (V2 (f c))) nT
    refine GoOn.mk (sT _ _ hD) (by rw [rfs_len]; omega) ⟨same_mut (s.trans sT) nD, qs ++ [T], ?_, ?_⟩
    · unfold Rfs
      rw [List.map_append] <;> rfl
    · rw [List.take_add_one, gc, List.map_append]
      exact prs_upd (sT _ _ hD) ((Same.prs sT hq).snoc (.inl (.inl upd_same)))
  · intro D acc H' nD hD g
    obtain ⟨s, qs, rfl, hq⟩ := g
    rw [lp, List.take_length] at hq
    exact done D H' qs s nD hD hq
/-- [.. for k in range(n)], numbers -/
theorem lc_row {ta : TA} {vs : List Nat} {n : Nat} (f : Nat → Int) (ht : ∀ Q, Q [V.int (n : Int)] H → ta σ H Q) (hn : n ≤ 1000) (hvs : ∀ v, wipe ((wipe σ vs).set j1 v) vs = wipe σ vs)
    (turn : ∀ (i : Nat) (H' : Hp) (Q' : VK), i < n → Same H H' → Q' (.int (f i)) H' → te ((wipe σ vs).set j1 (some (.int (i : Int)))) H' Q')
    (done : ∀ D H', Same H H' → H D = none → H' D = some (.lst (vis ((List.range n).map f))) → Q (.ref D) H') :
    tLc (iRng1 ta) (gName j1) tYes te vs σ H Q := by
  refine lc_rng ht (by omega) hvs (fun D i acc H' => Same H H' ∧ acc = vis ((List.range i).map f)) (fun D nD => ⟨same_new nD, rfl⟩) ?_ ?_
  · intro D i acc H' nD hi hD g
    obtain ⟨s, rfl⟩ := g
    refine .yes (turn i H' _ hi s ?_)
    refine GoOn.mk hD (by rw [ints_len, List.length_map, List.length_range]; omega) ⟨same_mut s nD, ?_⟩
    unfold vis
    rw [List.range_succ, List.map_append, List.map_append] <;> rfl
  · intro D acc H' nD hD g
    obtain ⟨s, rfl⟩ := g
    exact done D H' s nD hD
/-- [.. for x in row], numbers -/
theorem lck_row {vs : List Nat} {r : Row} (f : Int → Int) (hx : SqL K H a (vis r)) (few : r.length ≤ 1000) (hvs : ∀ v, wipe ((wipe σ vs).set j1 v) vs = wipe σ vs)
    (turn : ∀ (z : Int) (H' : Hp) (Q' : VK), Same H H' → Q' (.int (f z)) H' → te ((wipe σ vs).set j1 (some (.int z))) H' Q')
    (done : ∀ D H', Same H H' → H D = none → H' D = some (.lst (vis (r.map f))) → Q (.ref D) H') :
    LcK (gName j1) tYes te vs σ Q (Itl K a) H := by
  refine lck_list (xs := vis r) hx hvs (fun D i acc H' => Same H H' ∧ acc = vis ((r.take i).map f)) (fun D nD => ⟨same_new nD, rfl⟩) (fun D i acc H' nD g => g.1.seq hx) ?_ ?_
  · intro D i x acc H' nD hx hi hD g
    obtain ⟨s, rfl⟩ := g
    obtain ⟨z, rfl, hz⟩ := ints_get hx
    refine .yes (turn z H' _ s ?_)
    refine GoOn.mk hD (by rw [ints_len, List.length_map, List.length_take]; omega) ⟨same_mut s nD, ?_⟩
    have e : r[i]? = some z := hz
    unfold vis
    rw [List.take_add_one, e, List.map_append, List.map_append] <;> rfl
  · intro D acc H' nD hD g
    obtain ⟨s, rfl⟩ := g
    rw [show (vis r).length = r.length from ints_len _, List.take_length] at hD
    exact done D H' s nD hD
end
section
variable {K : PySem.W.Frag}
def natI (ts : List Nat) : Row := ts.map fun (t : Nat) => (t : Int)
theorem natL_vis (ts : List Nat) : natL ts = vis (natI ts) := by
  unfold natL natI vis
  rw [List.map_map] <;> rfl
theorem natL_sp {sp : List Nat} {k : Nat} (h : k < sp.length) : (natL sp)[k]? = some (.int (spA sp k : Int)) := by
  unfold natL
  rw [List.getElem?_map, spA_get h] <;> rfl
theorem rgV_nat (m : Nat) : rgV 0 (m : Int) = natL (List.range m) := by
  unfold rgV natL
  rw [show ((m : Int) - 0).toNat = m by omega]
  apply List.map_congr_left
  intro k _
  rw [Int.zero_add]
theorem eq_nats {H : Hp} {a b : Addr} {r s : List Nat} {Q : VK} (h1 : SqL K H a (natL r)) (h2 : SqL K H b (natL s)) (q : Q (.bl (decide (natI r = natI s))) H) : rEqD K (.ref a) (.ref b) H Q := by
  rw [natL_vis] at h1 h2
  exact ⟨dI (natI r), dI (natI s), dp_row h1, dp_row h2, enc_row.shaped (by decide) _, enc_row.shaped (by decide) _, by rw [enc_row.eq]; exact q⟩
theorem ne_rows {H : Hp} {a b : Addr} {r s : Row} {Q : VK} (h1 : SqL K H a (vis r)) (h2 : SqL K H b (vis s)) (q : Q (.bl (!decide (r = s))) H) : rNeD K (.ref a) (.ref b) H Q :=
  ⟨dI r, dI s, dp_row h1, dp_row h2, enc_row.shaped (by decide) _, enc_row.shaped (by decide) _, by rw [enc_row.eq]; exact q⟩
theorem ne_webs {H : Hp} {a b : Addr} {ps qs : List Addr} {cs ds : List Cmp} {Q : VK} (h1 : SqL K H a (Rfs ps)) (h2 : Prs K H ps cs) (h3 : SqL K H b (Rfs qs)) (h4 : Prs K H qs ds) (q : Q (.bl (!decide (cs = ds))) H) : rNeD K (.ref a) (.ref b) H Q :=
  ⟨dCs cs, dCs ds, dp_web h1 h2, dp_web h3 h4, enc_cmps.shaped (by decide) _, enc_cmps.shaped (by decide) _, by rw [enc_cmps.eq]; exact q⟩
theorem eqv_tup2 {α β : Type} [DecidableEq α] [DecidableEq β] {ea : α → PyData} {eb : β → PyData} {k l : Nat} (h1 : Enc ea k) (h2 : Enc eb l) (x : α) (y : β) : PyData.eqv (.tuple [ea x, eb y]) (.tuple [ea x, eb y]) = true := by
  show (PyData.eqv (ea x) (ea x) && (PyData.eqv (eb y) (eb y) && true)) = true
  rw [h1.eq, h2.eq, decide_eq_true rfl, decide_eq_true rfl] <;> rfl
theorem shaped_tup2 {α β : Type} [DecidableEq α] [DecidableEq β] {ea : α → PyData} {eb : β → PyData} {k l : Nat} (h1 : Enc ea k) (h2 : Enc eb l) (hk : k ≤ 63) (hl : l ≤ 63) (x : α) (y : β) : SeqAt.shaped (.tuple [ea x, eb y]) = true := by
  have e1 := h1.dep x
  have e2 := h2.dep y
  have d : PyData.depth (.tuple [ea x, eb y]) ≤ 64 := by
    show max (ea x).depth (max (eb y).depth 0) + 1 ≤ 64
    omega
  have l1 : PyData.canLay0 (.tuple [ea x, eb y]) = true := by
    show ((ea x).canLay0 && ((eb y).canLay0 && true)) = true
    rw [h1.lay, h2.lay] <;> rfl
  unfold SeqAt.shaped
  rw [l1, decide_eq_true d] <;> rfl
theorem sorted_spots {n : Nat} {sp : List Nat} {ns : List Int} (hp : sp.Perm (List.range n)) (h1 : ns.Perm (natI sp)) (h2 : ns.Pairwise (· ≤ ·)) : ns = natI (List.range n) := by
  refine List.Perm.eq_of_pairwise (fun a b _ _ k1 k2 => Int.le_antisymm k1 k2) h2 ?_ (h1.trans (hp.map _))
  unfold natI
  refine List.Pairwise.map _ ?_ List.pairwise_lt_range
  intro a b h
  omega
theorem row_get {r : Row} {k : Nat} (h : k < r.length) : (vis r)[k]? = some (.int (at0 r k)) := by
  unfold vis
  rw [List.getElem?_map, at0_get h] <;> rfl
end
end Sw

set_option Elab.async false
set_option linter.all false
set_option maxRecDepth 100000
set_option maxHeartbeats 4000000
namespace Sw
open PySem PySem.Spec PyProof.Rows L2
/-! ## Made webs: held against all rows of noughts and ones by computing -/
def goB (w : Nat) (c : Cmp) : Nat := if (w.testBit c.1 && !w.testBit c.2) = true then (w ^^^ (1 <<< c.1)) ^^^ (1 <<< c.2) else w
def goneB (cs : List Cmp) (w : Nat) : Nat := cs.foldl goB w
def srtB (n w : Nat) : Bool := (List.range (n - 1)).all fun k => !w.testBit k || w.testBit (k + 1)
theorem at0_bare {n w k : Nat} (h : k < n) : at0 (bareR n w) k = if w.testBit k = true then 1 else 0 := by
  unfold bareR
  rw [at0_rng h, Nat.testBit_eq_decide_div_mod_eq]
  have : w / 2 ^ k % 2 = 0 ∨ w / 2 ^ k % 2 = 1 := by omega
  rcases this with e | e <;> rw [e] <;> rfl
theorem bare_ext {n w w' : Nat} (h : ∀ k, k < n → w.testBit k = w'.testBit k) : bareR n w = bareR n w' :=
  row_ext (n := n) (bareR_len ..) (bareR_len ..) fun k hk => by rw [at0_bare hk, at0_bare hk, h k hk]
theorem bit_one {j k : Nat} : (1 <<< j).testBit k = decide (j = k) := by
  rw [Nat.one_shiftLeft, Nat.testBit_two_pow]
theorem goC_bare {n w : Nat} {c : Cmp} (ok : CmpOk n c) : goC (bareR n w) c = bareR n (goB w c) := by
  obtain ⟨h1, h2, h3⟩ := id ok
  refine row_ext (n := n) (by rw [goC_len, bareR_len]) (bareR_len ..) fun k hk => ?_
  rw [goC_at (bareR_len ..) ok, at0_bare h1, at0_bare h2, at0_bare hk, at0_bare hk]
  unfold goB
  by_cases z : (w.testBit c.1 && !w.testBit c.2) = true
  · rw [if_pos z]
    rw [Bool.and_eq_true, Bool.not_eq_true'] at z
    obtain ⟨z1, z2⟩ := z
    rw [Nat.testBit_xor, Nat.testBit_xor, bit_one, bit_one, z1, z2]
    by_cases e2 : c.2 = k
    · subst e2
      rw [if_pos rfl, z2, decide_eq_false h3, decide_eq_true rfl] <;> decide
    · rw [if_neg e2, decide_eq_false e2]
      by_cases e1 : c.1 = k
      · subst e1
        rw [if_pos rfl, z1, decide_eq_true rfl] <;> decide
      · rw [if_neg e1, decide_eq_false e1, Bool.xor_false, Bool.xor_false]
  · rw [if_neg z]
    by_cases e2 : c.2 = k
    · subst e2
      rw [if_pos rfl]
      cases b1 : w.testBit c.1 <;> cases b2 : w.testBit c.2 <;> simp_all <;> decide
    · rw [if_neg e2]
      by_cases e1 : c.1 = k
      · subst e1
        rw [if_pos rfl]
        cases b1 : w.testBit c.1 <;> cases b2 : w.testBit c.2 <;> simp_all <;> decide
      · rw [if_neg e1]
theorem gone_bare {n : Nat} {cs : List Cmp} : CmpsOk n cs → ∀ w, gone cs (bareR n w) = bareR n (goneB cs w) := by
  induction cs with
  | nil => intro _ w; rfl
  | cons c cs ih =>
    intro ok w
    show gone cs (goC (bareR n w) c) = bareR n (goneB cs (goB w c))
    rw [goC_bare (ok c List.mem_cons_self), ih fun d hd => ok d (List.mem_cons_of_mem _ hd)]
theorem srt_step {r : Row} (h : ∀ k, k + 1 < r.length → at0 r k ≤ at0 r (k + 1)) : Srt r := by
  rw [Srt, List.pairwise_iff_getElem]
  intro i j hi hj hij
  have key : ∀ d, i + d < r.length → at0 r i ≤ at0 r (i + d) := fun d => by
    induction d with
    | zero => intro _; exact Int.le_refl _
    | succ d ih =>
      intro hd
      exact Int.le_trans (ih (by omega)) (h (i + d) (by omega))
  have := key (j - i) (by omega)
  rw [show i + (j - i) = j by omega] at this
  have e1 := at0_get hi
  have e2 := at0_get hj
  rw [List.getElem?_eq_getElem hi] at e1
  rw [List.getElem?_eq_getElem hj] at e2
  rw [Option.some.inj e1, Option.some.inj e2]
  exact this
theorem srt_bare {n w : Nat} (h : srtB n w = true) : Srt (bareR n w) := by
  refine srt_step fun k hk => ?_
  rw [bareR_len] at hk
  unfold srtB at h
  rw [List.all_eq_true] at h
  have := h k (List.mem_range.mpr (by omega))
  rw [at0_bare (by omega), at0_bare hk]
  cases b1 : w.testBit k <;> cases b2 : w.testBit (k + 1) <;> simp_all
/-- a comparer of lines that are there, straight -/
def strB (n : Nat) (c : Cmp) : Bool := decide (c.1 < c.2) && decide (c.2 < n)
theorem strB_ok {n : Nat} {cs : List Cmp} (h : cs.all (strB n) = true) : (∀ c ∈ cs, c.1 < c.2 ∧ c.2 < n) ∧ CmpsOk n cs := by
  rw [List.all_eq_true] at h
  have g : ∀ c ∈ cs, c.1 < c.2 ∧ c.2 < n := fun c hc => by
    have := h c hc
    unfold strB at this
    rw [Bool.and_eq_true, decide_eq_true_eq, decide_eq_true_eq] at this
    exact this
  exact ⟨g, fun c hc => by
    obtain ⟨h1, h2⟩ := g c hc
    exact ⟨by omega, h2, by omega⟩⟩
/-- a web that sorts -/
structure SortOk (n : Nat) (cs : List Cmp) : Prop where
  few : cs.length ≤ 60
  str : ∀ c ∈ cs, c.1 < c.2 ∧ c.2 < n
  ok : CmpsOk n cs
  srt : ∀ r : Row, r.length = n → Srt (gone cs r)
def sortChk (n : Nat) (cs : List Cmp) : Bool := decide (cs.length ≤ 60) && (cs.all (strB n) && (List.range (2 ^ n)).all fun w => srtB n (goneB cs w))
theorem sort_ok {n : Nat} {cs : List Cmp} (h : sortChk n cs = true) : SortOk n cs := by
  unfold sortChk at h
  rw [Bool.and_eq_true, Bool.and_eq_true, decide_eq_true_eq] at h
  obtain ⟨h1, h2, h3⟩ := h
  obtain ⟨g, ok⟩ := strB_ok h2
  refine ⟨h1, g, ok, fun r hr => zero_one ok (fun b hb => ?_) hr⟩
  obtain ⟨w, hw, rfl⟩ := List.mem_map.mp hb
  rw [gone_bare ok]
  exact srt_bare (List.all_eq_true.mp h3 w hw)
/-- a part in order, of noughts and ones -/
def half (m i : Nat) : Row := List.replicate (m - i) 0 ++ List.replicate i 1
theorem half_len {m i : Nat} (h : i ≤ m) : (half m i).length = m := by
  unfold half
  rw [List.length_append, List.length_replicate, List.length_replicate]
  omega
theorem half_of : ∀ (r : Row), Bits r → Srt r → ∃ i, i ≤ r.length ∧ r = half r.length i
  | [], _, _ => ⟨0, Nat.le_refl _, rfl⟩
  | x :: r, hb, hs => by
    rw [Srt, List.pairwise_cons] at hs
    obtain ⟨i, hi, e⟩ := half_of r (fun y hy => hb y (List.mem_cons_of_mem _ hy)) hs.2
    rcases hb x List.mem_cons_self with hx | hx
    · refine ⟨i, by rw [List.length_cons]; omega, ?_⟩
      unfold half at e ⊢
      rw [List.length_cons, show r.length + 1 - i = r.length - i + 1 by omega, List.replicate_succ, List.cons_append, ← e, hx]
    · have all : ∀ y ∈ r, y = 1 := fun y hy => by
        have h1 := hs.1 y hy
        rcases hb y (List.mem_cons_of_mem _ hy) with h | h
        · omega
        · exact h
      refine ⟨r.length + 1, Nat.le_refl _, ?_⟩
      unfold half
      rw [List.length_cons, Nat.sub_self, List.replicate_succ, hx]
      show 1 :: r = [] ++ 1 :: List.replicate r.length 1
      rw [List.nil_append]
      congr 1
      exact List.eq_replicate_iff.mpr ⟨rfl, all⟩
/-- a web that merges -/
structure MergeOk (m k : Nat) (cs : List Cmp) : Prop where
  few : cs.length ≤ 60
  str : ∀ c ∈ cs, c.1 < c.2 ∧ c.2 < m + k
  ok : CmpsOk (m + k) cs
  mer : ∀ a b : Row, a.length = m → b.length = k → Srt a → Srt b → Srt (gone cs (a ++ b))
theorem zero_one_row {n : Nat} {cs : List Cmp} {r : Row} (ok : CmpsOk n cs) (hr : r.length = n) (h : ∀ t, Srt (gone cs (r.map (thr t)))) : Srt (gone cs r) := by
  rw [Srt, List.pairwise_iff_getElem]
  intro i j hi hj hij
  by_cases g : (gone cs r)[i] ≤ (gone cs r)[j]
  · exact g
  · exfalso
    have hb := h (gone cs r)[i]
    rw [gone_map (thr_mono _) cs r ok hr, Srt, List.pairwise_iff_getElem] at hb
    have := hb i j (by rw [List.length_map]; exact hi) (by rw [List.length_map]; exact hj) hij
    rw [List.getElem_map, List.getElem_map] at this
    unfold thr at this
    rw [if_pos (Int.le_refl _), if_neg (by omega)] at this
    omega
theorem half_thr {a : Row} (t : Int) (hs : Srt a) : ∃ i, i ≤ a.length ∧ a.map (thr t) = half a.length i := by
  have hb : Bits (a.map (thr t)) := fun x hx => by
    obtain ⟨y, _, rfl⟩ := List.mem_map.mp hx
    exact thr_bit t y
  have hs2 : Srt (a.map (thr t)) := List.Pairwise.map _ (fun x y h => by
    unfold thr
    split <;> split <;> omega) hs
  obtain ⟨i, hi, e⟩ := half_of _ hb hs2
  rw [List.length_map] at hi e
  exact ⟨i, hi, e⟩
/-- both halves as a number -/
def halfN (m k i j : Nat) : Nat := ((2 ^ i - 1) <<< (m - i)) + ((2 ^ j - 1) <<< (m + k - j))
def mergeChk (m k : Nat) (cs : List Cmp) : Bool := decide (cs.length ≤ 60) && (cs.all (strB (m + k)) &&
  (List.range (m + 1)).all fun i => (List.range (k + 1)).all fun j => decide (half m i ++ half k j = bareR (m + k) (halfN m k i j)) && srtB (m + k) (goneB cs (halfN m k i j)))
theorem merge_ok {m k : Nat} {cs : List Cmp} (h : mergeChk m k cs = true) : MergeOk m k cs := by
  unfold mergeChk at h
  rw [Bool.and_eq_true, Bool.and_eq_true, decide_eq_true_eq] at h
  obtain ⟨h1, h2, h3⟩ := h
  obtain ⟨g, ok⟩ := strB_ok h2
  refine ⟨h1, g, ok, fun a b ha hb sa sb => zero_one_row ok (by rw [List.length_append, ha, hb]) fun t => ?_⟩
  obtain ⟨i, hi, e1⟩ := half_thr t sa
  obtain ⟨j, hj, e2⟩ := half_thr t sb
  rw [List.map_append, e1, e2, ha, hb]
  rw [ha] at hi
  rw [hb] at hj
  rw [List.all_eq_true] at h3
  have h4 := h3 i (List.mem_range.mpr (by omega))
  rw [List.all_eq_true] at h4
  have h5 := h4 j (List.mem_range.mpr (by omega))
  rw [Bool.and_eq_true, decide_eq_true_eq] at h5
  rw [h5.1, gone_bare ok]
  exact srt_bare h5.2
theorem goC_prm {n : Nat} {r : Row} {c : Cmp} (hr : r.length = n) (ok : CmpOk n c) : (goC r c).Perm r := by
  obtain ⟨h1, h2, h3⟩ := ok
  unfold goC
  split
  · have p := List.set_set_perm (as := r) (i := c.1) (j := c.2) (by omega) (by omega)
    have e1 := at0_get (r := r) (k := c.1) (by omega)
    have e2 := at0_get (r := r) (k := c.2) (by omega)
    rw [List.getElem?_eq_getElem (by omega)] at e1 e2
    rw [← Option.some.inj e1, ← Option.some.inj e2]
    exact p
  · exact .refl _
theorem gone_prm {n : Nat} {cs : List Cmp} : CmpsOk n cs → ∀ {r : Row}, r.length = n → (gone cs r).Perm r := by
  induction cs with
  | nil => intro _ r _; exact .refl _
  | cons c cs ih =>
    intro ok r hr
    show (gone cs (goC r c)).Perm r
    exact (ih (fun d hd => ok d (List.mem_cons_of_mem _ hd)) (by rw [goC_len, hr])).trans (goC_prm hr (ok c List.mem_cons_self))
theorem srt_uniq {r s : Row} (hp : r.Perm s) (hr : Srt r) (hs : Srt s) : r = s :=
  List.Perm.eq_of_pairwise (fun a b _ _ k1 k2 => Int.le_antisymm k1 k2) hr hs hp
end Sw

set_option Elab.async false
set_option linter.all false
set_option maxRecDepth 100000
set_option maxHeartbeats 4000000
namespace Sw
open PySem PySem.Spec PyProof.Rows L2
/-! ## x[k::2], k nought or one -/
/-- every second one, the first one ahead -/
def evs {α : Type} : List α → List α
  | [] => []
  | [x] => [x]
  | x :: _ :: r => x :: evs r
theorem evs_pick {α : Type} : ∀ (ys : List α), (List.range ((ys.length + 1) / 2)).filterMap (fun k => ys[2 * k]?) = evs ys
  | [] => by
    have e : (([] : List α).length + 1) / 2 = 0 := by
      rw [List.length_nil]
    rw [e]
    rfl
  | [x] => by
    have e : ([x].length + 1) / 2 = 1 := by
      rw [List.length_singleton]
    rw [e]
    rfl
  | x :: y :: r => by
    have ih := evs_pick r
    have e : ((x :: y :: r).length + 1) / 2 = (r.length + 1) / 2 + 1 := by
      rw [List.length_cons, List.length_cons]
      omega
    rw [e, List.range_succ_eq_map, List.filterMap_cons]
    show (x :: List.filterMap (fun k => (x :: y :: r)[2 * k]?) ((List.range ((r.length + 1) / 2)).map Nat.succ)) = x :: evs r
    rw [List.filterMap_map, ← ih]
    congr 1
theorem evs_len {α : Type} : ∀ (ys : List α), (evs ys).length = (ys.length + 1) / 2
  | [] => by
    show 0 = _
    rw [List.length_nil]
  | [x] => by
    show 1 = _
    rw [List.length_singleton]
  | x :: y :: r => by
    show (evs r).length + 1 = _
    rw [evs_len r, List.length_cons, List.length_cons]
    omega
theorem evs_map {α β : Type} (f : α → β) : ∀ (ys : List α), evs (ys.map f) = (evs ys).map f
  | [] => rfl
  | [x] => rfl
  | x :: y :: r => by
    show f x :: evs (r.map f) = f x :: (evs r).map f
    rw [evs_map f r]
theorem evs_paired {α β : Type} {F : α → β → Prop} : ∀ {xs : List α} {ys : List β}, PySem.Paired F xs ys → PySem.Paired F (evs xs) (evs ys)
  | [], _, h => by cases h; exact .nil
  | [x], _, h => by
    cases h with
    | cons h t => cases t; exact .cons h .nil
  | x :: y :: r, _, h => by
    cases h with
    | cons h t =>
      cases t with
      | cons h2 t2 => exact .cons h (evs_paired t2)
theorem pick_evs (items : Array Value) {lo : Option Int} {d : Nat} (hd : (lo = none ∧ d = 0) ∨ (lo = some (d : Int) ∧ d ≤ 1)) : slicePick items lo none (some 2) = (evs (items.toList.drop d)).toArray := by
  have e : sliceRange (sliceBounds lo none (some 2) items.size).1 (sliceBounds lo none (some 2) items.size).2.1 (sliceBounds lo none (some 2) items.size).2.2 = (List.range (((items.toList.drop d).length + 1) / 2)).map fun k => d + 2 * k := by
    have hl : (items.toList.drop d).length = items.size - d := by rw [List.length_drop, Array.length_toList]
    have b : sliceBounds lo none (some 2) items.size = (((min d items.size : Nat) : Int), (items.size : Int), 2) := by
      rcases hd with ⟨rfl, rfl⟩ | ⟨rfl, h⟩
      · unfold sliceBounds
        simp
      · unfold sliceBounds
        simp
        omega
    rw [b, hl]
    show sliceRange ((min d items.size : Nat) : Int) (items.size : Int) 2 = _
    unfold sliceRange
    by_cases h : d < items.size
    · have m : min d items.size = d := by omega
      rw [m, if_pos (by decide), if_pos (by omega)]
      have c : (((items.size : Int) - (d : Int) + 2 - 1) / 2).toNat = (items.size - d + 1) / 2 := by omega
      show (List.range (((items.size : Int) - (d : Int) + 2 - 1) / 2).toNat).map _ = _
      rw [c]
      refine List.map_congr_left fun k _ => ?_
      omega
    · have m : min d items.size = items.size := by omega
      rw [m, if_pos (by decide), if_neg (by omega)]
      have c : (items.size - d + 1) / 2 = 0 := by omega
      rw [c]
      rfl
  unfold slicePick
  rw [e, List.filterMap_map, ← evs_pick]
  congr 2
  funext k
  show items[d + 2 * k]? = (items.toList.drop d)[2 * k]?
  rw [List.getElem?_drop, Array.getElem?_toList]
def tStepF (K : PySem.W.Frag) (te : TE) (tl : TO) (ts : TE) : TE := fun σ H Q => te σ H fun x H1 => tl σ H1 fun l H2 => tPart ts σ H2 fun o H4 => o = some 2 ∧ ∃ (a : Addr) (xs : List V) (d : Nat), x = .ref a ∧ SqL K H4 a xs ∧ ((l = none ∧ d = 0) ∨ (l = some (d : Int) ∧ d ≤ 1)) ∧ ∀ p, H4 p = none → Q (.ref p) (upd H4 p (.lst (evs (xs.drop d))))
section
variable {X : Cx}
theorem pe_stepF {e es : Expr} {elo : Option Expr} {te ts : TE} {tl : TO} {p3 pos : Pos} (he : PE X e te) (hlo : PO X elo tl) (hs : PE X es ts) (hl : ∀ o i, subscripted (.Slice elo none (some es) p3) false o i = operate [o, i] (getItem o i) := by intro _ _; with_unfolding_all rfl) :
    PE X (.Subscript e (.Slice elo none (some es) p3) pos) (tStepF X.K te tl ts) := by
  refine ⟨fun pins s σ H Q I h => Subscript_ (thn (he.run pins s σ H _ I h) fun v s1 hv => ?_)⟩
  obtain ⟨x, H1, I1, r1, q1⟩ := hv
  have pst : PO X (some es) (tPart ts) := po_some hs
  refine wpAny_Slice (thn (hlo.run pins s1 σ H1 _ I1 q1) fun vl s2 hl2 => ?_)
  obtain ⟨l, H2, I2, pl, q2⟩ := hl2
  refine thn (po_none.run pins s2 σ H2 (fun o H3 => o = none ∧ H3 = H2) I2 ⟨rfl, rfl⟩) fun vu s3 hu2 => ?_
  obtain ⟨u, H3, I3, pu, rfl, rfl⟩ := hu2
  refine thn (pst.run pins s3 σ H3 _ I3 q2) fun vs s4 hs4 => ?_
  obtain ⟨o, H4, I4, ps, rfl, a, xs, d, rfl, hx, hk, q⟩ := hs4
  cases r1
  have I5 : Inv X pins σ H4 { s4 with heap := s4.heap.push { cls := .type "slice", data := .fields #[vl, vu, vs] } } := I4.kept (t' := s4.toks) fun b ob z => Heap.get?_push_of_some _ z
  obtain ⟨its, r, ht, hz⟩ := I5.list hx
  have len := r.length
  show wpAny (model X.prog X.w) X.A (subscriptTail e (.Slice elo none (some es) p3) (.ref a) (.ref s4.heap.objs.size)) (EP X pins σ Q) X.xe { s4 with heap := s4.heap.push { cls := .type "slice", data := .fields #[vl, vu, vs] } }
  refine tail_any (ops := [.ref a, .ref s4.heap.objs.size]) ht.isList.typeIs (PySem.slot_list_getitem.lookup) ?_ (hl _ _)
  refine wpAny_getItem_list_slice ht.isList (Heap.IsSliceOf.new _ vl vu vs) pl pu ps (by decide) ?_ (by rw [List.size_toArray]; omega)
  rw [pick_evs _ hk]
  refine ⟨.ref _, _, I5.laid (t' := s4.toks) (o := .lst (evs (xs.drop d))) (fun b ob z => Heap.get?_push_of_some _ z) (Nat.le_refl _) ?_, rfl, q _ (I5.hok.fresh (Nat.le_refl _))⟩
  refine ⟨?_, evs (its.drop d), 0, evs_paired (r.drop d), Heap.get?_push_size _ rfl⟩
  rw [evs_len, List.length_drop]
  omega
end
/-! ## A def that calls itself: no promise to begin with -/
theorem Here.none {P : Program} {w : World} {K : PySem.W.Frag} {mg : Str → Option Value} {base : Heap} {x : Str} {st : Stmt} {ps : List Str} {k : Nat} (F : Here K mg x st)
    (bd : ∀ (kV doc pm : Value) (an : Option Addr) (cdv ct : Value) (us : List Value), us.length = ps.length →
      bindArgs (PySem.W.fnOf x x (defArgs st) (defBody st) (defScope st) .none kV doc pm an cdv ct) ⟨us, []⟩ = pure (ps.zip us)) :
    Cal P w K mg base CX0 k x ps (fun _ _ _ _ => False) := by
  obtain ⟨f, fd, D, g⟩ := F.ex
  refine ⟨f, fd, ⟨fun _ _ _ _ h => h.elim, fun _ _ _ _ _ _ _ _ _ _ _ _ _ h => h.elim⟩, g, D.kp, D.bindsN bd, fun s us hl => D.bindsA bd s us hl, ?_⟩
  obtain ⟨oc, od, _, _, _, _, _, _, _, osl, _, lk, _⟩ := D.ex
  exact ⟨oc, od, osl, lk⟩
end Sw

set_option Elab.async false
set_option linter.all false
set_option maxRecDepth 100000
namespace Sw
/-! ## The made webs of the landed program -/
/-- neighbours, from the second line on -/
def ups (r : List Nat) : List Cmp := (List.range ((r.length - 1) / 2)).map fun i => (r.getD (1 + 2 * i) 0, r.getD (1 + 2 * i + 1) 0)
def mergeF : Nat → List Nat → List Nat → List Cmp
  | 0, _, _ => []
  | f + 1, a, b => if a = [] ∨ b = [] then [] else if a.length = 1 ∧ b.length = 1 then [(a.headD 0, b.headD 0)] else
      (mergeF f (evs a) (evs b) ++ mergeF f (evs (a.drop 1)) (evs (b.drop 1))) ++ ups (a ++ b)
def sortF : Nat → List Nat → List Cmp
  | 0, _ => []
  | f + 1, r => if r.length < 2 then [] else (sortF f (r.take (r.length / 2)) ++ sortF f (r.drop (r.length / 2))) ++ mergeF 5 (r.take (r.length / 2)) (r.drop (r.length / 2))
def mergeW (m k : Nat) : List Cmp := mergeF 5 (List.range m) ((List.range k).map (m + ·))
def sortW (n : Nat) : List Cmp := sortF 4 (List.range n)
theorem allM : ((List.range 11).all fun m => (List.range 11).all fun k => (decide (m + k = 0) || decide (m + k > 10)) || mergeChk m k (mergeW m k)) = true := by decide +kernel
theorem allS : ((List.range 10).all fun n => sortChk (n + 1) (sortW (n + 1))) = true := by decide +kernel
theorem merge_all {m k : Nat} (h1 : 1 ≤ m + k) (h2 : m + k ≤ 10) : MergeOk m k (mergeW m k) := by
  have h := List.all_eq_true.mp (List.all_eq_true.mp allM m (List.mem_range.mpr (by omega))) k (List.mem_range.mpr (by omega))
  rw [decide_eq_false (by omega), decide_eq_false (by omega)] at h
  exact merge_ok h
theorem sort_all {n : Nat} (h1 : 1 ≤ n) (h2 : n ≤ 10) : SortOk n (sortW n) := by
  have h := List.all_eq_true.mp allS (n - 1) (List.mem_range.mpr (by omega))
  rw [show n - 1 + 1 = n by omega] at h
  exact sort_ok h
/-! ### how many -/
theorem ups_len (r : List Nat) : (ups r).length = (r.length - 1) / 2 := by
  unfold ups
  rw [List.length_map, List.length_range]
theorem mergeF_len : ∀ (f : Nat) (a b : List Nat), (mergeF f a b).length ≤ f * (a.length + b.length)
  | 0, _, _ => by
    show 0 ≤ _
    omega
  | f + 1, a, b => by
    have h1 := mergeF_len f (evs a) (evs b)
    have h2 := mergeF_len f (evs (a.drop 1)) (evs (b.drop 1))
    have e : (f + 1) * (a.length + b.length) = f * (a.length + b.length) + (a.length + b.length) := by rw [Nat.add_mul, Nat.one_mul]
    unfold mergeF
    split
    · show 0 ≤ _
      omega
    · split
      · rename_i z
        show 1 ≤ _
        rw [e]
        omega
      · rw [List.length_append, List.length_append, ups_len, List.length_append, e]
        rw [evs_len, evs_len] at h1 h2
        rw [List.length_drop, List.length_drop] at h2
        have m : f * ((a.length + 1) / 2 + (b.length + 1) / 2) + f * ((a.length - 1 + 1) / 2 + (b.length - 1 + 1) / 2) ≤ f * (a.length + b.length) := by
          rw [← Nat.mul_add]
          by_cases ha : a.length = 0
          · have : a = [] := List.eq_nil_of_length_eq_zero ha
            exact absurd (Or.inl this) (by assumption)
          · by_cases hb : b.length = 0
            · have : b = [] := List.eq_nil_of_length_eq_zero hb
              exact absurd (Or.inr this) (by assumption)
            · exact Nat.mul_le_mul_left _ (by omega)
        omega
theorem sortF_len : ∀ (f : Nat) (r : List Nat), (sortF f r).length ≤ f * (5 * r.length)
  | 0, _ => by
    show 0 ≤ _
    omega
  | f + 1, r => by
    have h1 := sortF_len f (r.take (r.length / 2))
    have h2 := sortF_len f (r.drop (r.length / 2))
    have h3 := mergeF_len 5 (r.take (r.length / 2)) (r.drop (r.length / 2))
    have e : (f + 1) * (5 * r.length) = f * (5 * r.length) + 5 * r.length := by rw [Nat.add_mul, Nat.one_mul]
    unfold sortF
    split
    · show 0 ≤ _
      omega
    · rw [List.length_append, List.length_append, e]
      rw [List.length_take, List.length_drop] at h3
      rw [List.length_take] at h1
      rw [List.length_drop] at h2
      have m : f * (5 * min (r.length / 2) r.length) + f * (5 * (r.length - r.length / 2)) = f * (5 * r.length) := by
        rw [← Nat.mul_add]
        congr 1
        omega
      omega
end Sw

set_option Elab.async false
set_option linter.all false
set_option maxRecDepth 100000
set_option maxHeartbeats 4000000
namespace Sw
open PySem PySem.Spec PyProof.Rows L2
/-! ## Layer by layer, the same with every row -/
theorem goC_comm {n : Nat} {r : Row} {c d : Cmp} (hr : r.length = n) (okc : CmpOk n c) (okd : CmpOk n d) (s : share c d = false) : goC (goC r c) d = goC (goC r d) c := by
  unfold share at s
  rw [decide_eq_false_iff_not] at s
  have a1 : c.1 ≠ d.1 := fun e => s (.inl e)
  have a2 : c.1 ≠ d.2 := fun e => s (.inr (.inl e))
  have a3 : c.2 ≠ d.1 := fun e => s (.inr (.inr (.inl e)))
  have a4 : c.2 ≠ d.2 := fun e => s (.inr (.inr (.inr e)))
  have lc : (goC r c).length = n := by rw [goC_len, hr]
  have ld : (goC r d).length = n := by rw [goC_len, hr]
  refine row_ext (n := n) (by rw [goC_len, lc]) (by rw [goC_len, ld]) fun k hk => ?_
  rw [goC_at lc okd, goC_at ld okc]
  rw [goC_at hr okc, goC_at hr okc, goC_at hr okc, goC_at hr okd, goC_at hr okd, goC_at hr okd]
  rw [if_neg a4, if_neg a2, if_neg a3, if_neg a1, if_neg a4.symm, if_neg a3.symm, if_neg a2.symm, if_neg a1.symm]
  by_cases e1 : d.2 = k
  · rw [if_pos e1, if_neg (fun e => a4 (e.trans e1.symm)), if_neg (fun e => a2 (e.trans e1.symm)), if_pos e1]
  · rw [if_neg e1, if_neg e1]
    by_cases e2 : d.1 = k
    · rw [if_pos e2, if_neg (fun e => a3 (e.trans e2.symm)), if_neg (fun e => a1 (e.trans e2.symm)), if_pos e2]
    · rw [if_neg e2, if_neg e2]
theorem gone_comm {n : Nat} {c : Cmp} (okc : CmpOk n c) {B : List Cmp} : CmpsOk n B → (∀ d ∈ B, share c d = false) → ∀ {r : Row}, r.length = n → gone B (goC r c) = goC (gone B r) c := by
  induction B with
  | nil => intro _ _ r _; rfl
  | cons d B ih =>
    intro ok s r hr
    show gone B (goC (goC r c) d) = goC (gone B (goC r d)) c
    rw [goC_comm hr okc (ok d List.mem_cons_self) (s d List.mem_cons_self), ih (fun e he => ok e (List.mem_cons_of_mem _ he)) (fun e he => s e (List.mem_cons_of_mem _ he)) (by rw [goC_len, hr])]
theorem gone_app (A B : List Cmp) (r : Row) : gone (A ++ B) r = gone B (gone A r) := by
  unfold gone
  rw [List.foldl_append]
theorem flat_set {n t : Nat} {c : Cmp} {x : List Cmp} (okc : CmpOk n c) : ∀ {ls : List (List Cmp)}, ls[t]? = some x → (∀ u y, t < u → ls[u]? = some y → ∀ d ∈ y, share c d = false ∧ CmpOk n d) → (∀ y ∈ ls, CmpsOk n y) → ∀ {r : Row}, r.length = n → gone (ls.set t (x ++ [c])).flatten r = goC (gone ls.flatten r) c := by
  intro ls hx later ok r hr
  have ht : t < ls.length := (List.getElem?_eq_some_iff.mp hx).1
  have e1 : ls = ls.take t ++ x :: ls.drop (t + 1) := by
    obtain ⟨_, hc⟩ := List.getElem?_eq_some_iff.mp hx
    rw [← hc, List.getElem_cons_drop, List.take_append_drop]
  have e2 : ls.set t (x ++ [c]) = ls.take t ++ (x ++ [c]) :: ls.drop (t + 1) := by
    rw [List.set_eq_take_append_cons_drop, if_pos ht]
  have fl : ls.flatten = (ls.take t).flatten ++ (x ++ (ls.drop (t + 1)).flatten) := by
    conv => lhs; rw [e1]
    rw [List.flatten_append, List.flatten_cons]
  rw [e2, fl, List.flatten_append, List.flatten_cons, gone_app, gone_app, gone_app, gone_app, gone_app]
  refine gone_comm okc (fun d hd => ?_) (fun d hd => ?_) (by rw [gone_len, gone_len, hr])
  all_goals
    obtain ⟨y, hy, hd⟩ := List.mem_flatten.mp hd
    obtain ⟨k, hk, e⟩ := List.mem_iff_getElem.mp hy
    rw [List.getElem_drop] at e
    have hk2 : t + 1 + k < ls.length := by
      rw [List.length_drop] at hk
      omega
    have := later (t + 1 + k) y (by omega) (by rw [List.getElem?_eq_getElem hk2, e]) d hd
  · exact this.2
  · exact this.1
theorem lay_in {cs : List Cmp} {i u : Nat} {d : Cmp} (h : d ∈ layI cs i u) : ∃ j, j < i ∧ cs[j]? = some d ∧ (tiers cs)[j]? = some u := by
  unfold layI layerOf at h
  obtain ⟨p, hp, rfl⟩ := List.mem_map.mp h
  rw [List.mem_filter] at hp
  obtain ⟨hp, e⟩ := hp
  obtain ⟨k, hk, ek⟩ := List.mem_iff_getElem.mp hp
  rw [List.getElem_zip] at ek
  rw [List.length_zip, List.length_take, List.length_take] at hk
  have e2 : p.2 = u := by simpa using e
  rw [List.getElem_take, List.getElem_take] at ek
  refine ⟨k, by omega, ?_, ?_⟩
  · rw [List.getElem?_eq_getElem (by omega), ← ek]
  · rw [List.getElem?_eq_getElem (by omega), ← e2, ← ek]
theorem lay_later {n : Nat} {cs : List Cmp} (ok : CmpsOk n cs) {i t u : Nat} {c d : Cmp} (hc : cs[i]? = some c) (ht : (tiers cs)[i]? = some t) (tu : t < u) (hd : d ∈ layI cs i u) : share c d = false ∧ CmpOk n d := by
  obtain ⟨j, hj, gd, gu⟩ := lay_in hd
  refine ⟨?_, ok d (List.mem_of_getElem? gd)⟩
  unfold share
  rw [decide_eq_false_iff_not]
  intro h
  have g := tiers_get hc
  rw [ht] at g
  have et : t = tierH (hgtH (fun _ => 0) (cs.take i)) c := Option.some.inj g
  have gd' : (cs.take i)[j]? = some d := by rw [List.getElem?_take_of_lt hj]; exact gd
  have gu' : (tiers (cs.take i))[j]? = some u := by rw [tiers_take, List.getElem?_take_of_lt hj]; exact gu
  have key : ∀ l, (d.1 = l ∨ d.2 = l) → u + 1 ≤ hgtH (fun _ => 0) (cs.take i) l := fun l hl => (hgt_spec (cs.take i) l).1 j d gd' hl u gu'
  unfold tierH at et
  rcases h with h | h | h | h
  · have := key c.1 (.inl h.symm); omega
  · have := key c.1 (.inr h.symm); omega
  · have := key c.2 (.inl h.symm); omega
  · have := key c.2 (.inr h.symm); omega
theorem lay_goes_i {n : Nat} {cs : List Cmp} (ok : CmpsOk n cs) {M : Nat} (hM : manyT cs ≤ M) {r : Row} (hr : r.length = n) : ∀ i, i ≤ cs.length → gone (layL cs i M).flatten r = gone (cs.take i) r := by
  intro i
  induction i with
  | zero =>
    intro _
    rw [layL_zero]
    have : ∀ l : List Nat, (l.map fun _ => ([] : List Cmp)).flatten = [] := fun l => by
      induction l with
      | nil => rfl
      | cons a l ih => rw [List.map_cons, List.flatten_cons, ih] <;> rfl
    rw [this] <;> rfl
  | succ i ih =>
    intro hi
    obtain ⟨c, hc⟩ := get_of (xs := cs) (i := i) (by omega)
    obtain ⟨t, ht⟩ := get_of (xs := tiers cs) (i := i) (by rw [tiers_len]; omega)
    have tM : t < M := by
      have := manyL_lt (List.mem_of_getElem? ht)
      unfold manyT at hM
      omega
    rw [← layL_set hc ht, List.take_add_one, hc]
    show _ = gone (cs.take i ++ [c]) r
    rw [gone_app, ← ih (by omega)]
    refine flat_set (ok c (List.mem_of_getElem? hc)) (layL_get tM) (fun u y tu hy d hd => ?_) (fun y hy d hd => ?_) hr
    · have uM : u < M := by
        have := (List.getElem?_eq_some_iff.mp hy).1
        rwa [layL_len] at this
      rw [layL_get uM] at hy
      rw [← Option.some.inj hy] at hd
      exact lay_later ok hc ht tu hd
    · unfold layL at hy
      obtain ⟨u, _, rfl⟩ := List.mem_map.mp hy
      obtain ⟨j, _, gd, _⟩ := lay_in hd
      exact ok d (List.mem_of_getElem? gd)
theorem lay_goes {n : Nat} {cs : List Cmp} (ok : CmpsOk n cs) {r : Row} (hr : r.length = n) : gone (layersOf cs).flatten r = gone cs r := by
  have := lay_goes_i ok (Nat.le_refl _) hr cs.length (Nat.le_refl _)
  rw [List.take_length] at this
  exact this
theorem flat_perm {t : Nat} {c : Cmp} {x : List Cmp} {ls : List (List Cmp)} (hx : ls[t]? = some x) : (ls.set t (x ++ [c])).flatten.Perm (ls.flatten ++ [c]) := by
  have ht : t < ls.length := (List.getElem?_eq_some_iff.mp hx).1
  have e1 : ls = ls.take t ++ x :: ls.drop (t + 1) := by
    obtain ⟨_, hc⟩ := List.getElem?_eq_some_iff.mp hx
    rw [← hc, List.getElem_cons_drop, List.take_append_drop]
  have e2 : ls.set t (x ++ [c]) = ls.take t ++ (x ++ [c]) :: ls.drop (t + 1) := by
    rw [List.set_eq_take_append_cons_drop, if_pos ht]
  have fl : ls.flatten = (ls.take t).flatten ++ (x ++ (ls.drop (t + 1)).flatten) := by
    conv => lhs; rw [e1]
    rw [List.flatten_append, List.flatten_cons]
  rw [e2, fl, List.flatten_append, List.flatten_cons, List.append_assoc, List.append_assoc, List.append_assoc]
  exact List.Perm.append_left _ (List.Perm.append_left _ List.perm_append_comm)
theorem lay_perm_i {cs : List Cmp} {M : Nat} (hM : manyT cs ≤ M) : ∀ i, i ≤ cs.length → (layL cs i M).flatten.Perm (cs.take i) := by
  intro i
  induction i with
  | zero =>
    intro _
    rw [layL_zero]
    have : ∀ l : List Nat, (l.map fun _ => ([] : List Cmp)).flatten = [] := fun l => by
      induction l with
      | nil => rfl
      | cons a l ih => rw [List.map_cons, List.flatten_cons, ih] <;> rfl
    rw [this]
    exact .nil
  | succ i ih =>
    intro hi
    obtain ⟨c, hc⟩ := get_of (xs := cs) (i := i) (by omega)
    obtain ⟨t, ht⟩ := get_of (xs := tiers cs) (i := i) (by rw [tiers_len]; omega)
    have tM : t < M := by
      have := manyL_lt (List.mem_of_getElem? ht)
      unfold manyT at hM
      omega
    rw [← layL_set hc ht, List.take_add_one, hc]
    exact (flat_perm (layL_get tM)).trans ((ih (by omega)).append_right _)
theorem lay_perm (cs : List Cmp) : (layersOf cs).flatten.Perm cs := by
  have := lay_perm_i (cs := cs) (Nat.le_refl _) cs.length (Nat.le_refl _)
  rw [List.take_length] at this
  exact this
end Sw

set_option Elab.async false
set_option linter.all false
set_option maxRecDepth 100000
set_option maxHeartbeats 4000000
namespace Sw
open PySem PySem.Spec PyProof.Rows L2
/-! ## {e for x in xs}, whole numbers, and sorted of it, any number of them -/
abbrev noI : Int → Bool := fun _ => false
abbrev moI (S : Int → Bool) (c : Int) : Int → Bool := fun j => S j || decide (j = c)
abbrev moN (S : Int → Bool) (c : Int) (n : Nat) : Nat := if S c = true then n else n + 1
def tSetC (w : World) (wi : TI) (g : TG) (te : TE) (vs : List Nat) : TE := fun σ H Q =>
  wi σ H fun J H1 => ∀ D, H1 D = none → ∃ Z : Nat → Nat → Hp → Prop, (∃ m, Z 0 m (upd H1 D (SetO w D noI 0))) ∧ ∀ i m H2, Z i m H2 →
    (J.stop i H2 ∧ Q (.ref D) H2) ∨ (J.go i H2 ∧ ∃ Y : Hp → Prop, (∀ G, Y G → ∃ k, k < m ∧ Z (i + 1) k G) ∧
      ∀ x H3, J.yld i H2 x H3 → g x (wipe σ vs) H3 fun σ4 H4 => wipe σ4 vs = wipe σ vs ∧
        te σ4 H4 fun y H5 => ∃ (c : Int) (S : Int → Bool) (n : Nat), y = .int c ∧ H5 D = some (SetO w D S n) ∧ n + 1 < scanBound ∧ Y (upd H5 D (SetO w D (moI S c) (moN S c n))))
section
variable {X : Cx}
theorem put_ok {pins : List (Addr × Obj)} {σ : L2.St} {H : Hp} {s : Shared} {E : Value → Shared → Prop} {D : Addr} {S : Int → Bool} {n : Nat} {c : Int} {u : Value} {Q : Value → Shared → Prop}
    (I : Inv X pins σ H s) (ru : RelV (.int c) u) (hD : H D = some (SetO X.w D S n)) (few : n + 1 < scanBound)
    (go : ∀ z, Inv X pins σ (upd H D (SetO X.w D (moI S c) (moN S c n))) z → Q .none z) : wpAny (model X.prog X.w) X.A (call (.builtin "set.add") [.ref D, u]) Q E s := by
  obtain ⟨tk, rfl⟩ := ru
  refine setR_add (setO_get I hD) few fun g2 but new => go _ ?_
  obtain ⟨o, _, _, _, ho, _⟩ := id new
  exact I.write (e := D) (t' := s.toks + 1) (by rw [hD]; exact True.intro) (.inl rfl) (fun b v nb hv => (but.2 b nb).trans hv) ⟨o, ho⟩ (setO_new new)
theorem pe_setC {elt tg iter : Expr} {sc : Scope} {own : List (Str × Nat)} {pos : Pos} {wi : TI} {g : TG} {te : TE} (calm : X.calm = true) (nd : X.N.Nodup) (pi : PI X tg iter wi) (bl : BlkOk X.N X.env.scope sc own)
    (hg : ∀ (z : Shared) (G : Hp) (C : Addr) (l : List (Str × Addr)) (fp : List Addr), PG (X.blk z G sc (compEnvC sc l C X.env) fp) tg g)
    (he : ∀ (z : Shared) (G : Hp) (C : Addr) (l : List (Str × Addr)) (fp : List Addr), PE (X.blk z G sc (compEnvC sc l C X.env) fp) elt te)
    (fo : ∀ x, foldedSetIterable iter X.env x = pure x := by intro _; rfl) : PE X (.SetComp elt [⟨tg, iter, [], 0⟩] sc pos) (tSetC X.w wi g te (own.map (·.2))) := by
  refine ⟨fun pins s σ H Q I h => ?_⟩
  rw [PpSet.eval_SetComp]
  have cl : ∀ y ∈ sc.names, y.2 = .free → ∃ c, X.env.cells.lookup y.1 = some c := fun y m e => (bl.free y m e).elim (fun k => I.ok.has _ (.inl k)) fun k => I.ok.has _ (.inr k)
  refine wpAny_comprehension_free rfl fo (closure_ok cl) bl.kind (fun y m e => by rw [bl.uniq y m, e]) (thn (pi.run pins s σ H _ I h) fun v1 z1 k1 => thn k1 fun v2 z2 k2 => ?_)
  obtain ⟨it, fp, tn, J, H2, rfl, I2, T, t2, f2, q⟩ := k2
  refine PpSet.newSet_ok (newEnv_comp ?_)
  generalize eD : z2.heap.objs.size = D
  have nD : H2 D = none := I2.hok.fresh (Nat.le_of_eq eD)
  obtain ⟨Z, ⟨m0, b0⟩, turn⟩ := q D nD
  generalize e3 : ({ z2 with heap := z2.heap.push { cls := .type "set", dict := none, data := .set #[] 0 (.fresh 0 0 (!X.w.params.followText "set-order")) } } : Shared) = z3
  have p3 : z3.heap = z2.heap.push { cls := .type "set", dict := none, data := .set #[] 0 (.fresh 0 0 (!X.w.params.followText "set-order")) } := congrArg Shared.heap e3.symm
  generalize eG : upd H2 D (SetO X.w D noI 0) = G at b0
  have I3 : Inv X pins σ G z3 := by
    subst e3 eG
    exact I2.laid (t' := z2.toks) (fun _ _ e => Heap.get?_push_of_some _ e) (Nat.le_of_eq eD) (by subst eD; exact setO_new (setR_fresh X.w))
  have f3 : ∀ b ∈ fp, FpOk X pins G b ∧ b < z3.heap.objs.size := fun b m => by
    obtain ⟨_, e, _⟩ := T.obj _ _ t2 b m
    have lt := Heap.lt_size e
    subst eG
    exact ⟨⟨(upd_ne (by rw [← eD]; exact Nat.ne_of_lt lt)).trans (f2 b m).1, (f2 b m).2⟩, by rw [p3, Heap.size_push]; exact Nat.lt_succ_of_lt lt⟩
  have t3 : tn 0 z3.heap := T.keep _ _ _ t2 fun _ _ _ e => by
    rw [p3]
    exact Heap.get?_push_of_some _ e
  have I4 := block_start I3 bl nd f3
  have n0 : ∀ b ∈ fp, G b = none := fun b m => (f3 b m).1.1
  have hgC := hg z3 G z3.heap.objs.size (cellsFrom (z3.heap.objs.size + 1) sc.names (cloFrom X.env.cells sc.names [])) fp
  have heC := he z3 G z3.heap.objs.size (cellsFrom (z3.heap.objs.size + 1) sc.names (cloFrom X.env.cells sc.names [])) fp
  show codeAny _ _ (.compStart (.SetComp elt [⟨tg, iter, [], 0⟩] sc pos) 0 (.ref it) (.ref D) (compEnvC sc (cellsFrom (z3.heap.objs.size + 1) sc.names (cloFrom X.env.cells sc.names [])) z3.heap.objs.size X.env))
    (compPost (model X.prog X.w) X.A X.xe none (EP X pins σ Q) (.ref D) z3.heap.objs.size) { z3 with heap := pushCells (z3.heap.push { cls := .type "dict", data := .dict #[] }) sc.names }
  have cL : (compEnvC sc (cellsFrom (z3.heap.objs.size + 1) sc.names (cloFrom X.env.cells sc.names [])) z3.heap.objs.size X.env).locals = z3.heap.objs.size := rfl
  generalize compEnvC sc (cellsFrom (z3.heap.objs.size + 1) sc.names (cloFrom X.env.cells sc.names [])) z3.heap.objs.size X.env = ce at I4 hgC heC cL ⊢
  generalize e4 : ({ z3 with heap := pushCells (z3.heap.push { cls := .type "dict", data := .dict #[] }) sc.names } : Shared) = z4 at I4 ⊢
  have t4 : tn 0 z4.heap := T.keep _ _ _ t3 fun _ _ _ e => by
    subst e4
    exact pushCells_keeps _ _ _ _ (Heap.get?_push_of_some _ e)
  have own4 : ∀ {σ' : L2.St} {H' : Hp} {z : Shared}, Inv (X.blk z3 G sc ce fp) [] σ' H' z → (∀ b ∈ fp, H' b = none) → ∀ b ∈ fp, FpOk (X.blk z3 G sc ce fp) [] H' b := fun J' nn b m =>
    ⟨nn b m, (J'.ok.exf b m).1, J'.ok.exfs b m, .inl m, fun x c e => (J'.ok.exf b m).2 x c e, fun p k => nomatch (show p ∈ ([] : List (Addr × Obj)) ++ [] from k)⟩
  have loop : codeAny (model X.prog X.w) X.A (.compLoop (.SetComp elt [⟨tg, iter, [], 0⟩] sc pos) 0 (.ref it) (.ref D) ce) (compPost (model X.prog X.w) X.A X.xe none (EP X pins σ Q) (.ref D) z3.heap.objs.size) z4 := by
    refine PpSet.compLoopS_any (fun n z => ∃ i H', Inv (X.blk z3 G sc ce fp) [] (wipe σ (own.map (·.2))) H' z ∧ tn i z.heap ∧ (∀ b ∈ fp, H' b = none) ∧ Z i n H') ?_ m0 ⟨0, G, I4, t4, n0, b0⟩
    rintro n z5 ⟨i, H5, I5, t5, n5, b5⟩
    rcases turn i n H5 b5 with ⟨st, fin⟩ | ⟨go, Y, hY, step⟩
    · refine thnF (T.done (X.blk z3 G sc ce fp) rfl rfl rfl calm i [] z5 _ H5 (fun _ _ => False) I5 (own4 I5 n5) t5 st) fun r z6 ⟨er, I6⟩ => ?_
      subst er
      have I7 : Inv X pins σ H5 z6 := I3.call' (ch := fp) I6.os I6.base I6.hok I6.bare fun b m => ⟨(f3 b m).1.2.2.2.1, (f3 b m).1.2.1, (f3 b m).1.2.2.2.2.1, (f3 b m).1.2.2.2.2.2⟩
      have nC : H5 z3.heap.objs.size = none := by
        rw [← cL]
        exact I6.free
      obtain ⟨mm, hm, _⟩ := I6.loc
      have hm2 : z6.heap.Ns z3.heap.objs.size mm := by
        rw [← cL]
        exact hm
      obtain ⟨a0, a1, _, a3, a4, a5⟩ := I3.fpOk (Nat.le_refl _) nC
      exact ⟨mm, hm2, fun _ but => ⟨.ref D, H5, I7.turned (t' := z6.toks) (fun b _ nb e => (but.2 b nb).trans e) a0 a1 a3 a4 a5, rfl, fin⟩⟩
    · refine thnF (T.item (X.blk z3 G sc ce fp) rfl rfl rfl calm i [] z5 _ H5 (fun _ _ => False) I5 (own4 I5 n5) t5 go) fun r z6 ⟨u, er, k6⟩ => ?_
      subst er
      refine thnF k6 fun _ z7 ⟨x, H7, I7, r7, y7, t7, n7⟩ => ?_
      refine thnF (hgC.run _ z7 _ H7 x u _ (I7.pinned (own4 I7 n7) (T.obj _ _ t7)) r7 (step x H7 y7)) fun _ z8 ⟨σ8, H8, I8, w8, q8⟩ => ?_
      refine wpAny_pure ?_
      rw [if_pos rfl]
      refine thnF (heC.run _ z8 σ8 H8 _ I8 q8) fun v z9 ⟨yv, H9, I9, r9, c, S, k, ey, hD9, few, nx⟩ => ?_
      subst ey
      refine put_ok (X := X.blk z3 G sc ce fp) I9 r9 hD9 few fun zz Iz => ?_
      obtain ⟨m2, lt2, b2⟩ := hY _ nx
      have pin : ∀ b ∈ fp, ∀ o, z7.heap.get? b = some o → zz.heap.get? b = some o ∧ (upd H9 D (SetO X.w D (moI S c) (moN S c k))) b = none := fun b m o e =>
        have p := Iz.pin (b, o) (List.mem_append_right _ (List.mem_append_right _ (mem_pinsAt m e)))
        ⟨p.1, p.2.1⟩
      refine ⟨m2, lt2, i + 1, _, (Iz.unpinned (pins := [])).weak (by rw [← w8, wipe_length]) (fun j v' e => ?_), T.keep _ _ _ t7 fun b m o e => (pin b m o e).1, fun b m => ?_, b2⟩
      · rw [← w8] at e
        exact (wipe_some e).1
      · obtain ⟨o, e, _⟩ := T.obj _ _ t7 b m
        exact (pin b m o e).2
  exact PpSet.codeAny_compStart_set loop (T.self X.A 0 _ _ _ t4 loop)
/-- sorted(s) -/
def rSortS (w : World) : List V → Hp → VK → Prop := fun vs H Q => ∃ (a : Addr) (S : Int → Bool) (n : Nat), vs = [.ref a] ∧ H a = some (SetO w a S n) ∧ n ≤ 1000000 ∧
  ∀ (ns : List Int) (p : Addr), ns.Pairwise (· < ·) → (∀ k : Int, k ∈ ns ↔ S k = true) → H p = none → Q (.ref p) (upd H p (.lst (ns.map V.int)))
theorem cr_sortS (calm : X.calm = true) : CallR X (.builtin "sorted") (rSortS X.w) := by
  intro pins s σ H vs us Q I r h
  obtain ⟨a, S, n, rfl, ha, few, q⟩ := h
  obtain ⟨o, es, ep, t, ho, ex, hd, good, nd, mem, small, fits, size, ris, led⟩ := setO_get I ha
  rw [Vals.ref1 r]
  refine Calls.call_function_entry kind_sorted plain_sorted entry_sorted (args_sorted1 _) ?_
  unfold Builtin.«sorted»
  refine wpAny_bind (m := checkCount "sorted" 1 1 _) (wpAny_pure (wpAny_bind (collect_set (A := X.A.in1) (I.ok.hd calm) ⟨o, ho, ex.1, hd⟩ fits small ris led fun z out keep grow gens os perm => ?_)))
  have lo : out.length ≤ sizeLine := by
    rw [perm.length_eq, List.length_map, Array.length_toList, size, sizeLine_eq]
    omega
  have areI : IntsAre out (out.map Builtin.Re.reRawOf) := ints_of out fun v m => by
    obtain ⟨e, me, rfl⟩ := List.mem_map.mp (perm.mem_iff.mp m)
    obtain ⟨k, tk, h1, _⟩ := good e me
    exact ⟨k, tk, h1⟩
  have keys : (out.map Builtin.Re.reRawOf).Perm (es.toList.map keyOf) := by
    refine (perm.map _).trans ?_
    rw [List.map_map]
    exact .refl _
  refine wpAny_bind (wpAny_newList ?_ lo)
  have at0 : (z.heap.push (seqObj "list" out.toArray 0)).get? z.heap.objs.size = some (seqObj "list" out.toArray 0) := Heap.get?_push_size _ rfl
  refine wpAny_bind (wpAny_holding (wpAny_call_entry slot_list_sort ⟨_, at0, rfl⟩ entry_list_sort
    (SrtO.list_sort_ord SrtO.swo_int at0 lo (fun two => SrtO.ints_sortable areI two) fun fin srt stb => ⟨_, rfl, wpAny_pure ⟨_, rfl, ?_⟩⟩) (args_list_sort _)))
  obtain ⟨fi, fp, fw⟩ := SrtO.ints_out areI srt stb
  obtain ⟨c, hc⟩ := sortedHeap_at (vs := out) (out := fin.toArray) at0
  have fp2 := fp.trans keys
  have old : ∀ b u, s.heap.get? b = some u → (sortedHeap (z.heap.push (seqObj "list" out.toArray 0)) z.heap.objs.size out fin.toArray).get? b = some u := fun b u e => by
    have e2 := keep b u e
    have lt := Heap.lt_size e2
    rw [sortedHeap_old (Nat.ne_of_lt lt) (by rw [size_push']; exact Nat.lt_succ_of_lt lt)]
    exact Heap.get?_push_of_some _ e2
  have len : ((fin.map SrtO.iv).map V.int).length ≤ sizeLine := by
    rw [List.length_map, fp.length_eq, List.length_map]
    exact lo
  have free : H z.heap.objs.size = none := I.hok.fresh grow
  obtain ⟨zh, zg, zd, zt, zo⟩ := z
  obtain rfl : zo = s.os := os
  obtain rfl : zg = s.gens := gens
  have J : Inv X pins σ (upd H zh.objs.size (.lst ((fin.map SrtO.iv).map V.int))) { s with heap := sortedHeap (zh.push (seqObj "list" out.toArray 0)) zh.objs.size out fin.toArray, drawn := zd, toks := zt } :=
    I.call (ch := []) (Un.laid old grow free) (I.hok.laid old grow ⟨len, fin, c, vals_of_ints fi, hc⟩) I.bare fun _ k => nomatch k
  exact ⟨.ref _, _, J, rfl, q _ _ (lt_of_le_nodup _ fw (fp2.nodup_iff.mpr nd)) (fun k => by rw [fp2.mem_iff, ← mem k]) free⟩
end
end Sw

set_option Elab.async false
set_option linter.all false
set_option maxRecDepth 100000
set_option maxHeartbeats 4000000
namespace Sw
open PySem PySem.Spec PyProof.Rows L2
theorem hu65 {k : Nat} {A : Around} (hr : Room k A) : A.units + 65 < cLine := by
  have := hr.un
  omega
/-! ## Methods of a class of the program -/
/-- the method m of the class x keeps sp -/
structure MCal (P : Program) (w : World) (K : PySem.W.Frag) (mg : Str → Option Value) (base : Heap) (CX : CXT) (k : Nat) (x m : Str) (ps : List Str) (sp : Sp) : Prop where
  ex : ∃ fd : FuncData, FnOk P w K mg base CX k (He.ma K (He.ga K x) m) fd ps sp ∧ Binds K fd ps [] ∧ Meth K (He.ga K x) m (He.ma K (He.ga K x) m) ∧ Cls K (He.ga K x)
/-- the class x is made by an __init__ that keeps sp -/
structure MkCal (P : Program) (w : World) (K : PySem.W.Frag) (mg : Str → Option Value) (base : Heap) (CX : CXT) (k : Nat) (x : Str) (ps : List Str) (sp : Sp) : Prop where
  ex : ∃ fd : FuncData, FnOk P w K mg base CX k (He.ma K (He.ga K x) "__init__") fd ps sp ∧ Binds K fd ps [] ∧ Mk K (He.ga K x) (He.ma K (He.ga K x) "__init__") ∧ mg x = some (.ref (He.ga K x))
/-- a def under another name -/
structure HereA (K : PySem.W.Frag) (mg : Str → Option Value) (x nm : Str) (st : Stmt) : Prop where
  ex : ∃ (f : Addr) (fd : FuncData), FunD K nm nm (defArgs st) (defBody st) (defScope st) [] [] f fd ∧ mg x = some (.ref f)
section
variable {P : Program} {w : World} {K : PySem.W.Frag} {mg : Str → Option Value} {base : Heap} {x m q nm : Str} {st : Stmt} {N ps : List Str} {k : Nat} {sp : Sp}
theorem Met.cal {r : TS} (F : Met K x m q st) (M : Meth K (He.ga K x) m (He.ma K (He.ga K x) m)) (T : Cls K (He.ga K x)) (S : FnScope N ps (defScope st)) (len : ∀ vs H Q E, sp vs H Q E → vs.length = ps.length)
    (bd : ∀ (kV doc pm : Value) (an : Option Addr) (cdv ct : Value) (us : List Value), us.length = ps.length → bindArgs (PySem.W.fnOf m q (defArgs st) (defBody st) (defScope st) .none kV doc pm an cdv ct) ⟨us, []⟩ = pure (ps.zip us))
    (dv : ∀ (f : Addr) (cdv : Value) (A : Around) (outer : List Env) (s : Shared) (H : Hp) (E : XK), RmIn k A q st s f cdv → PSs (BX CX0 P w K mg base N q st f cdv A outer s H E).nox (defBody st) r)
    (rd : ∀ (vs : List V) (H : Hp) (Q : VK) (E : XK), sp vs H Q E → r { nx := fun _ H' => Q .non H', rt := Q } (L2.start N vs) H) : MCal P w K mg base CX0 (k + 1) x m ps sp := by
  obtain ⟨fd, D⟩ := F
  exact ⟨fd, D.ok S len fun cdv A outer s H vs Q E hr h => ⟨r, (dv _ cdv A outer s H E hr).nox, rd vs H Q E h⟩, D.bindsN bd, M, T⟩
theorem Met.calX {r : XK → TS} (F : Met K x m q st) (M : Meth K (He.ga K x) m (He.ma K (He.ga K x) m)) (T : Cls K (He.ga K x)) (S : FnScope N ps (defScope st)) (len : ∀ vs H Q E, sp vs H Q E → vs.length = ps.length)
    (bd : ∀ (kV doc pm : Value) (an : Option Addr) (cdv ct : Value) (us : List Value), us.length = ps.length → bindArgs (PySem.W.fnOf m q (defArgs st) (defBody st) (defScope st) .none kV doc pm an cdv ct) ⟨us, []⟩ = pure (ps.zip us))
    (dv : ∀ (f : Addr) (cdv : Value) (A : Around) (outer : List Env) (s : Shared) (H : Hp) (E : XK), RmIn k A q st s f cdv → PSs (BX (L2.CX P w) P w K mg base N q st f cdv A outer s H E) (defBody st) (r E))
    (rd : ∀ (vs : List V) (H : Hp) (Q : VK) (E : XK), sp vs H Q E → r E { nx := fun _ H' => Q .non H', rt := Q } (L2.start N vs) H) : MCal P w K mg base (L2.CX P w) (k + 1) x m ps sp := by
  obtain ⟨fd, D⟩ := F
  exact ⟨fd, D.ok S len fun cdv A outer s H vs Q E hr h => ⟨r E, dv _ cdv A outer s H E hr, rd vs H Q E h⟩, D.bindsN bd, M, T⟩
theorem Met.mk {r : TS} (F : Met K x "__init__" q st) (M : Mk K (He.ga K x) (He.ma K (He.ga K x) "__init__")) (g : mg x = some (.ref (He.ga K x))) (S : FnScope N ps (defScope st)) (len : ∀ vs H Q E, sp vs H Q E → vs.length = ps.length)
    (bd : ∀ (kV doc pm : Value) (an : Option Addr) (cdv ct : Value) (us : List Value), us.length = ps.length → bindArgs (PySem.W.fnOf "__init__" q (defArgs st) (defBody st) (defScope st) .none kV doc pm an cdv ct) ⟨us, []⟩ = pure (ps.zip us))
    (dv : ∀ (f : Addr) (cdv : Value) (A : Around) (outer : List Env) (s : Shared) (H : Hp) (E : XK), RmIn k A q st s f cdv → PSs (BX CX0 P w K mg base N q st f cdv A outer s H E).nox (defBody st) r)
    (rd : ∀ (vs : List V) (H : Hp) (Q : VK) (E : XK), sp vs H Q E → r { nx := fun _ H' => Q .non H', rt := Q } (L2.start N vs) H) : MkCal P w K mg base CX0 (k + 1) x ps sp := by
  obtain ⟨fd, D⟩ := F
  exact ⟨fd, D.ok S len fun cdv A outer s H vs Q E hr h => ⟨r, (dv _ cdv A outer s H E hr).nox, rd vs H Q E h⟩, D.bindsN bd, M, g⟩
theorem Met.mkX {r : XK → TS} (F : Met K x "__init__" q st) (M : Mk K (He.ga K x) (He.ma K (He.ga K x) "__init__")) (g : mg x = some (.ref (He.ga K x))) (S : FnScope N ps (defScope st)) (len : ∀ vs H Q E, sp vs H Q E → vs.length = ps.length)
    (bd : ∀ (kV doc pm : Value) (an : Option Addr) (cdv ct : Value) (us : List Value), us.length = ps.length → bindArgs (PySem.W.fnOf "__init__" q (defArgs st) (defBody st) (defScope st) .none kV doc pm an cdv ct) ⟨us, []⟩ = pure (ps.zip us))
    (dv : ∀ (f : Addr) (cdv : Value) (A : Around) (outer : List Env) (s : Shared) (H : Hp) (E : XK), RmIn k A q st s f cdv → PSs (BX (L2.CX P w) P w K mg base N q st f cdv A outer s H E) (defBody st) (r E))
    (rd : ∀ (vs : List V) (H : Hp) (Q : VK) (E : XK), sp vs H Q E → r E { nx := fun _ H' => Q .non H', rt := Q } (L2.start N vs) H) : MkCal P w K mg base (L2.CX P w) (k + 1) x ps sp := by
  obtain ⟨fd, D⟩ := F
  exact ⟨fd, D.ok S len fun cdv A outer s H vs Q E hr h => ⟨r E, dv _ cdv A outer s H E hr, rd vs H Q E h⟩, D.bindsN bd, M, g⟩
theorem HereA.cal {r : TS} (F : HereA K mg x nm st) (S : FnScope N ps (defScope st)) (len : ∀ vs H Q E, sp vs H Q E → vs.length = ps.length)
    (bd : ∀ (kV doc pm : Value) (an : Option Addr) (cdv ct : Value) (us : List Value), us.length = ps.length → bindArgs (PySem.W.fnOf nm nm (defArgs st) (defBody st) (defScope st) .none kV doc pm an cdv ct) ⟨us, []⟩ = pure (ps.zip us))
    (dv : ∀ (f : Addr) (cdv : Value) (A : Around) (outer : List Env) (s : Shared) (H : Hp) (E : XK), RmIn k A nm st s f cdv → PSs (BX CX0 P w K mg base N nm st f cdv A outer s H E).nox (defBody st) r)
    (rd : ∀ (vs : List V) (H : Hp) (Q : VK) (E : XK), sp vs H Q E → r { nx := fun _ H' => Q .non H', rt := Q } (L2.start N vs) H) : Cal P w K mg base CX0 (k + 1) x ps sp := by
  obtain ⟨f, fd, D, g⟩ := F.ex
  refine ⟨f, fd, D.ok S len fun cdv A outer s H vs Q E hr h => ⟨r, (dv f cdv A outer s H E hr).nox, rd vs H Q E h⟩, g, D.kp, D.bindsN bd, fun s us hl => D.bindsA bd s us hl, ?_⟩
  obtain ⟨oc, od, _, _, _, _, _, _, _, osl, _, lk, _⟩ := D.ex
  exact ⟨oc, od, osl, lk⟩
theorem Cal.imp {CX : CXT} {sp' : Sp} (c : Cal P w K mg base CX k x ps sp) (h : ∀ vs H Q E, sp' vs H Q E → sp vs H Q E) : Cal P w K mg base CX k x ps sp' := by
  obtain ⟨f, fd, F, g⟩ := c.ex
  exact ⟨f, fd, F.imp h, g⟩
theorem MCal.quiet (c : MCal P w K mg base (L2.CX P w) k x m ps sp) : MCal P w K mg base CX0 k x m ps (quiet sp) := by
  obtain ⟨fd, F, b⟩ := c.ex
  refine ⟨fd, ⟨fun vs H Q E h => F.len vs H Q E0 h, fun A outer s H args us vs Q E hr he hb rv h => codeAny_mono (F.run A outer s H args us vs Q E0 hr he hb rv h) fun r s' q => ?_⟩, b⟩
  cases r with
  | ok fl => cases fl <;> exact q
  | error e =>
    obtain ⟨_, _, _, _, _, _, _, _, _, _, _, _, z⟩ := q
    exact z.elim
theorem MkCal.quiet (c : MkCal P w K mg base (L2.CX P w) k x ps sp) : MkCal P w K mg base CX0 k x ps (Sw.quiet sp) := by
  obtain ⟨fd, F, b⟩ := c.ex
  refine ⟨fd, ⟨fun vs H Q E h => F.len vs H Q E0 h, fun A outer s H args us vs Q E hr he hb rv h => codeAny_mono (F.run A outer s H args us vs Q E0 hr he hb rv h) fun r s' q => ?_⟩, b⟩
  cases r with
  | ok fl => cases fl <;> exact q
  | error e =>
    obtain ⟨_, _, _, _, _, _, _, _, _, _, _, _, z⟩ := q
    exact z.elim
end
theorem hereA_of {fa : List He.Fa} {fn : List He.DefD} {ex : PySem.W.Frag → Bool} {h : Heap} {K : PySem.W.Frag} {mg : Str → Option Value} (c : SaysZ fa fn ex K) (X : K.In h) (G : h.Ns mainGlobals mg) {x nm : Str} {st : Stmt} (i j : Nat)
    (hi : fn[i]? = some ⟨(x, none), nm, nm, defArgs st, defBody st, defScope st, [], []⟩) (hj : fa[j]? = some (.glo x)) : HereA K mg x nm st := by
  obtain ⟨fd, F⟩ := c.d.def_ i hi
  exact ⟨_, fd, F, He.glo_ok X G (c.d.fact j hj)⟩
/-- o.m(..) -/
def tMet (K : PySem.W.Frag) (x m : Str) (sp : Sp) (ta : TE) (t : TA) : TE := fun σ H Q => ta σ H fun y H1 => ∃ a dx fs, y = .ref a ∧ H1 a = some (.ins (He.ga K x) dx fs) ∧ fs.lookup m = none ∧ t σ H1 fun vs H2 => sp (y :: vs) H2 Q E0
def tMetW (K : PySem.W.Frag) (x m : Str) (sp : Sp) (W : WX) (ta : TE) (t : TA) : TE := fun σ H Q => ta σ H fun y H1 => ∃ a dx fs, y = .ref a ∧ H1 a = some (.ins (He.ga K x) dx fs) ∧ fs.lookup m = none ∧ t σ H1 fun vs H2 => sp (y :: vs) H2 Q fun cls d H' => W cls d σ H'
/-- x(..), x a class -/
def tMk (K : PySem.W.Frag) (x : Str) (sp : Sp) (t : TA) : TE := fun σ H Q => t σ H fun vs H1 => ∀ y dx, H1 y = none → H1 dx = none → dx ≠ y →
  sp (.ref y :: vs) (upd (upd H1 dx (.own y)) y (.ins (He.ga K x) dx [])) (fun v H2 => v = .non ∧ Q (.ref y) H2) E0
section
variable {X : Cx} {k : Nat} {x m : Str} {ps : List Str} {sp : Sp} {ta : TE} {t : TA} {o e : Expr} {es : List Expr} {p pos apos : Pos} {W : WX}
theorem tMet_of {K : PySem.W.Frag} {C : Addr} : tMeth C m sp [] E0 ta t = fun σ H Q => ta σ H fun y H1 => ∃ a dx fs, y = .ref a ∧ H1 a = some (.ins C dx fs) ∧ fs.lookup m = none ∧ t σ H1 fun vs H2 => sp (y :: vs) H2 Q E0 := by
  unfold tMeth
  funext σ H Q
  congr 1
  funext y H1
  congr 1
  funext a
  congr 1
  funext dx
  congr 1
  funext fs
  congr 3
  congr 1
  funext vs H2
  rw [List.append_nil]
theorem tMk_of {C : Addr} : tMake C sp [] E0 t = fun σ H Q => t σ H fun vs H1 => ∀ y dx, H1 y = none → H1 dx = none → dx ≠ y → sp (.ref y :: vs) (upd (upd H1 dx (.own y)) y (.ins C dx [])) (fun v H2 => v = .non ∧ Q (.ref y) H2) E0 := by
  unfold tMake
  funext σ H Q
  congr 1
  funext vs H1
  rw [List.append_nil]
theorem pe_met {pl : Sem Bool} (c : MCal X.prog X.w X.K X.mg X.base CX0 k x m ps sp) (hr : Room k X.A) (he : PE X o ta) (ha : PA X (e :: es) t)
    (hst : starEach (e :: es) X.env = (false, eval e X.env) :: starEach es X.env := by rfl) (hpl : (backTo pos (starEach es X.env)).any (·.1) = false := by rfl)
    (ht : eval (.Call (.Attribute o m apos) (e :: es) [] pos) X.env = (do
      let ov ← eval o X.env
      standAt apos.atName
      let (f, first) ← holding [ov] (getMethod ov m pl)
      callWith pos f first (backTo pos (starEach (e :: es) X.env)) (backToKw pos (keywordEach [] X.env))) := by rfl) :
    PE X (.Call (.Attribute o m apos) (e :: es) [] pos) (tMet X.K x m sp ta t) := by
  obtain ⟨fd, F, b, M, T⟩ := c.ex
  have h := pe_meth (E := E0) (dvs := []) he T M F hr b .nil pass0 ha hst hpl ht
  rw [tMet_of (K := X.K)] at h
  exact h
theorem pe_met0 {pl : Sem Bool} (c : MCal X.prog X.w X.K X.mg X.base CX0 k x m ps sp) (hr : Room k X.A) (he : PE X o ta)
    (ht : eval (.Call (.Attribute o m apos) [] [] pos) X.env = (do
      let ov ← eval o X.env
      standAt apos.atName
      let (f, first) ← holding [ov] (getMethod ov m pl)
      callWith pos f first (backTo pos (starEach [] X.env)) (backToKw pos (keywordEach [] X.env))) := by rfl) :
    PE X (.Call (.Attribute o m apos) [] [] pos) (tMet X.K x m sp ta tNil) := by
  obtain ⟨fd, F, b, M, T⟩ := c.ex
  have h := pe_meth0 (E := E0) (dvs := []) he T M F hr b .nil pass0 ht
  rw [tMet_of (K := X.K)] at h
  exact h
theorem pe_mk (c : MkCal X.prog X.w X.K X.mg X.base CX0 k x ps sp) (hr : Room (k + 1) X.A) (hg : Gl X x) (ha : PA X (e :: es) t)
    (hdb : (x == ("__debug__" : Str)) = false := by decide) (he : starEach (e :: es) X.env = (false, eval e X.env) :: starEach es X.env := by rfl)
    (hpl : (backTo pos (starEach es X.env)).any (·.1) = false := by rfl) : PE X (.Call (.Name x p) (e :: es) [] pos) (tMk X.K x sp t) := by
  obtain ⟨fd, F, b, M, g⟩ := c.ex
  have h := pe_make (p := p) (E := E0) (dvs := []) M F hr hg g b .nil pass0 ha hdb he hpl
  rw [tMk_of] at h
  exact h
end
end Sw

set_option Elab.async false
set_option linter.all false
set_option maxRecDepth 100000
set_option maxHeartbeats 4000000
namespace Sw
open PySem PySem.Spec PyProof.Rows L2
/-! ## What can come out, by numbers of rows -/
theorem bit_off {n w k : Nat} (hw : w < 2 ^ n) (hk : n ≤ k) : w.testBit k = false := Nat.testBit_lt_two_pow (Nat.lt_of_lt_of_le hw (Nat.pow_le_pow_right (by decide) hk))
theorem goB_lt {n w : Nat} {c : Cmp} (hw : w < 2 ^ n) (ok : CmpOk n c) : goB w c < 2 ^ n := by
  obtain ⟨h1, h2, _⟩ := ok
  unfold goB
  split
  · have p1 : 1 <<< c.1 < 2 ^ n := by rw [Nat.one_shiftLeft]; exact Nat.pow_lt_pow_right (by decide) h1
    have p2 : 1 <<< c.2 < 2 ^ n := by rw [Nat.one_shiftLeft]; exact Nat.pow_lt_pow_right (by decide) h2
    exact Nat.xor_lt_two_pow (Nat.xor_lt_two_pow hw p1) p2
  · exact hw
theorem goneB_lt {n : Nat} {cs : List Cmp} : CmpsOk n cs → ∀ {w : Nat}, w < 2 ^ n → goneB cs w < 2 ^ n := by
  induction cs with
  | nil => intro _ w h; exact h
  | cons c cs ih =>
    intro ok w h
    exact ih (fun d hd => ok d (List.mem_cons_of_mem _ hd)) (goB_lt h (ok c List.mem_cons_self))
theorem goneB_snoc (cs : List Cmp) (c : Cmp) (w : Nat) : goneB (cs ++ [c]) w = goB (goneB cs w) c := by
  unfold goneB
  rw [List.foldl_append] <;> rfl
def outsN (n : Nat) (cs : List Cmp) : List Nat := (List.range (2 ^ n)).filter fun k => (List.range (2 ^ n)).any fun w => decide (goneB cs w = k)
theorem mem_outs {n : Nat} {cs : List Cmp} (ok : CmpsOk n cs) {k : Nat} : k ∈ outsN n cs ↔ ∃ w, w < 2 ^ n ∧ goneB cs w = k := by
  unfold outsN
  rw [List.mem_filter, List.any_eq_true]
  constructor
  · rintro ⟨_, w, hw, e⟩
    exact ⟨w, List.mem_range.mp hw, of_decide_eq_true e⟩
  · rintro ⟨w, hw, e⟩
    exact ⟨List.mem_range.mpr (e ▸ goneB_lt ok hw), w, List.mem_range.mpr hw, decide_eq_true e⟩
theorem outs_rise (n : Nat) (cs : List Cmp) : (outsN n cs).Pairwise (· < ·) := List.Pairwise.filter _ List.pairwise_lt_range
theorem outs_len (n : Nat) (cs : List Cmp) : (outsN n cs).length ≤ 2 ^ n := by
  have := List.length_filter_le (fun k => (List.range (2 ^ n)).any fun w => decide (goneB cs w = k)) (List.range (2 ^ n))
  rw [List.length_range] at this
  exact this
theorem outs_nil (n : Nat) : outsN n [] = List.range (2 ^ n) := by
  unfold outsN
  rw [List.filter_eq_self]
  intro k hk
  rw [List.any_eq_true]
  exact ⟨k, hk, decide_eq_true rfl⟩
theorem rise_uniq {α : Type} {lt : α → α → Prop} (irr : ∀ a, ¬ lt a a) (tr : ∀ a b c, lt a b → lt b c → lt a c) : ∀ {l m : List α}, l.Pairwise lt → m.Pairwise lt → (∀ k, k ∈ l ↔ k ∈ m) → l = m
  | [], [], _, _, _ => rfl
  | [], y :: m, _, _, h => nomatch (h y).mpr List.mem_cons_self
  | x :: l, [], _, _, h => nomatch (h x).mp List.mem_cons_self
  | x :: l, y :: m, h1, h2, h => by
    have e1 := List.pairwise_cons.mp h1
    have e2 := List.pairwise_cons.mp h2
    have e : x = y := by
      rcases List.mem_cons.mp ((h x).mp List.mem_cons_self) with e | a
      · exact e
      · rcases List.mem_cons.mp ((h y).mpr List.mem_cons_self) with e | b
        · exact e.symm
        · exact absurd (tr _ _ _ (e1.1 y b) (e2.1 x a)) (irr x)
    subst e
    refine congrArg (x :: ·) (rise_uniq irr tr e1.2 e2.2 fun k => ⟨fun hk => ?_, fun hk => ?_⟩)
    · rcases List.mem_cons.mp ((h k).mp (List.mem_cons_of_mem _ hk)) with e | a
      · exact absurd (e1.1 k hk) (by rw [e]; exact irr x)
      · exact a
    · rcases List.mem_cons.mp ((h k).mpr (List.mem_cons_of_mem _ hk)) with e | a
      · exact absurd (e2.1 k hk) (by rw [e]; exact irr x)
      · exact a
theorem natI_mem {l : List Nat} {k : Nat} : ((k : Nat) : Int) ∈ natI l ↔ k ∈ l := by
  unfold natI
  rw [List.mem_map]
  constructor
  · rintro ⟨j, hj, e⟩
    rw [show k = j by omega]
    exact hj
  · exact fun h => ⟨k, h, rfl⟩
theorem natI_rise {l : List Nat} (h : l.Pairwise (· < ·)) : (natI l).Pairwise (· < ·) := by
  unfold natI
  exact List.Pairwise.map _ (fun a b k => by omega) h
/-- the rising list of the numbers that come out of one comparer more -/
theorem outs_step {n : Nat} {cs : List Cmp} {c : Cmp} (ok : CmpsOk n cs) (okc : CmpOk n c) {ns : List Int} (h1 : ns.Pairwise (· < ·)) (h2 : ∀ k : Int, k ∈ ns ↔ ∃ v ∈ outsN n cs, ((goB v c : Nat) : Int) = k) : ns = natI (outsN n (cs ++ [c])) := by
  have ok2 : CmpsOk n (cs ++ [c]) := fun d hd => by
    rcases List.mem_append.mp hd with h | h
    · exact ok d h
    · rw [List.mem_singleton.mp h]
      exact okc
  refine rise_uniq (fun a => Int.lt_irrefl a) (fun a b c => Int.lt_trans) h1 (natI_rise (outs_rise n _)) fun k => ?_
  rw [h2]
  constructor
  · rintro ⟨v, hv, rfl⟩
    rw [natI_mem, mem_outs ok2]
    obtain ⟨w, hw, rfl⟩ := (mem_outs ok).mp hv
    exact ⟨w, hw, goneB_snoc cs c w⟩
  · intro hk
    obtain ⟨j, hj, rfl⟩ := List.mem_map.mp hk
    obtain ⟨w, hw, e⟩ := (mem_outs ok2).mp hj
    exact ⟨goneB cs w, (mem_outs ok).mpr ⟨w, hw, rfl⟩, by rw [← goneB_snoc, e]⟩
def exB (w : Nat) (c : Cmp) : Bool := w.testBit c.1 && !w.testBit c.2
theorem goB_same {w : Nat} {c : Cmp} (h : exB w c = false) : goB w c = w := by
  unfold goB
  unfold exB at h
  rw [if_neg (by rw [h]; exact Bool.false_ne_true)]
theorem goB_calm {w : Nat} {c : Cmp} (ne : c.1 ≠ c.2) : exB (goB w c) c = false := by
  by_cases h : exB w c = true
  · unfold exB at h
    unfold goB
    rw [if_pos h]
    rw [Bool.and_eq_true, Bool.not_eq_true'] at h
    unfold exB
    rw [Nat.testBit_xor, Nat.testBit_xor, Nat.testBit_xor, Nat.testBit_xor, bit_one, bit_one, bit_one, bit_one, h.1, h.2, decide_eq_true rfl, decide_eq_false (fun e => ne e.symm)]
    rfl
  · rw [Bool.not_eq_true] at h
    rw [goB_same h, h]
/-- what comes out stays the same just where nothing is exchanged -/
theorem outs_same {n : Nat} {cs : List Cmp} {c : Cmp} (ok : CmpsOk n cs) (okc : CmpOk n c) : outsN n (cs ++ [c]) = outsN n cs ↔ ∀ v ∈ outsN n cs, exB v c = false := by
  have ok2 : CmpsOk n (cs ++ [c]) := fun d hd => by
    rcases List.mem_append.mp hd with h | h
    · exact ok d h
    · rw [List.mem_singleton.mp h]
      exact okc
  constructor
  · intro e v hv
    rw [← e] at hv
    obtain ⟨w, hw, rfl⟩ := (mem_outs ok2).mp hv
    rw [goneB_snoc]
    exact goB_calm okc.2.2
  · intro h
    refine rise_uniq (fun a => Nat.lt_irrefl a) (fun a b c => Nat.lt_trans) (outs_rise n _) (outs_rise n _) fun k => ?_
    rw [mem_outs ok2, mem_outs ok]
    constructor
    · rintro ⟨w, hw, e⟩
      refine ⟨w, hw, ?_⟩
      rw [goneB_snoc, goB_same (h _ ((mem_outs ok).mpr ⟨w, hw, rfl⟩))] at e
      exact e
    · rintro ⟨w, hw, e⟩
      refine ⟨w, hw, ?_⟩
      rw [goneB_snoc, goB_same (h _ ((mem_outs ok).mpr ⟨w, hw, rfl⟩))]
      exact e
theorem at0_bits {n w : Nat} {c : Cmp} (ok : CmpOk n c) : decide (at0 (bareR n w) c.1 > at0 (bareR n w) c.2) = exB w c := by
  rw [at0_bare ok.1, at0_bare ok.2.1]
  unfold exB
  cases w.testBit c.1 <;> cases w.testBit c.2 <;> rfl
theorem outs_stir {n : Nat} {cs : List Cmp} {c : Cmp} (ok : CmpsOk n cs) (okc : CmpOk n c) : (!decide (outsN n (cs ++ [c]) = outsN n cs)) = (bares n).any (gtB cs c.1 c.2) := by
  rw [Bool.eq_iff_iff, Bool.not_eq_true', decide_eq_false_iff_not, outs_same ok okc, List.any_eq_true]
  constructor
  · intro h
    by_cases g : ∃ x ∈ bares n, gtB cs c.1 c.2 x = true
    · exact g
    · exfalso
      refine h fun v hv => ?_
      obtain ⟨w, hw, rfl⟩ := (mem_outs ok).mp hv
      cases e : exB (goneB cs w) c with
      | false => rfl
      | true =>
        exfalso
        refine g ⟨bareR n w, List.mem_map.mpr ⟨w, List.mem_range.mpr hw, rfl⟩, ?_⟩
        unfold gtB
        rw [gone_bare ok, at0_bits okc]
        exact e
  · rintro ⟨x, hx, e⟩ h
    obtain ⟨w, hw, rfl⟩ := List.mem_map.mp hx
    unfold gtB at e
    rw [gone_bare ok, at0_bits okc, h _ ((mem_outs ok).mpr ⟨w, List.mem_range.mp hw, rfl⟩)] at e
    cases e
theorem natI_inj {a b : List Nat} : natI a = natI b ↔ a = b := by
  unfold natI
  exact List.map_inj_right fun x y e => by omega
/-- rows that are in no order, the first one that can come out -/
def inB (r : Row) : Bool := decide (Srt r)
def wildB (n : Nat) (cs : List Cmp) : Option Nat := (outsN n cs).find? fun w => !decide (Srt (bareR n w))
end Sw

set_option Elab.async false
set_option linter.all false
set_option maxRecDepth 100000
set_option maxHeartbeats 4000000
namespace Sw
open PySem PySem.Spec PyProof.Rows L2
theorem hu1 {k : Nat} {A : Around} (hr : Room k A) : A.units + 1 < cLine := by
  have := hr.un
  omega
/-! ## Methods and classes that may raise -/
def tMkW (K : PySem.W.Frag) (x : Str) (sp : Sp) (W : WX) (t : TA) : TE := fun σ H Q => t σ H fun vs H1 => ∀ y dx, H1 y = none → H1 dx = none → dx ≠ y →
  sp (.ref y :: vs) (upd (upd H1 dx (.own y)) y (.ins (He.ga K x) dx [])) (fun v H2 => v = .non ∧ Q (.ref y) H2) fun cls d H' => W cls d σ H'
section
variable {X : Cx} {k : Nat} {x m : Str} {ps : List Str} {sp : Sp} {ta : TE} {t : TA} {o e : Expr} {es : List Expr} {p pos apos : Pos} {W : WX}
theorem pe_metW {pl : Sem Bool} {K : PySem.W.Frag} (c : MCal X.prog X.w K X.mg X.base (L2.CX X.prog X.w) k x m ps sp) (hr : Room k X.A) (tk : Takes X W) (he : PE X o ta) (ha : PA X (e :: es) t)
    (hst : starEach (e :: es) X.env = (false, eval e X.env) :: starEach es X.env := by rfl) (hpl : (backTo pos (starEach es X.env)).any (·.1) = false := by rfl)
    (ht : eval (.Call (.Attribute o m apos) (e :: es) [] pos) X.env = (do
      let ov ← eval o X.env
      standAt apos.atName
      let (f, first) ← holding [ov] (getMethod ov m pl)
      callWith pos f first (backTo pos (starEach (e :: es) X.env)) (backToKw pos (keywordEach [] X.env))) := by rfl) (hK : X.K = K := by rfl) :
    PE X (.Call (.Attribute o m apos) (e :: es) [] pos) (tMetW K x m sp W ta t) := by
  subst hK
  obtain ⟨fd, F, b, M, T⟩ := c.ex
  refine ⟨fun pins s σ H Q I h => PySem.W.methodCall_KW (pl := pl) (thn (he.run pins s σ H _ I h) fun u s1 ⟨y, H1, I1, ry, a, dx, fs, ey, ea, off, q⟩ => ?_) ht⟩
  subst ey
  cases ry
  refine getmeth_ok I1 ea T M off (PySem.W.callWith_K (first := [.ref a]) (h₀ := X.base) I.ok.mod.kin M.kp (thn (ha.run pos pins s1 σ H1 _ I1 q) fun us s2 ⟨ws, H2, I2, rw', q2⟩ => ⟨I2.kIn, ?_⟩) hst hpl)
  exact run_fnS (E := fun τ => WE W τ) (us := .ref a :: us) (vs := .ref a :: ws) F hr b (passAt tk σ) I2 (.cons rfl rw') q2
theorem pe_metW0 {pl : Sem Bool} {K : PySem.W.Frag} (c : MCal X.prog X.w K X.mg X.base (L2.CX X.prog X.w) k x m ps sp) (hr : Room k X.A) (tk : Takes X W) (he : PE X o ta)
    (ht : eval (.Call (.Attribute o m apos) [] [] pos) X.env = (do
      let ov ← eval o X.env
      standAt apos.atName
      let (f, first) ← holding [ov] (getMethod ov m pl)
      callWith pos f first (backTo pos (starEach [] X.env)) (backToKw pos (keywordEach [] X.env))) := by rfl) (hK : X.K = K := by rfl) :
    PE X (.Call (.Attribute o m apos) [] [] pos) (tMetW K x m sp W ta tNil) := by
  subst hK
  obtain ⟨fd, F, b, M, T⟩ := c.ex
  refine ⟨fun pins s σ H Q I h => PySem.W.methodCall_KW (pl := pl) (thn (he.run pins s σ H _ I h) fun u s1 ⟨y, H1, I1, ry, a, dx, fs, ey, ea, off, q⟩ => ?_) ht⟩
  subst ey
  cases ry
  exact getmeth_ok I1 ea T M off (PySem.W.callWith_K0 (first := [.ref a]) I1.kIn M.kp (run_fnS (E := fun τ => WE W τ) (us := [.ref a]) (vs := [.ref a]) F hr b (passAt tk σ) I1 (.cons rfl .nil) q))
end
/-! ## A dict that is not changed any more -/
/-- what is told is locked for good -/
def tFrz (t : TE) : TE := fun σ H Q => t σ H fun v H1 => ∃ d u, v = .ref d ∧ H1 d = some u ∧ Mut (some u) ∧ ∀ od, Q (.ref d) (upd H1 d (.frz od u))
theorem pe_frz {X : Cx} {e : Expr} {t : TE} (h : PE X e t) : PE X e (tFrz t) := by
  refine ⟨fun pins s σ H Q I q => thn (h.run pins s σ H _ I q) fun v s1 ⟨x, H1, I1, r, d, u, ex, hd, mu, q1⟩ => ?_⟩
  subst ex
  obtain ⟨od, I2⟩ := I1.lock hd mu
  exact ⟨.ref d, _, I2, r, q1 od⟩
/-- len(d), keys tuples -/
def kLenT : List V → Hp → VK → Prop := fun xs H Q => ∃ (p : Addr) (kvs : List (List Key × V)), xs = [.ref p] ∧ Rd H p (.dT kvs) ∧ Q (.int ((kvs.length : Nat) : Int)) H
theorem cl_lenT {X : Cx} : CallR X (.builtin "len") kLenT := by
  intro pins s σ H xs us Q I r h
  obtain ⟨p, kvs, rfl, hp, q⟩ := h
  obtain ⟨u, rfl, rx⟩ := vals1 r
  obtain rfl : u = .ref p := rx
  obtain ⟨z, hd, ys, rel, dd⟩ := dt_rd I.hok hp
  have hl : kvs.length = ys.length := Paired.length rel
  rw [sizeLine_eq] at z
  refine call_len_dictH hd dd (by omega) ?_
  exact ⟨.int ((kvs.length : Nat) : Int), H, I.tok _, ⟨_, by rw [hl]⟩, q⟩
/-! ## sorted(t), a tuple of whole numbers -/
def kSortTu (K : PySem.W.Frag) : List V → Hp → VK → Prop := fun vs H Q => ∃ (a : Addr) (ns : List Int), vs = [.ref a] ∧ SqT K H a (ns.map V.int) ∧ ∀ (ns' : List Int) (p : Addr), ns'.Perm ns → ns'.Pairwise (· ≤ ·) → H p = none → Q (.ref p) (upd H p (.lst (ns'.map V.int)))
theorem cr_sortTu {X : Cx} : CallR X (.builtin "sorted") (kSortTu X.K) := by
  intro pins s σ H vs us Q I r h
  obtain ⟨a, ns, rfl, hs, q⟩ := h
  obtain ⟨its, rv, pl, hz⟩ := I.tuple hs
  rw [Vals.ref1 r]
  have areI := rv.ints
  obtain ⟨o, ho, hc, n, hd⟩ := id pl
  have len := rv.length
  have lo : its.length ≤ sizeLine := by rw [← len]; exact hz
  refine Calls.call_function_entry kind_sorted plain_sorted entry_sorted (args_sorted1 _) ?_
  unfold Builtin.«sorted»
  refine wpAny_bind (m := checkCount "sorted" 1 1 _) (wpAny_pure (wpAny_bind (wpAny_collect_seq (A := X.A.in1) a (.inr rfl) ho hc hd (fun h1 keep => ?_) (by rw [List.size_toArray]; exact lo))))
  refine wpAny_bind (wpAny_newList ?_ lo)
  have at0 : (h1.push (seqObj "list" its.toArray 0)).get? h1.objs.size = some (seqObj "list" its.toArray 0) := Heap.get?_push_size _ rfl
  refine wpAny_bind (wpAny_holding (wpAny_call_entry slot_list_sort ⟨_, at0, rfl⟩ entry_list_sort
    (SrtO.list_sort_ord SrtO.swo_int at0 lo (fun two => SrtO.ints_sortable areI two) fun fin srt stb => ⟨_, rfl, wpAny_pure ⟨_, rfl, ?_⟩⟩) (args_list_sort _)))
  obtain ⟨fi, fp, fw⟩ := SrtO.ints_out areI srt stb
  obtain ⟨c, hc2⟩ := sortedHeap_at (vs := its) (out := fin.toArray) at0
  have I1 : Inv X pins σ H { s with heap := h1 } := I.kept (t' := s.toks) keep
  have old : ∀ b u, h1.get? b = some u → (sortedHeap (h1.push (seqObj "list" its.toArray 0)) h1.objs.size its fin.toArray).get? b = some u := fun b u e => by
    have lt := Heap.lt_size e
    rw [sortedHeap_old (Nat.ne_of_lt lt) (by rw [size_push']; exact Nat.lt_succ_of_lt lt)]
    exact Heap.get?_push_of_some _ e
  have lf : ((fin.map SrtO.iv).map V.int).length ≤ sizeLine := by
    rw [List.length_map, fp.length_eq]
    rw [List.length_map] at len
    omega
  have free : H h1.objs.size = none := I1.hok.fresh (Nat.le_refl _)
  have J : Inv X pins σ (upd H h1.objs.size (.lst ((fin.map SrtO.iv).map V.int))) { s with heap := sortedHeap (h1.push (seqObj "list" its.toArray 0)) h1.objs.size its fin.toArray } :=
    I1.laid (t' := s.toks) old (Nat.le_refl _) ⟨lf, fin, c, vals_of_ints fi, hc2⟩
  exact ⟨.ref _, _, J, rfl, q _ _ fp fw free⟩
end Sw

set_option Elab.async false
set_option linter.all false
set_option maxRecDepth 100000
set_option maxHeartbeats 4000000
namespace Sw
open PySem PySem.Spec PyProof.Rows L2
/-! ## A class called whose __init__ may raise -/
section
variable {X : Cx} {CX : CXT} {k : Nat} {f C : Addr} {fd : FuncData} {ps : List Str} {sp : Sp} {x : Str} {e : Expr} {es : List Expr} {t : TA} {p pos : Pos} {W : WX} {K : PySem.W.Frag}
theorem make_raises {pins : List (Addr × Obj)} {σ : L2.St} {H : Hp} {s : Shared} {Q : VK} {us : List Value} {vs : List V} {E : XK} (M : Mk X.K C f) (F : FnOk X.prog X.w X.K X.mg X.base CX k f fd ps sp) (hr : Room (k + 1) X.A) (hb : Binds X.K fd ps []) (hx : PassesAt CX X σ E)
    (I : Inv X pins σ H s) (r : Vals vs us) (h : ∀ y dx, H y = none → H dx = none → dx ≠ y → sp (.ref y :: vs) (upd (upd H dx (.own y)) y (.ins C dx [])) (fun v H2 => v = .non ∧ Q (.ref y) H2) E) :
    wpAny (model X.prog X.w) X.A (call (.ref C) us) (EP X pins σ Q) X.xe s := by
  have free1 := I.hok.fresh (Nat.le_refl s.heap.objs.size)
  have free2 := I.hok.fresh (Nat.le_succ s.heap.objs.size)
  have want := h _ _ free2 free1 (Nat.ne_of_lt (Nat.lt_succ_self _))
  have J := Inv.made (C := C) I
  have rel : Vals (V.ref (s.heap.objs.size + 1) :: vs) (Value.ref (s.heap.objs.size + 1) :: us) := .cons rfl r
  have len : (Value.ref (s.heap.objs.size + 1) :: us).length = ps.length := by
    rw [← rel.length]
    exact F.len _ _ _ _ want
  have bind := hb _ (Value.ref (s.heap.objs.size + 1) :: us) J.kIn (by rw [List.append_nil]; exact len)
  rw [List.append_nil] at bind
  have body := F.run _ X.stack _ _ ⟨Value.ref (s.heap.objs.size + 1) :: us, []⟩ (Value.ref (s.heap.objs.size + 1) :: us) _ _ E (hr.make C us []) (J.env0.make C us []) bind rel want
  refine wpAny_call (make_map (f := f) I.kIn M.makes M.init (beq_iff_eq.mp M.fn) (codeAny_mono body fun res s' got => ?_))
  cases res with
  | error er => exact hx pins _ _ er s' J got
  | ok fl =>
    cases fl with
    | ret u =>
      obtain ⟨v, H', J2, rv, rfl, q⟩ := J.after got
      exact ⟨rv, V.ref (s.heap.objs.size + 1), H', J2, rfl, q⟩
    | _ => exact False.elim got
theorem pe_mkW (c : MkCal X.prog X.w K X.mg X.base (L2.CX X.prog X.w) k x ps sp) (hr : Room (k + 1) X.A) (tk : Takes X W) (hg : Gl X x) (ha : PA X (e :: es) t)
    (hdb : (x == ("__debug__" : Str)) = false := by decide) (he : starEach (e :: es) X.env = (false, eval e X.env) :: starEach es X.env := by rfl)
    (hpl : (backTo pos (starEach es X.env)).any (·.1) = false := by rfl) (hK : X.K = K := by rfl) : PE X (.Call (.Name x p) (e :: es) [] pos) (tMkW K x sp W t) := by
  subst hK
  obtain ⟨fd, F, b, M, g⟩ := c.ex
  refine ⟨fun pins s σ H Q I h => ?_⟩
  refine wpAny_Call_Name_kw (ld_glob I hg g ?_ hdb)
  refine PySem.W.callWith_K (h₀ := X.base) I.ok.mod.kin M.kp (thn (ha.run pos pins s σ H _ I h) fun us s1 ⟨vs, H1, I1, r, q⟩ => ⟨I1.kIn, ?_⟩) he hpl
  exact make_raises (E := WE W σ) M F hr b (passAt tk σ) I1 r q
end
end Sw

set_option Elab.async false
set_option linter.all false
set_option maxRecDepth 100000
set_option maxHeartbeats 4000000
namespace Sw
open PySem PySem.Spec PyProof.Rows L2
/-! ## != of data, or of two dicts that are alike -/
def rNeX (K : PySem.W.Frag) : R2 := fun x y H Q => rNeD K x y H Q ∨ rNeDA x y H Q
theorem op_neX {X : Cx} (hu : X.A.units + 64 < cLine) : OpR X (compareOp .NotEq) (rNeX X.K) := by
  intro pins s σ H x y v u Q I rx ry h
  rcases h with h | h
  · exact op_neD hu pins s σ H x y v u Q I rx ry h
  · exact op_ne_dictA (by omega) pins s σ H x y v u Q I rx ry h
end Sw

set_option Elab.async false
set_option linter.all false
set_option maxRecDepth 100000
set_option maxHeartbeats 4000000
namespace Sw
open PySem PySem.Spec PyProof.Rows L2
def topS (i : Nat) : Stmt := PySem.Challenge.pw_sortweb_k01_refused_in_order.main.body.getD i (.Pass ⟨0, 0, 0, 0⟩)
/-! ## Promises of the law's own drawing -/
def sp_ldraw (K : PySem.W.Frag) : Sp := fun vs H Q _ => ∃ c k j : Int, vs = [.int c, .int k, .int j] ∧ (0 ≤ k ∧ k ≤ 1000) ∧ (0 ≤ j ∧ j ≤ 1000) ∧ ∀ n : Int, 0 ≤ n → n < 715827877 → Q (.int n) H
def sp_lbricks (K : PySem.W.Frag) : Sp := fun vs H Q _ => ∃ n : Nat, vs = [.int (n : Int)] ∧ n ≤ 7 ∧
  ∀ H' l ps cs, Same H H' → H l = none → H' l = some (.lst (Rfs ps)) → Prs K H' ps cs → CmpsOk n cs → cs.length ≤ 28 → Q (.ref l) H'
def sp_lcomparer (K : PySem.W.Frag) : Sp := fun vs H Q _ => ∃ (m : Int) (n : Nat), vs = [.int m, .int (n : Int)] ∧ 0 ≤ m ∧ 2 ≤ n ∧ n ≤ 10 ∧
  ∀ H' p c, Same H H' → H p = none → H' p = some (.tup (V2 c)) → CmpOk n c → Q (.ref p) H'
def sp_lweb (K : PySem.W.Frag) : Sp := fun vs H Q _ => ∃ (a : Addr) (ns : List Int), vs = [.ref a] ∧ SqL K H a (ns.map V.int) ∧ ns.length ≤ 63 ∧
  ∀ (H' : Hp) (p c : Addr) (ps : List Addr) (n : Nat) (cs : List Cmp), Same H H' → H p = none → H c = none → H' p = some (.tup [.int (n : Int), .ref c]) → H' c = some (.lst (Rfs ps)) → Prs K H' ps cs → WebOk n cs → 1 ≤ n → n ≤ 7 → Q (.ref p) H'
/-! ## Promises of the program, quiet -/
def WebAt (K : PySem.W.Frag) (H : Hp) (a : Addr) (n : Nat) (cs : List Cmp) : Prop := ∃ ps : List Addr, SqL K H a (Rfs ps) ∧ Prs K H ps cs ∧ WebOk n cs ∧ 1 ≤ n ∧ n ≤ 10
def sp_iswhole (K : PySem.W.Frag) : Sp := fun vs H Q _ => ∃ (v : V) (T : String), vs = [v] ∧ TyB K H v T ∧ Q (.bl (decide (T = "int"))) H
def sp_isline (K : PySem.W.Frag) : Sp := fun vs H Q _ => ∃ (n : Nat) (v : V) (T : String), vs = [.int (n : Int), v] ∧ TyB K H v T ∧ Q (.bl (lnV n v)) H
def sp_iscomparer (K : PySem.W.Frag) : Sp := fun vs H Q _ => ∃ (n : Nat) (v : V) (b : Bool), vs = [.int (n : Int), v] ∧ ItOk K H n v b ∧ Q (.bl b) H
def sq_needlines (K : PySem.W.Frag) : Sp := fun vs H Q _ => ∃ n : Nat, vs = [.int (n : Int)] ∧ 1 ≤ n ∧ n ≤ 10 ∧ Q .non H
def sq_needweb (K : PySem.W.Frag) : Sp := fun vs H Q _ => ∃ (n : Nat) (a : Addr) (cs : List Cmp), vs = [.int (n : Int), .ref a] ∧ WebAt K H a n cs ∧ ∀ H', Same H H' → Q .non H'
def sq_needrow (K : PySem.W.Frag) : Sp := fun vs H Q _ => ∃ (n : Nat) (a : Addr) (r : Row), vs = [.int (n : Int), .ref a] ∧ SqL K H a (vis r) ∧ r.length = n ∧ n ≤ 10 ∧ ∀ H', Same H H' → Q .non H'
def sq_run (K : PySem.W.Frag) : Sp := fun vs H Q _ => ∃ (n : Nat) (a b : Addr) (cs : List Cmp) (r : Row), vs = [.int (n : Int), .ref a, .ref b] ∧ WebAt K H a n cs ∧ SqL K H b (vis r) ∧ r.length = n ∧
  ∀ H' p, Same H H' → H p = none → H' p = some (.lst (vis (gone cs r))) → Q (.ref p) H'
def sq_steps (K : PySem.W.Frag) : Sp := fun vs H Q _ => ∃ (n : Nat) (a b : Addr) (cs : List Cmp) (r : Row), vs = [.int (n : Int), .ref a, .ref b] ∧ WebAt K H a n cs ∧ SqL K H b (vis r) ∧ r.length = n ∧
  ∀ H' p qs, Same H H' → H p = none → H' p = some (.lst (Rfs qs)) → Own H H' qs (trace cs r) → Q (.ref p) H'
def sp_rbehind (K : PySem.W.Frag) : Sp := fun vs H Q _ => ∃ (a b : Addr) (n : Nat) (r : Row) (c : Cmp), vs = [.ref a, .ref b] ∧ SqL K H a (vis r) ∧ r.length = n ∧ SqT K H b (V2 c) ∧ CmpOk n c ∧ ∀ H' p, Same H H' → H p = none → H' p = some (.lst (vis (goC r c))) → Q (.ref p) H'
/-! ## Promises of the columns -/
def sp_allcolumns (K : PySem.W.Frag) : Sp := fun vs H Q _ => ∃ n : Nat, vs = [.int (n : Int)] ∧ n ≤ 10 ∧ ∀ H' p, Same H H' → H p = none → H' p = some (.lst (vis (cols n []))) → Q (.ref p) H'
def sp_greater (K : PySem.W.Frag) : Sp := fun vs H Q _ => ∃ (x : Addr) (n a b : Nat) (cs : List Cmp), vs = [.ref x, .int (a : Int), .int (b : Int)] ∧ SqL K H x (vis (cols n cs)) ∧ a < n ∧ b < n ∧ Q (.int (maskN (gtB cs a b) (bares n) : Nat)) H
def sp_behind (K : PySem.W.Frag) : Sp := fun vs H Q _ => ∃ (x y : Addr) (n : Nat) (cs : List Cmp) (c : Cmp), vs = [.ref x, .ref y] ∧ SqL K H x (vis (cols n cs)) ∧ SqT K H y (V2 c) ∧ CmpOk n c ∧ ∀ H' p, Same H H' → H p = none → H' p = some (.lst (vis (cols n (cs ++ [c])))) → Q (.ref p) H'
def sp_columnsout (K : PySem.W.Frag) : Sp := fun vs H Q _ => ∃ (n : Nat) (a : Addr) (cs : List Cmp), vs = [.int (n : Int), .ref a] ∧ WebAt K H a n cs ∧ ∀ H' p, Same H H' → H p = none → H' p = some (.lst (vis (cols n cs))) → Q (.ref p) H'
/-- the row that is told, one and the same each time; None where there is none -/
def TellsB (K : PySem.W.Frag) (H : Hp) (Q : VK) (n : Nat) (f : Row → Bool) : Prop := (firstB n f = none → ∀ H', Same H H' → Q .non H') ∧ ∀ r, firstB n f = some r → ∀ H' p, Same H H' → H p = none → H' p = some (.lst (vis r)) → Q (.ref p) H'
def sp_rowof (K : PySem.W.Frag) : Sp := fun vs H Q _ => ∃ n t : Nat, vs = [.int (n : Int), .int (t : Int)] ∧ n ≤ 10 ∧ ∀ H' p, Same H H' → H p = none → H' p = some (.lst (vis (bareR n t))) → Q (.ref p) H'
def sp_firstrow (K : PySem.W.Frag) : Sp := fun vs H Q _ => ∃ (n : Nat) (f : Row → Bool), vs = [.int (n : Int), .int (maskN f (bares n) : Nat)] ∧ n ≤ 10 ∧ TellsB K H Q n f
def sq_needplace (K : PySem.W.Frag) : Sp := fun vs H Q _ => ∃ (a : Addr) (xs : List V) (k : Nat), vs = [.ref a, .int (k : Int)] ∧ SqL K H a xs ∧ k < xs.length ∧ Q .non H
def sq_stirring (K : PySem.W.Frag) : Sp := fun vs H Q _ => ∃ (n : Nat) (a : Addr) (cs : List Cmp) (k : Nat), vs = [.int (n : Int), .ref a, .int (k : Int)] ∧ WebAt K H a n cs ∧ k < cs.length ∧ TellsB K H Q n (stirsAt cs k)
/-- the places of needless comparers -/
def idle (n : Nat) (cs : List Cmp) : List Nat := (List.range cs.length).filter fun k => !(bares n).any (stirsAt cs k)
def lean (n : Nat) (cs : List Cmp) : List Cmp := pick (fun k => (bares n).any (stirsAt cs k)) 0 cs
def sq_needless (K : PySem.W.Frag) : Sp := fun vs H Q _ => ∃ (n : Nat) (a : Addr) (cs : List Cmp), vs = [.int (n : Int), .ref a] ∧ WebAt K H a n cs ∧ ∀ H' p, Same H H' → H p = none → H' p = some (.lst (natL (idle n cs))) → Q (.ref p) H'
def sq_pruned (K : PySem.W.Frag) : Sp := fun vs H Q _ => ∃ (n : Nat) (a : Addr) (cs : List Cmp), vs = [.int (n : Int), .ref a] ∧ WebAt K H a n cs ∧ ∀ H' p ps, Same H H' → H p = none → H' p = some (.lst (Rfs ps)) → Prs K H' ps (lean n cs) → Q (.ref p) H'
def sortsB (cs : List Cmp) (n : Nat) (r : Row) : Bool := (List.range (n - 1)).any fun k => gtB cs k (k + 1) r
def sq_unsorted (K : PySem.W.Frag) : Sp := fun vs H Q _ => ∃ (n : Nat) (a : Addr) (cs : List Cmp), vs = [.int (n : Int), .ref a] ∧ WebAt K H a n cs ∧ TellsB K H Q n (sortsB cs n)
def diffB (cs ds : List Cmp) (n : Nat) (r : Row) : Bool := (List.range n).any fun k => one0 (gone cs r) k != one0 (gone ds r) k
def sq_differing (K : PySem.W.Frag) : Sp := fun vs H Q _ => ∃ (n : Nat) (a b : Addr) (cs ds : List Cmp), vs = [.int (n : Int), .ref a, .ref b] ∧ WebAt K H a n cs ∧ WebAt K H b n ds ∧ TellsB K H Q n (diffB cs ds n)
theorem TellsB.on {K : PySem.W.Frag} {H H1 : Hp} {Q : VK} {n : Nat} {f : Row → Bool} (s : Same H H1) (t : TellsB K H Q n f) : TellsB K H1 Q n f :=
  ⟨fun z H' s' => t.1 z H' (s.trans s'), fun r z H' p s' np hp => t.2 r z H' p (s.trans s') (s.free np) hp⟩
/-! ## Promises of layers and chains -/
def sp_depths (K : PySem.W.Frag) : Sp := fun vs H Q _ => ∃ (n : Nat) (a : Addr) (cs : List Cmp), vs = [.int (n : Int), .ref a] ∧ WebAt K H a n cs ∧ ∀ H' p, Same H H' → H p = none → H' p = some (.lst (natL (tiers cs))) → Q (.ref p) H'
def sp_meet (K : PySem.W.Frag) : Sp := fun vs H Q _ => ∃ (a b : Addr) (c d : Cmp), vs = [.ref a, .ref b] ∧ SqT K H a (V2 c) ∧ SqT K H b (V2 d) ∧ Q (.bl (share c d)) H
/-- lists of comparers, each a new one, no two the same -/
def Lays (K : PySem.W.Frag) (H0 H : Hp) (ls : List Addr) (xss : List (List Cmp)) : Prop := All2 (fun l xs => H0 l = none ∧ ∃ ps, H l = some (.lst (Rfs ps)) ∧ Prs K H ps xs) ls xss ∧ ls.Nodup
def sq_layers (K : PySem.W.Frag) : Sp := fun vs H Q _ => ∃ (n : Nat) (a : Addr) (cs : List Cmp), vs = [.int (n : Int), .ref a] ∧ WebAt K H a n cs ∧ ∀ H' p ls, Same H H' → H p = none → H' p = some (.lst (Rfs ls)) → Lays K H H' ls (layersOf cs) → p ∉ ls → Q (.ref p) H'
def sq_chain (K : PySem.W.Frag) : Sp := fun vs H Q _ => ∃ (n : Nat) (a : Addr) (cs : List Cmp), vs = [.int (n : Int), .ref a] ∧ WebAt K H a n cs ∧ ∀ H' p, Same H H' → H p = none → H' p = some (.lst (natL (chainOf cs))) → Q (.ref p) H'
/-! ## Promises of turning -/
def sq_needorder (K : PySem.W.Frag) : Sp := fun vs H Q _ => ∃ (n : Nat) (b : Addr) (o : List Nat), vs = [.int (n : Int), .ref b] ∧ SqL K H b (natL o) ∧ o.Perm (List.range n) ∧ n ≤ 10 ∧ ∀ H', Same H H' → Q .non H'
def sq_renamed (K : PySem.W.Frag) : Sp := fun vs H Q _ => ∃ (n : Nat) (a b : Addr) (cs : List Cmp) (o : List Nat), vs = [.int (n : Int), .ref a, .ref b] ∧ WebAt K H a n cs ∧ SqL K H b (natL o) ∧ o.Perm (List.range n) ∧
  ∀ H' p qs, Same H H' → H p = none → H' p = some (.lst (Rfs qs)) → Prs K H' qs (cs.map (callC o)) → Q (.ref p) H'
def sq_upside (K : PySem.W.Frag) : Sp := fun vs H Q _ => ∃ (n : Nat) (a : Addr) (cs : List Cmp), vs = [.int (n : Int), .ref a] ∧ WebAt K H a n cs ∧
  ∀ H' p qs, Same H H' → H p = none → H' p = some (.lst (Rfs qs)) → Prs K H' qs (cs.map (upC n)) → Q (.ref p) H'
/-! ## Promises of turning: straight -/
def sq_straightened (K : PySem.W.Frag) : Sp := fun vs H Q _ => ∃ (n : Nat) (a : Addr) (cs : List Cmp), vs = [.int (n : Int), .ref a] ∧ WebAt K H a n cs ∧
  ∀ H' p c s qs, Same H H' → H p = none → H c = none → H s = none → c ≠ s → H' p = some (.tup [.ref c, .ref s]) → H' c = some (.lst (Rfs qs)) → Prs K H' qs (strOf n cs).1 → H' s = some (.lst (natL (strOf n cs).2)) → Q (.ref p) H'
/-! ## Promises of the defs that make webs -/
def spf_pmerging (f : Nat) (K : PySem.W.Frag) : Sp := fun vs H Q _ => ∃ (a b : Addr) (xs ys : List Nat), vs = [.ref a, .ref b] ∧ H a = some (.lst (natL xs)) ∧ H b = some (.lst (natL ys)) ∧ 2 * xs.length ≤ 2 ^ f ∧ 2 * ys.length ≤ 2 ^ f ∧ f ≤ 5 ∧ ∀ H' p qs, Same H H' → H p = none → H' p = some (.lst (Rfs qs)) → Prs K H' qs (mergeF f xs ys) → Q (.ref p) H'
def sp_pmerging (K : PySem.W.Frag) : Sp := spf_pmerging 5 K
def sq_needpart (K : PySem.W.Frag) : Sp := fun vs H Q _ => ∃ n : Nat, vs = [.int (n : Int)] ∧ n ≤ 10 ∧ Q .non H
def spf_psorting (f : Nat) (K : PySem.W.Frag) : Sp := fun vs H Q _ => ∃ (a : Addr) (xs : List Nat), vs = [.ref a] ∧ H a = some (.lst (natL xs)) ∧ xs.length ≤ 2 ^ f ∧ f ≤ 4 ∧ ∀ H' p qs, Same H H' → H p = none → H' p = some (.lst (Rfs qs)) → Prs K H' qs (sortF f xs) → Q (.ref p) H'
def sp_psorting (K : PySem.W.Frag) : Sp := spf_psorting 4 K
/-- a web whose list may be changed -/
def WebH (K : PySem.W.Frag) (H : Hp) (a : Addr) (n : Nat) (cs : List Cmp) : Prop := ∃ ps : List Addr, H a = some (.lst (Rfs ps)) ∧ Prs K H ps cs ∧ WebOk n cs ∧ 1 ≤ n ∧ n ≤ 10
def sq_merging (K : PySem.W.Frag) : Sp := fun vs H Q _ => ∃ m k : Nat, vs = [.int (m : Int), .int (k : Int)] ∧ 1 ≤ m + k ∧ m + k ≤ 10 ∧ ∀ H' p qs, Same H H' → H p = none → H' p = some (.lst (Rfs qs)) → Prs K H' qs (mergeW m k) → Q (.ref p) H'
def sq_beside (K : PySem.W.Frag) : Sp := fun vs H Q _ => ∃ (n m : Nat) (a b : Addr) (cs ds : List Cmp), vs = [.int (n : Int), .ref a, .int (m : Int), .ref b] ∧ WebH K H a n cs ∧ WebAt K H b m ds ∧ n + m ≤ 10 ∧ cs.length + ds.length ≤ 60 ∧
  ∀ H' p qs, Same H H' → H p = none → H' p = some (.lst (Rfs qs)) → Prs K H' qs (cs ++ ds.map (besC n)) → Q (.ref p) H'
def sq_sorting (K : PySem.W.Frag) : Sp := fun vs H Q _ => ∃ n : Nat, vs = [.int (n : Int)] ∧ 1 ≤ n ∧ n ≤ 10 ∧ ∀ H' p qs, Same H H' → H p = none → H' p = some (.lst (Rfs qs)) → Prs K H' qs (sortW n) → Q (.ref p) H'
/-! ## A bench -/
theorem nLC : ¬ (("_lines" : Str) = "_comparers") := by decide +kernel
theorem nLR : ¬ (("_lines" : Str) = "_rows") := by decide +kernel
theorem nCL : ¬ (("_comparers" : Str) = "_lines") := by decide +kernel
theorem nCR : ¬ (("_comparers" : Str) = "_rows") := by decide +kernel
theorem nRL : ¬ (("_rows" : Str) = "_lines") := by decide +kernel
theorem nRC : ¬ (("_rows" : Str) = "_comparers") := by decide +kernel
/-- what a bench keeps: lines, comparers, the rows' numbers -/
def bf (n : Nat) (l R : Addr) : List (Str × V) := putF "_rows" (.ref R) (putF "_comparers" (.ref l) (putF "_lines" (.int (n : Int)) []))
theorem bf_lines (n : Nat) (l R : Addr) : (bf n l R).lookup ("_lines" : Str) = some (.int (n : Int)) := by
  unfold bf
  rw [lookup_putF, if_neg nLR, lookup_putF, if_neg nLC, lookup_putF, if_pos rfl]
theorem bf_comps (n : Nat) (l R : Addr) : (bf n l R).lookup ("_comparers" : Str) = some (.ref l) := by
  unfold bf
  rw [lookup_putF, if_neg nCR, lookup_putF, if_pos rfl]
theorem bf_rows (n : Nat) (l R : Addr) : (bf n l R).lookup ("_rows" : Str) = some (.ref R) := by
  unfold bf
  rw [lookup_putF, if_pos rfl]
theorem bf_no (n : Nat) (l R : Addr) {m : Str} (h1 : ¬ m = "_lines") (h2 : ¬ m = "_comparers") (h3 : ¬ m = "_rows") : (bf n l R).lookup m = none := by
  unfold bf
  rw [lookup_putF, if_neg h3, lookup_putF, if_neg h2, lookup_putF, if_neg h1]
  all_goals rfl
structure BenchT (K : PySem.W.Frag) : Prop where
  cl : Cls K (He.ga K "Bench")
  nL : NoAttr K (He.ga K "Bench") "_lines"
  nC : NoAttr K (He.ga K "Bench") "_comparers"
  nR : NoAttr K (He.ga K "Bench") "_rows"
/-- all stays but what stands at l, R -/
def KeepB (l R : Addr) (H H' : Hp) : Prop := ∀ b o, b ≠ l → b ≠ R → H b = some o → H' b = some o
/-- the numbers of the rows behind each part of the comparers -/
def OutsAt (H : Hp) (n : Nat) (cs : List Cmp) (l R : Addr) (qs : List Addr) : Prop := qs.length = cs.length + 1 ∧ ∀ (i : Nat) (q : Addr), qs[i]? = some q → q ≠ l ∧ q ≠ R ∧ H q = some (.lst (natL (outsN n (cs.take i))))
/-- a bench of n lines at p, cs put; its lists stand at l and R -/
def BenchAt (K : PySem.W.Frag) (H : Hp) (p : Addr) (n : Nat) (cs : List Cmp) (l R : Addr) (qs : List Addr) : Prop :=
  ∃ dx ps, H p = some (.ins (He.ga K "Bench") dx (bf n l R)) ∧ H l = some (.lst (Rfs ps)) ∧ Prs K H ps cs ∧ H R = some (.lst (Rfs qs)) ∧ OutsAt H n cs l R qs ∧ l ≠ R ∧ WebOk n cs ∧ 1 ≤ n ∧ n ≤ 10
def sq_binit (K : PySem.W.Frag) : Sp := fun vs H Q _ => ∃ (p dx : Addr) (n : Nat), vs = [.ref p, .int (n : Int)] ∧ H p = some (.ins (He.ga K "Bench") dx []) ∧ 1 ≤ n ∧ n ≤ 10 ∧
  ∀ H' l R d, (∀ b o, b ≠ p → H b = some o → H' b = some o) → H l = none → H R = none → H d = none → BenchAt K H' p n [] l R [d] → Q .non H'
/-! ## Promises of the program that refuse -/
def sp_needlines (K : PySem.W.Frag) : Sp := fun vs H Q E => ∃ (v : V) (T : String), vs = [v] ∧ TyB K H v T ∧ (noV v = true → Q .non H) ∧ (noV v = false → E (.ref (He.ga K "BadLines")) none H)
def sp_needweb (K : PySem.W.Frag) : Sp := fun vs H Q E => ∃ (lv cv : V) (d : Verd), vs = [lv, cv] ∧ WebV K H lv cv d ∧ (d = .good → ∀ H', Same H H' → Q .non H') ∧ (d ≠ .good → Refu K H E d)
def sp_webtext (K : PySem.W.Frag) : Sp := fun vs H Q E => ∃ (lv cv : V) (d : Verd), vs = [lv, cv] ∧ WebV K H lv cv d ∧ (d = .good → ∃ (n : Nat) (a : Addr) (cs : List Cmp), lv = .int (n : Int) ∧ cv = .ref a ∧ WebAt K H a n cs ∧ ∀ H', Same H H' → Q (.str (webTx n cs)) H') ∧ (d ≠ .good → Refu K H E d)
def sp_lword (K : PySem.W.Frag) : Sp := fun vs H Q _ => ∃ (v : V) (u : Str), vs = [v] ∧ ((v = .non ∧ u = "") ∨ ∃ (a : Addr) (d : Option Addr) (C : Str), v = .ref a ∧ H a = some (ErO (.ref (He.ga K C)) d a) ∧ DicOk H d ∧ (C, u) ∈ errWs) ∧ ∀ H', Same H H' → Q (.str u) H'
def isI : V → Bool
  | .int _ => true
  | _ => false
/-- a place of m -/
def plV (m : Nat) : V → Bool
  | .int i => decide (0 ≤ i ∧ i < (m : Int))
  | _ => false
/-- a part of a row -/
def paV : V → Bool
  | .int i => decide (0 ≤ i ∧ i ≤ 10)
  | _ => false
/-- what need_row finds -/
inductive RowV (K : PySem.W.Frag) (H : Hp) (n : Nat) : V → Bool → Prop
  | kind {v : V} {T : String} (h : TyB K H v T) (ne : T ≠ "list") : RowV K H n v false
  | list {a : Addr} {xs : List V} (h : SqL K H a xs) (few : xs.length ≤ 1000) (each : ∀ x ∈ xs, ∃ T, TyB K H x T) : RowV K H n (.ref a) (decide (xs.length = n) && xs.all isI)
/-- what _need_order finds -/
inductive OrdV (K : PySem.W.Frag) (H : Hp) (n : Nat) : V → Bool → Prop
  | kind {v : V} {T : String} (h : TyB K H v T) (ne : T ≠ "list") : OrdV K H n v false
  | other {a : Addr} {xs : List V} (h : SqL K H a xs) (few : xs.length ≤ 1000) (each : ∀ x ∈ xs, ∃ T, TyB K H x T) (no : xs.all isI = false) : OrdV K H n (.ref a) false
  | whole {a : Addr} {r : Row} {b : Bool} (h : SqL K H a (vis r)) (few : r.length ≤ 1000) (hb : b = true ↔ ∃ o : List Nat, r = natI o ∧ o.Perm (List.range n)) : OrdV K H n (.ref a) b
def Over2 (K : PySem.W.Frag) (sq : Sp) : Sp := fun vs H Q E => ∃ (lv cv : V) (d : Verd), vs = [lv, cv] ∧ WebV K H lv cv d ∧ (d = .good → sq vs H Q E) ∧ (d ≠ .good → Refu K H E d)
def sp_unsorted (K : PySem.W.Frag) : Sp := Over2 K (sq_unsorted K)
def sp_needless (K : PySem.W.Frag) : Sp := Over2 K (sq_needless K)
def sp_pruned (K : PySem.W.Frag) : Sp := Over2 K (sq_pruned K)
def sp_layers (K : PySem.W.Frag) : Sp := Over2 K (sq_layers K)
def sp_chain (K : PySem.W.Frag) : Sp := Over2 K (sq_chain K)
def sp_upside (K : PySem.W.Frag) : Sp := Over2 K (sq_upside K)
def sp_straightened (K : PySem.W.Frag) : Sp := Over2 K (sq_straightened K)
def sp_needrow (K : PySem.W.Frag) : Sp := fun vs H Q E => ∃ (n : Nat) (rv : V) (b : Bool), vs = [.int (n : Int), rv] ∧ RowV K H n rv b ∧ (b = true → ∀ H', Same H H' → Q .non H') ∧ (b = false → ∀ H', Same H H' → E (.ref (He.ga K "BadRow")) none H')
def OverRow (K : PySem.W.Frag) (sq : Sp) : Sp := fun vs H Q E => ∃ (lv cv rv : V) (d : Verd), vs = [lv, cv, rv] ∧ WebV K H lv cv d ∧ (d ≠ .good → Refu K H E d) ∧
  (d = .good → ∃ (n : Nat) (b : Bool), lv = .int (n : Int) ∧ RowV K H n rv b ∧ (b = true → sq vs H Q E) ∧ (b = false → ∀ H', Same H H' → E (.ref (He.ga K "BadRow")) none H'))
def sp_run (K : PySem.W.Frag) : Sp := OverRow K (sq_run K)
def sp_steps (K : PySem.W.Frag) : Sp := OverRow K (sq_steps K)
def sp_needplace (K : PySem.W.Frag) : Sp := fun vs H Q E => ∃ (a : Addr) (xs : List V) (v : V) (T : String), vs = [.ref a, v] ∧ SqL K H a xs ∧ TyB K H v T ∧ (plV xs.length v = true → Q .non H) ∧ (plV xs.length v = false → E (.ref (He.ga K "BadPlace")) none H)
def sp_stirring (K : PySem.W.Frag) : Sp := fun vs H Q E => ∃ (lv cv tv : V) (d : Verd), vs = [lv, cv, tv] ∧ WebV K H lv cv d ∧ (d ≠ .good → Refu K H E d) ∧
  (d = .good → ∃ (a : Addr) (xs : List V) (T : String), cv = .ref a ∧ SqL K H a xs ∧ TyB K H tv T ∧ (plV xs.length tv = true → sq_stirring K vs H Q E) ∧ (plV xs.length tv = false → ∀ H', Same H H' → E (.ref (He.ga K "BadPlace")) none H'))
def sp_needorder (K : PySem.W.Frag) : Sp := fun vs H Q E => ∃ (n : Nat) (v : V) (b : Bool), vs = [.int (n : Int), v] ∧ n ≤ 10 ∧ OrdV K H n v b ∧ (b = true → ∀ H', Same H H' → Q .non H') ∧ (b = false → ∀ H', Same H H' → E (.ref (He.ga K "BadOrder")) none H')
def sp_renamed (K : PySem.W.Frag) : Sp := fun vs H Q E => ∃ (lv cv tv : V) (d : Verd), vs = [lv, cv, tv] ∧ WebV K H lv cv d ∧ (d ≠ .good → Refu K H E d) ∧
  (d = .good → ∃ (n : Nat) (b : Bool), lv = .int (n : Int) ∧ n ≤ 10 ∧ OrdV K H n tv b ∧ (b = true → sq_renamed K vs H Q E) ∧ (b = false → ∀ H', Same H H' → E (.ref (He.ga K "BadOrder")) none H'))
def sp_differing (K : PySem.W.Frag) : Sp := fun vs H Q E => ∃ (lv cv ov : V) (d : Verd), vs = [lv, cv, ov] ∧ WebV K H lv cv d ∧ (d ≠ .good → Refu K H E d) ∧
  (d = .good → ∃ d2 : Verd, WebV K H lv ov d2 ∧ (d2 ≠ .good → Refu K H E d2) ∧ (d2 = .good → sq_differing K vs H Q E))
def sp_needpart (K : PySem.W.Frag) : Sp := fun vs H Q E => ∃ (v : V) (T : String), vs = [v] ∧ TyB K H v T ∧ (paV v = true → Q .non H) ∧ (paV v = false → E (.ref (He.ga K "BadLines")) none H)
def sp_merging (K : PySem.W.Frag) : Sp := fun vs H Q E => ∃ (mv kv : V) (T T' : String), vs = [mv, kv] ∧ TyB K H mv T ∧ TyB K H kv T' ∧ (paV mv = false ∨ paV kv = false → E (.ref (He.ga K "BadLines")) none H) ∧
  (∀ m k : Nat, mv = .int (m : Int) → kv = .int (k : Int) → m ≤ 10 → k ≤ 10 → (1 ≤ m + k ∧ m + k ≤ 10 → sq_merging K vs H Q E) ∧ (¬ (1 ≤ m + k ∧ m + k ≤ 10) → E (.ref (He.ga K "BadLines")) none H))
def sp_sorting (K : PySem.W.Frag) : Sp := fun vs H Q E => ∃ (v : V) (T : String), vs = [v] ∧ TyB K H v T ∧ (noV v = true → sq_sorting K vs H Q E) ∧ (noV v = false → E (.ref (He.ga K "BadLines")) none H)
def sp_beside (K : PySem.W.Frag) : Sp := fun vs H Q E => ∃ (lv cv mv ov : V) (d : Verd), vs = [lv, cv, mv, ov] ∧ WebV K H lv cv d ∧ (d ≠ .good → Refu K H E d) ∧
  (d = .good → ∃ d2 : Verd, WebV K H mv ov d2 ∧ (d2 ≠ .good → Refu K H E d2) ∧
    (d2 = .good → ∃ (n m : Nat) (a b : Addr) (xs ys : List V), lv = .int (n : Int) ∧ mv = .int (m : Int) ∧ cv = .ref a ∧ ov = .ref b ∧ SqL K H a xs ∧ SqL K H b ys ∧
      (10 < n + m → ∀ H', Same H H' → E (.ref (He.ga K "BadLines")) none H') ∧ (n + m ≤ 10 → 60 < xs.length + ys.length → Refu K H E (.web none)) ∧ (n + m ≤ 10 → xs.length + ys.length ≤ 60 → sq_beside K vs H Q E)))
def sp_binit (K : PySem.W.Frag) : Sp := fun vs H Q E => ∃ (p dx : Addr) (v : V) (T : String), vs = [.ref p, v] ∧ H p = some (.ins (He.ga K "Bench") dx []) ∧ TyB K H v T ∧ (noV v = true → sq_binit K vs H Q E) ∧ (noV v = false → E (.ref (He.ga K "BadLines")) none H)
/-! ## Promises of the law's own defs -/
/-- what is due -/
inductive Due where
  | good
  | web (d : Verd)
  | row
  | place
  | order
def dueW : Verd → Due
  | .good => .good
  | d => .web d
def RefuD (K : PySem.W.Frag) (H : Hp) (E : XK) : Due → Prop
  | .good => False
  | .web d => Refu K H E d
  | .row => ∀ H', Same H H' → E (.ref (He.ga K "BadRow")) none H'
  | .place => ∀ H', Same H H' → E (.ref (He.ga K "BadPlace")) none H'
  | .order => ∀ H', Same H H' → E (.ref (He.ga K "BadOrder")) none H'
/-- a part that goes with two more -/
def meV : V → Bool
  | .int i => decide (0 ≤ i ∧ i ≤ 8)
  | _ => false
def iteD (b : Bool) (d : Due) : Due := if b = true then .good else d
/-- lines that go beside n -/
def beV (n : Nat) : V → Bool
  | .int i => decide (1 ≤ i ∧ (n : Int) + i ≤ 10)
  | _ => false
def tenD : Verd → Verd
  | .good => .lines
  | d => d
/-- what is asked of a web and a thing -/
inductive MoreV (K : PySem.W.Frag) (H : Hp) : Nat → V → V → V → Due → Prop
  | web {way : Nat} {lv cv tv : V} {d : Verd} (hw : (9 ≤ way ∧ way ≤ 13) ∨ (19 ≤ way ∧ way ≤ 21)) (h : WebV K H lv cv d) (ne : d ≠ .good) : MoreV K H way lv cv tv (.web d)
  | row {way n : Nat} {cv tv : V} {b : Bool} (hw : way = 9 ∨ way = 10) (h : WebV K H (.int (n : Int)) cv .good) (hr : RowV K H n tv b) : MoreV K H way (.int (n : Int)) cv tv (iteD b .row)
  | place {n : Nat} {tv : V} {a : Addr} {ps : List Addr} {cs : List Cmp} {T : String} (ha : SqL K H a (Rfs ps)) (hp : Prs K H ps cs) (ok : WebOk n cs) (n1 : 1 ≤ n) (n10 : n ≤ 10) (ht : TyB K H tv T) : MoreV K H 11 (.int (n : Int)) (.ref a) tv (iteD (plV ps.length tv) .place)
  | order {n : Nat} {cv tv : V} {b : Bool} (h : WebV K H (.int (n : Int)) cv .good) (ho : OrdV K H n tv b) : MoreV K H 12 (.int (n : Int)) cv tv (iteD b .order)
  | diff {lv cv tv : V} {d : Verd} (h : WebV K H lv cv .good) (h2 : WebV K H lv tv d) : MoreV K H 13 lv cv tv (dueW d)
  | row0 {n : Nat} {cv tv : V} {b : Bool} (hr : RowV K H n tv b) : MoreV K H 14 (.int (n : Int)) cv tv (iteD b .row)
  | lines {way : Nat} {lv cv tv : V} {T : String} (hw : way = 15 ∨ way = 16) (ht : TyB K H tv T) : MoreV K H way lv cv tv (iteD (noV tv) (.web .lines))
  | merge {way : Nat} {lv cv tv : V} {T : String} (hw : way = 17 ∨ way = 18) (ht : TyB K H tv T) : MoreV K H way lv cv tv (iteD (meV tv) (.web .lines))
  | two {n : Nat} {a : Addr} {tv : V} {cs : List Cmp} {d : Verd} (h : WebH K H a n cs) (n8 : n ≤ 8) (h2 : WebV K H (.int 2) tv d) (few : d = .good → ∃ b ds, tv = .ref b ∧ WebAt K H b 2 ds ∧ cs.length + ds.length ≤ 60) : MoreV K H 19 (.int (n : Int)) (.ref a) tv (dueW d)
  | full {n : Nat} {a b : Addr} {cs ds : List Cmp} (h : WebH K H a n cs) (n8 : n ≤ 8) (h2 : WebAt K H b 2 ds) (many : 60 < cs.length + ds.length) : MoreV K H 19 (.int (n : Int)) (.ref a) (.ref b) (.web (.web none))
  | none {n : Nat} {a : Addr} {tv : V} {T : String} {cs : List Cmp} (h : WebH K H a n cs) (ht : TyB K H tv T) : MoreV K H 20 (.int (n : Int)) (.ref a) tv (iteD (beV n tv) (.web .lines))
  | ten {n : Nat} {a : Addr} {tv : V} {d : Verd} (h : WebV K H (.int (n : Int)) (.ref a) .good) (h2 : WebV K H (.int 10) tv d) : MoreV K H 21 (.int (n : Int)) (.ref a) tv (.web (tenD d))
def sp_loneasked (K : PySem.W.Frag) : Sp := fun vs H Q E => ∃ (way : Nat) (lv cv : V) (d : Verd), vs = [.int (way : Int), lv, cv] ∧ way ≤ 8 ∧ WebV K H lv cv d ∧ (d = .good → ∀ H', Same H H' → Q .non H') ∧ (d ≠ .good → Refu K H E d)
def sp_lmoreasked (K : PySem.W.Frag) : Sp := fun vs H Q E => ∃ (way : Nat) (lv cv tv : V) (d : Due), vs = [.int (way : Int), lv, cv, tv] ∧ MoreV K H way lv cv tv d ∧ (d = .good → ∀ H', Same H H' → Q .non H') ∧ (d ≠ .good → RefuD K H E d)
/-- what is asked -/
inductive AskV (K : PySem.W.Frag) (H : Hp) : Nat → V → V → V → Due → Prop
  | one {way : Nat} {lv cv tv : V} {d : Verd} (hw : way ≤ 8) (h : WebV K H lv cv d) : AskV K H way lv cv tv (dueW d)
  | more {way : Nat} {lv cv tv : V} {d : Due} (hw : 9 ≤ way) (h : MoreV K H way lv cv tv d) : AskV K H way lv cv tv d
def dueC : Due → Str
  | .web .lines => "BadLines"
  | .web _ => "BadWeb"
  | .row => "BadRow"
  | .place => "BadPlace"
  | .order => "BadOrder"
  | .good => ""
def dueU : Due → Str
  | .web .lines => "lines"
  | .web _ => "web"
  | .row => "row"
  | .place => "place"
  | .order => "order"
  | .good => ""
/-- a kept refusal -/
def KeptD (K : PySem.W.Frag) (H : Hp) (a : Addr) (due : Due) : Prop := ∃ d : Option Addr, H a = some (ErO (.ref (He.ga K (dueC due))) d a) ∧ DicOk H d ∧ ∀ o, due = .web (.web o) → ∃ dd, d = some dd ∧ H dd = some (.xd [("place", onV o)])
def sp_ltried (K : PySem.W.Frag) : Sp := fun vs H Q _ => ∃ (way : Nat) (lv cv tv : V) (due : Due), vs = [.int (way : Int), lv, cv, tv] ∧ AskV K H way lv cv tv due ∧ (due = .good → ∀ H', Same H H' → Q .non H') ∧ (due ≠ .good → ∀ H' a, Same H H' → KeptD K H' a due → Q (.ref a) H')
/-- what is no number of lines -/
def sp_lbadlines (K : PySem.W.Frag) : Sp := fun vs H Q _ => ∃ m : Int, vs = [.int m] ∧ 0 ≤ m ∧ ∀ H' v T, Same H H' → TyB K H' v T → noV v = false → (m % 12 ≠ 0 → meV v = false) → Q v H'
/-- what != wants to know of what is handed in as a web -/
def BadD (K : PySem.W.Frag) (H : Hp) (v : V) : Prop := (∃ (l : Addr) (xs : List V) (ds : List PyData), v = .ref l ∧ SqL K H l xs ∧ DpAll K H xs ds ∧ SeqAt.shaped (.list ds) = true ∧ PyData.eqv (.list ds) (.list ds) = true) ∨
  (∃ (T : String) (d : PyData), TyB K H v T ∧ T ≠ "list" ∧ Dp K H v d ∧ SeqAt.shaped d = true ∧ PyData.eqv d d = true) ∨ ∃ a : Addr, v = .ref a ∧ H a = some (.dK [])
def sp_lbadweb (K : PySem.W.Frag) : Sp := fun vs H Q _ => ∃ (n : Nat) (a : Addr) (m : Int) (cs : List Cmp), vs = [.int (n : Int), .ref a, .int m] ∧ 0 ≤ m ∧ WebH K H a n cs ∧
  ∀ H' p v o, Same H H' → H p = none → H' p = some (.tup [v, onV o]) → WebV K H' (.int (n : Int)) v (.web o) → BadD K H' v → Q (.ref p) H'
/-- a thing, and what is due of it beside a good web of n lines, cs its comparers -/
inductive ThV (K : PySem.W.Frag) (H : Hp) (n : Nat) (cs : List Cmp) : Nat → V → Due → Prop
  | any {way : Nat} {tv : V} (hw : way ≤ 8) : ThV K H n cs way tv .good
  | row {way : Nat} {tv : V} {b : Bool} (hw : way = 9 ∨ way = 10 ∨ way = 14) (hr : RowV K H n tv b) : ThV K H n cs way tv (iteD b .row)
  | place {tv : V} {T : String} (ht : TyB K H tv T) : ThV K H n cs 11 tv (iteD (plV cs.length tv) .place)
  | order {tv : V} {b : Bool} (ho : OrdV K H n tv b) : ThV K H n cs 12 tv (iteD b .order)
  | diff {tv : V} {d : Verd} (h : WebV K H (.int (n : Int)) tv d) : ThV K H n cs 13 tv (dueW d)
  | lines {way : Nat} {tv : V} {T : String} (hw : way = 15 ∨ way = 16) (ht : TyB K H tv T) : ThV K H n cs way tv (iteD (noV tv) (.web .lines))
  | merge {way : Nat} {tv : V} {T : String} (hw : way = 17 ∨ way = 18) (ht : TyB K H tv T) : ThV K H n cs way tv (iteD (meV tv) (.web .lines))
  | bad2 {tv : V} {d : Verd} (h : WebV K H (.int 2) tv d) (ne : d ≠ .good) : ThV K H n cs 19 tv (.web d)
  | two {b : Addr} {ds : List Cmp} (h : WebAt K H b 2 ds) (few : cs.length + ds.length ≤ 60) : ThV K H n cs 19 (.ref b) .good
  | full {b : Addr} {ds : List Cmp} (h : WebAt K H b 2 ds) (many : 60 < cs.length + ds.length) : ThV K H n cs 19 (.ref b) (.web (.web none))
  | none {tv : V} {T : String} (ht : TyB K H tv T) : ThV K H n cs 20 tv (iteD (beV n tv) (.web .lines))
  | ten {tv : V} {d : Verd} (h : WebV K H (.int 10) tv d) : ThV K H n cs 21 tv (.web (tenD d))
/-- what is due of a good thing -/
def gDue (way : Nat) (cs : List Cmp) : Due := if way = 21 then .web .lines else if way = 19 ∧ cs.length = 60 then .web (.web none) else if way = 11 ∧ cs = [] then .place else .good
def sp_lgoodthing (K : PySem.W.Frag) : Sp := fun vs H Q _ => ∃ (way n : Nat) (a : Addr) (cs : List Cmp), vs = [.int (way : Int), .int (n : Int), .ref a] ∧ way ≤ 21 ∧ WebH K H a n cs ∧ n ≤ 8 ∧ ∀ H' v, Same H H' → ThV K H' n cs way v (gDue way cs) → Q v H'
/-- the place that is told beside what is due -/
def PlD (due : Due) (o : Option Nat) : Prop := due = .web (.web o) ∨ (o = none ∧ ∀ o', due ≠ .web (.web o'))
def sp_lbadthing (K : PySem.W.Frag) : Sp := fun vs H Q _ => ∃ (way n : Nat) (a : Addr) (m : Int) (cs : List Cmp), vs = [.int (way : Int), .int (n : Int), .ref a, .int m] ∧ (9 ≤ way ∧ way ≤ 21) ∧ 0 ≤ m ∧ WebH K H a n cs ∧ n ≤ 8 ∧
  ∀ H' p v due o, Same H H' → H p = none → H' p = some (.tup [v, .str (dueU due), onV o]) → ThV K H' n cs way v due → due ≠ .good → PlD due o → Q (.ref p) H'
def sp_lwrong (K : PySem.W.Frag) : Sp := fun vs H Q _ => ∃ (n : Nat) (a : Addr) (c k : Int) (cs : List Cmp), vs = [.int (n : Int), .ref a, .int c, .int k] ∧ (0 ≤ k ∧ k ≤ 1000) ∧ WebH K H a n cs ∧ n ≤ 8 ∧ ∀ H', Same H H' → Q (.bl true) H'
abbrev sp_law := spLaw

/-! ### is_whole(value): slots 0 value -/
abbrev s_iswhole : Stmt := topS 13
abbrev N_iswhole : List Str := ["value"]
abbrev P_iswhole : List Str := ["value"]
theorem sc_iswhole : FnScope N_iswhole P_iswhole (defScope s_iswhole) := ⟨rfl, rfl, rfl, by decide +kernel, rfl, by decide +kernel, by decide +kernel⟩
def r_iswhole (K : PySem.W.Frag) : TS :=
  tRet (tOp rIsTyB (tCB (rTyp K) (tCons (tVar 0) (tNil))) (tC (.ty "int")))
/-! ### is_comparer(lines, value): slots 0 lines, 1 value, 2 a, 3 b -/
abbrev s_iscomparer : Stmt := topS 14
abbrev N_iscomparer : List Str := ["lines", "value", "a", "b"]
abbrev P_iscomparer : List Str := ["lines", "value"]
theorem sc_iscomparer : FnScope N_iscomparer P_iscomparer (defScope s_iscomparer) := ⟨rfl, rfl, rfl, by decide +kernel, rfl, by decide +kernel, by decide +kernel⟩
def r_iscomparer (K : PySem.W.Frag) : TS :=
  tSeq (tIfS (tOr (tTest (tOp rNT (tCB (rTyp K) (tCons (tVar 1) (tNil))) (tC (.ty "tuple")))) (tTest (tOp rNe (tCB (kLen K) (tCons (tVar 1) (tNil))) (tC (.int 2))))) (tRet (tC (.bl false))) (tNext)) (tSeq (tAsg (tVar 1) (gTup K 2 (gCons (gName 2) (gCons (gName 3) (gNil))))) (tRet (tAndV (tCal (sp_isline K) (tCons (tVar 0) (tCons (tVar 2) (tNil)))) (tAndV (tCal (sp_isline K) (tCons (tVar 0) (tCons (tVar 3) (tNil)))) (tOp rNe (tVar 2) (tVar 3))))))
/-! ### _is_line(lines, value): slots 0 lines, 1 value -/
abbrev s_isline : Stmt := topS 15
abbrev N_isline : List Str := ["lines", "value"]
abbrev P_isline : List Str := ["lines", "value"]
theorem sc_isline : FnScope N_isline P_isline (defScope s_isline) := ⟨rfl, rfl, rfl, by decide +kernel, rfl, by decide +kernel, by decide +kernel⟩
def r_isline (K : PySem.W.Frag) : TS :=
  tRet (tAndV (tCal (sp_iswhole K) (tCons (tVar 1) (tNil))) (tChain oLe oLt (tC (.int 0)) (tVar 1) (tVar 0)))
/-! ### need_lines(lines): slots 0 lines -/
abbrev s_needlines : Stmt := topS 16
abbrev N_needlines : List Str := ["lines"]
abbrev P_needlines : List Str := ["lines"]
theorem sc_needlines : FnScope N_needlines P_needlines (defScope s_needlines) := ⟨rfl, rfl, rfl, by decide +kernel, rfl, by decide +kernel, by decide +kernel⟩
def r_needlines (K : PySem.W.Frag) (E : XK) : TS :=
  tIfS (tOr (tNot (tB (tCal (sp_iswhole K) (tCons (tVar 0) (tNil))))) (tNot (tTest (tChain oLe oLe (tC (.int 1)) (tVar 0) (tC (.int 10)))))) (tRzA (He.ga K "BadLines") (fun cls d _ H => E cls d H) (tCons (tJoin [tC (.str "lines are a whole number from 1 to "), tFmt (tC (.int 10))]) (tNil))) (tNext)
/-! ### need_web(lines, comparers): slots 0 lines, 1 comparers, 2 place, 3 comparer -/
abbrev s_needweb : Stmt := topS 17
abbrev N_needweb : List Str := ["lines", "comparers", "place", "comparer"]
abbrev P_needweb : List Str := ["lines", "comparers"]
theorem sc_needweb : FnScope N_needweb P_needweb (defScope s_needweb) := ⟨rfl, rfl, rfl, by decide +kernel, rfl, by decide +kernel, by decide +kernel⟩
def r_needweb_f1 (K : PySem.W.Frag) (E : XK) : TS :=
  tIfS (tNot (tB (tCal (sp_iscomparer K) (tCons (tVar 0) (tCons (tVar 3) (tNil)))))) (tRzO K "BadWeb" "place" (fun cls d _ H => E cls d H) (tVar 2)) (tNext)
def r_needweb (K : PySem.W.Frag) (E : XK) : TS :=
  tSeq (tDrop (tCalW (sp_needlines K) (fun cls d _ H => E cls d H) (tCons (tVar 0) (tNil)))) (tSeq (tIfS (tOr (tTest (tOp rNT (tCB (rTyp K) (tCons (tVar 1) (tNil))) (tC (.ty "list")))) (tTest (tOp oGt (tCB (kLen K) (tCons (tVar 1) (tNil))) (tC (.int 60))))) (tRzO K "BadWeb" "place" (fun cls d _ H => E cls d H) (tC .non)) (tNext)) (tFor (iEnum K (tCons (tVar 1) (tNil))) (gTup K 2 (gCons (gName 2) (gCons (gName 3) (gNil)))) (r_needweb_f1 K E)))
/-! ### need_row(lines, row): slots 0 lines, 1 row, 2 number -/
abbrev s_needrow : Stmt := topS 18
abbrev N_needrow : List Str := ["lines", "row", "number"]
abbrev P_needrow : List Str := ["lines", "row"]
theorem sc_needrow : FnScope N_needrow P_needrow (defScope s_needrow) := ⟨rfl, rfl, rfl, by decide +kernel, rfl, by decide +kernel, by decide +kernel⟩
def r_needrow (K : PySem.W.Frag) (E : XK) : TS :=
  tSeq (tIfS (tOr (tNot (tB (tCal (sp_iswhole K) (tCons (tVar 0) (tNil))))) (tOr (tTest (tOp rNT (tCB (rTyp K) (tCons (tVar 1) (tNil))) (tC (.ty "list")))) (tTest (tOp rNe (tCB (kLen K) (tCons (tVar 1) (tNil))) (tVar 0))))) (tRzA (He.ga K "BadRow") (fun cls d _ H => E cls d H) (tCons (tC (.str "a row is a list of one number for each line")) (tNil))) (tNext)) (tIfS (tNot (tB (tCB (rAll K) (tCons (tLc (iList K (tVar 1)) (gName 2) (tYes) (tCal (sp_iswhole K) (tCons (tVar 2) (tNil))) [2]) (tNil))))) (tRzA (He.ga K "BadRow") (fun cls d _ H => E cls d H) (tCons (tC (.str "the numbers of a row are whole numbers")) (tNil))) (tNext))
/-! ### all_columns(lines): slots 0 lines, 1 columns, 2 rows, 3 _, 4 column -/
abbrev s_allcolumns : Stmt := topS 20
abbrev N_allcolumns : List Str := ["lines", "columns", "rows", "_", "column"]
abbrev P_allcolumns : List Str := ["lines"]
theorem sc_allcolumns : FnScope N_allcolumns P_allcolumns (defScope s_allcolumns) := ⟨rfl, rfl, rfl, by decide +kernel, rfl, by decide +kernel, by decide +kernel⟩
def r_allcolumns_f1 (K : PySem.W.Frag) : TS :=
  tSeq (tAsg (tLc (iList K (tVar 1)) (gName 4) (tYes) (tOp oBOr (tVar 4) (tOp oShlW (tVar 4) (tVar 2))) [4]) (gName 1)) (tSeq (tDrop (tBM K "list" rAppend (tVar 1) (tCons (tOp oShlW (tOp oSub (tOp oShlW (tC (.int 1)) (tVar 2)) (tC (.int 1))) (tVar 2)) (tNil)))) (tAsg (tOp oMul (tC (.int 2)) (tVar 2)) (gName 2)))
def r_allcolumns (K : PySem.W.Frag) : TS :=
  tSeq (tAsg (tLst (tNil)) (gName 1)) (tSeq (tAsg (tC (.int 1)) (gName 2)) (tSeq (tFor (iRng1 (tCons (tVar 0) (tNil))) (gName 3) (r_allcolumns_f1 K)) (tRet (tVar 1))))
/-! ### greater(columns, a, b): slots 0 columns, 1 a, 2 b -/
abbrev s_greater : Stmt := topS 21
abbrev N_greater : List Str := ["columns", "a", "b"]
abbrev P_greater : List Str := ["columns", "a", "b"]
theorem sc_greater : FnScope N_greater P_greater (defScope s_greater) := ⟨rfl, rfl, rfl, by decide +kernel, rfl, by decide +kernel, by decide +kernel⟩
def r_greater (K : PySem.W.Frag) : TS :=
  tRet (tOp oBAnd (tOp (rIxL K) (tVar 0) (tVar 1)) (tUn oInv (tOp (rIxL K) (tVar 0) (tVar 2))))
/-! ### behind(columns, comparer): slots 0 columns, 1 comparer, 2 a, 3 b, 4 out -/
abbrev s_behind : Stmt := topS 22
abbrev N_behind : List Str := ["columns", "comparer", "a", "b", "out"]
abbrev P_behind : List Str := ["columns", "comparer"]
theorem sc_behind : FnScope N_behind P_behind (defScope s_behind) := ⟨rfl, rfl, rfl, by decide +kernel, rfl, by decide +kernel, by decide +kernel⟩
def r_behind (K : PySem.W.Frag) : TS :=
  tSeq (tAsg (tVar 1) (gTup K 2 (gCons (gName 2) (gCons (gName 3) (gNil))))) (tSeq (tAsg (tCB (kList K) (tCons (tVar 0) (tNil))) (gName 4)) (tSeq (tAsg (tOp oBAnd (tOp (rIxL K) (tVar 0) (tVar 2)) (tOp (rIxL K) (tVar 0) (tVar 3))) (gSub (tVar 4) (tVar 2) rSetL)) (tSeq (tAsg (tOp oBOr (tOp (rIxL K) (tVar 0) (tVar 2)) (tOp (rIxL K) (tVar 0) (tVar 3))) (gSub (tVar 4) (tVar 3) rSetL)) (tRet (tVar 4)))))
/-! ### columns_out(lines, comparers): slots 0 lines, 1 comparers, 2 columns, 3 comparer -/
abbrev s_columnsout : Stmt := topS 23
abbrev N_columnsout : List Str := ["lines", "comparers", "columns", "comparer"]
abbrev P_columnsout : List Str := ["lines", "comparers"]
theorem sc_columnsout : FnScope N_columnsout P_columnsout (defScope s_columnsout) := ⟨rfl, rfl, rfl, by decide +kernel, rfl, by decide +kernel, by decide +kernel⟩
def r_columnsout_f1 (K : PySem.W.Frag) : TS :=
  tAsg (tCal (sp_behind K) (tCons (tVar 2) (tCons (tVar 3) (tNil)))) (gName 2)
def r_columnsout (K : PySem.W.Frag) : TS :=
  tSeq (tAsg (tCal (sp_allcolumns K) (tCons (tVar 0) (tNil))) (gName 2)) (tSeq (tFor (iList K (tVar 1)) (gName 3) (r_columnsout_f1 K)) (tRet (tVar 2)))
/-! ### first_row(lines, rows): slots 0 lines, 1 rows -/
abbrev s_firstrow : Stmt := topS 24
abbrev N_firstrow : List Str := ["lines", "rows"]
abbrev P_firstrow : List Str := ["lines", "rows"]
theorem sc_firstrow : FnScope N_firstrow P_firstrow (defScope s_firstrow) := ⟨rfl, rfl, rfl, by decide +kernel, rfl, by decide +kernel, by decide +kernel⟩
def r_firstrow (K : PySem.W.Frag) : TS :=
  tSeq (tIfS (tTest (tOp rEq (tVar 1) (tC (.int 0)))) (tRet (tC .non)) (tNext)) (tRet (tCal (sp_rowof K) (tCons (tVar 0) (tCons (tOp oSub (tBits (tOp oBAnd (tVar 1) (tUn oNeg (tVar 1)))) (tC (.int 1))) (tNil)))))
/-! ### row_of(lines, number): slots 0 lines, 1 number, 2 line -/
abbrev s_rowof : Stmt := topS 25
abbrev N_rowof : List Str := ["lines", "number", "line"]
abbrev P_rowof : List Str := ["lines", "number"]
theorem sc_rowof : FnScope N_rowof P_rowof (defScope s_rowof) := ⟨rfl, rfl, rfl, by decide +kernel, rfl, by decide +kernel, by decide +kernel⟩
def r_rowof (K : PySem.W.Frag) : TS :=
  tRet (tLc (iRng1 (tCons (tVar 0) (tNil))) (gName 2) (tYes) (tOp oBAnd (tOp oShr (tVar 1) (tVar 2)) (tC (.int 1))) [2])
/-! ### Bench.__init__(self, lines): slots 0 self, 1 lines -/
abbrev s_binit : Stmt := memS (topS 27) 0
abbrev N_binit : List Str := ["self", "lines"]
abbrev P_binit : List Str := ["self", "lines"]
theorem sc_binit : FnScope N_binit P_binit (defScope s_binit) := ⟨rfl, rfl, rfl, by decide +kernel, rfl, by decide +kernel, by decide +kernel⟩
def r_binit (K : PySem.W.Frag) (E : XK) : TS :=
  tSeq (tDrop (tCalW (sp_needlines K) (fun cls d _ H => E cls d H) (tCons (tVar 1) (tNil)))) (tSeq (sFld K (tVar 0) (tVar 1) "_lines") (tSeq (sFld K (tVar 0) (tLst (tNil)) "_comparers") (sFld K (tVar 0) (tLst (tCons (tLstRg (tRg1 (tOp oShl (tC (.int 1)) (tVar 1)))) (tNil))) "_rows")))
/-! ### layers(lines, comparers): slots 0 lines, 1 comparers, 2 found, 3 comparer, 4 depth -/
abbrev s_layers : Stmt := topS 31
abbrev N_layers : List Str := ["lines", "comparers", "found", "comparer", "depth"]
abbrev P_layers : List Str := ["lines", "comparers"]
theorem sc_layers : FnScope N_layers P_layers (defScope s_layers) := ⟨rfl, rfl, rfl, by decide +kernel, rfl, by decide +kernel, by decide +kernel⟩
def r_layers_f1 (K : PySem.W.Frag) (E : XK) : TS :=
  tSeq (tIfS (tTest (tOp rEq (tVar 4) (tCB (kLen K) (tCons (tVar 2) (tNil))))) (tDrop (tBM K "list" rAppend (tVar 2) (tCons (tLst (tNil)) (tNil)))) (tNext)) (tDrop (tBM K "list" rAppend (tOp (rIxL K) (tVar 2) (tVar 4)) (tCons (tVar 3) (tNil))))
def r_layers (K : PySem.W.Frag) (E : XK) : TS :=
  tSeq (tDrop (tCalW (sp_needweb K) (fun cls d _ H => E cls d H) (tCons (tVar 0) (tCons (tVar 1) (tNil))))) (tSeq (tAsg (tLst (tNil)) (gName 2)) (tSeq (tFor (iZip K (tCons (tVar 1) (tCons (tCal (sp_depths K) (tCons (tVar 0) (tCons (tVar 1) (tNil)))) (tNil)))) (gTup K 2 (gCons (gName 3) (gCons (gName 4) (gNil)))) (r_layers_f1 K E)) (tRet (tVar 2))))
/-! ### chain(lines, comparers): slots 0 lines, 1 comparers, 2 depths, 3 wanted, 4 places, 5 place -/
abbrev s_chain : Stmt := topS 32
abbrev N_chain : List Str := ["lines", "comparers", "depths", "wanted", "places", "place"]
abbrev P_chain : List Str := ["lines", "comparers"]
theorem sc_chain : FnScope N_chain P_chain (defScope s_chain) := ⟨rfl, rfl, rfl, by decide +kernel, rfl, by decide +kernel, by decide +kernel⟩
def r_chain_f1 (K : PySem.W.Frag) (E : XK) : TS :=
  tIfS (tAnd (tTest (tOp rEq (tOp (rIxL K) (tVar 2) (tVar 5)) (tVar 3))) (tOr (tTest (tOp (rEqD K) (tVar 4) (tLst (tNil)))) (tB (tCal (sp_meet K) (tCons (tOp (rIxL K) (tVar 1) (tVar 5)) (tCons (tOp (rIxL K) (tVar 1) (tOp (rIxL K) (tVar 4) (tUn oNeg (tC (.int 1))))) (tNil))))))) (tSeq (tDrop (tBM K "list" rAppend (tVar 4) (tCons (tVar 5) (tNil)))) (tAsg (tOp oSub (tVar 3) (tC (.int 1))) (gName 3))) (tNext)
def r_chain (K : PySem.W.Frag) (E : XK) : TS :=
  tSeq (tDrop (tCalW (sp_needweb K) (fun cls d _ H => E cls d H) (tCons (tVar 0) (tCons (tVar 1) (tNil))))) (tSeq (tAsg (tCal (sp_depths K) (tCons (tVar 0) (tCons (tVar 1) (tNil)))) (gName 2)) (tSeq (tAsg (tCKw (rMaxDI K) (tCons (tVar 2) (tNil)) (tCons (tC (.int 0)) (tNil))) (gName 3)) (tSeq (tAsg (tLst (tNil)) (gName 4)) (tSeq (tFor (iRevR (tRg1 (tCB (kLen K) (tCons (tVar 1) (tNil))))) (gName 5) (r_chain_f1 K E)) (tRet (tRevL K (tVar 4)))))))
/-! ### _depths(lines, comparers): slots 0 lines, 1 comparers, 2 depths, 3 on_line, 4 a, 5 b, 6 depth -/
abbrev s_depths : Stmt := topS 33
abbrev N_depths : List Str := ["lines", "comparers", "depths", "on_line", "a", "b", "depth"]
abbrev P_depths : List Str := ["lines", "comparers"]
theorem sc_depths : FnScope N_depths P_depths (defScope s_depths) := ⟨rfl, rfl, rfl, by decide +kernel, rfl, by decide +kernel, by decide +kernel⟩
def r_depths_f1 (K : PySem.W.Frag) : TS :=
  tSeq (tAsg (tCB kMax (tCons (tOp (rIxL K) (tVar 3) (tVar 4)) (tCons (tOp (rIxL K) (tVar 3) (tVar 5)) (tNil)))) (gName 6)) (tSeq (tDrop (tBM K "list" rAppend (tVar 2) (tCons (tVar 6) (tNil)))) (tSeq (tAsg (tOp oAdd (tVar 6) (tC (.int 1))) (gSub (tVar 3) (tVar 4) rSetL)) (tAsg (tOp oAdd (tVar 6) (tC (.int 1))) (gSub (tVar 3) (tVar 5) rSetL))))
def r_depths (K : PySem.W.Frag) : TS :=
  tSeq (tAsg (tLst (tNil)) (gName 2)) (tSeq (tAsg (tOp rRep (tLst (tCons (tC (.int 0)) (tNil))) (tVar 0)) (gName 3)) (tSeq (tFor (iList K (tVar 1)) (gTup K 2 (gCons (gName 4) (gCons (gName 5) (gNil)))) (r_depths_f1 K)) (tRet (tVar 2))))
/-! ### _meet(one, other): slots 0 one, 1 other, 2 a, 3 b -/
abbrev s_meet : Stmt := topS 34
abbrev N_meet : List Str := ["one", "other", "a", "b"]
abbrev P_meet : List Str := ["one", "other"]
theorem sc_meet : FnScope N_meet P_meet (defScope s_meet) := ⟨rfl, rfl, rfl, by decide +kernel, rfl, by decide +kernel, by decide +kernel⟩
def r_meet (K : PySem.W.Frag) : TS :=
  tSeq (tAsg (tVar 0) (gTup K 2 (gCons (gName 2) (gCons (gName 3) (gNil))))) (tRet (tOrV (tOp (rIn K false) (tVar 2) (tVar 1)) (tOp (rIn K false) (tVar 3) (tVar 1))))
/-! ### unsorted(lines, comparers): slots 0 lines, 1 comparers, 2 columns, 3 rows, 4 line -/
abbrev s_unsorted : Stmt := topS 36
abbrev N_unsorted : List Str := ["lines", "comparers", "columns", "rows", "line"]
abbrev P_unsorted : List Str := ["lines", "comparers"]
theorem sc_unsorted : FnScope N_unsorted P_unsorted (defScope s_unsorted) := ⟨rfl, rfl, rfl, by decide +kernel, rfl, by decide +kernel, by decide +kernel⟩
def r_unsorted_f1 (K : PySem.W.Frag) (E : XK) : TS :=
  tAsg (tOp oBOr (tVar 3) (tCal (sp_greater K) (tCons (tVar 2) (tCons (tVar 4) (tCons (tOp oAdd (tVar 4) (tC (.int 1))) (tNil)))))) (gName 3)
def r_unsorted (K : PySem.W.Frag) (E : XK) : TS :=
  tSeq (tDrop (tCalW (sp_needweb K) (fun cls d _ H => E cls d H) (tCons (tVar 0) (tCons (tVar 1) (tNil))))) (tSeq (tAsg (tCal (sp_columnsout K) (tCons (tVar 0) (tCons (tVar 1) (tNil)))) (gName 2)) (tSeq (tAsg (tC (.int 0)) (gName 3)) (tSeq (tFor (iRng1 (tCons (tOp oSub (tVar 0) (tC (.int 1))) (tNil))) (gName 4) (r_unsorted_f1 K E)) (tRet (tCal (sp_firstrow K) (tCons (tVar 0) (tCons (tVar 3) (tNil))))))))
/-! ### stirring(lines, comparers, place): slots 0 lines, 1 comparers, 2 place, 3 a, 4 b -/
abbrev s_stirring : Stmt := topS 37
abbrev N_stirring : List Str := ["lines", "comparers", "place", "a", "b"]
abbrev P_stirring : List Str := ["lines", "comparers", "place"]
theorem sc_stirring : FnScope N_stirring P_stirring (defScope s_stirring) := ⟨rfl, rfl, rfl, by decide +kernel, rfl, by decide +kernel, by decide +kernel⟩
def r_stirring (K : PySem.W.Frag) (E : XK) : TS :=
  tSeq (tDrop (tCalW (sp_needweb K) (fun cls d _ H => E cls d H) (tCons (tVar 0) (tCons (tVar 1) (tNil))))) (tSeq (tDrop (tCalW (sp_needplace K) (fun cls d _ H => E cls d H) (tCons (tVar 1) (tCons (tVar 2) (tNil))))) (tSeq (tAsg (tOp (rIxL K) (tVar 1) (tVar 2)) (gTup K 2 (gCons (gName 3) (gCons (gName 4) (gNil))))) (tRet (tCal (sp_firstrow K) (tCons (tVar 0) (tCons (tCal (sp_greater K) (tCons (tCal (sp_columnsout K) (tCons (tVar 0) (tCons (tSl (rSlL K) (tVar 1) (tNoPart) (tPart (tVar 2))) (tNil)))) (tCons (tVar 3) (tCons (tVar 4) (tNil))))) (tNil)))))))
/-! ### needless(lines, comparers): slots 0 lines, 1 comparers, 2 places, 3 columns, 4 place, 5 comparer, 6 a, 7 b -/
abbrev s_needless : Stmt := topS 38
abbrev N_needless : List Str := ["lines", "comparers", "places", "columns", "place", "comparer", "a", "b"]
abbrev P_needless : List Str := ["lines", "comparers"]
theorem sc_needless : FnScope N_needless P_needless (defScope s_needless) := ⟨rfl, rfl, rfl, by decide +kernel, rfl, by decide +kernel, by decide +kernel⟩
def r_needless_f1 (K : PySem.W.Frag) (E : XK) : TS :=
  tSeq (tAsg (tVar 5) (gTup K 2 (gCons (gName 6) (gCons (gName 7) (gNil))))) (tSeq (tIfS (tTest (tOp rEq (tCal (sp_greater K) (tCons (tVar 3) (tCons (tVar 6) (tCons (tVar 7) (tNil))))) (tC (.int 0)))) (tDrop (tBM K "list" rAppend (tVar 2) (tCons (tVar 4) (tNil)))) (tNext)) (tAsg (tCal (sp_behind K) (tCons (tVar 3) (tCons (tVar 5) (tNil)))) (gName 3)))
def r_needless (K : PySem.W.Frag) (E : XK) : TS :=
  tSeq (tDrop (tCalW (sp_needweb K) (fun cls d _ H => E cls d H) (tCons (tVar 0) (tCons (tVar 1) (tNil))))) (tSeq (tAsg (tLst (tNil)) (gName 2)) (tSeq (tAsg (tCal (sp_allcolumns K) (tCons (tVar 0) (tNil))) (gName 3)) (tSeq (tFor (iEnum K (tCons (tVar 1) (tNil))) (gTup K 2 (gCons (gName 4) (gCons (gName 5) (gNil)))) (r_needless_f1 K E)) (tRet (tVar 2)))))
/-! ### pruned(lines, comparers): slots 0 lines, 1 comparers, 2 places, 3 place, 4 comparer -/
abbrev s_pruned : Stmt := topS 39
abbrev N_pruned : List Str := ["lines", "comparers", "places", "place", "comparer"]
abbrev P_pruned : List Str := ["lines", "comparers"]
theorem sc_pruned : FnScope N_pruned P_pruned (defScope s_pruned) := ⟨rfl, rfl, rfl, by decide +kernel, rfl, by decide +kernel, by decide +kernel⟩
def r_pruned (K : PySem.W.Frag) (E : XK) : TS :=
  tSeq (tAsg (tCalW (sp_needless K) (fun cls d _ H => E cls d H) (tCons (tVar 0) (tCons (tVar 1) (tNil)))) (gName 2)) (tRet (tLc (iEnum K (tCons (tVar 1) (tNil))) (gTup K 2 (gCons (gName 3) (gCons (gName 4) (gNil)))) (tTest (tOp (rIn K true) (tVar 3) (tVar 2))) (tVar 4) [3, 4]))
/-! ### differing(lines, one, other): slots 0 lines, 1 one, 2 other, 3 rows, 4 column, 5 column_of_other -/
abbrev s_differing : Stmt := topS 40
abbrev N_differing : List Str := ["lines", "one", "other", "rows", "column", "column_of_other"]
abbrev P_differing : List Str := ["lines", "one", "other"]
theorem sc_differing : FnScope N_differing P_differing (defScope s_differing) := ⟨rfl, rfl, rfl, by decide +kernel, rfl, by decide +kernel, by decide +kernel⟩
def r_differing_f1 (K : PySem.W.Frag) (E : XK) : TS :=
  tAsg (tOp oBOr (tVar 3) (tOp oBXor (tVar 4) (tVar 5))) (gName 3)
def r_differing (K : PySem.W.Frag) (E : XK) : TS :=
  tSeq (tDrop (tCalW (sp_needweb K) (fun cls d _ H => E cls d H) (tCons (tVar 0) (tCons (tVar 1) (tNil))))) (tSeq (tDrop (tCalW (sp_needweb K) (fun cls d _ H => E cls d H) (tCons (tVar 0) (tCons (tVar 2) (tNil))))) (tSeq (tAsg (tC (.int 0)) (gName 3)) (tSeq (tFor (iZip K (tCons (tCal (sp_columnsout K) (tCons (tVar 0) (tCons (tVar 1) (tNil)))) (tCons (tCal (sp_columnsout K) (tCons (tVar 0) (tCons (tVar 2) (tNil)))) (tNil)))) (gTup K 2 (gCons (gName 4) (gCons (gName 5) (gNil)))) (r_differing_f1 K E)) (tRet (tCal (sp_firstrow K) (tCons (tVar 0) (tCons (tVar 3) (tNil))))))))
/-! ### _need_place(comparers, place): slots 0 comparers, 1 place -/
abbrev s_needplace : Stmt := topS 41
abbrev N_needplace : List Str := ["comparers", "place"]
abbrev P_needplace : List Str := ["comparers", "place"]
theorem sc_needplace : FnScope N_needplace P_needplace (defScope s_needplace) := ⟨rfl, rfl, rfl, by decide +kernel, rfl, by decide +kernel, by decide +kernel⟩
def r_needplace (K : PySem.W.Frag) (E : XK) : TS :=
  tIfS (tOr (tNot (tB (tCal (sp_iswhole K) (tCons (tVar 1) (tNil))))) (tNot (tTest (tChain oLe oLt (tC (.int 0)) (tVar 1) (tCB (kLen K) (tCons (tVar 0) (tNil))))))) (tRzA (He.ga K "BadPlace") (fun cls d _ H => E cls d H) (tCons (tC (.str "a place is that of a comparer of the web, from 0 on")) (tNil))) (tNext)
/-! ### merging(many, more): slots 0 many, 1 more -/
abbrev s_merging : Stmt := topS 43
abbrev N_merging : List Str := ["many", "more"]
abbrev P_merging : List Str := ["many", "more"]
theorem sc_merging : FnScope N_merging P_merging (defScope s_merging) := ⟨rfl, rfl, rfl, by decide +kernel, rfl, by decide +kernel, by decide +kernel⟩
def r_merging (K : PySem.W.Frag) (E : XK) : TS :=
  tSeq (tDrop (tCalW (sp_needpart K) (fun cls d _ H => E cls d H) (tCons (tVar 0) (tNil)))) (tSeq (tDrop (tCalW (sp_needpart K) (fun cls d _ H => E cls d H) (tCons (tVar 1) (tNil)))) (tSeq (tDrop (tCalW (sp_needlines K) (fun cls d _ H => E cls d H) (tCons (tOp oAdd (tVar 0) (tVar 1)) (tNil)))) (tRet (tCal (sp_pmerging K) (tCons (tLstRg (tRg1 (tVar 0))) (tCons (tLstRg (tRg2 (tVar 0) (tOp oAdd (tVar 0) (tVar 1)))) (tNil)))))))
/-! ### sorting(lines): slots 0 lines -/
abbrev s_sorting : Stmt := topS 44
abbrev N_sorting : List Str := ["lines"]
abbrev P_sorting : List Str := ["lines"]
theorem sc_sorting : FnScope N_sorting P_sorting (defScope s_sorting) := ⟨rfl, rfl, rfl, by decide +kernel, rfl, by decide +kernel, by decide +kernel⟩
def r_sorting (K : PySem.W.Frag) (E : XK) : TS :=
  tSeq (tDrop (tCalW (sp_needlines K) (fun cls d _ H => E cls d H) (tCons (tVar 0) (tNil)))) (tRet (tCal (sp_psorting K) (tCons (tLstRg (tRg1 (tVar 0))) (tNil))))
/-! ### beside(lines, comparers, more, others): slots 0 lines, 1 comparers, 2 more, 3 others, 4 a, 5 b -/
abbrev s_beside : Stmt := topS 45
abbrev N_beside : List Str := ["lines", "comparers", "more", "others", "a", "b"]
abbrev P_beside : List Str := ["lines", "comparers", "more", "others"]
theorem sc_beside : FnScope N_beside P_beside (defScope s_beside) := ⟨rfl, rfl, rfl, by decide +kernel, rfl, by decide +kernel, by decide +kernel⟩
def r_beside (K : PySem.W.Frag) (E : XK) : TS :=
  tSeq (tDrop (tCalW (sp_needweb K) (fun cls d _ H => E cls d H) (tCons (tVar 0) (tCons (tVar 1) (tNil))))) (tSeq (tDrop (tCalW (sp_needweb K) (fun cls d _ H => E cls d H) (tCons (tVar 2) (tCons (tVar 3) (tNil))))) (tSeq (tIfS (tTest (tOp oGt (tOp oAdd (tVar 0) (tVar 2)) (tC (.int 10)))) (tRzA (He.ga K "BadLines") (fun cls d _ H => E cls d H) (tCons (tJoin [tC (.str "webs beside one another have at most "), tFmt (tC (.int 10)), tC (.str " lines together")]) (tNil))) (tNext)) (tSeq (tIfS (tTest (tOp oGt (tOp oAdd (tCB (kLen K) (tCons (tVar 1) (tNil))) (tCB (kLen K) (tCons (tVar 3) (tNil)))) (tC (.int 60)))) (tRzO K "BadWeb" "place" (fun cls d _ H => E cls d H) (tC .non)) (tNext)) (tRet (tOp rCat (tVar 1) (tLc (iList K (tVar 3)) (gTup K 2 (gCons (gName 4) (gCons (gName 5) (gNil)))) (tYes) (tTup (tCons (tOp oAdd (tVar 0) (tVar 4)) (tCons (tOp oAdd (tVar 0) (tVar 5)) (tNil)))) [4, 5]))))))
/-! ### _need_part(many): slots 0 many -/
abbrev s_needpart : Stmt := topS 46
abbrev N_needpart : List Str := ["many"]
abbrev P_needpart : List Str := ["many"]
theorem sc_needpart : FnScope N_needpart P_needpart (defScope s_needpart) := ⟨rfl, rfl, rfl, by decide +kernel, rfl, by decide +kernel, by decide +kernel⟩
def r_needpart (K : PySem.W.Frag) (E : XK) : TS :=
  tIfS (tOr (tNot (tB (tCal (sp_iswhole K) (tCons (tVar 0) (tNil))))) (tNot (tTest (tChain oLe oLe (tC (.int 0)) (tVar 0) (tC (.int 10)))))) (tRzA (He.ga K "BadLines") (fun cls d _ H => E cls d H) (tCons (tJoin [tC (.str "a part of a row has 0 to "), tFmt (tC (.int 10)), tC (.str " numbers")]) (tNil))) (tNext)
/-! ### _merging(ones, others): slots 0 ones, 1 others, 2 comparers, 3 rising, 4 place -/
abbrev s_pmerging : Stmt := topS 47
abbrev N_pmerging : List Str := ["ones", "others", "comparers", "rising", "place"]
abbrev P_pmerging : List Str := ["ones", "others"]
theorem sc_pmerging : FnScope N_pmerging P_pmerging (defScope s_pmerging) := ⟨rfl, rfl, rfl, by decide +kernel, rfl, by decide +kernel, by decide +kernel⟩
def r_pmerging_f1 (K : PySem.W.Frag) (spR : Sp) : TS :=
  tDrop (tBM K "list" rAppend (tVar 2) (tCons (tTup (tCons (tOp (rIxL K) (tVar 3) (tVar 4)) (tCons (tOp (rIxL K) (tVar 3) (tOp oAdd (tVar 4) (tC (.int 1)))) (tNil)))) (tNil)))
def r_pmerging (K : PySem.W.Frag) (spR : Sp) : TS :=
  tSeq (tIfS (tOr (tTest (tOp (rEqD K) (tVar 0) (tLst (tNil)))) (tTest (tOp (rEqD K) (tVar 1) (tLst (tNil))))) (tRet (tLst (tNil))) (tNext)) (tSeq (tIfS (tAnd (tTest (tOp rEq (tCB (kLen K) (tCons (tVar 0) (tNil))) (tC (.int 1)))) (tTest (tOp rEq (tCB (kLen K) (tCons (tVar 1) (tNil))) (tC (.int 1))))) (tRet (tLst (tCons (tTup (tCons (tOp (rIxL K) (tVar 0) (tC (.int 0))) (tCons (tOp (rIxL K) (tVar 1) (tC (.int 0))) (tNil)))) (tNil)))) (tNext)) (tSeq (tAsg (tOp rCat (tCal spR (tCons (tStepF K (tVar 0) (tNoPart) (tC (.int 2))) (tCons (tStepF K (tVar 1) (tNoPart) (tC (.int 2))) (tNil)))) (tCal spR (tCons (tStepF K (tVar 0) (tPart (tC (.int 1))) (tC (.int 2))) (tCons (tStepF K (tVar 1) (tPart (tC (.int 1))) (tC (.int 2))) (tNil))))) (gName 2)) (tSeq (tAsg (tOp rCat (tVar 0) (tVar 1)) (gName 3)) (tSeq (tFor (iRng3 (tCons (tC (.int 1)) (tCons (tOp oSub (tCB (kLen K) (tCons (tVar 3) (tNil))) (tC (.int 1))) (tCons (tC (.int 2)) (tNil))))) (gName 4) (r_pmerging_f1 K spR)) (tRet (tVar 2))))))
/-! ### _sorting(rising): slots 0 rising, 1 half, 2 ones, 3 others -/
abbrev s_psorting : Stmt := topS 48
abbrev N_psorting : List Str := ["rising", "half", "ones", "others"]
abbrev P_psorting : List Str := ["rising"]
theorem sc_psorting : FnScope N_psorting P_psorting (defScope s_psorting) := ⟨rfl, rfl, rfl, by decide +kernel, rfl, by decide +kernel, by decide +kernel⟩
def r_psorting (K : PySem.W.Frag) (spR : Sp) : TS :=
  tSeq (tIfS (tTest (tOp oLt (tCB (kLen K) (tCons (tVar 0) (tNil))) (tC (.int 2)))) (tRet (tLst (tNil))) (tNext)) (tSeq (tAsg (tOp oDiv (tCB (kLen K) (tCons (tVar 0) (tNil))) (tC (.int 2))) (gName 1)) (tSeq (tAsg (tSl (rSlL K) (tVar 0) (tNoPart) (tPart (tVar 1))) (gName 2)) (tSeq (tAsg (tSl (rSlL K) (tVar 0) (tPart (tVar 1)) (tNoPart)) (gName 3)) (tRet (tOp rCat (tOp rCat (tCal spR (tCons (tVar 2) (tNil))) (tCal spR (tCons (tVar 3) (tNil)))) (tCal (sp_pmerging K) (tCons (tVar 2) (tCons (tVar 3) (tNil)))))))))
/-! ### run(lines, comparers, row): slots 0 lines, 1 comparers, 2 row -/
abbrev s_run : Stmt := topS 50
abbrev N_run : List Str := ["lines", "comparers", "row"]
abbrev P_run : List Str := ["lines", "comparers", "row"]
theorem sc_run : FnScope N_run P_run (defScope s_run) := ⟨rfl, rfl, rfl, by decide +kernel, rfl, by decide +kernel, by decide +kernel⟩
def r_run (K : PySem.W.Frag) (E : XK) : TS :=
  tRet (tOp (rIxL K) (tCalW (sp_steps K) (fun cls d _ H => E cls d H) (tCons (tVar 0) (tCons (tVar 1) (tCons (tVar 2) (tNil))))) (tUn oNeg (tC (.int 1))))
/-! ### steps(lines, comparers, row): slots 0 lines, 1 comparers, 2 row, 3 rows, 4 comparer -/
abbrev s_steps : Stmt := topS 51
abbrev N_steps : List Str := ["lines", "comparers", "row", "rows", "comparer"]
abbrev P_steps : List Str := ["lines", "comparers", "row"]
theorem sc_steps : FnScope N_steps P_steps (defScope s_steps) := ⟨rfl, rfl, rfl, by decide +kernel, rfl, by decide +kernel, by decide +kernel⟩
def r_steps_f1 (K : PySem.W.Frag) (E : XK) : TS :=
  tDrop (tBM K "list" rAppend (tVar 3) (tCons (tCal (sp_rbehind K) (tCons (tOp (rIxL K) (tVar 3) (tUn oNeg (tC (.int 1)))) (tCons (tVar 4) (tNil)))) (tNil)))
def r_steps (K : PySem.W.Frag) (E : XK) : TS :=
  tSeq (tDrop (tCalW (sp_needweb K) (fun cls d _ H => E cls d H) (tCons (tVar 0) (tCons (tVar 1) (tNil))))) (tSeq (tDrop (tCalW (sp_needrow K) (fun cls d _ H => E cls d H) (tCons (tVar 0) (tCons (tVar 2) (tNil))))) (tSeq (tAsg (tLst (tCons (tCB (kList K) (tCons (tVar 2) (tNil))) (tNil))) (gName 3)) (tSeq (tFor (iList K (tVar 1)) (gName 4) (r_steps_f1 K E)) (tRet (tVar 3)))))
/-! ### behind_running(row, comparer): slots 0 row, 1 comparer, 2 a, 3 b, 4 out -/
abbrev s_rbehind : Stmt := topS 52
abbrev N_rbehind : List Str := ["row", "comparer", "a", "b", "out"]
abbrev P_rbehind : List Str := ["row", "comparer"]
theorem sc_rbehind : FnScope N_rbehind P_rbehind (defScope s_rbehind) := ⟨rfl, rfl, rfl, by decide +kernel, rfl, by decide +kernel, by decide +kernel⟩
def r_rbehind (K : PySem.W.Frag) : TS :=
  tSeq (tAsg (tVar 1) (gTup K 2 (gCons (gName 2) (gCons (gName 3) (gNil))))) (tSeq (tAsg (tCB (kList K) (tCons (tVar 0) (tNil))) (gName 4)) (tSeq (tIfS (tTest (tOp oGt (tOp (rIxL K) (tVar 0) (tVar 2)) (tOp (rIxL K) (tVar 0) (tVar 3)))) (tSeq (tAsg (tOp (rIxL K) (tVar 0) (tVar 3)) (gSub (tVar 4) (tVar 2) rSetL)) (tAsg (tOp (rIxL K) (tVar 0) (tVar 2)) (gSub (tVar 4) (tVar 3) rSetL))) (tNext)) (tRet (tVar 4))))
/-! ### web_text(lines, comparers): slots 0 lines, 1 comparers, 2 words, 3 a, 4 b -/
abbrev s_webtext : Stmt := topS 55
abbrev N_webtext : List Str := ["lines", "comparers", "words", "a", "b"]
abbrev P_webtext : List Str := ["lines", "comparers"]
theorem sc_webtext : FnScope N_webtext P_webtext (defScope s_webtext) := ⟨rfl, rfl, rfl, by decide +kernel, rfl, by decide +kernel, by decide +kernel⟩
def r_webtext (K : PySem.W.Frag) (E : XK) : TS :=
  tSeq (tDrop (tCalW (sp_needweb K) (fun cls d _ H => E cls d H) (tCons (tVar 0) (tCons (tVar 1) (tNil))))) (tSeq (tAsg (tLc (iList K (tVar 1)) (gTup K 2 (gCons (gName 3) (gCons (gName 4) (gNil)))) (tYes) (tJoin [tC (.str " "), tFmt (tVar 3), tC (.str "-"), tFmt (tVar 4)]) [3, 4]) (gName 2)) (tRet (tOp oAddS (tJoin [tFmt (tVar 0), tC (.str ":")]) (tBM K "str" (mJoin K) (tC (.str "")) (tCons (tVar 2) (tNil))))))
/-! ### renamed(lines, comparers, order): slots 0 lines, 1 comparers, 2 order, 3 a, 4 b -/
abbrev s_renamed : Stmt := topS 57
abbrev N_renamed : List Str := ["lines", "comparers", "order", "a", "b"]
abbrev P_renamed : List Str := ["lines", "comparers", "order"]
theorem sc_renamed : FnScope N_renamed P_renamed (defScope s_renamed) := ⟨rfl, rfl, rfl, by decide +kernel, rfl, by decide +kernel, by decide +kernel⟩
def r_renamed (K : PySem.W.Frag) (E : XK) : TS :=
  tSeq (tDrop (tCalW (sp_needweb K) (fun cls d _ H => E cls d H) (tCons (tVar 0) (tCons (tVar 1) (tNil))))) (tSeq (tDrop (tCalW (sp_needorder K) (fun cls d _ H => E cls d H) (tCons (tVar 0) (tCons (tVar 2) (tNil))))) (tRet (tLc (iList K (tVar 1)) (gTup K 2 (gCons (gName 3) (gCons (gName 4) (gNil)))) (tYes) (tTup (tCons (tOp (rIxL K) (tVar 2) (tVar 3)) (tCons (tOp (rIxL K) (tVar 2) (tVar 4)) (tNil)))) [3, 4])))
/-! ### upside(lines, comparers): slots 0 lines, 1 comparers, 2 a, 3 b -/
abbrev s_upside : Stmt := topS 58
abbrev N_upside : List Str := ["lines", "comparers", "a", "b"]
abbrev P_upside : List Str := ["lines", "comparers"]
theorem sc_upside : FnScope N_upside P_upside (defScope s_upside) := ⟨rfl, rfl, rfl, by decide +kernel, rfl, by decide +kernel, by decide +kernel⟩
def r_upside (K : PySem.W.Frag) (E : XK) : TS :=
  tSeq (tDrop (tCalW (sp_needweb K) (fun cls d _ H => E cls d H) (tCons (tVar 0) (tCons (tVar 1) (tNil))))) (tRet (tLc (iList K (tVar 1)) (gTup K 2 (gCons (gName 2) (gCons (gName 3) (gNil)))) (tYes) (tTup (tCons (tOp oSub (tOp oSub (tVar 0) (tC (.int 1))) (tVar 3)) (tCons (tOp oSub (tOp oSub (tVar 0) (tC (.int 1))) (tVar 2)) (tNil)))) [2, 3]))
/-! ### straightened(lines, comparers): slots 0 lines, 1 comparers, 2 straight, 3 spots, 4 a, 5 b, 6 low, 7 high -/
abbrev s_straightened : Stmt := topS 59
abbrev N_straightened : List Str := ["lines", "comparers", "straight", "spots", "a", "b", "low", "high"]
abbrev P_straightened : List Str := ["lines", "comparers"]
theorem sc_straightened : FnScope N_straightened P_straightened (defScope s_straightened) := ⟨rfl, rfl, rfl, by decide +kernel, rfl, by decide +kernel, by decide +kernel⟩
def r_straightened_f1 (K : PySem.W.Frag) (E : XK) : TS :=
  tSeq (tAsg (tCB kMin (tCons (tOp (rIxL K) (tVar 3) (tVar 4)) (tCons (tOp (rIxL K) (tVar 3) (tVar 5)) (tNil)))) (gName 6)) (tSeq (tAsg (tCB kMax (tCons (tOp (rIxL K) (tVar 3) (tVar 4)) (tCons (tOp (rIxL K) (tVar 3) (tVar 5)) (tNil)))) (gName 7)) (tSeq (tDrop (tBM K "list" rAppend (tVar 2) (tCons (tTup (tCons (tVar 6) (tCons (tVar 7) (tNil)))) (tNil)))) (tSeq (tAsg (tVar 6) (gSub (tVar 3) (tVar 4) rSetL)) (tAsg (tVar 7) (gSub (tVar 3) (tVar 5) rSetL)))))
def r_straightened (K : PySem.W.Frag) (E : XK) : TS :=
  tSeq (tDrop (tCalW (sp_needweb K) (fun cls d _ H => E cls d H) (tCons (tVar 0) (tCons (tVar 1) (tNil))))) (tSeq (tAsg (tLst (tNil)) (gName 2)) (tSeq (tAsg (tLstRg (tRg1 (tVar 0))) (gName 3)) (tSeq (tFor (iList K (tVar 1)) (gTup K 2 (gCons (gName 4) (gCons (gName 5) (gNil)))) (r_straightened_f1 K E)) (tRet (tTup (tCons (tVar 2) (tCons (tVar 3) (tNil))))))))
/-! ### _need_order(lines, order): slots 0 lines, 1 order, 2 whole, 3 line -/
abbrev s_needorder : Stmt := topS 60
abbrev N_needorder : List Str := ["lines", "order", "whole", "line"]
abbrev P_needorder : List Str := ["lines", "order"]
theorem sc_needorder : FnScope N_needorder P_needorder (defScope s_needorder) := ⟨rfl, rfl, rfl, by decide +kernel, rfl, by decide +kernel, by decide +kernel⟩
def r_needorder (K : PySem.W.Frag) (E : XK) : TS :=
  tSeq (tAsg (tAndV (tOp rIsTyB (tCB (rTyp K) (tCons (tVar 1) (tNil))) (tC (.ty "list"))) (tCB (rAll K) (tCons (tLc (iList K (tVar 1)) (gName 3) (tYes) (tCal (sp_iswhole K) (tCons (tVar 3) (tNil))) [3]) (tNil)))) (gName 2)) (tIfS (tOr (tNot (tB (tVar 2))) (tTest (tOp (rNeD K) (tCB (rSortedI K) (tCons (tVar 1) (tNil))) (tLstRg (tRg1 (tVar 0)))))) (tRzA (He.ga K "BadOrder") (fun cls d _ H => E cls d H) (tCons (tC (.str "an order is a list that has each line once")) (tNil))) (tNext))
/-! ### _law_draw(_law_cell, _law_k, _law_j): slots 0 _law_cell, 1 _law_k, 2 _law_j, 3 _law_more -/
abbrev s_ldraw : Stmt := topS 62
abbrev N_ldraw : List Str := ["_law_cell", "_law_k", "_law_j", "_law_more"]
abbrev P_ldraw : List Str := ["_law_cell", "_law_k", "_law_j"]
theorem sc_ldraw : FnScope N_ldraw P_ldraw (defScope s_ldraw) := ⟨rfl, rfl, rfl, by decide +kernel, rfl, by decide +kernel, by decide +kernel⟩
def r_ldraw (K : PySem.W.Frag) : TS :=
  tSeq (tAsg (tOp oAdd (tOp oMul (tOp oMul (tOp oAdd (tVar 1) (tC (.int 3))) (tOp oAdd (tVar 1) (tC (.int 3)))) (tC (.int 40692))) (tOp oMul (tOp oMul (tOp oAdd (tVar 2) (tC (.int 7))) (tOp oAdd (tVar 2) (tC (.int 7)))) (tC (.int 69621)))) (gName 3)) (tRet (tOp oDiv (tOp oMod (tOp oMul (tOp oMod (tOp oAdd (tOp oMul (tOp oMod (tVar 0) (tC (.int 2147483629))) (tC (.int 48271))) (tVar 3)) (tC (.int 2147483647))) (tC (.int 16807))) (tC (.int 2147483629))) (tC (.int 3))))
/-! ### _law_bricks(_law_lines): slots 0 _law_lines, 1 _law_found, 2 _law_turn, 3 _law_k -/
abbrev s_lbricks : Stmt := topS 63
abbrev N_lbricks : List Str := ["_law_lines", "_law_found", "_law_turn", "_law_k"]
abbrev P_lbricks : List Str := ["_law_lines"]
theorem sc_lbricks : FnScope N_lbricks P_lbricks (defScope s_lbricks) := ⟨rfl, rfl, rfl, by decide +kernel, rfl, by decide +kernel, by decide +kernel⟩
def r_lbricks_f1 (K : PySem.W.Frag) : TS :=
  tAsg (tOp rCat (tVar 1) (tLc (iRng3 (tCons (tOp oMod (tVar 2) (tC (.int 2))) (tCons (tOp oSub (tVar 0) (tC (.int 1))) (tCons (tC (.int 2)) (tNil))))) (gName 3) (tYes) (tTup (tCons (tVar 3) (tCons (tOp oAdd (tVar 3) (tC (.int 1))) (tNil)))) [3])) (gName 1)
def r_lbricks (K : PySem.W.Frag) : TS :=
  tSeq (tAsg (tLst (tNil)) (gName 1)) (tSeq (tFor (iRng1 (tCons (tVar 0) (tNil))) (gName 2) (r_lbricks_f1 K)) (tRet (tVar 1)))
/-! ### _law_comparer(_law_n, _law_lines): slots 0 _law_n, 1 _law_lines, 2 _law_a, 3 _law_b -/
abbrev s_lcomparer : Stmt := topS 64
abbrev N_lcomparer : List Str := ["_law_n", "_law_lines", "_law_a", "_law_b"]
abbrev P_lcomparer : List Str := ["_law_n", "_law_lines"]
theorem sc_lcomparer : FnScope N_lcomparer P_lcomparer (defScope s_lcomparer) := ⟨rfl, rfl, rfl, by decide +kernel, rfl, by decide +kernel, by decide +kernel⟩
def r_lcomparer (K : PySem.W.Frag) : TS :=
  tSeq (tAsg (tOp oMod (tVar 0) (tVar 1)) (gName 2)) (tSeq (tAsg (tOp oMod (tOp oAdd (tOp oAdd (tVar 2) (tC (.int 1))) (tOp oMod (tOp oDiv (tVar 0) (tC (.int 10))) (tOp oSub (tVar 1) (tC (.int 1))))) (tVar 1)) (gName 3)) (tRet (tIf (tTest (tOp oGt (tOp oMod (tOp oDiv (tVar 0) (tC (.int 100))) (tC (.int 3))) (tC (.int 0)))) (tTup (tCons (tCB kMin (tCons (tVar 2) (tCons (tVar 3) (tNil)))) (tCons (tCB kMax (tCons (tVar 2) (tCons (tVar 3) (tNil)))) (tNil)))) (tTup (tCons (tVar 2) (tCons (tVar 3) (tNil)))))))
/-! ### _law_web(_law_script): slots 0 _law_script, 1 _law_cells, 2 _law_n, 3 _law_lines, 4 _law_k, 5 _law_cell, 6 _law_found, 7 _law_more, 8 _law_at -/
abbrev s_lweb : Stmt := topS 65
abbrev N_lweb : List Str := ["_law_script", "_law_cells", "_law_n", "_law_lines", "_law_k", "_law_cell", "_law_found", "_law_more", "_law_at"]
abbrev P_lweb : List Str := ["_law_script"]
theorem sc_lweb : FnScope N_lweb P_lweb (defScope s_lweb) := ⟨rfl, rfl, rfl, by decide +kernel, rfl, by decide +kernel, by decide +kernel⟩
def r_lweb_e1 (K : PySem.W.Frag) : TS :=
  tIfS (tAnd (tTest (tOp rEq (tOp oMod (tVar 7) (tC (.int 12))) (tC (.int 4)))) (tTest (tOp oLt (tVar 8) (tCB (kLen K) (tCons (tVar 6) (tNil)))))) (tAsg (tTurn K (tOp (rIxL K) (tVar 6) (tVar 8))) (gSub (tVar 6) (tVar 8) rSetL)) (tNext)
def r_lweb_e2 (K : PySem.W.Frag) : TS :=
  tIfS (tAnd (tTest (tOp oLt (tOp oMod (tVar 7) (tC (.int 12))) (tC (.int 4)))) (tTest (tOp oLt (tCB (kLen K) (tCons (tVar 6) (tNil))) (tC (.int 60))))) (tDrop (tBM K "list" rInsert (tVar 6) (tCons (tVar 8) (tCons (tCal (sp_lcomparer K) (tCons (tOp oDiv (tVar 7) (tC (.int 1000))) (tCons (tVar 3) (tNil)))) (tNil))))) (r_lweb_e1 K)
def r_lweb_f1 (K : PySem.W.Frag) : TS :=
  tSeq (tAsg (tCal (sp_ldraw K) (tCons (tVar 5) (tCons (tVar 4) (tCons (tC (.int 3)) (tNil))))) (gName 7)) (tSeq (tAsg (tOp oMod (tOp oDiv (tVar 7) (tC (.int 12))) (tOp oAdd (tCB (kLen K) (tCons (tVar 6) (tNil))) (tC (.int 1)))) (gName 8)) (tIfS (tAnd (tTest (tOp oLt (tOp oMod (tVar 7) (tC (.int 12))) (tC (.int 2)))) (tTest (tOp oLt (tVar 8) (tCB (kLen K) (tCons (tVar 6) (tNil)))))) (tDrop (tBM K "list" rPopAt (tVar 6) (tCons (tVar 8) (tNil)))) (r_lweb_e2 K)))
def r_lweb (K : PySem.W.Frag) : TS :=
  tSeq (tAsg (tSl (rSlL K) (tVar 0) (tNoPart) (tPart (tC (.int 40)))) (gName 1)) (tSeq (tAsg (tCal (sp_ldraw K) (tCons (tCB (rSum K) (tCons (tSl (rSlL K) (tVar 1) (tNoPart) (tPart (tC (.int 3)))) (tNil))) (tCons (tCB (kLen K) (tCons (tVar 1) (tNil))) (tCons (tC (.int 1)) (tNil))))) (gName 2)) (tSeq (tAsg (tOp (rIxL K) (tLst (tCons (tOp oAdd (tC (.int 2)) (tOp oMod (tOp oDiv (tVar 2) (tC (.int 8))) (tC (.int 5)))) (tCons (tOp oAdd (tC (.int 3)) (tOp oMod (tOp oDiv (tVar 2) (tC (.int 8))) (tC (.int 3)))) (tCons (tOp oAdd (tC (.int 1)) (tOp oMod (tOp oDiv (tVar 2) (tC (.int 8))) (tC (.int 7)))) (tCons (tC (.int 4)) (tNil)))))) (tOp oMod (tVar 2) (tC (.int 4)))) (gName 3)) (tSeq (tIfS (tTest (tOp rEq (tVar 3) (tC (.int 1)))) (tRet (tTup (tCons (tC (.int 1)) (tCons (tLst (tNil)) (tNil))))) (tNext)) (tSeq (tIfS (tTest (tOp rEq (tOp oMod (tOp oDiv (tVar 2) (tC (.int 64))) (tC (.int 2))) (tC (.int 0)))) (tRet (tTup (tCons (tVar 3) (tCons (tLc (iEnum K (tCons (tVar 1) (tNil))) (gTup K 2 (gCons (gName 4) (gCons (gName 5) (gNil)))) (tYes) (tCal (sp_lcomparer K) (tCons (tCal (sp_ldraw K) (tCons (tVar 5) (tCons (tVar 4) (tCons (tC (.int 2)) (tNil))))) (tCons (tVar 3) (tNil)))) [4, 5]) (tNil))))) (tNext)) (tSeq (tAsg (tCal (sp_lbricks K) (tCons (tVar 3) (tNil))) (gName 6)) (tSeq (tFor (iEnum K (tCons (tVar 1) (tNil))) (gTup K 2 (gCons (gName 4) (gCons (gName 5) (gNil)))) (r_lweb_f1 K)) (tRet (tTup (tCons (tVar 3) (tCons (tVar 6) (tNil)))))))))))
/-! ### _law_word(_law_e): slots 0 _law_e, 1 _law_some, 2 _law_found, 3 _law_word_here, 4 _law_good -/
abbrev s_lword : Stmt := topS 66
abbrev N_lword : List Str := ["_law_e", "_law_some", "_law_found", "_law_word_here", "_law_good"]
abbrev P_lword : List Str := ["_law_e"]
theorem sc_lword : FnScope N_lword P_lword (defScope s_lword) := ⟨rfl, rfl, rfl, by decide +kernel, rfl, by decide +kernel, by decide +kernel⟩
def r_lword (K : PySem.W.Frag) : TS :=
  tSeq (tAsg (tLst (tCons (tTup (tCons (tC (.str "lines")) (tCons (tCB (rIsK K) (tCons (tVar 0) (tCons (tC (.ref (He.ga K "BadLines"))) (tNil)))) (tNil)))) (tCons (tTup (tCons (tC (.str "web")) (tCons (tCB (rIsK K) (tCons (tVar 0) (tCons (tC (.ref (He.ga K "BadWeb"))) (tNil)))) (tNil)))) (tCons (tTup (tCons (tC (.str "row")) (tCons (tCB (rIsK K) (tCons (tVar 0) (tCons (tC (.ref (He.ga K "BadRow"))) (tNil)))) (tNil)))) (tNil))))) (gName 1)) (tSeq (tAsg (tOp rCat (tVar 1) (tLst (tCons (tTup (tCons (tC (.str "place")) (tCons (tCB (rIsK K) (tCons (tVar 0) (tCons (tC (.ref (He.ga K "BadPlace"))) (tNil)))) (tNil)))) (tCons (tTup (tCons (tC (.str "order")) (tCons (tCB (rIsK K) (tCons (tVar 0) (tCons (tC (.ref (He.ga K "BadOrder"))) (tNil)))) (tNil)))) (tNil))))) (gName 1)) (tSeq (tAsg (tOp rCat (tVar 1) (tLst (tCons (tTup (tCons (tC (.str "text")) (tCons (tCB (rIsK K) (tCons (tVar 0) (tCons (tC (.ref (He.ga K "BadText"))) (tNil)))) (tNil)))) (tCons (tTup (tCons (tC (.str "nothing")) (tCons (tCB (rIsK K) (tCons (tVar 0) (tCons (tC (.ref (He.ga K "NothingPut"))) (tNil)))) (tNil)))) (tNil))))) (gName 1)) (tSeq (tAsg (tLc (iList K (tVar 1)) (gTup K 2 (gCons (gName 3) (gCons (gName 4) (gNil)))) (tB (tVar 4)) (tVar 3) [3, 4]) (gName 2)) (tSeq (tIfS (tTest (tOp rIsN (tVar 0) (tC .non))) (tRet (tC (.str ""))) (tNext)) (tRet (tIf (tAnd (tTest (tOp rEq (tCB (kLen K) (tCons (tVar 2) (tNil))) (tC (.int 1)))) (tB (tCB (rIsK K) (tCons (tVar 0) (tCons (tC (.ty "ValueError")) (tNil)))))) (tOp (rIxL K) (tVar 2) (tC (.int 0))) (tC (.str "another"))))))))
/-! ### _law_one_asked(_law_way, _law_lines, _law_comparers): slots 0 _law_way, 1 _law_lines, 2 _law_comparers -/
abbrev s_loneasked : Stmt := topS 67
abbrev N_loneasked : List Str := ["_law_way", "_law_lines", "_law_comparers"]
abbrev P_loneasked : List Str := ["_law_way", "_law_lines", "_law_comparers"]
theorem sc_loneasked : FnScope N_loneasked P_loneasked (defScope s_loneasked) := ⟨rfl, rfl, rfl, by decide +kernel, rfl, by decide +kernel, by decide +kernel⟩
def r_loneasked_e1 (K : PySem.W.Frag) (E : XK) : TS :=
  tDrop (tCalW (sp_straightened K) (fun cls d _ H => E cls d H) (tCons (tVar 1) (tCons (tVar 2) (tNil))))
def r_loneasked_e2 (K : PySem.W.Frag) (E : XK) : TS :=
  tIfS (tTest (tOp rEq (tVar 0) (tC (.int 7)))) (tDrop (tCalW (sp_upside K) (fun cls d _ H => E cls d H) (tCons (tVar 1) (tCons (tVar 2) (tNil))))) (r_loneasked_e1 K E)
def r_loneasked_e3 (K : PySem.W.Frag) (E : XK) : TS :=
  tIfS (tTest (tOp rEq (tVar 0) (tC (.int 6)))) (tDrop (tCalW (sp_chain K) (fun cls d _ H => E cls d H) (tCons (tVar 1) (tCons (tVar 2) (tNil))))) (r_loneasked_e2 K E)
def r_loneasked_e4 (K : PySem.W.Frag) (E : XK) : TS :=
  tIfS (tTest (tOp rEq (tVar 0) (tC (.int 5)))) (tDrop (tCalW (sp_layers K) (fun cls d _ H => E cls d H) (tCons (tVar 1) (tCons (tVar 2) (tNil))))) (r_loneasked_e3 K E)
def r_loneasked_e5 (K : PySem.W.Frag) (E : XK) : TS :=
  tIfS (tTest (tOp rEq (tVar 0) (tC (.int 4)))) (tDrop (tCalW (sp_pruned K) (fun cls d _ H => E cls d H) (tCons (tVar 1) (tCons (tVar 2) (tNil))))) (r_loneasked_e4 K E)
def r_loneasked_e6 (K : PySem.W.Frag) (E : XK) : TS :=
  tIfS (tTest (tOp rEq (tVar 0) (tC (.int 3)))) (tDrop (tCalW (sp_needless K) (fun cls d _ H => E cls d H) (tCons (tVar 1) (tCons (tVar 2) (tNil))))) (r_loneasked_e5 K E)
def r_loneasked_e7 (K : PySem.W.Frag) (E : XK) : TS :=
  tIfS (tTest (tOp rEq (tVar 0) (tC (.int 2)))) (tDrop (tCalW (sp_unsorted K) (fun cls d _ H => E cls d H) (tCons (tVar 1) (tCons (tVar 2) (tNil))))) (r_loneasked_e6 K E)
def r_loneasked_e8 (K : PySem.W.Frag) (E : XK) : TS :=
  tIfS (tTest (tOp rEq (tVar 0) (tC (.int 1)))) (tDrop (tCalW (sp_webtext K) (fun cls d _ H => E cls d H) (tCons (tVar 1) (tCons (tVar 2) (tNil))))) (r_loneasked_e7 K E)
def r_loneasked (K : PySem.W.Frag) (E : XK) : TS :=
  tIfS (tTest (tOp rEq (tVar 0) (tC (.int 0)))) (tDrop (tCalW (sp_needweb K) (fun cls d _ H => E cls d H) (tCons (tVar 1) (tCons (tVar 2) (tNil))))) (r_loneasked_e8 K E)
/-! ### _law_more_asked(_law_way, _law_lines, _law_comparers, _law_thing): slots 0 _law_way, 1 _law_lines, 2 _law_comparers, 3 _law_thing -/
abbrev s_lmoreasked : Stmt := topS 68
abbrev N_lmoreasked : List Str := ["_law_way", "_law_lines", "_law_comparers", "_law_thing"]
abbrev P_lmoreasked : List Str := ["_law_way", "_law_lines", "_law_comparers", "_law_thing"]
theorem sc_lmoreasked : FnScope N_lmoreasked P_lmoreasked (defScope s_lmoreasked) := ⟨rfl, rfl, rfl, by decide +kernel, rfl, by decide +kernel, by decide +kernel⟩
def r_lmoreasked_e1 (K : PySem.W.Frag) (E : XK) : TS :=
  tDrop (tCalW (sp_beside K) (fun cls d _ H => E cls d H) (tCons (tVar 1) (tCons (tVar 2) (tCons (tC (.int 10)) (tCons (tVar 3) (tNil))))))
def r_lmoreasked_e2 (K : PySem.W.Frag) (E : XK) : TS :=
  tIfS (tTest (tOp rEq (tVar 0) (tC (.int 20)))) (tDrop (tCalW (sp_beside K) (fun cls d _ H => E cls d H) (tCons (tVar 1) (tCons (tVar 2) (tCons (tVar 3) (tCons (tLst (tNil)) (tNil))))))) (r_lmoreasked_e1 K E)
def r_lmoreasked_e3 (K : PySem.W.Frag) (E : XK) : TS :=
  tIfS (tTest (tOp rEq (tVar 0) (tC (.int 19)))) (tDrop (tCalW (sp_beside K) (fun cls d _ H => E cls d H) (tCons (tVar 1) (tCons (tVar 2) (tCons (tC (.int 2)) (tCons (tVar 3) (tNil))))))) (r_lmoreasked_e2 K E)
def r_lmoreasked_e4 (K : PySem.W.Frag) (E : XK) : TS :=
  tIfS (tTest (tOp rEq (tVar 0) (tC (.int 18)))) (tDrop (tCalW (sp_merging K) (fun cls d _ H => E cls d H) (tCons (tC (.int 2)) (tCons (tVar 3) (tNil))))) (r_lmoreasked_e3 K E)
def r_lmoreasked_e5 (K : PySem.W.Frag) (E : XK) : TS :=
  tIfS (tTest (tOp rEq (tVar 0) (tC (.int 17)))) (tDrop (tCalW (sp_merging K) (fun cls d _ H => E cls d H) (tCons (tVar 3) (tCons (tC (.int 2)) (tNil))))) (r_lmoreasked_e4 K E)
def r_lmoreasked_e6 (K : PySem.W.Frag) (E : XK) : TS :=
  tIfS (tTest (tOp rEq (tVar 0) (tC (.int 16)))) (tDrop (tCalW (sp_sorting K) (fun cls d _ H => E cls d H) (tCons (tVar 3) (tNil)))) (r_lmoreasked_e5 K E)
def r_lmoreasked_e7 (K : PySem.W.Frag) (E : XK) : TS :=
  tIfS (tTest (tOp rEq (tVar 0) (tC (.int 15)))) (tDrop (tMkW K "Bench" (sp_binit K) (fun cls d _ H => E cls d H) (tCons (tVar 3) (tNil)))) (r_lmoreasked_e6 K E)
def r_lmoreasked_e8 (K : PySem.W.Frag) (E : XK) : TS :=
  tIfS (tTest (tOp rEq (tVar 0) (tC (.int 14)))) (tDrop (tCalW (sp_needrow K) (fun cls d _ H => E cls d H) (tCons (tVar 1) (tCons (tVar 3) (tNil))))) (r_lmoreasked_e7 K E)
def r_lmoreasked_e9 (K : PySem.W.Frag) (E : XK) : TS :=
  tIfS (tTest (tOp rEq (tVar 0) (tC (.int 13)))) (tDrop (tCalW (sp_differing K) (fun cls d _ H => E cls d H) (tCons (tVar 1) (tCons (tVar 2) (tCons (tVar 3) (tNil)))))) (r_lmoreasked_e8 K E)
def r_lmoreasked_e10 (K : PySem.W.Frag) (E : XK) : TS :=
  tIfS (tTest (tOp rEq (tVar 0) (tC (.int 12)))) (tDrop (tCalW (sp_renamed K) (fun cls d _ H => E cls d H) (tCons (tVar 1) (tCons (tVar 2) (tCons (tVar 3) (tNil)))))) (r_lmoreasked_e9 K E)
def r_lmoreasked_e11 (K : PySem.W.Frag) (E : XK) : TS :=
  tIfS (tTest (tOp rEq (tVar 0) (tC (.int 11)))) (tDrop (tCalW (sp_stirring K) (fun cls d _ H => E cls d H) (tCons (tVar 1) (tCons (tVar 2) (tCons (tVar 3) (tNil)))))) (r_lmoreasked_e10 K E)
def r_lmoreasked_e12 (K : PySem.W.Frag) (E : XK) : TS :=
  tIfS (tTest (tOp rEq (tVar 0) (tC (.int 10)))) (tDrop (tCalW (sp_steps K) (fun cls d _ H => E cls d H) (tCons (tVar 1) (tCons (tVar 2) (tCons (tVar 3) (tNil)))))) (r_lmoreasked_e11 K E)
def r_lmoreasked (K : PySem.W.Frag) (E : XK) : TS :=
  tIfS (tTest (tOp rEq (tVar 0) (tC (.int 9)))) (tDrop (tCalW (sp_run K) (fun cls d _ H => E cls d H) (tCons (tVar 1) (tCons (tVar 2) (tCons (tVar 3) (tNil)))))) (r_lmoreasked_e12 K E)
/-! ### _law_tried(_law_way, _law_lines, _law_comparers, _law_thing): slots 0 _law_way, 1 _law_lines, 2 _law_comparers, 3 _law_thing, 4 _law_found, 5 _law_e -/
abbrev s_ltried : Stmt := topS 69
abbrev N_ltried : List Str := ["_law_way", "_law_lines", "_law_comparers", "_law_thing", "_law_found", "_law_e"]
abbrev P_ltried : List Str := ["_law_way", "_law_lines", "_law_comparers", "_law_thing"]
theorem sc_ltried : FnScope N_ltried P_ltried (defScope s_ltried) := ⟨rfl, rfl, rfl, by decide +kernel, rfl, by decide +kernel, by decide +kernel⟩
def r_ltried (K : PySem.W.Frag) : TS :=
  tSeq (tAsg (tC .non) (gName 4)) (tSeq (tTryK K (.ref (He.ga K "WebError")) 5 (fun W => tIfS (tTest (tOp oLt (tVar 0) (tC (.int 9)))) (tDrop (tCalW (sp_loneasked K) W (tCons (tVar 0) (tCons (tVar 1) (tCons (tVar 2) (tNil)))))) (tDrop (tCalW (sp_lmoreasked K) W (tCons (tVar 0) (tCons (tVar 1) (tCons (tVar 2) (tCons (tVar 3) (tNil)))))))) (fun a cls d => tAsg (tVar 5) (gName 4))) (tRet (tVar 4)))
/-! ### _law_bad_lines(_law_n): slots 0 _law_n -/
abbrev s_lbadlines : Stmt := topS 70
abbrev N_lbadlines : List Str := ["_law_n"]
abbrev P_lbadlines : List Str := ["_law_n"]
theorem sc_lbadlines : FnScope N_lbadlines P_lbadlines (defScope s_lbadlines) := ⟨rfl, rfl, rfl, by decide +kernel, rfl, by decide +kernel, by decide +kernel⟩
def r_lbadlines (K : PySem.W.Frag) : TS :=
  tRet (tOp (rIxL K) (tLst (tCons (tC (.int 0)) (tCons (tC (.int 11)) (tCons (tOp oSub (tUn oNeg (tC (.int 1))) (tVar 0)) (tCons (tOp oAdd (tC (.int 11)) (tVar 0)) (tCons (tC .non) (tCons (tC (.bl true)) (tCons (tC (.str "4")) (tCons (tLst (tCons (tC (.int 4)) (tNil))) (tCons (tTup (tCons (tC (.int 4)) (tNil))) (tCons (tDNewK) (tCons (tC (.bl false)) (tCons (tLst (tNil)) (tNil)))))))))))))) (tOp oMod (tVar 0) (tC (.int 12))))
/-! ### _law_bad_web(_law_lines, _law_comparers, _law_n): slots 0 _law_lines, 1 _law_comparers, 2 _law_n, 3 _law_some, 4 _law_odd, 5 _law_at, 6 _law_found -/
abbrev s_lbadweb : Stmt := topS 71
abbrev N_lbadweb : List Str := ["_law_lines", "_law_comparers", "_law_n", "_law_some", "_law_odd", "_law_at", "_law_found"]
abbrev P_lbadweb : List Str := ["_law_lines", "_law_comparers", "_law_n"]
theorem sc_lbadweb : FnScope N_lbadweb P_lbadweb (defScope s_lbadweb) := ⟨rfl, rfl, rfl, by decide +kernel, rfl, by decide +kernel, by decide +kernel⟩
def r_lbadweb (K : PySem.W.Frag) : TS :=
  tSeq (tIfS (tTest (tOp rEq (tOp oMod (tVar 2) (tC (.int 6))) (tC (.int 0)))) (tSeq (tAsg (tLst (tCons (tC .non) (tCons (tThen (tVar 1) (kTup K)) (tCons (tC (.int 5)) (tCons (tC (.str "")) (tCons (tDNewK) (tCons (tC (.bl true)) (tCons (tOp rRep (tLst (tCons (tTup (tCons (tC (.int 0)) (tCons (tC (.int 1)) (tNil)))) (tNil))) (tC (.int 61))) (tNil))))))))) (gName 3)) (tRet (tTup (tCons (tOp (rIxL K) (tVar 3) (tOp oMod (tOp oDiv (tVar 2) (tC (.int 6))) (tC (.int 7)))) (tCons (tC .non) (tNil)))))) (tNext)) (tSeq (tAsg (tLst (tCons (tTup (tCons (tC (.int 0)) (tCons (tC (.int 0)) (tNil)))) (tCons (tTup (tCons (tC (.int 0)) (tCons (tVar 0) (tNil)))) (tCons (tTup (tCons (tUn oNeg (tC (.int 1))) (tCons (tC (.int 0)) (tNil)))) (tCons (tTup (tCons (tVar 0) (tCons (tC (.int 0)) (tNil)))) (tCons (tTup (tCons (tC (.int 0)) (tNil))) (tCons (tTup (tCons (tC (.int 0)) (tCons (tC (.int 1)) (tCons (tC (.int 0)) (tNil))))) (tCons (tLst (tCons (tC (.int 0)) (tCons (tC (.int 1)) (tNil)))) (tCons (tC .non) (tCons (tTup (tCons (tC (.bl true)) (tCons (tC (.int 0)) (tNil)))) (tNil))))))))))) (gName 4)) (tSeq (tAsg (tOp rCat (tVar 4) (tLst (tCons (tTup (tCons (tC (.int 0)) (tCons (tC (.str "1")) (tNil)))) (tCons (tC (.int 5)) (tCons (tTup (tCons (tC .non) (tCons (tC (.int 1)) (tNil)))) (tCons (tTup (tCons (tC (.int 1)) (tCons (tC (.int 1)) (tNil)))) (tNil))))))) (gName 4)) (tSeq (tAsg (tOp oMod (tOp oDiv (tVar 2) (tC (.int 100))) (tOp oAdd (tCB (kLen K) (tCons (tVar 1) (tNil))) (tC (.int 1)))) (gName 5)) (tSeq (tAsg (tOp rCat (tOp rCat (tSl (rSlL K) (tVar 1) (tNoPart) (tPart (tVar 5))) (tLst (tCons (tOp (rIxL K) (tVar 4) (tOp oMod (tOp oDiv (tVar 2) (tC (.int 6))) (tC (.int 13)))) (tNil)))) (tSl (rSlL K) (tVar 1) (tPart (tVar 5)) (tNoPart))) (gName 6)) (tSeq (tIfS (tTest (tOp rEq (tOp oMod (tOp oDiv (tVar 2) (tC (.int 3000))) (tC (.int 3))) (tC (.int 1)))) (tDrop (tBM K "list" rAppend (tVar 6) (tCons (tOp (rIxL K) (tVar 4) (tOp oMod (tOp oDiv (tVar 2) (tC (.int 600))) (tC (.int 13)))) (tNil)))) (tNext)) (tRet (tIf (tTest (tOp oLt (tVar 5) (tC (.int 60)))) (tTup (tCons (tSl (rSlL K) (tVar 6) (tNoPart) (tPart (tC (.int 60)))) (tCons (tVar 5) (tNil)))) (tTup (tCons (tOp rCat (tVar 1) (tLst (tCons (tC .non) (tNil)))) (tCons (tC .non) (tNil)))))))))))
/-! ### _law_bad_thing(_law_way, _law_lines, _law_comparers, _law_n): slots 0 _law_way, 1 _law_lines, 2 _law_comparers, 3 _law_n, 4 _law_good, 5 _law_less, 6 _law_some, 7 _law_order, 8 _law_web_here, 9 _law_place, 10 _law_k -/
abbrev s_lbadthing : Stmt := topS 72
abbrev N_lbadthing : List Str := ["_law_way", "_law_lines", "_law_comparers", "_law_n", "_law_good", "_law_less", "_law_some", "_law_order", "_law_web_here", "_law_place", "_law_k"]
abbrev P_lbadthing : List Str := ["_law_way", "_law_lines", "_law_comparers", "_law_n"]
theorem sc_lbadthing : FnScope N_lbadthing P_lbadthing (defScope s_lbadthing) := ⟨rfl, rfl, rfl, by decide +kernel, rfl, by decide +kernel, by decide +kernel⟩
def r_lbadthing (K : PySem.W.Frag) : TS :=
  tSeq (tAsg (tLc (iRng1 (tCons (tVar 1) (tNil))) (gName 10) (tYes) (tOp oSub (tOp oMul (tC (.int 3)) (tVar 10)) (tVar 3)) [10]) (gName 4)) (tSeq (tIfS (tTest (tOp (rIn K false) (tVar 0) (tTup (tCons (tC (.int 9)) (tCons (tC (.int 10)) (tCons (tC (.int 14)) (tNil))))))) (tSeq (tAsg (tSl (rSlL K) (tVar 4) (tPart (tC (.int 1))) (tNoPart)) (gName 5)) (tSeq (tAsg (tLst (tCons (tOp rCat (tVar 4) (tLst (tCons (tC (.int 1)) (tNil)))) (tCons (tVar 5) (tCons (tThen (tVar 4) (kTup K)) (tCons (tC .non) (tCons (tC (.int 5)) (tCons (tOp rCat (tVar 5) (tLst (tCons (tC (.bl true)) (tNil)))) (tCons (tOp rCat (tVar 5) (tLst (tCons (tC .non) (tNil)))) (tCons (tOp rCat (tVar 5) (tLst (tCons (tC (.str "1")) (tNil)))) (tNil)))))))))) (gName 6)) (tRet (tTup (tCons (tOp (rIxL K) (tOp rCat (tVar 6) (tLst (tCons (tDNewK) (tCons (tLst (tNil)) (tNil))))) (tOp oMod (tVar 3) (tC (.int 10)))) (tCons (tC (.str "row")) (tCons (tC .non) (tNil)))))))) (tNext)) (tSeq (tIfS (tTest (tOp rEq (tVar 0) (tC (.int 11)))) (tRet (tTup (tCons (tOp (rIxL K) (tLst (tCons (tCB (kLen K) (tCons (tVar 2) (tNil))) (tCons (tUn oNeg (tC (.int 1))) (tCons (tC .non) (tCons (tC (.bl true)) (tCons (tC (.str "0")) (tCons (tLst (tCons (tC (.int 0)) (tNil))) (tCons (tOp oAdd (tCB (kLen K) (tCons (tVar 2) (tNil))) (tVar 3)) (tCons (tC (.bl false)) (tNil)))))))))) (tOp oMod (tVar 3) (tC (.int 8)))) (tCons (tC (.str "place")) (tCons (tC .non) (tNil)))))) (tNext)) (tSeq (tIfS (tTest (tOp rEq (tVar 0) (tC (.int 12)))) (tSeq (tAsg (tLstRg (tRg1 (tVar 1))) (gName 7)) (tSeq (tAsg (tSl (rSlL K) (tVar 7) (tPart (tC (.int 1))) (tNoPart)) (gName 5)) (tSeq (tAsg (tLst (tCons (tOp rCat (tVar 7) (tLst (tCons (tC (.int 0)) (tNil)))) (tCons (tVar 5) (tCons (tThen (tVar 7) (kTup K)) (tCons (tC .non) (tCons (tC (.int 5)) (tCons (tOp rCat (tVar 5) (tLst (tCons (tVar 1) (tNil)))) (tCons (tOp rCat (tVar 5) (tLst (tCons (tUn oNeg (tC (.int 1))) (tNil)))) (tNil))))))))) (gName 6)) (tSeq (tAsg (tOp rCat (tVar 6) (tLst (tCons (tOp rCat (tVar 5) (tLst (tCons (tC (.bl true)) (tNil)))) (tCons (tOp rCat (tVar 5) (tLst (tCons (tC .non) (tNil)))) (tCons (tOp rRep (tOp rRep (tLst (tCons (tC (.int 0)) (tNil))) (tVar 1)) (tCB kInt1 (tCons (tOp oGt (tVar 1) (tC (.int 1))) (tNil)))) (tCons (tLst (tNil)) (tCons (tDNewK) (tNil)))))))) (gName 6)) (tRet (tTup (tCons (tOp (rIxL K) (tVar 6) (tOp oMod (tVar 3) (tC (.int 12)))) (tCons (tC (.str "order")) (tCons (tC .non) (tNil)))))))))) (tNext)) (tSeq (tIfS (tTest (tOp rEq (tVar 0) (tC (.int 13)))) (tSeq (tAsg (tCal (sp_lbadweb K) (tCons (tVar 1) (tCons (tVar 2) (tCons (tVar 3) (tNil))))) (gTup K 2 (gCons (gName 8) (gCons (gName 9) (gNil))))) (tRet (tTup (tCons (tVar 8) (tCons (tC (.str "web")) (tCons (tVar 9) (tNil))))))) (tNext)) (tSeq (tIfS (tTest (tOp (rIn K false) (tVar 0) (tTup (tCons (tC (.int 19)) (tCons (tC (.int 21)) (tNil)))))) (tSeq (tAsg (tCal (sp_lbadweb K) (tCons (tOp (rIxL K) (tLst (tCons (tC (.int 2)) (tCons (tC (.int 10)) (tNil)))) (tCB kInt1 (tCons (tOp rEq (tVar 0) (tC (.int 21))) (tNil)))) (tCons (tLst (tCons (tTup (tCons (tC (.int 1)) (tCons (tC (.int 0)) (tNil)))) (tNil))) (tCons (tVar 3) (tNil))))) (gTup K 2 (gCons (gName 8) (gCons (gName 9) (gNil))))) (tRet (tTup (tCons (tVar 8) (tCons (tC (.str "web")) (tCons (tVar 9) (tNil))))))) (tNext)) (tSeq (tIfS (tAnd (tTest (tOp rEq (tVar 0) (tC (.int 20)))) (tTest (tOp rEq (tOp oMod (tVar 3) (tC (.int 3))) (tC (.int 0))))) (tRet (tTup (tCons (tC (.int 10)) (tCons (tC (.str "lines")) (tCons (tC .non) (tNil)))))) (tNext)) (tRet (tTup (tCons (tIf (tAnd (tTest (tOp (rIn K false) (tVar 0) (tTup (tCons (tC (.int 17)) (tCons (tC (.int 18)) (tNil)))))) (tTest (tOp rEq (tOp oMod (tVar 3) (tC (.int 12))) (tC (.int 0))))) (tC (.int 9)) (tCal (sp_lbadlines K) (tCons (tVar 3) (tNil)))) (tCons (tC (.str "lines")) (tCons (tC .non) (tNil))))))))))))
/-! ### _law_good_thing(_law_way, _law_lines, _law_comparers): slots 0 _law_way, 1 _law_lines, 2 _law_comparers -/
abbrev s_lgoodthing : Stmt := topS 73
abbrev N_lgoodthing : List Str := ["_law_way", "_law_lines", "_law_comparers"]
abbrev P_lgoodthing : List Str := ["_law_way", "_law_lines", "_law_comparers"]
theorem sc_lgoodthing : FnScope N_lgoodthing P_lgoodthing (defScope s_lgoodthing) := ⟨rfl, rfl, rfl, by decide +kernel, rfl, by decide +kernel, by decide +kernel⟩
def r_lgoodthing (K : PySem.W.Frag) : TS :=
  tSeq (tIfS (tTest (tOp (rIn K false) (tVar 0) (tTup (tCons (tC (.int 9)) (tCons (tC (.int 10)) (tCons (tC (.int 14)) (tNil))))))) (tRet (tRevL K (tLstRg (tRg1 (tVar 1))))) (tNext)) (tSeq (tIfS (tTest (tOp rEq (tVar 0) (tC (.int 11)))) (tRet (tOp oSub (tCB (kLen K) (tCons (tVar 2) (tNil))) (tC (.int 1)))) (tNext)) (tSeq (tIfS (tTest (tOp rEq (tVar 0) (tC (.int 12)))) (tRet (tRevL K (tLstRg (tRg1 (tVar 1))))) (tNext)) (tSeq (tIfS (tTest (tOp (rIn K false) (tVar 0) (tTup (tCons (tC (.int 19)) (tCons (tC (.int 21)) (tNil)))))) (tRet (tLst (tCons (tTup (tCons (tC (.int 1)) (tCons (tC (.int 0)) (tNil)))) (tNil)))) (tNext)) (tRet (tIf (tTest (tOp rEq (tVar 0) (tC (.int 13)))) (tVar 2) (tOp (rIxL K) (tLst (tCons (tVar 1) (tCons (tC (.int 1)) (tNil)))) (tCB kInt1 (tCons (tOp rEq (tVar 0) (tC (.int 20))) (tNil)))))))))
/-! ### _law_wrong(_law_lines, _law_comparers, _law_cell, _law_k): slots 0 _law_lines, 1 _law_comparers, 2 _law_cell, 3 _law_k, 4 _law_n, 5 _law_way, 6 _law_thing, 7 _law_web_here, 8 _law_due, 9 _law_word_here, 10 _law_place, 11 _law_kept, 12 _law_e -/
abbrev s_lwrong : Stmt := topS 74
abbrev N_lwrong : List Str := ["_law_lines", "_law_comparers", "_law_cell", "_law_k", "_law_n", "_law_way", "_law_thing", "_law_web_here", "_law_due", "_law_word_here", "_law_place", "_law_kept", "_law_e"]
abbrev P_lwrong : List Str := ["_law_lines", "_law_comparers", "_law_cell", "_law_k"]
theorem sc_lwrong : FnScope N_lwrong P_lwrong (defScope s_lwrong) := ⟨rfl, rfl, rfl, by decide +kernel, rfl, by decide +kernel, by decide +kernel⟩
def r_lwrong_e1 (K : PySem.W.Frag) : TS :=
  tIfS (tAnd (tTest (tOp rEq (tVar 5) (tC (.int 19)))) (tTest (tOp rEq (tCB (kLen K) (tCons (tVar 1) (tNil))) (tC (.int 60))))) (tAsg (tTup (tCons (tC (.str "web")) (tCons (tC .non) (tNil)))) (gName 8)) (tNext)
def r_lwrong_t1 (K : PySem.W.Frag) : TS :=
  tSeq (tIfS (tAnd (tTest (tOp oGt (tVar 5) (tC (.int 8)))) (tTest (tOp rEq (tOp oMod (tOp oDiv (tVar 4) (tC (.int 22))) (tC (.int 2))) (tC (.int 1))))) (tSeq (tAsg (tCal (sp_lbadthing K) (tCons (tVar 5) (tCons (tVar 0) (tCons (tVar 1) (tCons (tOp oDiv (tVar 4) (tC (.int 88))) (tNil)))))) (gTup K 3 (gCons (gName 6) (gCons (gName 9) (gCons (gName 10) (gNil)))))) (tAsg (tTup (tCons (tVar 9) (tCons (tVar 10) (tNil)))) (gName 8))) (tNext)) (tSeq (tIfS (tAnd (tOr (tTest (tOp oLt (tVar 5) (tC (.int 14)))) (tTest (tOp oGt (tVar 5) (tC (.int 18))))) (tTest (tOp rEq (tOp oMod (tOp oDiv (tVar 4) (tC (.int 44))) (tC (.int 2))) (tC (.int 1))))) (tSeq (tAsg (tCal (sp_lbadweb K) (tCons (tVar 0) (tCons (tVar 1) (tCons (tOp oDiv (tVar 4) (tC (.int 88))) (tNil))))) (gTup K 2 (gCons (gName 7) (gCons (gName 10) (gNil))))) (tAsg (tTup (tCons (tC (.str "web")) (tCons (tVar 10) (tNil)))) (gName 8))) (tNext)) (tSeq (tIfS (tAnd (tOr (tTest (tOp oLt (tVar 5) (tC (.int 14)))) (tTest (tOp oGt (tVar 5) (tC (.int 18))))) (tTest (tOp rEq (tOp oMod (tOp oDiv (tVar 4) (tC (.int 500))) (tC (.int 4))) (tC (.int 1))))) (tSeq (tAsg (tCal (sp_lbadlines K) (tCons (tOp oDiv (tVar 4) (tC (.int 2000))) (tNil))) (gName 0)) (tAsg (tTup (tCons (tC (.str "lines")) (tCons (tC .non) (tNil)))) (gName 8))) (tNext)) (tSeq (tIfS (tAnd (tTest (tOp rEq (tVar 5) (tC (.int 11)))) (tAnd (tTest (tOp rEq (tOp (rIxT K) (tVar 8) (tC (.int 0))) (tC (.str "")))) (tTest (tOp (rEqD K) (tVar 1) (tLst (tNil)))))) (tRet (tC (.bl true))) (tNext)) (tSeq (tAsg (tIf (tB (tCB (rIsK K) (tCons (tVar 7) (tCons (tC (.ty "list")) (tNil))))) (tCB (kList K) (tCons (tVar 7) (tNil))) (tVar 7)) (gName 11)) (tSeq (tAsg (tCal (sp_ltried K) (tCons (tVar 5) (tCons (tVar 0) (tCons (tVar 7) (tCons (tVar 6) (tNil)))))) (gName 12)) (tSeq (tIfS (tOr (tTest (tOp rNe (tCal (sp_lword K) (tCons (tVar 12) (tNil))) (tOp (rIxT K) (tVar 8) (tC (.int 0))))) (tTest (tOp (rNeX K) (tVar 7) (tVar 11)))) (tRet (tC (.bl false))) (tNext)) (tSeq (tIfS (tTest (tOp rNe (tOp (rIxT K) (tVar 8) (tC (.int 0))) (tC (.str "web")))) (tRet (tC (.bl true))) (tNext)) (tRet (tIf (tTest (tOp rIsN (tOp (rIxT K) (tVar 8) (tC (.int 1))) (tC .non))) (tOp rIsN (tXk K "place" (tVar 12)) (tC .non)) (tAndV (tCB (rIsK K) (tCons (tXk K "place" (tVar 12)) (tCons (tC (.ty "int")) (tNil)))) (tOp rEq (tXk K "place" (tVar 12)) (tOp (rIxT K) (tVar 8) (tC (.int 1))))))))))))))
def r_lwrong (K : PySem.W.Frag) : TS :=
  tSeq (tAsg (tCal (sp_ldraw K) (tCons (tVar 2) (tCons (tVar 3) (tCons (tC (.int 30)) (tNil))))) (gName 4)) (tSeq (tAsg (tOp oMod (tVar 4) (tC (.int 22))) (gName 5)) (tSeq (tAsg (tCal (sp_lgoodthing K) (tCons (tVar 5) (tCons (tVar 0) (tCons (tVar 1) (tNil))))) (gName 6)) (tSeq (tAsg (tCB (kList K) (tCons (tVar 1) (tNil))) (gName 7)) (tSeq (tAsg (tTup (tCons (tC (.str "")) (tCons (tC .non) (tNil)))) (gName 8)) (tSeq (tIfS (tTest (tOp rEq (tVar 5) (tC (.int 21)))) (tAsg (tTup (tCons (tC (.str "lines")) (tCons (tC .non) (tNil)))) (gName 8)) (r_lwrong_e1 K)) (r_lwrong_t1 K))))))
/-! ### law(_law_script): slots 0 _law_script, 1 _law_lines, 2 _law_comparers, 3 _law_k, 4 _law_cell -/
abbrev s_law : Stmt := topS 75
abbrev N_law : List Str := ["_law_script", "_law_lines", "_law_comparers", "_law_k", "_law_cell"]
abbrev P_law : List Str := ["_law_script"]
theorem sc_law : FnScope N_law P_law (defScope s_law) := ⟨rfl, rfl, rfl, by decide +kernel, rfl, by decide +kernel, by decide +kernel⟩
def r_law_f1 (K : PySem.W.Frag) : TS :=
  tIfS (tNot (tB (tCal (sp_lwrong K) (tCons (tVar 1) (tCons (tVar 2) (tCons (tVar 4) (tCons (tVar 3) (tNil)))))))) (tRet (tC (.bl false))) (tNext)
def r_law (K : PySem.W.Frag) : TS :=
  tSeq (tAsg (tCal (sp_lweb K) (tCons (tVar 0) (tNil))) (gTup K 2 (gCons (gName 1) (gCons (gName 2) (gNil))))) (tSeq (tFor (iEnum K (tCons (tOp rCat (tSl (rSlL K) (tVar 0) (tNoPart) (tPart (tC (.int 63)))) (tLst (tCons (tC (.int 5)) (tNil)))) (tNil))) (gTup K 2 (gCons (gName 3) (gCons (gName 4) (gNil)))) (r_law_f1 K)) (tRet (tC (.bl true))))
/-! ### BadWeb.__init__ -/
abbrev s_initBadWeb : Stmt := memS (topS 9) 0
abbrev N_initBadWeb : List Str := ["self", "place"]
theorem sc_initBadWeb : FnScope N_initBadWeb N_initBadWeb (defScope s_initBadWeb) := ⟨rfl, rfl, rfl, by decide +kernel, rfl, by decide +kernel, by decide +kernel⟩
/-! ## The quiet readings -/
def rq_needlines (K : PySem.W.Frag) : TS :=
  tIfS (tOr (tNot (tB (tCal (sp_iswhole K) (tCons (tVar 0) (tNil))))) (tNot (tTest (tChain oLe oLe (tC (.int 1)) (tVar 0) (tC (.int 10)))))) (tOff) (tNext)
def rq_needweb_f1 (K : PySem.W.Frag) : TS :=
  tIfS (tNot (tB (tCal (sp_iscomparer K) (tCons (tVar 0) (tCons (tVar 3) (tNil)))))) (tOff) (tNext)
def rq_needweb (K : PySem.W.Frag) : TS :=
  tSeq (tDrop (tCal (sq_needlines K) (tCons (tVar 0) (tNil)))) (tSeq (tIfS (tOr (tTest (tOp rNT (tCB (rTyp K) (tCons (tVar 1) (tNil))) (tC (.ty "list")))) (tTest (tOp oGt (tCB (kLen K) (tCons (tVar 1) (tNil))) (tC (.int 60))))) (tOff) (tNext)) (tFor (iEnum K (tCons (tVar 1) (tNil))) (gTup K 2 (gCons (gName 2) (gCons (gName 3) (gNil)))) (rq_needweb_f1 K)))
def rq_needrow (K : PySem.W.Frag) : TS :=
  tSeq (tIfS (tOr (tNot (tB (tCal (sp_iswhole K) (tCons (tVar 0) (tNil))))) (tOr (tTest (tOp rNT (tCB (rTyp K) (tCons (tVar 1) (tNil))) (tC (.ty "list")))) (tTest (tOp rNe (tCB (kLen K) (tCons (tVar 1) (tNil))) (tVar 0))))) (tOff) (tNext)) (tIfS (tNot (tB (tCB (rAll K) (tCons (tLc (iList K (tVar 1)) (gName 2) (tYes) (tCal (sp_iswhole K) (tCons (tVar 2) (tNil))) [2]) (tNil))))) (tOff) (tNext))
def rq_binit (K : PySem.W.Frag) : TS :=
  tSeq (tDrop (tCal (sq_needlines K) (tCons (tVar 1) (tNil)))) (tSeq (sFld K (tVar 0) (tVar 1) "_lines") (tSeq (sFld K (tVar 0) (tLst (tNil)) "_comparers") (sFld K (tVar 0) (tLst (tCons (tLstRg (tRg1 (tOp oShl (tC (.int 1)) (tVar 1)))) (tNil))) "_rows")))
def rq_layers_f1 (K : PySem.W.Frag) : TS :=
  tSeq (tIfS (tTest (tOp rEq (tVar 4) (tCB (kLen K) (tCons (tVar 2) (tNil))))) (tDrop (tBM K "list" rAppend (tVar 2) (tCons (tLst (tNil)) (tNil)))) (tNext)) (tDrop (tBM K "list" rAppend (tOp (rIxL K) (tVar 2) (tVar 4)) (tCons (tVar 3) (tNil))))
def rq_layers (K : PySem.W.Frag) : TS :=
  tSeq (tDrop (tCal (sq_needweb K) (tCons (tVar 0) (tCons (tVar 1) (tNil))))) (tSeq (tAsg (tLst (tNil)) (gName 2)) (tSeq (tFor (iZip K (tCons (tVar 1) (tCons (tCal (sp_depths K) (tCons (tVar 0) (tCons (tVar 1) (tNil)))) (tNil)))) (gTup K 2 (gCons (gName 3) (gCons (gName 4) (gNil)))) (rq_layers_f1 K)) (tRet (tVar 2))))
def rq_chain_f1 (K : PySem.W.Frag) : TS :=
  tIfS (tAnd (tTest (tOp rEq (tOp (rIxL K) (tVar 2) (tVar 5)) (tVar 3))) (tOr (tTest (tOp (rEqD K) (tVar 4) (tLst (tNil)))) (tB (tCal (sp_meet K) (tCons (tOp (rIxL K) (tVar 1) (tVar 5)) (tCons (tOp (rIxL K) (tVar 1) (tOp (rIxL K) (tVar 4) (tUn oNeg (tC (.int 1))))) (tNil))))))) (tSeq (tDrop (tBM K "list" rAppend (tVar 4) (tCons (tVar 5) (tNil)))) (tAsg (tOp oSub (tVar 3) (tC (.int 1))) (gName 3))) (tNext)
def rq_chain (K : PySem.W.Frag) : TS :=
  tSeq (tDrop (tCal (sq_needweb K) (tCons (tVar 0) (tCons (tVar 1) (tNil))))) (tSeq (tAsg (tCal (sp_depths K) (tCons (tVar 0) (tCons (tVar 1) (tNil)))) (gName 2)) (tSeq (tAsg (tCKw (rMaxDI K) (tCons (tVar 2) (tNil)) (tCons (tC (.int 0)) (tNil))) (gName 3)) (tSeq (tAsg (tLst (tNil)) (gName 4)) (tSeq (tFor (iRevR (tRg1 (tCB (kLen K) (tCons (tVar 1) (tNil))))) (gName 5) (rq_chain_f1 K)) (tRet (tRevL K (tVar 4)))))))
def rq_unsorted_f1 (K : PySem.W.Frag) : TS :=
  tAsg (tOp oBOr (tVar 3) (tCal (sp_greater K) (tCons (tVar 2) (tCons (tVar 4) (tCons (tOp oAdd (tVar 4) (tC (.int 1))) (tNil)))))) (gName 3)
def rq_unsorted (K : PySem.W.Frag) : TS :=
  tSeq (tDrop (tCal (sq_needweb K) (tCons (tVar 0) (tCons (tVar 1) (tNil))))) (tSeq (tAsg (tCal (sp_columnsout K) (tCons (tVar 0) (tCons (tVar 1) (tNil)))) (gName 2)) (tSeq (tAsg (tC (.int 0)) (gName 3)) (tSeq (tFor (iRng1 (tCons (tOp oSub (tVar 0) (tC (.int 1))) (tNil))) (gName 4) (rq_unsorted_f1 K)) (tRet (tCal (sp_firstrow K) (tCons (tVar 0) (tCons (tVar 3) (tNil))))))))
def rq_stirring (K : PySem.W.Frag) : TS :=
  tSeq (tDrop (tCal (sq_needweb K) (tCons (tVar 0) (tCons (tVar 1) (tNil))))) (tSeq (tDrop (tCal (sq_needplace K) (tCons (tVar 1) (tCons (tVar 2) (tNil))))) (tSeq (tAsg (tOp (rIxL K) (tVar 1) (tVar 2)) (gTup K 2 (gCons (gName 3) (gCons (gName 4) (gNil))))) (tRet (tCal (sp_firstrow K) (tCons (tVar 0) (tCons (tCal (sp_greater K) (tCons (tCal (sp_columnsout K) (tCons (tVar 0) (tCons (tSl (rSlL K) (tVar 1) (tNoPart) (tPart (tVar 2))) (tNil)))) (tCons (tVar 3) (tCons (tVar 4) (tNil))))) (tNil)))))))
def rq_needless_f1 (K : PySem.W.Frag) : TS :=
  tSeq (tAsg (tVar 5) (gTup K 2 (gCons (gName 6) (gCons (gName 7) (gNil))))) (tSeq (tIfS (tTest (tOp rEq (tCal (sp_greater K) (tCons (tVar 3) (tCons (tVar 6) (tCons (tVar 7) (tNil))))) (tC (.int 0)))) (tDrop (tBM K "list" rAppend (tVar 2) (tCons (tVar 4) (tNil)))) (tNext)) (tAsg (tCal (sp_behind K) (tCons (tVar 3) (tCons (tVar 5) (tNil)))) (gName 3)))
def rq_needless (K : PySem.W.Frag) : TS :=
  tSeq (tDrop (tCal (sq_needweb K) (tCons (tVar 0) (tCons (tVar 1) (tNil))))) (tSeq (tAsg (tLst (tNil)) (gName 2)) (tSeq (tAsg (tCal (sp_allcolumns K) (tCons (tVar 0) (tNil))) (gName 3)) (tSeq (tFor (iEnum K (tCons (tVar 1) (tNil))) (gTup K 2 (gCons (gName 4) (gCons (gName 5) (gNil)))) (rq_needless_f1 K)) (tRet (tVar 2)))))
def rq_pruned (K : PySem.W.Frag) : TS :=
  tSeq (tAsg (tCal (sq_needless K) (tCons (tVar 0) (tCons (tVar 1) (tNil)))) (gName 2)) (tRet (tLc (iEnum K (tCons (tVar 1) (tNil))) (gTup K 2 (gCons (gName 3) (gCons (gName 4) (gNil)))) (tTest (tOp (rIn K true) (tVar 3) (tVar 2))) (tVar 4) [3, 4]))
def rq_differing_f1 (K : PySem.W.Frag) : TS :=
  tAsg (tOp oBOr (tVar 3) (tOp oBXor (tVar 4) (tVar 5))) (gName 3)
def rq_differing (K : PySem.W.Frag) : TS :=
  tSeq (tDrop (tCal (sq_needweb K) (tCons (tVar 0) (tCons (tVar 1) (tNil))))) (tSeq (tDrop (tCal (sq_needweb K) (tCons (tVar 0) (tCons (tVar 2) (tNil))))) (tSeq (tAsg (tC (.int 0)) (gName 3)) (tSeq (tFor (iZip K (tCons (tCal (sp_columnsout K) (tCons (tVar 0) (tCons (tVar 1) (tNil)))) (tCons (tCal (sp_columnsout K) (tCons (tVar 0) (tCons (tVar 2) (tNil)))) (tNil)))) (gTup K 2 (gCons (gName 4) (gCons (gName 5) (gNil)))) (rq_differing_f1 K)) (tRet (tCal (sp_firstrow K) (tCons (tVar 0) (tCons (tVar 3) (tNil))))))))
def rq_needplace (K : PySem.W.Frag) : TS :=
  tIfS (tOr (tNot (tB (tCal (sp_iswhole K) (tCons (tVar 1) (tNil))))) (tNot (tTest (tChain oLe oLt (tC (.int 0)) (tVar 1) (tCB (kLen K) (tCons (tVar 0) (tNil))))))) (tOff) (tNext)
def rq_merging (K : PySem.W.Frag) : TS :=
  tSeq (tDrop (tCal (sq_needpart K) (tCons (tVar 0) (tNil)))) (tSeq (tDrop (tCal (sq_needpart K) (tCons (tVar 1) (tNil)))) (tSeq (tDrop (tCal (sq_needlines K) (tCons (tOp oAdd (tVar 0) (tVar 1)) (tNil)))) (tRet (tCal (sp_pmerging K) (tCons (tLstRg (tRg1 (tVar 0))) (tCons (tLstRg (tRg2 (tVar 0) (tOp oAdd (tVar 0) (tVar 1)))) (tNil)))))))
def rq_sorting (K : PySem.W.Frag) : TS :=
  tSeq (tDrop (tCal (sq_needlines K) (tCons (tVar 0) (tNil)))) (tRet (tCal (sp_psorting K) (tCons (tLstRg (tRg1 (tVar 0))) (tNil))))
def rq_beside (K : PySem.W.Frag) : TS :=
  tSeq (tDrop (tCal (sq_needweb K) (tCons (tVar 0) (tCons (tVar 1) (tNil))))) (tSeq (tDrop (tCal (sq_needweb K) (tCons (tVar 2) (tCons (tVar 3) (tNil))))) (tSeq (tIfS (tTest (tOp oGt (tOp oAdd (tVar 0) (tVar 2)) (tC (.int 10)))) (tOff) (tNext)) (tSeq (tIfS (tTest (tOp oGt (tOp oAdd (tCB (kLen K) (tCons (tVar 1) (tNil))) (tCB (kLen K) (tCons (tVar 3) (tNil)))) (tC (.int 60)))) (tOff) (tNext)) (tRet (tOp rCat (tVar 1) (tLc (iList K (tVar 3)) (gTup K 2 (gCons (gName 4) (gCons (gName 5) (gNil)))) (tYes) (tTup (tCons (tOp oAdd (tVar 0) (tVar 4)) (tCons (tOp oAdd (tVar 0) (tVar 5)) (tNil)))) [4, 5]))))))
def rq_needpart (K : PySem.W.Frag) : TS :=
  tIfS (tOr (tNot (tB (tCal (sp_iswhole K) (tCons (tVar 0) (tNil))))) (tNot (tTest (tChain oLe oLe (tC (.int 0)) (tVar 0) (tC (.int 10)))))) (tOff) (tNext)
def rq_run (K : PySem.W.Frag) : TS :=
  tRet (tOp (rIxL K) (tCal (sq_steps K) (tCons (tVar 0) (tCons (tVar 1) (tCons (tVar 2) (tNil))))) (tUn oNeg (tC (.int 1))))
def rq_steps_f1 (K : PySem.W.Frag) : TS :=
  tDrop (tBM K "list" rAppend (tVar 3) (tCons (tCal (sp_rbehind K) (tCons (tOp (rIxL K) (tVar 3) (tUn oNeg (tC (.int 1)))) (tCons (tVar 4) (tNil)))) (tNil)))
def rq_steps (K : PySem.W.Frag) : TS :=
  tSeq (tDrop (tCal (sq_needweb K) (tCons (tVar 0) (tCons (tVar 1) (tNil))))) (tSeq (tDrop (tCal (sq_needrow K) (tCons (tVar 0) (tCons (tVar 2) (tNil))))) (tSeq (tAsg (tLst (tCons (tCB (kList K) (tCons (tVar 2) (tNil))) (tNil))) (gName 3)) (tSeq (tFor (iList K (tVar 1)) (gName 4) (rq_steps_f1 K)) (tRet (tVar 3)))))
def rq_renamed (K : PySem.W.Frag) : TS :=
  tSeq (tDrop (tCal (sq_needweb K) (tCons (tVar 0) (tCons (tVar 1) (tNil))))) (tSeq (tDrop (tCal (sq_needorder K) (tCons (tVar 0) (tCons (tVar 2) (tNil))))) (tRet (tLc (iList K (tVar 1)) (gTup K 2 (gCons (gName 3) (gCons (gName 4) (gNil)))) (tYes) (tTup (tCons (tOp (rIxL K) (tVar 2) (tVar 3)) (tCons (tOp (rIxL K) (tVar 2) (tVar 4)) (tNil)))) [3, 4])))
def rq_upside (K : PySem.W.Frag) : TS :=
  tSeq (tDrop (tCal (sq_needweb K) (tCons (tVar 0) (tCons (tVar 1) (tNil))))) (tRet (tLc (iList K (tVar 1)) (gTup K 2 (gCons (gName 2) (gCons (gName 3) (gNil)))) (tYes) (tTup (tCons (tOp oSub (tOp oSub (tVar 0) (tC (.int 1))) (tVar 3)) (tCons (tOp oSub (tOp oSub (tVar 0) (tC (.int 1))) (tVar 2)) (tNil)))) [2, 3]))
def rq_straightened_f1 (K : PySem.W.Frag) : TS :=
  tSeq (tAsg (tCB kMin (tCons (tOp (rIxL K) (tVar 3) (tVar 4)) (tCons (tOp (rIxL K) (tVar 3) (tVar 5)) (tNil)))) (gName 6)) (tSeq (tAsg (tCB kMax (tCons (tOp (rIxL K) (tVar 3) (tVar 4)) (tCons (tOp (rIxL K) (tVar 3) (tVar 5)) (tNil)))) (gName 7)) (tSeq (tDrop (tBM K "list" rAppend (tVar 2) (tCons (tTup (tCons (tVar 6) (tCons (tVar 7) (tNil)))) (tNil)))) (tSeq (tAsg (tVar 6) (gSub (tVar 3) (tVar 4) rSetL)) (tAsg (tVar 7) (gSub (tVar 3) (tVar 5) rSetL)))))
def rq_straightened (K : PySem.W.Frag) : TS :=
  tSeq (tDrop (tCal (sq_needweb K) (tCons (tVar 0) (tCons (tVar 1) (tNil))))) (tSeq (tAsg (tLst (tNil)) (gName 2)) (tSeq (tAsg (tLstRg (tRg1 (tVar 0))) (gName 3)) (tSeq (tFor (iList K (tVar 1)) (gTup K 2 (gCons (gName 4) (gCons (gName 5) (gNil)))) (rq_straightened_f1 K)) (tRet (tTup (tCons (tVar 2) (tCons (tVar 3) (tNil))))))))
def rq_needorder (K : PySem.W.Frag) : TS :=
  tSeq (tAsg (tAndV (tOp rIsTyB (tCB (rTyp K) (tCons (tVar 1) (tNil))) (tC (.ty "list"))) (tCB (rAll K) (tCons (tLc (iList K (tVar 1)) (gName 3) (tYes) (tCal (sp_iswhole K) (tCons (tVar 3) (tNil))) [3]) (tNil)))) (gName 2)) (tIfS (tOr (tNot (tB (tVar 2))) (tTest (tOp (rNeD K) (tCB (rSortedI K) (tCons (tVar 1) (tNil))) (tLstRg (tRg1 (tVar 0)))))) (tOff) (tNext))
section
variable {P : Program} {w : World} {K : PySem.W.Frag} {mg : Str → Option Value} {base : Heap}
theorem ok_iswhole (h : Here K mg "is_whole" s_iswhole) (b_int : mg "int" = none) (b_type : mg "type" = none)
    (len : ∀ vs H Q E, sp_iswhole K vs H Q E → vs.length = P_iswhole.length)
    (rd : ∀ (vs : List V) (H : Hp) (Q : VK) (E : XK), sp_iswhole K vs H Q E → r_iswhole K { nx := fun _ H' => Q .non H', rt := Q } (start N_iswhole vs) H) :
    Cal P w K mg base CX0 1 "is_whole" P_iswhole (sp_iswhole K) := by
  exact h.cal sc_iswhole len (fun _ _ _ _ _ _ us hl => match us, hl with | [_], _ => rfl)
    (fun f cdv A outer s H E hr => (show PSs _ _ _ from (pss_one (ps_ret (pe_cmpR op_isTyB (pe_callTy call_type1 (by rfl) b_type (by decide +kernel) (pa_cons (pv 0) pa_nil)) (pe_bltn (v := .ty "int") (by rfl) b_int (by decide +kernel) rfl) (nomark _)))))) rd
theorem ok_iscomparer (h : Here K mg "is_comparer" s_iscomparer) (C_isline : Cal P w K mg base CX0 2 "_is_line" ["lines", "value"] (sp_isline K)) (b_len : mg "len" = none) (b_tuple : mg "tuple" = none) (b_type : mg "type" = none)
    (len : ∀ vs H Q E, sp_iscomparer K vs H Q E → vs.length = P_iscomparer.length)
    (rd : ∀ (vs : List V) (H : Hp) (Q : VK) (E : XK), sp_iscomparer K vs H Q E → r_iscomparer K { nx := fun _ H' => Q .non H', rt := Q } (start N_iscomparer vs) H) :
    Cal P w K mg base CX0 3 "is_comparer" P_iscomparer (sp_iscomparer K) := by
  exact h.cal sc_iscomparer len (fun _ _ _ _ _ _ us hl => match us, hl with | [_, _], _ => rfl)
    (fun f cdv A outer s H E hr => (show PSs _ _ _ from (pss_cons (ps_if (pw_or (pt_cmpR op_notTyB (pe_callTy call_type1 (by rfl) b_type (by decide +kernel) (pa_cons (pv 1) pa_nil)) (pe_bltn (v := .ty "tuple") (by rfl) b_tuple (by decide +kernel) rfl) (nomark _)) (pw_or1 (pt_cmpR op_ne (pe_callB cl_len (by rfl) b_len PySem.boot_len (pa_cons (pv 1) pa_nil)) pe_int (nomark _)))).pt (pss_one (ps_ret pe_bl)) pss_nil) (pss_cons (ps_asg (pv 1) (pg_tup rfl (pgs_cons (pg_name (i := 2) sc_iscomparer.nd rfl (Or.inl rfl)) (pgs_cons (pg_name (i := 3) sc_iscomparer.nd rfl (Or.inl rfl)) pgs_nil)))) (pss_one (ps_ret (pe_and (pe_cal C_isline (hr.mono (by decide)) (by rfl) (pa_cons (pv 0) (pa_cons (pv 2) pa_nil))) (pe_and (pe_cal C_isline (hr.mono (by decide)) (by rfl) (pa_cons (pv 0) (pa_cons (pv 3) pa_nil))) (pe_one (pe_cmpR op_ne (pv 2) (pv 3) (nomark _))))))))))) rd
theorem ok_isline (h : Here K mg "_is_line" s_isline) (C_iswhole : Cal P w K mg base CX0 1 "is_whole" ["value"] (sp_iswhole K))
    (len : ∀ vs H Q E, sp_isline K vs H Q E → vs.length = P_isline.length)
    (rd : ∀ (vs : List V) (H : Hp) (Q : VK) (E : XK), sp_isline K vs H Q E → r_isline K { nx := fun _ H' => Q .non H', rt := Q } (start N_isline vs) H) :
    Cal P w K mg base CX0 2 "_is_line" P_isline (sp_isline K) := by
  exact h.cal sc_isline len (fun _ _ _ _ _ _ us hl => match us, hl with | [_, _], _ => rfl)
    (fun f cdv A outer s H E hr => (show PSs _ _ _ from (pss_one (ps_ret (pe_and (pe_cal C_iswhole (hr.mono (by decide)) (by rfl) (pa_cons (pv 1) pa_nil)) (pe_one (pe_chain op_le op_lt pe_int (pv 1) (pv 0)))))))) rd
theorem ok_needlines (h : Here K mg "need_lines" s_needlines) (C_iswhole : Cal P w K mg base CX0 1 "is_whole" ["value"] (sp_iswhole K)) (c_MOST_LINES : ∃ t, mg "MOST_LINES" = some (.int 10 t)) (X_BadLines : ExK K mg "BadLines")
    (len : ∀ vs H Q E, sp_needlines K vs H Q E → vs.length = P_needlines.length)
    (rd : ∀ (vs : List V) (H : Hp) (Q : VK) (E : XK), sp_needlines K vs H Q E → r_needlines K E { nx := fun _ H' => Q .non H', rt := Q } (start N_needlines vs) H) :
    Cal P w K mg base (L2N.CX P w) 2 "need_lines" P_needlines (sp_needlines K) := by
  exact h.calN (r := fun E => r_needlines K E) sc_needlines len (fun _ _ _ _ _ _ us hl => match us, hl with | [_], _ => rfl)
    (fun f cdv A outer s H E hr => (show PSs _ _ _ from (pss_one (ps_if (pw_or (pt_not (pt_val (pe_cal C_iswhole (hr.mono (by decide)) (by rfl) (pa_cons (pv 0) pa_nil)))) (pw_or1 (pt_not (pt_chain op_le op_le pe_int (pv 0) (pe_gi c_MOST_LINES (by rfl)))))).pt (pss_one (ps_rzAN rfl (L2N.takes_of rfl rfl rfl rfl) X_BadLines (by rfl) (pa_cons (pe_joined (.cons pe_str (.cons (pe_fmt (pe_gi c_MOST_LINES (by rfl))) .nil))) pa_nil))) pss_nil)))) rd
theorem ok_needweb (h : Here K mg "need_web" s_needweb) (C_iscomparer : Cal P w K mg base CX0 3 "is_comparer" ["lines", "value"] (sp_iscomparer K)) (C_needlines : Cal P w K mg base (L2N.CX P w) 2 "need_lines" ["lines"] (sp_needlines K)) (b_enumerate : mg "enumerate" = none) (b_len : mg "len" = none) (b_list : mg "list" = none) (b_type : mg "type" = none) (c_MOST_COMPARERS : ∃ t, mg "MOST_COMPARERS" = some (.int 60 t)) (O_BadWeb : OwK K mg "BadWeb" "place") (I_BadWeb : InitOk P w K mg base 1 "BadWeb" "place")
    (len : ∀ vs H Q E, sp_needweb K vs H Q E → vs.length = P_needweb.length)
    (rd : ∀ (vs : List V) (H : Hp) (Q : VK) (E : XK), sp_needweb K vs H Q E → r_needweb K E { nx := fun _ H' => Q .non H', rt := Q } (start N_needweb vs) H) :
    Cal P w K mg base (L2N.CX P w) 4 "need_web" P_needweb (sp_needweb K) := by
  obtain ⟨fd_BadWeb, F_BadWeb, B_BadWeb⟩ := I_BadWeb
  exact h.calN (r := fun E => r_needweb K E) sc_needweb len (fun _ _ _ _ _ _ us hl => match us, hl with | [_, _], _ => rfl)
    (fun f cdv A outer s H E hr => (show PSs _ _ _ from (pss_cons (ps_expr (pe_calN C_needlines (hr.mono (by decide)) (L2N.takes_of rfl rfl rfl rfl) (by rfl) (pa_cons (pv 0) pa_nil))) (pss_cons (ps_if (pw_or (pt_cmpR op_notTyB (pe_callTy call_type1 (by rfl) b_type (by decide +kernel) (pa_cons (pv 1) pa_nil)) (pe_bltn (v := .ty "list") (by rfl) b_list (by decide +kernel) rfl) (nomark _)) (pw_or1 (pt_cmpR op_gt (pe_callB cl_len (by rfl) b_len PySem.boot_len (pa_cons (pv 1) pa_nil)) (pe_gi c_MOST_COMPARERS (by rfl)) (nomark _)))).pt (pss_one (ps_rzON rfl (L2N.takes_of rfl rfl rfl rfl) O_BadWeb F_BadWeb B_BadWeb (hr.mono (by decide)) (by rfl) (pa_cons pe_non pa_nil))) pss_nil) (pss_one (ps_for (passes_of rfl) rfl (pi_enum (by rfl) b_enumerate (pa_cons (pv 1) pa_nil)) (pg_tup rfl (pgs_cons (pg_name (i := 2) sc_needweb.nd rfl (Or.inl rfl)) (pgs_cons (pg_name (i := 3) sc_needweb.nd rfl (Or.inl rfl)) pgs_nil))) (pss_one (ps_if (pt_not (pt_val (pe_cal C_iscomparer (hr.mono (by decide)) (by rfl) (pa_cons (pv 0) (pa_cons (pv 3) pa_nil))))) (pss_one (ps_rzON rfl (L2N.takes_of rfl rfl rfl rfl) O_BadWeb F_BadWeb B_BadWeb (hr.mono (by decide)) (by rfl) (pa_cons (pv 2) pa_nil))) pss_nil)))))))) rd
theorem ok_needrow (h : Here K mg "need_row" s_needrow) (C_iswhole : Cal P w K mg base CX0 1 "is_whole" ["value"] (sp_iswhole K)) (b_all : mg "all" = none) (b_len : mg "len" = none) (b_list : mg "list" = none) (b_type : mg "type" = none) (X_BadRow : ExK K mg "BadRow")
    (len : ∀ vs H Q E, sp_needrow K vs H Q E → vs.length = P_needrow.length)
    (rd : ∀ (vs : List V) (H : Hp) (Q : VK) (E : XK), sp_needrow K vs H Q E → r_needrow K E { nx := fun _ H' => Q .non H', rt := Q } (start N_needrow vs) H) :
    Cal P w K mg base (L2N.CX P w) 2 "need_row" P_needrow (sp_needrow K) := by
  exact h.calN (r := fun E => r_needrow K E) sc_needrow len (fun _ _ _ _ _ _ us hl => match us, hl with | [_, _], _ => rfl)
    (fun f cdv A outer s H E hr => (show PSs _ _ _ from (pss_cons (ps_if (pw_or (pt_not (pt_val (pe_cal C_iswhole (hr.mono (by decide)) (by rfl) (pa_cons (pv 0) pa_nil)))) (pw_or (pt_cmpR op_notTyB (pe_callTy call_type1 (by rfl) b_type (by decide +kernel) (pa_cons (pv 1) pa_nil)) (pe_bltn (v := .ty "list") (by rfl) b_list (by decide +kernel) rfl) (nomark _)) (pw_or1 (pt_cmpR op_ne (pe_callB cl_len (by rfl) b_len PySem.boot_len (pa_cons (pv 1) pa_nil)) (pv 0) (nomark _))))).pt (pss_one (ps_rzAN rfl (L2N.takes_of rfl rfl rfl rfl) X_BadRow (by rfl) (pa_cons pe_str pa_nil))) pss_nil) (pss_one (ps_if (pt_not (pt_val (pe_callB (cr_all rfl) (by rfl) b_all (by decide +kernel) (pa_cons (pe_lc (own := [("number", 2)]) rfl sc_needrow.nd (pi_list (pv 1)) (blkOk_by (N := N_needrow) (sc := defScope s_needrow) (by decide +kernel)) (fun _ _ _ _ _ => (pg_name (i := 2) sc_needrow.nd rfl (Or.inl rfl))) (fun _ _ _ _ _ => pts_nil) (fun _ _ _ _ _ => (pe_cal C_iswhole (hr.mono (by decide)) (by rfl) (pa_cons (pv 2) pa_nil)))) pa_nil)))) (pss_one (ps_rzAN rfl (L2N.takes_of rfl rfl rfl rfl) X_BadRow (by rfl) (pa_cons pe_str pa_nil))) pss_nil))))) rd
theorem ok_allcolumns (h : Here K mg "all_columns" s_allcolumns) (b_range : mg "range" = none)
    (len : ∀ vs H Q E, sp_allcolumns K vs H Q E → vs.length = P_allcolumns.length)
    (rd : ∀ (vs : List V) (H : Hp) (Q : VK) (E : XK), sp_allcolumns K vs H Q E → r_allcolumns K { nx := fun _ H' => Q .non H', rt := Q } (start N_allcolumns vs) H) :
    Cal P w K mg base CX0 1 "all_columns" P_allcolumns (sp_allcolumns K) := by
  exact h.cal sc_allcolumns len (fun _ _ _ _ _ _ us hl => match us, hl with | [_], _ => rfl)
    (fun f cdv A outer s H E hr => (show PSs _ _ _ from (pss_cons (ps_set (i := 1) sc_allcolumns.nd rfl (Or.inl rfl) (pe_lst pa_nil)) (pss_cons (ps_set (i := 2) sc_allcolumns.nd rfl (Or.inr rfl) pe_int) (pss_cons (ps_for PassesOwn.never rfl (pi_range1 (by rfl) b_range (pa_cons (pv 0) pa_nil)) (pg_name (i := 3) sc_allcolumns.nd rfl (Or.inl rfl)) (pss_cons (ps_setLc (i := 1) (own := [("column", 4)]) rfl sc_allcolumns.nd rfl rfl (sw_true rfl rfl rfl (by decide +kernel)) (pi_list (pv 1)) (blkOk_by (N := N_allcolumns) (sc := defScope s_allcolumns) (by decide +kernel)) (fun _ _ _ _ _ => (pg_name (i := 4) sc_allcolumns.nd rfl (Or.inl rfl))) (fun _ _ _ _ _ => pts_nil) (fun _ _ _ _ _ => (pe_op op_or (pv 4) (pe_op op_shlW (pv 4) (pv 2))))) (pss_cons (ps_expr (pe_bm PySem.F.plainAttrs_list PySem.F.slot_list_append PySem.F.type_list_append md_append (pv 1) (pa_cons (pe_op op_shlW (pe_op op_sub (pe_op op_shlW pe_int (pv 2)) pe_int) (pv 2)) pa_nil))) (pss_one (ps_set (i := 2) sc_allcolumns.nd rfl (Or.inr rfl) (pe_op op_mul pe_int (pv 2))))))) (pss_one (ps_ret (pv 1)))))))) rd
theorem ok_greater (h : Here K mg "greater" s_greater) 
    (len : ∀ vs H Q E, sp_greater K vs H Q E → vs.length = P_greater.length)
    (rd : ∀ (vs : List V) (H : Hp) (Q : VK) (E : XK), sp_greater K vs H Q E → r_greater K { nx := fun _ H' => Q .non H', rt := Q } (start N_greater vs) H) :
    Cal P w K mg base CX0 1 "greater" P_greater (sp_greater K) := by
  exact h.cal sc_greater len (fun _ _ _ _ _ _ us hl => match us, hl with | [_, _, _], _ => rfl)
    (fun f cdv A outer s H E hr => (show PSs _ _ _ from (pss_one (ps_ret (pe_op op_and (pe_ix ix_list (pv 0) (pv 1) (fun _ _ => rfl)) (pe_un un_inv (pe_ix ix_list (pv 0) (pv 2) (fun _ _ => rfl)))))))) rd
theorem ok_behind (h : Here K mg "behind" s_behind) (b_list : mg "list" = none)
    (len : ∀ vs H Q E, sp_behind K vs H Q E → vs.length = P_behind.length)
    (rd : ∀ (vs : List V) (H : Hp) (Q : VK) (E : XK), sp_behind K vs H Q E → r_behind K { nx := fun _ H' => Q .non H', rt := Q } (start N_behind vs) H) :
    Cal P w K mg base CX0 1 "behind" P_behind (sp_behind K) := by
  exact h.cal sc_behind len (fun _ _ _ _ _ _ us hl => match us, hl with | [_, _], _ => rfl)
    (fun f cdv A outer s H E hr => (show PSs _ _ _ from (pss_cons (ps_asg (pv 1) (pg_tup rfl (pgs_cons (pg_name (i := 2) sc_behind.nd rfl (Or.inl rfl)) (pgs_cons (pg_name (i := 3) sc_behind.nd rfl (Or.inl rfl)) pgs_nil)))) (pss_cons (ps_set (i := 4) sc_behind.nd rfl (Or.inl rfl) (pe_callTy cl_list (by rfl) b_list (by decide +kernel) (pa_cons (pv 0) pa_nil))) (pss_cons (ps_asg (pe_op op_and (pe_ix ix_list (pv 0) (pv 2) (fun _ _ => rfl)) (pe_ix ix_list (pv 0) (pv 3) (fun _ _ => rfl))) (pg_sub (pv 4) (pv 2) set_list)) (pss_cons (ps_asg (pe_op op_or (pe_ix ix_list (pv 0) (pv 2) (fun _ _ => rfl)) (pe_ix ix_list (pv 0) (pv 3) (fun _ _ => rfl))) (pg_sub (pv 4) (pv 3) set_list)) (pss_one (ps_ret (pv 4))))))))) rd
theorem ok_columnsout (h : Here K mg "columns_out" s_columnsout) (C_allcolumns : Cal P w K mg base CX0 1 "all_columns" ["lines"] (sp_allcolumns K)) (C_behind : Cal P w K mg base CX0 1 "behind" ["columns", "comparer"] (sp_behind K))
    (len : ∀ vs H Q E, sp_columnsout K vs H Q E → vs.length = P_columnsout.length)
    (rd : ∀ (vs : List V) (H : Hp) (Q : VK) (E : XK), sp_columnsout K vs H Q E → r_columnsout K { nx := fun _ H' => Q .non H', rt := Q } (start N_columnsout vs) H) :
    Cal P w K mg base CX0 2 "columns_out" P_columnsout (sp_columnsout K) := by
  exact h.cal sc_columnsout len (fun _ _ _ _ _ _ us hl => match us, hl with | [_, _], _ => rfl)
    (fun f cdv A outer s H E hr => (show PSs _ _ _ from (pss_cons (ps_set (i := 2) sc_columnsout.nd rfl (Or.inl rfl) (pe_cal C_allcolumns (hr.mono (by decide)) (by rfl) (pa_cons (pv 0) pa_nil))) (pss_cons (ps_for PassesOwn.never rfl (pi_list (pv 1)) (pg_name (i := 3) sc_columnsout.nd rfl (Or.inl rfl)) (pss_one (ps_set (i := 2) sc_columnsout.nd rfl (Or.inl rfl) (pe_cal C_behind (hr.mono (by decide)) (by rfl) (pa_cons (pv 2) (pa_cons (pv 3) pa_nil)))))) (pss_one (ps_ret (pv 2))))))) rd
theorem ok_firstrow (h : Here K mg "first_row" s_firstrow) (C_rowof : Cal P w K mg base CX0 1 "row_of" ["lines", "number"] (sp_rowof K))
    (len : ∀ vs H Q E, sp_firstrow K vs H Q E → vs.length = P_firstrow.length)
    (rd : ∀ (vs : List V) (H : Hp) (Q : VK) (E : XK), sp_firstrow K vs H Q E → r_firstrow K { nx := fun _ H' => Q .non H', rt := Q } (start N_firstrow vs) H) :
    Cal P w K mg base CX0 2 "first_row" P_firstrow (sp_firstrow K) := by
  exact h.cal sc_firstrow len (fun _ _ _ _ _ _ us hl => match us, hl with | [_, _], _ => rfl)
    (fun f cdv A outer s H E hr => (show PSs _ _ _ from (pss_cons (ps_if (pt_cmpR op_eq (pv 1) pe_int (nomark _)) (pss_one (ps_ret pe_non)) pss_nil) (pss_one (ps_ret (pe_cal C_rowof (hr.mono (by decide)) (by rfl) (pa_cons (pv 0) (pa_cons (pe_op op_sub (pe_bits (pe_op op_and (pv 1) (pe_un un_neg (pv 1)))) pe_int) pa_nil)))))))) rd
theorem ok_rowof (h : Here K mg "row_of" s_rowof) (b_range : mg "range" = none)
    (len : ∀ vs H Q E, sp_rowof K vs H Q E → vs.length = P_rowof.length)
    (rd : ∀ (vs : List V) (H : Hp) (Q : VK) (E : XK), sp_rowof K vs H Q E → r_rowof K { nx := fun _ H' => Q .non H', rt := Q } (start N_rowof vs) H) :
    Cal P w K mg base CX0 1 "row_of" P_rowof (sp_rowof K) := by
  exact h.cal sc_rowof len (fun _ _ _ _ _ _ us hl => match us, hl with | [_, _], _ => rfl)
    (fun f cdv A outer s H E hr => (show PSs _ _ _ from (pss_one (ps_ret (pe_lc (own := [("line", 2)]) rfl sc_rowof.nd (pi_range1 (by rfl) b_range (pa_cons (pv 0) pa_nil)) (blkOk_by (N := N_rowof) (sc := defScope s_rowof) (by decide +kernel)) (fun _ _ _ _ _ => (pg_name (i := 2) sc_rowof.nd rfl (Or.inl rfl))) (fun _ _ _ _ _ => pts_nil) (fun _ _ _ _ _ => (pe_op op_and (pe_op op_shr (pv 1) (pv 2)) pe_int))))))) rd
theorem ok_binit (h : Met K "Bench" "__init__" "Bench.__init__" s_binit) (hM : Mk K (He.ga K "Bench") (He.ma K (He.ga K "Bench") "__init__")) (g : mg "Bench" = some (.ref (He.ga K "Bench"))) (C_needlines : Cal P w K mg base (L2N.CX P w) 2 "need_lines" ["lines"] (sp_needlines K)) (b_list : mg "list" = none) (b_range : mg "range" = none)
    (len : ∀ vs H Q E, sp_binit K vs H Q E → vs.length = P_binit.length)
    (rd : ∀ (vs : List V) (H : Hp) (Q : VK) (E : XK), sp_binit K vs H Q E → r_binit K E { nx := fun _ H' => Q .non H', rt := Q } (start N_binit vs) H) :
    MkCal P w K mg base (L2.CX P w) 3 "Bench" P_binit (sp_binit K) := by
  exact h.mkX (r := fun E => r_binit K E) hM g sc_binit len (fun _ _ _ _ _ _ us hl => match us, hl with | [_, _], _ => rfl)
    (fun f cdv A outer s H E hr => (show PSs _ _ _ from (pss_cons (ps_expr (pe_calW (weak_cx C_needlines) (hr.mono (by decide)) (L2.takes_of rfl rfl rfl rfl) (by rfl) (pa_cons (pv 1) pa_nil))) (pss_cons (ps_fld (pv 0) (pv 1) rfl) (pss_cons (ps_fld (pv 0) (pe_lst pa_nil) rfl) (pss_one (ps_fld (pv 0) (pe_lst (pa_cons (pe_listRg rfl (by rfl) b_list (prg_1 (by rfl) b_range (pe_op op_shl pe_int (pv 1)))) pa_nil)) rfl))))))) rd
theorem ok_layers (h : Here K mg "layers" s_layers) (C_needweb : Cal P w K mg base (L2N.CX P w) 4 "need_web" ["lines", "comparers"] (sp_needweb K)) (C_depths : Cal P w K mg base CX0 1 "_depths" ["lines", "comparers"] (sp_depths K)) (b_len : mg "len" = none) (b_zip : mg "zip" = none)
    (len : ∀ vs H Q E, sp_layers K vs H Q E → vs.length = P_layers.length)
    (rd : ∀ (vs : List V) (H : Hp) (Q : VK) (E : XK), sp_layers K vs H Q E → r_layers K E { nx := fun _ H' => Q .non H', rt := Q } (start N_layers vs) H) :
    Cal P w K mg base (L2.CX P w) 5 "layers" P_layers (sp_layers K) := by
  exact h.calX (r := fun E => r_layers K E) sc_layers len (fun _ _ _ _ _ _ us hl => match us, hl with | [_, _], _ => rfl)
    (fun f cdv A outer s H E hr => (show PSs _ _ _ from (pss_cons (ps_expr (pe_calW (weak_cx C_needweb) (hr.mono (by decide)) (L2.takes_of rfl rfl rfl rfl) (by rfl) (pa_cons (pv 0) (pa_cons (pv 1) pa_nil)))) (pss_cons (ps_set (i := 2) sc_layers.nd rfl (Or.inl rfl) (pe_lst pa_nil)) (pss_cons (ps_for (passes_of rfl) rfl (pi_zip (by rfl) b_zip (pa_cons (pv 1) (pa_cons (pe_cal C_depths (hr.mono (by decide)) (by rfl) (pa_cons (pv 0) (pa_cons (pv 1) pa_nil))) pa_nil))) (pg_tup rfl (pgs_cons (pg_name (i := 3) sc_layers.nd rfl (Or.inl rfl)) (pgs_cons (pg_name (i := 4) sc_layers.nd rfl (Or.inl rfl)) pgs_nil))) (pss_cons (ps_if (pt_cmpR op_eq (pv 4) (pe_callB cl_len (by rfl) b_len PySem.boot_len (pa_cons (pv 2) pa_nil)) (nomark _)) (pss_one (ps_expr (pe_bm PySem.F.plainAttrs_list PySem.F.slot_list_append PySem.F.type_list_append md_append (pv 2) (pa_cons (pe_lst pa_nil) pa_nil)))) pss_nil) (pss_one (ps_expr (pe_bm PySem.F.plainAttrs_list PySem.F.slot_list_append PySem.F.type_list_append md_append (pe_ix ix_list (pv 2) (pv 4) (fun _ _ => rfl)) (pa_cons (pv 3) pa_nil)))))) (pss_one (ps_ret (pv 2)))))))) rd
theorem ok_chain (h : Here K mg "chain" s_chain) (C_needweb : Cal P w K mg base (L2N.CX P w) 4 "need_web" ["lines", "comparers"] (sp_needweb K)) (C_depths : Cal P w K mg base CX0 1 "_depths" ["lines", "comparers"] (sp_depths K)) (C_meet : Cal P w K mg base CX0 1 "_meet" ["one", "other"] (sp_meet K)) (b_len : mg "len" = none) (b_max : mg "max" = none) (b_range : mg "range" = none) (b_reversed : mg "reversed" = none)
    (len : ∀ vs H Q E, sp_chain K vs H Q E → vs.length = P_chain.length)
    (rd : ∀ (vs : List V) (H : Hp) (Q : VK) (E : XK), sp_chain K vs H Q E → r_chain K E { nx := fun _ H' => Q .non H', rt := Q } (start N_chain vs) H) :
    Cal P w K mg base (L2.CX P w) 5 "chain" P_chain (sp_chain K) := by
  exact h.calX (r := fun E => r_chain K E) sc_chain len (fun _ _ _ _ _ _ us hl => match us, hl with | [_, _], _ => rfl)
    (fun f cdv A outer s H E hr => (show PSs _ _ _ from (pss_cons (ps_expr (pe_calW (weak_cx C_needweb) (hr.mono (by decide)) (L2.takes_of rfl rfl rfl rfl) (by rfl) (pa_cons (pv 0) (pa_cons (pv 1) pa_nil)))) (pss_cons (ps_set (i := 2) sc_chain.nd rfl (Or.inl rfl) (pe_cal C_depths (hr.mono (by decide)) (by rfl) (pa_cons (pv 0) (pa_cons (pv 1) pa_nil)))) (pss_cons (ps_set (i := 3) sc_chain.nd rfl (Or.inl rfl) (pe_callBK (cl_maxDI rfl (hu64 hr)) (by rfl) b_max (by decide +kernel) (pa_cons (pv 2) pa_nil) (pk_cons pe_int pk_nil))) (pss_cons (ps_set (i := 4) sc_chain.nd rfl (Or.inl rfl) (pe_lst pa_nil)) (pss_cons (ps_for (passes_of rfl) rfl (pi_revR (by rfl) b_reversed (prg_1 (by rfl) b_range (pe_callB cl_len (by rfl) b_len PySem.boot_len (pa_cons (pv 1) pa_nil)))) (pg_name (i := 5) sc_chain.nd rfl (Or.inl rfl)) (pss_one (ps_if (pw_and (pt_cmpR op_eq (pe_ix ix_list (pv 2) (pv 5) (fun _ _ => rfl)) (pv 3) (nomark _)) (pw_and1 (pw_or (pt_cmpR (op_eqD (hu64 hr)) (pv 4) (pe_lst pa_nil) (nomark _)) (pw_or1 (pt_val (pe_cal C_meet (hr.mono (by decide)) (by rfl) (pa_cons (pe_ix ix_list (pv 1) (pv 5) (fun _ _ => rfl)) (pa_cons (pe_ix ix_list (pv 1) (pe_ix ix_list (pv 4) (pe_un un_neg pe_int) (fun _ _ => rfl)) (fun _ _ => rfl)) pa_nil)))))).pt)).pt (pss_cons (ps_expr (pe_bm PySem.F.plainAttrs_list PySem.F.slot_list_append PySem.F.type_list_append md_append (pv 4) (pa_cons (pv 5) pa_nil))) (pss_one (ps_set (i := 3) sc_chain.nd rfl (Or.inl rfl) (pe_op op_sub (pv 3) pe_int)))) pss_nil))) (pss_one (ps_ret (pe_revL (pv 4))))))))))) rd
theorem ok_depths (h : Here K mg "_depths" s_depths) (b_max : mg "max" = none)
    (len : ∀ vs H Q E, sp_depths K vs H Q E → vs.length = P_depths.length)
    (rd : ∀ (vs : List V) (H : Hp) (Q : VK) (E : XK), sp_depths K vs H Q E → r_depths K { nx := fun _ H' => Q .non H', rt := Q } (start N_depths vs) H) :
    Cal P w K mg base CX0 1 "_depths" P_depths (sp_depths K) := by
  exact h.cal sc_depths len (fun _ _ _ _ _ _ us hl => match us, hl with | [_, _], _ => rfl)
    (fun f cdv A outer s H E hr => (show PSs _ _ _ from (pss_cons (ps_set (i := 2) sc_depths.nd rfl (Or.inl rfl) (pe_lst pa_nil)) (pss_cons (ps_set (i := 3) sc_depths.nd rfl (Or.inl rfl) (pe_op op_rep (pe_lst (pa_cons pe_int pa_nil)) (pv 0))) (pss_cons (ps_for PassesOwn.never rfl (pi_list (pv 1)) (pg_tup rfl (pgs_cons (pg_name (i := 4) sc_depths.nd rfl (Or.inl rfl)) (pgs_cons (pg_name (i := 5) sc_depths.nd rfl (Or.inl rfl)) pgs_nil))) (pss_cons (ps_set (i := 6) sc_depths.nd rfl (Or.inl rfl) (pe_callB (cl_max rfl) (by rfl) b_max (by decide +kernel) (pa_cons (pe_ix ix_list (pv 3) (pv 4) (fun _ _ => rfl)) (pa_cons (pe_ix ix_list (pv 3) (pv 5) (fun _ _ => rfl)) pa_nil)))) (pss_cons (ps_expr (pe_bm PySem.F.plainAttrs_list PySem.F.slot_list_append PySem.F.type_list_append md_append (pv 2) (pa_cons (pv 6) pa_nil))) (pss_cons (ps_asg (pe_op op_add (pv 6) pe_int) (pg_sub (pv 3) (pv 4) set_list)) (pss_one (ps_asg (pe_op op_add (pv 6) pe_int) (pg_sub (pv 3) (pv 5) set_list))))))) (pss_one (ps_ret (pv 2)))))))) rd
theorem ok_meet (h : Here K mg "_meet" s_meet) 
    (len : ∀ vs H Q E, sp_meet K vs H Q E → vs.length = P_meet.length)
    (rd : ∀ (vs : List V) (H : Hp) (Q : VK) (E : XK), sp_meet K vs H Q E → r_meet K { nx := fun _ H' => Q .non H', rt := Q } (start N_meet vs) H) :
    Cal P w K mg base CX0 1 "_meet" P_meet (sp_meet K) := by
  exact h.cal sc_meet len (fun _ _ _ _ _ _ us hl => match us, hl with | [_, _], _ => rfl)
    (fun f cdv A outer s H E hr => (show PSs _ _ _ from (pss_cons (ps_asg (pv 0) (pg_tup rfl (pgs_cons (pg_name (i := 2) sc_meet.nd rfl (Or.inl rfl)) (pgs_cons (pg_name (i := 3) sc_meet.nd rfl (Or.inl rfl)) pgs_nil)))) (pss_one (ps_ret (pe_or (pe_cmpR op_in_seq (pv 2) (pv 1) (by with_unfolding_all rfl)) (pe_one (pe_cmpR op_in_seq (pv 3) (pv 1) (by with_unfolding_all rfl))))))))) rd
theorem ok_unsorted (h : Here K mg "unsorted" s_unsorted) (C_needweb : Cal P w K mg base (L2N.CX P w) 4 "need_web" ["lines", "comparers"] (sp_needweb K)) (C_greater : Cal P w K mg base CX0 1 "greater" ["columns", "a", "b"] (sp_greater K)) (C_columnsout : Cal P w K mg base CX0 2 "columns_out" ["lines", "comparers"] (sp_columnsout K)) (C_firstrow : Cal P w K mg base CX0 2 "first_row" ["lines", "rows"] (sp_firstrow K)) (b_range : mg "range" = none)
    (len : ∀ vs H Q E, sp_unsorted K vs H Q E → vs.length = P_unsorted.length)
    (rd : ∀ (vs : List V) (H : Hp) (Q : VK) (E : XK), sp_unsorted K vs H Q E → r_unsorted K E { nx := fun _ H' => Q .non H', rt := Q } (start N_unsorted vs) H) :
    Cal P w K mg base (L2.CX P w) 5 "unsorted" P_unsorted (sp_unsorted K) := by
  exact h.calX (r := fun E => r_unsorted K E) sc_unsorted len (fun _ _ _ _ _ _ us hl => match us, hl with | [_, _], _ => rfl)
    (fun f cdv A outer s H E hr => (show PSs _ _ _ from (pss_cons (ps_expr (pe_calW (weak_cx C_needweb) (hr.mono (by decide)) (L2.takes_of rfl rfl rfl rfl) (by rfl) (pa_cons (pv 0) (pa_cons (pv 1) pa_nil)))) (pss_cons (ps_set (i := 2) sc_unsorted.nd rfl (Or.inl rfl) (pe_cal C_columnsout (hr.mono (by decide)) (by rfl) (pa_cons (pv 0) (pa_cons (pv 1) pa_nil)))) (pss_cons (ps_set (i := 3) sc_unsorted.nd rfl (Or.inl rfl) pe_int) (pss_cons (ps_for (passes_of rfl) rfl (pi_range1 (by rfl) b_range (pa_cons (pe_op op_sub (pv 0) pe_int) pa_nil)) (pg_name (i := 4) sc_unsorted.nd rfl (Or.inl rfl)) (pss_one (ps_set (i := 3) sc_unsorted.nd rfl (Or.inl rfl) (pe_op op_or (pv 3) (pe_cal C_greater (hr.mono (by decide)) (by rfl) (pa_cons (pv 2) (pa_cons (pv 4) (pa_cons (pe_op op_add (pv 4) pe_int) pa_nil)))))))) (pss_one (ps_ret (pe_cal C_firstrow (hr.mono (by decide)) (by rfl) (pa_cons (pv 0) (pa_cons (pv 3) pa_nil))))))))))) rd
theorem ok_stirring (h : Here K mg "stirring" s_stirring) (C_needweb : Cal P w K mg base (L2N.CX P w) 4 "need_web" ["lines", "comparers"] (sp_needweb K)) (C_greater : Cal P w K mg base CX0 1 "greater" ["columns", "a", "b"] (sp_greater K)) (C_columnsout : Cal P w K mg base CX0 2 "columns_out" ["lines", "comparers"] (sp_columnsout K)) (C_firstrow : Cal P w K mg base CX0 2 "first_row" ["lines", "rows"] (sp_firstrow K)) (C_needplace : Cal P w K mg base (L2.CX P w) 2 "_need_place" ["comparers", "place"] (sp_needplace K))
    (len : ∀ vs H Q E, sp_stirring K vs H Q E → vs.length = P_stirring.length)
    (rd : ∀ (vs : List V) (H : Hp) (Q : VK) (E : XK), sp_stirring K vs H Q E → r_stirring K E { nx := fun _ H' => Q .non H', rt := Q } (start N_stirring vs) H) :
    Cal P w K mg base (L2.CX P w) 5 "stirring" P_stirring (sp_stirring K) := by
  exact h.calX (r := fun E => r_stirring K E) sc_stirring len (fun _ _ _ _ _ _ us hl => match us, hl with | [_, _, _], _ => rfl)
    (fun f cdv A outer s H E hr => (show PSs _ _ _ from (pss_cons (ps_expr (pe_calW (weak_cx C_needweb) (hr.mono (by decide)) (L2.takes_of rfl rfl rfl rfl) (by rfl) (pa_cons (pv 0) (pa_cons (pv 1) pa_nil)))) (pss_cons (ps_expr (pe_calW C_needplace (hr.mono (by decide)) (L2.takes_of rfl rfl rfl rfl) (by rfl) (pa_cons (pv 1) (pa_cons (pv 2) pa_nil)))) (pss_cons (ps_asg (pe_ix ix_list (pv 1) (pv 2) (fun _ _ => rfl)) (pg_tup rfl (pgs_cons (pg_name (i := 3) sc_stirring.nd rfl (Or.inl rfl)) (pgs_cons (pg_name (i := 4) sc_stirring.nd rfl (Or.inl rfl)) pgs_nil)))) (pss_one (ps_ret (pe_cal C_firstrow (hr.mono (by decide)) (by rfl) (pa_cons (pv 0) (pa_cons (pe_cal C_greater (hr.mono (by decide)) (by rfl) (pa_cons (pe_cal C_columnsout (hr.mono (by decide)) (by rfl) (pa_cons (pv 0) (pa_cons (pe_slice sl_list (pv 1) po_none (po_some (pv 2))) pa_nil))) (pa_cons (pv 3) (pa_cons (pv 4) pa_nil)))) pa_nil)))))))))) rd
theorem ok_needless (h : Here K mg "needless" s_needless) (C_needweb : Cal P w K mg base (L2N.CX P w) 4 "need_web" ["lines", "comparers"] (sp_needweb K)) (C_allcolumns : Cal P w K mg base CX0 1 "all_columns" ["lines"] (sp_allcolumns K)) (C_greater : Cal P w K mg base CX0 1 "greater" ["columns", "a", "b"] (sp_greater K)) (C_behind : Cal P w K mg base CX0 1 "behind" ["columns", "comparer"] (sp_behind K)) (b_enumerate : mg "enumerate" = none)
    (len : ∀ vs H Q E, sp_needless K vs H Q E → vs.length = P_needless.length)
    (rd : ∀ (vs : List V) (H : Hp) (Q : VK) (E : XK), sp_needless K vs H Q E → r_needless K E { nx := fun _ H' => Q .non H', rt := Q } (start N_needless vs) H) :
    Cal P w K mg base (L2.CX P w) 5 "needless" P_needless (sp_needless K) := by
  exact h.calX (r := fun E => r_needless K E) sc_needless len (fun _ _ _ _ _ _ us hl => match us, hl with | [_, _], _ => rfl)
    (fun f cdv A outer s H E hr => (show PSs _ _ _ from (pss_cons (ps_expr (pe_calW (weak_cx C_needweb) (hr.mono (by decide)) (L2.takes_of rfl rfl rfl rfl) (by rfl) (pa_cons (pv 0) (pa_cons (pv 1) pa_nil)))) (pss_cons (ps_set (i := 2) sc_needless.nd rfl (Or.inl rfl) (pe_lst pa_nil)) (pss_cons (ps_set (i := 3) sc_needless.nd rfl (Or.inl rfl) (pe_cal C_allcolumns (hr.mono (by decide)) (by rfl) (pa_cons (pv 0) pa_nil))) (pss_cons (ps_for (passes_of rfl) rfl (pi_enum (by rfl) b_enumerate (pa_cons (pv 1) pa_nil)) (pg_tup rfl (pgs_cons (pg_name (i := 4) sc_needless.nd rfl (Or.inl rfl)) (pgs_cons (pg_name (i := 5) sc_needless.nd rfl (Or.inl rfl)) pgs_nil))) (pss_cons (ps_asg (pv 5) (pg_tup rfl (pgs_cons (pg_name (i := 6) sc_needless.nd rfl (Or.inl rfl)) (pgs_cons (pg_name (i := 7) sc_needless.nd rfl (Or.inl rfl)) pgs_nil)))) (pss_cons (ps_if (pt_cmpR op_eq (pe_cal C_greater (hr.mono (by decide)) (by rfl) (pa_cons (pv 3) (pa_cons (pv 6) (pa_cons (pv 7) pa_nil)))) pe_int (nomark _)) (pss_one (ps_expr (pe_bm PySem.F.plainAttrs_list PySem.F.slot_list_append PySem.F.type_list_append md_append (pv 2) (pa_cons (pv 4) pa_nil)))) pss_nil) (pss_one (ps_set (i := 3) sc_needless.nd rfl (Or.inl rfl) (pe_cal C_behind (hr.mono (by decide)) (by rfl) (pa_cons (pv 3) (pa_cons (pv 5) pa_nil)))))))) (pss_one (ps_ret (pv 2))))))))) rd
theorem ok_pruned (h : Here K mg "pruned" s_pruned) (C_needless : Cal P w K mg base (L2.CX P w) 5 "needless" ["lines", "comparers"] (sp_needless K)) (b_enumerate : mg "enumerate" = none)
    (len : ∀ vs H Q E, sp_pruned K vs H Q E → vs.length = P_pruned.length)
    (rd : ∀ (vs : List V) (H : Hp) (Q : VK) (E : XK), sp_pruned K vs H Q E → r_pruned K E { nx := fun _ H' => Q .non H', rt := Q } (start N_pruned vs) H) :
    Cal P w K mg base (L2.CX P w) 6 "pruned" P_pruned (sp_pruned K) := by
  exact h.calX (r := fun E => r_pruned K E) sc_pruned len (fun _ _ _ _ _ _ us hl => match us, hl with | [_, _], _ => rfl)
    (fun f cdv A outer s H E hr => (show PSs _ _ _ from (pss_cons (ps_set (i := 2) sc_pruned.nd rfl (Or.inr rfl) (pe_calW C_needless (hr.mono (by decide)) (L2.takes_of rfl rfl rfl rfl) (by rfl) (pa_cons (pv 0) (pa_cons (pv 1) pa_nil)))) (pss_one (ps_ret (pe_lc (own := [("place", 3), ("comparer", 4)]) rfl sc_pruned.nd (pi_enum (by rfl) b_enumerate (pa_cons (pv 1) pa_nil)) (blkOk_by (N := N_pruned) (sc := defScope s_pruned) (by decide +kernel)) (fun _ _ _ _ _ => (pg_tup rfl (pgs_cons (pg_name (i := 3) sc_pruned.nd rfl (Or.inl rfl)) (pgs_cons (pg_name (i := 4) sc_pruned.nd rfl (Or.inl rfl)) pgs_nil)))) (fun _ _ _ _ _ => (pts_one (pt_cmpR op_notIn_seq (pv 3) (pv 2) (by with_unfolding_all rfl)))) (fun _ _ _ _ _ => (pv 4)))))))) rd
theorem ok_differing (h : Here K mg "differing" s_differing) (C_needweb : Cal P w K mg base (L2N.CX P w) 4 "need_web" ["lines", "comparers"] (sp_needweb K)) (C_columnsout : Cal P w K mg base CX0 2 "columns_out" ["lines", "comparers"] (sp_columnsout K)) (C_firstrow : Cal P w K mg base CX0 2 "first_row" ["lines", "rows"] (sp_firstrow K)) (b_zip : mg "zip" = none)
    (len : ∀ vs H Q E, sp_differing K vs H Q E → vs.length = P_differing.length)
    (rd : ∀ (vs : List V) (H : Hp) (Q : VK) (E : XK), sp_differing K vs H Q E → r_differing K E { nx := fun _ H' => Q .non H', rt := Q } (start N_differing vs) H) :
    Cal P w K mg base (L2.CX P w) 5 "differing" P_differing (sp_differing K) := by
  exact h.calX (r := fun E => r_differing K E) sc_differing len (fun _ _ _ _ _ _ us hl => match us, hl with | [_, _, _], _ => rfl)
    (fun f cdv A outer s H E hr => (show PSs _ _ _ from (pss_cons (ps_expr (pe_calW (weak_cx C_needweb) (hr.mono (by decide)) (L2.takes_of rfl rfl rfl rfl) (by rfl) (pa_cons (pv 0) (pa_cons (pv 1) pa_nil)))) (pss_cons (ps_expr (pe_calW (weak_cx C_needweb) (hr.mono (by decide)) (L2.takes_of rfl rfl rfl rfl) (by rfl) (pa_cons (pv 0) (pa_cons (pv 2) pa_nil)))) (pss_cons (ps_set (i := 3) sc_differing.nd rfl (Or.inl rfl) pe_int) (pss_cons (ps_for (passes_of rfl) rfl (pi_zip (by rfl) b_zip (pa_cons (pe_cal C_columnsout (hr.mono (by decide)) (by rfl) (pa_cons (pv 0) (pa_cons (pv 1) pa_nil))) (pa_cons (pe_cal C_columnsout (hr.mono (by decide)) (by rfl) (pa_cons (pv 0) (pa_cons (pv 2) pa_nil))) pa_nil))) (pg_tup rfl (pgs_cons (pg_name (i := 4) sc_differing.nd rfl (Or.inl rfl)) (pgs_cons (pg_name (i := 5) sc_differing.nd rfl (Or.inl rfl)) pgs_nil))) (pss_one (ps_set (i := 3) sc_differing.nd rfl (Or.inl rfl) (pe_op op_or (pv 3) (pe_op op_xor (pv 4) (pv 5)))))) (pss_one (ps_ret (pe_cal C_firstrow (hr.mono (by decide)) (by rfl) (pa_cons (pv 0) (pa_cons (pv 3) pa_nil))))))))))) rd
theorem ok_needplace (h : Here K mg "_need_place" s_needplace) (C_iswhole : Cal P w K mg base CX0 1 "is_whole" ["value"] (sp_iswhole K)) (b_len : mg "len" = none) (X_BadPlace : ExK K mg "BadPlace")
    (len : ∀ vs H Q E, sp_needplace K vs H Q E → vs.length = P_needplace.length)
    (rd : ∀ (vs : List V) (H : Hp) (Q : VK) (E : XK), sp_needplace K vs H Q E → r_needplace K E { nx := fun _ H' => Q .non H', rt := Q } (start N_needplace vs) H) :
    Cal P w K mg base (L2.CX P w) 2 "_need_place" P_needplace (sp_needplace K) := by
  exact h.calX (r := fun E => r_needplace K E) sc_needplace len (fun _ _ _ _ _ _ us hl => match us, hl with | [_, _], _ => rfl)
    (fun f cdv A outer s H E hr => (show PSs _ _ _ from (pss_one (ps_if (pw_or (pt_not (pt_val (pe_cal C_iswhole (hr.mono (by decide)) (by rfl) (pa_cons (pv 1) pa_nil)))) (pw_or1 (pt_not (pt_chain op_le op_lt pe_int (pv 1) (pe_callB cl_len (by rfl) b_len PySem.boot_len (pa_cons (pv 0) pa_nil)))))).pt (pss_one (ps_rzA rfl (L2.takes_of rfl rfl rfl rfl) X_BadPlace (by rfl) (pa_cons pe_str pa_nil))) pss_nil)))) rd
theorem ok_merging (h : Here K mg "merging" s_merging) (C_needlines : Cal P w K mg base (L2N.CX P w) 2 "need_lines" ["lines"] (sp_needlines K)) (C_needpart : Cal P w K mg base (L2.CX P w) 2 "_need_part" ["many"] (sp_needpart K)) (C_pmerging : Cal P w K mg base CX0 6 "_merging" ["ones", "others"] (sp_pmerging K)) (b_list : mg "list" = none) (b_range : mg "range" = none)
    (len : ∀ vs H Q E, sp_merging K vs H Q E → vs.length = P_merging.length)
    (rd : ∀ (vs : List V) (H : Hp) (Q : VK) (E : XK), sp_merging K vs H Q E → r_merging K E { nx := fun _ H' => Q .non H', rt := Q } (start N_merging vs) H) :
    Cal P w K mg base (L2.CX P w) 7 "merging" P_merging (sp_merging K) := by
  exact h.calX (r := fun E => r_merging K E) sc_merging len (fun _ _ _ _ _ _ us hl => match us, hl with | [_, _], _ => rfl)
    (fun f cdv A outer s H E hr => (show PSs _ _ _ from (pss_cons (ps_expr (pe_calW C_needpart (hr.mono (by decide)) (L2.takes_of rfl rfl rfl rfl) (by rfl) (pa_cons (pv 0) pa_nil))) (pss_cons (ps_expr (pe_calW C_needpart (hr.mono (by decide)) (L2.takes_of rfl rfl rfl rfl) (by rfl) (pa_cons (pv 1) pa_nil))) (pss_cons (ps_expr (pe_calW (weak_cx C_needlines) (hr.mono (by decide)) (L2.takes_of rfl rfl rfl rfl) (by rfl) (pa_cons (pe_op op_add (pv 0) (pv 1)) pa_nil))) (pss_one (ps_ret (pe_cal C_pmerging (hr.mono (by decide)) (by rfl) (pa_cons (pe_listRg rfl (by rfl) b_list (prg_1 (by rfl) b_range (pv 0))) (pa_cons (pe_listRg rfl (by rfl) b_list (prg_2 (by rfl) b_range (pv 0) (pe_op op_add (pv 0) (pv 1)))) pa_nil)))))))))) rd
theorem ok_sorting (h : Here K mg "sorting" s_sorting) (C_needlines : Cal P w K mg base (L2N.CX P w) 2 "need_lines" ["lines"] (sp_needlines K)) (C_psorting : Cal P w K mg base CX0 11 "_sorting" ["rising"] (sp_psorting K)) (b_list : mg "list" = none) (b_range : mg "range" = none)
    (len : ∀ vs H Q E, sp_sorting K vs H Q E → vs.length = P_sorting.length)
    (rd : ∀ (vs : List V) (H : Hp) (Q : VK) (E : XK), sp_sorting K vs H Q E → r_sorting K E { nx := fun _ H' => Q .non H', rt := Q } (start N_sorting vs) H) :
    Cal P w K mg base (L2.CX P w) 12 "sorting" P_sorting (sp_sorting K) := by
  exact h.calX (r := fun E => r_sorting K E) sc_sorting len (fun _ _ _ _ _ _ us hl => match us, hl with | [_], _ => rfl)
    (fun f cdv A outer s H E hr => (show PSs _ _ _ from (pss_cons (ps_expr (pe_calW (weak_cx C_needlines) (hr.mono (by decide)) (L2.takes_of rfl rfl rfl rfl) (by rfl) (pa_cons (pv 0) pa_nil))) (pss_one (ps_ret (pe_cal C_psorting (hr.mono (by decide)) (by rfl) (pa_cons (pe_listRg rfl (by rfl) b_list (prg_1 (by rfl) b_range (pv 0))) pa_nil))))))) rd
theorem ok_beside (h : Here K mg "beside" s_beside) (C_needweb : Cal P w K mg base (L2N.CX P w) 4 "need_web" ["lines", "comparers"] (sp_needweb K)) (b_len : mg "len" = none) (c_MOST_COMPARERS : ∃ t, mg "MOST_COMPARERS" = some (.int 60 t)) (c_MOST_LINES : ∃ t, mg "MOST_LINES" = some (.int 10 t)) (X_BadLines : ExK K mg "BadLines") (O_BadWeb : OwK K mg "BadWeb" "place") (I_BadWeb : InitOk P w K mg base 1 "BadWeb" "place")
    (len : ∀ vs H Q E, sp_beside K vs H Q E → vs.length = P_beside.length)
    (rd : ∀ (vs : List V) (H : Hp) (Q : VK) (E : XK), sp_beside K vs H Q E → r_beside K E { nx := fun _ H' => Q .non H', rt := Q } (start N_beside vs) H) :
    Cal P w K mg base (L2.CX P w) 5 "beside" P_beside (sp_beside K) := by
  obtain ⟨fd_BadWeb, F_BadWeb, B_BadWeb⟩ := I_BadWeb
  exact h.calX (r := fun E => r_beside K E) sc_beside len (fun _ _ _ _ _ _ us hl => match us, hl with | [_, _, _, _], _ => rfl)
    (fun f cdv A outer s H E hr => (show PSs _ _ _ from (pss_cons (ps_expr (pe_calW (weak_cx C_needweb) (hr.mono (by decide)) (L2.takes_of rfl rfl rfl rfl) (by rfl) (pa_cons (pv 0) (pa_cons (pv 1) pa_nil)))) (pss_cons (ps_expr (pe_calW (weak_cx C_needweb) (hr.mono (by decide)) (L2.takes_of rfl rfl rfl rfl) (by rfl) (pa_cons (pv 2) (pa_cons (pv 3) pa_nil)))) (pss_cons (ps_if (pt_cmpR op_gt (pe_op op_add (pv 0) (pv 2)) (pe_gi c_MOST_LINES (by rfl)) (nomark _)) (pss_one (ps_rzA rfl (L2.takes_of rfl rfl rfl rfl) X_BadLines (by rfl) (pa_cons (pe_joined (.cons pe_str (.cons (pe_fmt (pe_gi c_MOST_LINES (by rfl))) (.cons pe_str .nil)))) pa_nil))) pss_nil) (pss_cons (ps_if (pt_cmpR op_gt (pe_op op_add (pe_callB cl_len (by rfl) b_len PySem.boot_len (pa_cons (pv 1) pa_nil)) (pe_callB cl_len (by rfl) b_len PySem.boot_len (pa_cons (pv 3) pa_nil))) (pe_gi c_MOST_COMPARERS (by rfl)) (nomark _)) (pss_one (ps_rzO rfl (L2.takes_of rfl rfl rfl rfl) O_BadWeb F_BadWeb B_BadWeb (hr.mono (by decide)) (by rfl) (pa_cons pe_non pa_nil))) pss_nil) (pss_one (ps_ret (pe_op op_cat (pv 1) (pe_lc (own := [("a", 4), ("b", 5)]) rfl sc_beside.nd (pi_list (pv 3)) (blkOk_by (N := N_beside) (sc := defScope s_beside) (by decide +kernel)) (fun _ _ _ _ _ => (pg_tup rfl (pgs_cons (pg_name (i := 4) sc_beside.nd rfl (Or.inl rfl)) (pgs_cons (pg_name (i := 5) sc_beside.nd rfl (Or.inl rfl)) pgs_nil)))) (fun _ _ _ _ _ => pts_nil) (fun _ _ _ _ _ => (pe_tup (pa_cons (pe_op op_add (pv 0) (pv 4)) (pa_cons (pe_op op_add (pv 0) (pv 5)) pa_nil)))))))))))))) rd
theorem ok_needpart (h : Here K mg "_need_part" s_needpart) (C_iswhole : Cal P w K mg base CX0 1 "is_whole" ["value"] (sp_iswhole K)) (c_MOST_LINES : ∃ t, mg "MOST_LINES" = some (.int 10 t)) (X_BadLines : ExK K mg "BadLines")
    (len : ∀ vs H Q E, sp_needpart K vs H Q E → vs.length = P_needpart.length)
    (rd : ∀ (vs : List V) (H : Hp) (Q : VK) (E : XK), sp_needpart K vs H Q E → r_needpart K E { nx := fun _ H' => Q .non H', rt := Q } (start N_needpart vs) H) :
    Cal P w K mg base (L2.CX P w) 2 "_need_part" P_needpart (sp_needpart K) := by
  exact h.calX (r := fun E => r_needpart K E) sc_needpart len (fun _ _ _ _ _ _ us hl => match us, hl with | [_], _ => rfl)
    (fun f cdv A outer s H E hr => (show PSs _ _ _ from (pss_one (ps_if (pw_or (pt_not (pt_val (pe_cal C_iswhole (hr.mono (by decide)) (by rfl) (pa_cons (pv 0) pa_nil)))) (pw_or1 (pt_not (pt_chain op_le op_le pe_int (pv 0) (pe_gi c_MOST_LINES (by rfl)))))).pt (pss_one (ps_rzA rfl (L2.takes_of rfl rfl rfl rfl) X_BadLines (by rfl) (pa_cons (pe_joined (.cons pe_str (.cons (pe_fmt (pe_gi c_MOST_LINES (by rfl))) (.cons pe_str .nil)))) pa_nil))) pss_nil)))) rd
theorem okr_pmerging {k : Nat} {spR spS : Sp} (h : Here K mg "_merging" s_pmerging) (C_pmerging : Cal P w K mg base CX0 k "_merging" P_pmerging spR) (b_len : mg "len" = none) (b_range : mg "range" = none) (hk : 0 ≤ k)
    (len : ∀ vs H Q E, spS vs H Q E → vs.length = P_pmerging.length)
    (rd : ∀ (vs : List V) (H : Hp) (Q : VK) (E : XK), spS vs H Q E → r_pmerging K spR { nx := fun _ H' => Q .non H', rt := Q } (start N_pmerging vs) H) :
    Cal P w K mg base CX0 (k + 1) "_merging" P_pmerging spS := by
  exact h.cal sc_pmerging len (fun _ _ _ _ _ _ us hl => match us, hl with | [_, _], _ => rfl)
    (fun f cdv A outer s H E hr => (show PSs _ _ _ from (pss_cons (ps_if (pw_or (pt_cmpR (op_eqD (hu64 hr)) (pv 0) (pe_lst pa_nil) (nomark _)) (pw_or1 (pt_cmpR (op_eqD (hu64 hr)) (pv 1) (pe_lst pa_nil) (nomark _)))).pt (pss_one (ps_ret (pe_lst pa_nil))) pss_nil) (pss_cons (ps_if (pw_and (pt_cmpR op_eq (pe_callB cl_len (by rfl) b_len PySem.boot_len (pa_cons (pv 0) pa_nil)) pe_int (nomark _)) (pw_and1 (pt_cmpR op_eq (pe_callB cl_len (by rfl) b_len PySem.boot_len (pa_cons (pv 1) pa_nil)) pe_int (nomark _)))).pt (pss_one (ps_ret (pe_lst (pa_cons (pe_tup (pa_cons (pe_ix ix_list (pv 0) pe_int (fun _ _ => rfl)) (pa_cons (pe_ix ix_list (pv 1) pe_int (fun _ _ => rfl)) pa_nil))) pa_nil)))) pss_nil) (pss_cons (ps_set (i := 2) sc_pmerging.nd rfl (Or.inl rfl) (pe_op op_cat (pe_cal C_pmerging hr (by rfl) (pa_cons (pe_stepF (pv 0) po_none pe_int) (pa_cons (pe_stepF (pv 1) po_none pe_int) pa_nil))) (pe_cal C_pmerging hr (by rfl) (pa_cons (pe_stepF (pv 0) (po_some pe_int) pe_int) (pa_cons (pe_stepF (pv 1) (po_some pe_int) pe_int) pa_nil))))) (pss_cons (ps_set (i := 3) sc_pmerging.nd rfl (Or.inl rfl) (pe_op op_cat (pv 0) (pv 1))) (pss_cons (ps_for PassesOwn.never rfl (pi_range3 (by rfl) b_range (pa_cons pe_int (pa_cons (pe_op op_sub (pe_callB cl_len (by rfl) b_len PySem.boot_len (pa_cons (pv 3) pa_nil)) pe_int) (pa_cons pe_int pa_nil)))) (pg_name (i := 4) sc_pmerging.nd rfl (Or.inl rfl)) (pss_one (ps_expr (pe_bm PySem.F.plainAttrs_list PySem.F.slot_list_append PySem.F.type_list_append md_append (pv 2) (pa_cons (pe_tup (pa_cons (pe_ix ix_list (pv 3) (pv 4) (fun _ _ => rfl)) (pa_cons (pe_ix ix_list (pv 3) (pe_op op_add (pv 4) pe_int) (fun _ _ => rfl)) pa_nil))) pa_nil))))) (pss_one (ps_ret (pv 2)))))))))) rd
theorem ok_pmerging (h : Here K mg "_merging" s_pmerging) (b_len : mg "len" = none) (b_range : mg "range" = none)
    (len : ∀ f vs H Q E, spf_pmerging f K vs H Q E → vs.length = P_pmerging.length)
    (rd0 : ∀ (vs : List V) (H : Hp) (Q : VK) (E : XK), spf_pmerging 0 K vs H Q E → r_pmerging K (fun _ _ _ _ => False) { nx := fun _ H' => Q .non H', rt := Q } (start N_pmerging vs) H)
    (rd : ∀ (f : Nat) (vs : List V) (H : Hp) (Q : VK) (E : XK), spf_pmerging (f + 1) K vs H Q E → r_pmerging K (spf_pmerging f K) { nx := fun _ H' => Q .non H', rt := Q } (start N_pmerging vs) H) :
    Cal P w K mg base CX0 6 "_merging" P_pmerging (sp_pmerging K) := by
  have key : ∀ f, Cal P w K mg base CX0 (0 + f + 1) "_merging" P_pmerging (spf_pmerging f K) := fun f => by
    induction f with
    | zero => exact okr_pmerging h (h.none (k := 0) (fun _ _ _ _ _ _ us hl => match us, hl with | [_, _], _ => rfl)) b_len b_range (Nat.le_refl _) (len 0) rd0
    | succ f ih => exact okr_pmerging (k := 0 + f + 1) h ih b_len b_range (by omega) (len (f + 1)) (rd f)
  exact key 5
theorem okr_psorting {k : Nat} {spR spS : Sp} (h : Here K mg "_sorting" s_psorting) (C_psorting : Cal P w K mg base CX0 k "_sorting" P_psorting spR) (C_pmerging : Cal P w K mg base CX0 6 "_merging" ["ones", "others"] (sp_pmerging K)) (b_len : mg "len" = none) (hk : 6 ≤ k)
    (len : ∀ vs H Q E, spS vs H Q E → vs.length = P_psorting.length)
    (rd : ∀ (vs : List V) (H : Hp) (Q : VK) (E : XK), spS vs H Q E → r_psorting K spR { nx := fun _ H' => Q .non H', rt := Q } (start N_psorting vs) H) :
    Cal P w K mg base CX0 (k + 1) "_sorting" P_psorting spS := by
  exact h.cal sc_psorting len (fun _ _ _ _ _ _ us hl => match us, hl with | [_], _ => rfl)
    (fun f cdv A outer s H E hr => (show PSs _ _ _ from (pss_cons (ps_if (pt_cmpR op_lt (pe_callB cl_len (by rfl) b_len PySem.boot_len (pa_cons (pv 0) pa_nil)) pe_int (nomark _)) (pss_one (ps_ret (pe_lst pa_nil))) pss_nil) (pss_cons (ps_set (i := 1) sc_psorting.nd rfl (Or.inl rfl) (pe_op op_fdiv (pe_callB cl_len (by rfl) b_len PySem.boot_len (pa_cons (pv 0) pa_nil)) pe_int)) (pss_cons (ps_set (i := 2) sc_psorting.nd rfl (Or.inl rfl) (pe_slice sl_list (pv 0) po_none (po_some (pv 1)))) (pss_cons (ps_set (i := 3) sc_psorting.nd rfl (Or.inl rfl) (pe_slice sl_list (pv 0) (po_some (pv 1)) po_none)) (pss_one (ps_ret (pe_op op_cat (pe_op op_cat (pe_cal C_psorting hr (by rfl) (pa_cons (pv 2) pa_nil)) (pe_cal C_psorting hr (by rfl) (pa_cons (pv 3) pa_nil))) (pe_cal C_pmerging (hr.mono (Nat.le_trans (by decide) hk)) (by rfl) (pa_cons (pv 2) (pa_cons (pv 3) pa_nil)))))))))))) rd
theorem ok_psorting (h : Here K mg "_sorting" s_psorting) (C_pmerging : Cal P w K mg base CX0 6 "_merging" ["ones", "others"] (sp_pmerging K)) (b_len : mg "len" = none)
    (len : ∀ f vs H Q E, spf_psorting f K vs H Q E → vs.length = P_psorting.length)
    (rd0 : ∀ (vs : List V) (H : Hp) (Q : VK) (E : XK), spf_psorting 0 K vs H Q E → r_psorting K (fun _ _ _ _ => False) { nx := fun _ H' => Q .non H', rt := Q } (start N_psorting vs) H)
    (rd : ∀ (f : Nat) (vs : List V) (H : Hp) (Q : VK) (E : XK), spf_psorting (f + 1) K vs H Q E → r_psorting K (spf_psorting f K) { nx := fun _ H' => Q .non H', rt := Q } (start N_psorting vs) H) :
    Cal P w K mg base CX0 11 "_sorting" P_psorting (sp_psorting K) := by
  have key : ∀ f, Cal P w K mg base CX0 (6 + f + 1) "_sorting" P_psorting (spf_psorting f K) := fun f => by
    induction f with
    | zero => exact okr_psorting h (h.none (k := 6) (fun _ _ _ _ _ _ us hl => match us, hl with | [_], _ => rfl)) C_pmerging b_len (Nat.le_refl _) (len 0) rd0
    | succ f ih => exact okr_psorting (k := 6 + f + 1) h ih C_pmerging b_len (by omega) (len (f + 1)) (rd f)
  exact key 4
theorem ok_run (h : Here K mg "run" s_run) (C_steps : Cal P w K mg base (L2.CX P w) 5 "steps" ["lines", "comparers", "row"] (sp_steps K))
    (len : ∀ vs H Q E, sp_run K vs H Q E → vs.length = P_run.length)
    (rd : ∀ (vs : List V) (H : Hp) (Q : VK) (E : XK), sp_run K vs H Q E → r_run K E { nx := fun _ H' => Q .non H', rt := Q } (start N_run vs) H) :
    Cal P w K mg base (L2.CX P w) 6 "run" P_run (sp_run K) := by
  exact h.calX (r := fun E => r_run K E) sc_run len (fun _ _ _ _ _ _ us hl => match us, hl with | [_, _, _], _ => rfl)
    (fun f cdv A outer s H E hr => (show PSs _ _ _ from (pss_one (ps_ret (pe_ix ix_list (pe_calW C_steps (hr.mono (by decide)) (L2.takes_of rfl rfl rfl rfl) (by rfl) (pa_cons (pv 0) (pa_cons (pv 1) (pa_cons (pv 2) pa_nil)))) (pe_un un_neg pe_int) (fun _ _ => rfl)))))) rd
theorem ok_steps (h : Here K mg "steps" s_steps) (C_needweb : Cal P w K mg base (L2N.CX P w) 4 "need_web" ["lines", "comparers"] (sp_needweb K)) (C_needrow : Cal P w K mg base (L2N.CX P w) 2 "need_row" ["lines", "row"] (sp_needrow K)) (C_rbehind : Cal P w K mg base CX0 1 "behind_running" ["row", "comparer"] (sp_rbehind K)) (b_list : mg "list" = none)
    (len : ∀ vs H Q E, sp_steps K vs H Q E → vs.length = P_steps.length)
    (rd : ∀ (vs : List V) (H : Hp) (Q : VK) (E : XK), sp_steps K vs H Q E → r_steps K E { nx := fun _ H' => Q .non H', rt := Q } (start N_steps vs) H) :
    Cal P w K mg base (L2.CX P w) 5 "steps" P_steps (sp_steps K) := by
  exact h.calX (r := fun E => r_steps K E) sc_steps len (fun _ _ _ _ _ _ us hl => match us, hl with | [_, _, _], _ => rfl)
    (fun f cdv A outer s H E hr => (show PSs _ _ _ from (pss_cons (ps_expr (pe_calW (weak_cx C_needweb) (hr.mono (by decide)) (L2.takes_of rfl rfl rfl rfl) (by rfl) (pa_cons (pv 0) (pa_cons (pv 1) pa_nil)))) (pss_cons (ps_expr (pe_calW (weak_cx C_needrow) (hr.mono (by decide)) (L2.takes_of rfl rfl rfl rfl) (by rfl) (pa_cons (pv 0) (pa_cons (pv 2) pa_nil)))) (pss_cons (ps_set (i := 3) sc_steps.nd rfl (Or.inl rfl) (pe_lst (pa_cons (pe_callTy cl_list (by rfl) b_list (by decide +kernel) (pa_cons (pv 2) pa_nil)) pa_nil))) (pss_cons (ps_for (passes_of rfl) rfl (pi_list (pv 1)) (pg_name (i := 4) sc_steps.nd rfl (Or.inl rfl)) (pss_one (ps_expr (pe_bm PySem.F.plainAttrs_list PySem.F.slot_list_append PySem.F.type_list_append md_append (pv 3) (pa_cons (pe_cal C_rbehind (hr.mono (by decide)) (by rfl) (pa_cons (pe_ix ix_list (pv 3) (pe_un un_neg pe_int) (fun _ _ => rfl)) (pa_cons (pv 4) pa_nil))) pa_nil))))) (pss_one (ps_ret (pv 3))))))))) rd
theorem ok_rbehind (h : HereA K mg "behind_running" "_behind" s_rbehind) (b_list : mg "list" = none)
    (len : ∀ vs H Q E, sp_rbehind K vs H Q E → vs.length = P_rbehind.length)
    (rd : ∀ (vs : List V) (H : Hp) (Q : VK) (E : XK), sp_rbehind K vs H Q E → r_rbehind K { nx := fun _ H' => Q .non H', rt := Q } (start N_rbehind vs) H) :
    Cal P w K mg base CX0 1 "behind_running" P_rbehind (sp_rbehind K) := by
  exact h.cal sc_rbehind len (fun _ _ _ _ _ _ us hl => match us, hl with | [_, _], _ => rfl)
    (fun f cdv A outer s H E hr => (show PSs _ _ _ from (pss_cons (ps_asg (pv 1) (pg_tup rfl (pgs_cons (pg_name (i := 2) sc_rbehind.nd rfl (Or.inl rfl)) (pgs_cons (pg_name (i := 3) sc_rbehind.nd rfl (Or.inl rfl)) pgs_nil)))) (pss_cons (ps_set (i := 4) sc_rbehind.nd rfl (Or.inl rfl) (pe_callTy cl_list (by rfl) b_list (by decide +kernel) (pa_cons (pv 0) pa_nil))) (pss_cons (ps_if (pt_cmpR op_gt (pe_ix ix_list (pv 0) (pv 2) (fun _ _ => rfl)) (pe_ix ix_list (pv 0) (pv 3) (fun _ _ => rfl)) (nomark _)) (pss_cons (ps_asg (pe_ix ix_list (pv 0) (pv 3) (fun _ _ => rfl)) (pg_sub (pv 4) (pv 2) set_list)) (pss_one (ps_asg (pe_ix ix_list (pv 0) (pv 2) (fun _ _ => rfl)) (pg_sub (pv 4) (pv 3) set_list)))) pss_nil) (pss_one (ps_ret (pv 4)))))))) rd
theorem ok_webtext (h : Here K mg "web_text" s_webtext) (C_needweb : Cal P w K mg base (L2N.CX P w) 4 "need_web" ["lines", "comparers"] (sp_needweb K))
    (len : ∀ vs H Q E, sp_webtext K vs H Q E → vs.length = P_webtext.length)
    (rd : ∀ (vs : List V) (H : Hp) (Q : VK) (E : XK), sp_webtext K vs H Q E → r_webtext K E { nx := fun _ H' => Q .non H', rt := Q } (start N_webtext vs) H) :
    Cal P w K mg base (L2.CX P w) 5 "web_text" P_webtext (sp_webtext K) := by
  exact h.calX (r := fun E => r_webtext K E) sc_webtext len (fun _ _ _ _ _ _ us hl => match us, hl with | [_, _], _ => rfl)
    (fun f cdv A outer s H E hr => (show PSs _ _ _ from (pss_cons (ps_expr (pe_calW (weak_cx C_needweb) (hr.mono (by decide)) (L2.takes_of rfl rfl rfl rfl) (by rfl) (pa_cons (pv 0) (pa_cons (pv 1) pa_nil)))) (pss_cons (ps_setLc (i := 2) (own := [("a", 3), ("b", 4)]) rfl sc_webtext.nd rfl rfl (sw_true rfl rfl rfl (by decide +kernel)) (pi_list (pv 1)) (blkOk_by (N := N_webtext) (sc := defScope s_webtext) (by decide +kernel)) (fun _ _ _ _ _ => (pg_tup rfl (pgs_cons (pg_name (i := 3) sc_webtext.nd rfl (Or.inl rfl)) (pgs_cons (pg_name (i := 4) sc_webtext.nd rfl (Or.inl rfl)) pgs_nil)))) (fun _ _ _ _ _ => pts_nil) (fun _ _ _ _ _ => (pe_joined (.cons pe_str (.cons (pe_fmt (pv 3)) (.cons pe_str (.cons (pe_fmt (pv 4)) .nil))))))) (pss_one (ps_ret (pe_op op_add_str (pe_joined (.cons (pe_fmt (pv 0)) (.cons pe_str .nil))) (pe_bm PySem.F.plainAttrs_str PySem.F.slot_str_join PySem.F.type_str_join md_join pe_str (pa_cons (pv 2) pa_nil))))))))) rd
theorem ok_renamed (h : Here K mg "renamed" s_renamed) (C_needweb : Cal P w K mg base (L2N.CX P w) 4 "need_web" ["lines", "comparers"] (sp_needweb K)) (C_needorder : Cal P w K mg base (L2.CX P w) 2 "_need_order" ["lines", "order"] (sp_needorder K))
    (len : ∀ vs H Q E, sp_renamed K vs H Q E → vs.length = P_renamed.length)
    (rd : ∀ (vs : List V) (H : Hp) (Q : VK) (E : XK), sp_renamed K vs H Q E → r_renamed K E { nx := fun _ H' => Q .non H', rt := Q } (start N_renamed vs) H) :
    Cal P w K mg base (L2.CX P w) 5 "renamed" P_renamed (sp_renamed K) := by
  exact h.calX (r := fun E => r_renamed K E) sc_renamed len (fun _ _ _ _ _ _ us hl => match us, hl with | [_, _, _], _ => rfl)
    (fun f cdv A outer s H E hr => (show PSs _ _ _ from (pss_cons (ps_expr (pe_calW (weak_cx C_needweb) (hr.mono (by decide)) (L2.takes_of rfl rfl rfl rfl) (by rfl) (pa_cons (pv 0) (pa_cons (pv 1) pa_nil)))) (pss_cons (ps_expr (pe_calW C_needorder (hr.mono (by decide)) (L2.takes_of rfl rfl rfl rfl) (by rfl) (pa_cons (pv 0) (pa_cons (pv 2) pa_nil)))) (pss_one (ps_ret (pe_lc (own := [("a", 3), ("b", 4)]) rfl sc_renamed.nd (pi_list (pv 1)) (blkOk_by (N := N_renamed) (sc := defScope s_renamed) (by decide +kernel)) (fun _ _ _ _ _ => (pg_tup rfl (pgs_cons (pg_name (i := 3) sc_renamed.nd rfl (Or.inl rfl)) (pgs_cons (pg_name (i := 4) sc_renamed.nd rfl (Or.inl rfl)) pgs_nil)))) (fun _ _ _ _ _ => pts_nil) (fun _ _ _ _ _ => (pe_tup (pa_cons (pe_ix ix_list (pv 2) (pv 3) (fun _ _ => rfl)) (pa_cons (pe_ix ix_list (pv 2) (pv 4) (fun _ _ => rfl)) pa_nil))))))))))) rd
theorem ok_upside (h : Here K mg "upside" s_upside) (C_needweb : Cal P w K mg base (L2N.CX P w) 4 "need_web" ["lines", "comparers"] (sp_needweb K))
    (len : ∀ vs H Q E, sp_upside K vs H Q E → vs.length = P_upside.length)
    (rd : ∀ (vs : List V) (H : Hp) (Q : VK) (E : XK), sp_upside K vs H Q E → r_upside K E { nx := fun _ H' => Q .non H', rt := Q } (start N_upside vs) H) :
    Cal P w K mg base (L2.CX P w) 5 "upside" P_upside (sp_upside K) := by
  exact h.calX (r := fun E => r_upside K E) sc_upside len (fun _ _ _ _ _ _ us hl => match us, hl with | [_, _], _ => rfl)
    (fun f cdv A outer s H E hr => (show PSs _ _ _ from (pss_cons (ps_expr (pe_calW (weak_cx C_needweb) (hr.mono (by decide)) (L2.takes_of rfl rfl rfl rfl) (by rfl) (pa_cons (pv 0) (pa_cons (pv 1) pa_nil)))) (pss_one (ps_ret (pe_lc (own := [("a", 2), ("b", 3)]) rfl sc_upside.nd (pi_list (pv 1)) (blkOk_by (N := N_upside) (sc := defScope s_upside) (by decide +kernel)) (fun _ _ _ _ _ => (pg_tup rfl (pgs_cons (pg_name (i := 2) sc_upside.nd rfl (Or.inl rfl)) (pgs_cons (pg_name (i := 3) sc_upside.nd rfl (Or.inl rfl)) pgs_nil)))) (fun _ _ _ _ _ => pts_nil) (fun _ _ _ _ _ => (pe_tup (pa_cons (pe_op op_sub (pe_op op_sub (pv 0) pe_int) (pv 3)) (pa_cons (pe_op op_sub (pe_op op_sub (pv 0) pe_int) (pv 2)) pa_nil)))))))))) rd
theorem ok_straightened (h : Here K mg "straightened" s_straightened) (C_needweb : Cal P w K mg base (L2N.CX P w) 4 "need_web" ["lines", "comparers"] (sp_needweb K)) (b_list : mg "list" = none) (b_max : mg "max" = none) (b_min : mg "min" = none) (b_range : mg "range" = none)
    (len : ∀ vs H Q E, sp_straightened K vs H Q E → vs.length = P_straightened.length)
    (rd : ∀ (vs : List V) (H : Hp) (Q : VK) (E : XK), sp_straightened K vs H Q E → r_straightened K E { nx := fun _ H' => Q .non H', rt := Q } (start N_straightened vs) H) :
    Cal P w K mg base (L2.CX P w) 5 "straightened" P_straightened (sp_straightened K) := by
  exact h.calX (r := fun E => r_straightened K E) sc_straightened len (fun _ _ _ _ _ _ us hl => match us, hl with | [_, _], _ => rfl)
    (fun f cdv A outer s H E hr => (show PSs _ _ _ from (pss_cons (ps_expr (pe_calW (weak_cx C_needweb) (hr.mono (by decide)) (L2.takes_of rfl rfl rfl rfl) (by rfl) (pa_cons (pv 0) (pa_cons (pv 1) pa_nil)))) (pss_cons (ps_set (i := 2) sc_straightened.nd rfl (Or.inl rfl) (pe_lst pa_nil)) (pss_cons (ps_set (i := 3) sc_straightened.nd rfl (Or.inl rfl) (pe_listRg rfl (by rfl) b_list (prg_1 (by rfl) b_range (pv 0)))) (pss_cons (ps_for (passes_of rfl) rfl (pi_list (pv 1)) (pg_tup rfl (pgs_cons (pg_name (i := 4) sc_straightened.nd rfl (Or.inl rfl)) (pgs_cons (pg_name (i := 5) sc_straightened.nd rfl (Or.inl rfl)) pgs_nil))) (pss_cons (ps_set (i := 6) sc_straightened.nd rfl (Or.inl rfl) (pe_callB (cl_min rfl) (by rfl) b_min (by decide +kernel) (pa_cons (pe_ix ix_list (pv 3) (pv 4) (fun _ _ => rfl)) (pa_cons (pe_ix ix_list (pv 3) (pv 5) (fun _ _ => rfl)) pa_nil)))) (pss_cons (ps_set (i := 7) sc_straightened.nd rfl (Or.inl rfl) (pe_callB (cl_max rfl) (by rfl) b_max (by decide +kernel) (pa_cons (pe_ix ix_list (pv 3) (pv 4) (fun _ _ => rfl)) (pa_cons (pe_ix ix_list (pv 3) (pv 5) (fun _ _ => rfl)) pa_nil)))) (pss_cons (ps_expr (pe_bm PySem.F.plainAttrs_list PySem.F.slot_list_append PySem.F.type_list_append md_append (pv 2) (pa_cons (pe_tup (pa_cons (pv 6) (pa_cons (pv 7) pa_nil))) pa_nil))) (pss_cons (ps_asg (pv 6) (pg_sub (pv 3) (pv 4) set_list)) (pss_one (ps_asg (pv 7) (pg_sub (pv 3) (pv 5) set_list)))))))) (pss_one (ps_ret (pe_tup (pa_cons (pv 2) (pa_cons (pv 3) pa_nil))))))))))) rd
theorem ok_needorder (h : Here K mg "_need_order" s_needorder) (C_iswhole : Cal P w K mg base CX0 1 "is_whole" ["value"] (sp_iswhole K)) (b_all : mg "all" = none) (b_list : mg "list" = none) (b_range : mg "range" = none) (b_sorted : mg "sorted" = none) (b_type : mg "type" = none) (X_BadOrder : ExK K mg "BadOrder")
    (len : ∀ vs H Q E, sp_needorder K vs H Q E → vs.length = P_needorder.length)
    (rd : ∀ (vs : List V) (H : Hp) (Q : VK) (E : XK), sp_needorder K vs H Q E → r_needorder K E { nx := fun _ H' => Q .non H', rt := Q } (start N_needorder vs) H) :
    Cal P w K mg base (L2.CX P w) 2 "_need_order" P_needorder (sp_needorder K) := by
  exact h.calX (r := fun E => r_needorder K E) sc_needorder len (fun _ _ _ _ _ _ us hl => match us, hl with | [_, _], _ => rfl)
    (fun f cdv A outer s H E hr => (show PSs _ _ _ from (pss_cons (ps_set (i := 2) sc_needorder.nd rfl (Or.inl rfl) (pe_and (pe_cmpR op_isTyB (pe_callTy call_type1 (by rfl) b_type (by decide +kernel) (pa_cons (pv 1) pa_nil)) (pe_bltn (v := .ty "list") (by rfl) b_list (by decide +kernel) rfl) (nomark _)) (pe_one (pe_callB (cr_all rfl) (by rfl) b_all (by decide +kernel) (pa_cons (pe_lc (own := [("line", 3)]) rfl sc_needorder.nd (pi_list (pv 1)) (blkOk_by (N := N_needorder) (sc := defScope s_needorder) (by decide +kernel)) (fun _ _ _ _ _ => (pg_name (i := 3) sc_needorder.nd rfl (Or.inl rfl))) (fun _ _ _ _ _ => pts_nil) (fun _ _ _ _ _ => (pe_cal C_iswhole (hr.mono (by decide)) (by rfl) (pa_cons (pv 3) pa_nil)))) pa_nil))))) (pss_one (ps_if (pw_or (pt_not (pt_val (pv 2))) (pw_or1 (pt_cmpR (op_neD (hu64 hr)) (pe_callB cr_sortedI (by rfl) b_sorted (by decide +kernel) (pa_cons (pv 1) pa_nil)) (pe_listRg rfl (by rfl) b_list (prg_1 (by rfl) b_range (pv 0))) (nomark _)))).pt (pss_one (ps_rzA rfl (L2.takes_of rfl rfl rfl rfl) X_BadOrder (by rfl) (pa_cons pe_str pa_nil))) pss_nil))))) rd
theorem ok_ldraw (h : Here K mg "_law_draw" s_ldraw) 
    (len : ∀ vs H Q E, sp_ldraw K vs H Q E → vs.length = P_ldraw.length)
    (rd : ∀ (vs : List V) (H : Hp) (Q : VK) (E : XK), sp_ldraw K vs H Q E → r_ldraw K { nx := fun _ H' => Q .non H', rt := Q } (start N_ldraw vs) H) :
    Cal P w K mg base CX0 1 "_law_draw" P_ldraw (sp_ldraw K) := by
  exact h.cal sc_ldraw len (fun _ _ _ _ _ _ us hl => match us, hl with | [_, _, _], _ => rfl)
    (fun f cdv A outer s H E hr => (show PSs _ _ _ from (pss_cons (ps_set (i := 3) sc_ldraw.nd rfl (Or.inl rfl) (pe_op op_add (pe_op op_mul (pe_op op_mul (pe_op op_add (pv 1) pe_int) (pe_op op_add (pv 1) pe_int)) pe_int) (pe_op op_mul (pe_op op_mul (pe_op op_add (pv 2) pe_int) (pe_op op_add (pv 2) pe_int)) pe_int))) (pss_one (ps_ret (pe_op op_fdiv (pe_op op_mod (pe_op op_mul (pe_op op_mod (pe_op op_add (pe_op op_mul (pe_op op_mod (pv 0) pe_int) pe_int) (pv 3)) pe_int) pe_int) pe_int) pe_int)))))) rd
theorem ok_lbricks (h : Here K mg "_law_bricks" s_lbricks) (b_range : mg "range" = none)
    (len : ∀ vs H Q E, sp_lbricks K vs H Q E → vs.length = P_lbricks.length)
    (rd : ∀ (vs : List V) (H : Hp) (Q : VK) (E : XK), sp_lbricks K vs H Q E → r_lbricks K { nx := fun _ H' => Q .non H', rt := Q } (start N_lbricks vs) H) :
    Cal P w K mg base CX0 1 "_law_bricks" P_lbricks (sp_lbricks K) := by
  exact h.cal sc_lbricks len (fun _ _ _ _ _ _ us hl => match us, hl with | [_], _ => rfl)
    (fun f cdv A outer s H E hr => (show PSs _ _ _ from (pss_cons (ps_set (i := 1) sc_lbricks.nd rfl (Or.inl rfl) (pe_lst pa_nil)) (pss_cons (ps_for PassesOwn.never rfl (pi_range1 (by rfl) b_range (pa_cons (pv 0) pa_nil)) (pg_name (i := 2) sc_lbricks.nd rfl (Or.inl rfl)) (pss_one (ps_set (i := 1) sc_lbricks.nd rfl (Or.inl rfl) (pe_op op_cat (pv 1) (pe_lc (own := [("_law_k", 3)]) rfl sc_lbricks.nd (pi_range3 (by rfl) b_range (pa_cons (pe_op op_mod (pv 2) pe_int) (pa_cons (pe_op op_sub (pv 0) pe_int) (pa_cons pe_int pa_nil)))) (blkOk_by (N := N_lbricks) (sc := defScope s_lbricks) (by decide +kernel)) (fun _ _ _ _ _ => (pg_name (i := 3) sc_lbricks.nd rfl (Or.inl rfl))) (fun _ _ _ _ _ => pts_nil) (fun _ _ _ _ _ => (pe_tup (pa_cons (pv 3) (pa_cons (pe_op op_add (pv 3) pe_int) pa_nil))))))))) (pss_one (ps_ret (pv 1))))))) rd
theorem ok_lcomparer (h : Here K mg "_law_comparer" s_lcomparer) (b_max : mg "max" = none) (b_min : mg "min" = none)
    (len : ∀ vs H Q E, sp_lcomparer K vs H Q E → vs.length = P_lcomparer.length)
    (rd : ∀ (vs : List V) (H : Hp) (Q : VK) (E : XK), sp_lcomparer K vs H Q E → r_lcomparer K { nx := fun _ H' => Q .non H', rt := Q } (start N_lcomparer vs) H) :
    Cal P w K mg base CX0 1 "_law_comparer" P_lcomparer (sp_lcomparer K) := by
  exact h.cal sc_lcomparer len (fun _ _ _ _ _ _ us hl => match us, hl with | [_, _], _ => rfl)
    (fun f cdv A outer s H E hr => (show PSs _ _ _ from (pss_cons (ps_set (i := 2) sc_lcomparer.nd rfl (Or.inl rfl) (pe_op op_mod (pv 0) (pv 1))) (pss_cons (ps_set (i := 3) sc_lcomparer.nd rfl (Or.inl rfl) (pe_op op_mod (pe_op op_add (pe_op op_add (pv 2) pe_int) (pe_op op_mod (pe_op op_fdiv (pv 0) pe_int) (pe_op op_sub (pv 1) pe_int))) (pv 1))) (pss_one (ps_ret (pe_ifExp (pt_cmpR op_gt (pe_op op_mod (pe_op op_fdiv (pv 0) pe_int) pe_int) pe_int (nomark _)) (pe_tup (pa_cons (pe_callB (cl_min rfl) (by rfl) b_min (by decide +kernel) (pa_cons (pv 2) (pa_cons (pv 3) pa_nil))) (pa_cons (pe_callB (cl_max rfl) (by rfl) b_max (by decide +kernel) (pa_cons (pv 2) (pa_cons (pv 3) pa_nil))) pa_nil))) (pe_tup (pa_cons (pv 2) (pa_cons (pv 3) pa_nil)))))))))) rd
theorem ok_lweb (h : Here K mg "_law_web" s_lweb) (C_ldraw : Cal P w K mg base CX0 1 "_law_draw" ["_law_cell", "_law_k", "_law_j"] (sp_ldraw K)) (C_lbricks : Cal P w K mg base CX0 1 "_law_bricks" ["_law_lines"] (sp_lbricks K)) (C_lcomparer : Cal P w K mg base CX0 1 "_law_comparer" ["_law_n", "_law_lines"] (sp_lcomparer K)) (b_enumerate : mg "enumerate" = none) (b_len : mg "len" = none) (b_sum : mg "sum" = none)
    (len : ∀ vs H Q E, sp_lweb K vs H Q E → vs.length = P_lweb.length)
    (rd : ∀ (vs : List V) (H : Hp) (Q : VK) (E : XK), sp_lweb K vs H Q E → r_lweb K { nx := fun _ H' => Q .non H', rt := Q } (start N_lweb vs) H) :
    Cal P w K mg base CX0 2 "_law_web" P_lweb (sp_lweb K) := by
  exact h.cal sc_lweb len (fun _ _ _ _ _ _ us hl => match us, hl with | [_], _ => rfl)
    (fun f cdv A outer s H E hr => (show PSs _ _ _ from (pss_cons (ps_set (i := 1) sc_lweb.nd rfl (Or.inl rfl) (pe_slice sl_list (pv 0) po_none (po_some pe_int))) (pss_cons (ps_set (i := 2) sc_lweb.nd rfl (Or.inl rfl) (pe_cal C_ldraw (hr.mono (by decide)) (by rfl) (pa_cons (pe_callB (cr_sum rfl) (by rfl) b_sum (by decide +kernel) (pa_cons (pe_slice sl_list (pv 1) po_none (po_some pe_int)) pa_nil)) (pa_cons (pe_callB cl_len (by rfl) b_len PySem.boot_len (pa_cons (pv 1) pa_nil)) (pa_cons pe_int pa_nil))))) (pss_cons (ps_set (i := 3) sc_lweb.nd rfl (Or.inr rfl) (pe_ix ix_list (pe_lst (pa_cons (pe_op op_add pe_int (pe_op op_mod (pe_op op_fdiv (pv 2) pe_int) pe_int)) (pa_cons (pe_op op_add pe_int (pe_op op_mod (pe_op op_fdiv (pv 2) pe_int) pe_int)) (pa_cons (pe_op op_add pe_int (pe_op op_mod (pe_op op_fdiv (pv 2) pe_int) pe_int)) (pa_cons pe_int pa_nil))))) (pe_op op_mod (pv 2) pe_int) (fun _ _ => rfl))) (pss_cons (ps_if (pt_cmpR op_eq (pv 3) pe_int (nomark _)) (pss_one (ps_ret (pe_tup (pa_cons pe_int (pa_cons (pe_lst pa_nil) pa_nil))))) pss_nil) (pss_cons (ps_if (pt_cmpR op_eq (pe_op op_mod (pe_op op_fdiv (pv 2) pe_int) pe_int) pe_int (nomark _)) (pss_one (ps_ret (pe_tup (pa_cons (pv 3) (pa_cons (pe_lc (own := [("_law_k", 4), ("_law_cell", 5)]) rfl sc_lweb.nd (pi_enum (by rfl) b_enumerate (pa_cons (pv 1) pa_nil)) (blkOk_by (N := N_lweb) (sc := defScope s_lweb) (by decide +kernel)) (fun _ _ _ _ _ => (pg_tup rfl (pgs_cons (pg_name (i := 4) sc_lweb.nd rfl (Or.inl rfl)) (pgs_cons (pg_name (i := 5) sc_lweb.nd rfl (Or.inl rfl)) pgs_nil)))) (fun _ _ _ _ _ => pts_nil) (fun _ _ _ _ _ => (pe_cal C_lcomparer (hr.mono (by decide)) (by rfl) (pa_cons (pe_cal C_ldraw (hr.mono (by decide)) (by rfl) (pa_cons (pv 5) (pa_cons (pv 4) (pa_cons pe_int pa_nil)))) (pa_cons (pv 3) pa_nil))))) pa_nil))))) pss_nil) (pss_cons (ps_set (i := 6) sc_lweb.nd rfl (Or.inl rfl) (pe_cal C_lbricks (hr.mono (by decide)) (by rfl) (pa_cons (pv 3) pa_nil))) (pss_cons (ps_for PassesOwn.never rfl (pi_enum (by rfl) b_enumerate (pa_cons (pv 1) pa_nil)) (pg_tup rfl (pgs_cons (pg_name (i := 4) sc_lweb.nd rfl (Or.inl rfl)) (pgs_cons (pg_name (i := 5) sc_lweb.nd rfl (Or.inl rfl)) pgs_nil))) (pss_cons (ps_set (i := 7) sc_lweb.nd rfl (Or.inl rfl) (pe_cal C_ldraw (hr.mono (by decide)) (by rfl) (pa_cons (pv 5) (pa_cons (pv 4) (pa_cons pe_int pa_nil))))) (pss_cons (ps_set (i := 8) sc_lweb.nd rfl (Or.inl rfl) (pe_op op_mod (pe_op op_fdiv (pv 7) pe_int) (pe_op op_add (pe_callB cl_len (by rfl) b_len PySem.boot_len (pa_cons (pv 6) pa_nil)) pe_int))) (pss_one (ps_if (pw_and (pt_cmpR op_lt (pe_op op_mod (pv 7) pe_int) pe_int (nomark _)) (pw_and1 (pt_cmpR op_lt (pv 8) (pe_callB cl_len (by rfl) b_len PySem.boot_len (pa_cons (pv 6) pa_nil)) (nomark _)))).pt (pss_one (ps_expr (pe_bm PySem.F.plainAttrs_list PySem.F.slot_list_pop PySem.F.type_list_pop md_popAt (pv 6) (pa_cons (pv 8) pa_nil)))) (pss_one (ps_if (pw_and (pt_cmpR op_lt (pe_op op_mod (pv 7) pe_int) pe_int (nomark _)) (pw_and1 (pt_cmpR op_lt (pe_callB cl_len (by rfl) b_len PySem.boot_len (pa_cons (pv 6) pa_nil)) pe_int (nomark _)))).pt (pss_one (ps_expr (pe_bm PySem.F.plainAttrs_list PySem.F.slot_list_insert PySem.F.type_list_insert md_insert (pv 6) (pa_cons (pv 8) (pa_cons (pe_cal C_lcomparer (hr.mono (by decide)) (by rfl) (pa_cons (pe_op op_fdiv (pv 7) pe_int) (pa_cons (pv 3) pa_nil))) pa_nil))))) (pss_one (ps_if (pw_and (pt_cmpR op_eq (pe_op op_mod (pv 7) pe_int) pe_int (nomark _)) (pw_and1 (pt_cmpR op_lt (pv 8) (pe_callB cl_len (by rfl) b_len PySem.boot_len (pa_cons (pv 6) pa_nil)) (nomark _)))).pt (pss_one (ps_asg (pe_turn (pe_ix ix_list (pv 6) (pv 8) (fun _ _ => rfl))) (pg_sub (pv 6) (pv 8) set_list))) pss_nil))))))))) (pss_one (ps_ret (pe_tup (pa_cons (pv 3) (pa_cons (pv 6) pa_nil)))))))))))))) rd
theorem ok_lword (h : Here K mg "_law_word" s_lword) (b_ValueError : mg "ValueError" = none) (b_isinstance : mg "isinstance" = none) (b_len : mg "len" = none) (G_BadLines : mg "BadLines" = some (.ref (He.ga K "BadLines"))) (G_BadOrder : mg "BadOrder" = some (.ref (He.ga K "BadOrder"))) (G_BadPlace : mg "BadPlace" = some (.ref (He.ga K "BadPlace"))) (G_BadRow : mg "BadRow" = some (.ref (He.ga K "BadRow"))) (G_BadText : mg "BadText" = some (.ref (He.ga K "BadText"))) (G_BadWeb : mg "BadWeb" = some (.ref (He.ga K "BadWeb"))) (G_NothingPut : mg "NothingPut" = some (.ref (He.ga K "NothingPut")))
    (len : ∀ vs H Q E, sp_lword K vs H Q E → vs.length = P_lword.length)
    (rd : ∀ (vs : List V) (H : Hp) (Q : VK) (E : XK), sp_lword K vs H Q E → r_lword K { nx := fun _ H' => Q .non H', rt := Q } (start N_lword vs) H) :
    Cal P w K mg base CX0 1 "_law_word" P_lword (sp_lword K) := by
  exact h.cal sc_lword len (fun _ _ _ _ _ _ us hl => match us, hl with | [_], _ => rfl)
    (fun f cdv A outer s H E hr => (show PSs _ _ _ from (pss_cons (ps_set (i := 1) sc_lword.nd rfl (Or.inl rfl) (pe_lst (pa_cons (pe_tup (pa_cons pe_str (pa_cons (pe_callB cl_isk (by rfl) b_isinstance (by decide +kernel) (pa_cons (pv 0) (pa_cons (pe_cls G_BadLines (by rfl)) pa_nil))) pa_nil))) (pa_cons (pe_tup (pa_cons pe_str (pa_cons (pe_callB cl_isk (by rfl) b_isinstance (by decide +kernel) (pa_cons (pv 0) (pa_cons (pe_cls G_BadWeb (by rfl)) pa_nil))) pa_nil))) (pa_cons (pe_tup (pa_cons pe_str (pa_cons (pe_callB cl_isk (by rfl) b_isinstance (by decide +kernel) (pa_cons (pv 0) (pa_cons (pe_cls G_BadRow (by rfl)) pa_nil))) pa_nil))) pa_nil))))) (pss_cons (ps_set (i := 1) sc_lword.nd rfl (Or.inl rfl) (pe_op op_cat (pv 1) (pe_lst (pa_cons (pe_tup (pa_cons pe_str (pa_cons (pe_callB cl_isk (by rfl) b_isinstance (by decide +kernel) (pa_cons (pv 0) (pa_cons (pe_cls G_BadPlace (by rfl)) pa_nil))) pa_nil))) (pa_cons (pe_tup (pa_cons pe_str (pa_cons (pe_callB cl_isk (by rfl) b_isinstance (by decide +kernel) (pa_cons (pv 0) (pa_cons (pe_cls G_BadOrder (by rfl)) pa_nil))) pa_nil))) pa_nil))))) (pss_cons (ps_set (i := 1) sc_lword.nd rfl (Or.inl rfl) (pe_op op_cat (pv 1) (pe_lst (pa_cons (pe_tup (pa_cons pe_str (pa_cons (pe_callB cl_isk (by rfl) b_isinstance (by decide +kernel) (pa_cons (pv 0) (pa_cons (pe_cls G_BadText (by rfl)) pa_nil))) pa_nil))) (pa_cons (pe_tup (pa_cons pe_str (pa_cons (pe_callB cl_isk (by rfl) b_isinstance (by decide +kernel) (pa_cons (pv 0) (pa_cons (pe_cls G_NothingPut (by rfl)) pa_nil))) pa_nil))) pa_nil))))) (pss_cons (ps_setLc (i := 2) (own := [("_law_word_here", 3), ("_law_good", 4)]) rfl sc_lword.nd rfl rfl (sw_true rfl rfl rfl (by decide +kernel)) (pi_list (pv 1)) (blkOk_by (N := N_lword) (sc := defScope s_lword) (by decide +kernel)) (fun _ _ _ _ _ => (pg_tup rfl (pgs_cons (pg_name (i := 3) sc_lword.nd rfl (Or.inl rfl)) (pgs_cons (pg_name (i := 4) sc_lword.nd rfl (Or.inl rfl)) pgs_nil)))) (fun _ _ _ _ _ => (pts_one (pt_val (pv 4)))) (fun _ _ _ _ _ => (pv 3))) (pss_cons (ps_if (pt_cmpR op_isN1 (pv 0) pe_non (nomark _)) (pss_one (ps_ret pe_str)) pss_nil) (pss_one (ps_ret (pe_ifExp (pw_and (pt_cmpR op_eq (pe_callB cl_len (by rfl) b_len PySem.boot_len (pa_cons (pv 2) pa_nil)) pe_int (nomark _)) (pw_and1 (pt_val (pe_callB cl_isk (by rfl) b_isinstance (by decide +kernel) (pa_cons (pv 0) (pa_cons (pe_bltn (v := .ty "ValueError") (by rfl) b_ValueError (by decide +kernel) rfl) pa_nil)))))).pt (pe_ix ix_list (pv 2) pe_int (fun _ _ => rfl)) pe_str)))))))))) rd
theorem ok_loneasked (h : Here K mg "_law_one_asked" s_loneasked) (C_needweb : Cal P w K mg base (L2N.CX P w) 4 "need_web" ["lines", "comparers"] (sp_needweb K)) (C_layers : Cal P w K mg base (L2.CX P w) 5 "layers" ["lines", "comparers"] (sp_layers K)) (C_chain : Cal P w K mg base (L2.CX P w) 5 "chain" ["lines", "comparers"] (sp_chain K)) (C_unsorted : Cal P w K mg base (L2.CX P w) 5 "unsorted" ["lines", "comparers"] (sp_unsorted K)) (C_needless : Cal P w K mg base (L2.CX P w) 5 "needless" ["lines", "comparers"] (sp_needless K)) (C_pruned : Cal P w K mg base (L2.CX P w) 6 "pruned" ["lines", "comparers"] (sp_pruned K)) (C_webtext : Cal P w K mg base (L2.CX P w) 5 "web_text" ["lines", "comparers"] (sp_webtext K)) (C_upside : Cal P w K mg base (L2.CX P w) 5 "upside" ["lines", "comparers"] (sp_upside K)) (C_straightened : Cal P w K mg base (L2.CX P w) 5 "straightened" ["lines", "comparers"] (sp_straightened K))
    (len : ∀ vs H Q E, sp_loneasked K vs H Q E → vs.length = P_loneasked.length)
    (rd : ∀ (vs : List V) (H : Hp) (Q : VK) (E : XK), sp_loneasked K vs H Q E → r_loneasked K E { nx := fun _ H' => Q .non H', rt := Q } (start N_loneasked vs) H) :
    Cal P w K mg base (L2.CX P w) 7 "_law_one_asked" P_loneasked (sp_loneasked K) := by
  exact h.calX (r := fun E => r_loneasked K E) sc_loneasked len (fun _ _ _ _ _ _ us hl => match us, hl with | [_, _, _], _ => rfl)
    (fun f cdv A outer s H E hr => (show PSs _ _ _ from (pss_one (ps_if (pt_cmpR op_eq (pv 0) pe_int (nomark _)) (pss_one (ps_expr (pe_calW (weak_cx C_needweb) (hr.mono (by decide)) (L2.takes_of rfl rfl rfl rfl) (by rfl) (pa_cons (pv 1) (pa_cons (pv 2) pa_nil))))) (pss_one (ps_if (pt_cmpR op_eq (pv 0) pe_int (nomark _)) (pss_one (ps_expr (pe_calW C_webtext (hr.mono (by decide)) (L2.takes_of rfl rfl rfl rfl) (by rfl) (pa_cons (pv 1) (pa_cons (pv 2) pa_nil))))) (pss_one (ps_if (pt_cmpR op_eq (pv 0) pe_int (nomark _)) (pss_one (ps_expr (pe_calW C_unsorted (hr.mono (by decide)) (L2.takes_of rfl rfl rfl rfl) (by rfl) (pa_cons (pv 1) (pa_cons (pv 2) pa_nil))))) (pss_one (ps_if (pt_cmpR op_eq (pv 0) pe_int (nomark _)) (pss_one (ps_expr (pe_calW C_needless (hr.mono (by decide)) (L2.takes_of rfl rfl rfl rfl) (by rfl) (pa_cons (pv 1) (pa_cons (pv 2) pa_nil))))) (pss_one (ps_if (pt_cmpR op_eq (pv 0) pe_int (nomark _)) (pss_one (ps_expr (pe_calW C_pruned (hr.mono (by decide)) (L2.takes_of rfl rfl rfl rfl) (by rfl) (pa_cons (pv 1) (pa_cons (pv 2) pa_nil))))) (pss_one (ps_if (pt_cmpR op_eq (pv 0) pe_int (nomark _)) (pss_one (ps_expr (pe_calW C_layers (hr.mono (by decide)) (L2.takes_of rfl rfl rfl rfl) (by rfl) (pa_cons (pv 1) (pa_cons (pv 2) pa_nil))))) (pss_one (ps_if (pt_cmpR op_eq (pv 0) pe_int (nomark _)) (pss_one (ps_expr (pe_calW C_chain (hr.mono (by decide)) (L2.takes_of rfl rfl rfl rfl) (by rfl) (pa_cons (pv 1) (pa_cons (pv 2) pa_nil))))) (pss_one (ps_if (pt_cmpR op_eq (pv 0) pe_int (nomark _)) (pss_one (ps_expr (pe_calW C_upside (hr.mono (by decide)) (L2.takes_of rfl rfl rfl rfl) (by rfl) (pa_cons (pv 1) (pa_cons (pv 2) pa_nil))))) (pss_one (ps_expr (pe_calW C_straightened (hr.mono (by decide)) (L2.takes_of rfl rfl rfl rfl) (by rfl) (pa_cons (pv 1) (pa_cons (pv 2) pa_nil))))))))))))))))))))))) rd
theorem ok_lmoreasked (h : Here K mg "_law_more_asked" s_lmoreasked) (C_needrow : Cal P w K mg base (L2N.CX P w) 2 "need_row" ["lines", "row"] (sp_needrow K)) (C_stirring : Cal P w K mg base (L2.CX P w) 5 "stirring" ["lines", "comparers", "place"] (sp_stirring K)) (C_differing : Cal P w K mg base (L2.CX P w) 5 "differing" ["lines", "one", "other"] (sp_differing K)) (C_merging : Cal P w K mg base (L2.CX P w) 7 "merging" ["many", "more"] (sp_merging K)) (C_sorting : Cal P w K mg base (L2.CX P w) 12 "sorting" ["lines"] (sp_sorting K)) (C_beside : Cal P w K mg base (L2.CX P w) 5 "beside" ["lines", "comparers", "more", "others"] (sp_beside K)) (C_run : Cal P w K mg base (L2.CX P w) 6 "run" ["lines", "comparers", "row"] (sp_run K)) (C_steps : Cal P w K mg base (L2.CX P w) 5 "steps" ["lines", "comparers", "row"] (sp_steps K)) (C_renamed : Cal P w K mg base (L2.CX P w) 5 "renamed" ["lines", "comparers", "order"] (sp_renamed K)) (M_binit : MkCal P w K mg base (L2.CX P w) 3 "Bench" ["self", "lines"] (sp_binit K))
    (len : ∀ vs H Q E, sp_lmoreasked K vs H Q E → vs.length = P_lmoreasked.length)
    (rd : ∀ (vs : List V) (H : Hp) (Q : VK) (E : XK), sp_lmoreasked K vs H Q E → r_lmoreasked K E { nx := fun _ H' => Q .non H', rt := Q } (start N_lmoreasked vs) H) :
    Cal P w K mg base (L2.CX P w) 13 "_law_more_asked" P_lmoreasked (sp_lmoreasked K) := by
  exact h.calX (r := fun E => r_lmoreasked K E) sc_lmoreasked len (fun _ _ _ _ _ _ us hl => match us, hl with | [_, _, _, _], _ => rfl)
    (fun f cdv A outer s H E hr => (show PSs _ _ _ from (pss_one (ps_if (pt_cmpR op_eq (pv 0) pe_int (nomark _)) (pss_one (ps_expr (pe_calW C_run (hr.mono (by decide)) (L2.takes_of rfl rfl rfl rfl) (by rfl) (pa_cons (pv 1) (pa_cons (pv 2) (pa_cons (pv 3) pa_nil)))))) (pss_one (ps_if (pt_cmpR op_eq (pv 0) pe_int (nomark _)) (pss_one (ps_expr (pe_calW C_steps (hr.mono (by decide)) (L2.takes_of rfl rfl rfl rfl) (by rfl) (pa_cons (pv 1) (pa_cons (pv 2) (pa_cons (pv 3) pa_nil)))))) (pss_one (ps_if (pt_cmpR op_eq (pv 0) pe_int (nomark _)) (pss_one (ps_expr (pe_calW C_stirring (hr.mono (by decide)) (L2.takes_of rfl rfl rfl rfl) (by rfl) (pa_cons (pv 1) (pa_cons (pv 2) (pa_cons (pv 3) pa_nil)))))) (pss_one (ps_if (pt_cmpR op_eq (pv 0) pe_int (nomark _)) (pss_one (ps_expr (pe_calW C_renamed (hr.mono (by decide)) (L2.takes_of rfl rfl rfl rfl) (by rfl) (pa_cons (pv 1) (pa_cons (pv 2) (pa_cons (pv 3) pa_nil)))))) (pss_one (ps_if (pt_cmpR op_eq (pv 0) pe_int (nomark _)) (pss_one (ps_expr (pe_calW C_differing (hr.mono (by decide)) (L2.takes_of rfl rfl rfl rfl) (by rfl) (pa_cons (pv 1) (pa_cons (pv 2) (pa_cons (pv 3) pa_nil)))))) (pss_one (ps_if (pt_cmpR op_eq (pv 0) pe_int (nomark _)) (pss_one (ps_expr (pe_calW (weak_cx C_needrow) (hr.mono (by decide)) (L2.takes_of rfl rfl rfl rfl) (by rfl) (pa_cons (pv 1) (pa_cons (pv 3) pa_nil))))) (pss_one (ps_if (pt_cmpR op_eq (pv 0) pe_int (nomark _)) (pss_one (ps_expr (pe_mkW M_binit (hr.mono (by decide)) (L2.takes_of rfl rfl rfl rfl) (by rfl) (pa_cons (pv 3) pa_nil)))) (pss_one (ps_if (pt_cmpR op_eq (pv 0) pe_int (nomark _)) (pss_one (ps_expr (pe_calW C_sorting (hr.mono (by decide)) (L2.takes_of rfl rfl rfl rfl) (by rfl) (pa_cons (pv 3) pa_nil)))) (pss_one (ps_if (pt_cmpR op_eq (pv 0) pe_int (nomark _)) (pss_one (ps_expr (pe_calW C_merging (hr.mono (by decide)) (L2.takes_of rfl rfl rfl rfl) (by rfl) (pa_cons (pv 3) (pa_cons pe_int pa_nil))))) (pss_one (ps_if (pt_cmpR op_eq (pv 0) pe_int (nomark _)) (pss_one (ps_expr (pe_calW C_merging (hr.mono (by decide)) (L2.takes_of rfl rfl rfl rfl) (by rfl) (pa_cons pe_int (pa_cons (pv 3) pa_nil))))) (pss_one (ps_if (pt_cmpR op_eq (pv 0) pe_int (nomark _)) (pss_one (ps_expr (pe_calW C_beside (hr.mono (by decide)) (L2.takes_of rfl rfl rfl rfl) (by rfl) (pa_cons (pv 1) (pa_cons (pv 2) (pa_cons pe_int (pa_cons (pv 3) pa_nil))))))) (pss_one (ps_if (pt_cmpR op_eq (pv 0) pe_int (nomark _)) (pss_one (ps_expr (pe_calW C_beside (hr.mono (by decide)) (L2.takes_of rfl rfl rfl rfl) (by rfl) (pa_cons (pv 1) (pa_cons (pv 2) (pa_cons (pv 3) (pa_cons (pe_lst pa_nil) pa_nil))))))) (pss_one (ps_expr (pe_calW C_beside (hr.mono (by decide)) (L2.takes_of rfl rfl rfl rfl) (by rfl) (pa_cons (pv 1) (pa_cons (pv 2) (pa_cons pe_int (pa_cons (pv 3) pa_nil))))))))))))))))))))))))))))))))) rd
theorem ok_ltried (h : Here K mg "_law_tried" s_ltried) (C_loneasked : Cal P w K mg base (L2.CX P w) 7 "_law_one_asked" ["_law_way", "_law_lines", "_law_comparers"] (sp_loneasked K)) (C_lmoreasked : Cal P w K mg base (L2.CX P w) 13 "_law_more_asked" ["_law_way", "_law_lines", "_law_comparers", "_law_thing"] (sp_lmoreasked K)) (G_WebError : mg "WebError" = some (.ref (He.ga K "WebError")))
    (len : ∀ vs H Q E, sp_ltried K vs H Q E → vs.length = P_ltried.length)
    (rd : ∀ (vs : List V) (H : Hp) (Q : VK) (E : XK), sp_ltried K vs H Q E → r_ltried K { nx := fun _ H' => Q .non H', rt := Q } (start N_ltried vs) H) :
    Cal P w K mg base CX0 14 "_law_tried" P_ltried (sp_ltried K) := by
  exact h.cal sc_ltried len (fun _ _ _ _ _ _ us hl => match us, hl with | [_, _, _, _], _ => rfl)
    (fun f cdv A outer s H E hr => (show PSs _ _ _ from (pss_cons (ps_set (i := 4) sc_ltried.nd rfl (Or.inl rfl) pe_non) (pss_cons (ps_try_keep (i := 5) rfl rfl rfl sc_ltried.nd rfl rfl (nm_cls G_WebError (by rfl)) (fun W pn xe tk pa => (show PSs _ _ _ from (pss_one (ps_if (pt_cmpR op_lt (pv 0) pe_int (nomark _)) (pss_one (ps_expr (pe_calW C_loneasked (hr.mono (by decide)) tk (by rfl) (pa_cons (pv 0) (pa_cons (pv 1) (pa_cons (pv 2) pa_nil)))))) (pss_one (ps_expr (pe_calW C_lmoreasked (hr.mono (by decide)) tk (by rfl) (pa_cons (pv 0) (pa_cons (pv 1) (pa_cons (pv 2) (pa_cons (pv 3) pa_nil))))))))))) (fun a ob cls d pn zn hd => (show PSs _ _ _ from (pss_one (ps_set (i := 4) sc_ltried.nd rfl (Or.inl rfl) (pv 5)))))) (pss_one (ps_ret (pv 4))))))) rd
theorem ok_lbadlines (h : Here K mg "_law_bad_lines" s_lbadlines) 
    (len : ∀ vs H Q E, sp_lbadlines K vs H Q E → vs.length = P_lbadlines.length)
    (rd : ∀ (vs : List V) (H : Hp) (Q : VK) (E : XK), sp_lbadlines K vs H Q E → r_lbadlines K { nx := fun _ H' => Q .non H', rt := Q } (start N_lbadlines vs) H) :
    Cal P w K mg base CX0 1 "_law_bad_lines" P_lbadlines (sp_lbadlines K) := by
  exact h.cal sc_lbadlines len (fun _ _ _ _ _ _ us hl => match us, hl with | [_], _ => rfl)
    (fun f cdv A outer s H E hr => (show PSs _ _ _ from (pss_one (ps_ret (pe_ix ix_list (pe_lst (pa_cons pe_int (pa_cons pe_int (pa_cons (pe_op op_sub (pe_un un_neg pe_int) (pv 0)) (pa_cons (pe_op op_add pe_int (pv 0)) (pa_cons pe_non (pa_cons pe_bl (pa_cons pe_str (pa_cons (pe_lst (pa_cons pe_int pa_nil)) (pa_cons (pe_tup (pa_cons pe_int pa_nil)) (pa_cons pe_dnewK (pa_cons pe_bl (pa_cons (pe_lst pa_nil) pa_nil))))))))))))) (pe_op op_mod (pv 0) pe_int) (fun _ _ => rfl)))))) rd
theorem ok_lbadweb (h : Here K mg "_law_bad_web" s_lbadweb) (b_len : mg "len" = none) (b_tuple : mg "tuple" = none)
    (len : ∀ vs H Q E, sp_lbadweb K vs H Q E → vs.length = P_lbadweb.length)
    (rd : ∀ (vs : List V) (H : Hp) (Q : VK) (E : XK), sp_lbadweb K vs H Q E → r_lbadweb K { nx := fun _ H' => Q .non H', rt := Q } (start N_lbadweb vs) H) :
    Cal P w K mg base CX0 1 "_law_bad_web" P_lbadweb (sp_lbadweb K) := by
  exact h.cal sc_lbadweb len (fun _ _ _ _ _ _ us hl => match us, hl with | [_, _, _], _ => rfl)
    (fun f cdv A outer s H E hr => (show PSs _ _ _ from (pss_cons (ps_if (pt_cmpR op_eq (pe_op op_mod (pv 2) pe_int) pe_int (nomark _)) (pss_cons (ps_set (i := 3) sc_lbadweb.nd rfl (Or.inl rfl) (pe_lst (pa_cons pe_non (pa_cons (pe_tupleOf (by rfl) b_tuple (pv 1)) (pa_cons pe_int (pa_cons pe_str (pa_cons pe_dnewK (pa_cons pe_bl (pa_cons (pe_op op_rep (pe_lst (pa_cons (pe_tup (pa_cons pe_int (pa_cons pe_int pa_nil))) pa_nil)) pe_int) pa_nil))))))))) (pss_one (ps_ret (pe_tup (pa_cons (pe_ix ix_list (pv 3) (pe_op op_mod (pe_op op_fdiv (pv 2) pe_int) pe_int) (fun _ _ => rfl)) (pa_cons pe_non pa_nil)))))) pss_nil) (pss_cons (ps_set (i := 4) sc_lbadweb.nd rfl (Or.inl rfl) (pe_lst (pa_cons (pe_tup (pa_cons pe_int (pa_cons pe_int pa_nil))) (pa_cons (pe_tup (pa_cons pe_int (pa_cons (pv 0) pa_nil))) (pa_cons (pe_tup (pa_cons (pe_un un_neg pe_int) (pa_cons pe_int pa_nil))) (pa_cons (pe_tup (pa_cons (pv 0) (pa_cons pe_int pa_nil))) (pa_cons (pe_tup (pa_cons pe_int pa_nil)) (pa_cons (pe_tup (pa_cons pe_int (pa_cons pe_int (pa_cons pe_int pa_nil)))) (pa_cons (pe_lst (pa_cons pe_int (pa_cons pe_int pa_nil))) (pa_cons pe_non (pa_cons (pe_tup (pa_cons pe_bl (pa_cons pe_int pa_nil))) pa_nil))))))))))) (pss_cons (ps_set (i := 4) sc_lbadweb.nd rfl (Or.inl rfl) (pe_op op_cat (pv 4) (pe_lst (pa_cons (pe_tup (pa_cons pe_int (pa_cons pe_str pa_nil))) (pa_cons pe_int (pa_cons (pe_tup (pa_cons pe_non (pa_cons pe_int pa_nil))) (pa_cons (pe_tup (pa_cons pe_int (pa_cons pe_int pa_nil))) pa_nil))))))) (pss_cons (ps_set (i := 5) sc_lbadweb.nd rfl (Or.inl rfl) (pe_op op_mod (pe_op op_fdiv (pv 2) pe_int) (pe_op op_add (pe_callB cl_len (by rfl) b_len PySem.boot_len (pa_cons (pv 1) pa_nil)) pe_int))) (pss_cons (ps_set (i := 6) sc_lbadweb.nd rfl (Or.inl rfl) (pe_op op_cat (pe_op op_cat (pe_slice sl_list (pv 1) po_none (po_some (pv 5))) (pe_lst (pa_cons (pe_ix ix_list (pv 4) (pe_op op_mod (pe_op op_fdiv (pv 2) pe_int) pe_int) (fun _ _ => rfl)) pa_nil))) (pe_slice sl_list (pv 1) (po_some (pv 5)) po_none))) (pss_cons (ps_if (pt_cmpR op_eq (pe_op op_mod (pe_op op_fdiv (pv 2) pe_int) pe_int) pe_int (nomark _)) (pss_one (ps_expr (pe_bm PySem.F.plainAttrs_list PySem.F.slot_list_append PySem.F.type_list_append md_append (pv 6) (pa_cons (pe_ix ix_list (pv 4) (pe_op op_mod (pe_op op_fdiv (pv 2) pe_int) pe_int) (fun _ _ => rfl)) pa_nil)))) pss_nil) (pss_one (ps_ret (pe_ifExp (pt_cmpR op_lt (pv 5) pe_int (nomark _)) (pe_tup (pa_cons (pe_slice sl_list (pv 6) po_none (po_some pe_int)) (pa_cons (pv 5) pa_nil))) (pe_tup (pa_cons (pe_op op_cat (pv 1) (pe_lst (pa_cons pe_non pa_nil))) (pa_cons pe_non pa_nil)))))))))))))) rd
theorem ok_lbadthing (h : Here K mg "_law_bad_thing" s_lbadthing) (C_lbadlines : Cal P w K mg base CX0 1 "_law_bad_lines" ["_law_n"] (sp_lbadlines K)) (C_lbadweb : Cal P w K mg base CX0 1 "_law_bad_web" ["_law_lines", "_law_comparers", "_law_n"] (sp_lbadweb K)) (b_int : mg "int" = none) (b_len : mg "len" = none) (b_list : mg "list" = none) (b_range : mg "range" = none) (b_tuple : mg "tuple" = none)
    (len : ∀ vs H Q E, sp_lbadthing K vs H Q E → vs.length = P_lbadthing.length)
    (rd : ∀ (vs : List V) (H : Hp) (Q : VK) (E : XK), sp_lbadthing K vs H Q E → r_lbadthing K { nx := fun _ H' => Q .non H', rt := Q } (start N_lbadthing vs) H) :
    Cal P w K mg base CX0 2 "_law_bad_thing" P_lbadthing (sp_lbadthing K) := by
  exact h.cal sc_lbadthing len (fun _ _ _ _ _ _ us hl => match us, hl with | [_, _, _, _], _ => rfl)
    (fun f cdv A outer s H E hr => (show PSs _ _ _ from (pss_cons (ps_setLc (i := 4) (own := [("_law_k", 10)]) rfl sc_lbadthing.nd rfl rfl (sw_true rfl rfl rfl (by decide +kernel)) (pi_range1 (by rfl) b_range (pa_cons (pv 1) pa_nil)) (blkOk_by (N := N_lbadthing) (sc := defScope s_lbadthing) (by decide +kernel)) (fun _ _ _ _ _ => (pg_name (i := 10) sc_lbadthing.nd rfl (Or.inl rfl))) (fun _ _ _ _ _ => pts_nil) (fun _ _ _ _ _ => (pe_op op_sub (pe_op op_mul pe_int (pv 10)) (pv 3)))) (pss_cons (ps_if (pt_cmpR op_in_seq (pv 0) (pe_tup (pa_cons pe_int (pa_cons pe_int (pa_cons pe_int pa_nil)))) (by with_unfolding_all rfl)) (pss_cons (ps_set (i := 5) sc_lbadthing.nd rfl (Or.inl rfl) (pe_slice sl_list (pv 4) (po_some pe_int) po_none)) (pss_cons (ps_set (i := 6) sc_lbadthing.nd rfl (Or.inl rfl) (pe_lst (pa_cons (pe_op op_cat (pv 4) (pe_lst (pa_cons pe_int pa_nil))) (pa_cons (pv 5) (pa_cons (pe_tupleOf (by rfl) b_tuple (pv 4)) (pa_cons pe_non (pa_cons pe_int (pa_cons (pe_op op_cat (pv 5) (pe_lst (pa_cons pe_bl pa_nil))) (pa_cons (pe_op op_cat (pv 5) (pe_lst (pa_cons pe_non pa_nil))) (pa_cons (pe_op op_cat (pv 5) (pe_lst (pa_cons pe_str pa_nil))) pa_nil)))))))))) (pss_one (ps_ret (pe_tup (pa_cons (pe_ix ix_list (pe_op op_cat (pv 6) (pe_lst (pa_cons pe_dnewK (pa_cons (pe_lst pa_nil) pa_nil)))) (pe_op op_mod (pv 3) pe_int) (fun _ _ => rfl)) (pa_cons pe_str (pa_cons pe_non pa_nil)))))))) pss_nil) (pss_cons (ps_if (pt_cmpR op_eq (pv 0) pe_int (nomark _)) (pss_one (ps_ret (pe_tup (pa_cons (pe_ix ix_list (pe_lst (pa_cons (pe_callB cl_len (by rfl) b_len PySem.boot_len (pa_cons (pv 2) pa_nil)) (pa_cons (pe_un un_neg pe_int) (pa_cons pe_non (pa_cons pe_bl (pa_cons pe_str (pa_cons (pe_lst (pa_cons pe_int pa_nil)) (pa_cons (pe_op op_add (pe_callB cl_len (by rfl) b_len PySem.boot_len (pa_cons (pv 2) pa_nil)) (pv 3)) (pa_cons pe_bl pa_nil))))))))) (pe_op op_mod (pv 3) pe_int) (fun _ _ => rfl)) (pa_cons pe_str (pa_cons pe_non pa_nil)))))) pss_nil) (pss_cons (ps_if (pt_cmpR op_eq (pv 0) pe_int (nomark _)) (pss_cons (ps_set (i := 7) sc_lbadthing.nd rfl (Or.inl rfl) (pe_listRg rfl (by rfl) b_list (prg_1 (by rfl) b_range (pv 1)))) (pss_cons (ps_set (i := 5) sc_lbadthing.nd rfl (Or.inl rfl) (pe_slice sl_list (pv 7) (po_some pe_int) po_none)) (pss_cons (ps_set (i := 6) sc_lbadthing.nd rfl (Or.inl rfl) (pe_lst (pa_cons (pe_op op_cat (pv 7) (pe_lst (pa_cons pe_int pa_nil))) (pa_cons (pv 5) (pa_cons (pe_tupleOf (by rfl) b_tuple (pv 7)) (pa_cons pe_non (pa_cons pe_int (pa_cons (pe_op op_cat (pv 5) (pe_lst (pa_cons (pv 1) pa_nil))) (pa_cons (pe_op op_cat (pv 5) (pe_lst (pa_cons (pe_un un_neg pe_int) pa_nil))) pa_nil))))))))) (pss_cons (ps_set (i := 6) sc_lbadthing.nd rfl (Or.inl rfl) (pe_op op_cat (pv 6) (pe_lst (pa_cons (pe_op op_cat (pv 5) (pe_lst (pa_cons pe_bl pa_nil))) (pa_cons (pe_op op_cat (pv 5) (pe_lst (pa_cons pe_non pa_nil))) (pa_cons (pe_op op_rep (pe_op op_rep (pe_lst (pa_cons pe_int pa_nil)) (pv 1)) (pe_callTy cl_int1 (by rfl) b_int (by decide +kernel) (pa_cons (pe_cmpR op_gt (pv 1) pe_int (nomark _)) pa_nil))) (pa_cons (pe_lst pa_nil) (pa_cons pe_dnewK pa_nil)))))))) (pss_one (ps_ret (pe_tup (pa_cons (pe_ix ix_list (pv 6) (pe_op op_mod (pv 3) pe_int) (fun _ _ => rfl)) (pa_cons pe_str (pa_cons pe_non pa_nil)))))))))) pss_nil) (pss_cons (ps_if (pt_cmpR op_eq (pv 0) pe_int (nomark _)) (pss_cons (ps_asg (pe_cal C_lbadweb (hr.mono (by decide)) (by rfl) (pa_cons (pv 1) (pa_cons (pv 2) (pa_cons (pv 3) pa_nil)))) (pg_tup rfl (pgs_cons (pg_name (i := 8) sc_lbadthing.nd rfl (Or.inl rfl)) (pgs_cons (pg_name (i := 9) sc_lbadthing.nd rfl (Or.inl rfl)) pgs_nil)))) (pss_one (ps_ret (pe_tup (pa_cons (pv 8) (pa_cons pe_str (pa_cons (pv 9) pa_nil))))))) pss_nil) (pss_cons (ps_if (pt_cmpR op_in_seq (pv 0) (pe_tup (pa_cons pe_int (pa_cons pe_int pa_nil))) (by with_unfolding_all rfl)) (pss_cons (ps_asg (pe_cal C_lbadweb (hr.mono (by decide)) (by rfl) (pa_cons (pe_ix ix_list (pe_lst (pa_cons pe_int (pa_cons pe_int pa_nil))) (pe_callTy cl_int1 (by rfl) b_int (by decide +kernel) (pa_cons (pe_cmpR op_eq (pv 0) pe_int (nomark _)) pa_nil)) (fun _ _ => rfl)) (pa_cons (pe_lst (pa_cons (pe_tup (pa_cons pe_int (pa_cons pe_int pa_nil))) pa_nil)) (pa_cons (pv 3) pa_nil)))) (pg_tup rfl (pgs_cons (pg_name (i := 8) sc_lbadthing.nd rfl (Or.inl rfl)) (pgs_cons (pg_name (i := 9) sc_lbadthing.nd rfl (Or.inl rfl)) pgs_nil)))) (pss_one (ps_ret (pe_tup (pa_cons (pv 8) (pa_cons pe_str (pa_cons (pv 9) pa_nil))))))) pss_nil) (pss_cons (ps_if (pw_and (pt_cmpR op_eq (pv 0) pe_int (nomark _)) (pw_and1 (pt_cmpR op_eq (pe_op op_mod (pv 3) pe_int) pe_int (nomark _)))).pt (pss_one (ps_ret (pe_tup (pa_cons pe_int (pa_cons pe_str (pa_cons pe_non pa_nil)))))) pss_nil) (pss_one (ps_ret (pe_tup (pa_cons (pe_ifExp (pw_and (pt_cmpR op_in_seq (pv 0) (pe_tup (pa_cons pe_int (pa_cons pe_int pa_nil))) (by with_unfolding_all rfl)) (pw_and1 (pt_cmpR op_eq (pe_op op_mod (pv 3) pe_int) pe_int (nomark _)))).pt pe_int (pe_cal C_lbadlines (hr.mono (by decide)) (by rfl) (pa_cons (pv 3) pa_nil))) (pa_cons pe_str (pa_cons pe_non pa_nil))))))))))))))) rd
theorem ok_lgoodthing (h : Here K mg "_law_good_thing" s_lgoodthing) (b_int : mg "int" = none) (b_len : mg "len" = none) (b_list : mg "list" = none) (b_range : mg "range" = none)
    (len : ∀ vs H Q E, sp_lgoodthing K vs H Q E → vs.length = P_lgoodthing.length)
    (rd : ∀ (vs : List V) (H : Hp) (Q : VK) (E : XK), sp_lgoodthing K vs H Q E → r_lgoodthing K { nx := fun _ H' => Q .non H', rt := Q } (start N_lgoodthing vs) H) :
    Cal P w K mg base CX0 1 "_law_good_thing" P_lgoodthing (sp_lgoodthing K) := by
  exact h.cal sc_lgoodthing len (fun _ _ _ _ _ _ us hl => match us, hl with | [_, _, _], _ => rfl)
    (fun f cdv A outer s H E hr => (show PSs _ _ _ from (pss_cons (ps_if (pt_cmpR op_in_seq (pv 0) (pe_tup (pa_cons pe_int (pa_cons pe_int (pa_cons pe_int pa_nil)))) (by with_unfolding_all rfl)) (pss_one (ps_ret (pe_revL (pe_listRg rfl (by rfl) b_list (prg_1 (by rfl) b_range (pv 1)))))) pss_nil) (pss_cons (ps_if (pt_cmpR op_eq (pv 0) pe_int (nomark _)) (pss_one (ps_ret (pe_op op_sub (pe_callB cl_len (by rfl) b_len PySem.boot_len (pa_cons (pv 2) pa_nil)) pe_int))) pss_nil) (pss_cons (ps_if (pt_cmpR op_eq (pv 0) pe_int (nomark _)) (pss_one (ps_ret (pe_revL (pe_listRg rfl (by rfl) b_list (prg_1 (by rfl) b_range (pv 1)))))) pss_nil) (pss_cons (ps_if (pt_cmpR op_in_seq (pv 0) (pe_tup (pa_cons pe_int (pa_cons pe_int pa_nil))) (by with_unfolding_all rfl)) (pss_one (ps_ret (pe_lst (pa_cons (pe_tup (pa_cons pe_int (pa_cons pe_int pa_nil))) pa_nil)))) pss_nil) (pss_one (ps_ret (pe_ifExp (pt_cmpR op_eq (pv 0) pe_int (nomark _)) (pv 2) (pe_ix ix_list (pe_lst (pa_cons (pv 1) (pa_cons pe_int pa_nil))) (pe_callTy cl_int1 (by rfl) b_int (by decide +kernel) (pa_cons (pe_cmpR op_eq (pv 0) pe_int (nomark _)) pa_nil)) (fun _ _ => rfl))))))))))) rd
theorem ok_lwrong (h : Here K mg "_law_wrong" s_lwrong) (C_ldraw : Cal P w K mg base CX0 1 "_law_draw" ["_law_cell", "_law_k", "_law_j"] (sp_ldraw K)) (C_lword : Cal P w K mg base CX0 1 "_law_word" ["_law_e"] (sp_lword K)) (C_ltried : Cal P w K mg base CX0 14 "_law_tried" ["_law_way", "_law_lines", "_law_comparers", "_law_thing"] (sp_ltried K)) (C_lbadlines : Cal P w K mg base CX0 1 "_law_bad_lines" ["_law_n"] (sp_lbadlines K)) (C_lbadweb : Cal P w K mg base CX0 1 "_law_bad_web" ["_law_lines", "_law_comparers", "_law_n"] (sp_lbadweb K)) (C_lbadthing : Cal P w K mg base CX0 2 "_law_bad_thing" ["_law_way", "_law_lines", "_law_comparers", "_law_n"] (sp_lbadthing K)) (C_lgoodthing : Cal P w K mg base CX0 1 "_law_good_thing" ["_law_way", "_law_lines", "_law_comparers"] (sp_lgoodthing K)) (b_int : mg "int" = none) (b_isinstance : mg "isinstance" = none) (b_len : mg "len" = none) (b_list : mg "list" = none)
    (len : ∀ vs H Q E, sp_lwrong K vs H Q E → vs.length = P_lwrong.length)
    (rd : ∀ (vs : List V) (H : Hp) (Q : VK) (E : XK), sp_lwrong K vs H Q E → r_lwrong K { nx := fun _ H' => Q .non H', rt := Q } (start N_lwrong vs) H) :
    Cal P w K mg base CX0 15 "_law_wrong" P_lwrong (sp_lwrong K) := by
  exact h.cal sc_lwrong len (fun _ _ _ _ _ _ us hl => match us, hl with | [_, _, _, _], _ => rfl)
    (fun f cdv A outer s H E hr => (show PSs _ _ _ from (pss_cons (ps_set (i := 4) sc_lwrong.nd rfl (Or.inl rfl) (pe_cal C_ldraw (hr.mono (by decide)) (by rfl) (pa_cons (pv 2) (pa_cons (pv 3) (pa_cons pe_int pa_nil))))) (pss_cons (ps_set (i := 5) sc_lwrong.nd rfl (Or.inl rfl) (pe_op op_mod (pv 4) pe_int)) (pss_cons (ps_set (i := 6) sc_lwrong.nd rfl (Or.inl rfl) (pe_cal C_lgoodthing (hr.mono (by decide)) (by rfl) (pa_cons (pv 5) (pa_cons (pv 0) (pa_cons (pv 1) pa_nil))))) (pss_cons (ps_set (i := 7) sc_lwrong.nd rfl (Or.inl rfl) (pe_callTy cl_list (by rfl) b_list (by decide +kernel) (pa_cons (pv 1) pa_nil))) (pss_cons (ps_set (i := 8) sc_lwrong.nd rfl (Or.inl rfl) (pe_tup (pa_cons pe_str (pa_cons pe_non pa_nil)))) (pss_cons (ps_if (pt_cmpR op_eq (pv 5) pe_int (nomark _)) (pss_one (ps_set (i := 8) sc_lwrong.nd rfl (Or.inl rfl) (pe_tup (pa_cons pe_str (pa_cons pe_non pa_nil))))) (pss_one (ps_if (pw_and (pt_cmpR op_eq (pv 5) pe_int (nomark _)) (pw_and1 (pt_cmpR op_eq (pe_callB cl_len (by rfl) b_len PySem.boot_len (pa_cons (pv 1) pa_nil)) pe_int (nomark _)))).pt (pss_one (ps_set (i := 8) sc_lwrong.nd rfl (Or.inl rfl) (pe_tup (pa_cons pe_str (pa_cons pe_non pa_nil))))) pss_nil))) (pss_cons (ps_if (pw_and (pt_cmpR op_gt (pv 5) pe_int (nomark _)) (pw_and1 (pt_cmpR op_eq (pe_op op_mod (pe_op op_fdiv (pv 4) pe_int) pe_int) pe_int (nomark _)))).pt (pss_cons (ps_asg (pe_cal C_lbadthing (hr.mono (by decide)) (by rfl) (pa_cons (pv 5) (pa_cons (pv 0) (pa_cons (pv 1) (pa_cons (pe_op op_fdiv (pv 4) pe_int) pa_nil))))) (pg_tup rfl (pgs_cons (pg_name (i := 6) sc_lwrong.nd rfl (Or.inl rfl)) (pgs_cons (pg_name (i := 9) sc_lwrong.nd rfl (Or.inl rfl)) (pgs_cons (pg_name (i := 10) sc_lwrong.nd rfl (Or.inl rfl)) pgs_nil))))) (pss_one (ps_set (i := 8) sc_lwrong.nd rfl (Or.inl rfl) (pe_tup (pa_cons (pv 9) (pa_cons (pv 10) pa_nil)))))) pss_nil) (pss_cons (ps_if (pw_and (pw_or (pt_cmpR op_lt (pv 5) pe_int (nomark _)) (pw_or1 (pt_cmpR op_gt (pv 5) pe_int (nomark _)))).pt (pw_and1 (pt_cmpR op_eq (pe_op op_mod (pe_op op_fdiv (pv 4) pe_int) pe_int) pe_int (nomark _)))).pt (pss_cons (ps_asg (pe_cal C_lbadweb (hr.mono (by decide)) (by rfl) (pa_cons (pv 0) (pa_cons (pv 1) (pa_cons (pe_op op_fdiv (pv 4) pe_int) pa_nil)))) (pg_tup rfl (pgs_cons (pg_name (i := 7) sc_lwrong.nd rfl (Or.inl rfl)) (pgs_cons (pg_name (i := 10) sc_lwrong.nd rfl (Or.inl rfl)) pgs_nil)))) (pss_one (ps_set (i := 8) sc_lwrong.nd rfl (Or.inl rfl) (pe_tup (pa_cons pe_str (pa_cons (pv 10) pa_nil)))))) pss_nil) (pss_cons (ps_if (pw_and (pw_or (pt_cmpR op_lt (pv 5) pe_int (nomark _)) (pw_or1 (pt_cmpR op_gt (pv 5) pe_int (nomark _)))).pt (pw_and1 (pt_cmpR op_eq (pe_op op_mod (pe_op op_fdiv (pv 4) pe_int) pe_int) pe_int (nomark _)))).pt (pss_cons (ps_set (i := 0) sc_lwrong.nd rfl (Or.inl rfl) (pe_cal C_lbadlines (hr.mono (by decide)) (by rfl) (pa_cons (pe_op op_fdiv (pv 4) pe_int) pa_nil))) (pss_one (ps_set (i := 8) sc_lwrong.nd rfl (Or.inl rfl) (pe_tup (pa_cons pe_str (pa_cons pe_non pa_nil)))))) pss_nil) (pss_cons (ps_if (pw_and (pt_cmpR op_eq (pv 5) pe_int (nomark _)) (pw_and (pt_cmpR op_eq (pe_ix ix_tup (pv 8) pe_int (fun _ _ => rfl)) pe_str (nomark _)) (pw_and1 (pt_cmpR (op_eqD (hu64 hr)) (pv 1) (pe_lst pa_nil) (nomark _))))).pt (pss_one (ps_ret pe_bl)) pss_nil) (pss_cons (ps_set (i := 11) sc_lwrong.nd rfl (Or.inl rfl) (pe_ifExp (pt_val (pe_callB cl_isk (by rfl) b_isinstance (by decide +kernel) (pa_cons (pv 7) (pa_cons (pe_bltn (v := .ty "list") (by rfl) b_list (by decide +kernel) rfl) pa_nil)))) (pe_callTy cl_list (by rfl) b_list (by decide +kernel) (pa_cons (pv 7) pa_nil)) (pv 7))) (pss_cons (ps_set (i := 12) sc_lwrong.nd rfl (Or.inl rfl) (pe_cal C_ltried (hr.mono (by decide)) (by rfl) (pa_cons (pv 5) (pa_cons (pv 0) (pa_cons (pv 7) (pa_cons (pv 6) pa_nil)))))) (pss_cons (ps_if (pw_or (pt_cmpR op_ne (pe_cal C_lword (hr.mono (by decide)) (by rfl) (pa_cons (pv 12) pa_nil)) (pe_ix ix_tup (pv 8) pe_int (fun _ _ => rfl)) (nomark _)) (pw_or1 (pt_cmpR (op_neX (hu64 hr)) (pv 7) (pv 11) (nomark _)))).pt (pss_one (ps_ret pe_bl)) pss_nil) (pss_cons (ps_if (pt_cmpR op_ne (pe_ix ix_tup (pv 8) pe_int (fun _ _ => rfl)) pe_str (nomark _)) (pss_one (ps_ret pe_bl)) pss_nil) (pss_one (ps_ret (pe_ifExp (pt_cmpR op_isN1 (pe_ix ix_tup (pv 8) pe_int (fun _ _ => rfl)) pe_non (nomark _)) (pe_cmpR op_isN1 (pe_xk (pv 12)) pe_non (nomark _)) (pe_and (pe_callB cl_isk (by rfl) b_isinstance (by decide +kernel) (pa_cons (pe_xk (pv 12)) (pa_cons (pe_bltn (v := .ty "int") (by rfl) b_int (by decide +kernel) rfl) pa_nil))) (pe_one (pe_cmpR op_eq (pe_xk (pv 12)) (pe_ix ix_tup (pv 8) pe_int (fun _ _ => rfl)) (nomark _))))))))))))))))))))))) rd
theorem ok_law (h : Here K mg "law" s_law) (C_lweb : Cal P w K mg base CX0 2 "_law_web" ["_law_script"] (sp_lweb K)) (C_lwrong : Cal P w K mg base CX0 15 "_law_wrong" ["_law_lines", "_law_comparers", "_law_cell", "_law_k"] (sp_lwrong K)) (b_enumerate : mg "enumerate" = none)
    (len : ∀ vs H Q E, sp_law K vs H Q E → vs.length = P_law.length)
    (rd : ∀ (vs : List V) (H : Hp) (Q : VK) (E : XK), sp_law K vs H Q E → r_law K { nx := fun _ H' => Q .non H', rt := Q } (start N_law vs) H) :
    Cal P w K mg base CX0 16 "law" P_law (sp_law K) := by
  exact h.cal sc_law len (fun _ _ _ _ _ _ us hl => match us, hl with | [_], _ => rfl)
    (fun f cdv A outer s H E hr => (show PSs _ _ _ from (pss_cons (ps_asg (pe_cal C_lweb (hr.mono (by decide)) (by rfl) (pa_cons (pv 0) pa_nil)) (pg_tup rfl (pgs_cons (pg_name (i := 1) sc_law.nd rfl (Or.inl rfl)) (pgs_cons (pg_name (i := 2) sc_law.nd rfl (Or.inl rfl)) pgs_nil)))) (pss_cons (ps_for PassesOwn.never rfl (pi_enum (by rfl) b_enumerate (pa_cons (pe_op op_cat (pe_slice sl_list (pv 0) po_none (po_some pe_int)) (pe_lst (pa_cons pe_int pa_nil))) pa_nil)) (pg_tup rfl (pgs_cons (pg_name (i := 3) sc_law.nd rfl (Or.inl rfl)) (pgs_cons (pg_name (i := 4) sc_law.nd rfl (Or.inl rfl)) pgs_nil))) (pss_one (ps_if (pt_not (pt_val (pe_cal C_lwrong (hr.mono (by decide)) (by rfl) (pa_cons (pv 1) (pa_cons (pv 2) (pa_cons (pv 4) (pa_cons (pv 3) pa_nil))))))) (pss_one (ps_ret pe_bl)) pss_nil))) (pss_one (ps_ret pe_bl)))))) rd
theorem ok_initBadWeb (h : Met K "BadWeb" "__init__" "BadWeb.__init__" s_initBadWeb) (W_WebError : InK K mg "WebError") (O_BadWeb : OwK K mg "BadWeb" "place") : InitOk P w K mg base 1 "BadWeb" "place" := by
  obtain ⟨fd, D⟩ := h
  refine ⟨fd, D.ok sc_initBadWeb (fun vs H Q E h => by obtain ⟨_, _, rfl, _⟩ := h; rfl) fun cdv A outer s H vs Q E hr h => ⟨rInit K "no web, place " "place", ?_, rd_init O_BadWeb (by decide) vs H Q E h⟩, D.bindsN fun _ _ _ _ _ _ us hl => match us, hl with | [_, _], _ => rfl⟩
  exact (show PSs _ _ _ from (pss_cons (ps_expr (pe_winit W_WebError (by rfl) (pa_cons (pv 0) (pa_cons (pe_joined (.cons pe_str (.cons (pe_fmtN (pv 1)) .nil))) pa_nil)))) (pss_one (ps_ost (pv 0) (pv 1)))))
end
end Sw

set_option Elab.async false
set_option linter.all false
set_option maxRecDepth 100000
set_option maxHeartbeats 4000000
namespace Sw
open PySem PySem.Spec PyProof.Rows L2
local macro_rules | `(tactic| walk_at "ev") => `(tactic| simp only [tSeq, tAsg, tRet, tRetN, tOp, tUn, tVar, tC, tNil, tCons, tCB, tDrop, tNext, tCont, tBreak, tIfS, tIf, tTest, tChain, tB, tTup, tLst, tAnd, tOr, tNot, tAndV, tOrV, tNotV, tPart, tNoPart, tSl, tCal, tAug, ipI, rI0, rI, rU, rEq, rNe, kMin, kMax, gName, gCons, gNil, L2.start, wipe, List.map_cons, List.map_nil, List.length_cons, List.length_nil, List.cons_append, List.nil_append, List.append_nil, Nat.reduceAdd, Nat.reduceSub, List.replicate_succ, List.replicate_zero, List.getElem?_cons_zero, List.getElem?_cons_succ, List.set_cons_succ, List.set_cons_zero, Option.some.injEq, exists_eq_left', exists_eq_left, V.int.injEq, V.bl.injEq, V.str.injEq, V.ref.injEq, List.cons.injEq, exists_and_left, and_assoc, and_true, true_and, scal_ii, scal_ss, scal_nn, scal_bb, scal_ni, scal_in, decide_eq_true_eq, Bool.not_true, Bool.not_false, Bool.not_eq_true', decide_eq_false_iff_not, ite_not, reduceCtorEq, if_true, if_false, Bool.false_eq_true, ne_eq, not_true_eq_false, not_false_eq_true, Int.reduceLT, Int.reduceLE, Int.reduceNeg])
local macro_rules | `(tactic| walk_at "cm") => `(tactic| first | exact Or.inr ⟨by decide, by decide⟩ | exact Or.inl ⟨by decide, by decide⟩ | exact Or.inl ⟨by omega, by omega⟩ | exact Or.inr ⟨by omega, by omega⟩)
variable {K : PySem.W.Frag}

theorem rd_ldraw (vs : List V) (H : Hp) (Q : VK) (E : XK) (h : sp_ldraw K vs H Q E) : r_ldraw K { nx := fun _ H' => Q .non H', rt := Q } (L2.start N_ldraw vs) H := by
  obtain ⟨c, k, j, rfl, hk, hj, q⟩ := h
  unfold r_ldraw N_ldraw
  walk_at "ev"
  refine ⟨by walk_at "cm", by walk_at "cm", by walk_at "cm", by walk_at "cm", by walk_at "cm", by walk_at "cm", ⟨by decide, by decide⟩, ?_⟩
  refine q _ ?_ ?_ <;> omega
/-- a drawn pair of lines -/
theorem drawn_pair {m : Int} {n : Nat} (h2 : 2 ≤ n) : ∃ a b : Nat, m % (n : Int) = (a : Int) ∧ (m % (n : Int) + 1 + m / 10 % ((n : Int) - 1)) % (n : Int) = (b : Int) ∧ a < n ∧ b < n ∧ a ≠ b := by
  have p : (0 : Int) < n := by omega
  have p1 : (0 : Int) < (n : Int) - 1 := by omega
  have a0 := Int.emod_nonneg m (Int.ne_of_gt p)
  have a1 := Int.emod_lt_of_pos m p
  have r0 := Int.emod_nonneg (m / 10) (Int.ne_of_gt p1)
  have r1 := Int.emod_lt_of_pos (m / 10) p1
  generalize m % (n : Int) = a at a0 a1 ⊢
  generalize m / 10 % ((n : Int) - 1) = r at r0 r1 ⊢
  have b : (a + 1 + r) % (n : Int) = if a + 1 + r < n then a + 1 + r else a + 1 + r - n := by
    by_cases h : a + 1 + r < n
    · rw [if_pos h, Int.emod_eq_of_lt (by omega) h]
    · rw [if_neg h, ← Int.sub_emod_right, Int.emod_eq_of_lt (by omega) (by omega)]
  rw [b]
  refine ⟨a.toNat, (if a + 1 + r < n then a + 1 + r else a + 1 + r - n).toNat, by omega, by split <;> omega, by omega, by split <;> omega, by split <;> omega⟩
theorem rd_lcomparer (vs : List V) (H : Hp) (Q : VK) (E : XK) (h : sp_lcomparer K vs H Q E) : r_lcomparer K { nx := fun _ H' => Q .non H', rt := Q } (L2.start N_lcomparer vs) H := by
  obtain ⟨m, n, rfl, hm, h2, h10, q⟩ := h
  unfold r_lcomparer N_lcomparer
  obtain ⟨a, b, ea, eb, la, lb, ne⟩ := drawn_pair (m := m) h2
  walk_at "ev"
  refine ⟨by omega, ⟨by decide, by decide⟩, by omega, by omega, ⟨by decide, by decide⟩, ?_⟩
  rw [eb, ea]
  split
  · refine ⟨small_line (by decide), fun p hp => ?_⟩
    rcases Nat.lt_or_gt_of_ne ne with h | h
    · refine q _ p (a, b) (same_new hp) hp ?_ ⟨la, lb, ne⟩
      rw [upd_same, if_neg (by omega), if_pos (by omega)] <;> rfl
    · refine q _ p (b, a) (same_new hp) hp ?_ ⟨lb, la, ne.symm⟩
      rw [upd_same, if_pos (by omega), if_neg (by omega)] <;> rfl
  · exact ⟨small_line (by decide), fun p hp => q _ p (a, b) (same_new hp) hp upd_same ⟨la, lb, ne⟩⟩
theorem brick_count {n t : Nat} (hn : n ≤ 7) : upN (t : Int) ((n : Int) - 1) 2 ≤ 4 := by
  unfold upN
  split <;> omega
/-- the list so far: pairs, comparers of n lines, as many as cs -/
def Gcs (K : PySem.W.Frag) (n : Nat) (H0 : Hp) (k : Nat) (acc : List V) (H' : Hp) : Prop := ∃ ps cs, acc = Rfs ps ∧ Same H0 H' ∧ Prs K H' ps cs ∧ CmpsOk n cs ∧ cs.length = k
theorem Gcs.nil {n : Nat} {H0 : Hp} {D : Addr} (h : H0 D = none) : Gcs K n H0 0 [] (upd H0 D (.lst [])) := ⟨[], [], rfl, same_new h, .nil, (fun _ h => by cases h), rfl⟩
theorem Gcs.snoc {n k : Nat} {H0 H' H2 : Hp} {D p : Addr} {acc : List V} {c : Cmp} (g : Gcs K n H0 k acc H') (nD : H0 D = none) (s : Same H' H2) (hD : H2 D = some (.lst acc)) (hp : SqT K H2 p (V2 c)) (ok : CmpOk n c) :
    Gcs K n H0 (k + 1) (acc ++ [.ref p]) (upd H2 D (.lst (acc ++ [.ref p]))) := by
  obtain ⟨ps, cs, rfl, s0, h, oks, z⟩ := g
  refine ⟨ps ++ [p], cs ++ [c], ?_, same_mut (s0.trans s) nD, prs_upd hD ((Same.prs s h).snoc hp), ?_, ?_⟩
  · unfold Rfs
    rw [List.map_append] <;> rfl
  · intro d hd
    rcases List.mem_append.mp hd with h | h
    · exact oks d h
    · rw [List.mem_singleton] at h
      rw [h]
      exact ok
  · rw [List.length_append, z] <;> rfl
theorem Gcs.len {n k : Nat} {H0 H' : Hp} {acc : List V} (g : Gcs K n H0 k acc H') : acc.length = k := by
  obtain ⟨ps, cs, rfl, _, h, _, z⟩ := g
  show (ps.map V.ref).length = k
  rw [List.length_map, h.length, z]
def Wbricks (K : PySem.W.Frag) (n : Nat) (H : Hp) (i : Nat) (σ : L2.St) (H' : Hp) : Prop := ∃ y l ps cs, σ = [some (.int (n : Int)), some (.ref l), y, none] ∧ Same H H' ∧ H l = none ∧ H' l = some (.lst (Rfs ps)) ∧ Prs K H' ps cs ∧ CmpsOk n cs ∧ cs.length ≤ 4 * i
theorem rd_lbricks (vs : List V) (H : Hp) (Q : VK) (E : XK) (h : sp_lbricks K vs H Q E) : r_lbricks K { nx := fun _ H' => Q .non H', rt := Q } (L2.start N_lbricks vs) H := by
  obtain ⟨n, rfl, h7, q⟩ := h
  unfold r_lbricks N_lbricks
  walk_at "ev"
  refine ⟨Nat.zero_le _, fun l0 n0 => ?_⟩
  refine for_rng (n := n) (fun Q q => ?_) (by omega) (Wbricks K n H)
    ⟨none, l0, [], [], rfl, same_new n0, n0, upd_same, .nil, (fun _ h => by cases h), Nat.zero_le _⟩ (fun i σ H' hi hW => ?_) (fun σ H' hW => ?_)
  · walk_at "ev"
    exact q
  · obtain ⟨y, l, ps, cs, rfl, sm, nl, hl, hp, hc, hz⟩ := hW
    unfold r_lbricks_f1
    walk_at "ev"
    have e2 : (i : Int) % 2 = ((i % 2 : Nat) : Int) := by omega
    have hz' := brick_count (n := n) (t := i % 2) h7
    refine lc_rng3 (lo := ((i % 2 : Nat) : Int)) (hi := (n : Int) - 1) (c := 2) (n := upN ((i % 2 : Nat) : Int) ((n : Int) - 1) 2) (fun Q q => ?_) (upN_rgc (by omega) (by omega) (by omega)) (fun v => rfl)
      (fun D => Gcs K n H') (fun D nD => .nil nD) ?_ ?_
    · walk_at "ev"
      rw [e2]
      exact q
    · intro D k acc H3 nD hk hD g
      refine .yes ?_
      walk_at "ev"
      refine ⟨small_line (by decide), fun p np => ?_⟩
      have lt := upN_lt (by decide) hk
      have hDp : D ≠ p := ne_of_none hD np
      refine GoOn.mk (acc := acc) (by rw [upd_ne hDp]; exact hD) (by have := g.len; omega) ?_
      refine g.snoc (c := ((i % 2 + k * 2), (i % 2 + k * 2 + 1))) nD (same_new np) (by rw [upd_ne hDp]; exact hD) (.inl (.inl ?_)) ⟨by show i % 2 + k * 2 < n; omega, by show i % 2 + k * 2 + 1 < n; omega, by show i % 2 + k * 2 ≠ i % 2 + k * 2 + 1; omega⟩
      rw [upd_same] <;> rfl
    · intro D acc H3 nD hD g
      obtain ⟨ps', cs', rfl, s3, p3, c3, z3⟩ := g
      have hl3 := s3 _ _ hl
      have := p3.length
      have := hp.length
      refine ⟨l, D, Rfs ps, Rfs ps', rfl, rfl, hl3, hD, ?_, fun p np => ?_⟩
      · unfold Rfs
        rw [List.length_map, List.length_map]
        exact small_line (by omega)
      · have s4 := (same_new (o := .lst (Rfs ps ++ Rfs ps')) np)
        refine ⟨some (.int (i : Int)), p, ps ++ ps', cs ++ cs', rfl, (sm.trans s3).trans s4, (sm.trans s3).free np, ?_, (Same.prs s4 (Same.prs s3 hp)).append (Same.prs s4 p3), ?_, ?_⟩
        · rw [upd_same]
          unfold Rfs
          rw [List.map_append]
        · intro c hc'
          rcases List.mem_append.mp hc' with h | h
          · exact hc c h
          · exact c3 c h
        · rw [List.length_append]
          omega
  · obtain ⟨y, l, ps, cs, rfl, sm, nl, hl, hp, hc, hz⟩ := hW
    walk_at "ev"
    exact q H' l ps cs sm nl hl hp hc (by omega)

theorem lines_pick {n : Int} (h : 0 ≤ n) : ∃ L : Nat, 1 ≤ L ∧ L ≤ 7 ∧ atI [V.int (2 + n / 8 % 5), V.int (3 + n / 8 % 3), V.int (1 + n / 8 % 7), V.int 4] (n % 4) = some (.int (L : Int)) := by
  have c : n % 4 = ((0 : Nat) : Int) ∨ n % 4 = ((1 : Nat) : Int) ∨ n % 4 = ((2 : Nat) : Int) ∨ n % 4 = ((3 : Nat) : Int) := by omega
  rcases c with c | c | c | c <;> rw [c]
  · refine ⟨(2 + n / 8 % 5).toNat, by omega, by omega, ?_⟩
    rw [Int.toNat_of_nonneg (by omega)] <;> rfl
  · refine ⟨(3 + n / 8 % 3).toNat, by omega, by omega, ?_⟩
    rw [Int.toNat_of_nonneg (by omega)] <;> rfl
  · refine ⟨(1 + n / 8 % 7).toNat, by omega, by omega, ?_⟩
    rw [Int.toNat_of_nonneg (by omega)] <;> rfl
  · exact ⟨4, by decide, by decide, rfl⟩
def Wweb (K : PySem.W.Frag) (a c : Addr) (n : Int) (L : Nat) (H : Hp) (xs : List V) (i : Nat) (σ : L2.St) (H' : Hp) : Prop :=
  ∃ y4 y5 y7 y8 l ps cs, σ = [some (.ref a), some (.ref c), some (.int n), some (.int (L : Int)), y4, y5, some (.ref l), y7, y8] ∧ Same H H' ∧ H l = none ∧ H' l = some (.lst (Rfs ps)) ∧ Prs K H' ps cs ∧ WebOk L cs ∧ H' c = some (.lst xs) ∧ c ≠ l
theorem rd_lweb (vs : List V) (H : Hp) (Q : VK) (E : XK) (h : sp_lweb K vs H Q E) : r_lweb K { nx := fun _ H' => Q .non H', rt := Q } (L2.start N_lweb vs) H := by
  obtain ⟨a, ns, rfl, ha, hn, q⟩ := h
  unfold r_lweb N_lweb
  walk_at "ev"
  refine ⟨a, _, rfl, ha, fun c nc => ?_⟩
  have e40 : cutV (ns.map V.int) none (some 40) = (ns.take 40).map V.int := cut_ints_to ns 40
  rw [e40]
  have s1 : Same H (upd H c (.lst ((ns.take 40).map V.int))) := same_new nc
  walk_at "ev"
  refine ⟨c, _, rfl, .inl (.inl upd_same), fun d nd => ?_⟩
  have e3 : cutV ((ns.take 40).map V.int) none (some 3) = ((ns.take 40).take 3).map V.int := cut_ints_to _ 3
  rw [e3]
  have ncd : c ≠ d := ne_of_none upd_same nd
  have s2 := s1.trans (same_new (o := .lst (((ns.take 40).take 3).map V.int)) nd)
  generalize hH2 : upd (upd H c (.lst ((ns.take 40).map V.int))) d (.lst (((ns.take 40).take 3).map V.int)) = H2 at s2
  have hc2 : H2 c = some (.lst ((ns.take 40).map V.int)) := by rw [← hH2, upd_ne ncd, upd_same]
  have hd2 : H2 d = some (.lst (((ns.take 40).take 3).map V.int)) := by rw [← hH2, upd_same]
  clear hH2
  have hcl : ((ns.take 40).map V.int).length ≤ 40 := by rw [List.length_map, List.length_take]; omega
  refine ⟨d, (ns.take 40).take 3, rfl, .inl (.inl hd2), ?_⟩
  refine ⟨c, _, rfl, .inl (.inl (.inl hc2)), ?_⟩
  refine ⟨_, _, _, rfl, by omega, by decide, fun n n0 n1 => ?_⟩
  walk_at "ev"
  obtain ⟨L, L1, L7, eL⟩ := lines_pick n0
  refine ⟨⟨by decide, by decide⟩, ⟨by decide, by decide⟩, ⟨by decide, by decide⟩, small_line (by decide), fun e ne => ?_⟩
  refine ⟨e, _, _, _, rfl, rfl, .inl (.inl upd_same), eL, ?_⟩
  have s3 := s2.trans (same_new (o := .lst [V.int (2 + n / 8 % 5), V.int (3 + n / 8 % 3), V.int (1 + n / 8 % 7), V.int 4]) ne)
  have hce : c ≠ e := ne_of_none hc2 ne
  generalize hH3 : upd H2 e (.lst [V.int (2 + n / 8 % 5), V.int (3 + n / 8 % 3), V.int (1 + n / 8 % 7), V.int 4]) = H3 at s3
  have hc3 : H3 c = some (.lst ((ns.take 40).map V.int)) := by rw [← hH3, upd_ne hce, hc2]
  clear hH3
  walk_at "ev"
  split
  · -- one line
    rename_i e1
    refine ⟨Nat.zero_le _, fun l nl => ⟨small_line (by decide), fun p np => ?_⟩⟩
    have hlp : l ≠ p := ne_of_none upd_same np
    have s4 := s3.trans (same_new (o := .lst []) nl)
    refine q _ p l [] 1 [] (s4.trans (same_new np)) (s4.free np) (s3.free nl) (by rw [upd_same] <;> rfl) (by rw [upd_ne hlp, upd_same] <;> rfl) .nil ⟨Nat.zero_le _, fun _ h => by cases h⟩ (by decide) (by decide)
  · rename_i e1
    have L2' : 2 ≤ L := by omega
    refine ⟨⟨by decide, by decide⟩, ?_⟩
    split
    · -- each cell a comparer
      refine lc_enum2 (a := c) (xs := (ns.take 40).map V.int) rfl (.inl (.inl hc3)) (fun v w => rfl) (fun D i acc H' => Gcs K L H3 i acc H') (fun D nD => .nil nD) (fun D i acc H' nD g => ?_) ?_ ?_
      · obtain ⟨_, _, _, s, _⟩ := g
        exact .inl (.inl (s _ _ hc3))
      · intro D i x acc H4 H5 nD hx hi hD g s5
        obtain ⟨z, hz⟩ : ∃ z : Int, x = .int z := by
          rw [List.getElem?_map] at hx
          cases e : (ns.take 40)[i]? with
          | none => rw [e] at hx; cases hx
          | some z => rw [e] at hx; exact ⟨z, (Option.some.inj hx).symm⟩
        subst hz
        refine .yes ?_
        walk_at "ev"
        refine ⟨z, (i : Int), 2, rfl, by omega, by decide, fun m m0 m1 => ?_⟩
        refine ⟨m, L, rfl, m0, L2', by omega, fun H6 p cc s6 np hp ok => ?_⟩
        have hD5 := s5 _ _ hD
        have hD6 := s6 _ _ hD5
        exact GoOn.mk hD6 (by have := g.len; omega) (g.snoc nD (s5.trans s6) hD6 (.inl (.inl hp)) ok)
      · intro D acc H4 nD hD g
        obtain ⟨ps, cs, rfl, s4, hp, ok, z⟩ := g
        refine ⟨small_line (by decide), fun p np => ?_⟩
        have hDp : D ≠ p := ne_of_none hD np
        have s5 := same_new (o := .tup [.int (L : Int), .ref D]) np
        exact q _ p D ps L cs ((s3.trans s4).trans s5) ((s3.trans s4).free np) (s3.free nD) upd_same (s5 _ _ hD) (Same.prs s5 hp) ⟨by omega, ok⟩ L1 L7
    · -- bricks, changed
      refine ⟨L, rfl, L7, fun H4 l ps cs s4 nl hl hp ok hz => ?_⟩
      walk_at "ev"
      have cl0 : c ≠ l := ne_of_none hc3 nl
      refine for_enum2 (a := c) (xs := (ns.take 40).map V.int) rfl (.inl (.inl (s4 _ _ hc3))) (Wweb K a c n L H ((ns.take 40).map V.int))
        ⟨none, none, none, none, l, ps, cs, rfl, s3.trans s4, s3.free nl, hl, hp, ⟨by omega, ok⟩, s4 _ _ hc3, cl0⟩ (fun i σ H' hi hW => ?_) (fun i x σ H5 H6 hx hi hW s6 => ?_) (fun σ H' hW => ?_)
      · obtain ⟨_, _, _, _, _, _, _, _, _, _, _, _, _, hc, _⟩ := hW
        exact .inl (.inl hc)
      · obtain ⟨y4, y5, y7, y8, l, ps, cs, rfl, s, nl, hl, hp, ok, hc, ncl⟩ := hW
        obtain ⟨z, rfl, hz⟩ := ints_get hx
        have hl6 := s6 _ _ hl
        have hp6 := Same.prs s6 hp
        have nc6 := s6 _ _ hc
        have hlen := hp.length
        have lenok := ok.1
        unfold r_lweb_f1
        walk_at "ev"
        refine ⟨z, (i : Int), 3, rfl, by omega, by decide, fun m m0 m1 => ?_⟩
        walk_at "ev"
        refine ⟨⟨by decide, by decide⟩, l, _, rfl, .inl (.inl (.inl hl6)), ?_⟩
        walk_at "ev"
        rw [rfs_len]
        refine ⟨by omega, ?_⟩
        have p1 : (0 : Int) < (ps.length : Int) + 1 := by omega
        obtain ⟨at', ea, la⟩ : ∃ at' : Nat, m / 12 % ((ps.length : Int) + 1) = (at' : Int) ∧ at' ≤ ps.length := by
          have a0 := Int.emod_nonneg (m / 12) (Int.ne_of_gt p1)
          have a1 := Int.emod_lt_of_pos (m / 12) p1
          exact ⟨(m / 12 % ((ps.length : Int) + 1)).toNat, by omega, by omega⟩
        rw [ea]
        have fin : ∀ (H' : Hp) (ps' : List Addr) (cs' : List Cmp), (∀ b o, H6 b = some o → b ≠ l → H' b = some o) → H' l = some (.lst (Rfs ps')) → Prs K H' ps' cs' → WebOk L cs' →
            Wweb K a c n L H ((ns.take 40).map V.int) (i + 1) [some (.ref a), some (.ref c), some (.int n), some (.int (L : Int)), some (.int (i : Int)), some (.int z), some (.ref l), some (.int m), some (.int (at' : Int))] H' := fun H' ps' cs' st hl' hp' ok' =>
          ⟨_, _, _, _, l, ps', cs', rfl, fun b o e => st b o (s6 _ _ (s _ _ e)) (ne_of_none e nl), nl, hl', hp', ok', st _ _ nc6 ncl, ncl⟩
        have okc : ∀ {j : Nat} {cc : Cmp}, cs[j]? = some cc → CmpOk L cc := fun {j cc} e => ok.2 _ (List.mem_of_getElem? e)
        have third : ∀ D : Ends, D.nx = Wweb K a c n L H ((ns.take 40).map V.int) (i + 1) → r_lweb_e1 K D
            [some (.ref a), some (.ref c), some (.int n), some (.int (L : Int)), some (.int (i : Int)), some (.int z), some (.ref l), some (.int m), some (.int (at' : Int))] H6 := fun D eD => by
          unfold r_lweb_e1
          walk_at "ev"
          rw [eD]
          split
          · refine ⟨l, _, rfl, .inl (.inl (.inl hl6)), ?_⟩
            walk_at "ev"
            rw [rfs_len]
            split
            · rename_i q2
              obtain ⟨p, hpa⟩ := get_of (xs := ps) (i := at') (by omega)
              obtain ⟨cc, hcc, hpt⟩ := hp6.getL hpa
              refine ⟨.ref l, rfl, .int (at' : Int), rfl, l, _, _, _, rfl, rfl, .inl (.inl hl6), atI_nat (rfs_at hpa), p, _, _, rfl, hpt, fun r nr => ?_⟩
              have nlr : l ≠ r := ne_of_none hl6 nr
              have s7 := same_new (o := .tup [V.int (cc.2 : Int), V.int (cc.1 : Int)]) nr
              refine ⟨.ref l, rfl, .int (at' : Int), rfl, l, _, _, at', rfl, rfl, s7 _ _ hl6, Evl.ixN_nat (by rw [rfs_len]; omega), ?_⟩
              refine fin _ (ps.set at' r) (cs.set at' (cc.2, cc.1)) (fun b o e nb => by rw [upd_ne nb]; exact s7 _ _ e) ?_ ?_ ?_
              · rw [upd_same]
                unfold Rfs
                rw [List.map_set]
              · exact prs_upd (s7 _ _ hl6) ((Same.prs s7 hp6).set (.inl (.inl (by rw [upd_same] <;> rfl))) at')
              · refine ⟨by rw [List.length_set]; exact ok.1, fun d hd => ?_⟩
                rcases mem_set hd with h | h
                · exact ok.2 d h
                · have := okc hcc
                  rw [h]
                  exact ⟨this.2.1, this.1, this.2.2.symm⟩
            · exact fin H6 ps cs (fun b o e _ => e) hl6 hp6 ok
          · exact fin H6 ps cs (fun b o e _ => e) hl6 hp6 ok
        have second : ∀ D : Ends, D.nx = Wweb K a c n L H ((ns.take 40).map V.int) (i + 1) → r_lweb_e2 K D
            [some (.ref a), some (.ref c), some (.int n), some (.int (L : Int)), some (.int (i : Int)), some (.int z), some (.ref l), some (.int m), some (.int (at' : Int))] H6 := fun D eD => by
          unfold r_lweb_e2
          walk_at "ev"
          split
          · refine ⟨l, _, rfl, .inl (.inl (.inl hl6)), ?_⟩
            walk_at "ev"
            rw [rfs_len]
            split
            · rename_i q2
              refine ⟨.ref l, rfl, .inl ⟨rfl, _, .inl (.inl hl6)⟩, ?_⟩
              walk_at "ev"
              refine ⟨⟨by decide, by decide⟩, m / 1000, L, rfl, by omega, L2', by omega, fun H7 p cc s7 np hpt okp => ?_⟩
              rw [eD]
              refine ⟨l, Rfs ps, (at' : Int), .ref p, rfl, rfl, s7 _ _ hl6, by rw [rfs_len]; exact small_lt (by omega), by omega, by omega, ?_⟩
              refine fin _ (ps.take at' ++ [p] ++ ps.drop at') (cs.take at' ++ [cc] ++ cs.drop at') (fun b o e nb => by rw [upd_ne nb]; exact s7 _ _ e) ?_ ?_ ?_
              · rw [upd_same, Int.toNat_natCast]
                unfold Rfs
                rw [List.map_append, List.map_append, List.map_take, List.map_drop] <;> rfl
              · have h7 := Same.prs s7 hp6
                exact prs_upd (s7 _ _ hl6) (((h7.take at').snoc (.inl (.inl hpt))).append (h7.drop at'))
              · refine ⟨?_, fun d hd => ?_⟩
                · rw [List.length_append, List.length_append, List.length_take, List.length_drop]
                  show min at' cs.length + 1 + (cs.length - at') ≤ 60
                  omega
                · rcases List.mem_append.mp hd with h | h
                  · rcases List.mem_append.mp h with h | h
                    · exact ok.2 d (List.mem_of_mem_take h)
                    · rw [List.mem_singleton.mp h]
                      exact okp
                  · exact ok.2 d (List.mem_of_mem_drop h)
            · exact third D eD
          · exact third D eD
        split
        · refine ⟨l, _, rfl, .inl (.inl (.inl hl6)), ?_⟩
          walk_at "ev"
          rw [rfs_len]
          split
          · rename_i q2
            obtain ⟨p, hpa⟩ := get_of (xs := ps) (i := at') (by omega)
            refine ⟨.ref l, rfl, .inl ⟨rfl, _, .inl (.inl hl6)⟩, .int (at' : Int), rfl, l, _, _, at', _, rfl, rfl, hl6, by omega, by omega, seqIndex_nat (by rw [rfs_len]; omega), rfs_at hpa, ?_⟩
            refine fin _ (ps.eraseIdx at') (cs.eraseIdx at') (fun b o e nb => by rw [upd_ne nb]; exact e) ?_ (prs_upd hl6 (hp6.erase at')) ⟨?_, fun d hd => ok.2 d (List.mem_of_mem_eraseIdx hd)⟩
            · rw [upd_same, rfs_erase]
            · have := List.length_eraseIdx_le cs at'
              have := ok.1
              omega
          · exact second _ rfl
        · exact second _ rfl
      · obtain ⟨y4, y5, y7, y8, l, ps, cs, rfl, s, nl, hl, hp, ok, hc, ncl⟩ := hW
        walk_at "ev"
        refine ⟨small_line (by decide), fun p np => ?_⟩
        have s5 := same_new (o := .tup [.int (L : Int), .ref l]) np
        exact q _ p l ps L cs (s.trans s5) (s.free np) nl upd_same (s5 _ _ hl) (Same.prs s5 hp) ok L1 L7
/-- what the two places of a comparer hold -/
theorem cmp_at {n : Nat} {c : Cmp} {r : Row} (h : CmpOk n c) (hr : r.length = n) : (vis r)[c.1]? = some (.int (at0 r c.1)) ∧ (vis r)[c.2]? = some (.int (at0 r c.2)) := ⟨ints_at (by rw [hr]; exact h.1), ints_at (by rw [hr]; exact h.2.1)⟩
theorem ixN_cmp {n k : Nat} {r : Row} (h : k < n) (hr : r.length = n) : ixN (vis r).length (k : Int) = some k := Evl.ixN_nat (by rw [ints_len, hr]; exact h)
/-- xs[a], xs[b] = v, u, the pair at hand -/
theorem swap_run {σ : L2.St} {H : Hp} {p T : Addr} {k i j : Nat} {a b : Nat} {r : Row} {u v : Int} {Q : L2.St → Hp → Prop} (hk : σ[k]? = some (some (.ref p))) (hi : σ[i]? = some (some (.int (a : Int)))) (hj : σ[j]? = some (some (.int (b : Int))))
    (hp : H p = some (.lst (vis r))) (hT : SqT K H T [.int u, .int v]) (ha : a < r.length) (hb : b < r.length) (q : Q σ (upd H p (.lst (vis ((r.set a u).set b v))))) :
    gTup K 2 (gCons (gSub (tVar k) (tVar i) rSetL) (gCons (gSub (tVar k) (tVar j) rSetL) gNil)) (.ref T) σ H Q := by
  refine ⟨T, _, rfl, hT, rfl, .int u, _, rfl, .ref p, hk, .int (a : Int), hi, p, _, (a : Int), a, rfl, rfl, hp, Evl.ixN_nat (by rw [ints_len]; exact ha), ?_⟩
  rw [ints_set]
  refine ⟨.int v, _, rfl, .ref p, hk, .int (b : Int), hj, p, _, (b : Int), b, rfl, rfl, upd_same, Evl.ixN_nat (by rw [ints_len, List.length_set]; exact hb), rfl, ?_⟩
  rw [ints_set, upd_upd]
  exact q

theorem set_run {σ : L2.St} {H : Hp} {p : Addr} {k i a : Nat} {v : V} {xs : List V} {Q : L2.St → Hp → Prop} (hk : σ[k]? = some (some (.ref p))) (hi : σ[i]? = some (some (.int (a : Int)))) (hp : H p = some (.lst xs)) (ha : a < xs.length)
    (q : Q σ (upd H p (.lst (xs.set a v)))) : gSub (tVar k) (tVar i) rSetL v σ H Q :=
  ⟨.ref p, hk, .int (a : Int), hi, p, _, (a : Int), a, rfl, rfl, hp, Evl.ixN_nat ha, q⟩
theorem stirs_eq {cs : List Cmp} {k : Nat} {c : Cmp} (h : cs[k]? = some c) : stirsAt cs k = gtB (cs.take k) c.1 c.2 := by
  funext r
  unfold stirsAt gtB
  rw [h]
theorem webAt_take {H : Hp} {a : Addr} {n k : Nat} {ps : List Addr} {cs : List Cmp} (ha : SqL K H a (Rfs (ps.take k))) (hp : Prs K H ps cs) (ok : WebOk n cs) (n1 : 1 ≤ n) (n10 : n ≤ 10) : WebAt K H a n (cs.take k) :=
  ⟨ps.take k, ha, hp.take k, ⟨by rw [List.length_take]; have := ok.1; omega, fun c hc => ok.2 c (List.mem_of_mem_take hc)⟩, n1, n10⟩
theorem rfs_take (ps : List Addr) (k : Nat) : cutV (Rfs ps) none (some (k : Int)) = Rfs (ps.take k) := by
  rw [cutV_to]
  unfold Rfs
  rw [List.map_take]
theorem any_first {n : Nat} {f : Row → Bool} : (bares n).any f = (firstB n f).isSome := by
  unfold firstB
  rw [Bool.eq_iff_iff, List.any_eq_true, List.find?_isSome]
theorem first_get {n : Nat} {f : Row → Bool} {r : Row} (h : firstB n f = some r) : r ∈ bares n ∧ f r = true := ⟨List.mem_of_find?_eq_some h, List.find?_some h⟩
theorem eq_rows {H : Hp} {a b : Addr} {r : Row} {Q : VK} (h1 : SqL K H a (vis r)) (h2 : SqL K H b (vis r)) (q : Q (.bl true) H) : rEqD K (.ref a) (.ref b) H Q :=
  ⟨dI r, dI r, dp_row h1, dp_row h2, enc_row.shaped (by decide) _, enc_row.shaped (by decide) _, by rw [enc_row.eq, decide_eq_true rfl]; exact q⟩
theorem webAt_same {H H' : Hp} {a : Addr} {n : Nat} {cs : List Cmp} (s : Same H H') (w : WebAt K H a n cs) : WebAt K H' a n cs := by
  obtain ⟨ps, ha, hp, r⟩ := w
  exact ⟨ps, s.seq ha, Same.prs s hp, r⟩
end Sw

set_option Elab.async false
set_option linter.all false
set_option maxRecDepth 100000
set_option maxHeartbeats 4000000
namespace Sw
open PySem PySem.Spec PyProof.Rows L2
local macro_rules | `(tactic| walk_at "ev") => `(tactic| simp only [tSeq, tCalW, quiet, tRzA, tRzO, tTryT, tTryK, tJoin, tJs, tBM, tBits, kStrI, kIntS, kLenS, mSplit, mPart, mIndex, tAsg, tRet, tRetN, tOp, tUn, tVar, tC, tNil, tCons, tCB, tDrop, tNext, tCont, tBreak, tIfS, tIf, tTest, tChain, tChain3, tB, tTup, tLst, tAnd, tOr, tNot, tAndV, tOrV, tNotV, tPart, tNoPart, tSl, tCal, tAug, ipI, rI0, rI, rU, rEq, rNe, kMin, kMax, gName, gCons, gNil, L2.start, wipe, List.map_cons, List.map_nil, List.length_cons, List.length_nil, List.cons_append, List.nil_append, List.append_nil, Nat.reduceAdd, Nat.reduceSub, List.replicate_succ, List.replicate_zero, List.getElem?_cons_zero, List.getElem?_cons_succ, List.set_cons_succ, List.set_cons_zero, Option.some.injEq, exists_eq_left', exists_eq_left, V.int.injEq, V.bl.injEq, V.str.injEq, V.ref.injEq, List.cons.injEq, exists_and_left, and_assoc, and_true, true_and, scal_ii, scal_ss, scal_nn, scal_bb, scal_ni, scal_in, decide_eq_true_eq, Bool.not_true, Bool.not_false, Bool.not_eq_true', decide_eq_false_iff_not, ite_not, reduceCtorEq, if_true, if_false, Bool.false_eq_true, ne_eq, not_true_eq_false, not_false_eq_true, Int.reduceLT, Int.reduceLE, Int.reduceNeg])
local macro_rules | `(tactic| walk_at "cm") => `(tactic| first | exact Or.inr ⟨by decide, by decide⟩ | exact Or.inl ⟨by decide, by decide⟩ | exact Or.inl ⟨by omega, by omega⟩ | exact Or.inr ⟨by omega, by omega⟩)
variable {K : PySem.W.Frag}
/-! ### the law -/
theorem vis_to (l : Row) (k : Nat) : cutV (vis l) none (some (k : Int)) = vis (l.take k) := by
  rw [cutV_to]
  unfold vis
  rw [List.map_take]
theorem fork_enum2 {σ : L2.St} {H : Hp} {D : Ends} {tb : TS} {a : Addr} {xs : List V} {j1 j2 : Nat} (hx : SqL K H a xs) (Pv : Nat → L2.St → Hp → Prop) (h0 : Pv 0 σ H) (hl : ∀ i σ H, i ≤ xs.length → Pv i σ H → SqL K H a xs)
    (turn : ∀ i x σ H H', xs[i]? = some x → i < xs.length → Pv i σ H → Same H H' → tb { D with nx := Pv (i + 1), ct := Pv (i + 1), bk := D.nx } ((σ.set j1 (some (.int (i : Int)))).set j2 (some x)) H')
    (done : ∀ σ H, Pv xs.length σ H → D.nx σ H) : ForK (gTup K 2 (gCons (gName j1) (gCons (gName j2) gNil))) tb D σ (L2.Ite K a) H := by
  refine it_for (n := xs.length) Pv h0 (fun i σ H hi p => ?_) (fun σ H p => ?_) (fun i σ H hi p v H' y => ?_) done
  · obtain ⟨x, hx⟩ := get_of hi
    exact ⟨xs, x, hl i σ H (Nat.le_of_lt hi) p, hx⟩
  · exact ⟨xs, hl _ σ H (Nat.le_refl _) p, Nat.le_refl _⟩
  · obtain ⟨T, x, rfl, nT, rfl, f⟩ := y
    exact g2_run (.inl (.inl upd_same)) (turn i x σ H _ (f xs (hl i σ H (Nat.le_of_lt hi) p)) hi p (same_new nT))
theorem rd_law (vs : List V) (H : Hp) (Q : VK) (E : XK) (h : sp_law K vs H Q E) : r_law K { nx := fun _ H' => Q .non H', rt := Q } (L2.start N_law vs) H := by
  obtain ⟨a, ns, rfl, ha, len, q⟩ := h
  unfold r_law N_law
  walk_at "ev"
  refine ⟨a, ns, rfl, ha, len, fun H1 p c ps n cs s1 np nc hp hc hps ok n1 n7 => ?_⟩
  refine g2_run (.inl (.inl hp)) ?_
  walk_at "ev"
  rw [for_def]
  unfold iEnum
  walk_at "ev"
  refine ⟨a, _, rfl, s1.seq ha, fun u nu => ?_⟩
  rw [show cutV (ns.map V.int) none (some 63) = vis (ns.take 63) from vis_to ns 63]
  have s2 := same_new (o := .lst (vis (ns.take 63))) nu
  have fu : (upd H1 u (.lst (vis (ns.take 63)))) u = some (.lst (vis (ns.take 63))) := upd_same
  generalize upd H1 u (.lst (vis (ns.take 63))) = H2 at s2 fu ⊢
  refine ⟨small_line (by decide), fun r nr => ?_⟩
  have s3 := same_new (o := .lst [.int 5]) nr
  have fr : (upd H2 r (.lst [.int 5])) r = some (.lst [.int 5]) := upd_same
  generalize upd H2 r (.lst [.int 5]) = H3 at s3 fr ⊢
  have lt : (vis (ns.take 63)).length ≤ 63 := by rw [ints_len, List.length_take]; exact Nat.min_le_left _ _
  refine ⟨u, r, _, _, rfl, rfl, s3 _ _ fu, fr, small_line (by show _ + 1 ≤ _; omega), fun S nS => ?_⟩
  have eS : vis (ns.take 63) ++ [V.int 5] = vis (ns.take 63 ++ [5]) := by
    unfold vis
    rw [List.map_append] <;> rfl
  rw [eS]
  have s4 := same_new (o := .lst (vis (ns.take 63 ++ [5]))) nS
  have fS : (upd H3 S (.lst (vis (ns.take 63 ++ [5])))) S = some (.lst (vis (ns.take 63 ++ [5]))) := upd_same
  generalize upd H3 S (.lst (vis (ns.take 63 ++ [5]))) = H4 at s4 fS ⊢
  refine ⟨S, rfl, _, .inl (.inl fS), ?_⟩
  have lS : (vis (ns.take 63 ++ [5])).length ≤ 64 := by
    rw [← eS, List.length_append]
    show _ + 1 ≤ 64
    omega
  have s14 := s2.trans (s3.trans s4)
  have wh : WebH K H4 c n cs := ⟨ps, s14 _ _ hc, Same.prs s14 hps, ok, n1, by omega⟩
  refine fork_enum2 (xs := vis (ns.take 63 ++ [5])) (.inl (.inl fS)) (fun i σ G => ∃ z3 z4, σ = [some (.ref a), some (.int (n : Int)), some (.ref c), z3, z4] ∧ Same H4 G) ⟨none, none, rfl, .refl H4⟩ (fun i σ G _ hW => ?_) (fun i x σ G G' hx hi hW s5 => ?_) (fun σ G hW => ?_)
  · obtain ⟨_, _, _, s⟩ := hW
    exact .inl (.inl (s _ _ fS))
  · obtain ⟨z3, z4, rfl, s⟩ := hW
    obtain ⟨y, rfl⟩ : ∃ y : Int, x = .int y := by
      unfold vis at hx
      rw [List.getElem?_map] at hx
      cases e : (ns.take 63 ++ [5])[i]? with
      | none => rw [e] at hx; cases hx
      | some v => rw [e] at hx; exact ⟨v, (Option.some.inj hx).symm⟩
    have sG := s.trans s5
    obtain ⟨ps2, hA, hP, r2⟩ := wh
    unfold r_law_f1
    walk_at "ev"
    refine ⟨n, c, y, (i : Int), cs, rfl, ⟨by omega, by omega⟩, ⟨ps2, sG _ _ hA, Same.prs sG hP, r2⟩, by omega, fun H5 s6 => ⟨true, rfl, ?_⟩⟩
    rw [if_neg (by decide)]
    exact sG.trans s6
  · obtain ⟨z3, z4, rfl, s⟩ := hW
    walk_at "ev"
    exact q _
end Sw

set_option Elab.async false
set_option linter.all false
set_option maxRecDepth 100000
set_option maxHeartbeats 4000000
namespace Sw
open PySem PySem.Spec PyProof.Rows L2
local macro_rules | `(tactic| walk_at "ev") => `(tactic| simp only [tSeq, tCalW, quiet, tRzA, tRzO, tTryT, tTryK, tJoin, tJs, tBM, tBits, kStrI, kIntS, kLenS, mSplit, mPart, mIndex, tAsg, tRet, tRetN, tOp, tUn, tVar, tC, tNil, tCons, tCB, tDrop, tNext, tCont, tBreak, tIfS, tIf, tTest, tChain, tChain3, tB, tTup, tLst, tAnd, tOr, tNot, tAndV, tOrV, tNotV, tPart, tNoPart, tSl, tCal, tAug, ipI, rI0, rI, rU, rEq, rNe, kMin, kMax, gName, gCons, gNil, L2.start, wipe, List.map_cons, List.map_nil, List.length_cons, List.length_nil, List.cons_append, List.nil_append, List.append_nil, Nat.reduceAdd, Nat.reduceSub, List.replicate_succ, List.replicate_zero, List.getElem?_cons_zero, List.getElem?_cons_succ, List.set_cons_succ, List.set_cons_zero, Option.some.injEq, exists_eq_left', exists_eq_left, V.int.injEq, V.bl.injEq, V.str.injEq, V.ref.injEq, List.cons.injEq, exists_and_left, and_assoc, and_true, true_and, scal_ii, scal_ss, scal_nn, scal_bb, scal_ni, scal_in, decide_eq_true_eq, Bool.not_true, Bool.not_false, Bool.not_eq_true', decide_eq_false_iff_not, ite_not, reduceCtorEq, if_true, if_false, Bool.false_eq_true, ne_eq, not_true_eq_false, not_false_eq_true, Int.reduceLT, Int.reduceLE, Int.reduceNeg])
local macro_rules | `(tactic| walk_at "cm") => `(tactic| first | exact Or.inr ⟨by decide, by decide⟩ | exact Or.inl ⟨by decide, by decide⟩ | exact Or.inl ⟨by omega, by omega⟩ | exact Or.inr ⟨by omega, by omega⟩)
variable {K : PySem.W.Frag}
theorem rd_iswhole (vs : List V) (H : Hp) (Q : VK) (E : XK) (h : sp_iswhole K vs H Q E) : r_iswhole K { nx := fun _ H' => Q .non H', rt := Q } (L2.start N_iswhole vs) H := by
  obtain ⟨v, T, rfl, ht, q⟩ := h
  unfold r_iswhole N_iswhole
  walk_at "ev"
  exact ⟨v, T, rfl, ht, _, _, rfl, rfl, q⟩
theorem rd_isline (vs : List V) (H : Hp) (Q : VK) (E : XK) (h : sp_isline K vs H Q E) : r_isline K { nx := fun _ H' => Q .non H', rt := Q } (L2.start N_isline vs) H := by
  obtain ⟨n, v, T, rfl, ht, q⟩ := h
  unfold r_isline N_isline
  walk_at "ev"
  refine ⟨v, T, rfl, ht, ?_⟩
  rcases tyb_int ht with ⟨rfl, i, rfl⟩ | ⟨ne, nv⟩
  · rw [decide_eq_true rfl]
    refine ⟨true, rfl, ?_⟩
    walk_at "ev"
    have e : lnV n (.int i) = decide (0 ≤ i ∧ i < (n : Int)) := rfl
    rw [e] at q
    split
    · rename_i h
      have e2 : decide (0 ≤ i ∧ i < (n : Int)) = decide (i < (n : Int)) := decide_eq_decide.mpr ⟨fun z => z.2, fun z => ⟨h, z⟩⟩
      rw [← e2]
      exact q
    · rename_i h
      rw [decide_eq_false fun z => h z.1] at q
      exact q
  · rw [decide_eq_false ne]
    refine ⟨false, rfl, ?_⟩
    have e : lnV n v = false := by
      cases v with
      | int i => exact absurd rfl (nv i)
      | _ => rfl
    rw [e] at q
    exact q
theorem tw_ne {n : Nat} {x y : V} (h : ∀ i, x ≠ .int i) : twV n x y = false := by
  cases x with
  | int i => exact absurd rfl (h i)
  | _ => rfl
theorem tw_ne2 {n : Nat} {x y : V} (h : ∀ i, y ≠ .int i) : twV n x y = false := by
  cases y with
  | int i => exact absurd rfl (h i)
  | _ => cases x <;> rfl
theorem ln_ne {n : Nat} {x : V} (h : ∀ i, x ≠ .int i) : lnV n x = false := by
  cases x with
  | int i => exact absurd rfl (h i)
  | _ => rfl
theorem rd_iscomparer (vs : List V) (H : Hp) (Q : VK) (E : XK) (h : sp_iscomparer K vs H Q E) : r_iscomparer K { nx := fun _ H' => Q .non H', rt := Q } (L2.start N_iscomparer vs) H := by
  obtain ⟨n, v, b, rfl, hv, q⟩ := h
  unfold r_iscomparer N_iscomparer
  walk_at "ev"
  cases hv with
  | @other _ T ht ne =>
    refine ⟨v, T, rfl, ht, _, _, rfl, rfl, ?_⟩
    walk_at "ev"
    rw [if_neg ne]
    exact q
  | @long p xs hp ne =>
    refine ⟨.ref p, "tuple", rfl, .tup hp, _, _, rfl, rfl, ?_⟩
    walk_at "ev"
    refine ⟨p, _, rfl, .inr hp, ?_⟩
    walk_at "ev"
    rw [if_neg (by omega)]
    exact q
  | @two p x y Tx Ty hp hx hy =>
    refine ⟨.ref p, "tuple", rfl, .tup hp, _, _, rfl, rfl, ?_⟩
    walk_at "ev"
    refine ⟨p, _, rfl, .inr hp, ?_⟩
    walk_at "ev"
    refine g2_run hp ?_
    walk_at "ev"
    refine ⟨n, x, Tx, rfl, hx, lnV n x, rfl, ?_⟩
    rcases tyb_int hx with ⟨_, i, rfl⟩ | ⟨_, nx⟩
    · cases e1 : lnV n (.int i) with
      | false =>
        have : twV n (.int i) y = false := by
          cases y with
          | int j =>
            show (decide _ && (decide _ && decide _)) = false
            rw [show decide (0 ≤ i ∧ i < (n : Int)) = false from e1] <;> rfl
          | _ => rfl
        rw [this] at q
        exact q
      | true =>
        walk_at "ev"
        refine ⟨n, y, Ty, rfl, hy, lnV n y, rfl, ?_⟩
        rcases tyb_int hy with ⟨_, j, rfl⟩ | ⟨_, ny⟩
        · have e3 : twV n (.int i) (.int j) = (lnV n (.int i) && (lnV n (.int j) && decide (¬ i = j))) := rfl
          rw [e3, e1, Bool.true_and] at q
          cases e2 : lnV n (.int j) with
          | false =>
            rw [e2] at q
            exact q
          | true =>
            rw [e2, Bool.true_and] at q
            walk_at "ev"
            first
              | exact q
              | (rw [decide_not] at q; exact q)
        · rw [ln_ne ny]
          rw [tw_ne2 ny] at q
          exact q
    · rw [ln_ne nx]
      rw [tw_ne nx] at q
      exact q
theorem rd_needlines (vs : List V) (H : Hp) (Q : VK) (E : XK) (h : sp_needlines K vs H Q E) : r_needlines K E { nx := fun _ H' => Q .non H', rt := Q } (L2.start N_needlines vs) H := by
  obtain ⟨v, T, rfl, ht, q1, q2⟩ := h
  unfold r_needlines N_needlines
  walk_at "ev"
  refine ⟨v, T, rfl, ht, ?_⟩
  rcases tyb_int ht with ⟨rfl, i, rfl⟩ | ⟨ne, nv⟩
  · have e : noV (.int i) = decide (1 ≤ i ∧ i ≤ 10) := rfl
    refine ⟨true, by rw [decide_eq_true rfl], ?_⟩
    walk_at "ev"
    split
    · rename_i h
      split
      · rename_i h2
        exact q1 (by rw [e]; exact decide_eq_true ⟨h, h2⟩)
      · rename_i h2
        refine ⟨small_line (by decide +kernel), .inr ⟨10, rfl, by decide, _, rfl, small_line (by decide +kernel), small_line (by decide), q2 ?_⟩⟩
        rw [e]
        exact decide_eq_false fun z => h2 z.2
    · rename_i h
      refine ⟨small_line (by decide +kernel), .inr ⟨10, rfl, by decide, _, rfl, small_line (by decide +kernel), small_line (by decide), q2 ?_⟩⟩
      rw [e]
      exact decide_eq_false fun z => h z.1
  · refine ⟨false, by rw [decide_eq_false ne], ?_⟩
    walk_at "ev"
    refine ⟨small_line (by decide +kernel), .inr ⟨10, rfl, by decide, _, rfl, small_line (by decide +kernel), small_line (by decide), q2 ?_⟩⟩
    cases v with
    | int i => exact absurd rfl (nv i)
    | _ => rfl
theorem own_web {H H' : Hp} {E : XK} {o : Option Nat} {σ : L2.St} (q : Refu K H E (.web o)) (s : Same H H') (ho : ∀ k, o = some k → k ≤ 1000) : OwnWish K "BadWeb" "place" (fun cls d _ H => E cls d H) σ (onV o) H' := by
  refine OwnWish.mk ?_ fun d nd => q H' d s nd
  cases o with
  | none => exact .inl rfl
  | some k => exact .inr ⟨(k : Int), rfl, by omega, by have := ho k rfl; omega⟩
def Wneedweb (n : Nat) (a : Addr) (H : Hp) (σ : L2.St) (H' : Hp) : Prop := ∃ y z, σ = [some (.int (n : Int)), some (.ref a), y, z] ∧ Same H H'
theorem rd_needweb (vs : List V) (H : Hp) (Q : VK) (E : XK) (h : sp_needweb K vs H Q E) : r_needweb K E { nx := fun _ H' => Q .non H', rt := Q } (L2.start N_needweb vs) H := by
  obtain ⟨lv, cv, d, rfl, hv, q1, q2⟩ := h
  unfold r_needweb N_needweb
  walk_at "ev"
  cases hv with
  | @lines lv cv T ht bad =>
    refine ⟨lv, T, rfl, ht, (fun z => by rw [bad] at z; cases z), fun _ => ?_⟩
    exact q2 (fun z => nomatch z) H (.refl H)
  | @kind n cv T hn ht ne =>
    refine ⟨_, "int", rfl, .int _, (fun _ => ?_), fun z => by rw [hn] at z; cases z⟩
    refine ⟨cv, T, rfl, ht, _, _, rfl, rfl, ?_⟩
    walk_at "ev"
    rw [if_neg ne]
    exact own_web (q2 fun z => nomatch z) (.refl H) fun k z => nomatch z
  | @many n a xs hn ha hl =>
    refine ⟨_, "int", rfl, .int _, (fun _ => ?_), fun z => by rw [hn] at z; cases z⟩
    refine ⟨.ref a, "list", rfl, .lst ha, _, _, rfl, rfl, ?_⟩
    walk_at "ev"
    refine ⟨a, _, rfl, .inl ha, ?_⟩
    walk_at "ev"
    rw [if_pos (by omega)]
    exact own_web (q2 fun z => nomatch z) (.refl H) fun k z => nomatch z
  | @item n k a xs y hn ha hl ok hy bad =>
    refine ⟨_, "int", rfl, .int _, (fun _ => ?_), fun z => by rw [hn] at z; cases z⟩
    refine ⟨.ref a, "list", rfl, .lst ha, _, _, rfl, rfl, ?_⟩
    walk_at "ev"
    refine ⟨a, _, rfl, .inl ha, ?_⟩
    walk_at "ev"
    rw [if_neg (by omega)]
    have kl : k < xs.length := (List.getElem?_eq_some_iff.mp hy).1
    refine for_enum2 (a := a) (xs := xs) rfl ha (fun i σ H' => i ≤ k ∧ Wneedweb n a H σ H') ⟨Nat.zero_le _, none, none, rfl, .refl H⟩ (fun i σ H' _ hW => ?_) (fun i x σ H1 H2 hx hi hW s2 => ?_) (fun σ H' hW => ?_)
    · obtain ⟨_, _, _, _, s⟩ := hW
      exact s.seq ha
    · obtain ⟨hk, y1, z1, rfl, s⟩ := hW
      have s12 := s.trans s2
      unfold r_needweb_f1
      walk_at "ev"
      by_cases e : i = k
      · subst e
        rw [hy] at hx
        cases hx
        refine ⟨n, y, false, rfl, it_same s12 bad, false, rfl, ?_⟩
        exact own_web (σ := []) (q2 fun z => nomatch z) s12 fun k z => by cases z; omega
      · obtain ⟨x', hx', okx⟩ := ok i (by omega)
        rw [hx'] at hx
        cases hx
        refine ⟨n, x, true, rfl, it_same s12 okx, true, rfl, ?_⟩
        exact ⟨by omega, _, _, rfl, s12⟩
    · obtain ⟨hk, _⟩ := hW
      omega
  | @good n a xs hn ha hl ok =>
    refine ⟨_, "int", rfl, .int _, (fun _ => ?_), fun z => by rw [hn] at z; cases z⟩
    refine ⟨.ref a, "list", rfl, .lst ha, _, _, rfl, rfl, ?_⟩
    walk_at "ev"
    refine ⟨a, _, rfl, .inl ha, ?_⟩
    walk_at "ev"
    rw [if_neg (by omega)]
    refine for_enum2 (a := a) (xs := xs) rfl ha (fun i σ H' => Wneedweb n a H σ H') ⟨none, none, rfl, .refl H⟩ (fun i σ H' _ hW => ?_) (fun i x σ H1 H2 hx hi hW s2 => ?_) (fun σ H' hW => ?_)
    · obtain ⟨_, _, _, s⟩ := hW
      exact s.seq ha
    · obtain ⟨y1, z1, rfl, s⟩ := hW
      have s12 := s.trans s2
      unfold r_needweb_f1
      walk_at "ev"
      refine ⟨n, x, true, rfl, it_same s12 (ok i x hx), true, rfl, ?_⟩
      exact ⟨_, _, rfl, s12⟩
    · obtain ⟨y1, z1, rfl, s⟩ := hW
      exact q1 rfl H' s
end Sw

set_option Elab.async false
set_option linter.all false
set_option maxRecDepth 100000
set_option maxHeartbeats 4000000
namespace Sw
open PySem PySem.Spec PyProof.Rows L2
local macro_rules | `(tactic| walk_at "ev") => `(tactic| simp only [tSeq, tCalW, quiet, tRzA, tRzO, tTryT, tTryK, tJoin, tJs, tBM, tBits, kStrI, kIntS, kLenS, mSplit, mPart, mIndex, tAsg, tRet, tRetN, tOp, tUn, tVar, tC, tNil, tCons, tCB, tDrop, tNext, tCont, tBreak, tIfS, tIf, tTest, tChain, tChain3, tB, tTup, tLst, tAnd, tOr, tNot, tAndV, tOrV, tNotV, tPart, tNoPart, tSl, tCal, tAug, ipI, rI0, rI, rU, rEq, rNe, kMin, kMax, gName, gCons, gNil, L2.start, wipe, List.map_cons, List.map_nil, List.length_cons, List.length_nil, List.cons_append, List.nil_append, List.append_nil, Nat.reduceAdd, Nat.reduceSub, List.replicate_succ, List.replicate_zero, List.getElem?_cons_zero, List.getElem?_cons_succ, List.set_cons_succ, List.set_cons_zero, Option.some.injEq, exists_eq_left', exists_eq_left, V.int.injEq, V.bl.injEq, V.str.injEq, V.ref.injEq, List.cons.injEq, exists_and_left, and_assoc, and_true, true_and, scal_ii, scal_ss, scal_nn, scal_bb, scal_ni, scal_in, decide_eq_true_eq, Bool.not_true, Bool.not_false, Bool.not_eq_true', decide_eq_false_iff_not, ite_not, reduceCtorEq, if_true, if_false, Bool.false_eq_true, ne_eq, not_true_eq_false, not_false_eq_true, Int.reduceLT, Int.reduceLE, Int.reduceNeg])
local macro_rules | `(tactic| walk_at "cm") => `(tactic| first | exact Or.inr ⟨by decide, by decide⟩ | exact Or.inl ⟨by decide, by decide⟩ | exact Or.inl ⟨by omega, by omega⟩ | exact Or.inr ⟨by omega, by omega⟩)
variable {K : PySem.W.Frag}
def cmpUt (cs : List Cmp) (i : Nat) : V × V := match cs[i]? with
  | some c => (.int (c.1 : Int), .int (c.2 : Int))
  | none => (.non, .non)
theorem web_good {H : Hp} {a : Addr} {n : Nat} {cs : List Cmp} (h : WebAt K H a n cs) : WebV K H (.int (n : Int)) (.ref a) .good := by
  obtain ⟨ps, ha, hp, ok, n1, n10⟩ := h
  have hl := hp.length
  have h60 := ok.1
  refine .good (decide_eq_true (by omega)) ha (by rw [rfs_len]; omega) fun i x hx => ?_
  obtain ⟨p, rfl, gp⟩ := rfs_get hx
  obtain ⟨c, gc, hc⟩ := hp.getL gp
  exact it_cmp hc (ok.2 c (List.mem_of_getElem? gc))
theorem refu_same {H H' : Hp} {E : XK} (s : Same H H') : ∀ {d : Verd}, Refu K H E d → Refu K H' E d
  | .good, h => h
  | .lines, h => fun H2 s2 => h H2 (s.trans s2)
  | .web _, h => fun H2 d s2 nd => h H2 d (s.trans s2) nd
theorem rd_webtext (vs : List V) (H : Hp) (Q : VK) (E : XK) (h : sp_webtext K vs H Q E) : r_webtext K E { nx := fun _ H' => Q .non H', rt := Q } (L2.start N_webtext vs) H := by
  obtain ⟨lv, cv, d, rfl, hv, q1, q2⟩ := h
  unfold r_webtext N_webtext
  walk_at "ev"
  refine ⟨lv, cv, d, rfl, hv, (fun e => ?_), q2⟩
  subst e
  obtain ⟨n, a, cs, rfl, rfl, ⟨ps, ha, hp, ok, n1, n10⟩, q⟩ := q1 rfl
  intro H1 s1
  have hl := hp.length
  have h60 := ok.1
  refine lc_pairs (a := a) (ps := ps) (cmpUt cs) rfl (s1.seq ha) (fun v w => rfl) (fun D i acc H' => Same H H' ∧ acc = ((cs.take i).map wordT).map V.str) (fun D nD => ⟨s1.trans (same_new nD), rfl⟩) (fun D i acc H' nD g => g.1.seq ha) ?_ ?_ ?_
  · intro D i p acc H' nD gp hD g
    obtain ⟨c, gc, hc⟩ := hp.getL gp
    unfold cmpUt
    rw [gc]
    exact Same.sqt g.1 hc
  · intro D i acc H' nD hi hD g
    obtain ⟨s, rfl⟩ := g
    obtain ⟨c, gc⟩ := get_of (xs := cs) (i := i) (by omega)
    obtain ⟨c1, c2, _⟩ := ok.2 c (List.mem_of_getElem? gc)
    refine .yes ?_
    unfold cmpUt
    rw [gc]
    walk_at "ev"
    have l1 := sg_num (a := c.1) (by omega)
    have l2 := sg_num (a := c.2) (by omega)
    have b1 : (Str.empty ++ (" " : Str)).length ≤ 1 := by decide +kernel
    have b2 : ((" " : Str)).length ≤ 1 := by decide +kernel
    have b3 : (("-" : Str)).length ≤ 1 := by decide +kernel
    have m1 := app_len (Str.empty ++ " ") (Str.ofString (toString (c.1 : Int)))
    have m2 := app_len (Str.empty ++ " " ++ Str.ofString (toString (c.1 : Int))) "-"
    have m3 := app_len (Str.empty ++ " " ++ Str.ofString (toString (c.1 : Int)) ++ "-") (Str.ofString (toString (c.2 : Int)))
    refine ⟨small_line (by omega), _, rfl, .inr ⟨(c.1 : Int), rfl, log_small (by omega), _, rfl, small_line (by omega), small_line (by omega), _, rfl, .inr ⟨(c.2 : Int), rfl, log_small (by omega), _, rfl, small_line (by omega), ?_⟩⟩⟩
    rw [word_eq (show c.1 ≤ 10 by omega) (show c.2 ≤ 10 by omega) " " "-" (by decide +kernel) (by decide +kernel)]
    refine GoOn.mk hD (by simp; omega) ⟨same_mut s (s1.free nD), ?_⟩
    rw [List.take_add_one, gc]
    simp
  · intro D acc H' nD hD g
    obtain ⟨s, rfl⟩ := g
    have e : cs.take ps.length = cs := by rw [hl, List.take_length]
    rw [e] at hD
    have l1 := sg_num (a := n) n10
    have b3 : ((":" : Str)).length ≤ 1 := by decide +kernel
    have m1 := app_len Str.empty (Str.ofString (toString (n : Int)))
    have m2 := app_len (Str.empty ++ Str.ofString (toString (n : Int))) ":"
    have m0 : Str.empty.length = 0 := by decide +kernel
    refine ⟨_, rfl, .inr ⟨(n : Int), rfl, log_small (by omega), _, rfl, small_line (by omega), small_line (by omega), ?_⟩⟩
    refine ⟨rfl, "", D, cs.map wordT, rfl, rfl, .inl (.inl (.inl hD)), ?_, ?_⟩
    · have := lens_words cs
      have e0 : ((cs.map wordT).length) * ("" : Str).length = 0 := by
        rw [show ("" : Str).length = 0 by decide +kernel, Nat.mul_zero]
      rw [e0]
      omega
    · have sj : sg (Txt.join "" (cs.map wordT)) = tailT cs := join_words cs
      have lj : (Txt.join "" (cs.map wordT)).length ≤ 360 := by
        rw [sg_len, sj]
        have := tail_len cs
        omega
      refine ⟨_, _, rfl, rfl, small_line (by omega), ?_⟩
      have e2 : Str.empty ++ Str.ofString (toString (n : Int)) ++ ":" ++ Txt.join "" (cs.map wordT) = webTx n cs := by
        refine eq_tx ?_
        rw [sg_app, sg_app, sg_app, sj, num_str n n10, sg_nil, show sg (":" : Str) = [58] by decide +kernel]
        show [] ++ numT n ++ [58] ++ tailT cs = numT n ++ 58 :: tailT cs
        simp
      rw [e2]
      exact q H' s
end Sw

set_option Elab.async false
set_option linter.all false
set_option maxRecDepth 100000
set_option maxHeartbeats 4000000
namespace Sw
open PySem PySem.Spec PyProof.Rows L2
local macro_rules | `(tactic| walk_at "ev") => `(tactic| simp only [tSeq, tCalW, quiet, tRzA, tRzO, tTryT, tTryK, tJoin, tJs, tBM, tBits, kStrI, kIntS, kLenS, mSplit, mPart, mIndex, tAsg, tRet, tRetN, tOp, tUn, tVar, tC, tNil, tCons, tCB, tDrop, tNext, tCont, tBreak, tIfS, tIf, tTest, tChain, tChain3, tB, tTup, tLst, tAnd, tOr, tNot, tAndV, tOrV, tNotV, tPart, tNoPart, tSl, tCal, tAug, ipI, rI0, rI, rU, rEq, rNe, kMin, kMax, gName, gCons, gNil, L2.start, wipe, List.map_cons, List.map_nil, List.length_cons, List.length_nil, List.cons_append, List.nil_append, List.append_nil, Nat.reduceAdd, Nat.reduceSub, List.replicate_succ, List.replicate_zero, List.getElem?_cons_zero, List.getElem?_cons_succ, List.set_cons_succ, List.set_cons_zero, Option.some.injEq, exists_eq_left', exists_eq_left, V.int.injEq, V.bl.injEq, V.str.injEq, V.ref.injEq, List.cons.injEq, exists_and_left, and_assoc, and_true, true_and, scal_ii, scal_ss, scal_nn, scal_bb, scal_ni, scal_in, decide_eq_true_eq, Bool.not_true, Bool.not_false, Bool.not_eq_true', decide_eq_false_iff_not, ite_not, reduceCtorEq, if_true, if_false, Bool.false_eq_true, ne_eq, not_true_eq_false, not_false_eq_true, Int.reduceLT, Int.reduceLE, Int.reduceNeg])
local macro_rules | `(tactic| walk_at "cm") => `(tactic| first | exact Or.inr ⟨by decide, by decide⟩ | exact Or.inl ⟨by decide, by decide⟩ | exact Or.inl ⟨by omega, by omega⟩ | exact Or.inr ⟨by omega, by omega⟩)
variable {K : PySem.W.Frag}
theorem webAt_get {H : Hp} {a : Addr} {n : Nat} {cs : List Cmp} (h : WebAt K H a n cs) : n ≤ 10 := h.choose_spec.2.2.2.2
def Wallc (n : Nat) (H : Hp) (i : Nat) (σ : L2.St) (H' : Hp) : Prop :=
  ∃ p y3 y4, σ = [some (.int (n : Int)), some (.ref p), some (.int ((2 ^ i : Nat) : Int)), y3, y4] ∧ Same H H' ∧ H p = none ∧ H' p = some (.lst (vis (mkCs i)))
theorem shl_mk {i k : Nat} (hi : i ≤ 10) : CShl (mkC i k) ((2 ^ i : Nat) : Int) := by
  have h := mkC_lt i k
  have hp : 2 ^ i ≤ 1024 := Nat.pow_le_pow_right (by decide) hi
  refine shl_ok (n := 2 ^ i) ?_ (by omega)
  have e := PySem.W.kbt_cast (2 ^ i)
  omega
theorem rd_allcolumns (vs : List V) (H : Hp) (Q : VK) (E : XK) (h : sp_allcolumns K vs H Q E) : r_allcolumns K { nx := fun _ H' => Q .non H', rt := Q } (L2.start N_allcolumns vs) H := by
  obtain ⟨n, rfl, n10, q⟩ := h
  unfold r_allcolumns N_allcolumns
  walk_at "ev"
  refine ⟨small_line (by decide), fun p np => ?_⟩
  have np0 := np
  refine for_rng (n := n) (fun Q q => ?_) (by omega) (Wallc n H) ⟨p, none, none, rfl, same_new np, np, by rw [upd_same] <;> rfl⟩ (fun i σ H1 hi hW => ?_) (fun σ H1 hW => ?_)
  · walk_at "ev"
    exact q
  · obtain ⟨p, y3, y4, rfl, s, np, hp⟩ := hW
    have hpw : 2 ^ i ≤ 1024 := Nat.pow_le_pow_right (by decide) (show i ≤ 10 by omega)
    have hlen : (mkCs i).length = i := by unfold mkCs; rw [List.length_map, List.length_range]
    unfold r_allcolumns_f1
    walk_at "ev"
    refine lc_each (a := p) (xs := vis (mkCs i)) rfl (.inl (.inl hp)) (fun v => rfl) (fun D k acc H' => Same H1 H' ∧ acc = vis ((List.range k).map (mkC (i + 1)))) (fun D nD => ⟨same_new nD, rfl⟩) (fun D k acc H' nD g => g.1.seq (.inl (.inl hp))) ?_ ?_
    · intro D k x acc H2 nD hx hk hD g
      obtain ⟨s2, rfl⟩ := g
      rw [ints_len, hlen] at hk
      obtain ⟨z, rfl, hz⟩ := ints_get hx
      have ez : z = mkC i k := by
        unfold mkCs at hz
        rw [List.getElem?_map, List.getElem?_range hk] at hz
        exact (Option.some.inj hz).symm
      subst ez
      refine .yes ?_
      walk_at "ev"
      refine ⟨shl_mk (by omega), ?_⟩
      rw [Int.toNat_natCast, mkC_step hk]
      refine GoOn.mk hD (by rw [ints_len, List.length_map, List.length_range]; omega) ⟨same_mut s2 nD, ?_⟩
      unfold vis
      rw [List.range_succ, List.map_append, List.map_append] <;> rfl
    · intro D acc H2 nD hD g
      obtain ⟨s2, rfl⟩ := g
      rw [ints_len, hlen] at hD
      refine ⟨.inl ⟨rfl, _, .inl (.inl hD)⟩, shl_ok (i := 1) (j := 2 ^ i) (n := 1) (by decide) (by omega), ?_⟩
      rw [Int.toNat_natCast]
      refine ⟨?_, ?_⟩
      · refine shl_ok (j := 2 ^ i) (n := 2 ^ i) ?_ (by omega)
        have e := PySem.W.kbt_cast (2 ^ i)
        have := Nat.two_pow_pos (2 ^ i)
        rw [Int.one_mul]
        omega
      rw [mkC_new]
      refine ⟨D, _, _, rfl, rfl, hD, by rw [ints_len, List.length_map, List.length_range]; exact small_lt (by omega), ?_⟩
      refine ⟨by walk_at "cm", ?_⟩
      refine ⟨D, some (.int (i : Int)), y4, ?_, same_mut (s.trans s2) (s.free nD), s.free nD, ?_⟩
      · have e2 : (2 : Int) * ((2 ^ i : Nat) : Int) = ((2 ^ (i + 1) : Nat) : Int) := by
          rw [Nat.pow_succ]
          omega
        rw [e2]
      · rw [upd_same]
        unfold mkCs vis
        rw [List.range_succ, List.map_append, List.map_append] <;> rfl
  · obtain ⟨p, y3, y4, rfl, s, np, hp⟩ := hW
    walk_at "ev"
    rw [mkCs_cols] at hp
    exact q H1 p s np hp
theorem col_get {n k : Nat} {cs : List Cmp} (h : k < n) : (vis (cols n cs))[k]? = some (.int (colV n cs k)) := by
  rw [ints_at (by rw [cols_len]; exact h), cols_at h]
theorem rd_greater (vs : List V) (H : Hp) (Q : VK) (E : XK) (h : sp_greater K vs H Q E) : r_greater K { nx := fun _ H' => Q .non H', rt := Q } (L2.start N_greater vs) H := by
  obtain ⟨x, n, a, b, cs, rfl, hx, ha, hb, q⟩ := h
  unfold r_greater N_greater
  walk_at "ev"
  refine ⟨x, _, _, _, rfl, rfl, hx, atI_nat (col_get ha), ?_⟩
  refine ⟨x, _, _, _, rfl, rfl, hx, atI_nat (col_get hb), ?_⟩
  walk_at "ev"
  rw [col_gt]
  exact q
theorem rd_behind (vs : List V) (H : Hp) (Q : VK) (E : XK) (h : sp_behind K vs H Q E) : r_behind K { nx := fun _ H' => Q .non H', rt := Q } (L2.start N_behind vs) H := by
  obtain ⟨x, y, n, cs, c, rfl, hx, hy, ok, q⟩ := h
  unfold r_behind N_behind
  walk_at "ev"
  refine g2_run hy ?_
  walk_at "ev"
  refine ⟨x, _, rfl, .inl hx, fun p np => ?_⟩
  have s0 := same_new (o := .lst (vis (cols n cs))) np
  refine ⟨x, _, _, _, rfl, rfl, s0.seq hx, atI_nat (col_get ok.1), x, _, _, _, rfl, rfl, s0.seq hx, atI_nat (col_get ok.2.1), ?_⟩
  walk_at "ev"
  refine set_run (a := c.1) rfl rfl upd_same (by rw [ints_len, cols_len]; exact ok.1) ?_
  walk_at "ev"
  have s1 := same_mut (o := .lst ((vis (cols n cs)).set c.1 (V.int (Builtin.bitAnd (colV n cs c.1) (colV n cs c.2))))) s0 np
  refine ⟨x, _, _, _, rfl, rfl, s1.seq hx, atI_nat (col_get ok.1), x, _, _, _, rfl, rfl, s1.seq hx, atI_nat (col_get ok.2.1), ?_⟩
  walk_at "ev"
  refine set_run (a := c.2) rfl rfl upd_same (by rw [List.length_set, ints_len, cols_len]; exact ok.2.1) ?_
  walk_at "ev"
  refine q _ p (same_mut s1 np) np ?_
  rw [upd_same, ints_set, ints_set, col_behind ok]
def Wcolo (n : Nat) (a : Addr) (cs : List Cmp) (H : Hp) (i : Nat) (σ : L2.St) (H' : Hp) : Prop :=
  ∃ p y3, σ = [some (.int (n : Int)), some (.ref a), some (.ref p), y3] ∧ Same H H' ∧ H p = none ∧ H' p = some (.lst (vis (cols n (cs.take i))))
theorem rd_columnsout (vs : List V) (H : Hp) (Q : VK) (E : XK) (h : sp_columnsout K vs H Q E) : r_columnsout K { nx := fun _ H' => Q .non H', rt := Q } (L2.start N_columnsout vs) H := by
  obtain ⟨n, a, cs, rfl, hw, q⟩ := h
  obtain ⟨ps, ha, hp, ok, n1, n10⟩ := hw
  have hpl := hp.length
  unfold r_columnsout N_columnsout
  walk_at "ev"
  refine ⟨n, rfl, n10, fun H1 p s1 np hp1 => ?_⟩
  refine for_each (a := a) (xs := Rfs ps) rfl (s1.seq ha) (Wcolo n a cs H) ⟨p, none, rfl, s1, np, hp1⟩ (fun i σ H' _ hW => ?_) (fun i x σ H' hx hi hW => ?_) (fun σ H' hW => ?_)
  · obtain ⟨_, _, _, s, _⟩ := hW
    exact s.seq ha
  · obtain ⟨p, y3, rfl, s, np, hp'⟩ := hW
    obtain ⟨g, rfl, hg⟩ := rfs_get hx
    obtain ⟨c, hc, ht⟩ := hp.getL hg
    unfold r_columnsout_f1
    walk_at "ev"
    refine ⟨p, g, n, cs.take i, c, rfl, .inl (.inl hp'), Same.sqt s ht, ok.2 c (List.mem_of_getElem? hc), fun H2 p2 s2 np2 hp2 => ?_⟩
    refine ⟨p2, _, rfl, s.trans s2, s.free np2, ?_⟩
    rw [hp2, List.take_add_one, hc] <;> rfl
  · obtain ⟨p, y3, rfl, s, np, hp'⟩ := hW
    walk_at "ev"
    rw [rfs_len, hpl, List.take_length] at hp'
    exact q H' p s np hp'
theorem rd_rowof (vs : List V) (H : Hp) (Q : VK) (E : XK) (h : sp_rowof K vs H Q E) : r_rowof K { nx := fun _ H' => Q .non H', rt := Q } (L2.start N_rowof vs) H := by
  obtain ⟨n, t, rfl, n10, q⟩ := h
  unfold r_rowof N_rowof
  walk_at "ev"
  refine lc_rng (n := n) (fun Q q => ⟨_, rfl, q⟩) (by omega) (fun v => rfl) (fun D k acc H' => Same H H' ∧ acc = vis ((List.range k).map fun k => ((t / 2 ^ k % 2 : Nat) : Int))) (fun D nD => ⟨same_new nD, rfl⟩) ?_ ?_
  · intro D k acc H2 nD hk hD g2
    obtain ⟨s2, rfl⟩ := g2
    refine .yes ?_
    walk_at "ev"
    refine ⟨by omega, ?_⟩
    have e : Builtin.bitAnd ((t : Int) / 2 ^ (k : Int).toNat) 1 = ((t / 2 ^ k % 2 : Nat) : Int) := by
      rw [bitAnd_m1, Int.toNat_natCast]
      norm_cast
    rw [e]
    refine GoOn.mk hD (by rw [ints_len, List.length_map, List.length_range]; omega) ⟨same_mut s2 nD, ?_⟩
    unfold vis
    rw [List.range_succ, List.map_append, List.map_append] <;> rfl
  · intro D acc H2 nD hD g2
    obtain ⟨s2, rfl⟩ := g2
    exact q H2 D s2 nD hD
theorem rd_firstrow (vs : List V) (H : Hp) (Q : VK) (E : XK) (h : sp_firstrow K vs H Q E) : r_firstrow K { nx := fun _ H' => Q .non H', rt := Q } (L2.start N_firstrow vs) H := by
  obtain ⟨n, f, rfl, n10, q1, q2⟩ := h
  unfold r_firstrow N_firstrow
  walk_at "ev"
  by_cases z : maskN f (bares n) = 0
  · rw [if_pos (by rw [z] <;> rfl)]
    refine q1 ?_ H (.refl H)
    unfold firstB
    rw [List.find?_eq_none]
    intro x hx
    rw [mask_zero.mp z x hx]
    decide
  · rw [if_neg (by omega)]
    obtain ⟨t, x, h1, h2, h3⟩ := low_bit z
    rw [h3, bits_pow]
    refine ⟨n, t, by rw [show (((t + 1 : Nat) : Int) - 1) = (t : Int) by omega], n10, fun H2 D s2 nD hD => ?_⟩
    refine q2 x h2 H2 D s2 nD ?_
    have ex : x = bareR n t := by
      unfold bares at h1
      rw [List.getElem?_map] at h1
      cases e : (List.range (2 ^ n))[t]? with
      | none => rw [e] at h1; cases h1
      | some u =>
        rw [e] at h1
        obtain ⟨hl, e2⟩ := List.getElem?_eq_some_iff.mp e
        rw [List.getElem_range] at e2
        rw [← e2] at h1
        exact (Option.some.inj h1).symm
    rw [hD, ex]
end Sw

set_option Elab.async false
set_option linter.all false
set_option maxRecDepth 100000
set_option maxHeartbeats 4000000
namespace Sw
open PySem PySem.Spec PyProof.Rows L2
local macro_rules | `(tactic| walk_at "ev") => `(tactic| simp only [tSeq, tCalW, quiet, tRzA, tRzO, tTryT, tTryK, tJoin, tJs, tBM, tBits, kStrI, kIntS, kLenS, mSplit, mPart, mIndex, tAsg, tRet, tRetN, tOp, tUn, tVar, tC, tNil, tCons, tCB, tDrop, tNext, tCont, tBreak, tIfS, tIf, tTest, tChain, tChain3, tB, tTup, tLst, tAnd, tOr, tNot, tAndV, tOrV, tNotV, tPart, tNoPart, tSl, tCal, tAug, ipI, rI0, rI, rU, rEq, rNe, kMin, kMax, gName, gCons, gNil, L2.start, wipe, List.map_cons, List.map_nil, List.length_cons, List.length_nil, List.cons_append, List.nil_append, List.append_nil, Nat.reduceAdd, Nat.reduceSub, List.replicate_succ, List.replicate_zero, List.getElem?_cons_zero, List.getElem?_cons_succ, List.set_cons_succ, List.set_cons_zero, Option.some.injEq, exists_eq_left', exists_eq_left, V.int.injEq, V.bl.injEq, V.str.injEq, V.ref.injEq, List.cons.injEq, exists_and_left, and_assoc, and_true, true_and, scal_ii, scal_ss, scal_nn, scal_bb, scal_ni, scal_in, decide_eq_true_eq, Bool.not_true, Bool.not_false, Bool.not_eq_true', decide_eq_false_iff_not, ite_not, reduceCtorEq, if_true, if_false, Bool.false_eq_true, ne_eq, not_true_eq_false, not_false_eq_true, Int.reduceLT, Int.reduceLE, Int.reduceNeg])
local macro_rules | `(tactic| walk_at "cm") => `(tactic| first | exact Or.inr ⟨by decide, by decide⟩ | exact Or.inl ⟨by decide, by decide⟩ | exact Or.inl ⟨by omega, by omega⟩ | exact Or.inr ⟨by omega, by omega⟩)
variable {K : PySem.W.Frag}
theorem rdq_needplace (vs : List V) (H : Hp) (Q : VK) (E : XK) (h : sq_needplace K vs H Q E) : rq_needplace K { nx := fun _ H' => Q .non H', rt := Q } (L2.start N_needplace vs) H := by
  obtain ⟨a, xs, k, rfl, ha, hk, q⟩ := h
  unfold rq_needplace N_needplace
  walk_at "ev"
  refine ⟨.int (k : Int), "int", rfl, .int _, true, ?_, ?_⟩
  · rw [decide_eq_true rfl]
  walk_at "ev"
  rw [if_pos (by omega)]
  refine ⟨a, _, rfl, .inl ha, _, rfl, ?_⟩
  rw [if_pos (by omega)]
  exact q
theorem rdq_stirring (vs : List V) (H : Hp) (Q : VK) (E : XK) (h : sq_stirring K vs H Q E) : rq_stirring K { nx := fun _ H' => Q .non H', rt := Q } (L2.start N_stirring vs) H := by
  obtain ⟨n, a, cs, k, rfl, hw, hk, q⟩ := h
  unfold rq_stirring N_stirring
  walk_at "ev"
  refine ⟨n, a, cs, rfl, hw, fun H1 s1 => ?_⟩
  obtain ⟨ps, ha, hp, ok, n1, n10⟩ := hw
  have hpl := hp.length
  refine ⟨a, _, k, rfl, s1.seq ha, by rw [rfs_len]; omega, ?_⟩
  walk_at "ev"
  obtain ⟨c, hc⟩ := get_of hk
  obtain ⟨g, hg, ht⟩ := hp.get hc
  refine ⟨a, _, _, _, rfl, rfl, s1.seq ha, atI_nat (rfs_at hg), ?_⟩
  refine g2_run (Same.sqt s1 ht) ?_
  walk_at "ev"
  refine ⟨a, _, rfl, s1.seq ha, fun x nx => ?_⟩
  rw [rfs_take]
  have s2 := s1.trans (same_new (o := .lst (Rfs (ps.take k))) nx)
  refine ⟨n, x, cs.take k, rfl, webAt_take (.inl (.inl upd_same)) (Same.prs s2 hp) ok n1 n10, fun H2 y s3 ny hy => ?_⟩
  have okc := ok.2 c (List.mem_of_getElem? hc)
  refine ⟨y, n, c.1, c.2, cs.take k, rfl, .inl (.inl hy), okc.1, okc.2.1, ?_⟩
  refine ⟨n, gtB (cs.take k) c.1 c.2, rfl, n10, ?_⟩
  rw [stirs_eq hc] at q
  exact q.on (s2.trans s3)
def Wneedl (n : Nat) (a f : Addr) (cs : List Cmp) (H : Hp) (i : Nat) (σ : L2.St) (H' : Hp) : Prop :=
  ∃ p y4 y5 y6 y7, σ = [some (.int (n : Int)), some (.ref a), some (.ref f), some (.ref p), y4, y5, y6, y7] ∧ Same H H' ∧ H p = none ∧ H f = none ∧ p ≠ f ∧ H' p = some (.lst (vis (cols n (cs.take i)))) ∧
    H' f = some (.lst (natL ((List.range i).filter fun k => !(bares n).any (stirsAt cs k))))
theorem rdq_needless (vs : List V) (H : Hp) (Q : VK) (E : XK) (h : sq_needless K vs H Q E) : rq_needless K { nx := fun _ H' => Q .non H', rt := Q } (L2.start N_needless vs) H := by
  obtain ⟨n, a, cs, rfl, hw, q⟩ := h
  unfold rq_needless N_needless
  walk_at "ev"
  refine ⟨n, a, cs, rfl, hw, fun H1 s1 => ?_⟩
  obtain ⟨ps, ha, hp, ok, n1, n10⟩ := hw
  have hpl := hp.length
  have h60 := ok.1
  refine ⟨small_line (by decide), fun f nf => ?_⟩
  have s2 := s1.trans (same_new (o := .lst []) nf)
  refine ⟨n, rfl, n10, fun H2 p s3 np hp2 => ?_⟩
  have pf : p ≠ f := fun e => by rw [e, upd_same] at np; cases np
  have s4 := s2.trans s3
  refine for_enum2 (a := a) (xs := Rfs ps) rfl (s4.seq ha) (Wneedl n a f cs H) ⟨p, none, none, none, none, rfl, s4, s2.free np, s1.free nf, pf, hp2, s3 _ _ (by rw [upd_same] <;> rfl)⟩ (fun i σ H' _ hW => ?_) (fun i x σ H3 H4 hx hi hW s5 => ?_) (fun σ H' hW => ?_)
  · obtain ⟨_, _, _, _, _, _, s, _⟩ := hW
    exact s.seq ha
  · obtain ⟨p, y4, y5, y6, y7, rfl, s, np, nf, pf, hp3, hf3⟩ := hW
    obtain ⟨g, rfl, hg⟩ := rfs_get hx
    obtain ⟨c, hc, ht⟩ := hp.getL hg
    have okc := ok.2 c (List.mem_of_getElem? hc)
    have st := s.trans s5
    have ft : (List.range (i + 1)).filter (fun k => !(bares n).any (stirsAt cs k)) = (List.range i).filter (fun k => !(bares n).any (stirsAt cs k)) ++ (if (bares n).any (stirsAt cs i) then [] else [i]) := by
      rw [List.range_succ, List.filter_append]
      congr 1
      cases z : (bares n).any (stirsAt cs i) with
      | false => rw [List.filter_cons_of_pos (by rw [z] <;> rfl)] <;> rfl
      | true => rw [List.filter_cons_of_neg (by rw [z]; decide)] <;> rfl
    have lf : ((List.range i).filter fun k => !(bares n).any (stirsAt cs k)).length ≤ i := Nat.le_trans (List.length_filter_le ..) (by rw [List.length_range]; exact Nat.le_refl _)
    rw [rfs_len] at hi
    unfold rq_needless_f1
    walk_at "ev"
    refine g2_run (Same.sqt st ht) ?_
    walk_at "ev"
    refine ⟨p, n, c.1, c.2, cs.take i, rfl, .inl (.inl (s5 _ _ hp3)), okc.1, okc.2.1, ?_⟩
    walk_at "ev"
    have fin : ∀ (H5 : Hp), Same H H5 → H5 p = some (.lst (vis (cols n (cs.take i)))) → H5 f = some (.lst (natL ((List.range (i + 1)).filter fun k => !(bares n).any (stirsAt cs k)))) →
        ∃ (x y : Addr) (m : Nat) (ds : List Cmp) (c' : Cmp), [V.ref p, V.ref g] = [.ref x, .ref y] ∧ SqL K H5 x (vis (cols m ds)) ∧ SqT K H5 y (V2 c') ∧ CmpOk m c' ∧ ∀ H' p', Same H5 H' → H5 p' = none → H' p' = some (.lst (vis (cols m (ds ++ [c'])))) →
          Wneedl n a f cs H (i + 1) [some (.int (n : Int)), some (.ref a), some (.ref f), some (.ref p'), some (.int (i : Int)), some (.ref g), some (.int (c.1 : Int)), some (.int (c.2 : Int))] H' := fun H5 sH hp5 hf5 => by
      refine ⟨p, g, n, cs.take i, c, rfl, .inl (.inl hp5), Same.sqt sH ht, okc, fun H6 p6 s6 np6 hp6 => ?_⟩
      refine ⟨p6, _, _, _, _, rfl, sH.trans s6, sH.free np6, nf, fun e => ?_, ?_, s6 _ _ hf5⟩
      · rw [e, hf5] at np6
        cases np6
      · rw [hp6, List.take_add_one, hc] <;> rfl
    split
    · rename_i z
      have z' : maskN (gtB (cs.take i) c.1 c.2) (bares n) = 0 := by omega
      have anyF : (bares n).any (stirsAt cs i) = false := by
        rw [stirs_eq hc, List.any_eq_false]
        intro x hx
        rw [mask_zero.mp z' x hx]
        decide
      refine ⟨.inl ⟨rfl, _, .inl (.inl (s5 _ _ hf3))⟩, f, _, _, rfl, rfl, s5 _ _ hf3, by rw [nat_len]; exact small_lt (by omega), ?_⟩
      refine fin _ (same_mut st nf) (by rw [upd_ne pf]; exact s5 _ _ hp3) ?_
      rw [upd_same, ft, anyF]
      unfold natL
      rw [List.map_append] <;> rfl
    · rename_i z
      have anyT : (bares n).any (stirsAt cs i) = true := by
        rw [stirs_eq hc]
        cases e : (bares n).any (gtB (cs.take i) c.1 c.2) with
        | true => rfl
        | false =>
          rw [List.any_eq_false] at e
          refine absurd ?_ z
          rw [mask_zero.mpr fun x hx => by have := e x hx; cases e2 : gtB (cs.take i) c.1 c.2 x with | false => rfl | true => exact absurd e2 this] <;> rfl
      refine fin _ st (s5 _ _ hp3) ?_
      rw [s5 _ _ hf3, ft, anyT, if_pos rfl, List.append_nil]
  · obtain ⟨p, y4, y5, y6, y7, rfl, s, np, nf, pf, hp3, hf3⟩ := hW
    walk_at "ev"
    rw [rfs_len, hpl] at hf3
    exact q H' f s nf hf3
theorem nat_flat (l : List Nat) : (natL l).all flatV = true := by
  rw [List.all_eq_true]
  intro x hx
  obtain ⟨t, _, rfl⟩ := List.mem_map.mp hx
  rfl
theorem idle_in {n i : Nat} {cs : List Cmp} (hi : i < cs.length) : inV (.int (i : Int)) (natL (idle n cs)) = !(bares n).any (stirsAt cs i) := by
  rw [Bool.eq_iff_iff]
  unfold inV
  rw [List.any_eq_true]
  constructor
  · rintro ⟨y, hy, e⟩
    obtain ⟨t, ht, rfl⟩ := List.mem_map.mp hy
    unfold idle at ht
    obtain ⟨h1, h2⟩ := List.mem_filter.mp ht
    have e2 : ((t : Int) == (i : Int)) = true := e
    have e3 : t = i := by
      have := beq_iff_eq.mp e2
      omega
    rw [← e3]
    exact h2
  · intro h
    refine ⟨.int (i : Int), List.mem_map.mpr ⟨i, ?_, rfl⟩, ?_⟩
    · unfold idle
      exact List.mem_filter.mpr ⟨List.mem_range.mpr hi, h⟩
    · show ((i : Int) == (i : Int)) = true
      exact beq_self_eq_true _
theorem rdq_pruned (vs : List V) (H : Hp) (Q : VK) (E : XK) (h : sq_pruned K vs H Q E) : rq_pruned K { nx := fun _ H' => Q .non H', rt := Q } (L2.start N_pruned vs) H := by
  obtain ⟨n, a, cs, rfl, hw, q⟩ := h
  unfold rq_pruned N_pruned
  walk_at "ev"
  refine ⟨n, a, cs, rfl, hw, fun H1 f s1 nf hf => ?_⟩
  obtain ⟨ps, ha, hp, ok, n1, n10⟩ := hw
  have hpl := hp.length
  have h60 := ok.1
  refine lc_enum2 (a := a) (xs := Rfs ps) rfl (s1.seq ha) (fun v w => rfl) (fun D i acc H' => Same H1 H' ∧ acc = Rfs (pick (fun k => (bares n).any (stirsAt cs k)) 0 (ps.take i)))
    (fun D nD => ⟨same_new nD, rfl⟩) (fun D i acc H' nD g => g.1.seq (s1.seq ha)) ?_ ?_
  · intro D i x acc H2 H3 nD hx hi hD g s3
    obtain ⟨s2, rfl⟩ := g
    obtain ⟨p, rfl, gp⟩ := rfs_get hx
    rw [rfs_len] at hi
    have st := s2.trans s3
    unfold Turn
    walk_at "ev"
    refine ⟨f, _, rfl, .inl (.inl (.inl (st _ _ hf))), rfl, nat_flat _, _, rfl, ?_⟩
    have e : inV (.int (i : Int)) (natL (idle n cs)) = !(bares n).any (stirsAt cs i) := idle_in (by omega)
    have hD3 := s3 _ _ hD
    have lp := pick_len (fun k => (bares n).any (stirsAt cs k)) (ps.take i) 0
    rw [List.length_take] at lp
    rw [show (if true = true then !inV (.int (i : Int)) (natL (idle n cs)) else inV (.int (i : Int)) (natL (idle n cs))) = (bares n).any (stirsAt cs i) by rw [if_pos rfl, e, Bool.not_not]]
    split
    · rename_i z
      refine GoOn.mk hD3 (by rw [rfs_len]; omega) ⟨same_mut st nD, ?_⟩
      rw [pick_take gp, if_pos z]
      unfold Rfs
      rw [List.map_append] <;> rfl
    · rename_i z
      refine ⟨_, hD3, st, ?_⟩
      rw [pick_take gp, if_neg z, List.append_nil]
  · intro D acc H2 nD hD g
    obtain ⟨s2, rfl⟩ := g
    rw [rfs_len, List.take_length] at hD
    refine q H2 D _ (s1.trans s2) (s1.free nD) hD ?_
    exact pick_all2 _ (Same.prs (s1.trans s2) hp) 0
theorem chain_srt {r : Row} (h : ∀ k, k + 1 < r.length → at0 r k ≤ at0 r (k + 1)) : Srt r := by
  rw [Srt, List.pairwise_iff_getElem]
  have g : ∀ (k : Nat) (hk : k < r.length), r[k] = at0 r k := fun k hk => by
    unfold at0
    rw [List.getD_eq_getElem?_getD, List.getElem?_eq_getElem hk] <;> rfl
  have key : ∀ (d i : Nat), i + d < r.length → at0 r i ≤ at0 r (i + d) := by
    intro d
    induction d with
    | zero => intro i _; exact Int.le_refl _
    | succ d ih =>
      intro i hi
      have h1 := ih i (by omega)
      have h2 := h (i + d) (by omega)
      rw [show i + (d + 1) = i + d + 1 by omega]
      omega
  intro i j hi hj hij
  rw [g, g]
  have := key (j - i) i (by omega)
  rw [show i + (j - i) = j by omega] at this
  exact this
theorem srt_chain {r : Row} (h : Srt r) (k : Nat) (hk : k + 1 < r.length) : at0 r k ≤ at0 r (k + 1) := by
  rw [Srt, List.pairwise_iff_getElem] at h
  have g : ∀ (k : Nat) (hk : k < r.length), r[k] = at0 r k := fun k hk => by
    unfold at0
    rw [List.getD_eq_getElem?_getD, List.getElem?_eq_getElem hk] <;> rfl
  have := h k (k + 1) (by omega) hk (by omega)
  rw [g, g] at this
  exact this
theorem sorts_iff {cs : List Cmp} {n : Nat} {r : Row} (hr : r.length = n) : sortsB cs n r = false ↔ Srt (gone cs r) := by
  have hl : (gone cs r).length = n := by rw [gone_len, hr]
  unfold sortsB
  rw [List.any_eq_false]
  constructor
  · intro h
    refine chain_srt fun k hk => ?_
    have := h k (List.mem_range.mpr (by omega))
    unfold gtB at this
    rw [decide_eq_true_eq] at this
    omega
  · intro h k hk
    have hk' := List.mem_range.mp hk
    have := srt_chain h k (by omega)
    unfold gtB
    rw [decide_eq_true_eq]
    omega
def Wuns (n : Nat) (a p : Addr) (cs : List Cmp) (H1 : Hp) (i : Nat) (σ : L2.St) (H' : Hp) : Prop :=
  ∃ y4, σ = [some (.int (n : Int)), some (.ref a), some (.ref p), some (.int (maskN (fun r => (List.range i).any fun k => gtB cs k (k + 1) r) (bares n) : Nat)), y4] ∧ Same H1 H'
theorem rdq_unsorted (vs : List V) (H : Hp) (Q : VK) (E : XK) (h : sq_unsorted K vs H Q E) : rq_unsorted K { nx := fun _ H' => Q .non H', rt := Q } (L2.start N_unsorted vs) H := by
  obtain ⟨n, a, cs, rfl, hw, q⟩ := h
  have n1 : 1 ≤ n := hw.choose_spec.2.2.2.1
  have n10 := webAt_get hw
  unfold rq_unsorted N_unsorted
  walk_at "ev"
  refine ⟨n, a, cs, rfl, hw, fun H1 s1 => ?_⟩
  refine ⟨n, a, cs, rfl, webAt_same s1 hw, fun H2 p s2 np hp => ?_⟩
  refine for_rng (n := n - 1) (fun Q q => ?_) (by omega) (Wuns n a p cs H2) ⟨none, ?_, .refl _⟩ (fun i σ H' hi hW => ?_) (fun σ H' hW => ?_)
  · walk_at "ev"
    rw [show (n : Int) - 1 = ((n - 1 : Nat) : Int) by omega]
    exact q
  · have z : maskN (fun r => (List.range 0).any fun k => gtB cs k (k + 1) r) (bares n) = 0 := mask_zero.mpr fun x _ => rfl
    rw [z] <;> rfl
  · obtain ⟨y4, rfl, s⟩ := hW
    unfold rq_unsorted_f1
    walk_at "ev"
    refine ⟨p, n, i, i + 1, cs, by rw [Int.natCast_add] <;> rfl, .inl (.inl (s _ _ hp)), by omega, by omega, ?_⟩
    walk_at "ev"
    refine ⟨some (.int (i : Int)), ?_, s⟩
    rw [i_or, mask_congr fun r _ => ?_]
    rw [List.range_succ, List.any_append]
    show _ = (_ || (gtB cs i (i + 1) r || false))
    rw [Bool.or_false]
  · obtain ⟨y4, rfl, s⟩ := hW
    walk_at "ev"
    refine ⟨n, _, rfl, n10, ?_⟩
    exact q.on (s1.trans (s2.trans s))
def Wdiff (n : Nat) (a b : Addr) (cs ds : List Cmp) (H1 : Hp) (i : Nat) (σ : L2.St) (H' : Hp) : Prop :=
  ∃ y4 y5, σ = [some (.int (n : Int)), some (.ref a), some (.ref b), some (.int (maskN (fun r => (List.range i).any fun k => one0 (gone cs r) k != one0 (gone ds r) k) (bares n) : Nat)), y4, y5] ∧ Same H1 H'
theorem zip_in {σ : L2.St} {H : Hp} {a b : Addr} {xs ys : List V} {j1 j2 : Nat} {tb : TS} {D : Ends} (hx : SqL K H a xs) (hy : SqL K H b ys) (hz : xs.length = ys.length) (Pv : Nat → L2.St → Hp → Prop) (h0 : Pv 0 σ H) (hl : ∀ i σ H, i ≤ xs.length → Pv i σ H → SqL K H a xs ∧ SqL K H b ys)
    (turn : ∀ i x y σ H H', xs[i]? = some x → ys[i]? = some y → i < xs.length → Pv i σ H → Same H H' → tb { D with nx := Pv (i + 1), ct := Pv (i + 1), bk := D.nx } ((σ.set j1 (some x)).set j2 (some y)) H')
    (done : ∀ σ H, Pv xs.length σ H → D.nx σ H) :
    ForK (gTup K 2 (gCons (gName j1) (gCons (gName j2) gNil))) tb D σ (Itz K a b) H := by
  refine it_for (n := xs.length) Pv h0 (fun i σ H hi p => ?_) (fun σ H p => ?_) (fun i σ H hi p v H' y => ?_) done
  · obtain ⟨x, gx⟩ := get_of hi
    obtain ⟨y, gy⟩ := get_of (xs := ys) (i := i) (by omega)
    obtain ⟨q1, q2⟩ := hl i σ H (Nat.le_of_lt hi) p
    exact ⟨xs, ys, x, y, q1, q2, gx, gy⟩
  · obtain ⟨q1, q2⟩ := hl _ σ H (Nat.le_refl _) p
    exact ⟨xs, ys, q1, q2, .inl (Nat.le_refl _)⟩
  · obtain ⟨T, x, y, rfl, nT, rfl, f1, f2⟩ := y
    obtain ⟨q1, q2⟩ := hl i σ H (Nat.le_of_lt hi) p
    exact g2_run (.inl (.inl upd_same)) (turn i x y σ H _ (f1 xs q1) (f2 ys q2) hi p (same_new nT))
theorem rdq_differing (vs : List V) (H : Hp) (Q : VK) (E : XK) (h : sq_differing K vs H Q E) : rq_differing K { nx := fun _ H' => Q .non H', rt := Q } (L2.start N_differing vs) H := by
  obtain ⟨n, a, b, cs, ds, rfl, hw, hw2, q⟩ := h
  have n10 := webAt_get hw
  unfold rq_differing N_differing
  walk_at "ev"
  refine ⟨n, a, cs, rfl, hw, fun H1 s1 => ?_⟩
  refine ⟨n, b, ds, rfl, webAt_same s1 hw2, fun H2 s2 => ?_⟩
  have s12 := s1.trans s2
  show tFor _ _ _ _ _ _
  rw [for_def]
  unfold iZip
  walk_at "ev"
  refine ⟨n, a, cs, rfl, webAt_same s12 hw, fun H3 p s3 np hp => ?_⟩
  have s13 := s12.trans s3
  refine ⟨n, b, ds, rfl, webAt_same s13 hw2, fun H4 p2 s4 np2 hp2 => ?_⟩
  have s14 := s13.trans s4
  refine ⟨p, rfl, p2, rfl, _, .inl (.inl (s4 _ _ hp)), _, .inl (.inl hp2), ?_⟩
  refine zip_in (xs := vis (cols n cs)) (ys := vis (cols n ds)) (.inl (.inl (s4 _ _ hp))) (.inl (.inl hp2)) (by rw [ints_len, ints_len, cols_len, cols_len]) (Wdiff n a b cs ds H4) ⟨none, none, ?_, .refl _⟩ (fun i σ H' _ hW => ?_) (fun i x y σ H5 H6 hx hy hi hW s6 => ?_) (fun σ H' hW => ?_)
  · have z : maskN (fun r => (List.range 0).any fun k => one0 (gone cs r) k != one0 (gone ds r) k) (bares n) = 0 := mask_zero.mpr fun x _ => rfl
    rw [z] <;> rfl
  · obtain ⟨_, _, _, s⟩ := hW
    exact ⟨.inl (.inl ((s4.trans s) _ _ hp)), .inl (.inl (s _ _ hp2))⟩
  · obtain ⟨y4, y5, rfl, s⟩ := hW
    rw [ints_len, cols_len] at hi
    rw [col_get hi] at hx hy
    cases hx
    cases hy
    unfold rq_differing_f1
    walk_at "ev"
    refine ⟨some (.int (colV n cs i)), some (.int (colV n ds i)), ?_, s.trans s6⟩
    unfold colV
    rw [i_xor, i_or, mask_congr fun r _ => ?_]
    rw [List.range_succ, List.any_append]
    show _ = (_ || ((one0 (gone cs r) i != one0 (gone ds r) i) || false))
    rw [Bool.or_false]
  · obtain ⟨y4, y5, rfl, s⟩ := hW
    walk_at "ev"
    rw [ints_len, cols_len]
    refine ⟨n, _, rfl, n10, ?_⟩
    exact q.on (s14.trans s)
end Sw

set_option Elab.async false
set_option linter.all false
set_option maxRecDepth 100000
set_option maxHeartbeats 4000000
namespace Sw
open PySem PySem.Spec PyProof.Rows L2
local macro_rules | `(tactic| walk_at "ev") => `(tactic| simp only [tSeq, tCalW, quiet, tRzA, tRzO, tTryT, tTryK, tJoin, tJs, tBM, tBits, kStrI, kIntS, kLenS, mSplit, mPart, mIndex, tAsg, tRet, tRetN, tOp, tUn, tVar, tC, tNil, tCons, tCB, tDrop, tNext, tCont, tBreak, tIfS, tIf, tTest, tChain, tChain3, tB, tTup, tLst, tAnd, tOr, tNot, tAndV, tOrV, tNotV, tPart, tNoPart, tSl, tCal, tAug, ipI, rI0, rI, rU, rEq, rNe, kMin, kMax, gName, gCons, gNil, L2.start, wipe, List.map_cons, List.map_nil, List.length_cons, List.length_nil, List.cons_append, List.nil_append, List.append_nil, Nat.reduceAdd, Nat.reduceSub, List.replicate_succ, List.replicate_zero, List.getElem?_cons_zero, List.getElem?_cons_succ, List.set_cons_succ, List.set_cons_zero, Option.some.injEq, exists_eq_left', exists_eq_left, V.int.injEq, V.bl.injEq, V.str.injEq, V.ref.injEq, List.cons.injEq, exists_and_left, and_assoc, and_true, true_and, scal_ii, scal_ss, scal_nn, scal_bb, scal_ni, scal_in, decide_eq_true_eq, Bool.not_true, Bool.not_false, Bool.not_eq_true', decide_eq_false_iff_not, ite_not, reduceCtorEq, if_true, if_false, Bool.false_eq_true, ne_eq, not_true_eq_false, not_false_eq_true, Int.reduceLT, Int.reduceLE, Int.reduceNeg])
local macro_rules | `(tactic| walk_at "cm") => `(tactic| first | exact Or.inr ⟨by decide, by decide⟩ | exact Or.inl ⟨by decide, by decide⟩ | exact Or.inl ⟨by omega, by omega⟩ | exact Or.inr ⟨by omega, by omega⟩)
variable {K : PySem.W.Frag}
def hts (n : Nat) (h : Hgt) : Row := (List.range n).map fun l => (h l : Int)
theorem hts_len (n : Nat) (h : Hgt) : (hts n h).length = n := by
  unfold hts
  rw [List.length_map, List.length_range]
theorem hts_get {n l : Nat} {h : Hgt} (hl : l < n) : (vis (hts n h))[l]? = some (.int (h l : Int)) := by
  unfold vis hts
  rw [List.getElem?_map, List.getElem?_map, List.getElem?_range hl] <;> rfl
theorem hts_set {n : Nat} {h : Hgt} {c : Cmp} : ((hts n h).set c.1 ((tierH h c : Int) + 1)).set c.2 ((tierH h c : Int) + 1) = hts n (stepH h c) := by
  apply List.ext_getElem
  · rw [List.length_set, List.length_set, hts_len, hts_len]
  · intro k h1 h2
    have e : ∀ (g : Hgt) (hk : k < (hts n g).length), (hts n g)[k] = (g k : Int) := fun g hk => by
      have hk' : k < n := by rw [hts_len] at hk; exact hk
      have z : (hts n g)[k]? = some (g k : Int) := by
        unfold hts
        rw [List.getElem?_map, List.getElem?_range hk'] <;> rfl
      rw [List.getElem?_eq_getElem hk] at z
      exact Option.some.inj z
    rw [List.getElem_set, List.getElem_set, e, e]
    unfold stepH
    by_cases z : c.2 = k
    · rw [if_pos z, if_pos (.inr z.symm)] <;> rfl
    · rw [if_neg z]
      by_cases y : c.1 = k
      · rw [if_pos y, if_pos (.inl y.symm)] <;> rfl
      · rw [if_neg y, if_neg (by omega)]
theorem hgt_take {cs : List Cmp} {i : Nat} {c : Cmp} (hc : cs[i]? = some c) : hgtH (fun _ => 0) (cs.take (i + 1)) = stepH (hgtH (fun _ => 0) (cs.take i)) c := by
  rw [List.take_add_one, hc, hgtH_app] <;> rfl
def Wdep (n : Nat) (a D L : Addr) (cs : List Cmp) (H : Hp) (i : Nat) (σ : L2.St) (H' : Hp) : Prop :=
  ∃ y4 y5 y6, σ = [some (.int (n : Int)), some (.ref a), some (.ref D), some (.ref L), y4, y5, y6] ∧ Same H H' ∧ H' D = some (.lst (natL ((tiers cs).take i))) ∧ H' L = some (.lst (vis (hts n (hgtH (fun _ => 0) (cs.take i)))))
theorem rd_depths (vs : List V) (H : Hp) (Q : VK) (E : XK) (h : sp_depths K vs H Q E) : r_depths K { nx := fun _ H' => Q .non H', rt := Q } (L2.start N_depths vs) H := by
  obtain ⟨n, a, cs, rfl, ⟨ps, ha, hp, ok, n1, n10⟩, q⟩ := h
  have hpl := hp.length
  have h60 := ok.1
  unfold r_depths N_depths
  walk_at "ev"
  refine ⟨small_line (by decide), fun D nD => ⟨small_line (by decide), fun f nf => ?_⟩⟩
  have s0 := (same_new (o := .lst []) nD).trans (same_new (o := .lst [.int 0]) nf)
  refine ⟨f, (n : Int), _, rfl, rfl, upd_same, by omega, by omega, small_line (by simp; omega), fun L nL => ?_⟩
  have e0 : (List.replicate (n : Int).toNat [V.int 0]).flatten = vis (hts n (fun _ => 0)) := by
    rw [Int.toNat_natCast]
    unfold hts vis
    clear nL s0 n1 n10 ok
    induction n with
    | zero => rfl
    | succ m ih =>
      rw [List.replicate_succ', List.flatten_append, ih, List.range_succ, List.map_append, List.map_append] <;> rfl
  rw [e0]
  have s1 := s0.trans (same_new (o := .lst (vis (hts n fun _ => 0))) nL)
  have nLH : H L = none := s0.free nL
  have hD1 : (upd (upd (upd H D (.lst [])) f (.lst [.int 0])) L (.lst (vis (hts n fun _ => 0)))) D = some (.lst []) := (same_new nL) _ _ ((same_new nf) _ _ upd_same)
  have hL1 : (upd (upd (upd H D (.lst [])) f (.lst [.int 0])) L (.lst (vis (hts n fun _ => 0)))) L = some (.lst (vis (hts n fun _ => 0))) := upd_same
  have DL : D ≠ L := ne_of_none ((same_new nf) _ _ upd_same) nL
  generalize upd (upd (upd H D (.lst [])) f (.lst [.int 0])) L (.lst (vis (hts n fun _ => 0))) = H1 at s1 hD1 hL1
  refine for_pairs (a := a) (ps := ps) rfl (s1.seq ha) (fun i => match cs[i]? with | some c => (.int (c.1 : Int), .int (c.2 : Int)) | none => (.non, .non))
    (Wdep n a D L cs H) ⟨none, none, none, rfl, s1, hD1, hL1⟩ (fun i σ H' _ hW => ?_) (fun i g σ H' hg hW => ?_) (fun i g σ H' hg hW => ?_) (fun σ H' hW => ?_)
  · obtain ⟨_, _, _, _, s, _⟩ := hW
    exact s.seq ha
  · obtain ⟨_, _, _, _, s, _⟩ := hW
    obtain ⟨c, hc, ht⟩ := hp.getL hg
    rw [hc]
    exact Same.sqt s ht
  · obtain ⟨y4, y5, y6, rfl, s, hD, hL⟩ := hW
    obtain ⟨c, hc, ht⟩ := hp.getL hg
    rw [hc]
    have okc := ok.2 c (List.mem_of_getElem? hc)
    have tg := tiers_get hc
    have hi : i < cs.length := (List.getElem?_eq_some_iff.mp hc).1
    generalize eh : hgtH (fun _ => 0) (cs.take i) = h at hL tg
    have et : (tiers cs).take (i + 1) = (tiers cs).take i ++ [tierH h c] := by rw [List.take_add_one, tg] <;> rfl
    unfold r_depths_f1
    walk_at "ev"
    refine ⟨L, _, _, _, rfl, rfl, .inl (.inl hL), atI_nat (hts_get okc.1), L, _, _, _, rfl, rfl, .inl (.inl hL), atI_nat (hts_get okc.2.1), ?_⟩
    have em : (if (h c.2 : Int) > (h c.1 : Int) then (h c.2 : Int) else (h c.1 : Int)) = (tierH h c : Int) := by
      unfold tierH
      split <;> omega
    refine ⟨_, rfl, _, rfl, .inl ⟨rfl, _, .inl (.inl hD)⟩, ?_⟩
    rw [em]
    refine ⟨D, _, _, rfl, rfl, hD, by rw [nat_len, List.length_take]; exact small_lt (by omega), ?_⟩
    have hL2 : (upd H' D (.lst (natL ((tiers cs).take i) ++ [.int (tierH h c : Int)]))) L = some (.lst (vis (hts n h))) := by rw [upd_ne DL.symm]; exact hL
    refine set_run (a := c.1) rfl rfl hL2 (by rw [ints_len, hts_len]; exact okc.1) ?_
    walk_at "ev"
    refine set_run (a := c.2) rfl rfl upd_same (by rw [List.length_set, ints_len, hts_len]; exact okc.2.1) ?_
    refine ⟨_, _, _, rfl, same_mut (same_mut (same_mut s nD) nLH) nLH, ?_, ?_⟩
    · rw [upd_ne DL, upd_ne DL, upd_same, et]
      unfold natL
      rw [List.map_append] <;> rfl
    · rw [upd_same, hgt_take hc, eh, ints_set, ints_set, hts_set]
  · obtain ⟨y4, y5, y6, rfl, s, hD, hL⟩ := hW
    walk_at "ev"
    rw [hpl, ← tiers_len, List.take_length] at hD
    exact q H' D s nD hD
theorem inV_pair {x : Nat} {c : Cmp} : inV (.int (x : Int)) (V2 c) = decide (x = c.1 ∨ x = c.2) := by
  unfold inV V2
  show (((c.1 : Int) == (x : Int)) || (((c.2 : Int) == (x : Int)) || false)) = _
  rw [Bool.or_false, Bool.eq_iff_iff, Bool.or_eq_true, beq_iff_eq, beq_iff_eq, decide_eq_true_eq]
  omega
theorem rd_meet (vs : List V) (H : Hp) (Q : VK) (E : XK) (h : sp_meet K vs H Q E) : r_meet K { nx := fun _ H' => Q .non H', rt := Q } (L2.start N_meet vs) H := by
  obtain ⟨a, b, c, d, rfl, ha, hb, q⟩ := h
  unfold r_meet N_meet
  walk_at "ev"
  refine g2_run ha ?_
  walk_at "ev"
  refine ⟨b, _, rfl, .inr hb, rfl, rfl, _, rfl, ?_⟩
  have f0 : ∀ b c : Bool, (if false = true then b else c) = c := fun b c => rfl
  rw [f0, inV_pair]
  by_cases z : c.1 = d.1 ∨ c.1 = d.2
  · rw [if_pos (decide_eq_true z)]
    have : share c d = true := by
      unfold share
      rw [decide_eq_true_eq]
      omega
    rw [← this]
    exact q
  · rw [if_neg (by rw [decide_eq_false z]; decide)]
    refine ⟨b, _, rfl, .inr hb, rfl, rfl, ?_⟩
    rw [f0, inV_pair]
    have : decide (c.2 = d.1 ∨ c.2 = d.2) = share c d := by
      unfold share
      refine decide_eq_decide.mpr ?_
      omega
    rw [this]
    exact q
theorem all2_of_get {α β : Type} {R : α → β → Prop} : ∀ {l : List α} {m : List β}, l.length = m.length → (∀ (i : Nat) a b, l[i]? = some a → m[i]? = some b → R a b) → All2 R l m
  | [], [], _, _ => .nil
  | [], _ :: _, h, _ => nomatch h
  | _ :: _, [], h, _ => nomatch h
  | a :: l, b :: m, h, g => .cons (g 0 a b rfl rfl) (all2_of_get (Nat.succ.inj h) fun i x y hx hy => g (i + 1) x y hx hy)
theorem All2.imp_mem {α β : Type} {R S : α → β → Prop} {l : List α} {m : List β} (h : All2 R l m) : (∀ a b, a ∈ l → R a b → S a b) → All2 S l m := by
  induction h with
  | nil => intro _; exact .nil
  | cons r _ ih => intro f; exact .cons (f _ _ (.head _) r) (ih fun a b ha hb => f a b (.tail _ ha) hb)
theorem nodup_ne {l : List Addr} (h : l.Nodup) {i j : Nat} {a b : Addr} (hi : l[i]? = some a) (hj : l[j]? = some b) (n : i ≠ j) : a ≠ b := by
  obtain ⟨h1, e1⟩ := List.getElem?_eq_some_iff.mp hi
  obtain ⟨h2, e2⟩ := List.getElem?_eq_some_iff.mp hj
  have h' := List.pairwise_iff_getElem.mp h
  rcases Nat.lt_or_ge i j with z | z
  · have := h' i j h1 h2 z
    rw [e1, e2] at this
    exact this
  · have := h' j i h2 h1 (by omega)
    rw [e1, e2] at this
    exact this.symm
theorem lays_push {H0 H : Hp} {ls : List Addr} {xss : List (List Cmp)} {t : Nat} {l : Addr} {xs : List Cmp} {ps : List Addr} {g : Addr} {c : Cmp} (h : Lays K H0 H ls xss) (hl : ls[t]? = some l) (hx : xss[t]? = some xs)
    (hp : H l = some (.lst (Rfs ps))) (hps : Prs K H ps xs) (hg : SqT K H g (V2 c)) : Lays K H0 (upd H l (.lst (Rfs ps ++ [.ref g]))) ls (xss.set t (xs ++ [c])) := by
  obtain ⟨h1, nd⟩ := h
  refine ⟨all2_of_get (by rw [List.length_set]; exact h1.length) fun i a b ha hb => ?_, nd⟩
  obtain ⟨xs', hx', fr, qs, hq, hqs⟩ := h1.getL ha
  refine ⟨fr, ?_⟩
  rw [List.getElem?_set] at hb
  by_cases z : t = i
  · rw [if_pos z] at hb
    subst z
    have ea : a = l := Option.some.inj (ha.symm.trans hl)
    subst ea
    rw [if_pos (List.getElem?_eq_some_iff.mp hx).1] at hb
    have eb := Option.some.inj hb
    subst eb
    refine ⟨ps ++ [g], ?_, ?_⟩
    · rw [upd_same]
      unfold Rfs
      rw [List.map_append] <;> rfl
    · exact prs_upd hp (hps.snoc hg)
  · rw [if_neg z] at hb
    have eb : b = xs' := Option.some.inj (hb.symm.trans hx')
    subst eb
    have na : a ≠ l := nodup_ne nd ha hl fun e => z e.symm
    exact ⟨qs, by rw [upd_ne na]; exact hq, prs_upd hp hqs⟩
theorem lays_same {H0 H H' : Hp} {ls : List Addr} {xss : List (List Cmp)} (s : Same H H') (h : Lays K H0 H ls xss) : Lays K H0 H' ls xss :=
  ⟨h.1.imp fun _ _ r => ⟨r.1, by obtain ⟨ps, a, b⟩ := r.2; exact ⟨ps, s _ _ a, Same.prs s b⟩⟩, h.2⟩
def Wlayr (K : PySem.W.Frag) (n : Nat) (a f t : Addr) (cs : List Cmp) (H : Hp) (i : Nat) (σ : L2.St) (H' : Hp) : Prop :=
  ∃ y3 y4 ls, σ = [some (.int (n : Int)), some (.ref a), some (.ref f), y3, y4] ∧ Same H H' ∧ H' f = some (.lst (Rfs ls)) ∧ H' t = some (.lst (natL (tiers cs))) ∧ f ∉ ls ∧ t ∉ ls ∧ Lays K H H' ls (layL cs i (manyL ((tiers cs).take i)))
theorem natL_get {l : List Nat} {i : Nat} {x : V} (h : (natL l)[i]? = some x) : ∃ t : Nat, x = .int (t : Int) ∧ l[i]? = some t := by
  unfold natL at h
  rw [List.getElem?_map] at h
  cases e : l[i]? with
  | none => rw [e] at h; cases h
  | some z => rw [e] at h; exact ⟨z, (Option.some.inj h).symm, rfl⟩
theorem natL_at {l : List Nat} {i t : Nat} (h : l[i]? = some t) : (natL l)[i]? = some (.int (t : Int)) := by
  unfold natL
  rw [List.getElem?_map, h] <;> rfl
theorem many_le (cs : List Cmp) (i : Nat) : manyL ((tiers cs).take i) ≤ manyT cs := by
  unfold manyT
  conv => rhs; rw [← List.take_append_drop i (tiers cs), manyL_app]
  omega
theorem rdq_layers (vs : List V) (H : Hp) (Q : VK) (E : XK) (h : sq_layers K vs H Q E) : rq_layers K { nx := fun _ H' => Q .non H', rt := Q } (L2.start N_layers vs) H := by
  obtain ⟨n, a, cs, rfl, hw, q⟩ := h
  obtain ⟨ps, ha, hp, ok, n1, n10⟩ := id hw
  have hpl := hp.length
  have h60 := ok.1
  unfold rq_layers N_layers
  walk_at "ev"
  refine ⟨n, a, cs, rfl, hw, fun H1 s1 => ⟨small_line (by decide), fun f nf => ?_⟩⟩
  have s2 := s1.trans (same_new (o := .lst []) nf)
  have nfH := s1.free nf
  show tFor _ _ _ _ _ _
  rw [for_def]
  unfold iZip
  walk_at "ev"
  refine ⟨n, a, cs, rfl, webAt_same s2 hw, fun H2 t s3 nt ht => ?_⟩
  have s23 := s2.trans s3
  have hf2 := s3 _ _ (upd_same (H := H1) (a := f) (o := .lst []))
  have tf : t ≠ f := fun z => by rw [z, upd_same] at nt; cases nt
  refine ⟨t, rfl, _, s23.seq ha, _, .inl (.inl ht), ?_⟩
  refine zip_in (xs := Rfs ps) (ys := natL (tiers cs)) (s23.seq ha) (.inl (.inl ht)) (by rw [rfs_len, nat_len, tiers_len]; exact hpl) (fun i σ H' => Wlayr K n a f t cs H i σ H') ⟨none, none, [], rfl, s23, hf2, ht, (fun h => nomatch h), (fun h => nomatch h), .nil, .nil⟩ (fun i σ H' _ hW => ?_) (fun i x y σ H5 H6 hx hy hi hW s6 => ?_) (fun σ H' hW => ?_)
  · obtain ⟨_, _, _, _, s, _, ht', _⟩ := hW
    exact ⟨s.seq ha, .inl (.inl ht')⟩
  · obtain ⟨y3, y4, ls, rfl, s, hf, ht', fl, tl, hls⟩ := hW
    obtain ⟨g, rfl, hg⟩ := rfs_get hx
    obtain ⟨c, hc, hgc⟩ := hp.getL hg
    obtain ⟨d, rfl, hd⟩ := natL_get hy
    have st := s.trans s6
    have hf6 := s6 _ _ hf
    have ht6 := s6 _ _ ht'
    have hls6 := lays_same s6 hls
    have dle := tier_le hd
    have ll := hls.1.length
    rw [layL_len] at ll
    have il : i < 60 := by rw [rfs_len] at hi; omega
    have many := many_le cs i
    have m60 : manyT cs ≤ cs.length := by
      have z := chain_len cs
      have y := ch_len cs cs.length
      unfold chainOf at z
      rw [List.length_reverse] at z
      omega
    have e1 : manyL ((tiers cs).take (i + 1)) = max (manyL ((tiers cs).take i)) (d + 1) := by
      rw [List.take_add_one, hd]
      show manyL ((tiers cs).take i ++ [d]) = _
      rw [manyL_app]
      show max _ (max (d + 1) 0) = _
      omega
    unfold rq_layers_f1
    walk_at "ev"
    refine ⟨f, _, rfl, .inl (.inl (.inl hf6)), ?_⟩
    rw [rfs_len, ll]
    have fin : ∀ (H7 : Hp) (ls' : List Addr), Same H H7 → H7 f = some (.lst (Rfs ls')) → H7 t = some (.lst (natL (tiers cs))) → f ∉ ls' → t ∉ ls' → d < manyL ((tiers cs).take (i + 1)) → Lays K H H7 ls' (layL cs i (manyL ((tiers cs).take (i + 1)))) →
        ∃ l ps', ls'[d]? = some l ∧ H7 l = some (.lst (Rfs ps')) ∧ ps'.length ≤ 60 ∧ Wlayr K n a f t cs H (i + 1) [some (.int (n : Int)), some (.ref a), some (.ref f), some (.ref g), some (.int (d : Int))] (upd H7 l (.lst (Rfs ps' ++ [.ref g]))) := fun H7 ls' s7 hf7 ht7 fl' tl' hdl hl7 => by
      have hx' : (layL cs i (manyL ((tiers cs).take (i + 1))))[d]? = some (layI cs i d) := layL_get hdl
      obtain ⟨l, hl, fr, ps', hl2, hps'⟩ := hl7.1.get hx'
      have lf : f ≠ l := fun z => fl' (z ▸ List.mem_of_getElem? hl)
      have lt' : t ≠ l := fun z => tl' (z ▸ List.mem_of_getElem? hl)
      have lp := hps'.length
      refine ⟨l, ps', hl, hl2, ?_, _, _, ls', rfl, same_mut s7 fr, by rw [upd_ne lf]; exact hf7, by rw [upd_ne lt']; exact ht7, fl', tl', ?_⟩
      · unfold layI layerOf at lp
        rw [List.length_map] at lp
        have := List.length_filter_le (fun p : Cmp × Nat => p.2 == d) ((cs.take i).zip ((tiers cs).take i))
        rw [List.length_zip, List.length_take] at this
        omega
      · rw [← layL_set hc hd]
        exact lays_push hl7 hl hx' hl2 hps' (Same.sqt s7 hgc)
    by_cases new : (d : Int) = (manyL ((tiers cs).take i) : Int)
    · refine ⟨rfl, ?_⟩
      rw [if_pos (congrArg V.int new)]
      refine ⟨.inl ⟨rfl, _, .inl (.inl hf6)⟩, small_line (by decide), fun l nl => ?_⟩
      have s7 := same_new (o := .lst []) nl
      have hf7 := s7 _ _ hf6
      have fl2 : l ≠ f := fun z => by rw [z, hf6] at nl; cases nl
      have tl2 : t ≠ l := ne_of_none ht6 nl
      have lls : l ∉ ls := fun z => by
        obtain ⟨j, hj⟩ := List.getElem?_of_mem z
        obtain ⟨_, _, _, qs, hq, _⟩ := hls6.1.getL hj
        rw [hq] at nl
        cases nl
      have mx : manyL ((tiers cs).take (i + 1)) = manyL ((tiers cs).take i) + 1 := by omega
      refine ⟨f, _, _, rfl, rfl, hf7, by rw [rfs_len, ll]; exact small_lt (by omega), ?_⟩
      have hl7 : Lays K H (upd (upd H6 l (.lst [])) f (.lst (Rfs (ls ++ [l])))) (ls ++ [l]) (layL cs i (manyL ((tiers cs).take (i + 1)))) := by
        rw [mx, layL_more]
        refine ⟨?_, ?_⟩
        · refine All2.append ((lays_same s7 hls6).1.imp_mem fun x xs hm r => ⟨r.1, ?_⟩) (.one ⟨st.free nl, [], by rw [upd_ne fl2]; exact upd_same, .nil⟩)
          obtain ⟨qs, h1, h2⟩ := r.2
          have xf : x ≠ f := fun z => fl (by rw [← z]; exact hm)
          exact ⟨qs, by rw [upd_ne xf]; exact h1, prs_upd hf7 h2⟩
        · rw [List.nodup_append]
          exact ⟨hls6.2, by simp, fun x hx y hy z => lls (by rw [List.mem_singleton.mp hy] at z; rw [← z]; exact hx)⟩
      obtain ⟨l', ps', k1, k2, k3, k4⟩ := fin (upd (upd H6 l (.lst [])) f (.lst (Rfs (ls ++ [l])))) (ls ++ [l]) (same_mut (st.trans s7) nfH) upd_same (by rw [upd_ne tf]; exact s7 _ _ ht6) (fun z => by rcases List.mem_append.mp z with z | z; exact fl z; exact fl2 (List.mem_singleton.mp z).symm) (fun z => by rcases List.mem_append.mp z with z | z; exact tl z; exact tl2 (List.mem_singleton.mp z)) (by omega) hl7
      have er : Rfs ls ++ [V.ref l] = Rfs (ls ++ [l]) := by
        unfold Rfs
        rw [List.map_append] <;> rfl
      rw [er]
      refine ⟨f, _, _, _, rfl, rfl, .inl (.inl upd_same), atI_nat (rfs_at k1), ?_⟩
      exact ⟨.inl ⟨rfl, _, .inl (.inl k2)⟩, l', _, _, rfl, rfl, k2, by rw [rfs_len]; exact small_lt (by omega), k4⟩
    · refine ⟨rfl, ?_⟩
      rw [if_neg fun z => new (V.int.inj z)]
      have mx : manyL ((tiers cs).take (i + 1)) = manyL ((tiers cs).take i) := by omega
      obtain ⟨l', ps', k1, k2, k3, k4⟩ := fin H6 ls st hf6 ht6 fl tl (by omega) (by rw [mx]; exact hls6)
      refine ⟨f, _, _, _, rfl, rfl, .inl (.inl hf6), atI_nat (rfs_at k1), ?_⟩
      exact ⟨.inl ⟨rfl, _, .inl (.inl k2)⟩, l', _, _, rfl, rfl, k2, by rw [rfs_len]; exact small_lt (by omega), k4⟩
  · obtain ⟨y3, y4, ls, rfl, s, hf, ht', fl, tl, hls⟩ := hW
    walk_at "ev"
    rw [rfs_len, hpl, ← tiers_len, List.take_length, tiers_len] at hls
    exact q H' f ls s nfH hf hls fl
theorem fork_itc {σ : L2.St} {H : Hp} {lo c : Int} {n j1 : Nat} {tb : TS} {D : Ends} (Pv : Nat → L2.St → Hp → Prop) (h0 : Pv 0 σ H)
    (turn : ∀ i σ H, i < n → Pv i σ H → tb { D with nx := Pv (i + 1), ct := Pv (i + 1), bk := D.nx } (σ.set j1 (some (.int (lo + (i : Nat) * c)))) H)
    (done : ∀ σ H, Pv n σ H → D.nx σ H) : ForK (gName j1) tb D σ (Itc lo c n) H := by
  refine it_for (n := n) Pv h0 (fun i σ H hi p => ?_) (fun σ H p => ?_) (fun i σ H hi p v H' y => ?_) done
  · exact hi
  · exact Nat.le_refl _
  · obtain ⟨rfl, rfl⟩ := y
    exact turn i σ H' hi p
theorem top_is {cs : List Cmp} {m : Int} (h1 : m ∈ natI (tiers cs)) (h2 : ∀ y ∈ natI (tiers cs), y ≤ m) : m = topT cs := by
  obtain ⟨t, ht, rfl⟩ := List.mem_map.mp h1
  have := manyL_lt ht
  unfold topT manyT
  obtain ⟨k, hk⟩ : ∃ k, manyL (tiers cs) = k + 1 := ⟨manyL (tiers cs) - 1, by omega⟩
  have := h2 _ (List.mem_map.mpr ⟨k, manyL_mem hk, rfl⟩)
  omega
def Wch (n : Nat) (a D P : Addr) (cs : List Cmp) (H : Hp) (i : Nat) (σ : L2.St) (H' : Hp) : Prop :=
  ∃ y5, σ = [some (.int (n : Int)), some (.ref a), some (.ref D), some (.int (chSt cs i).2), some (.ref P), y5] ∧ Same H H' ∧ H' D = some (.lst (natL (tiers cs))) ∧ H' P = some (.lst (natL (chSt cs i).1))
theorem rdq_chain (vs : List V) (H : Hp) (Q : VK) (E : XK) (h : sq_chain K vs H Q E) : rq_chain K { nx := fun _ H' => Q .non H', rt := Q } (L2.start N_chain vs) H := by
  obtain ⟨n, a, cs, rfl, hw, q⟩ := h
  obtain ⟨ps, ha, hp, ok, n1, n10⟩ := id hw
  have hpl := hp.length
  have h60 := ok.1
  unfold rq_chain N_chain
  walk_at "ev"
  refine ⟨n, a, cs, rfl, hw, fun H1 s1 => ?_⟩
  refine ⟨n, a, cs, rfl, webAt_same s1 hw, fun H2 D s2 nD hD => ?_⟩
  unfold tCKw
  walk_at "ev"
  have s12 := s1.trans s2
  have body : (V.int (topT cs)) = V.int (topT cs) → tSeq (tAsg (tLst (tNil)) (gName 4)) (tSeq (tFor (iRevR (tRg1 (tCB (kLen K) (tCons (tVar 1) (tNil))))) (gName 5) (rq_chain_f1 K)) (tRet (tRevL K (tVar 4)))) { nx := fun _ H' => Q .non H', rt := Q }
      [some (.int (n : Int)), some (.ref a), some (.ref D), some (.int (topT cs)), none, none] H2 := fun _ => by
    walk_at "ev"
    refine ⟨small_line (by decide), fun P nP => ?_⟩
    have s3 := s12.trans (same_new (o := .lst []) nP)
    have nPH := s12.free nP
    have hP : (upd H2 P (.lst [])) P = some (.lst []) := upd_same
    have hD3 := (same_new (o := .lst []) nP) _ _ hD
    have DP : D ≠ P := ne_of_none hD nP
    generalize upd H2 P (.lst []) = H3 at s3 hP hD3
    show tFor _ _ _ _ _ _
    rw [for_def]
    unfold iRevR tRg1
    walk_at "ev"
    refine ⟨a, _, rfl, .inl (s3.seq ha), ?_⟩
    refine ⟨_, rfl, by decide, by decide, by omega, by rw [rfs_len]; omega, ?_⟩
    rw [rfs_len, hpl, show ((cs.length : Int) - 0).toNat = cs.length by omega]
    refine fork_itc (Wch n a D P cs H) ⟨none, rfl, s3, hD3, hP⟩ (fun i σ H' hi hW => ?_) (fun σ H' hW => ?_)
    · obtain ⟨y5, rfl, s, hD', hP'⟩ := hW
      rw [show (0 : Int) + (cs.length : Int) - 1 + (i : Nat) * (-1) = ((cs.length - 1 - i : Nat) : Int) by omega]
      have hk : cs.length - 1 - i < cs.length := by omega
      have step : chSt cs (i + 1) = chStep cs (cs.length - 1 - i) (chSt cs i) := rfl
      have clen := ch_len cs i
      have I := ch_inv cs i (by omega)
      generalize cs.length - 1 - i = k at hk step
      obtain ⟨t, ht⟩ := get_of (xs := tiers cs) (i := k) (by rw [tiers_len]; exact hk)
      obtain ⟨c, hc⟩ := get_of hk
      obtain ⟨g, hg, hgc⟩ := hp.get hc
      unfold rq_chain_f1
      walk_at "ev"
      refine ⟨D, _, _, _, rfl, rfl, .inl (.inl hD'), atI_nat (natL_at ht), ?_⟩
      refine ⟨rfl, ?_⟩
      have miss : ∀ H5, Same H H5 → H5 D = some (.lst (natL (tiers cs))) → H5 P = some (.lst (natL (chSt cs i).1)) → ¬ chOk cs k (chSt cs i) → Wch n a D P cs H (i + 1) [some (.int (n : Int)), some (.ref a), some (.ref D), some (.int (chSt cs i).2), some (.ref P), some (.int (k : Int))] H5 := fun H5 s5 h1 h2 h3 => by
        refine ⟨some (.int (k : Int)), ?_, s5, h1, ?_⟩
        · rw [step]
          unfold chStep
          rw [if_neg h3]
        · rw [step]
          unfold chStep
          rw [if_neg h3]
          exact h2
      by_cases e1 : (t : Int) = (chSt cs i).2
      · rw [if_pos (congrArg V.int e1)]
        have hit : ∀ H5, Same H H5 → H5 D = some (.lst (natL (tiers cs))) → H5 P = some (.lst (natL (chSt cs i).1)) → chOk cs k (chSt cs i) → tyV K "list" (.ref P) H5 ∧ rAppend (.ref P) [.int (k : Int)] H5 fun _ H6 => Wch n a D P cs H (i + 1) [some (.int (n : Int)), some (.ref a), some (.ref D), some (.int ((chSt cs i).2 - 1)), some (.ref P), some (.int (k : Int))] H6 := fun H5 s5 h1 h2 h3 => by
          refine ⟨.inl ⟨rfl, _, .inl (.inl h2)⟩, P, _, _, rfl, rfl, h2, by rw [nat_len]; exact small_lt (by omega), ?_⟩
          refine ⟨some (.int (k : Int)), ?_, same_mut s5 nPH, by rw [upd_ne DP]; exact h1, ?_⟩
          · rw [step]
            unfold chStep
            rw [if_pos h3]
          · rw [step, upd_same]
            unfold chStep natL
            rw [if_pos h3, List.map_append] <;> rfl
        refine ⟨small_line (by decide), fun q nq => ?_⟩
        have s4 := same_new (o := .lst []) nq
        have hP4 := s4 _ _ hP'
        have hD4 := s4 _ _ hD'
        have st := s.trans s4
        have hq4 : (upd H' q (.lst [])) q = some (.lst []) := upd_same
        generalize upd H' q (.lst []) = H4 at hP4 hD4 st hq4
        refine ⟨dI (natI (chSt cs i).1), dI [], dp_row (by rw [← natL_vis]; exact .inl (.inl hP4)), dp_row (.inl (.inl hq4)), enc_row.shaped (by decide) _, enc_row.shaped (by decide) _, ?_⟩
        rw [enc_row.eq]
        cases hl : (chSt cs i).1.getLast? with
        | none =>
          have z : (chSt cs i).1 = [] := List.getLast?_eq_none_iff.mp hl
          refine ⟨true, by rw [z] <;> rfl, ?_⟩
          rw [if_pos rfl]
          exact hit _ st hD4 hP4 ⟨by rw [tAt_get ht]; exact e1, fun q' hq' => by rw [hl] at hq'; cases hq'⟩
        | some l =>
          have z : ¬ natI (chSt cs i).1 = [] := fun y => by
            have : (chSt cs i).1 = [] := List.map_eq_nil_iff.mp y
            rw [this] at hl
            cases hl
          have hla := last_at hl
          obtain ⟨_, hlt, _⟩ := I.at' _ _ hla
          obtain ⟨d, hd⟩ := get_of hlt
          obtain ⟨g2, hg2, hgd⟩ := hp.get hd
          refine ⟨false, by rw [decide_eq_false z], ?_⟩
          rw [if_neg (by decide)]
          refine ⟨a, _, _, _, rfl, rfl, st.seq ha, atI_nat (rfs_at hg), ?_⟩
          refine ⟨P, _, _, _, rfl, rfl, .inl (.inl hP4), atI_end (n := (chSt cs i).1.length - 1) (natL_at hla) ?_, ?_⟩
          · rw [nat_len]
            have : (chSt cs i).1.length ≠ 0 := fun y => by
              rw [List.eq_nil_of_length_eq_zero y] at hl
              cases hl
            omega
          refine ⟨a, _, _, _, rfl, rfl, st.seq ha, atI_nat (rfs_at hg2), ?_⟩
          refine ⟨g, g2, c, d, rfl, Same.sqt st hgc, Same.sqt st hgd, ?_⟩
          refine ⟨_, rfl, ?_⟩
          cases hs : share c d with
          | true =>
            rw [if_pos rfl]
            refine hit _ st hD4 hP4 ⟨by rw [tAt_get ht]; exact e1, fun q' hq' => ?_⟩
            have : q' = l := Option.some.inj (hq'.symm.trans hl)
            rw [this, cAt_get hc, cAt_get hd]
            exact hs
          | false =>
            rw [if_neg (by decide)]
            refine miss _ st hD4 hP4 fun y => ?_
            have := y.2 l hl
            rw [cAt_get hc, cAt_get hd, hs] at this
            cases this
      · rw [if_neg fun z => e1 (V.int.inj z)]
        exact miss _ s hD' hP' fun z => e1 (by have := z.1; rw [tAt_get ht] at this; exact this)
    · obtain ⟨y5, rfl, s, hD', hP'⟩ := hW
      unfold tRet tRevL
      walk_at "ev"
      refine ⟨_, .inl (.inl hP'), fun u nu => ?_⟩
      refine q _ u (s.trans (same_new nu)) (s.free nu) ?_
      rw [upd_same]
      unfold chainOf natL
      rw [List.map_reverse]
  refine ⟨D, natI (tiers cs), 0, rfl, rfl, by rw [show (natI (tiers cs)).map V.int = natL (tiers cs) from (natL_vis _).symm]; exact .inl (.inl hD), fun e => ?_, fun m h1 h2 => ?_⟩
  · have et : topT cs = 0 := by
      have : tiers cs = [] := List.map_eq_nil_iff.mp e
      unfold topT manyT
      rw [this] <;> rfl
    rw [← et]
    exact body rfl
  · rw [top_is h1 h2]
    exact body rfl
end Sw

set_option Elab.async false
set_option linter.all false
set_option maxRecDepth 100000
set_option maxHeartbeats 4000000
namespace Sw
open PySem PySem.Spec PyProof.Rows L2
local macro_rules | `(tactic| walk_at "ev") => `(tactic| simp only [tSeq, tCalW, quiet, tRzA, tRzO, tTryT, tTryK, tJoin, tJs, tBM, tBits, kStrI, kIntS, kLenS, mSplit, mPart, mIndex, tAsg, tRet, tRetN, tOp, tUn, tVar, tC, tNil, tCons, tCB, tDrop, tNext, tCont, tBreak, tIfS, tIf, tTest, tChain, tChain3, tB, tTup, tLst, tAnd, tOr, tNot, tAndV, tOrV, tNotV, tPart, tNoPart, tSl, tCal, tAug, ipI, rI0, rI, rU, rEq, rNe, kMin, kMax, gName, gCons, gNil, L2.start, wipe, List.map_cons, List.map_nil, List.length_cons, List.length_nil, List.cons_append, List.nil_append, List.append_nil, Nat.reduceAdd, Nat.reduceSub, List.replicate_succ, List.replicate_zero, List.getElem?_cons_zero, List.getElem?_cons_succ, List.set_cons_succ, List.set_cons_zero, Option.some.injEq, exists_eq_left', exists_eq_left, V.int.injEq, V.bl.injEq, V.str.injEq, V.ref.injEq, List.cons.injEq, exists_and_left, and_assoc, and_true, true_and, scal_ii, scal_ss, scal_nn, scal_bb, scal_ni, scal_in, decide_eq_true_eq, Bool.not_true, Bool.not_false, Bool.not_eq_true', decide_eq_false_iff_not, ite_not, reduceCtorEq, if_true, if_false, Bool.false_eq_true, ne_eq, not_true_eq_false, not_false_eq_true, Int.reduceLT, Int.reduceLE, Int.reduceNeg])
local macro_rules | `(tactic| walk_at "cm") => `(tactic| first | exact Or.inr ⟨by decide, by decide⟩ | exact Or.inl ⟨by decide, by decide⟩ | exact Or.inl ⟨by omega, by omega⟩ | exact Or.inr ⟨by omega, by omega⟩)
variable {K : PySem.W.Frag}
theorem rdq_needorder (vs : List V) (H : Hp) (Q : VK) (E : XK) (h : sq_needorder K vs H Q E) : rq_needorder K { nx := fun _ H' => Q .non H', rt := Q } (L2.start N_needorder vs) H := by
  obtain ⟨n, b, o, rfl, hb, hp, n10, q⟩ := h
  have lo : o.length = n := by rw [hp.length_eq, List.length_range]
  unfold rq_needorder N_needorder tLstRg tRg1
  walk_at "ev"
  refine ⟨.ref b, "list", rfl, .lst hb, _, _, rfl, rfl, ?_⟩
  rw [decide_eq_true rfl]
  refine ⟨true, rfl, ?_⟩
  rw [if_pos rfl]
  refine lc_each (a := b) (xs := natL o) rfl hb (fun v => rfl) (fun D i acc H' => Same H H' ∧ acc = (List.replicate i true).map V.bl) (fun D nD => ⟨same_new nD, rfl⟩) (fun D i acc H' nD g => g.1.seq hb) ?_ ?_
  · intro D i x acc H' nD hx hi hD g
    obtain ⟨s, rfl⟩ := g
    obtain ⟨z, rfl⟩ : ∃ z : Int, x = .int z := by
      unfold natL at hx
      rw [List.getElem?_map] at hx
      cases e : o[i]? with
      | none => rw [e] at hx; cases hx
      | some k => rw [e] at hx; exact ⟨_, (Option.some.inj hx).symm⟩
    refine .yes ?_
    walk_at "ev"
    refine ⟨.int z, "int", rfl, .int z, ?_⟩
    rw [decide_eq_true rfl]
    rw [nat_len] at hi
    refine GoOn.mk hD (by rw [List.length_map, List.length_replicate]; omega) ⟨same_mut s nD, ?_⟩
    rw [List.replicate_succ', List.map_append] <;> rfl
  · intro D acc H2 nD hD g
    obtain ⟨s2, rfl⟩ := g
    refine ⟨D, List.replicate (natL o).length true, rfl, .inl (.inl hD), ?_⟩
    have eA : (List.replicate (natL o).length true).all id = true := by
      rw [List.all_eq_true]
      intro x hx
      rw [(List.mem_replicate.mp hx).2] <;> rfl
    rw [eA]
    refine ⟨true, rfl, ?_⟩
    walk_at "ev"
    refine ⟨b, natI o, rfl, by rw [show (natI o).map V.int = natL o from (natL_vis _).symm]; exact s2.seq hb, fun ns w hperm hsort nw => ?_⟩
    have s5 := same_new (o := .lst (ns.map V.int)) nw
    refine ⟨.of_le (by omega) (by omega) (by omega) (by omega), fun v nv => ?_⟩
    have s6 := same_new (o := .lst (rgV 0 (n : Int))) nv
    have e1 := sorted_spots hp hperm hsort
    subst e1
    rw [rgV_nat] at s6 ⊢
    refine ne_rows (r := natI (List.range n)) (s := natI (List.range n)) (.inl (.inl (s6 _ _ upd_same))) (.inl (.inl (by rw [upd_same, natL_vis]))) ?_
    rw [decide_eq_true rfl]
    refine ⟨false, rfl, ?_⟩
    rw [if_neg (by decide)]
    exact q _ (s2.trans (s5.trans s6))
theorem rdq_renamed (vs : List V) (H : Hp) (Q : VK) (E : XK) (h : sq_renamed K vs H Q E) : rq_renamed K { nx := fun _ H' => Q .non H', rt := Q } (L2.start N_renamed vs) H := by
  obtain ⟨n, a, b, cs, o, rfl, hw, hb, hp, q⟩ := h
  obtain ⟨ps, ha, hps, ok, n1, n10⟩ := id hw
  have h60 := ok.1
  have lo : o.length = n := by rw [hp.length_eq, List.length_range]
  unfold rq_renamed N_renamed
  walk_at "ev"
  refine ⟨n, a, cs, rfl, hw, fun H1 s1 => ?_⟩
  refine ⟨n, b, o, rfl, s1.seq hb, hp, n10, fun H2 s2 => ?_⟩
  have t := s1.trans s2
  refine lc_cmps (a := a) (ps := ps) (cs := cs) (callC o) rfl (t.seq ha) (Same.prs t hps) (by omega) (fun v w => rfl) (fun c H' Q' hc s' q' => ?_) (fun D H' qs s' nD hD hq => q H' D qs (t.trans s') (t.free nD) hD hq)
  obtain ⟨h1, h2, h3⟩ := ok.2 c hc
  walk_at "ev"
  refine ⟨b, _, _, _, rfl, rfl, (t.trans s').seq hb, atI_nat (natL_sp (by omega)), ?_⟩
  refine ⟨b, _, _, _, rfl, rfl, (t.trans s').seq hb, atI_nat (natL_sp (by omega)), ?_⟩
  exact ⟨small_line (by decide), fun T nT => q' T nT⟩
theorem rdq_upside (vs : List V) (H : Hp) (Q : VK) (E : XK) (h : sq_upside K vs H Q E) : rq_upside K { nx := fun _ H' => Q .non H', rt := Q } (L2.start N_upside vs) H := by
  obtain ⟨n, a, cs, rfl, hw, q⟩ := h
  obtain ⟨ps, ha, hps, ok, n1, n10⟩ := id hw
  have h60 := ok.1
  unfold rq_upside N_upside
  walk_at "ev"
  refine ⟨n, a, cs, rfl, hw, fun H1 s1 => ?_⟩
  refine lc_cmps (a := a) (ps := ps) (cs := cs) (upC n) rfl (s1.seq ha) (Same.prs s1 hps) (by omega) (fun v w => rfl) (fun c H' Q' hc s' q' => ?_) (fun D H' qs s' nD hD hq => q H' D qs (s1.trans s') (s1.free nD) hD hq)
  obtain ⟨h1, h2, h3⟩ := ok.2 c hc
  walk_at "ev"
  refine ⟨small_line (by decide), fun T nT => ?_⟩
  have := q' T nT
  unfold V2 upC at this
  dsimp only at this
  rw [show (((n - 1 - c.2 : Nat) : Nat) : Int) = (n : Int) - 1 - (c.2 : Int) by omega, show (((n - 1 - c.1 : Nat) : Nat) : Int) = (n : Int) - 1 - (c.1 : Int) by omega] at this
  exact this
end Sw

set_option Elab.async false
set_option linter.all false
set_option maxRecDepth 100000
set_option maxHeartbeats 4000000
namespace Sw
open PySem PySem.Spec PyProof.Rows L2
local macro_rules | `(tactic| walk_at "ev") => `(tactic| simp only [tSeq, tCalW, quiet, tRzA, tRzO, tTryT, tTryK, tJoin, tJs, tBM, tBits, kStrI, kIntS, kLenS, mSplit, mPart, mIndex, tAsg, tRet, tRetN, tOp, tUn, tVar, tC, tNil, tCons, tCB, tDrop, tNext, tCont, tBreak, tIfS, tIf, tTest, tChain, tChain3, tB, tTup, tLst, tAnd, tOr, tNot, tAndV, tOrV, tNotV, tPart, tNoPart, tSl, tCal, tAug, ipI, rI0, rI, rU, rEq, rNe, kMin, kMax, gName, gCons, gNil, L2.start, wipe, List.map_cons, List.map_nil, List.length_cons, List.length_nil, List.cons_append, List.nil_append, List.append_nil, Nat.reduceAdd, Nat.reduceSub, List.replicate_succ, List.replicate_zero, List.getElem?_cons_zero, List.getElem?_cons_succ, List.set_cons_succ, List.set_cons_zero, Option.some.injEq, exists_eq_left', exists_eq_left, V.int.injEq, V.bl.injEq, V.str.injEq, V.ref.injEq, List.cons.injEq, exists_and_left, and_assoc, and_true, true_and, scal_ii, scal_ss, scal_nn, scal_bb, scal_ni, scal_in, decide_eq_true_eq, Bool.not_true, Bool.not_false, Bool.not_eq_true', decide_eq_false_iff_not, ite_not, reduceCtorEq, if_true, if_false, Bool.false_eq_true, ne_eq, not_true_eq_false, not_false_eq_true, Int.reduceLT, Int.reduceLE, Int.reduceNeg])
local macro_rules | `(tactic| walk_at "cm") => `(tactic| first | exact Or.inr ⟨by decide, by decide⟩ | exact Or.inl ⟨by decide, by decide⟩ | exact Or.inl ⟨by omega, by omega⟩ | exact Or.inr ⟨by omega, by omega⟩)
variable {K : PySem.W.Frag}
theorem natL_set (l : List Nat) (k v : Nat) : (natL l).set k (.int (v : Int)) = natL (l.set k v) := by
  unfold natL
  rw [List.map_set]
def Wstr (K : PySem.W.Frag) (n : Nat) (a F S : Addr) (cs : List Cmp) (H : Hp) (i : Nat) (σ : L2.St) (H' : Hp) : Prop :=
  ∃ y4 y5 y6 y7 qs, σ = [some (.int (n : Int)), some (.ref a), some (.ref F), some (.ref S), y4, y5, y6, y7] ∧ Same H H' ∧ H' S = some (.lst (natL (strOf n (cs.take i)).2)) ∧ H' F = some (.lst (Rfs qs)) ∧ Prs K H' qs (strOf n (cs.take i)).1
theorem sp_keep {sp : List Nat} {j k : Nat} (hj : j < sp.length) (hk : k < sp.length) : (sp.set j (spA sp j)).set k (spA sp k) = sp := by
  have e : ∀ (l : List Nat) (i : Nat), i < l.length → l.set i (spA l i) = l := fun l i hi => by
    rw [← spA_eq hi, List.set_getElem_self]
  rw [e sp j hj, e sp k hk]
theorem rdq_straightened (vs : List V) (H : Hp) (Q : VK) (E : XK) (h : sq_straightened K vs H Q E) : rq_straightened K { nx := fun _ H' => Q .non H', rt := Q } (L2.start N_straightened vs) H := by
  obtain ⟨n, a, cs, rfl, hw, q⟩ := h
  obtain ⟨ps, ha, hp, ok, n1, n10⟩ := id hw
  have hpl := hp.length
  have h60 := ok.1
  unfold rq_straightened N_straightened tLstRg tRg1
  walk_at "ev"
  refine ⟨n, a, cs, rfl, hw, fun H1 s1 => ?_⟩
  refine ⟨small_line (by decide), fun F nF => ?_⟩
  have s2 := s1.trans (same_new (o := .lst []) nF)
  have nFH := s1.free nF
  have hF : (upd H1 F (.lst [])) F = some (.lst []) := upd_same
  generalize upd H1 F (.lst []) = H2 at s2 hF
  refine ⟨.of_le (by omega) (by omega) (by omega) (by omega), fun S nS => ?_⟩
  rw [rgV_nat]
  have s3 := s2.trans (same_new (o := .lst (natL (List.range n))) nS)
  have hF3 := (same_new (o := .lst (natL (List.range n))) nS) _ _ hF
  have hS3 : (upd H2 S (.lst (natL (List.range n)))) S = some (.lst (natL (List.range n))) := upd_same
  have nSH := s2.free nS
  have FS : F ≠ S := ne_of_none hF nS
  generalize upd H2 S (.lst (natL (List.range n))) = H3 at s3 hS3 hF3
  refine for_pairs (a := a) (ps := ps) rfl (s3.seq ha) (fun i => match cs[i]? with | some c => (.int (c.1 : Int), .int (c.2 : Int)) | none => (.non, .non))
    (Wstr K n a F S cs H) ⟨none, none, none, none, [], rfl, s3, hS3, hF3, .nil⟩ (fun i σ H' _ hW => ?_) (fun i g σ H' hg hW => ?_) (fun i g σ H' hg hW => ?_) (fun σ H' hW => ?_)
  · obtain ⟨_, _, _, _, _, _, s, _⟩ := hW
    exact s.seq ha
  · obtain ⟨_, _, _, _, _, _, s, _⟩ := hW
    obtain ⟨c, hc, ht⟩ := hp.getL hg
    rw [hc]
    exact Same.sqt s ht
  · obtain ⟨y4, y5, y6, y7, qs, rfl, s, hS', hF', hq⟩ := hW
    obtain ⟨c, hc, ht⟩ := hp.getL hg
    rw [hc]
    obtain ⟨h1, h2, h3⟩ := ok.2 c (List.mem_of_getElem? hc)
    have I := str_all (n := n) (cs := cs.take i) fun d hd => ok.2 d (List.mem_of_mem_take hd)
    have step : strOf n (cs.take (i + 1)) = strC (strOf n (cs.take i)) c := by rw [List.take_add_one, hc]; exact strOf_snoc _ _ _
    have sl := I.slen
    have ne : spA (strOf n (cs.take i)).2 c.1 ≠ spA (strOf n (cs.take i)).2 c.2 := fun e => h3 (I.inj h1 h2 e)
    have lq := hq.length
    rw [I.len, List.length_take] at lq
    generalize strOf n (cs.take i) = st at step sl ne hS' hq
    unfold rq_straightened_f1
    walk_at "ev"
    refine ⟨S, _, _, _, rfl, rfl, .inl (.inl hS'), atI_nat (natL_sp (by omega)), ?_⟩
    refine ⟨S, _, _, _, rfl, rfl, .inl (.inl hS'), atI_nat (natL_sp (by omega)), ?_⟩
    refine ⟨_, rfl, _, rfl, ?_⟩
    refine ⟨S, _, _, _, rfl, rfl, .inl (.inl hS'), atI_nat (natL_sp (by omega)), ?_⟩
    refine ⟨S, _, _, _, rfl, rfl, .inl (.inl hS'), atI_nat (natL_sp (by omega)), ?_⟩
    refine ⟨_, rfl, _, rfl, ?_⟩
    have put : ∀ (x y : Nat) (sp : List Nat), strC st c = (st.1 ++ [(x, y)], sp) → ((st.2.set c.1 x).set c.2 y) = sp →
        tyV K "list" (.ref F) H' ∧ 2 ≤ sizeLine ∧ ∀ p, H' p = none → rAppend (.ref F) [.ref p] (upd H' p (.tup [.int (x : Int), .int (y : Int)])) fun _ H1 =>
          gSub (tVar 3) (tVar 4) rSetL (.int (x : Int)) [some (.int (n : Int)), some (.ref a), some (.ref F), some (.ref S), some (.int (c.1 : Int)), some (.int (c.2 : Int)), some (.int (x : Int)), some (.int (y : Int))] H1 fun σ2 H2 =>
            tAsg (tVar 7) (gSub (tVar 3) (tVar 5) rSetL) { nx := Wstr K n a F S cs H (i + 1), ct := Wstr K n a F S cs H (i + 1), bk := tRet (tTup (tCons (tVar 2) (tCons (tVar 3) tNil))) { nx := fun _ H' => Q .non H', rt := Q }, rt := Q } σ2 H2 := fun x y sp e1 e2 => by
      refine ⟨.inl ⟨rfl, _, .inl (.inl hF')⟩, small_line (by decide), fun p np => ?_⟩
      have s6 := same_new (o := .tup [.int (x : Int), .int (y : Int)]) np
      have hF6 := s6 _ _ hF'
      have hS6 := s6 _ _ hS'
      refine ⟨F, _, _, rfl, rfl, hF6, by rw [rfs_len]; exact small_lt (by omega), ?_⟩
      have hS7 : (upd (upd H' p (.tup [.int (x : Int), .int (y : Int)])) F (.lst (Rfs qs ++ [.ref p]))) S = some (.lst (natL st.2)) := by rw [upd_ne FS.symm]; exact hS6
      have hF7 : (upd (upd H' p (.tup [.int (x : Int), .int (y : Int)])) F (.lst (Rfs qs ++ [.ref p]))) F = some (.lst (Rfs (qs ++ [p]))) := by
        rw [upd_same]
        unfold Rfs
        rw [List.map_append] <;> rfl
      have hq7 : Prs K (upd (upd H' p (.tup [.int (x : Int), .int (y : Int)])) F (.lst (Rfs qs ++ [.ref p]))) (qs ++ [p]) (strC st c).1 := by
        rw [e1]
        exact prs_upd hF6 ((Same.prs s6 hq).snoc (.inl (.inl upd_same)))
      have s7 := same_mut (o := .lst (Rfs qs ++ [.ref p])) (s.trans s6) nFH
      generalize upd (upd H' p (.tup [.int (x : Int), .int (y : Int)])) F (.lst (Rfs qs ++ [.ref p])) = H7 at hS7 hF7 hq7 s7
      refine set_run (a := c.1) rfl rfl hS7 (by rw [nat_len]; omega) ?_
      rw [natL_set]
      walk_at "ev"
      refine set_run (a := c.2) rfl rfl upd_same (by rw [nat_len, List.length_set]; omega) ?_
      rw [natL_set, e2]
      refine ⟨_, _, _, _, qs ++ [p], rfl, same_mut (same_mut s7 nSH) nSH, ?_, ?_, ?_⟩
      · rw [upd_same, step, e1]
      · rw [upd_ne FS, upd_ne FS]
        exact hF7
      · rw [step]
        exact prs_upd upd_same (prs_upd hS7 hq7)
    by_cases lt : spA st.2 c.1 < spA st.2 c.2
    · have r1 : (if ((spA st.2 c.2 : Nat) : Int) < ((spA st.2 c.1 : Nat) : Int) then ((spA st.2 c.2 : Nat) : Int) else ((spA st.2 c.1 : Nat) : Int)) = ((spA st.2 c.1 : Nat) : Int) := if_neg (by omega)
      have r2 : (if ((spA st.2 c.2 : Nat) : Int) > ((spA st.2 c.1 : Nat) : Int) then ((spA st.2 c.2 : Nat) : Int) else ((spA st.2 c.1 : Nat) : Int)) = ((spA st.2 c.2 : Nat) : Int) := if_pos (by omega)
      rw [r1, r2]
      refine put _ _ st.2 ?_ (sp_keep (by omega) (by omega))
      unfold strC
      rw [if_pos lt]
    · have r1 : (if ((spA st.2 c.2 : Nat) : Int) < ((spA st.2 c.1 : Nat) : Int) then ((spA st.2 c.2 : Nat) : Int) else ((spA st.2 c.1 : Nat) : Int)) = ((spA st.2 c.2 : Nat) : Int) := if_pos (by omega)
      have r2 : (if ((spA st.2 c.2 : Nat) : Int) > ((spA st.2 c.1 : Nat) : Int) then ((spA st.2 c.2 : Nat) : Int) else ((spA st.2 c.1 : Nat) : Int)) = ((spA st.2 c.1 : Nat) : Int) := if_neg (by omega)
      rw [r1, r2]
      refine put _ _ ((st.2.set c.1 (spA st.2 c.2)).set c.2 (spA st.2 c.1)) ?_ rfl
      unfold strC
      rw [if_neg lt]
  · obtain ⟨y4, y5, y6, y7, qs, rfl, s, hS', hF', hq⟩ := hW
    walk_at "ev"
    rw [hpl, List.take_length] at hS' hq
    refine ⟨small_line (by decide), fun p np => ?_⟩
    have sp' := same_new (o := .tup [.ref F, .ref S]) np
    exact q _ p F S qs (s.trans sp') (s.free np) nFH nSH FS upd_same (sp' _ _ hF') (Same.prs sp' hq) (sp' _ _ hS')
end Sw

set_option Elab.async false
set_option linter.all false
set_option maxRecDepth 100000
set_option maxHeartbeats 4000000
namespace Sw
open PySem PySem.Spec PyProof.Rows L2
local macro_rules | `(tactic| walk_at "ev") => `(tactic| simp only [tSeq, tCalW, quiet, tRzA, tRzO, tTryT, tTryK, tJoin, tJs, tBM, tBits, kStrI, kIntS, kLenS, mSplit, mPart, mIndex, tAsg, tRet, tRetN, tOp, tUn, tVar, tC, tNil, tCons, tCB, tDrop, tNext, tCont, tBreak, tIfS, tIf, tTest, tChain, tChain3, tB, tTup, tLst, tAnd, tOr, tNot, tAndV, tOrV, tNotV, tPart, tNoPart, tSl, tCal, tAug, ipI, rI0, rI, rU, rEq, rNe, kMin, kMax, gName, gCons, gNil, L2.start, wipe, List.map_cons, List.map_nil, List.length_cons, List.length_nil, List.cons_append, List.nil_append, List.append_nil, Nat.reduceAdd, Nat.reduceSub, List.replicate_succ, List.replicate_zero, List.getElem?_cons_zero, List.getElem?_cons_succ, List.set_cons_succ, List.set_cons_zero, Option.some.injEq, exists_eq_left', exists_eq_left, V.int.injEq, V.bl.injEq, V.str.injEq, V.ref.injEq, List.cons.injEq, exists_and_left, and_assoc, and_true, true_and, scal_ii, scal_ss, scal_nn, scal_bb, scal_ni, scal_in, decide_eq_true_eq, Bool.not_true, Bool.not_false, Bool.not_eq_true', decide_eq_false_iff_not, ite_not, reduceCtorEq, if_true, if_false, Bool.false_eq_true, ne_eq, not_true_eq_false, not_false_eq_true, Int.reduceLT, Int.reduceLE, Int.reduceNeg])
local macro_rules | `(tactic| walk_at "cm") => `(tactic| first | exact Or.inr ⟨by decide, by decide⟩ | exact Or.inl ⟨by decide, by decide⟩ | exact Or.inl ⟨by omega, by omega⟩ | exact Or.inr ⟨by omega, by omega⟩)
variable {K : PySem.W.Frag}
/-! ### what refuses: the web first, then as the quiet reading -/
theorem webV_same {H H' : Hp} {lv cv : V} {d : Verd} (s : Same H H') (h : WebV K H lv cv d) : WebV K H' lv cv d := by
  cases h with
  | lines ht bad => exact .lines (tyb_same s ht) bad
  | kind hn ht ne => exact .kind hn (tyb_same s ht) ne
  | many hn ha hl => exact .many hn (s.seq ha) hl
  | item hn ha hl ok hy bad => exact .item hn (s.seq ha) hl (fun i hi => by
      obtain ⟨x, hx, hk⟩ := ok i hi
      exact ⟨x, hx, it_same s hk⟩) hy (it_same s bad)
  | good hn ha hl ok => exact .good hn (s.seq ha) hl fun i x hx => it_same s (ok i x hx)
/-- a good web's comparers -/
theorem it_true {H : Hp} {n : Nat} {v : V} {b : Bool} (h : ItOk K H n v b) (hb : b = true) : ∃ (p : Addr) (c : Cmp), v = .ref p ∧ SqT K H p (V2 c) ∧ CmpOk n c := by
  cases h with
  | other h ne => cases hb
  | long h ne => cases hb
  | @two p x y Tx Ty h hx hy =>
    cases x with
    | int i =>
      cases y with
      | int j =>
        have e : (decide (0 ≤ i ∧ i < (n : Int)) && (decide (0 ≤ j ∧ j < (n : Int)) && decide (¬ i = j))) = true := hb
        rw [Bool.and_eq_true, Bool.and_eq_true] at e
        have e1 := of_decide_eq_true e.1
        have e2 := of_decide_eq_true e.2.1
        have e3 := of_decide_eq_true e.2.2
        refine ⟨p, (i.toNat, j.toNat), rfl, ?_, by show i.toNat < n; omega, by show j.toNat < n; omega, by show ¬ i.toNat = j.toNat; omega⟩
        show SqT K H p [.int (i.toNat : Int), .int (j.toNat : Int)]
        rw [Int.toNat_of_nonneg e1.1, Int.toNat_of_nonneg e2.1]
        exact h
      | _ => cases hb
    | _ => cases hb
theorem its_true {H : Hp} {n : Nat} : ∀ {xs : List V}, (∀ (i : Nat) (x : V), xs[i]? = some x → ItOk K H n x true) → ∃ ps cs, xs = Rfs ps ∧ Prs K H ps cs ∧ CmpsOk n cs
  | [], _ => ⟨[], [], rfl, .nil, fun c hc => nomatch hc⟩
  | x :: xs, ok => by
    obtain ⟨p, c, rfl, hp, okc⟩ := it_true (ok 0 x rfl) rfl
    obtain ⟨ps, cs, rfl, hps, okcs⟩ := its_true (xs := xs) fun i y hy => ok (i + 1) y hy
    refine ⟨p :: ps, c :: cs, rfl, .cons hp hps, fun e he => ?_⟩
    rcases List.mem_cons.mp he with rfl | h
    · exact okc
    · exact okcs e h
theorem webV_at {H : Hp} {lv cv : V} (h : WebV K H lv cv .good) : ∃ (n : Nat) (a : Addr) (cs : List Cmp), lv = .int (n : Int) ∧ cv = .ref a ∧ WebAt K H a n cs := by
  cases h with
  | @good n a xs hn ha hl ok =>
    have e := of_decide_eq_true (show decide (1 ≤ (n : Int) ∧ (n : Int) ≤ 10) = true from hn)
    obtain ⟨ps, cs, rfl, hps, okcs⟩ := its_true ok
    exact ⟨n, a, cs, rfl, rfl, ps, ha, hps, ⟨by rw [← hps.length, ← rfs_len]; exact hl, okcs⟩, by omega, by omega⟩
theorem over2 {lv cv : V} {d : Verd} {σ : L2.St} {H : Hp} {E : XK} {rest : TS} {D : Ends} (hv : WebV K H lv cv d) (h0 : σ[0]? = some (some lv)) (h1 : σ[1]? = some (some cv)) (bad : d ≠ .good → Refu K H E d)
    (good : d = .good → (tSeq (tDrop (tCal (sq_needweb K) (tCons (tVar 0) (tCons (tVar 1) (tNil))))) rest) D σ H) : (tSeq (tDrop (tCalW (sp_needweb K) (fun cls d _ H => E cls d H) (tCons (tVar 0) (tCons (tVar 1) (tNil))))) rest) D σ H := by
  refine ⟨lv, h0, cv, h1, lv, cv, d, rfl, hv, fun g H' s => ?_, bad⟩
  obtain ⟨_, _, _, _, n, a, cs, _, _, fin⟩ := good g
  exact fin H' s
theorem rd_unsorted (vs : List V) (H : Hp) (Q : VK) (E : XK) (h : sp_unsorted K vs H Q E) : r_unsorted K E { nx := fun _ H' => Q .non H', rt := Q } (L2.start N_unsorted vs) H := by
  obtain ⟨lv, cv, d, rfl, hv, good, bad⟩ := h
  exact over2 hv rfl rfl bad fun g => rdq_unsorted _ H Q E (good g)
theorem rd_needless (vs : List V) (H : Hp) (Q : VK) (E : XK) (h : sp_needless K vs H Q E) : r_needless K E { nx := fun _ H' => Q .non H', rt := Q } (L2.start N_needless vs) H := by
  obtain ⟨lv, cv, d, rfl, hv, good, bad⟩ := h
  exact over2 hv rfl rfl bad fun g => rdq_needless _ H Q E (good g)
theorem rd_layers (vs : List V) (H : Hp) (Q : VK) (E : XK) (h : sp_layers K vs H Q E) : r_layers K E { nx := fun _ H' => Q .non H', rt := Q } (L2.start N_layers vs) H := by
  obtain ⟨lv, cv, d, rfl, hv, good, bad⟩ := h
  exact over2 hv rfl rfl bad fun g => rdq_layers _ H Q E (good g)
theorem rd_chain (vs : List V) (H : Hp) (Q : VK) (E : XK) (h : sp_chain K vs H Q E) : r_chain K E { nx := fun _ H' => Q .non H', rt := Q } (L2.start N_chain vs) H := by
  obtain ⟨lv, cv, d, rfl, hv, good, bad⟩ := h
  exact over2 hv rfl rfl bad fun g => rdq_chain _ H Q E (good g)
theorem rd_upside (vs : List V) (H : Hp) (Q : VK) (E : XK) (h : sp_upside K vs H Q E) : r_upside K E { nx := fun _ H' => Q .non H', rt := Q } (L2.start N_upside vs) H := by
  obtain ⟨lv, cv, d, rfl, hv, good, bad⟩ := h
  exact over2 hv rfl rfl bad fun g => rdq_upside _ H Q E (good g)
theorem rd_straightened (vs : List V) (H : Hp) (Q : VK) (E : XK) (h : sp_straightened K vs H Q E) : r_straightened K E { nx := fun _ H' => Q .non H', rt := Q } (L2.start N_straightened vs) H := by
  obtain ⟨lv, cv, d, rfl, hv, good, bad⟩ := h
  exact over2 hv rfl rfl bad fun g => rdq_straightened _ H Q E (good g)
theorem rd_pruned (vs : List V) (H : Hp) (Q : VK) (E : XK) (h : sp_pruned K vs H Q E) : r_pruned K E { nx := fun _ H' => Q .non H', rt := Q } (L2.start N_pruned vs) H := by
  obtain ⟨lv, cv, d, rfl, hv, good, bad⟩ := h
  refine ⟨lv, rfl, cv, rfl, lv, cv, d, rfl, hv, fun g => ?_, bad⟩
  obtain ⟨_, e0, _, e1, q⟩ := rdq_pruned _ H Q E (good g)
  cases e0
  cases e1
  exact q
end Sw

set_option Elab.async false
set_option linter.all false
set_option maxRecDepth 100000
set_option maxHeartbeats 4000000
namespace Sw
open PySem PySem.Spec PyProof.Rows L2
local macro_rules | `(tactic| walk_at "ev") => `(tactic| simp only [tSeq, tCalW, quiet, tRzA, tRzO, tTryT, tTryK, tJoin, tJs, tBM, tBits, kStrI, kIntS, kLenS, mSplit, mPart, mIndex, tAsg, tRet, tRetN, tOp, tUn, tVar, tC, tNil, tCons, tCB, tDrop, tNext, tCont, tBreak, tIfS, tIf, tTest, tChain, tChain3, tB, tTup, tLst, tAnd, tOr, tNot, tAndV, tOrV, tNotV, tPart, tNoPart, tSl, tCal, tAug, ipI, rI0, rI, rU, rEq, rNe, kMin, kMax, gName, gCons, gNil, L2.start, wipe, List.map_cons, List.map_nil, List.length_cons, List.length_nil, List.cons_append, List.nil_append, List.append_nil, Nat.reduceAdd, Nat.reduceSub, List.replicate_succ, List.replicate_zero, List.getElem?_cons_zero, List.getElem?_cons_succ, List.set_cons_succ, List.set_cons_zero, Option.some.injEq, exists_eq_left', exists_eq_left, V.int.injEq, V.bl.injEq, V.str.injEq, V.ref.injEq, List.cons.injEq, exists_and_left, and_assoc, and_true, true_and, scal_ii, scal_ss, scal_nn, scal_bb, scal_ni, scal_in, decide_eq_true_eq, Bool.not_true, Bool.not_false, Bool.not_eq_true', decide_eq_false_iff_not, ite_not, reduceCtorEq, if_true, if_false, Bool.false_eq_true, ne_eq, not_true_eq_false, not_false_eq_true, Int.reduceLT, Int.reduceLE, Int.reduceNeg])
local macro_rules | `(tactic| walk_at "cm") => `(tactic| first | exact Or.inr ⟨by decide, by decide⟩ | exact Or.inl ⟨by decide, by decide⟩ | exact Or.inl ⟨by omega, by omega⟩ | exact Or.inr ⟨by omega, by omega⟩)
variable {K : PySem.W.Frag}
/-! ### rows, places, orders, parts -/
theorem tyb_isI {H : Hp} {v : V} {T : String} (h : TyB K H v T) : decide (T = "int") = isI v := by
  cases h <;> rfl
theorem all_whole {σ : L2.St} {H : Hp} {Q : VK} {a : Addr} {xs : List V} {j : Nat} (hk : σ[1]? = some (some (.ref a))) (hx : SqL K H a xs) (few : xs.length ≤ 1000) (each : ∀ x ∈ xs, ∃ T, TyB K H x T)
    (hvs : ∀ v, wipe ((wipe σ [j]).set j v) [j] = wipe σ [j]) (hj : ∀ x, ((wipe σ [j]).set j (some x))[j]? = some (some x)) (fin : ∀ H' D, Same H H' → H' D = some (.lst ((xs.map isI).map V.bl)) → Q (.ref D) H') :
    tLc (iList K (tVar 1)) (gName j) tYes (tCal (sp_iswhole K) (tCons (tVar j) (tNil))) [j] σ H Q := by
  refine lc_each (a := a) (xs := xs) hk hx hvs (fun D i acc H' => Same H H' ∧ acc = ((xs.take i).map isI).map V.bl) (fun D nD => ⟨same_new nD, rfl⟩) (fun D i acc H' nD g => g.1.seq hx) ?_ ?_
  · intro D i x acc H' nD gx hi hD g
    obtain ⟨s, rfl⟩ := g
    obtain ⟨T, hT⟩ := each x (List.mem_of_getElem? gx)
    refine .yes ?_
    refine ⟨x, hj x, x, T, rfl, tyb_same s hT, ?_⟩
    refine GoOn.mk hD (by rw [List.length_map, List.length_map, List.length_take]; omega) ⟨same_mut s nD, ?_⟩
    rw [tyb_isI hT, List.take_add_one, gx, List.map_append, List.map_append] <;> rfl
  · intro D acc H' nD hD g
    obtain ⟨s, rfl⟩ := g
    rw [List.take_length] at hD
    exact fin H' D s hD
theorem all_isI (xs : List V) : (xs.map isI).all id = xs.all isI := by
  rw [List.all_map]
  rfl
theorem rd_needplace (vs : List V) (H : Hp) (Q : VK) (E : XK) (h : sp_needplace K vs H Q E) : r_needplace K E { nx := fun _ H' => Q .non H', rt := Q } (L2.start N_needplace vs) H := by
  obtain ⟨a, xs, v, T, rfl, hx, ht, good, bad⟩ := h
  unfold r_needplace N_needplace
  walk_at "ev"
  refine ⟨v, T, rfl, ht, ?_⟩
  rcases tyb_int ht with ⟨rfl, i, rfl⟩ | ⟨ne, nv⟩
  · have e : plV xs.length (.int i) = decide (0 ≤ i ∧ i < (xs.length : Int)) := rfl
    rw [e] at good bad
    rw [decide_eq_true rfl]
    refine ⟨true, rfl, ?_⟩
    walk_at "ev"
    split
    · rename_i h0
      refine ⟨a, xs, rfl, .inl hx, _, rfl, ?_⟩
      split
      · rename_i h1
        exact good (decide_eq_true ⟨h0, h1⟩)
      · rename_i h1
        exact ⟨small_line (by decide), bad (decide_eq_false fun z => h1 z.2)⟩
    · rename_i h0
      exact ⟨small_line (by decide), bad (decide_eq_false fun z => h0 z.1)⟩
  · rw [decide_eq_false ne]
    refine ⟨false, rfl, ?_⟩
    walk_at "ev"
    refine ⟨small_line (by decide), bad ?_⟩
    cases v with
    | int i => exact absurd rfl (nv i)
    | _ => rfl
theorem rd_needpart (vs : List V) (H : Hp) (Q : VK) (E : XK) (h : sp_needpart K vs H Q E) : r_needpart K E { nx := fun _ H' => Q .non H', rt := Q } (L2.start N_needpart vs) H := by
  obtain ⟨v, T, rfl, ht, good, bad⟩ := h
  unfold r_needpart N_needpart
  walk_at "ev"
  refine ⟨v, T, rfl, ht, ?_⟩
  rcases tyb_int ht with ⟨rfl, i, rfl⟩ | ⟨ne, nv⟩
  · have e : paV (.int i) = decide (0 ≤ i ∧ i ≤ 10) := rfl
    rw [e] at good bad
    rw [decide_eq_true rfl]
    refine ⟨true, rfl, ?_⟩
    walk_at "ev"
    split
    · rename_i h0
      split
      · rename_i h1
        exact good (decide_eq_true ⟨h0, h1⟩)
      · rename_i h1
        exact ⟨small_line (by decide +kernel), .inr ⟨10, rfl, by decide, _, rfl, small_line (by decide +kernel), small_line (by decide +kernel), small_line (by decide), bad (decide_eq_false fun z => h1 z.2)⟩⟩
    · rename_i h0
      exact ⟨small_line (by decide +kernel), .inr ⟨10, rfl, by decide, _, rfl, small_line (by decide +kernel), small_line (by decide +kernel), small_line (by decide), bad (decide_eq_false fun z => h0 z.1)⟩⟩
  · rw [decide_eq_false ne]
    refine ⟨false, rfl, ?_⟩
    walk_at "ev"
    refine ⟨small_line (by decide +kernel), .inr ⟨10, rfl, by decide, _, rfl, small_line (by decide +kernel), small_line (by decide +kernel), small_line (by decide), bad ?_⟩⟩
    cases v with
    | int i => exact absurd rfl (nv i)
    | _ => rfl
theorem rd_needrow (vs : List V) (H : Hp) (Q : VK) (E : XK) (h : sp_needrow K vs H Q E) : r_needrow K E { nx := fun _ H' => Q .non H', rt := Q } (L2.start N_needrow vs) H := by
  obtain ⟨n, rv, b, rfl, hr, good, bad⟩ := h
  unfold r_needrow N_needrow
  walk_at "ev"
  refine ⟨.int (n : Int), "int", rfl, .int _, true, rfl, ?_⟩
  rw [if_neg (by decide)]
  cases hr with
  | @kind _ T ht ne =>
    refine ⟨rv, T, rfl, ht, _, _, rfl, rfl, ?_⟩
    rw [decide_eq_false ne]
    refine ⟨true, rfl, ?_⟩
    rw [if_pos rfl]
    exact ⟨small_line (by decide), bad rfl _ (.refl H)⟩
  | @list a xs hx few each =>
    refine ⟨.ref a, "list", rfl, .lst hx, _, _, rfl, rfl, ?_⟩
    rw [decide_eq_true rfl]
    refine ⟨false, rfl, ?_⟩
    rw [if_neg Bool.false_ne_true]
    refine ⟨a, xs, rfl, .inl hx, rfl, ?_⟩
    by_cases z : xs.length = n
    · rw [if_pos (by rw [z])]
      rw [decide_eq_true z, Bool.true_and] at good bad
      refine all_whole rfl hx few each (fun v => rfl) (fun x => rfl) fun H' D s hD => ?_
      refine ⟨D, _, rfl, .inl (.inl hD), ?_⟩
      rw [all_isI]
      refine ⟨_, rfl, ?_⟩
      cases e : xs.all isI with
      | true =>
        rw [if_neg (by decide)]
        exact good e H' s
      | false =>
        rw [if_pos rfl]
        exact ⟨small_line (by decide), bad e H' s⟩
    · rw [if_neg fun e => z (by injection e with e; exact_mod_cast e)]
      rw [decide_eq_false z, Bool.false_and] at bad
      exact ⟨small_line (by decide), bad rfl _ (.refl H)⟩
theorem isI_vis {xs : List V} (h : xs.all isI = true) : ∃ r : Row, xs = vis r := by
  induction xs with
  | nil => exact ⟨[], rfl⟩
  | cons x xs ih =>
    rw [List.all_cons, Bool.and_eq_true] at h
    obtain ⟨r, rfl⟩ := ih h.2
    cases x with
    | int i => exact ⟨i :: r, rfl⟩
    | _ => exact absurd h.1 Bool.false_ne_true
theorem vis_isI (r : Row) : (vis r).all isI = true := by
  rw [List.all_eq_true]
  intro x hx
  unfold vis at hx
  obtain ⟨i, _, rfl⟩ := List.mem_map.mp hx
  rfl
theorem perm_natI {r : Row} {n : Nat} (h : r.Perm (natI (List.range n))) : ∃ o : List Nat, r = natI o ∧ o.Perm (List.range n) := by
  refine ⟨r.map Int.toNat, ?_, ?_⟩
  · unfold natI
    rw [List.map_map]
    refine ((List.map_congr_left fun x hx => ?_).trans (List.map_id r)).symm
    have hm := h.mem_iff.mp hx
    unfold natI at hm
    obtain ⟨k, _, rfl⟩ := List.mem_map.mp hm
    rfl
  · have p := h.map Int.toNat
    unfold natI at p
    rw [List.map_map] at p
    exact p.trans (by rw [show (Int.toNat ∘ fun k : Nat => (k : Int)) = id from funext fun k => Int.toNat_natCast k, List.map_id])
theorem rd_needorder (vs : List V) (H : Hp) (Q : VK) (E : XK) (h : sp_needorder K vs H Q E) : r_needorder K E { nx := fun _ H' => Q .non H', rt := Q } (L2.start N_needorder vs) H := by
  obtain ⟨n, v, b, rfl, n10, hr, good, bad⟩ := h
  unfold r_needorder N_needorder tLstRg tRg1
  walk_at "ev"
  cases hr with
  | @kind _ T ht ne =>
    refine ⟨v, T, rfl, ht, _, _, rfl, rfl, ?_⟩
    rw [decide_eq_false ne]
    refine ⟨false, rfl, ?_⟩
    rw [if_neg Bool.false_ne_true]
    exact ⟨small_line (by decide), bad rfl _ (.refl H)⟩
  | @other a xs hx few each no =>
    refine ⟨.ref a, "list", rfl, .lst hx, _, _, rfl, rfl, ?_⟩
    rw [decide_eq_true rfl]
    refine ⟨true, rfl, ?_⟩
    rw [if_pos rfl]
    refine all_whole rfl hx few each (fun v => rfl) (fun x => rfl) fun H' D s hD => ?_
    refine ⟨D, _, rfl, .inl (.inl hD), ?_⟩
    rw [all_isI, no]
    refine ⟨false, rfl, ?_⟩
    rw [if_pos rfl]
    exact ⟨small_line (by decide), bad rfl _ s⟩
  | @whole a r _ hx few hb =>
    refine ⟨.ref a, "list", rfl, .lst hx, _, _, rfl, rfl, ?_⟩
    rw [decide_eq_true rfl]
    refine ⟨true, rfl, ?_⟩
    rw [if_pos rfl]
    refine all_whole rfl hx (by rw [ints_len]; exact few) (fun x hx => by
      unfold vis at hx
      obtain ⟨i, _, rfl⟩ := List.mem_map.mp hx
      exact ⟨_, .int i⟩) (fun v => rfl) (fun x => rfl) fun H' D s hD => ?_
    refine ⟨D, _, rfl, .inl (.inl hD), ?_⟩
    rw [all_isI, vis_isI]
    refine ⟨true, rfl, ?_⟩
    rw [if_neg (by decide)]
    refine ⟨a, r, rfl, s.seq hx, fun ns w hperm hsort nw => ?_⟩
    have s5 := same_new (o := .lst (ns.map V.int)) nw
    refine ⟨.of_le (by omega) (by omega) (by omega) (by omega), fun v nv => ?_⟩
    have s6 := same_new (o := .lst (rgV 0 (n : Int))) nv
    rw [rgV_nat] at s6 ⊢
    refine ne_rows (r := ns) (s := natI (List.range n)) (.inl (.inl (s6 _ _ upd_same))) (.inl (.inl (by rw [upd_same, natL_vis]))) ?_
    have sF := s.trans (s5.trans s6)
    cases e : b with
    | true =>
      obtain ⟨o, rfl, ho⟩ := hb.mp e
      have e1 := sorted_spots ho hperm hsort
      subst e1
      rw [decide_eq_true rfl]
      refine ⟨false, rfl, ?_⟩
      rw [if_neg (by decide)]
      exact good e _ sF
    | false =>
      have ne : ¬ ns = natI (List.range n) := fun z => by
        subst z
        have : b = true := hb.mpr (perm_natI hperm.symm)
        rw [e] at this
        cases this
      rw [decide_eq_false ne]
      refine ⟨true, rfl, ?_⟩
      rw [if_pos rfl]
      exact ⟨small_line (by decide), bad e _ sF⟩
end Sw

set_option Elab.async false
set_option linter.all false
set_option maxRecDepth 100000
set_option maxHeartbeats 4000000
namespace Sw
open PySem PySem.Spec PyProof.Rows L2
local macro_rules | `(tactic| walk_at "ev") => `(tactic| simp only [tSeq, tAsg, tRet, tRetN, tOp, tUn, tVar, tC, tNil, tCons, tCB, tDrop, tNext, tCont, tBreak, tIfS, tIf, tTest, tChain, tB, tTup, tLst, tAnd, tOr, tNot, tAndV, tOrV, tNotV, tPart, tNoPart, tSl, tCal, tAug, ipI, rI0, rI, rU, rEq, rNe, kMin, kMax, gName, gCons, gNil, L2.start, wipe, List.map_cons, List.map_nil, List.length_cons, List.length_nil, List.cons_append, List.nil_append, List.append_nil, Nat.reduceAdd, Nat.reduceSub, List.replicate_succ, List.replicate_zero, List.getElem?_cons_zero, List.getElem?_cons_succ, List.set_cons_succ, List.set_cons_zero, Option.some.injEq, exists_eq_left', exists_eq_left, V.int.injEq, V.bl.injEq, V.str.injEq, V.ref.injEq, List.cons.injEq, exists_and_left, and_assoc, and_true, true_and, scal_ii, scal_ss, scal_nn, scal_bb, scal_ni, scal_in, decide_eq_true_eq, Bool.not_true, Bool.not_false, Bool.not_eq_true', decide_eq_false_iff_not, ite_not, reduceCtorEq, if_true, if_false, Bool.false_eq_true, ne_eq, not_true_eq_false, not_false_eq_true, Int.reduceLT, Int.reduceLE, Int.reduceNeg])
local macro_rules | `(tactic| walk_at "cm") => `(tactic| first | exact Or.inr ⟨by decide, by decide⟩ | exact Or.inl ⟨by decide, by decide⟩ | exact Or.inl ⟨by omega, by omega⟩ | exact Or.inr ⟨by omega, by omega⟩)
variable {K : PySem.W.Frag}
theorem rdq_needrow (vs : List V) (H : Hp) (Q : VK) (E : XK) (h : sq_needrow K vs H Q E) : rq_needrow K { nx := fun _ H' => Q .non H', rt := Q } (L2.start N_needrow vs) H := by
  obtain ⟨n, a, r, rfl, ha, hr, n10, q⟩ := h
  unfold rq_needrow N_needrow
  walk_at "ev"
  refine ⟨.int (n : Int), "int", rfl, .int _, true, ?_, ?_⟩
  · rw [decide_eq_true rfl]
  walk_at "ev"
  refine ⟨.ref a, "list", rfl, .lst ha, _, _, rfl, rfl, ?_⟩
  walk_at "ev"
  refine ⟨a, _, rfl, .inl ha, ?_⟩
  rw [ints_len, hr]
  walk_at "ev"
  refine lc_each (a := a) (xs := vis r) rfl ha (fun v => rfl) (fun D i acc H' => Same H H' ∧ acc = List.replicate i (.bl true)) (fun D nD => ⟨same_new nD, rfl⟩) (fun D i acc H' nD g => g.1.seq ha) ?_ ?_
  · intro D i x acc H' nD hx hi hD g
    obtain ⟨s, rfl⟩ := g
    obtain ⟨z, rfl, _⟩ := ints_get hx
    refine .yes ?_
    walk_at "ev"
    refine ⟨.int z, "int", rfl, .int z, ?_⟩
    refine GoOn.mk hD (by rw [List.length_replicate]; rw [ints_len] at hi; omega) ⟨same_mut s nD, ?_⟩
    rw [decide_eq_true rfl, List.replicate_succ']
  · intro D acc H' nD hD g
    obtain ⟨s, rfl⟩ := g
    refine ⟨D, List.replicate (vis r).length true, rfl, .inl (.inl (by rw [hD, List.map_replicate])), true, ?_, ?_⟩
    · congr 1
      rw [List.all_eq_true.mpr]
      intro b hb
      rw [(List.mem_replicate.mp hb).2] <;> rfl
    · walk_at "ev"
      exact q H' s
/-! ### a comparer over a list of one's own -/
theorem rd_rbehind (vs : List V) (H : Hp) (Q : VK) (E : XK) (h : sp_rbehind K vs H Q E) : r_rbehind K { nx := fun _ H' => Q .non H', rt := Q } (L2.start N_rbehind vs) H := by
  obtain ⟨a, b, n, r, c, rfl, ha, hr, hb, okc, q⟩ := h
  obtain ⟨e1, e2⟩ := cmp_at okc hr
  unfold r_rbehind N_rbehind
  walk_at "ev"
  refine g2_run hb ?_
  walk_at "ev"
  refine ⟨a, _, rfl, .inl ha, fun p np => ?_⟩
  have s0 := same_new (o := .lst (vis r)) np
  refine ⟨a, _, _, _, rfl, rfl, s0.seq ha, atI_nat e1, a, _, _, _, rfl, rfl, s0.seq ha, atI_nat e2, ?_⟩
  walk_at "ev"
  split
  · rename_i gt
    refine ⟨a, _, _, _, rfl, rfl, s0.seq ha, atI_nat e2, ?_⟩
    refine set_run (a := c.1) rfl rfl upd_same (by rw [ints_len, hr]; exact okc.1) ?_
    walk_at "ev"
    have s1 := same_mut (o := .lst ((vis r).set c.1 (V.int (at0 r c.2)))) s0 np
    refine ⟨a, _, _, _, rfl, rfl, s1.seq ha, atI_nat e1, ?_⟩
    refine set_run (a := c.2) rfl rfl upd_same (by rw [List.length_set, ints_len, hr]; exact okc.2.1) ?_
    walk_at "ev"
    refine q _ p (same_mut s1 np) np ?_
    rw [upd_same]
    unfold goC
    rw [if_pos gt, ints_set, ints_set]
  · rename_i gt
    refine q _ p s0 np ?_
    rw [upd_same]
    unfold goC
    rw [if_neg gt]
def Wsteps (n : Nat) (a b f : Addr) (cs : List Cmp) (r : Row) (H : Hp) (i : Nat) (σ : L2.St) (H' : Hp) : Prop :=
  ∃ y qs, σ = [some (.int (n : Int)), some (.ref a), some (.ref b), some (.ref f), y] ∧ Same H H' ∧ H' f = some (.lst (Rfs qs)) ∧ Own H H' qs (trace (cs.take i) r)
theorem rdq_steps (vs : List V) (H : Hp) (Q : VK) (E : XK) (h : sq_steps K vs H Q E) : rq_steps K { nx := fun _ H' => Q .non H', rt := Q } (L2.start N_steps vs) H := by
  obtain ⟨n, a, b, cs, r, rfl, hw, hb, hr, q⟩ := h
  have n10 := webAt_get hw
  unfold rq_steps N_steps
  walk_at "ev"
  refine ⟨n, a, cs, rfl, hw, fun H1 s1 => ?_⟩
  refine ⟨n, b, r, rfl, s1.seq hb, hr, n10, fun H2 s2 => ?_⟩
  walk_at "ev"
  obtain ⟨ps, ha, hp, ok, n1, _⟩ := hw
  have h60 := ok.1
  have hpl := hp.length
  have s12 := s1.trans s2
  refine ⟨b, _, rfl, .inl (s12.seq hb), fun p0 np0 => ⟨small_line (by decide), fun f nf => ?_⟩⟩
  have s0 := s12.trans (same_new (o := .lst (vis r)) np0)
  have s3 := s0.trans (same_new (o := .lst [.ref p0]) nf)
  have nfH := s0.free nf
  have hp0f : p0 ≠ f := ne_of_none upd_same nf
  refine for_each (a := a) (xs := Rfs ps) rfl (s3.seq ha) (Wsteps n a b f cs r H) ⟨none, [p0], rfl, s3, by rw [upd_same] <;> rfl, .one ⟨s12.free np0, by rw [upd_ne hp0f, upd_same]⟩⟩ (fun i σ H' _ hW => ?_) (fun i x σ H' hx hi hW => ?_) (fun σ H' hW => ?_)
  · obtain ⟨_, _, _, s, _⟩ := hW
    exact s.seq ha
  · obtain ⟨y, qs, rfl, s, hf, own⟩ := hW
    obtain ⟨p, rfl, gp⟩ := rfs_get hx
    obtain ⟨c, hc, ht⟩ := hp.getL gp
    have okc := ok.2 c (List.mem_of_getElem? hc)
    have hlen : (gone (cs.take i) r).length = n := by rw [gone_len, hr]
    have lq := own.length
    have li : (cs.take i).length = i := by rw [List.length_take]; rw [rfs_len, hpl] at hi; omega
    rw [trace_len, li] at lq
    obtain ⟨q0, gq0, o0⟩ := own.get (by have z := trace_last (cs.take i) r; rw [li] at z; exact z)
    unfold rq_steps_f1
    walk_at "ev"
    refine ⟨.ref f, rfl, .inl ⟨rfl, _, .inl (.inl hf)⟩, ?_⟩
    refine ⟨.ref f, rfl, (1 : Int), rfl, f, _, _, _, rfl, rfl, .inl (.inl hf), atI_end (rfs_at gq0) (by rw [rfs_len, lq]), ?_⟩
    refine ⟨.ref p, rfl, q0, p, n, gone (cs.take i) r, c, rfl, .inl (.inl o0.2), hlen, Same.sqt s ht, okc, fun H3 p3 s3 np3 hp3 => ?_⟩
    have hf3 := s3 _ _ hf
    have hpf : p3 ≠ f := fun e => by rw [e, hf] at np3; cases np3
    refine ⟨f, _, _, rfl, rfl, hf3, by rw [rfs_len]; exact small_lt (by rw [rfs_len, hpl] at hi; omega), ?_⟩
    refine ⟨_, qs ++ [p3], rfl, same_mut (s.trans s3) nfH, ?_, ?_⟩
    · rw [upd_same]
      unfold Rfs
      rw [List.map_append] <;> rfl
    · rw [trace_take hc]
      refine ((own.same s3).upd hf3 fun r' hr' => ?_).snoc ⟨s.free np3, ?_⟩
      · exact ne_of_len ((trace_all _ _ _ hr').trans hr) n1
      · rw [upd_ne hpf, hp3, gone_take hc]
  · obtain ⟨y, qs, rfl, s, hf, own⟩ := hW
    walk_at "ev"
    rw [rfs_len, show ps.length = cs.length from hp.length, List.take_length] at own
    exact q H' f qs s nfH hf own
theorem rdq_run (vs : List V) (H : Hp) (Q : VK) (E : XK) (h : sq_run K vs H Q E) : rq_run K { nx := fun _ H' => Q .non H', rt := Q } (L2.start N_run vs) H := by
  obtain ⟨n, a, b, cs, r, rfl, hw, hb, hr, q⟩ := h
  unfold rq_run N_run
  walk_at "ev"
  refine ⟨n, a, b, cs, r, rfl, hw, hb, hr, fun H1 f qs s1 nf hf own => ?_⟩
  have lq := own.length
  rw [trace_len] at lq
  obtain ⟨q0, gq0, o0⟩ := own.get (trace_last cs r)
  refine ⟨f, _, _, _, rfl, rfl, .inl (.inl hf), atI_end (rfs_at gq0) (by rw [rfs_len, lq]), ?_⟩
  exact q H1 q0 s1 o0.1 o0.2
end Sw

set_option Elab.async false
set_option linter.all false
set_option maxRecDepth 100000
set_option maxHeartbeats 4000000
namespace Sw
open PySem PySem.Spec PyProof.Rows L2
local macro_rules | `(tactic| walk_at "ev") => `(tactic| simp only [tSeq, tCalW, quiet, tRzA, tRzO, tTryT, tTryK, tJoin, tJs, tBM, tBits, kStrI, kIntS, kLenS, mSplit, mPart, mIndex, tAsg, tRet, tRetN, tOp, tUn, tVar, tC, tNil, tCons, tCB, tDrop, tNext, tCont, tBreak, tIfS, tIf, tTest, tChain, tChain3, tB, tTup, tLst, tAnd, tOr, tNot, tAndV, tOrV, tNotV, tPart, tNoPart, tSl, tCal, tAug, ipI, rI0, rI, rU, rEq, rNe, kMin, kMax, gName, gCons, gNil, L2.start, wipe, List.map_cons, List.map_nil, List.length_cons, List.length_nil, List.cons_append, List.nil_append, List.append_nil, Nat.reduceAdd, Nat.reduceSub, List.replicate_succ, List.replicate_zero, List.getElem?_cons_zero, List.getElem?_cons_succ, List.set_cons_succ, List.set_cons_zero, Option.some.injEq, exists_eq_left', exists_eq_left, V.int.injEq, V.bl.injEq, V.str.injEq, V.ref.injEq, List.cons.injEq, exists_and_left, and_assoc, and_true, true_and, scal_ii, scal_ss, scal_nn, scal_bb, scal_ni, scal_in, decide_eq_true_eq, Bool.not_true, Bool.not_false, Bool.not_eq_true', decide_eq_false_iff_not, ite_not, reduceCtorEq, if_true, if_false, Bool.false_eq_true, ne_eq, not_true_eq_false, not_false_eq_true, Int.reduceLT, Int.reduceLE, Int.reduceNeg])
local macro_rules | `(tactic| walk_at "cm") => `(tactic| first | exact Or.inr ⟨by decide, by decide⟩ | exact Or.inl ⟨by decide, by decide⟩ | exact Or.inl ⟨by omega, by omega⟩ | exact Or.inr ⟨by omega, by omega⟩)
variable {K : PySem.W.Frag}
theorem natI_nil {xs : List Nat} : natI xs = natI [] ↔ xs = [] := by
  unfold natI
  rw [List.map_nil, List.map_eq_nil_iff]
theorem nat_at {xs : List Nat} {k : Nat} (h : k < xs.length) : (natL xs)[k]? = some (.int ((xs.getD k 0 : Nat) : Int)) := by
  unfold natL
  rw [List.getElem?_map, List.getD_eq_getElem?_getD, List.getElem?_eq_getElem h] <;> rfl
theorem evs_nat (xs : List Nat) (d : Nat) : evs ((natL xs).drop d) = natL (evs (xs.drop d)) := by
  unfold natL
  rw [← List.map_drop, evs_map]
theorem head_at (xs : List Nat) : xs.headD 0 = xs.getD 0 0 := by cases xs <;> rfl
def Wpm (a b : Addr) (D R : Addr) (rs : List Nat) (cs : List Cmp) (K : PySem.W.Frag) (H : Hp) (i : Nat) (σ : L2.St) (H' : Hp) : Prop :=
  ∃ y4 qs, σ = [some (.ref a), some (.ref b), some (.ref D), some (.ref R), y4] ∧ Same H H' ∧ H' R = some (.lst (natL rs)) ∧ H' D = some (.lst (Rfs qs)) ∧ Prs K H' qs (cs ++ (ups rs).take i)
theorem rdg_pmerging (f : Nat) (spR : Sp) (vs : List V) (H : Hp) (Q : VK) (E : XK) (h : spf_pmerging f K vs H Q E)
    (hR : ∀ (g : Nat) (a b : Addr) (xs ys : List Nat) (H : Hp) (Q : VK), f = g + 1 → H a = some (.lst (natL xs)) → H b = some (.lst (natL ys)) → 2 * xs.length ≤ 2 ^ g → 2 * ys.length ≤ 2 ^ g →
      (∀ H' p qs, Same H H' → H p = none → H' p = some (.lst (Rfs qs)) → Prs K H' qs (mergeF g xs ys) → Q (.ref p) H') → spR [.ref a, .ref b] H Q E0) :
    r_pmerging K spR { nx := fun _ H' => Q .non H', rt := Q } (L2.start N_pmerging vs) H := by
  obtain ⟨a, b, xs, ys, rfl, ha, hb, lx, ly, f5, q⟩ := h
  have pf : 2 ^ f ≤ 2 ^ 5 := Nat.pow_le_pow_right (by decide) f5
  have x16 : xs.length ≤ 16 := by omega
  have y16 : ys.length ≤ 16 := by omega
  unfold r_pmerging N_pmerging
  walk_at "ev"
  -- one of both is empty
  have empty : ∀ H1, Same H H1 → (xs = [] ∨ ys = []) → 0 ≤ sizeLine ∧ ∀ p, H1 p = none → Q (.ref p) (upd H1 p (.lst [])) := fun H1 s1 z => by
    refine ⟨small_line (by decide), fun p np => q _ p [] (s1.trans (same_new np)) (s1.free np) upd_same ?_⟩
    have e : mergeF f xs ys = [] := by
      cases f with
      | zero => rfl
      | succ f =>
        unfold mergeF
        rw [if_pos z]
    rw [e]
    exact .nil
  refine ⟨small_line (by decide), fun l nl => ?_⟩
  have s1 := same_new (o := .lst []) nl
  have ha1 := s1 _ _ ha
  have hb1 := s1 _ _ hb
  refine eq_nats (r := xs) (s := []) (.inl (.inl ha1)) (.inl (.inl upd_same)) ?_
  generalize upd H l (.lst []) = H1 at s1 ha1 hb1
  by_cases z : xs = []
  · rw [decide_eq_true (natI_nil.mpr z)]
    refine ⟨true, rfl, ?_⟩
    rw [if_pos rfl]
    exact empty _ s1 (.inl z)
  rw [decide_eq_false fun y => z (natI_nil.mp y)]
  refine ⟨false, rfl, ?_⟩
  rw [if_neg (by decide)]
  refine ⟨small_line (by decide), fun l2 nl2 => ?_⟩
  have s2 := s1.trans (same_new (o := .lst []) nl2)
  have ha2 := (same_new (o := .lst []) nl2) _ _ ha1
  have hb2 := (same_new (o := .lst []) nl2) _ _ hb1
  refine eq_nats (r := ys) (s := []) (.inl (.inl hb2)) (.inl (.inl upd_same)) ?_
  generalize upd H1 l2 (.lst []) = H2 at s2 ha2 hb2
  by_cases z2 : ys = []
  · rw [decide_eq_true (natI_nil.mpr z2)]
    refine ⟨true, rfl, ?_⟩
    rw [if_pos rfl]
    exact empty _ s2 (.inr z2)
  rw [decide_eq_false fun y => z2 (natI_nil.mp y)]
  refine ⟨false, rfl, ?_⟩
  rw [if_neg (by decide)]
  have px : 1 ≤ xs.length := List.length_pos_iff.mpr z
  have py : 1 ≤ ys.length := List.length_pos_iff.mpr z2
  obtain ⟨g, rfl⟩ : ∃ g, f = g + 1 := by
    cases f with
    | zero =>
      rw [Nat.pow_zero] at lx
      omega
    | succ g => exact ⟨g, rfl⟩
  have pg : 2 ^ (g + 1) = 2 * 2 ^ g := by rw [Nat.pow_succ, Nat.mul_comm]
  rw [pg] at lx ly
  have em : ¬ (xs = [] ∨ ys = []) := fun y => y.elim z z2
  -- both have one line
  refine ⟨a, _, rfl, .inl (.inl (.inl ha2)), ?_⟩
  rw [nat_len]
  refine ⟨rfl, ?_⟩
  by_cases both : xs.length = 1 ∧ ys.length = 1
  · rw [if_pos (by rw [both.1] <;> rfl)]
    refine ⟨b, _, rfl, .inl (.inl (.inl hb2)), ?_⟩
    rw [nat_len]
    refine ⟨rfl, ?_⟩
    rw [if_pos (by rw [both.2] <;> rfl)]
    refine ⟨a, _, _, _, rfl, rfl, .inl (.inl ha2), atI_nat (j := 0) (nat_at (by omega)), ?_⟩
    refine ⟨b, _, _, _, rfl, rfl, .inl (.inl hb2), atI_nat (j := 0) (nat_at (by omega)), ?_⟩
    refine ⟨small_line (by decide), fun t nt => ?_⟩
    have s3 := same_new (o := .tup [.int ((xs.getD 0 0 : Nat) : Int), .int ((ys.getD 0 0 : Nat) : Int)]) nt
    refine ⟨small_line (by decide), fun p np => ?_⟩
    refine q _ p [t] ((s2.trans s3).trans (same_new np)) ((s2.trans s3).free np) upd_same ?_
    have e : mergeF (g + 1) xs ys = [(xs.getD 0 0, ys.getD 0 0)] := by
      unfold mergeF
      rw [if_neg em, if_pos both, head_at, head_at]
    rw [e]
    exact .cons (.inl (.inl ((same_new np) _ _ upd_same))) .nil
  have e : mergeF (g + 1) xs ys = (mergeF g (evs xs) (evs ys) ++ mergeF g (evs (xs.drop 1)) (evs (ys.drop 1))) ++ ups (xs ++ ys) := by
    conv => lhs; unfold mergeF
    rw [if_neg em, if_neg both]
  rw [e] at q
  have g1 : ∃ j, 2 ^ g = 2 * j := by
    cases g with
    | zero =>
      exfalso
      rw [Nat.pow_zero] at lx ly
      omega
    | succ j => exact ⟨2 ^ j, by rw [Nat.pow_succ, Nat.mul_comm]⟩
  have bx : ∀ (zs : List Nat) (d : Nat), 2 * zs.length ≤ 2 * 2 ^ g → 2 * (evs (zs.drop d)).length ≤ 2 ^ g := fun zs d lz => by
    obtain ⟨j, ej⟩ := g1
    rw [evs_len, List.length_drop]
    omega
  -- the rest
  have more : ∀ H3, Same H H3 → H3 a = some (.lst (natL xs)) → H3 b = some (.lst (natL ys)) →
      tStepF K (tVar 0) tNoPart (tC (V.int 2)) [some (V.ref a), some (V.ref b), none, none, none] H3 fun x H1 =>
        tStepF K (tVar 1) tNoPart (tC (V.int 2)) [some (V.ref a), some (V.ref b), none, none, none] H1 fun x_1 H1 =>
          spR [x, x_1] H1
            (fun x H1 =>
              tStepF K (tVar 0) (tPart (tC (V.int 1))) (tC (V.int 2)) [some (V.ref a), some (V.ref b), none, none, none] H1 fun x_2 H1 =>
                tStepF K (tVar 1) (tPart (tC (V.int 1))) (tC (V.int 2)) [some (V.ref a), some (V.ref b), none, none, none] H1 fun x_3 H1 =>
                  spR [x_2, x_3] H1
                    (fun y H2 =>
                      rCat x y H2 fun x H1 =>
                        rCat (V.ref a) (V.ref b) H1 fun x_4 H1 =>
                          tFor (iRng3 (tCons (tC (V.int 1)) (tCons (tOp oSub (tCB (kLen K) (tCons (tVar 3) tNil)) (tC (V.int 1))) (tCons (tC (V.int 2)) tNil)))) (gName 4) (r_pmerging_f1 K spR)
                            { nx := tRet (tVar 2) { nx := fun x H' => Q V.non H', rt := Q }, rt := Q } [some (V.ref a), some (V.ref b), some x, some x_4, none] H1)
                    E0)
            E0 := fun H3 s3 ha3 hb3 => by
    unfold tStepF
    walk_at "ev"
    refine ⟨_, .inl (.inl ha3), 0, .inl rfl, fun u1 nu1 => ?_⟩
    rw [evs_nat]
    have s4 := same_new (o := .lst (natL (evs (xs.drop 0)))) nu1
    have hu1 : (upd H3 u1 (.lst (natL (evs (xs.drop 0))))) u1 = some (.lst (natL (evs (xs.drop 0)))) := upd_same
    have ha4 := s4 _ _ ha3
    have hb4 := s4 _ _ hb3
    generalize upd H3 u1 (.lst (natL (evs (xs.drop 0)))) = H4 at s4 hu1 ha4 hb4
    refine ⟨_, .inl (.inl hb4), 0, .inl rfl, fun u2 nu2 => ?_⟩
    rw [evs_nat]
    have s5 := same_new (o := .lst (natL (evs (ys.drop 0)))) nu2
    have hu2 : (upd H4 u2 (.lst (natL (evs (ys.drop 0))))) u2 = some (.lst (natL (evs (ys.drop 0)))) := upd_same
    have hu15 := s5 _ _ hu1
    have ha5 := s5 _ _ ha4
    have hb5 := s5 _ _ hb4
    generalize upd H4 u2 (.lst (natL (evs (ys.drop 0)))) = H5 at s5 hu2 hu15 ha5 hb5
    refine hR g u1 u2 _ _ H5 _ rfl hu15 hu2 (bx xs 0 lx) (bx ys 0 ly) fun H6 p1 qs1 s6 np1 hp1 hq1 => ?_
    rw [List.drop_zero, List.drop_zero] at hq1
    have ha6 := s6 _ _ ha5
    have hb6 := s6 _ _ hb5
    refine ⟨_, .inl (.inl ha6), 1, .inr ⟨rfl, Nat.le_refl _⟩, fun u3 nu3 => ?_⟩
    rw [evs_nat]
    have s7 := same_new (o := .lst (natL (evs (xs.drop 1)))) nu3
    have hu3 : (upd H6 u3 (.lst (natL (evs (xs.drop 1))))) u3 = some (.lst (natL (evs (xs.drop 1)))) := upd_same
    have ha7 := s7 _ _ ha6
    have hb7 := s7 _ _ hb6
    have hp17 := s7 _ _ hp1
    generalize upd H6 u3 (.lst (natL (evs (xs.drop 1)))) = H7 at s7 hu3 ha7 hb7 hp17
    refine ⟨_, .inl (.inl hb7), 1, .inr ⟨rfl, Nat.le_refl _⟩, fun u4 nu4 => ?_⟩
    rw [evs_nat]
    have s8 := same_new (o := .lst (natL (evs (ys.drop 1)))) nu4
    have hu4 : (upd H7 u4 (.lst (natL (evs (ys.drop 1))))) u4 = some (.lst (natL (evs (ys.drop 1)))) := upd_same
    have hu38 := s8 _ _ hu3
    have ha8 := s8 _ _ ha7
    have hb8 := s8 _ _ hb7
    have hp18 := s8 _ _ hp17
    generalize upd H7 u4 (.lst (natL (evs (ys.drop 1)))) = H8 at s8 hu4 hu38 ha8 hb8 hp18
    refine hR g u3 u4 _ _ H8 _ rfl hu38 hu4 (bx xs 1 lx) (bx ys 1 ly) fun H9 p2 qs2 s9 np2 hp2 hq2 => ?_
    have t9 := s7.trans (s8.trans s9)
    have l1 := hq1.length
    have l2 := hq2.length
    have m1 := mergeF_len g (evs xs) (evs ys)
    have m2 := mergeF_len g (evs (xs.drop 1)) (evs (ys.drop 1))
    have few : (mergeF g (evs xs) (evs ys)).length ≤ 200 ∧ (mergeF g (evs (xs.drop 1)) (evs (ys.drop 1))).length ≤ 200 := by
      have k1 := bx xs 0 lx
      have k2 := bx ys 0 ly
      have k3 := bx xs 1 lx
      have k4 := bx ys 1 ly
      rw [List.drop_zero] at k1 k2
      have g4 : g ≤ 4 := by omega
      have p4 : 2 ^ g ≤ 2 ^ 4 := Nat.pow_le_pow_right (by decide) g4
      have w1 : g * ((evs xs).length + (evs ys).length) ≤ 4 * 16 := Nat.mul_le_mul g4 (by omega)
      have w2 : g * ((evs (xs.drop 1)).length + (evs (ys.drop 1)).length) ≤ 4 * 16 := Nat.mul_le_mul g4 (by omega)
      omega
    refine ⟨p1, p2, _, _, rfl, rfl, s9 _ _ hp18, hp2, by rw [rfs_len, rfs_len]; exact small_line (by omega), fun D nD => ?_⟩
    have sD := same_new (o := .lst (Rfs qs1 ++ Rfs qs2)) nD
    have hD : (upd H9 D (.lst (Rfs qs1 ++ Rfs qs2))) D = some (.lst (Rfs (qs1 ++ qs2))) := by
      rw [upd_same]
      unfold Rfs
      rw [List.map_append]
    have haD := sD _ _ (s9 _ _ ha8)
    have hbD := sD _ _ (s9 _ _ hb8)
    have hqD : Prs K (upd H9 D (.lst (Rfs qs1 ++ Rfs qs2))) (qs1 ++ qs2) (mergeF g (evs xs) (evs ys) ++ mergeF g (evs (xs.drop 1)) (evs (ys.drop 1))) := (Same.prs (t9.trans sD) hq1).append (Same.prs sD hq2)
    have sAll := s3.trans (s4.trans (s5.trans (s6.trans (t9.trans sD))))
    have nDH := (s3.trans (s4.trans (s5.trans (s6.trans t9)))).free nD
    generalize upd H9 D (.lst (Rfs qs1 ++ Rfs qs2)) = HD at hD haD hbD hqD sAll
    refine ⟨a, b, _, _, rfl, rfl, haD, hbD, by rw [nat_len, nat_len]; exact small_line (by omega), fun R nR => ?_⟩
    have eR : natL xs ++ natL ys = natL (xs ++ ys) := by
      unfold natL
      rw [List.map_append]
    rw [eR]
    have sR := same_new (o := .lst (natL (xs ++ ys))) nR
    have hR' : (upd HD R (.lst (natL (xs ++ ys)))) R = some (.lst (natL (xs ++ ys))) := upd_same
    have hDR := sR _ _ hD
    have hqR := Same.prs sR hqD
    have sAllR := sAll.trans sR
    have DR : D ≠ R := ne_of_none hD nR
    generalize upd HD R (.lst (natL (xs ++ ys))) = HR at hR' hDR hqR sAllR
    have lr : (xs ++ ys).length = xs.length + ys.length := List.length_append
    have up : upN 1 (((xs ++ ys).length : Int) - 1) 2 = ((xs ++ ys).length - 1) / 2 := by
      unfold upN
      split <;> omega
    generalize hrs : xs ++ ys = rs at hR' lr up q
    refine for_rng3 (lo := 1) (hi := (rs.length : Int) - 1) (c := 2) (n := (rs.length - 1) / 2) (fun Q q => ?_) (by rw [← up]; exact upN_rgc (by omega) (by omega) (by omega))
      (Wpm a b D R rs (mergeF g (evs xs) (evs ys) ++ mergeF g (evs (xs.drop 1)) (evs (ys.drop 1))) K H) ⟨none, qs1 ++ qs2, rfl, sAllR, hR', hDR, by rw [List.take_zero, List.append_nil]; exact hqR⟩ (fun i σ H' hi hW => ?_) (fun σ H' hW => ?_)
    · walk_at "ev"
      refine ⟨R, _, rfl, .inl (.inl (.inl hR')), ?_⟩
      walk_at "ev"
      rw [nat_len]
      exact q
    · obtain ⟨y4, qs, rfl, s, hr, hd, hq⟩ := hW
      have lq := hq.length
      rw [List.length_append, List.length_append, List.length_take, ups_len] at lq
      have ei : (1 : Int) + (i : Int) * 2 = ((1 + 2 * i : Nat) : Int) := by omega
      rw [ei]
      unfold r_pmerging_f1
      walk_at "ev"
      refine ⟨.inl ⟨rfl, _, .inl (.inl hd)⟩, ?_⟩
      refine ⟨R, _, _, _, rfl, rfl, .inl (.inl hr), atI_nat (nat_at (by omega)), ?_⟩
      rw [show ((1 + 2 * i : Nat) : Int) + 1 = ((1 + 2 * i + 1 : Nat) : Int) by omega]
      refine ⟨R, _, _, _, rfl, rfl, .inl (.inl hr), atI_nat (nat_at (by omega)), ?_⟩
      refine ⟨small_line (by decide), fun t nt => ?_⟩
      have st := same_new (o := .tup [.int ((rs.getD (1 + 2 * i) 0 : Nat) : Int), .int ((rs.getD (1 + 2 * i + 1) 0 : Nat) : Int)]) nt
      have hdt := st _ _ hd
      refine ⟨D, _, _, rfl, rfl, hdt, by rw [rfs_len]; exact small_lt (by omega), ?_⟩
      refine ⟨_, qs ++ [t], rfl, same_mut (s.trans st) nDH, by rw [upd_ne DR.symm]; exact st _ _ hr, ?_, ?_⟩
      · rw [upd_same]
        unfold Rfs
        rw [List.map_append] <;> rfl
      · have eu : (ups rs)[i]? = some (rs.getD (1 + 2 * i) 0, rs.getD (1 + 2 * i + 1) 0) := by
          unfold ups
          rw [List.getElem?_map, List.getElem?_range hi] <;> rfl
        rw [List.take_add_one, eu, ← List.append_assoc]
        exact prs_upd hdt ((Same.prs st hq).snoc (.inl (.inl upd_same)))
    · obtain ⟨y4, qs, rfl, s, hr, hd, hq⟩ := hW
      rw [List.take_of_length_le (by rw [ups_len]; exact Nat.le_refl _)] at hq
      walk_at "ev"
      exact q H' D qs s nDH hd hq
  by_cases one : xs.length = 1
  · rw [if_pos (by rw [one] <;> rfl)]
    refine ⟨b, _, rfl, .inl (.inl (.inl hb2)), ?_⟩
    rw [nat_len]
    refine ⟨rfl, ?_⟩
    rw [if_neg (by
      intro y
      have := V.int.inj y
      exact both ⟨one, by omega⟩)]
    exact more H2 s2 ha2 hb2
  · rw [if_neg (by
      intro y
      have := V.int.inj y
      exact one (by omega))]
    exact more H2 s2 ha2 hb2
theorem rd0_pmerging (vs : List V) (H : Hp) (Q : VK) (E : XK) (h : spf_pmerging 0 K vs H Q E) : r_pmerging K (fun _ _ _ _ => False) { nx := fun _ H' => Q .non H', rt := Q } (L2.start N_pmerging vs) H :=
  rdg_pmerging 0 _ vs H Q E h fun g a b xs ys H Q e => absurd e (by omega)
theorem rd_pmerging (f : Nat) (vs : List V) (H : Hp) (Q : VK) (E : XK) (h : spf_pmerging (f + 1) K vs H Q E) : r_pmerging K (spf_pmerging f K) { nx := fun _ H' => Q .non H', rt := Q } (L2.start N_pmerging vs) H := by
  have f5 : f + 1 ≤ 5 := by
    obtain ⟨_, _, _, _, _, _, _, _, _, f5, _⟩ := h
    exact f5
  refine rdg_pmerging (f + 1) _ vs H Q E h fun g a b xs ys H Q e ha hb lx ly q => ?_
  obtain rfl : f = g := by omega
  exact ⟨a, b, xs, ys, rfl, ha, hb, lx, ly, by omega, q⟩
theorem rdq_needpart (vs : List V) (H : Hp) (Q : VK) (E : XK) (h : sq_needpart K vs H Q E) : rq_needpart K { nx := fun _ H' => Q .non H', rt := Q } (L2.start N_needpart vs) H := by
  obtain ⟨n, rfl, h2, q⟩ := h
  unfold rq_needpart N_needpart
  walk_at "ev"
  refine ⟨.int (n : Int), "int", rfl, .int _, true, ?_, ?_⟩
  · rw [decide_eq_true rfl]
  walk_at "ev"
  rw [if_pos (by omega), if_pos (by omega)]
  exact q
theorem rgV_from (m k : Nat) : rgV (m : Int) ((m : Int) + (k : Int)) = natL ((List.range k).map (m + ·)) := by
  unfold rgV natL
  rw [show ((m : Int) + (k : Int) - (m : Int)).toNat = k by omega, List.map_map]
  apply List.map_congr_left
  intro i _
  show V.int ((m : Int) + (i : Nat)) = V.int ((m + i : Nat) : Int)
  congr 1
theorem rdg_psorting (f : Nat) (spR : Sp) (vs : List V) (H : Hp) (Q : VK) (E : XK) (h : spf_psorting f K vs H Q E)
    (hR : ∀ (g : Nat) (a : Addr) (xs : List Nat) (H : Hp) (Q : VK), f = g + 1 → H a = some (.lst (natL xs)) → xs.length ≤ 2 ^ g →
      (∀ H' p qs, Same H H' → H p = none → H' p = some (.lst (Rfs qs)) → Prs K H' qs (sortF g xs) → Q (.ref p) H') → spR [.ref a] H Q E0) :
    r_psorting K spR { nx := fun _ H' => Q .non H', rt := Q } (L2.start N_psorting vs) H := by
  obtain ⟨a, xs, rfl, ha, lx, f4, q⟩ := h
  have pf : 2 ^ f ≤ 2 ^ 4 := Nat.pow_le_pow_right (by decide) f4
  have x16 : xs.length ≤ 16 := by omega
  unfold r_psorting N_psorting
  walk_at "ev"
  refine ⟨a, _, rfl, .inl (.inl (.inl ha)), ?_⟩
  rw [nat_len]
  walk_at "ev"
  by_cases z : xs.length < 2
  · rw [if_pos (by omega)]
    refine ⟨small_line (by decide), fun p np => ?_⟩
    refine q _ p [] (same_new np) np upd_same ?_
    have e : sortF f xs = [] := by
      cases f with
      | zero => rfl
      | succ f =>
        unfold sortF
        rw [if_pos z]
    rw [e]
    exact .nil
  rw [if_neg (by omega)]
  obtain ⟨g, rfl⟩ : ∃ g, f = g + 1 := by
    cases f with
    | zero =>
      rw [Nat.pow_zero] at lx
      omega
    | succ g => exact ⟨g, rfl⟩
  have pg : 2 ^ (g + 1) = 2 * 2 ^ g := by rw [Nat.pow_succ, Nat.mul_comm]
  rw [pg] at lx
  have e : sortF (g + 1) xs = (sortF g (xs.take (xs.length / 2)) ++ sortF g (xs.drop (xs.length / 2))) ++ mergeF 5 (xs.take (xs.length / 2)) (xs.drop (xs.length / 2)) := by
    conv => lhs; unfold sortF
    rw [if_neg z]
  rw [e] at q
  have eh : (xs.length : Int) / 2 = ((xs.length / 2 : Nat) : Int) := by omega
  refine ⟨a, _, rfl, .inl (.inl (.inl ha)), ?_⟩
  rw [nat_len]
  walk_at "ev"
  refine ⟨⟨by decide, by decide⟩, ?_⟩
  rw [eh]
  have cut1 : cutV (natL xs) none (some ((xs.length / 2 : Nat) : Int)) = natL (xs.take (xs.length / 2)) := by
    rw [cutV_to]
    unfold natL
    rw [List.map_take]
  have cut2 : cutV (natL xs) (some ((xs.length / 2 : Nat) : Int)) none = natL (xs.drop (xs.length / 2)) := by
    rw [cutV_from]
    unfold natL
    rw [List.map_drop]
  have lt : (xs.take (xs.length / 2)).length = xs.length / 2 := by rw [List.length_take]; omega
  have ld : (xs.drop (xs.length / 2)).length = xs.length - xs.length / 2 := List.length_drop
  have g1 : ∃ j, 2 ^ g = 2 * j ∨ 2 ^ g = 1 := by
    cases g with
    | zero => exact ⟨0, .inr rfl⟩
    | succ j => exact ⟨2 ^ j, .inl (by rw [Nat.pow_succ, Nat.mul_comm])⟩
  generalize xs.take (xs.length / 2) = ys at cut1 lt q
  generalize xs.drop (xs.length / 2) = zs at cut2 ld q
  refine ⟨a, _, rfl, .inl (.inl ha), fun u1 nu1 => ?_⟩
  rw [cut1]
  have s1 := same_new (o := .lst (natL ys)) nu1
  have hu1 : (upd H u1 (.lst (natL ys))) u1 = some (.lst (natL ys)) := upd_same
  have ha1 := s1 _ _ ha
  generalize upd H u1 (.lst (natL ys)) = H1 at s1 hu1 ha1
  refine ⟨a, _, rfl, .inl (.inl ha1), fun u2 nu2 => ?_⟩
  rw [cut2]
  have s2 := s1.trans (same_new (o := .lst (natL zs)) nu2)
  have hu2 : (upd H1 u2 (.lst (natL zs))) u2 = some (.lst (natL zs)) := upd_same
  have hu12 := (same_new (o := .lst (natL zs)) nu2) _ _ hu1
  generalize upd H1 u2 (.lst (natL zs)) = H2 at s2 hu2 hu12
  refine hR g u1 _ H2 _ rfl hu12 (by obtain ⟨j, hj⟩ := g1; omega) fun H3 p1 qs1 s3 np1 hp1 hq1 => ?_
  refine hR g u2 _ H3 _ rfl (s3 _ _ hu2) (by obtain ⟨j, hj⟩ := g1; omega) fun H4 p2 qs2 s4 np2 hp2 hq2 => ?_
  have l1 := hq1.length
  have l2 := hq2.length
  have m1 := sortF_len g ys
  have m2 := sortF_len g zs
  have few : (sortF g ys).length ≤ 400 ∧ (sortF g zs).length ≤ 400 := by
    have w1 : g * (5 * ys.length) ≤ 4 * 80 := Nat.mul_le_mul (by omega) (by omega)
    have w2 : g * (5 * zs.length) ≤ 4 * 80 := Nat.mul_le_mul (by omega) (by omega)
    omega
  refine ⟨p1, p2, _, _, rfl, rfl, s4 _ _ hp1, hp2, by rw [rfs_len, rfs_len]; exact small_line (by omega), fun D nD => ?_⟩
  have sD := same_new (o := .lst (Rfs qs1 ++ Rfs qs2)) nD
  have hD : (upd H4 D (.lst (Rfs qs1 ++ Rfs qs2))) D = some (.lst (Rfs (qs1 ++ qs2))) := by
    rw [upd_same]
    unfold Rfs
    rw [List.map_append]
  have hqD : Prs K (upd H4 D (.lst (Rfs qs1 ++ Rfs qs2))) (qs1 ++ qs2) (sortF g ys ++ sortF g zs) := (Same.prs (s4.trans sD) hq1).append (Same.prs sD hq2)
  have t3 := s3.trans (s4.trans sD)
  have hu1D := t3 _ _ hu12
  have hu2D := t3 _ _ hu2
  have sAll := s2.trans t3
  generalize upd H4 D (.lst (Rfs qs1 ++ Rfs qs2)) = HD at hD hqD sAll hu1D hu2D
  refine ⟨u1, u2, _, _, rfl, hu1D, hu2D, by omega, by omega, by decide, fun H5 p3 qs3 s5 np3 hp3 hq3 => ?_⟩
  have l3 := hq3.length
  have m3 := mergeF_len 5 ys zs
  have lD : (qs1 ++ qs2).length ≤ 800 := by
    rw [hqD.length, List.length_append]
    omega
  refine ⟨D, p3, _, _, rfl, rfl, s5 _ _ hD, hp3, by rw [rfs_len, rfs_len]; exact small_line (by omega), fun R nR => ?_⟩
  have sR := same_new (o := .lst (Rfs (qs1 ++ qs2) ++ Rfs qs3)) nR
  refine q _ R ((qs1 ++ qs2) ++ qs3) (sAll.trans (s5.trans sR)) ((sAll.trans s5).free nR) ?_ ((Same.prs (s5.trans sR) hqD).append (Same.prs sR hq3))
  rw [upd_same]
  unfold Rfs
  rw [List.map_append (l₁ := qs1 ++ qs2)]
theorem rd0_psorting (vs : List V) (H : Hp) (Q : VK) (E : XK) (h : spf_psorting 0 K vs H Q E) : r_psorting K (fun _ _ _ _ => False) { nx := fun _ H' => Q .non H', rt := Q } (L2.start N_psorting vs) H :=
  rdg_psorting 0 _ vs H Q E h fun g a xs H Q e => absurd e (by omega)
theorem rd_psorting (f : Nat) (vs : List V) (H : Hp) (Q : VK) (E : XK) (h : spf_psorting (f + 1) K vs H Q E) : r_psorting K (spf_psorting f K) { nx := fun _ H' => Q .non H', rt := Q } (L2.start N_psorting vs) H := by
  have f4 : f + 1 ≤ 4 := by
    obtain ⟨_, _, _, _, _, f4, _⟩ := h
    exact f4
  refine rdg_psorting (f + 1) _ vs H Q E h fun g a xs H Q e ha lx q => ?_
  obtain rfl : f = g := by omega
  exact ⟨a, xs, rfl, ha, lx, by omega, q⟩
theorem rdq_sorting (vs : List V) (H : Hp) (Q : VK) (E : XK) (h : sq_sorting K vs H Q E) : rq_sorting K { nx := fun _ H' => Q .non H', rt := Q } (L2.start N_sorting vs) H := by
  obtain ⟨n, rfl, n1, n10, q⟩ := h
  unfold rq_sorting N_sorting tLstRg tRg1
  walk_at "ev"
  refine ⟨n, rfl, n1, n10, ?_⟩
  refine ⟨.of_le (by omega) (by omega) (by omega) (by omega), fun u nu => ?_⟩
  rw [rgV_nat]
  have s1 := same_new (o := .lst (natL (List.range n))) nu
  refine ⟨u, List.range n, rfl, upd_same, by rw [List.length_range]; omega, by decide, fun H' p qs s np hp hq => ?_⟩
  exact q H' p qs (s1.trans s) (s1.free np) hp hq
theorem rdq_merging (vs : List V) (H : Hp) (Q : VK) (E : XK) (h : sq_merging K vs H Q E) : rq_merging K { nx := fun _ H' => Q .non H', rt := Q } (L2.start N_merging vs) H := by
  obtain ⟨m, k, rfl, n1, n10, q⟩ := h
  unfold rq_merging N_merging tLstRg tRg1 tRg2
  walk_at "ev"
  refine ⟨m, rfl, by omega, ?_⟩
  refine ⟨k, rfl, by omega, ?_⟩
  refine ⟨m + k, by rw [Int.natCast_add], n1, n10, ?_⟩
  refine ⟨.of_le (by omega) (by omega) (by omega) (by omega), fun u nu => ?_⟩
  rw [rgV_nat]
  have s1 := same_new (o := .lst (natL (List.range m))) nu
  have hu1 : (upd H u (.lst (natL (List.range m)))) u = some (.lst (natL (List.range m))) := upd_same
  generalize upd H u (.lst (natL (List.range m))) = H1 at s1 hu1
  refine ⟨.of_le (by omega) (by omega) (by omega) (by omega), fun v nv => ?_⟩
  rw [rgV_from]
  have s2 := same_new (o := .lst (natL ((List.range k).map (m + ·)))) nv
  refine ⟨u, v, List.range m, (List.range k).map (m + ·), rfl, s2 _ _ hu1, upd_same, by rw [List.length_range]; omega, by rw [List.length_map, List.length_range]; omega, by decide, fun H' p qs s np hp hq => ?_⟩
  have t := s1.trans s2
  exact q H' p qs (t.trans s) (t.free np) hp hq
theorem rdq_beside (vs : List V) (H : Hp) (Q : VK) (E : XK) (h : sq_beside K vs H Q E) : rq_beside K { nx := fun _ H' => Q .non H', rt := Q } (L2.start N_beside vs) H := by
  obtain ⟨n, m, a, b, cs, ds, rfl, hwa, hwb, few, few2, q⟩ := h
  obtain ⟨ps, ha, hps, ok, n1, n10⟩ := id hwa
  obtain ⟨qs, hb, hqs, od, m1, m10⟩ := id hwb
  have lp := hps.length
  have lq := hqs.length
  have h60 := od.1
  unfold rq_beside N_beside
  walk_at "ev"
  refine ⟨n, a, cs, rfl, ⟨ps, .inl (.inl ha), hps, ok, n1, n10⟩, fun H1 s1 => ?_⟩
  refine ⟨m, b, ds, rfl, webAt_same s1 hwb, fun H2 s2 => ?_⟩
  have t := s1.trans s2
  walk_at "ev"
  rw [if_neg (by omega)]
  refine ⟨a, _, rfl, .inl (.inl (.inl (t _ _ ha))), ?_⟩
  refine ⟨b, _, rfl, .inl (t.seq hb), ?_⟩
  rw [rfs_len, rfs_len]
  walk_at "ev"
  rw [if_neg (by omega)]
  refine lc_cmps (a := b) (ps := qs) (cs := ds) (besC n) rfl (t.seq hb) (Same.prs t hqs) (by omega) (fun v w => rfl) (fun c H' Q' hc s' q' => ?_) (fun D H' ws s' nD hD hq => ?_)
  · walk_at "ev"
    refine ⟨small_line (by decide), fun T nT => ?_⟩
    have := q' T nT
    unfold V2 besC at this
    dsimp only at this
    rw [show ((c.1 + n : Nat) : Int) = (n : Int) + (c.1 : Int) by omega, show ((c.2 + n : Nat) : Int) = (n : Int) + (c.2 : Int) by omega] at this
    exact this
  · have t3 := t.trans s'
    have lw := hq.length
    rw [List.length_map] at lw
    refine ⟨a, D, _, _, rfl, rfl, t3 _ _ ha, hD, by rw [rfs_len, rfs_len]; exact small_line (by omega), fun R nR => ?_⟩
    have sR := same_new (o := .lst (Rfs ps ++ Rfs ws)) nR
    refine q _ R (ps ++ ws) (t3.trans sR) (t3.free nR) ?_ ((Same.prs (t3.trans sR) hps).append (Same.prs sR hq))
    rw [upd_same]
    unfold Rfs
    rw [List.map_append]
end Sw

set_option Elab.async false
set_option linter.all false
set_option maxRecDepth 100000
set_option maxHeartbeats 4000000
namespace Sw
open PySem PySem.Spec PyProof.Rows L2
local macro_rules | `(tactic| walk_at "ev") => `(tactic| simp only [tSeq, tCalW, quiet, tRzA, tRzO, tTryT, tTryK, tJoin, tJs, tBM, tBits, kStrI, kIntS, kLenS, mSplit, mPart, mIndex, tAsg, tRet, tRetN, tOp, tUn, tVar, tC, tNil, tCons, tCB, tDrop, tNext, tCont, tBreak, tIfS, tIf, tTest, tChain, tChain3, tB, tTup, tLst, tAnd, tOr, tNot, tAndV, tOrV, tNotV, tPart, tNoPart, tSl, tCal, tAug, ipI, rI0, rI, rU, rEq, rNe, kMin, kMax, gName, gCons, gNil, L2.start, wipe, List.map_cons, List.map_nil, List.length_cons, List.length_nil, List.cons_append, List.nil_append, List.append_nil, Nat.reduceAdd, Nat.reduceSub, List.replicate_succ, List.replicate_zero, List.getElem?_cons_zero, List.getElem?_cons_succ, List.set_cons_succ, List.set_cons_zero, Option.some.injEq, exists_eq_left', exists_eq_left, V.int.injEq, V.bl.injEq, V.str.injEq, V.ref.injEq, List.cons.injEq, exists_and_left, and_assoc, and_true, true_and, scal_ii, scal_ss, scal_nn, scal_bb, scal_ni, scal_in, decide_eq_true_eq, Bool.not_true, Bool.not_false, Bool.not_eq_true', decide_eq_false_iff_not, ite_not, reduceCtorEq, if_true, if_false, Bool.false_eq_true, ne_eq, not_true_eq_false, not_false_eq_true, Int.reduceLT, Int.reduceLE, Int.reduceNeg])
local macro_rules | `(tactic| walk_at "cm") => `(tactic| first | exact Or.inr ⟨by decide, by decide⟩ | exact Or.inl ⟨by decide, by decide⟩ | exact Or.inl ⟨by omega, by omega⟩ | exact Or.inr ⟨by omega, by omega⟩)
variable {K : PySem.W.Frag}
theorem rdq_binit (T : BenchT K) (vs : List V) (H : Hp) (Q : VK) (E : XK) (h : sq_binit K vs H Q E) : rq_binit K { nx := fun _ H' => Q .non H', rt := Q } (L2.start N_binit vs) H := by
  obtain ⟨p, dx, n, rfl, hp, n1, n10, q⟩ := h
  unfold rq_binit N_binit sFld tLstRg tRg1
  walk_at "ev"
  refine ⟨n, rfl, n1, n10, ?_⟩
  walk_at "ev"
  have pn : 2 ^ n ≤ 2 ^ 10 := Nat.pow_le_pow_right (by decide) n10
  refine ⟨_, dx, _, hp, T.cl, T.nL, by show 0 < 1000; decide, small_line (by decide), fun l nl => ?_⟩
  have pl : l ≠ p := fun e => by
    rw [e, upd_same] at nl
    cases nl
  have nlH : H l = none := by
    rw [upd_ne pl] at nl
    exact nl
  generalize hH1 : upd (upd H p (.ins (He.ga K "Bench") dx (putF "_lines" (.int (n : Int)) []))) l (.lst []) = H1
  have p1 : H1 p = some (.ins (He.ga K "Bench") dx (putF "_lines" (.int (n : Int)) [])) := by rw [← hH1, upd_ne pl.symm, upd_same]
  have l1 : H1 l = some (.lst []) := by rw [← hH1, upd_same]
  have k1 : ∀ b o, b ≠ p → H b = some o → H1 b = some o := fun b o nb e => by
    rw [← hH1, upd_ne (ne_of_none e nlH), upd_ne nb]
    exact e
  have f1 : ∀ b, H1 b = none → H b = none := fun b e => by
    by_cases z : b = p
    · rw [z, p1] at e
      cases e
    · cases h : H b with
      | none => rfl
      | some o =>
        rw [k1 b o z h] at e
        cases e
  clear hH1 nl
  refine ⟨_, dx, _, p1, T.cl, T.nC, by show 1 < 1000; decide, ⟨by omega, by omega, by decide⟩, ?_⟩
  have e2 : (1 : Int) * 2 ^ (n : Int).toNat = ((2 ^ n : Nat) : Int) := by
    rw [Int.one_mul, Int.toNat_natCast, Int.natCast_pow]
    rfl
  have e3 : rgV 0 (1 * 2 ^ (n : Int).toNat) = natL (List.range (2 ^ n)) := (congrArg (rgV 0) e2).trans (rgV_nat _)
  rw [e3]
  refine ⟨?_, fun d nd => ?_⟩
  · have g0 : ∀ m : Nat, m ≤ 1024 → RgOk 0 (m : Int) := fun m hm => .of_le (by omega) (by omega) (by omega) (by omega)
    have g := g0 (2 ^ n) pn
    rw [← e2] at g
    exact g
  have dp : d ≠ p := fun e => by
    rw [e, upd_same] at nd
    cases nd
  rw [upd_ne dp] at nd
  have dl : d ≠ l := (ne_of_none l1 nd).symm
  generalize hH2 : upd (upd H1 p (.ins (He.ga K "Bench") dx (putF "_comparers" (.ref l) (putF "_lines" (.int (n : Int)) [])))) d (.lst (natL (List.range (2 ^ n)))) = H2
  have p2 : H2 p = some (.ins (He.ga K "Bench") dx (putF "_comparers" (.ref l) (putF "_lines" (.int (n : Int)) []))) := by rw [← hH2, upd_ne dp.symm, upd_same]
  have l2 : H2 l = some (.lst []) := by rw [← hH2, upd_ne dl.symm, upd_ne pl]; exact l1
  have d2 : H2 d = some (.lst (natL (List.range (2 ^ n)))) := by rw [← hH2, upd_same]
  have k2 : ∀ b o, b ≠ p → H1 b = some o → H2 b = some o := fun b o nb e => by
    rw [← hH2, upd_ne (ne_of_none e nd), upd_ne nb]
    exact e
  have f2 : ∀ b, H2 b = none → H1 b = none := fun b e => by
    by_cases z : b = p
    · rw [z, p2] at e
      cases e
    · cases h : H1 b with
      | none => rfl
      | some o =>
        rw [k2 b o z h] at e
        cases e
  clear hH2
  refine ⟨small_line (by decide), fun R nR => ?_⟩
  have Rp : R ≠ p := fun e => by
    rw [e, p2] at nR
    cases nR
  have Rl : R ≠ l := (ne_of_none l2 nR).symm
  have Rd : R ≠ d := (ne_of_none d2 nR).symm
  refine ⟨_, dx, _, by rw [upd_ne Rp.symm]; exact p2, T.cl, T.nR, by show 2 < 1000; decide, ?_⟩
  have nRH : H R = none := f1 _ (f2 _ nR)
  refine q _ l R d (fun b o nb e => ?_) nlH nRH (f1 _ nd) ⟨dx, [], upd_same, ?_, .nil, ?_, ⟨rfl, fun i g hg => ?_⟩, Rl.symm, ⟨by decide, fun c hc => nomatch hc⟩, n1, n10⟩
  · rw [upd_ne nb, upd_ne (ne_of_none e nRH)]
    exact k2 _ _ nb (k1 _ _ nb e)
  · rw [upd_ne pl, upd_ne Rl.symm]
    exact l2
  · rw [upd_ne Rp, upd_same]
    rfl
  · match i, hg with
    | 0, hg =>
      have e : g = d := (Option.some.inj hg).symm
      subst e
      refine ⟨dl, Rd.symm, ?_⟩
      rw [upd_ne dp, upd_ne Rd.symm, d2, List.take_zero, outs_nil]
end Sw

set_option Elab.async false
set_option linter.all false
set_option maxRecDepth 100000
set_option maxHeartbeats 4000000
namespace Sw
open PySem PySem.Spec PyProof.Rows L2
local macro_rules | `(tactic| walk_at "ev") => `(tactic| simp only [tSeq, tCalW, quiet, tRzA, tRzO, tTryT, tTryK, tJoin, tJs, tBM, tBits, kStrI, kIntS, kLenS, mSplit, mPart, mIndex, tAsg, tRet, tRetN, tOp, tUn, tVar, tC, tNil, tCons, tCB, tDrop, tNext, tCont, tBreak, tIfS, tIf, tTest, tChain, tChain3, tB, tTup, tLst, tAnd, tOr, tNot, tAndV, tOrV, tNotV, tPart, tNoPart, tSl, tCal, tAug, ipI, rI0, rI, rU, rEq, rNe, kMin, kMax, gName, gCons, gNil, L2.start, wipe, List.map_cons, List.map_nil, List.length_cons, List.length_nil, List.cons_append, List.nil_append, List.append_nil, Nat.reduceAdd, Nat.reduceSub, List.replicate_succ, List.replicate_zero, List.getElem?_cons_zero, List.getElem?_cons_succ, List.set_cons_succ, List.set_cons_zero, Option.some.injEq, exists_eq_left', exists_eq_left, V.int.injEq, V.bl.injEq, V.str.injEq, V.ref.injEq, List.cons.injEq, exists_and_left, and_assoc, and_true, true_and, scal_ii, scal_ss, scal_nn, scal_bb, scal_ni, scal_in, decide_eq_true_eq, Bool.not_true, Bool.not_false, Bool.not_eq_true', decide_eq_false_iff_not, ite_not, reduceCtorEq, if_true, if_false, Bool.false_eq_true, ne_eq, not_true_eq_false, not_false_eq_true, Int.reduceLT, Int.reduceLE, Int.reduceNeg])
local macro_rules | `(tactic| walk_at "cm") => `(tactic| first | exact Or.inr ⟨by decide, by decide⟩ | exact Or.inl ⟨by decide, by decide⟩ | exact Or.inl ⟨by omega, by omega⟩ | exact Or.inr ⟨by omega, by omega⟩)
variable {K : PySem.W.Frag}
/-! ### what refuses: more than a web -/
theorem rowV_same {H H' : Hp} {n : Nat} {v : V} {b : Bool} (s : Same H H') (h : RowV K H n v b) : RowV K H' n v b := by
  cases h with
  | kind ht ne => exact .kind (tyb_same s ht) ne
  | list hx few each => exact .list (s.seq hx) few fun x hx => (each x hx).imp fun T hT => tyb_same s hT
theorem ordV_same {H H' : Hp} {n : Nat} {v : V} {b : Bool} (s : Same H H') (h : OrdV K H n v b) : OrdV K H' n v b := by
  cases h with
  | kind ht ne => exact .kind (tyb_same s ht) ne
  | other hx few each no => exact .other (s.seq hx) few (fun x hx => (each x hx).imp fun T hT => tyb_same s hT) no
  | whole hx few hb => exact .whole (s.seq hx) few hb
theorem rd_steps (vs : List V) (H : Hp) (Q : VK) (E : XK) (h : sp_steps K vs H Q E) : r_steps K E { nx := fun _ H' => Q .non H', rt := Q } (L2.start N_steps vs) H := by
  obtain ⟨lv, cv, rv, d, rfl, hv, bad, good⟩ := h
  refine ⟨lv, rfl, cv, rfl, lv, cv, d, rfl, hv, fun g H' s => ?_, bad⟩
  obtain ⟨n, b, rfl, hr, ok, no⟩ := good g
  refine ⟨_, rfl, _, rfl, n, rv, b, rfl, rowV_same s hr, fun z H2 s2 => ?_, fun z H2 s2 => no z H2 (s.trans s2)⟩
  obtain ⟨_, _, _, _, _, _, _, _, _, fin⟩ := rdq_steps _ H Q E (ok z)
  obtain ⟨_, _, _, _, _, _, _, _, _, _, _, fin2⟩ := fin H' s
  exact fin2 H2 s2
theorem rd_run (vs : List V) (H : Hp) (Q : VK) (E : XK) (h : sp_run K vs H Q E) : r_run K E { nx := fun _ H' => Q .non H', rt := Q } (L2.start N_run vs) H := by
  obtain ⟨lv, cv, rv, d, rfl, hv, bad, good⟩ := h
  refine ⟨lv, rfl, cv, rfl, rv, rfl, lv, cv, rv, d, rfl, hv, bad, fun g => ?_⟩
  obtain ⟨n, b, rfl, hr, ok, no⟩ := good g
  refine ⟨n, b, rfl, hr, fun z => ?_, no⟩
  obtain ⟨_, e0, _, e1, _, e2, q⟩ := rdq_run _ H Q E (ok z)
  cases e0
  cases e1
  cases e2
  exact q
theorem rd_stirring (vs : List V) (H : Hp) (Q : VK) (E : XK) (h : sp_stirring K vs H Q E) : r_stirring K E { nx := fun _ H' => Q .non H', rt := Q } (L2.start N_stirring vs) H := by
  obtain ⟨lv, cv, tv, d, rfl, hv, bad, good⟩ := h
  refine ⟨lv, rfl, cv, rfl, lv, cv, d, rfl, hv, fun g H' s => ?_, bad⟩
  obtain ⟨a, xs, T, rfl, hx, ht, ok, no⟩ := good g
  refine ⟨_, rfl, tv, rfl, a, xs, tv, T, rfl, s.seq hx, tyb_same s ht, fun z => ?_, fun z => no z H' s⟩
  obtain ⟨_, _, _, _, _, _, _, _, _, fin⟩ := rdq_stirring _ H Q E (ok z)
  obtain ⟨_, _, _, _, _, _, _, _, _, _, fin2⟩ := fin H' s
  exact fin2
theorem rd_renamed (vs : List V) (H : Hp) (Q : VK) (E : XK) (h : sp_renamed K vs H Q E) : r_renamed K E { nx := fun _ H' => Q .non H', rt := Q } (L2.start N_renamed vs) H := by
  obtain ⟨lv, cv, tv, d, rfl, hv, bad, good⟩ := h
  refine ⟨lv, rfl, cv, rfl, lv, cv, d, rfl, hv, fun g H' s => ?_, bad⟩
  obtain ⟨n, b, rfl, n10, hr, ok, no⟩ := good g
  refine ⟨_, rfl, tv, rfl, n, tv, b, rfl, n10, ordV_same s hr, fun z H2 s2 => ?_, fun z H2 s2 => no z H2 (s.trans s2)⟩
  obtain ⟨_, _, _, _, _, _, _, _, _, fin⟩ := rdq_renamed _ H Q E (ok z)
  obtain ⟨_, _, _, _, _, _, _, _, _, _, _, fin2⟩ := fin H' s
  exact fin2 H2 s2
theorem rd_differing (vs : List V) (H : Hp) (Q : VK) (E : XK) (h : sp_differing K vs H Q E) : r_differing K E { nx := fun _ H' => Q .non H', rt := Q } (L2.start N_differing vs) H := by
  obtain ⟨lv, cv, ov, d, rfl, hv, bad, good⟩ := h
  refine ⟨lv, rfl, cv, rfl, lv, cv, d, rfl, hv, fun g H' s => ?_, bad⟩
  obtain ⟨d2, hv2, bad2, ok⟩ := good g
  refine ⟨lv, rfl, ov, rfl, lv, ov, d2, rfl, webV_same s hv2, fun g2 H2 s2 => ?_, fun z => refu_same s (bad2 z)⟩
  obtain ⟨_, _, _, _, _, _, _, _, _, fin⟩ := rdq_differing _ H Q E (ok g2)
  obtain ⟨_, _, _, _, _, _, _, _, _, fin2⟩ := fin H' s
  exact fin2 H2 s2
theorem rd_sorting (vs : List V) (H : Hp) (Q : VK) (E : XK) (h : sp_sorting K vs H Q E) : r_sorting K E { nx := fun _ H' => Q .non H', rt := Q } (L2.start N_sorting vs) H := by
  obtain ⟨v, T, rfl, ht, good, bad⟩ := h
  refine ⟨v, rfl, v, T, rfl, ht, fun z => ?_, bad⟩
  obtain ⟨_, _, _, _, _, _, fin⟩ := rdq_sorting _ H Q E (good z)
  exact fin
theorem rd_binit (w : World) (TB : BenchT K) (vs : List V) (H : Hp) (Q : VK) (E : XK) (h : sp_binit K vs H Q E) : r_binit K E { nx := fun _ H' => Q .non H', rt := Q } (L2.start N_binit vs) H := by
  obtain ⟨p, dx, v, T, rfl, hp, ht, good, bad⟩ := h
  refine ⟨v, rfl, v, T, rfl, ht, fun z => ?_, bad⟩
  obtain ⟨_, _, _, _, _, _, fin⟩ := rdq_binit TB _ H Q E (good z)
  exact fin
theorem paV_nat {v : V} (h : paV v = true) : ∃ m : Nat, v = .int (m : Int) ∧ m ≤ 10 := by
  cases v with
  | int i =>
    have e := of_decide_eq_true (show decide (0 ≤ i ∧ i ≤ 10) = true from h)
    exact ⟨i.toNat, by rw [Int.toNat_of_nonneg e.1], by omega⟩
  | _ => exact absurd h Bool.false_ne_true
theorem rd_merging (vs : List V) (H : Hp) (Q : VK) (E : XK) (h : sp_merging K vs H Q E) : r_merging K E { nx := fun _ H' => Q .non H', rt := Q } (L2.start N_merging vs) H := by
  obtain ⟨mv, kv, T, T', rfl, hm, hk, bad, good⟩ := h
  refine ⟨mv, rfl, mv, T, rfl, hm, fun z1 => ?_, fun z => bad (.inl z)⟩
  refine ⟨kv, rfl, kv, T', rfl, hk, fun z2 => ?_, fun z => bad (.inr z)⟩
  obtain ⟨m, rfl, m10⟩ := paV_nat z1
  obtain ⟨k, rfl, k10⟩ := paV_nat z2
  obtain ⟨ok, no⟩ := good m k rfl rfl m10 k10
  have en : noV (.int ((m : Int) + (k : Int))) = decide (1 ≤ (m : Int) + (k : Int) ∧ (m : Int) + (k : Int) ≤ 10) := rfl
  refine ⟨_, rfl, _, rfl, (m : Int), (k : Int), rfl, rfl, ?_⟩
  refine ⟨.int ((m : Int) + (k : Int)), "int", rfl, .int _, fun z => ?_, fun z => ?_⟩
  · rw [en] at z
    have z := of_decide_eq_true z
    have q := rdq_merging _ H Q E (ok ⟨by omega, by omega⟩)
    obtain ⟨_, e0, _, _, _, q⟩ := q
    obtain ⟨_, e1, _, _, _, q⟩ := q
    obtain ⟨_, _, _, _, _, _, _, _, _, _, _, _, q⟩ := q
    exact q
  · rw [en] at z
    exact no fun y => of_decide_eq_false z ⟨by omega, by omega⟩
theorem webV_good {H : Hp} {lv cv : V} (h : WebV K H lv cv .good) : ∃ (n : Nat) (a : Addr) (xs : List V), lv = .int (n : Int) ∧ cv = .ref a ∧ SqL K H a xs ∧ xs.length ≤ 60 ∧ 1 ≤ n ∧ n ≤ 10 := by
  cases h with
  | @good n a xs hn ha hl ok =>
    have e := of_decide_eq_true (show decide (1 ≤ (n : Int) ∧ (n : Int) ≤ 10) = true from hn)
    exact ⟨n, a, xs, rfl, rfl, ha, hl, by omega, by omega⟩
theorem rd_beside (vs : List V) (H : Hp) (Q : VK) (E : XK) (h : sp_beside K vs H Q E) : r_beside K E { nx := fun _ H' => Q .non H', rt := Q } (L2.start N_beside vs) H := by
  obtain ⟨lv, cv, mv, ov, d, rfl, hv, bad, good⟩ := h
  refine ⟨lv, rfl, cv, rfl, lv, cv, d, rfl, hv, fun g H' s => ?_, bad⟩
  obtain ⟨d2, hv2, bad2, ok⟩ := good g
  refine ⟨mv, rfl, ov, rfl, mv, ov, d2, rfl, webV_same s hv2, fun g2 H2 s2 => ?_, fun z => refu_same s (bad2 z)⟩
  subst g g2
  obtain ⟨n, m, a, b, xs, ys, rfl, rfl, rfl, rfl, ha, hb, q1, q2, q3⟩ := ok rfl
  have sF := s.trans s2
  walk_at "ev"
  split
  · refine ⟨small_line (by decide +kernel), .inr ⟨10, rfl, by decide, _, rfl, small_line (by decide +kernel), small_line (by decide +kernel), small_line (by decide), ?_⟩⟩
    exact q1 (by omega) _ sF
  refine ⟨a, _, rfl, .inl (sF.seq ha), b, _, rfl, .inl (sF.seq hb), _, rfl, _, rfl, ?_⟩
  split
  · exact own_web (o := none) (q2 (by omega) (by omega)) sF fun k z => nomatch z
  obtain ⟨n', m', a', b', cs, ds, e, hwa, hwb, _, few2, q⟩ := q3 (by omega) (by omega)
  simp only [List.cons.injEq, V.int.injEq, V.ref.injEq, Int.natCast_inj, and_true] at e
  obtain ⟨rfl, rfl, rfl, rfl⟩ := e
  obtain ⟨ps, hA, hps, okA, _, _⟩ := id hwa
  obtain ⟨qs, hB, hqs, okB, _, _⟩ := id hwb
  have lp := hps.length
  have lq := hqs.length
  refine lc_cmps (a := b) (ps := qs) (cs := ds) (besC n) rfl (sF.seq hB) (Same.prs sF hqs) (by omega) (fun v w => rfl) (fun c H' Q' hc s' q' => ?_) (fun D H' ws s' nD hD hq => ?_)
  · walk_at "ev"
    refine ⟨small_line (by decide), fun T nT => ?_⟩
    have := q' T nT
    unfold V2 besC at this
    dsimp only at this
    rw [show ((c.1 + n : Nat) : Int) = (n : Int) + (c.1 : Int) by omega, show ((c.2 + n : Nat) : Int) = (n : Int) + (c.2 : Int) by omega] at this
    exact this
  · have t3 := sF.trans s'
    have lw := hq.length
    rw [List.length_map] at lw
    refine ⟨a, D, _, _, rfl, rfl, t3 _ _ hA, hD, by rw [rfs_len, rfs_len]; exact small_line (by omega), fun R nR => ?_⟩
    have sR := same_new (o := .lst (Rfs ps ++ Rfs ws)) nR
    refine q _ R (ps ++ ws) (t3.trans sR) (t3.free nR) ?_ ((Same.prs (t3.trans sR) hps).append (Same.prs sR hq))
    rw [upd_same]
    unfold Rfs
    rw [List.map_append]
end Sw

set_option Elab.async false
set_option linter.all false
set_option maxRecDepth 100000
set_option maxHeartbeats 4000000
namespace Sw
open PySem PySem.Spec PyProof.Rows L2
local macro_rules | `(tactic| walk_at "ev") => `(tactic| simp only [tSeq, tCalW, quiet, tRzA, tRzO, tTryT, tTryK, tJoin, tJs, tBM, tBits, kStrI, kIntS, kLenS, mSplit, mPart, mIndex, tAsg, tRet, tRetN, tOp, tUn, tVar, tC, tNil, tCons, tCB, tDrop, tNext, tCont, tBreak, tIfS, tIf, tTest, tChain, tChain3, tB, tTup, tLst, tAnd, tOr, tNot, tAndV, tOrV, tNotV, tPart, tNoPart, tSl, tCal, tAug, ipI, rI0, rI, rU, rEq, rNe, kMin, kMax, gName, gCons, gNil, L2.start, wipe, List.map_cons, List.map_nil, List.length_cons, List.length_nil, List.cons_append, List.nil_append, List.append_nil, Nat.reduceAdd, Nat.reduceSub, List.replicate_succ, List.replicate_zero, List.getElem?_cons_zero, List.getElem?_cons_succ, List.set_cons_succ, List.set_cons_zero, Option.some.injEq, exists_eq_left', exists_eq_left, V.int.injEq, V.bl.injEq, V.str.injEq, V.ref.injEq, List.cons.injEq, exists_and_left, and_assoc, and_true, true_and, scal_ii, scal_ss, scal_nn, scal_bb, scal_ni, scal_in, decide_eq_true_eq, Bool.not_true, Bool.not_false, Bool.not_eq_true', decide_eq_false_iff_not, ite_not, reduceCtorEq, if_true, if_false, Bool.false_eq_true, ne_eq, not_true_eq_false, not_false_eq_true, Int.reduceLT, Int.reduceLE, Int.reduceNeg])
local macro_rules | `(tactic| walk_at "cm") => `(tactic| first | exact Or.inr ⟨by decide, by decide⟩ | exact Or.inl ⟨by decide, by decide⟩ | exact Or.inl ⟨by omega, by omega⟩ | exact Or.inr ⟨by omega, by omega⟩)
variable {K : PySem.W.Frag}
/-! ### what is asked -/
theorem way_eq {σ : L2.St} {H : Hp} {D : Ends} {A B : TS} {way k : Int} (h0 : σ[0]? = some (some (.int way))) (e : way = k) (a : A D σ H) : (tIfS (tTest (tOp rEq (tVar 0) (tC (.int k)))) A B) D σ H := by
  refine ⟨.int way, h0, rfl, _, rfl, ?_⟩
  show if (decide ((V.int way) = .int k)) = true then A D σ H else B D σ H
  rw [if_pos (by rw [e]; exact decide_eq_true rfl)]
  exact a
theorem way_ne {σ : L2.St} {H : Hp} {D : Ends} {A B : TS} {way k : Int} (h0 : σ[0]? = some (some (.int way))) (e : way ≠ k) (b : B D σ H) : (tIfS (tTest (tOp rEq (tVar 0) (tC (.int k)))) A B) D σ H := by
  refine ⟨.int way, h0, rfl, _, rfl, ?_⟩
  show if (decide ((V.int way) = .int k)) = true then A D σ H else B D σ H
  rw [if_neg (by rw [decide_eq_false fun z => e (by injection z)]; exact Bool.false_ne_true)]
  exact b
theorem rd_loneasked (vs : List V) (H : Hp) (Q : VK) (E : XK) (h : sp_loneasked K vs H Q E) : r_loneasked K E { nx := fun _ H' => Q .non H', rt := Q } (L2.start N_loneasked vs) H := by
  obtain ⟨way, lv, cv, d, rfl, hw, hv, good, bad⟩ := h
  have at_ : d = .good → ∃ (n : Nat) (a : Addr) (cs : List Cmp), lv = .int (n : Int) ∧ cv = .ref a ∧ WebAt K H a n cs := fun g => by
    subst g
    exact webV_at hv
  unfold r_loneasked
  rcases (by omega : way = 0 ∨ way = 1 ∨ way = 2 ∨ way = 3 ∨ way = 4 ∨ way = 5 ∨ way = 6 ∨ way = 7 ∨ way = 8) with rfl | rfl | rfl | rfl | rfl | rfl | rfl | rfl | rfl
  · refine way_eq rfl rfl ?_
    exact ⟨lv, rfl, cv, rfl, lv, cv, d, rfl, hv, good, bad⟩
  · refine way_ne rfl (by decide) ?_
    unfold r_loneasked_e8
    refine way_eq rfl rfl ?_
    refine ⟨lv, rfl, cv, rfl, lv, cv, d, rfl, hv, fun g => ?_, bad⟩
    obtain ⟨n, a, cs, rfl, rfl, wa⟩ := at_ g
    exact ⟨n, a, cs, rfl, rfl, wa, good g⟩
  · refine way_ne rfl (by decide) ?_
    unfold r_loneasked_e8
    refine way_ne rfl (by decide) ?_
    unfold r_loneasked_e7
    refine way_eq rfl rfl ?_
    refine ⟨lv, rfl, cv, rfl, lv, cv, d, rfl, hv, fun g => ?_, bad⟩
    obtain ⟨n, a, cs, rfl, rfl, wa⟩ := at_ g
    exact ⟨n, a, cs, rfl, wa, fun _ => good g, fun r _ H' p s _ _ => good g H' s⟩
  · refine way_ne rfl (by decide) ?_
    unfold r_loneasked_e8
    refine way_ne rfl (by decide) ?_
    unfold r_loneasked_e7
    refine way_ne rfl (by decide) ?_
    unfold r_loneasked_e6
    refine way_eq rfl rfl ?_
    refine ⟨lv, rfl, cv, rfl, lv, cv, d, rfl, hv, fun g => ?_, bad⟩
    obtain ⟨n, a, cs, rfl, rfl, wa⟩ := at_ g
    refine ⟨n, a, cs, rfl, wa, ?_⟩
    intros
    exact good g _ (by assumption)
  · refine way_ne rfl (by decide) ?_
    unfold r_loneasked_e8
    refine way_ne rfl (by decide) ?_
    unfold r_loneasked_e7
    refine way_ne rfl (by decide) ?_
    unfold r_loneasked_e6
    refine way_ne rfl (by decide) ?_
    unfold r_loneasked_e5
    refine way_eq rfl rfl ?_
    refine ⟨lv, rfl, cv, rfl, lv, cv, d, rfl, hv, fun g => ?_, bad⟩
    obtain ⟨n, a, cs, rfl, rfl, wa⟩ := at_ g
    refine ⟨n, a, cs, rfl, wa, ?_⟩
    intros
    exact good g _ (by assumption)
  · refine way_ne rfl (by decide) ?_
    unfold r_loneasked_e8
    refine way_ne rfl (by decide) ?_
    unfold r_loneasked_e7
    refine way_ne rfl (by decide) ?_
    unfold r_loneasked_e6
    refine way_ne rfl (by decide) ?_
    unfold r_loneasked_e5
    refine way_ne rfl (by decide) ?_
    unfold r_loneasked_e4
    refine way_eq rfl rfl ?_
    refine ⟨lv, rfl, cv, rfl, lv, cv, d, rfl, hv, fun g => ?_, bad⟩
    obtain ⟨n, a, cs, rfl, rfl, wa⟩ := at_ g
    refine ⟨n, a, cs, rfl, wa, ?_⟩
    intros
    exact good g _ (by assumption)
  · refine way_ne rfl (by decide) ?_
    unfold r_loneasked_e8
    refine way_ne rfl (by decide) ?_
    unfold r_loneasked_e7
    refine way_ne rfl (by decide) ?_
    unfold r_loneasked_e6
    refine way_ne rfl (by decide) ?_
    unfold r_loneasked_e5
    refine way_ne rfl (by decide) ?_
    unfold r_loneasked_e4
    refine way_ne rfl (by decide) ?_
    unfold r_loneasked_e3
    refine way_eq rfl rfl ?_
    refine ⟨lv, rfl, cv, rfl, lv, cv, d, rfl, hv, fun g => ?_, bad⟩
    obtain ⟨n, a, cs, rfl, rfl, wa⟩ := at_ g
    refine ⟨n, a, cs, rfl, wa, ?_⟩
    intros
    exact good g _ (by assumption)
  · refine way_ne rfl (by decide) ?_
    unfold r_loneasked_e8
    refine way_ne rfl (by decide) ?_
    unfold r_loneasked_e7
    refine way_ne rfl (by decide) ?_
    unfold r_loneasked_e6
    refine way_ne rfl (by decide) ?_
    unfold r_loneasked_e5
    refine way_ne rfl (by decide) ?_
    unfold r_loneasked_e4
    refine way_ne rfl (by decide) ?_
    unfold r_loneasked_e3
    refine way_ne rfl (by decide) ?_
    unfold r_loneasked_e2
    refine way_eq rfl rfl ?_
    refine ⟨lv, rfl, cv, rfl, lv, cv, d, rfl, hv, fun g => ?_, bad⟩
    obtain ⟨n, a, cs, rfl, rfl, wa⟩ := at_ g
    refine ⟨n, a, cs, rfl, wa, ?_⟩
    intros
    exact good g _ (by assumption)
  · refine way_ne rfl (by decide) ?_
    unfold r_loneasked_e8
    refine way_ne rfl (by decide) ?_
    unfold r_loneasked_e7
    refine way_ne rfl (by decide) ?_
    unfold r_loneasked_e6
    refine way_ne rfl (by decide) ?_
    unfold r_loneasked_e5
    refine way_ne rfl (by decide) ?_
    unfold r_loneasked_e4
    refine way_ne rfl (by decide) ?_
    unfold r_loneasked_e3
    refine way_ne rfl (by decide) ?_
    unfold r_loneasked_e2
    refine way_ne rfl (by decide) ?_
    unfold r_loneasked_e1
    refine ⟨lv, rfl, cv, rfl, lv, cv, d, rfl, hv, fun g => ?_, bad⟩
    obtain ⟨n, a, cs, rfl, rfl, wa⟩ := at_ g
    refine ⟨n, a, cs, rfl, wa, ?_⟩
    intros
    exact good g _ (by assumption)
theorem rowV_true {H : Hp} {n : Nat} {v : V} {b : Bool} (h : RowV K H n v b) (hb : b = true) : ∃ (a : Addr) (r : Row), v = .ref a ∧ SqL K H a (vis r) ∧ r.length = n := by
  cases h with
  | kind ht ne => cases hb
  | @list a xs hx few each =>
    rw [Bool.and_eq_true] at hb
    obtain ⟨r, rfl⟩ := isI_vis hb.2
    exact ⟨a, r, rfl, hx, by rw [← ints_len]; exact of_decide_eq_true hb.1⟩
theorem ordV_true {H : Hp} {n : Nat} {v : V} {b : Bool} (h : OrdV K H n v b) (hb : b = true) : ∃ (a : Addr) (o : List Nat), v = .ref a ∧ SqL K H a (natL o) ∧ o.Perm (List.range n) := by
  cases h with
  | kind ht ne => cases hb
  | other hx few each no => cases hb
  | @whole a r _ hx few hh =>
    obtain ⟨o, rfl, ho⟩ := hh.mp hb
    exact ⟨a, o, rfl, by rw [natL_vis]; exact hx, ho⟩
theorem noV_nat {v : V} (h : noV v = true) : ∃ n : Nat, v = .int (n : Int) ∧ 1 ≤ n ∧ n ≤ 10 := by
  cases v with
  | int i =>
    have e := of_decide_eq_true (show decide (1 ≤ i ∧ i ≤ 10) = true from h)
    exact ⟨i.toNat, by rw [Int.toNat_of_nonneg (by omega)], by omega, by omega⟩
  | _ => exact absurd h Bool.false_ne_true
theorem webH_at {H : Hp} {a : Addr} {n : Nat} {cs : List Cmp} (h : WebH K H a n cs) : WebAt K H a n cs := by
  obtain ⟨ps, ha, r⟩ := h
  exact ⟨ps, .inl (.inl ha), r⟩
theorem rd_lmoreasked (vs : List V) (H : Hp) (Q : VK) (E : XK) (h : sp_lmoreasked K vs H Q E) : r_lmoreasked K E { nx := fun _ H' => Q .non H', rt := Q } (L2.start N_lmoreasked vs) H := by
  obtain ⟨way, lv, cv, tv, d, rfl, hm, good, bad⟩ := h
  cases hm with
  | @web _ _ _ _ d hw h ne =>
    have bad' : Refu K H E d := bad (fun z => nomatch z)
    rcases (by omega : way = 9 ∨ way = 10 ∨ way = 11 ∨ way = 12 ∨ way = 13 ∨ way = 19 ∨ way = 20 ∨ way = 21) with rfl | rfl | rfl | rfl | rfl | rfl | rfl | rfl
    · unfold r_lmoreasked
      refine way_eq rfl rfl ?_
      exact ⟨lv, rfl, cv, rfl, tv, rfl, lv, cv, tv, d, rfl, h, fun _ => bad', fun g => absurd g ne⟩
    · unfold r_lmoreasked
      refine way_ne rfl (by decide) ?_
      unfold r_lmoreasked_e12
      refine way_eq rfl rfl ?_
      exact ⟨lv, rfl, cv, rfl, tv, rfl, lv, cv, tv, d, rfl, h, fun _ => bad', fun g => absurd g ne⟩
    · unfold r_lmoreasked
      refine way_ne rfl (by decide) ?_
      unfold r_lmoreasked_e12
      refine way_ne rfl (by decide) ?_
      unfold r_lmoreasked_e11
      refine way_eq rfl rfl ?_
      exact ⟨lv, rfl, cv, rfl, tv, rfl, lv, cv, tv, d, rfl, h, fun _ => bad', fun g => absurd g ne⟩
    · unfold r_lmoreasked
      refine way_ne rfl (by decide) ?_
      unfold r_lmoreasked_e12
      refine way_ne rfl (by decide) ?_
      unfold r_lmoreasked_e11
      refine way_ne rfl (by decide) ?_
      unfold r_lmoreasked_e10
      refine way_eq rfl rfl ?_
      exact ⟨lv, rfl, cv, rfl, tv, rfl, lv, cv, tv, d, rfl, h, fun _ => bad', fun g => absurd g ne⟩
    · unfold r_lmoreasked
      refine way_ne rfl (by decide) ?_
      unfold r_lmoreasked_e12
      refine way_ne rfl (by decide) ?_
      unfold r_lmoreasked_e11
      refine way_ne rfl (by decide) ?_
      unfold r_lmoreasked_e10
      refine way_ne rfl (by decide) ?_
      unfold r_lmoreasked_e9
      refine way_eq rfl rfl ?_
      exact ⟨lv, rfl, cv, rfl, tv, rfl, lv, cv, tv, d, rfl, h, fun _ => bad', fun g => absurd g ne⟩
    · unfold r_lmoreasked
      refine way_ne rfl (by decide) ?_
      unfold r_lmoreasked_e12
      refine way_ne rfl (by decide) ?_
      unfold r_lmoreasked_e11
      refine way_ne rfl (by decide) ?_
      unfold r_lmoreasked_e10
      refine way_ne rfl (by decide) ?_
      unfold r_lmoreasked_e9
      refine way_ne rfl (by decide) ?_
      unfold r_lmoreasked_e8
      refine way_ne rfl (by decide) ?_
      unfold r_lmoreasked_e7
      refine way_ne rfl (by decide) ?_
      unfold r_lmoreasked_e6
      refine way_ne rfl (by decide) ?_
      unfold r_lmoreasked_e5
      refine way_ne rfl (by decide) ?_
      unfold r_lmoreasked_e4
      refine way_ne rfl (by decide) ?_
      unfold r_lmoreasked_e3
      refine way_eq rfl rfl ?_
      exact ⟨lv, rfl, cv, rfl, tv, rfl, lv, cv, .int 2, tv, d, rfl, h, fun _ => bad', fun g => absurd g ne⟩
    · unfold r_lmoreasked
      refine way_ne rfl (by decide) ?_
      unfold r_lmoreasked_e12
      refine way_ne rfl (by decide) ?_
      unfold r_lmoreasked_e11
      refine way_ne rfl (by decide) ?_
      unfold r_lmoreasked_e10
      refine way_ne rfl (by decide) ?_
      unfold r_lmoreasked_e9
      refine way_ne rfl (by decide) ?_
      unfold r_lmoreasked_e8
      refine way_ne rfl (by decide) ?_
      unfold r_lmoreasked_e7
      refine way_ne rfl (by decide) ?_
      unfold r_lmoreasked_e6
      refine way_ne rfl (by decide) ?_
      unfold r_lmoreasked_e5
      refine way_ne rfl (by decide) ?_
      unfold r_lmoreasked_e4
      refine way_ne rfl (by decide) ?_
      unfold r_lmoreasked_e3
      refine way_ne rfl (by decide) ?_
      unfold r_lmoreasked_e2
      refine way_eq rfl rfl ?_
      refine ⟨lv, rfl, cv, rfl, tv, rfl, Nat.zero_le _, fun b kb => ?_⟩
      have s := same_new (o := .lst ([] : List V)) kb
      exact ⟨lv, cv, tv, .ref b, d, rfl, webV_same s h, fun _ => refu_same s bad', fun g => absurd g ne⟩
    · unfold r_lmoreasked
      refine way_ne rfl (by decide) ?_
      unfold r_lmoreasked_e12
      refine way_ne rfl (by decide) ?_
      unfold r_lmoreasked_e11
      refine way_ne rfl (by decide) ?_
      unfold r_lmoreasked_e10
      refine way_ne rfl (by decide) ?_
      unfold r_lmoreasked_e9
      refine way_ne rfl (by decide) ?_
      unfold r_lmoreasked_e8
      refine way_ne rfl (by decide) ?_
      unfold r_lmoreasked_e7
      refine way_ne rfl (by decide) ?_
      unfold r_lmoreasked_e6
      refine way_ne rfl (by decide) ?_
      unfold r_lmoreasked_e5
      refine way_ne rfl (by decide) ?_
      unfold r_lmoreasked_e4
      refine way_ne rfl (by decide) ?_
      unfold r_lmoreasked_e3
      refine way_ne rfl (by decide) ?_
      unfold r_lmoreasked_e2
      refine way_ne rfl (by decide) ?_
      unfold r_lmoreasked_e1
      exact ⟨lv, rfl, cv, rfl, tv, rfl, lv, cv, .int 10, tv, d, rfl, h, fun _ => bad', fun g => absurd g ne⟩
  | @row _ n _ _ b hw h hr =>
    obtain ⟨n', a, cs, e, rfl, wa⟩ := webV_at h
    obtain rfl : n = n' := by injection e with e; exact_mod_cast e
    have fin : ∀ (Q' : VK) (X : Hp → V → Prop), True := fun _ _ => trivial
    rcases hw with rfl | rfl
    · unfold r_lmoreasked
      refine way_eq rfl rfl ?_
      refine ⟨_, rfl, _, rfl, tv, rfl, _, _, tv, .good, rfl, h, fun z => absurd rfl z, fun _ => ⟨n, b, rfl, hr, fun z => ?_, fun z => ?_⟩⟩
      · subst z
        obtain ⟨f, r, rfl, hf, lr⟩ := rowV_true hr rfl
        exact ⟨n, a, f, cs, r, rfl, wa, hf, lr, fun H' p s _ _ => good rfl H' s⟩
      · subst z
        exact bad (fun z => nomatch z)
    · unfold r_lmoreasked
      refine way_ne rfl (by decide) ?_
      unfold r_lmoreasked_e12
      refine way_eq rfl rfl ?_
      refine ⟨_, rfl, _, rfl, tv, rfl, _, _, tv, .good, rfl, h, fun z => absurd rfl z, fun _ => ⟨n, b, rfl, hr, fun z => ?_, fun z => ?_⟩⟩
      · subst z
        obtain ⟨f, r, rfl, hf, lr⟩ := rowV_true hr rfl
        exact ⟨n, a, f, cs, r, rfl, wa, hf, lr, fun H' p qs s _ _ _ => good rfl H' s⟩
      · subst z
        exact bad (fun z => nomatch z)
  | @place n _ a ps cs T ha hp ok n1 n10 ht =>
    unfold r_lmoreasked
    refine way_ne rfl (by decide) ?_
    unfold r_lmoreasked_e12
    refine way_ne rfl (by decide) ?_
    unfold r_lmoreasked_e11
    refine way_eq rfl rfl ?_
    refine ⟨_, rfl, _, rfl, tv, rfl, _, _, tv, .good, rfl, web_good ⟨ps, ha, hp, ok, n1, n10⟩, fun z => absurd rfl z, fun _ => ⟨a, _, T, rfl, ha, ht, fun z => ?_, fun z => ?_⟩⟩
    · rw [rfs_len] at z
      rw [z] at good
      cases tv with
      | int i =>
        have e := of_decide_eq_true (show decide (0 ≤ i ∧ i < (ps.length : Int)) = true from z)
        have lp := hp.length
        refine ⟨n, a, cs, i.toNat, by rw [Int.toNat_of_nonneg e.1], ⟨ps, ha, hp, ok, n1, n10⟩, by omega, fun _ => good rfl, fun r _ H' p s _ _ => good rfl H' s⟩
      | _ => exact absurd z Bool.false_ne_true
    · rw [rfs_len] at z
      rw [z] at bad
      exact bad (fun z => nomatch z)
  | @order n _ _ b h ho =>
    obtain ⟨n', a, cs, e, rfl, wa⟩ := webV_at h
    obtain rfl : n = n' := by injection e with e; exact_mod_cast e
    unfold r_lmoreasked
    refine way_ne rfl (by decide) ?_
    unfold r_lmoreasked_e12
    refine way_ne rfl (by decide) ?_
    unfold r_lmoreasked_e11
    refine way_ne rfl (by decide) ?_
    unfold r_lmoreasked_e10
    refine way_eq rfl rfl ?_
    refine ⟨_, rfl, _, rfl, tv, rfl, _, _, tv, .good, rfl, h, fun z => absurd rfl z, fun _ => ⟨n, b, rfl, webAt_get wa, ho, fun z => ?_, fun z => ?_⟩⟩
    · subst z
      obtain ⟨f, o, rfl, hf, po⟩ := ordV_true ho rfl
      exact ⟨n, a, f, cs, o, rfl, wa, hf, po, fun H' p qs s _ _ _ => good rfl H' s⟩
    · subst z
      exact bad (fun z => nomatch z)
  | @diff _ _ _ d h h2 =>
    unfold r_lmoreasked
    refine way_ne rfl (by decide) ?_
    unfold r_lmoreasked_e12
    refine way_ne rfl (by decide) ?_
    unfold r_lmoreasked_e11
    refine way_ne rfl (by decide) ?_
    unfold r_lmoreasked_e10
    refine way_ne rfl (by decide) ?_
    unfold r_lmoreasked_e9
    refine way_eq rfl rfl ?_
    refine ⟨lv, rfl, cv, rfl, tv, rfl, lv, cv, tv, .good, rfl, h, fun z => absurd rfl z, fun _ => ⟨d, h2, fun z => ?_, fun z => ?_⟩⟩
    · cases d with
      | good => exact absurd rfl z
      | lines => exact bad (fun z => nomatch z)
      | web o => exact bad (fun z => nomatch z)
    · subst z
      obtain ⟨n, a, cs, rfl, rfl, wa⟩ := webV_at h
      obtain ⟨n2, b, ds, e, rfl, wb⟩ := webV_at h2
      obtain rfl : n = n2 := by injection e with e; exact_mod_cast e
      exact ⟨n, a, b, cs, ds, rfl, wa, wb, fun _ => good rfl, fun r _ H' p s _ _ => good rfl H' s⟩
  | @row0 n _ _ b hr =>
    unfold r_lmoreasked
    refine way_ne rfl (by decide) ?_
    unfold r_lmoreasked_e12
    refine way_ne rfl (by decide) ?_
    unfold r_lmoreasked_e11
    refine way_ne rfl (by decide) ?_
    unfold r_lmoreasked_e10
    refine way_ne rfl (by decide) ?_
    unfold r_lmoreasked_e9
    refine way_ne rfl (by decide) ?_
    unfold r_lmoreasked_e8
    refine way_eq rfl rfl ?_
    refine ⟨_, rfl, tv, rfl, n, tv, b, rfl, hr, fun z => ?_, fun z => ?_⟩
    · subst z
      exact good rfl
    · subst z
      exact bad (fun z => nomatch z)
  | @lines _ _ _ _ T hw ht =>
    rcases hw with rfl | rfl
    · unfold r_lmoreasked
      refine way_ne rfl (by decide) ?_
      unfold r_lmoreasked_e12
      refine way_ne rfl (by decide) ?_
      unfold r_lmoreasked_e11
      refine way_ne rfl (by decide) ?_
      unfold r_lmoreasked_e10
      refine way_ne rfl (by decide) ?_
      unfold r_lmoreasked_e9
      refine way_ne rfl (by decide) ?_
      unfold r_lmoreasked_e8
      refine way_ne rfl (by decide) ?_
      unfold r_lmoreasked_e7
      refine way_eq rfl rfl ?_
      refine ⟨tv, rfl, fun p dx np ndx ne => ?_⟩
      have s : Same H (upd (upd H dx (.own p)) p (.ins (He.ga K "Bench") dx [])) := fun b o e => by
        rw [upd_ne (ne_of_none e np), upd_ne (ne_of_none e ndx)]
        exact e
      refine ⟨p, dx, tv, T, rfl, upd_same, tyb_same s ht, fun z => ?_, fun z => ?_⟩
      · obtain ⟨n, rfl, n1, n10⟩ := noV_nat z
        rw [z] at good
        exact ⟨p, dx, n, rfl, upd_same, n1, n10, fun H' l R d keep nl nR nd hb => ⟨rfl, good rfl H' fun b o e => keep b o (ne_of_none e np) (s b o e)⟩⟩
      · rw [z] at bad
        exact bad (fun z => nomatch z) _ s
    · unfold r_lmoreasked
      refine way_ne rfl (by decide) ?_
      unfold r_lmoreasked_e12
      refine way_ne rfl (by decide) ?_
      unfold r_lmoreasked_e11
      refine way_ne rfl (by decide) ?_
      unfold r_lmoreasked_e10
      refine way_ne rfl (by decide) ?_
      unfold r_lmoreasked_e9
      refine way_ne rfl (by decide) ?_
      unfold r_lmoreasked_e8
      refine way_ne rfl (by decide) ?_
      unfold r_lmoreasked_e7
      refine way_ne rfl (by decide) ?_
      unfold r_lmoreasked_e6
      refine way_eq rfl rfl ?_
      refine ⟨tv, rfl, tv, T, rfl, ht, fun z => ?_, fun z => ?_⟩
      · obtain ⟨n, rfl, n1, n10⟩ := noV_nat z
        rw [z] at good
        exact ⟨n, rfl, n1, n10, fun H' p qs s _ _ _ => good rfl H' s⟩
      · rw [z] at bad
        exact bad (fun z => nomatch z) _ (.refl H)
  | @merge _ _ _ _ T hw ht =>
    have key : (meV tv = true → ∃ k : Nat, tv = .int (k : Int) ∧ k ≤ 8) := fun z => by
      cases tv with
      | int i =>
        have e := of_decide_eq_true (show decide (0 ≤ i ∧ i ≤ 8) = true from z)
        exact ⟨i.toNat, by rw [Int.toNat_of_nonneg e.1], by omega⟩
      | _ => exact absurd z Bool.false_ne_true
    have no : meV tv = false → E (.ref (He.ga K "BadLines")) none H := fun z => by
      rw [z] at bad
      exact bad (fun z => nomatch z) H (.refl H)
    have pa : meV tv = true → paV tv = true := fun z => by
      obtain ⟨k, rfl, k8⟩ := key z
      exact decide_eq_true ⟨by omega, by omega⟩
    have me : ∀ k : Nat, tv = .int (k : Int) → (meV tv = true ↔ k ≤ 8) := fun k e => by
      subst e
      have e : meV (.int (k : Int)) = decide (0 ≤ (k : Int) ∧ (k : Int) ≤ 8) := rfl
      rw [e, decide_eq_true_eq]
      omega
    have bo : ∀ b : Bool, b = false ∨ b = true := fun b => by cases b <;> simp
    rcases hw with rfl | rfl
    · unfold r_lmoreasked
      refine way_ne rfl (by decide) ?_
      unfold r_lmoreasked_e12
      refine way_ne rfl (by decide) ?_
      unfold r_lmoreasked_e11
      refine way_ne rfl (by decide) ?_
      unfold r_lmoreasked_e10
      refine way_ne rfl (by decide) ?_
      unfold r_lmoreasked_e9
      refine way_ne rfl (by decide) ?_
      unfold r_lmoreasked_e8
      refine way_ne rfl (by decide) ?_
      unfold r_lmoreasked_e7
      refine way_ne rfl (by decide) ?_
      unfold r_lmoreasked_e6
      refine way_ne rfl (by decide) ?_
      unfold r_lmoreasked_e5
      refine way_eq rfl rfl ?_
      refine ⟨tv, rfl, tv, .int 2, T, "int", rfl, ht, .int 2, fun z => ?_, fun m k em ek m10 k10 => ⟨fun r => ?_, fun r => ?_⟩⟩
      · rcases bo (meV tv) with y | y
        · exact no y
        · rcases z with z | z
          · rw [pa y] at z; cases z
          · cases z
      · have k2 : k = 2 := by injection ek with ek; omega
        have y := (me m em).mpr (by omega)
        rw [y] at good
        exact ⟨m, k, by rw [em, ← ek], r.1, r.2, fun H' p qs s _ _ _ => good rfl H' s⟩
      · have k2 : k = 2 := by injection ek with ek; omega
        rcases bo (meV tv) with y | y
        · exact no y
        · have := (me m em).mp y
          exact absurd ⟨by omega, by omega⟩ r
    · unfold r_lmoreasked
      refine way_ne rfl (by decide) ?_
      unfold r_lmoreasked_e12
      refine way_ne rfl (by decide) ?_
      unfold r_lmoreasked_e11
      refine way_ne rfl (by decide) ?_
      unfold r_lmoreasked_e10
      refine way_ne rfl (by decide) ?_
      unfold r_lmoreasked_e9
      refine way_ne rfl (by decide) ?_
      unfold r_lmoreasked_e8
      refine way_ne rfl (by decide) ?_
      unfold r_lmoreasked_e7
      refine way_ne rfl (by decide) ?_
      unfold r_lmoreasked_e6
      refine way_ne rfl (by decide) ?_
      unfold r_lmoreasked_e5
      refine way_ne rfl (by decide) ?_
      unfold r_lmoreasked_e4
      refine way_eq rfl rfl ?_
      refine ⟨tv, rfl, .int 2, tv, "int", T, rfl, .int 2, ht, fun z => ?_, fun m k em ek m10 k10 => ⟨fun r => ?_, fun r => ?_⟩⟩
      · rcases bo (meV tv) with y | y
        · exact no y
        · rcases z with z | z
          · cases z
          · rw [pa y] at z; cases z
      · have k2 : m = 2 := by injection em with em; omega
        have y := (me k ek).mpr (by omega)
        rw [y] at good
        exact ⟨m, k, by rw [ek, ← em], r.1, r.2, fun H' p qs s _ _ _ => good rfl H' s⟩
      · have k2 : m = 2 := by injection em with em; omega
        rcases bo (meV tv) with y | y
        · exact no y
        · have := (me k ek).mp y
          exact absurd ⟨by omega, by omega⟩ r
  | @two n a _ cs d h n8 h2 few =>
    obtain ⟨ps, hA, hps, ok, n1, n10⟩ := id h
    unfold r_lmoreasked
    refine way_ne rfl (by decide) ?_
    unfold r_lmoreasked_e12
    refine way_ne rfl (by decide) ?_
    unfold r_lmoreasked_e11
    refine way_ne rfl (by decide) ?_
    unfold r_lmoreasked_e10
    refine way_ne rfl (by decide) ?_
    unfold r_lmoreasked_e9
    refine way_ne rfl (by decide) ?_
    unfold r_lmoreasked_e8
    refine way_ne rfl (by decide) ?_
    unfold r_lmoreasked_e7
    refine way_ne rfl (by decide) ?_
    unfold r_lmoreasked_e6
    refine way_ne rfl (by decide) ?_
    unfold r_lmoreasked_e5
    refine way_ne rfl (by decide) ?_
    unfold r_lmoreasked_e4
    refine way_ne rfl (by decide) ?_
    unfold r_lmoreasked_e3
    refine way_eq rfl rfl ?_
    refine ⟨_, rfl, _, rfl, tv, rfl, _, _, .int 2, tv, .good, rfl, web_good (webH_at h), fun z => absurd rfl z, fun _ => ⟨d, h2, fun z => ?_, fun z => ?_⟩⟩
    · cases d with
      | good => exact absurd rfl z
      | lines => exact bad (fun z => nomatch z)
      | web o => exact bad (fun z => nomatch z)
    · subst z
      obtain ⟨b, ds, rfl, wb, few⟩ := few rfl
      obtain ⟨qs, hB, hqs, _⟩ := id wb
      have lp := hps.length
      have lq := hqs.length
      have e1 := rfs_len ps
      have e2 := rfs_len qs
      refine ⟨n, 2, a, b, Rfs ps, Rfs qs, rfl, rfl, rfl, rfl, .inl (.inl hA), hB, fun z => absurd z (by omega), fun _ z => absurd z (by omega), fun _ _ => ?_⟩
      exact ⟨n, 2, a, b, cs, ds, rfl, h, wb, by omega, few, fun H' p qs s _ _ _ => good rfl H' s⟩
  | @full n a b cs ds h n8 wb many =>
    obtain ⟨ps, hA, hps, ok, n1, n10⟩ := id h
    obtain ⟨qs, hB, hqs, _⟩ := id wb
    have lp := hps.length
    have lq := hqs.length
    have e1 := rfs_len ps
    have e2 := rfs_len qs
    have bad' : Refu K H E (.web none) := bad (fun z => nomatch z)
    unfold r_lmoreasked
    refine way_ne rfl (by decide) ?_
    unfold r_lmoreasked_e12
    refine way_ne rfl (by decide) ?_
    unfold r_lmoreasked_e11
    refine way_ne rfl (by decide) ?_
    unfold r_lmoreasked_e10
    refine way_ne rfl (by decide) ?_
    unfold r_lmoreasked_e9
    refine way_ne rfl (by decide) ?_
    unfold r_lmoreasked_e8
    refine way_ne rfl (by decide) ?_
    unfold r_lmoreasked_e7
    refine way_ne rfl (by decide) ?_
    unfold r_lmoreasked_e6
    refine way_ne rfl (by decide) ?_
    unfold r_lmoreasked_e5
    refine way_ne rfl (by decide) ?_
    unfold r_lmoreasked_e4
    refine way_ne rfl (by decide) ?_
    unfold r_lmoreasked_e3
    refine way_eq rfl rfl ?_
    refine ⟨_, rfl, _, rfl, _, rfl, _, _, .int 2, .ref b, .good, rfl, web_good (webH_at h), fun z => absurd rfl z, fun _ => ⟨.good, web_good wb, fun z => absurd rfl z, fun _ => ?_⟩⟩
    exact ⟨n, 2, a, b, Rfs ps, Rfs qs, rfl, rfl, rfl, rfl, .inl (.inl hA), hB, fun z => absurd z (by omega), fun _ _ => bad', fun _ z => absurd z (by omega)⟩
  | @none n a _ T cs h ht =>
    obtain ⟨ps, hA, hps, ok, n1, n10⟩ := id h
    have h60 := ok.1
    unfold r_lmoreasked
    refine way_ne rfl (by decide) ?_
    unfold r_lmoreasked_e12
    refine way_ne rfl (by decide) ?_
    unfold r_lmoreasked_e11
    refine way_ne rfl (by decide) ?_
    unfold r_lmoreasked_e10
    refine way_ne rfl (by decide) ?_
    unfold r_lmoreasked_e9
    refine way_ne rfl (by decide) ?_
    unfold r_lmoreasked_e8
    refine way_ne rfl (by decide) ?_
    unfold r_lmoreasked_e7
    refine way_ne rfl (by decide) ?_
    unfold r_lmoreasked_e6
    refine way_ne rfl (by decide) ?_
    unfold r_lmoreasked_e5
    refine way_ne rfl (by decide) ?_
    unfold r_lmoreasked_e4
    refine way_ne rfl (by decide) ?_
    unfold r_lmoreasked_e3
    refine way_ne rfl (by decide) ?_
    unfold r_lmoreasked_e2
    refine way_eq rfl rfl ?_
    refine ⟨_, rfl, _, rfl, tv, rfl, Nat.zero_le _, fun b kb => ?_⟩
    have s := same_new (o := .lst ([] : List V)) kb
    have hb : (upd H b (.lst ([] : List V))) b = some (.lst (Rfs [])) := upd_same
    generalize upd H b (.lst ([] : List V)) = H1 at s hb ⊢
    have hA1 : WebH K H1 a n cs := ⟨ps, s _ _ hA, Same.prs s hps, ok, n1, n10⟩
    cases nv : noV tv with
    | false =>
      have bev : beV n tv = false := by
        cases tv with
        | int i =>
          have e := of_decide_eq_false (show decide (1 ≤ i ∧ i ≤ 10) = false from nv)
          exact decide_eq_false fun z => e ⟨z.1, by omega⟩
        | _ => rfl
      rw [bev] at bad
      have bad' : Refu K H E .lines := bad (fun z => nomatch z)
      exact ⟨_, _, tv, .ref b, .good, rfl, web_good (webH_at hA1), fun z => absurd rfl z, fun _ => ⟨.lines, .lines (tyb_same s ht) nv, fun _ => refu_same s bad', fun z => nomatch z⟩⟩
    | true =>
      obtain ⟨m, rfl, m1, m10⟩ := noV_nat nv
      have wb : WebAt K H1 b m [] := ⟨[], .inl (.inl hb), .nil, ⟨by decide, fun c hc => nomatch hc⟩, m1, m10⟩
      refine ⟨_, _, _, .ref b, .good, rfl, web_good (webH_at hA1), fun z => absurd rfl z, fun _ => ⟨.good, web_good wb, fun z => absurd rfl z, fun _ => ?_⟩⟩
      have lp := hps.length
      have e1 := rfs_len ps
      have eb : beV n (.int (m : Int)) = decide (1 ≤ (m : Int) ∧ (n : Int) + (m : Int) ≤ 10) := rfl
      refine ⟨n, m, a, b, Rfs ps, Rfs [], rfl, rfl, rfl, rfl, .inl (.inl (s _ _ hA)), .inl (.inl hb), fun z H' s2 => ?_, fun _ z => absurd z (by show ¬ 60 < (Rfs ps).length + 0; omega), fun z _ => ?_⟩
      · rw [eb, decide_eq_false (by omega)] at bad
        exact bad (fun z => nomatch z) H' (s.trans s2)
      · rw [eb, decide_eq_true (by omega)] at good
        exact ⟨n, m, a, b, cs, [], rfl, hA1, wb, z, by show cs.length + 0 ≤ 60; omega, fun H' p qs s2 _ _ _ => good rfl H' (s.trans s2)⟩
  | @ten n a _ d h h2 =>
    have bad' : Refu K H E (tenD d) := bad (fun z => nomatch z)
    obtain ⟨n0, a0, xs0, e0, ea0, ha0, _, n1, _⟩ := webV_good h
    obtain rfl : n = n0 := by injection e0 with e0; exact_mod_cast e0
    obtain rfl : a = a0 := by injection ea0
    unfold r_lmoreasked
    refine way_ne rfl (by decide) ?_
    unfold r_lmoreasked_e12
    refine way_ne rfl (by decide) ?_
    unfold r_lmoreasked_e11
    refine way_ne rfl (by decide) ?_
    unfold r_lmoreasked_e10
    refine way_ne rfl (by decide) ?_
    unfold r_lmoreasked_e9
    refine way_ne rfl (by decide) ?_
    unfold r_lmoreasked_e8
    refine way_ne rfl (by decide) ?_
    unfold r_lmoreasked_e7
    refine way_ne rfl (by decide) ?_
    unfold r_lmoreasked_e6
    refine way_ne rfl (by decide) ?_
    unfold r_lmoreasked_e5
    refine way_ne rfl (by decide) ?_
    unfold r_lmoreasked_e4
    refine way_ne rfl (by decide) ?_
    unfold r_lmoreasked_e3
    refine way_ne rfl (by decide) ?_
    unfold r_lmoreasked_e2
    refine way_ne rfl (by decide) ?_
    unfold r_lmoreasked_e1
    refine ⟨_, rfl, _, rfl, tv, rfl, _, _, .int 10, tv, .good, rfl, h, fun z => absurd rfl z, fun _ => ⟨d, h2, fun z => ?_, fun z => ?_⟩⟩
    · cases d with
      | good => exact absurd rfl z
      | lines => exact bad'
      | web o => exact bad'
    · subst z
      obtain ⟨m, b, ys, em, rfl, hb, _⟩ := webV_good h2
      obtain rfl : m = 10 := by injection em with em; omega
      exact ⟨n, 10, a, b, xs0, ys, rfl, rfl, rfl, rfl, ha0, hb, fun _ H' s => bad' H' s, fun z => absurd z (by omega), fun z => absurd z (by omega)⟩
end Sw

set_option Elab.async false
set_option linter.all false
set_option maxRecDepth 100000
set_option maxHeartbeats 4000000
namespace Sw
open PySem PySem.Spec PyProof.Rows L2
local macro_rules | `(tactic| walk_at "ev") => `(tactic| simp only [tSeq, tCalW, quiet, tRzA, tRzO, tTryT, tTryK, tJoin, tJs, tBM, tBits, kStrI, kIntS, kLenS, mSplit, mPart, mIndex, tAsg, tRet, tRetN, tOp, tUn, tVar, tC, tNil, tCons, tCB, tDrop, tNext, tCont, tBreak, tIfS, tIf, tTest, tChain, tChain3, tB, tTup, tLst, tAnd, tOr, tNot, tAndV, tOrV, tNotV, tPart, tNoPart, tSl, tCal, tAug, ipI, rI0, rI, rU, rEq, rNe, kMin, kMax, gName, gCons, gNil, L2.start, wipe, List.map_cons, List.map_nil, List.length_cons, List.length_nil, List.cons_append, List.nil_append, List.append_nil, Nat.reduceAdd, Nat.reduceSub, List.replicate_succ, List.replicate_zero, List.getElem?_cons_zero, List.getElem?_cons_succ, List.set_cons_succ, List.set_cons_zero, Option.some.injEq, exists_eq_left', exists_eq_left, V.int.injEq, V.bl.injEq, V.str.injEq, V.ref.injEq, List.cons.injEq, exists_and_left, and_assoc, and_true, true_and, scal_ii, scal_ss, scal_nn, scal_bb, scal_ni, scal_in, decide_eq_true_eq, Bool.not_true, Bool.not_false, Bool.not_eq_true', decide_eq_false_iff_not, ite_not, reduceCtorEq, if_true, if_false, Bool.false_eq_true, ne_eq, not_true_eq_false, not_false_eq_true, Int.reduceLT, Int.reduceLE, Int.reduceNeg])
local macro_rules | `(tactic| walk_at "cm") => `(tactic| first | exact Or.inr ⟨by decide, by decide⟩ | exact Or.inl ⟨by decide, by decide⟩ | exact Or.inl ⟨by omega, by omega⟩ | exact Or.inr ⟨by omega, by omega⟩)
variable {K : PySem.W.Frag}
/-! ### what is no web -/
def DIt (K : PySem.W.Frag) (H : Hp) (x : V) : Prop := ∃ d, Dp K H x d ∧ d.canLay0 = true ∧ d.depth ≤ 2 ∧ PyData.eqv d d = true
theorem dits_all {H : Hp} : ∀ {xs : List V}, (∀ x ∈ xs, DIt K H x) → ∃ ds, DpAll K H xs ds ∧ PyData.canLayAll0 ds = true ∧ PyData.depthAll ds ≤ 2 ∧ PyData.eqvAll ds ds = true
  | [], _ => ⟨[], .nil, rfl, Nat.zero_le _, rfl⟩
  | x :: xs, h => by
    obtain ⟨d, h1, h2, h3, h4⟩ := h x List.mem_cons_self
    obtain ⟨ds, g1, g2, g3, g4⟩ := dits_all (xs := xs) fun y hy => h y (List.mem_cons_of_mem _ hy)
    refine ⟨d :: ds, .cons h1 g1, ?_, ?_, ?_⟩
    · show (d.canLay0 && PyData.canLayAll0 ds) = true
      rw [h2, g2] <;> rfl
    · show max d.depth (PyData.depthAll ds) ≤ 2
      omega
    · show (PyData.eqv d d && PyData.eqvAll ds ds) = true
      rw [h4, g4] <;> rfl
theorem badD_list {H : Hp} {l : Addr} {xs : List V} (h : SqL K H l xs) (each : ∀ x ∈ xs, DIt K H x) : BadD K H (.ref l) := by
  obtain ⟨ds, g1, g2, g3, g4⟩ := dits_all each
  refine .inl ⟨l, xs, ds, rfl, h, g1, ?_, g4⟩
  unfold SeqAt.shaped
  show (PyData.canLayAll0 ds && decide (PyData.depthAll ds + 1 ≤ 64)) = true
  rw [g2, decide_eq_true (by omega)] <;> rfl
theorem dit_same {H H' : Hp} {x : V} (s : Same H H') (h : DIt K H x) (hd : ∀ d, Dp K H x d → Dp K H' x d) : DIt K H' x := by
  obtain ⟨d, h1, r⟩ := h
  exact ⟨d, hd d h1, r⟩
mutual
theorem dp_same {H H' : Hp} (s : Same H H') : ∀ {v : V} {d : PyData}, Dp K H v d → Dp K H' v d
  | _, _, .non => .non
  | _, _, .bl b => .bl b
  | _, _, .int i => .int i
  | _, _, .str x => .str x
  | _, _, .lst h a => .lst (s.seq h) (dps_same s a)
  | _, _, .tup h a => .tup (Same.sqt s h) (dps_same s a)
theorem dps_same {H H' : Hp} (s : Same H H') : ∀ {vs : List V} {ds : List PyData}, DpAll K H vs ds → DpAll K H' vs ds
  | _, _, .nil => .nil
  | _, _, .cons h t => .cons (dp_same s h) (dps_same s t)
end
theorem badD_same {H H' : Hp} {v : V} (s : Same H H') (h : BadD K H v) : BadD K H' v := by
  rcases h with ⟨l, xs, ds, rfl, hx, hd, r⟩ | ⟨T, d, ht, ne, hd, r⟩ | ⟨a, rfl, h⟩
  · exact .inl ⟨l, xs, ds, rfl, s.seq hx, dps_same s hd, r⟩
  · exact .inr (.inl ⟨T, d, tyb_same s ht, ne, dp_same s hd, r⟩)
  · exact .inr (.inr ⟨a, rfl, s _ _ h⟩)
theorem dp_mut {H : Hp} {F : Addr} {ys : List V} {o : HO} : True := trivial
theorem dit_cmp {H : Hp} {p : Addr} {c : Cmp} (h : SqT K H p (V2 c)) : DIt K H (.ref p) := ⟨dC c, dp_cmp h, enc_cmp.lay c, Nat.le_trans (enc_cmp.dep c) (by decide), by rw [enc_cmp.eq, decide_eq_true rfl]⟩
theorem dit_prs {H : Hp} {ps : List Addr} {cs : List Cmp} (h : Prs K H ps cs) : ∀ x ∈ Rfs ps, DIt K H x := by
  induction h with
  | nil => exact fun x hx => absurd hx List.not_mem_nil
  | @cons p c ps cs r t ih =>
    intro x hx
    rcases List.mem_cons.mp hx with rfl | h
    · exact dit_cmp r
    · exact ih x h
theorem dit_int {H : Hp} (i : Int) : DIt K H (.int i) := ⟨.int i, .int i, rfl, Nat.zero_le _, by show (i == i) = true; exact beq_self_eq_true i⟩
theorem dit_non {H : Hp} : DIt K H .non := ⟨.none, .non, rfl, Nat.zero_le _, rfl⟩
/-- a tuple, a list of flat ones -/
def Flat (K : PySem.W.Frag) (H : Hp) (x : V) : Prop := ∃ d, Dp K H x d ∧ d.canLay0 = true ∧ d.depth = 0 ∧ PyData.eqv d d = true
theorem flat_int {H : Hp} (i : Int) : Flat K H (.int i) := ⟨.int i, .int i, rfl, rfl, by show (i == i) = true; exact beq_self_eq_true i⟩
theorem flat_bl {H : Hp} (b : Bool) : Flat K H (.bl b) := ⟨.bool b, .bl b, rfl, rfl, by show (b == b) = true; exact beq_self_eq_true b⟩
theorem flat_non {H : Hp} : Flat K H .non := ⟨.none, .non, rfl, rfl, rfl⟩
theorem flat_str {H : Hp} (x : Str) (hx : (PyData.str x).canLay0 = true) : Flat K H (.str x) := ⟨.str x, .str x, hx, rfl, by show (x == x) = true; exact beq_self_eq_true x⟩
theorem flats_all {H : Hp} : ∀ {xs : List V}, (∀ x ∈ xs, Flat K H x) → ∃ ds, DpAll K H xs ds ∧ PyData.canLayAll0 ds = true ∧ PyData.depthAll ds = 0 ∧ PyData.eqvAll ds ds = true
  | [], _ => ⟨[], .nil, rfl, rfl, rfl⟩
  | x :: xs, h => by
    obtain ⟨d, h1, h2, h3, h4⟩ := h x List.mem_cons_self
    obtain ⟨ds, g1, g2, g3, g4⟩ := flats_all (xs := xs) fun y hy => h y (List.mem_cons_of_mem _ hy)
    refine ⟨d :: ds, .cons h1 g1, ?_, ?_, ?_⟩
    · show (d.canLay0 && PyData.canLayAll0 ds) = true
      rw [h2, g2] <;> rfl
    · show max d.depth (PyData.depthAll ds) = 0
      omega
    · show (PyData.eqv d d && PyData.eqvAll ds ds) = true
      rw [h4, g4] <;> rfl
theorem dit_tup {H : Hp} {p : Addr} {xs : List V} (h : SqT K H p xs) (each : ∀ x ∈ xs, Flat K H x) : DIt K H (.ref p) := by
  obtain ⟨ds, g1, g2, g3, g4⟩ := flats_all each
  refine ⟨.tuple ds, .tup h g1, g2, ?_, g4⟩
  show PyData.depthAll ds + 1 ≤ 2
  omega
theorem dit_lst {H : Hp} {p : Addr} {xs : List V} (h : SqL K H p xs) (each : ∀ x ∈ xs, Flat K H x) : DIt K H (.ref p) := by
  obtain ⟨ds, g1, g2, g3, g4⟩ := flats_all each
  refine ⟨.list ds, .lst h g1, g2, ?_, g4⟩
  show PyData.depthAll ds + 1 ≤ 2
  omega
theorem dits_two {H : Hp} {x y : V} (hx : Flat K H x) (hy : Flat K H y) : ∀ z ∈ [x, y], Flat K H z := fun z hz => by
  simp only [List.mem_cons, List.not_mem_nil, or_false] at hz
  rcases hz with rfl | rfl
  · exact hx
  · exact hy
/-- the odd items -/
theorem odd_item {H : Hp} {n : Nat} {p0 p1 p2 p3 p4 p5 p6 p8 q0 q2 q3 : Addr} (h0 : H p0 = some (.tup [.int 0, .int 0])) (h1 : H p1 = some (.tup [.int 0, .int (n : Int)])) (h2 : H p2 = some (.tup [.int (-1), .int 0])) (h3 : H p3 = some (.tup [.int (n : Int), .int 0])) (h4 : H p4 = some (.tup [.int 0])) (h5 : H p5 = some (.tup [.int 0, .int 1, .int 0])) (h6 : H p6 = some (.lst [.int 0, .int 1])) (h8 : H p8 = some (.tup [.bl true, .int 0])) (k0 : H q0 = some (.tup [.int 0, .str "1"])) (k2 : H q2 = some (.tup [.non, .int 1])) (k3 : H q3 = some (.tup [.int 1, .int 1])) {k : Nat} (hk : k < 13) :
    ∃ v, ([.ref p0, .ref p1, .ref p2, .ref p3, .ref p4, .ref p5, .ref p6, .non, .ref p8, .ref q0, .int 5, .ref q2, .ref q3] : List V)[k]? = some v ∧ ItOk K H n v false ∧ DIt K H v := by
  have two : ∀ {p : Addr} {x y : V} {Tx Ty : String}, H p = some (.tup [x, y]) → TyB K H x Tx → TyB K H y Ty → twV n x y = false → Flat K H x → Flat K H y → ItOk K H n (.ref p) false ∧ DIt K H (.ref p) := fun hp hx hy e fx fy => by
    refine ⟨?_, dit_tup (.inl (.inl hp)) (dits_two fx fy)⟩
    rw [← e]
    exact .two (.inl (.inl hp)) hx hy
  have one : ∀ z ∈ ([.int 0] : List V), Flat K H z := fun z hz => by
    rw [List.mem_singleton.mp hz]
    exact flat_int 0
  have three : ∀ z ∈ ([.int 0, .int 1, .int 0] : List V), Flat K H z := fun z hz => by
    simp only [List.mem_cons, List.not_mem_nil, or_false] at hz
    rcases hz with rfl | rfl | rfl <;> exact flat_int _
  match k, hk with
  | 0, _ => exact ⟨_, rfl, two h0 (.int _) (.int _) (by unfold twV; simp) (flat_int _) (flat_int _)⟩
  | 1, _ => exact ⟨_, rfl, two h1 (.int _) (.int _) (by unfold twV; simp) (flat_int _) (flat_int _)⟩
  | 2, _ => exact ⟨_, rfl, two h2 (.int _) (.int _) (by unfold twV; simp) (flat_int _) (flat_int _)⟩
  | 3, _ => exact ⟨_, rfl, two h3 (.int _) (.int _) (by unfold twV; simp) (flat_int _) (flat_int _)⟩
  | 4, _ => exact ⟨_, rfl, .long (.inl (.inl h4)) (by decide), dit_tup (.inl (.inl h4)) one⟩
  | 5, _ => exact ⟨_, rfl, .long (.inl (.inl h5)) (by decide), dit_tup (.inl (.inl h5)) three⟩
  | 6, _ => exact ⟨_, rfl, .other (.lst (.inl (.inl h6))) (by decide), dit_lst (.inl (.inl h6)) (dits_two (flat_int _) (flat_int _))⟩
  | 7, _ => exact ⟨_, rfl, .other .non (by decide), dit_non⟩
  | 8, _ => exact ⟨_, rfl, two h8 (.bl _) (.int _) rfl (flat_bl _) (flat_int _)⟩
  | 9, _ => exact ⟨_, rfl, two k0 (.int _) (.str _) rfl (flat_int _) (flat_str _ (by decide +kernel))⟩
  | 10, _ => exact ⟨_, rfl, .other (.int 5) (by decide), dit_int 5⟩
  | 11, _ => exact ⟨_, rfl, two k2 .non (.int _) rfl flat_non (flat_int _)⟩
  | 12, _ => exact ⟨_, rfl, two k3 (.int _) (.int _) (by unfold twV; simp) (flat_int _) (flat_int _)⟩
theorem all2_rep {H : Hp} {t : Addr} {c : Cmp} (h : SqT K H t (V2 c)) : ∀ k, Prs K H (List.replicate k t) (List.replicate k c)
  | 0 => .nil
  | k + 1 => .cons h (all2_rep h k)
theorem rep_rfs (t : Addr) : (List.replicate (61 : Int).toNat [V.ref t]).flatten = Rfs (List.replicate 61 t) := by
  show (List.replicate 61 [V.ref t]).flatten = _
  rw [List.flatten_replicate_singleton]
  unfold Rfs
  rw [List.map_replicate]
def dCt (cs : List Cmp) : PyData := .tuple (cs.map dC)
theorem enc_cmpsT : Enc dCt 2 where
  eq := fun a b => enc_all enc_cmp a b
  lay := fun a => lay_all enc_cmp.lay a
  dep := fun a => by
    show PyData.depthAll (a.map dC) + 1 ≤ 2
    have := dep_all enc_cmp.dep a
    omega
theorem badw_at {H : Hp} {n : Nat} (hn : noV (.int (n : Int)) = true) {u d t L : Addr} {ps : List Addr} {cs : List Cmp} (hu : H u = some (.tup (Rfs ps))) (hps : Prs K H ps cs) (hd : H d = some (.dK [])) (ht : H t = some (.tup [.int 0, .int 1])) (hL : H L = some (.lst (Rfs (List.replicate 61 t)))) {k : Nat} (hk : k < 7) :
    ∃ v, ([.non, .ref u, .int 5, .str "", .ref d, .bl true, .ref L] : List V)[k]? = some v ∧ WebV K H (.int (n : Int)) v (.web none) ∧ BadD K H v := by
  match k, hk with
  | 0, _ => exact ⟨_, rfl, .kind hn .non (by decide), .inr (.inl ⟨_, .none, .non, by decide, .non, by decide +kernel, rfl⟩)⟩
  | 1, _ => exact ⟨_, rfl, .kind hn (.tup (.inl (.inl hu))) (by decide), .inr (.inl ⟨_, dCt cs, .tup (.inl (.inl hu)), by decide, .tup (.inl (.inl hu)) (dp_prs hps), enc_cmpsT.shaped (by decide) _, by rw [enc_cmpsT.eq, decide_eq_true rfl]⟩)⟩
  | 2, _ => exact ⟨_, rfl, .kind hn (.int 5) (by decide), .inr (.inl ⟨_, .int 5, .int 5, by decide, .int 5, by decide +kernel, by decide +kernel⟩)⟩
  | 3, _ => exact ⟨_, rfl, .kind hn (.str "") (by decide), .inr (.inl ⟨_, .str "", .str "", by decide, .str "", by decide +kernel, by decide +kernel⟩)⟩
  | 4, _ => exact ⟨_, rfl, .kind hn (.dK hd) (by decide), .inr (.inr ⟨d, rfl, hd⟩)⟩
  | 5, _ => exact ⟨_, rfl, .kind hn (.bl true) (by decide), .inr (.inl ⟨_, .bool true, .bl true, by decide, .bl true, by decide +kernel, rfl⟩)⟩
  | 6, _ =>
    have pr : Prs K H (List.replicate 61 t) (List.replicate 61 (0, 1)) := all2_rep (.inl (.inl ht)) 61
    exact ⟨_, rfl, .many hn (.inl (.inl hL)) (by rw [rfs_len, List.length_replicate]; decide), badD_list (.inl (.inl hL)) (dit_prs pr)⟩
theorem rd_lbadweb (vs : List V) (H : Hp) (Q : VK) (E : XK) (h : sp_lbadweb K vs H Q E) : r_lbadweb K { nx := fun _ H' => Q .non H', rt := Q } (L2.start N_lbadweb vs) H := by
  obtain ⟨n, a, m, cs, rfl, m0, hw, q⟩ := h
  obtain ⟨ps, ha, hps, ok, n1, n10⟩ := id hw
  have lps := hps.length
  have h60 := ok.1
  have hn : noV (.int (n : Int)) = true := decide_eq_true (by omega)
  have haH := ha
  unfold r_lbadweb N_lbadweb tDNewK
  walk_at "ev"
  split
  · unfold tThen
    walk_at "ev"
    refine .inl ⟨a, _, rfl, .inl (.inl ha), fun u k_u => ?_⟩
    have t_0 := same_new (o := (.tup (Rfs ps) : HO)) k_u
    have f_u : (upd H u (.tup (Rfs ps))) u = some (.tup (Rfs ps)) := upd_same
    generalize upd H u (.tup (Rfs ps)) = H_0 at t_0 f_u ⊢
    have ha := t_0 _ _ ha
    have s_0 := t_0
    intro d k_d
    have t_1 := same_new (o := (.dK [] : HO)) k_d
    have f_d : (upd H_0 d (.dK [])) d = some (.dK []) := upd_same
    generalize upd H_0 d (.dK []) = H_1 at t_1 f_d ⊢
    have ha := t_1 _ _ ha
    have f_u := t_1 _ _ f_u
    have s_1 := s_0.trans t_1
    refine ⟨small_line (by decide), fun t k_t => ?_⟩
    have t_2 := same_new (o := (.tup [.int 0, .int 1] : HO)) k_t
    have f_t : (upd H_1 t (.tup [.int 0, .int 1])) t = some (.tup [.int 0, .int 1]) := upd_same
    generalize upd H_1 t (.tup [.int 0, .int 1]) = H_2 at t_2 f_t ⊢
    have ha := t_2 _ _ ha
    have f_u := t_2 _ _ f_u
    have f_d := t_2 _ _ f_d
    have s_2 := s_1.trans t_2
    refine ⟨small_line (by decide), fun l k_l => ?_⟩
    have t_3 := same_new (o := (.lst [.ref t] : HO)) k_l
    have f_l : (upd H_2 l (.lst [.ref t])) l = some (.lst [.ref t]) := upd_same
    generalize upd H_2 l (.lst [.ref t]) = H_3 at t_3 f_l ⊢
    have ha := t_3 _ _ ha
    have f_u := t_3 _ _ f_u
    have f_d := t_3 _ _ f_d
    have f_t := t_3 _ _ f_t
    have s_3 := s_2.trans t_3
    refine ⟨l, 61, _, rfl, rfl, f_l, by decide, by decide, by rw [sizeLine_eq]; show 1 * 61 ≤ 16777216; decide, fun L k_L => ?_⟩
    rw [rep_rfs]
    have t_4 := same_new (o := (.lst (Rfs (List.replicate 61 t)) : HO)) k_L
    have f_L : (upd H_3 L (.lst (Rfs (List.replicate 61 t)))) L = some (.lst (Rfs (List.replicate 61 t))) := upd_same
    generalize upd H_3 L (.lst (Rfs (List.replicate 61 t))) = H_4 at t_4 f_L ⊢
    have ha := t_4 _ _ ha
    have f_u := t_4 _ _ f_u
    have f_d := t_4 _ _ f_d
    have f_t := t_4 _ _ f_t
    have f_l := t_4 _ _ f_l
    have s_4 := s_3.trans t_4
    refine ⟨small_line (by decide), fun S k_S => ?_⟩
    have t_5 := same_new (o := (.lst [.non, .ref u, .int 5, .str "", .ref d, .bl true, .ref L] : HO)) k_S
    have f_S : (upd H_4 S (.lst [.non, .ref u, .int 5, .str "", .ref d, .bl true, .ref L])) S = some (.lst [.non, .ref u, .int 5, .str "", .ref d, .bl true, .ref L]) := upd_same
    generalize upd H_4 S (.lst [.non, .ref u, .int 5, .str "", .ref d, .bl true, .ref L]) = H_5 at t_5 f_S ⊢
    have ha := t_5 _ _ ha
    have f_u := t_5 _ _ f_u
    have f_d := t_5 _ _ f_d
    have f_t := t_5 _ _ f_t
    have f_l := t_5 _ _ f_l
    have f_L := t_5 _ _ f_L
    have s_5 := s_4.trans t_5
    obtain ⟨k, ek, kl⟩ : ∃ k : Nat, m / 6 % 7 = (k : Int) ∧ k < 7 := ⟨(m / 6 % 7).toNat, by omega, by omega⟩
    rw [ek]
    obtain ⟨v, gv, hv, bv⟩ := badw_at (K := K) hn f_u (Same.prs s_5 hps) f_d f_t f_L kl
    refine ⟨⟨by decide, by decide⟩, S, _, _, v, rfl, rfl, .inl (.inl f_S), atI_nat gv, small_line (by decide), fun p np => ?_⟩
    have s6 := same_new (o := .tup [v, .non]) np
    exact q _ p v none (s_5.trans s6) (s_5.free np) upd_same (webV_same s6 hv) (badD_same s6 bv)
  · refine ⟨small_line (by decide), fun p0 k_p0 => ?_⟩
    have t_0 := same_new (o := (.tup [.int 0, .int 0] : HO)) k_p0
    have f_p0 : (upd H p0 (.tup [.int 0, .int 0])) p0 = some (.tup [.int 0, .int 0]) := upd_same
    generalize upd H p0 (.tup [.int 0, .int 0]) = G_0 at t_0 f_p0 ⊢
    have ha := t_0 _ _ ha
    have s_0 := t_0
    refine ⟨small_line (by decide), fun p1 k_p1 => ?_⟩
    have t_1 := same_new (o := (.tup [.int 0, .int (n : Int)] : HO)) k_p1
    have f_p1 : (upd G_0 p1 (.tup [.int 0, .int (n : Int)])) p1 = some (.tup [.int 0, .int (n : Int)]) := upd_same
    generalize upd G_0 p1 (.tup [.int 0, .int (n : Int)]) = G_1 at t_1 f_p1 ⊢
    have ha := t_1 _ _ ha
    have f_p0 := t_1 _ _ f_p0
    have s_1 := s_0.trans t_1
    refine ⟨small_line (by decide), fun p2 k_p2 => ?_⟩
    have t_2 := same_new (o := (.tup [.int (-1), .int 0] : HO)) k_p2
    have f_p2 : (upd G_1 p2 (.tup [.int (-1), .int 0])) p2 = some (.tup [.int (-1), .int 0]) := upd_same
    generalize upd G_1 p2 (.tup [.int (-1), .int 0]) = G_2 at t_2 f_p2 ⊢
    have ha := t_2 _ _ ha
    have f_p0 := t_2 _ _ f_p0
    have f_p1 := t_2 _ _ f_p1
    have s_2 := s_1.trans t_2
    refine ⟨small_line (by decide), fun p3 k_p3 => ?_⟩
    have t_3 := same_new (o := (.tup [.int (n : Int), .int 0] : HO)) k_p3
    have f_p3 : (upd G_2 p3 (.tup [.int (n : Int), .int 0])) p3 = some (.tup [.int (n : Int), .int 0]) := upd_same
    generalize upd G_2 p3 (.tup [.int (n : Int), .int 0]) = G_3 at t_3 f_p3 ⊢
    have ha := t_3 _ _ ha
    have f_p0 := t_3 _ _ f_p0
    have f_p1 := t_3 _ _ f_p1
    have f_p2 := t_3 _ _ f_p2
    have s_3 := s_2.trans t_3
    refine ⟨small_line (by decide), fun p4 k_p4 => ?_⟩
    have t_4 := same_new (o := (.tup [.int 0] : HO)) k_p4
    have f_p4 : (upd G_3 p4 (.tup [.int 0])) p4 = some (.tup [.int 0]) := upd_same
    generalize upd G_3 p4 (.tup [.int 0]) = G_4 at t_4 f_p4 ⊢
    have ha := t_4 _ _ ha
    have f_p0 := t_4 _ _ f_p0
    have f_p1 := t_4 _ _ f_p1
    have f_p2 := t_4 _ _ f_p2
    have f_p3 := t_4 _ _ f_p3
    have s_4 := s_3.trans t_4
    refine ⟨small_line (by decide), fun p5 k_p5 => ?_⟩
    have t_5 := same_new (o := (.tup [.int 0, .int 1, .int 0] : HO)) k_p5
    have f_p5 : (upd G_4 p5 (.tup [.int 0, .int 1, .int 0])) p5 = some (.tup [.int 0, .int 1, .int 0]) := upd_same
    generalize upd G_4 p5 (.tup [.int 0, .int 1, .int 0]) = G_5 at t_5 f_p5 ⊢
    have ha := t_5 _ _ ha
    have f_p0 := t_5 _ _ f_p0
    have f_p1 := t_5 _ _ f_p1
    have f_p2 := t_5 _ _ f_p2
    have f_p3 := t_5 _ _ f_p3
    have f_p4 := t_5 _ _ f_p4
    have s_5 := s_4.trans t_5
    refine ⟨small_line (by decide), fun p6 k_p6 => ?_⟩
    have t_6 := same_new (o := (.lst [.int 0, .int 1] : HO)) k_p6
    have f_p6 : (upd G_5 p6 (.lst [.int 0, .int 1])) p6 = some (.lst [.int 0, .int 1]) := upd_same
    generalize upd G_5 p6 (.lst [.int 0, .int 1]) = G_6 at t_6 f_p6 ⊢
    have ha := t_6 _ _ ha
    have f_p0 := t_6 _ _ f_p0
    have f_p1 := t_6 _ _ f_p1
    have f_p2 := t_6 _ _ f_p2
    have f_p3 := t_6 _ _ f_p3
    have f_p4 := t_6 _ _ f_p4
    have f_p5 := t_6 _ _ f_p5
    have s_6 := s_5.trans t_6
    refine ⟨small_line (by decide), fun p8 k_p8 => ?_⟩
    have t_7 := same_new (o := (.tup [.bl true, .int 0] : HO)) k_p8
    have f_p8 : (upd G_6 p8 (.tup [.bl true, .int 0])) p8 = some (.tup [.bl true, .int 0]) := upd_same
    generalize upd G_6 p8 (.tup [.bl true, .int 0]) = G_7 at t_7 f_p8 ⊢
    have ha := t_7 _ _ ha
    have f_p0 := t_7 _ _ f_p0
    have f_p1 := t_7 _ _ f_p1
    have f_p2 := t_7 _ _ f_p2
    have f_p3 := t_7 _ _ f_p3
    have f_p4 := t_7 _ _ f_p4
    have f_p5 := t_7 _ _ f_p5
    have f_p6 := t_7 _ _ f_p6
    have s_7 := s_6.trans t_7
    refine ⟨small_line (by decide), fun O1 k_O1 => ?_⟩
    have t_8 := same_new (o := (.lst [.ref p0, .ref p1, .ref p2, .ref p3, .ref p4, .ref p5, .ref p6, .non, .ref p8] : HO)) k_O1
    have f_O1 : (upd G_7 O1 (.lst [.ref p0, .ref p1, .ref p2, .ref p3, .ref p4, .ref p5, .ref p6, .non, .ref p8])) O1 = some (.lst [.ref p0, .ref p1, .ref p2, .ref p3, .ref p4, .ref p5, .ref p6, .non, .ref p8]) := upd_same
    generalize upd G_7 O1 (.lst [.ref p0, .ref p1, .ref p2, .ref p3, .ref p4, .ref p5, .ref p6, .non, .ref p8]) = G_8 at t_8 f_O1 ⊢
    have ha := t_8 _ _ ha
    have f_p0 := t_8 _ _ f_p0
    have f_p1 := t_8 _ _ f_p1
    have f_p2 := t_8 _ _ f_p2
    have f_p3 := t_8 _ _ f_p3
    have f_p4 := t_8 _ _ f_p4
    have f_p5 := t_8 _ _ f_p5
    have f_p6 := t_8 _ _ f_p6
    have f_p8 := t_8 _ _ f_p8
    have s_8 := s_7.trans t_8
    refine ⟨small_line (by decide), fun q0 k_q0 => ?_⟩
    have t_9 := same_new (o := (.tup [.int 0, .str "1"] : HO)) k_q0
    have f_q0 : (upd G_8 q0 (.tup [.int 0, .str "1"])) q0 = some (.tup [.int 0, .str "1"]) := upd_same
    generalize upd G_8 q0 (.tup [.int 0, .str "1"]) = G_9 at t_9 f_q0 ⊢
    have ha := t_9 _ _ ha
    have f_p0 := t_9 _ _ f_p0
    have f_p1 := t_9 _ _ f_p1
    have f_p2 := t_9 _ _ f_p2
    have f_p3 := t_9 _ _ f_p3
    have f_p4 := t_9 _ _ f_p4
    have f_p5 := t_9 _ _ f_p5
    have f_p6 := t_9 _ _ f_p6
    have f_p8 := t_9 _ _ f_p8
    have f_O1 := t_9 _ _ f_O1
    have s_9 := s_8.trans t_9
    refine ⟨small_line (by decide), fun q2 k_q2 => ?_⟩
    have t_10 := same_new (o := (.tup [.non, .int 1] : HO)) k_q2
    have f_q2 : (upd G_9 q2 (.tup [.non, .int 1])) q2 = some (.tup [.non, .int 1]) := upd_same
    generalize upd G_9 q2 (.tup [.non, .int 1]) = G_10 at t_10 f_q2 ⊢
    have ha := t_10 _ _ ha
    have f_p0 := t_10 _ _ f_p0
    have f_p1 := t_10 _ _ f_p1
    have f_p2 := t_10 _ _ f_p2
    have f_p3 := t_10 _ _ f_p3
    have f_p4 := t_10 _ _ f_p4
    have f_p5 := t_10 _ _ f_p5
    have f_p6 := t_10 _ _ f_p6
    have f_p8 := t_10 _ _ f_p8
    have f_O1 := t_10 _ _ f_O1
    have f_q0 := t_10 _ _ f_q0
    have s_10 := s_9.trans t_10
    refine ⟨small_line (by decide), fun q3 k_q3 => ?_⟩
    have t_11 := same_new (o := (.tup [.int 1, .int 1] : HO)) k_q3
    have f_q3 : (upd G_10 q3 (.tup [.int 1, .int 1])) q3 = some (.tup [.int 1, .int 1]) := upd_same
    generalize upd G_10 q3 (.tup [.int 1, .int 1]) = G_11 at t_11 f_q3 ⊢
    have ha := t_11 _ _ ha
    have f_p0 := t_11 _ _ f_p0
    have f_p1 := t_11 _ _ f_p1
    have f_p2 := t_11 _ _ f_p2
    have f_p3 := t_11 _ _ f_p3
    have f_p4 := t_11 _ _ f_p4
    have f_p5 := t_11 _ _ f_p5
    have f_p6 := t_11 _ _ f_p6
    have f_p8 := t_11 _ _ f_p8
    have f_O1 := t_11 _ _ f_O1
    have f_q0 := t_11 _ _ f_q0
    have f_q2 := t_11 _ _ f_q2
    have s_11 := s_10.trans t_11
    refine ⟨small_line (by decide), fun O2 k_O2 => ?_⟩
    have t_12 := same_new (o := (.lst [.ref q0, .int 5, .ref q2, .ref q3] : HO)) k_O2
    have f_O2 : (upd G_11 O2 (.lst [.ref q0, .int 5, .ref q2, .ref q3])) O2 = some (.lst [.ref q0, .int 5, .ref q2, .ref q3]) := upd_same
    generalize upd G_11 O2 (.lst [.ref q0, .int 5, .ref q2, .ref q3]) = G_12 at t_12 f_O2 ⊢
    have ha := t_12 _ _ ha
    have f_p0 := t_12 _ _ f_p0
    have f_p1 := t_12 _ _ f_p1
    have f_p2 := t_12 _ _ f_p2
    have f_p3 := t_12 _ _ f_p3
    have f_p4 := t_12 _ _ f_p4
    have f_p5 := t_12 _ _ f_p5
    have f_p6 := t_12 _ _ f_p6
    have f_p8 := t_12 _ _ f_p8
    have f_O1 := t_12 _ _ f_O1
    have f_q0 := t_12 _ _ f_q0
    have f_q2 := t_12 _ _ f_q2
    have f_q3 := t_12 _ _ f_q3
    have s_12 := s_11.trans t_12
    refine ⟨O1, O2, _, _, rfl, rfl, f_O1, f_O2, small_line (by show 9 + 4 ≤ 1000000; decide), fun O k_O => ?_⟩
    have eO : ([.ref p0, .ref p1, .ref p2, .ref p3, .ref p4, .ref p5, .ref p6, .non, .ref p8] : List V) ++ [.ref q0, .int 5, .ref q2, .ref q3] = [.ref p0, .ref p1, .ref p2, .ref p3, .ref p4, .ref p5, .ref p6, .non, .ref p8, .ref q0, .int 5, .ref q2, .ref q3] := rfl
    rw [eO]
    have t_13 := same_new (o := (.lst [.ref p0, .ref p1, .ref p2, .ref p3, .ref p4, .ref p5, .ref p6, .non, .ref p8, .ref q0, .int 5, .ref q2, .ref q3] : HO)) k_O
    have f_O : (upd G_12 O (.lst [.ref p0, .ref p1, .ref p2, .ref p3, .ref p4, .ref p5, .ref p6, .non, .ref p8, .ref q0, .int 5, .ref q2, .ref q3])) O = some (.lst [.ref p0, .ref p1, .ref p2, .ref p3, .ref p4, .ref p5, .ref p6, .non, .ref p8, .ref q0, .int 5, .ref q2, .ref q3]) := upd_same
    generalize upd G_12 O (.lst [.ref p0, .ref p1, .ref p2, .ref p3, .ref p4, .ref p5, .ref p6, .non, .ref p8, .ref q0, .int 5, .ref q2, .ref q3]) = G_13 at t_13 f_O ⊢
    have ha := t_13 _ _ ha
    have f_p0 := t_13 _ _ f_p0
    have f_p1 := t_13 _ _ f_p1
    have f_p2 := t_13 _ _ f_p2
    have f_p3 := t_13 _ _ f_p3
    have f_p4 := t_13 _ _ f_p4
    have f_p5 := t_13 _ _ f_p5
    have f_p6 := t_13 _ _ f_p6
    have f_p8 := t_13 _ _ f_p8
    have f_O1 := t_13 _ _ f_O1
    have f_q0 := t_13 _ _ f_q0
    have f_q2 := t_13 _ _ f_q2
    have f_q3 := t_13 _ _ f_q3
    have f_O2 := t_13 _ _ f_O2
    have s_13 := s_12.trans t_13
    have oddB : ∀ {k : Nat}, k < 13 → ∃ v, ([.ref p0, .ref p1, .ref p2, .ref p3, .ref p4, .ref p5, .ref p6, .non, .ref p8, .ref q0, .int 5, .ref q2, .ref q3] : List V)[k]? = some v ∧ DIt K G_13 v := fun kl => by
      obtain ⟨v, g, _, d⟩ := odd_item (K := K) f_p0 f_p1 f_p2 f_p3 f_p4 f_p5 f_p6 f_p8 f_q0 f_q2 f_q3 kl
      exact ⟨v, g, d⟩
    have oddA : ∀ {k : Nat}, k < 13 → ∃ v, ([.ref p0, .ref p1, .ref p2, .ref p3, .ref p4, .ref p5, .ref p6, .non, .ref p8, .ref q0, .int 5, .ref q2, .ref q3] : List V)[k]? = some v ∧ ItOk K G_13 n v false ∧ DIt K G_13 v := fun kl => odd_item f_p0 f_p1 f_p2 f_p3 f_p4 f_p5 f_p6 f_p8 f_q0 f_q2 f_q3 kl
    have p1 : (0 : Int) < (ps.length : Int) + 1 := by omega
    have j0 := Int.emod_nonneg (m / 100) (b := (ps.length : Int) + 1) (by omega)
    have j1 := Int.emod_lt_of_pos (m / 100) p1
    obtain ⟨j, ej, lj⟩ : ∃ j : Nat, m / 100 % ((ps.length : Int) + 1) = (j : Int) ∧ j ≤ ps.length := ⟨(m / 100 % ((ps.length : Int) + 1)).toNat, by omega, by omega⟩
    refine ⟨⟨by decide, by decide⟩, a, _, rfl, .inl (.inl (.inl ha)), ?_⟩
    rw [rfs_len]
    refine ⟨_, rfl, by omega, ?_⟩
    rw [ej]
    refine ⟨a, _, rfl, .inl (.inl ha), fun S1 k_S1 => ?_⟩
    rw [rfs_take]
    have t_14 := same_new (o := (.lst (Rfs (ps.take j)) : HO)) k_S1
    have f_S1 : (upd G_13 S1 (.lst (Rfs (ps.take j)))) S1 = some (.lst (Rfs (ps.take j))) := upd_same
    generalize upd G_13 S1 (.lst (Rfs (ps.take j))) = G_14 at t_14 f_S1 ⊢
    have ha := t_14 _ _ ha
    have f_p0 := t_14 _ _ f_p0
    have f_p1 := t_14 _ _ f_p1
    have f_p2 := t_14 _ _ f_p2
    have f_p3 := t_14 _ _ f_p3
    have f_p4 := t_14 _ _ f_p4
    have f_p5 := t_14 _ _ f_p5
    have f_p6 := t_14 _ _ f_p6
    have f_p8 := t_14 _ _ f_p8
    have f_O1 := t_14 _ _ f_O1
    have f_q0 := t_14 _ _ f_q0
    have f_q2 := t_14 _ _ f_q2
    have f_q3 := t_14 _ _ f_q3
    have f_O2 := t_14 _ _ f_O2
    have f_O := t_14 _ _ f_O
    have s_14 := s_13.trans t_14
    obtain ⟨k, ek, kl⟩ : ∃ k : Nat, m / 6 % 13 = (k : Int) ∧ k < 13 := ⟨(m / 6 % 13).toNat, by omega, by omega⟩
    rw [ek]
    obtain ⟨v, gv, iv, dv⟩ := oddA kl
    refine ⟨⟨by decide, by decide⟩, O, _, _, v, rfl, rfl, .inl (.inl f_O), atI_nat gv, ?_⟩
    refine ⟨small_line (by decide), fun S2 k_S2 => ?_⟩
    have t_15 := same_new (o := (.lst [v] : HO)) k_S2
    have f_S2 : (upd G_14 S2 (.lst [v])) S2 = some (.lst [v]) := upd_same
    generalize upd G_14 S2 (.lst [v]) = G_15 at t_15 f_S2 ⊢
    have ha := t_15 _ _ ha
    have f_p0 := t_15 _ _ f_p0
    have f_p1 := t_15 _ _ f_p1
    have f_p2 := t_15 _ _ f_p2
    have f_p3 := t_15 _ _ f_p3
    have f_p4 := t_15 _ _ f_p4
    have f_p5 := t_15 _ _ f_p5
    have f_p6 := t_15 _ _ f_p6
    have f_p8 := t_15 _ _ f_p8
    have f_O1 := t_15 _ _ f_O1
    have f_q0 := t_15 _ _ f_q0
    have f_q2 := t_15 _ _ f_q2
    have f_q3 := t_15 _ _ f_q3
    have f_O2 := t_15 _ _ f_O2
    have f_O := t_15 _ _ f_O
    have f_S1 := t_15 _ _ f_S1
    have s_15 := s_14.trans t_15
    refine ⟨S1, S2, _, _, rfl, rfl, f_S1, f_S2, small_line (by rw [rfs_len, List.length_take]; show _ + 1 ≤ _; omega), fun S3 k_S3 => ?_⟩
    have t_16 := same_new (o := (.lst (Rfs (ps.take j) ++ [v]) : HO)) k_S3
    have f_S3 : (upd G_15 S3 (.lst (Rfs (ps.take j) ++ [v]))) S3 = some (.lst (Rfs (ps.take j) ++ [v])) := upd_same
    generalize upd G_15 S3 (.lst (Rfs (ps.take j) ++ [v])) = G_16 at t_16 f_S3 ⊢
    have ha := t_16 _ _ ha
    have f_p0 := t_16 _ _ f_p0
    have f_p1 := t_16 _ _ f_p1
    have f_p2 := t_16 _ _ f_p2
    have f_p3 := t_16 _ _ f_p3
    have f_p4 := t_16 _ _ f_p4
    have f_p5 := t_16 _ _ f_p5
    have f_p6 := t_16 _ _ f_p6
    have f_p8 := t_16 _ _ f_p8
    have f_O1 := t_16 _ _ f_O1
    have f_q0 := t_16 _ _ f_q0
    have f_q2 := t_16 _ _ f_q2
    have f_q3 := t_16 _ _ f_q3
    have f_O2 := t_16 _ _ f_O2
    have f_O := t_16 _ _ f_O
    have f_S1 := t_16 _ _ f_S1
    have f_S2 := t_16 _ _ f_S2
    have s_16 := s_15.trans t_16
    have e4 : cutV (Rfs ps) (some (j : Int)) none = Rfs (ps.drop j) := by
      rw [cutV_from]
      unfold Rfs
      rw [List.map_drop]
    refine ⟨a, _, rfl, .inl (.inl ha), fun S4 k_S4 => ?_⟩
    rw [e4]
    have t_17 := same_new (o := (.lst (Rfs (ps.drop j)) : HO)) k_S4
    have f_S4 : (upd G_16 S4 (.lst (Rfs (ps.drop j)))) S4 = some (.lst (Rfs (ps.drop j))) := upd_same
    generalize upd G_16 S4 (.lst (Rfs (ps.drop j))) = G_17 at t_17 f_S4 ⊢
    have ha := t_17 _ _ ha
    have f_p0 := t_17 _ _ f_p0
    have f_p1 := t_17 _ _ f_p1
    have f_p2 := t_17 _ _ f_p2
    have f_p3 := t_17 _ _ f_p3
    have f_p4 := t_17 _ _ f_p4
    have f_p5 := t_17 _ _ f_p5
    have f_p6 := t_17 _ _ f_p6
    have f_p8 := t_17 _ _ f_p8
    have f_O1 := t_17 _ _ f_O1
    have f_q0 := t_17 _ _ f_q0
    have f_q2 := t_17 _ _ f_q2
    have f_q3 := t_17 _ _ f_q3
    have f_O2 := t_17 _ _ f_O2
    have f_O := t_17 _ _ f_O
    have f_S1 := t_17 _ _ f_S1
    have f_S2 := t_17 _ _ f_S2
    have f_S3 := t_17 _ _ f_S3
    have s_17 := s_16.trans t_17
    refine ⟨S3, S4, _, _, rfl, rfl, f_S3, f_S4, small_line (by rw [List.length_append, rfs_len, rfs_len, List.length_take, List.length_drop]; show _ + 1 + _ ≤ _; omega), fun F k_F => ?_⟩
    have t_18 := same_new (o := (.lst (Rfs (ps.take j) ++ [v] ++ Rfs (ps.drop j)) : HO)) k_F
    have f_F : (upd G_17 F (.lst (Rfs (ps.take j) ++ [v] ++ Rfs (ps.drop j)))) F = some (.lst (Rfs (ps.take j) ++ [v] ++ Rfs (ps.drop j))) := upd_same
    generalize upd G_17 F (.lst (Rfs (ps.take j) ++ [v] ++ Rfs (ps.drop j))) = G_18 at t_18 f_F ⊢
    have ha := t_18 _ _ ha
    have f_p0 := t_18 _ _ f_p0
    have f_p1 := t_18 _ _ f_p1
    have f_p2 := t_18 _ _ f_p2
    have f_p3 := t_18 _ _ f_p3
    have f_p4 := t_18 _ _ f_p4
    have f_p5 := t_18 _ _ f_p5
    have f_p6 := t_18 _ _ f_p6
    have f_p8 := t_18 _ _ f_p8
    have f_O1 := t_18 _ _ f_O1
    have f_q0 := t_18 _ _ f_q0
    have f_q2 := t_18 _ _ f_q2
    have f_q3 := t_18 _ _ f_q3
    have f_O2 := t_18 _ _ f_O2
    have f_O := t_18 _ _ f_O
    have s_18 := s_17.trans t_18
    have t14 := t_14.trans (t_15.trans (t_16.trans (t_17.trans t_18)))
    refine (fun rest => ?_ : (∀ (ys : List V) (G : Hp), Same H G → Same G_13 G → G F = some (.lst (Rfs (ps.take j) ++ [v] ++ Rfs (ps.drop j) ++ ys)) → (∀ y ∈ ys, DIt K G y) →
      (if (j : Int) < 60 then rSlL K (.ref F) none (some 60) G (fun x H1 => 2 ≤ sizeLine ∧ ∀ p, H1 p = none → Q (.ref p) (upd H1 p (.tup [x, .int (j : Int)]))) else 1 ≤ sizeLine ∧ ∀ p, G p = none → rCat (.ref a) (.ref p) (upd G p (.lst [.non])) fun x H1 => 2 ≤ sizeLine ∧ ∀ p, H1 p = none → Q (.ref p) (upd H1 p (.tup [x, .non])))) → _) fun ys G sG tG hF dy => ?_
    · refine ⟨⟨by decide, by decide⟩, ?_⟩
      split
      · obtain ⟨k2, ek2, kl2⟩ : ∃ k : Nat, m / 600 % 13 = (k : Int) ∧ k < 13 := ⟨(m / 600 % 13).toNat, by omega, by omega⟩
        rw [ek2]
        obtain ⟨v2, gv2, dvv⟩ := oddB kl2
        refine ⟨.inl ⟨rfl, _, .inl (.inl f_F)⟩, ⟨by decide, by decide⟩, O, _, _, v2, rfl, rfl, .inl (.inl f_O), atI_nat gv2, ?_⟩
        refine ⟨F, _, _, rfl, rfl, f_F, small_lt (by rw [List.length_append, List.length_append, rfs_len, rfs_len, List.length_take, List.length_drop]; show _ + 1 + _ < _; omega), ?_⟩
        have n13 : G_13 F = none := (t_14.trans (t_15.trans (t_16.trans t_17))).free k_F
        have nH : H F = none := s_17.free k_F
        have tF : Same G_13 (upd G_18 F (.lst (Rfs (ps.take j) ++ [v] ++ Rfs (ps.drop j) ++ [v2]))) := same_mut t14 n13
        refine rest [v2] _ (same_mut s_18 nH) tF upd_same fun y hy => ?_
        rw [List.mem_singleton.mp hy]
        exact dit_same tF dvv fun d h => dp_same tF h
      · refine rest [] _ s_18 t14 (by rw [List.append_nil]; exact f_F) fun y hy => absurd hy List.not_mem_nil
    · have psG := Same.prs sG hps
      have eX : Rfs (ps.take j) ++ [v] ++ Rfs (ps.drop j) ++ ys = Rfs (ps.take j) ++ (v :: (Rfs (ps.drop j) ++ ys)) := by simp
      rw [eX] at hF
      have lA : (Rfs (ps.take j)).length = j := by rw [rfs_len, List.length_take]; omega
      by_cases jl : j < 60
      · rw [if_pos (by omega)]
        refine ⟨F, _, rfl, .inl (.inl hF), fun L kL => ?_⟩
        rw [show cutV (Rfs (ps.take j) ++ (v :: (Rfs (ps.drop j) ++ ys))) none (some 60) = (Rfs (ps.take j) ++ (v :: (Rfs (ps.drop j) ++ ys))).take 60 from cutV_to _ 60]
        have s1 := same_new (o := .lst ((Rfs (ps.take j) ++ (v :: (Rfs (ps.drop j) ++ ys))).take 60)) kL
        have hL : (upd G L (.lst ((Rfs (ps.take j) ++ (v :: (Rfs (ps.drop j) ++ ys))).take 60))) L = some (.lst ((Rfs (ps.take j) ++ (v :: (Rfs (ps.drop j) ++ ys))).take 60)) := upd_same
        generalize upd G L (.lst ((Rfs (ps.take j) ++ (v :: (Rfs (ps.drop j) ++ ys))).take 60)) = G2 at s1 hL ⊢
        refine ⟨small_line (by decide), fun p np => ?_⟩
        have s2 := same_new (o := .tup [.ref L, .int (j : Int)]) np
        have s12 := s1.trans s2
        have hL2 := s2 _ _ hL
        have sF := sG.trans s12
        refine q _ p (.ref L) (some j) sF ((sG.trans s1).free np) upd_same (.item (k := j) (y := v) hn (.inl (.inl hL2)) (by rw [List.length_take]; omega) (fun i hi => ?_) ?_ (it_same (tG.trans s12) iv)) (badD_list (.inl (.inl hL2)) fun x hx => ?_)
        · obtain ⟨g, hg⟩ := get_of (xs := ps) (i := i) (by omega)
          obtain ⟨c, hc, hgc⟩ := (Same.prs sF hps).getL hg
          refine ⟨.ref g, ?_, it_cmp hgc (ok.2 c (List.mem_of_getElem? hc))⟩
          rw [List.getElem?_take_of_lt (by omega), List.getElem?_append_left (by omega)]
          exact rfs_at (by rw [List.getElem?_take_of_lt hi]; exact hg)
        · rw [List.getElem?_take_of_lt jl, List.getElem?_append_right (by omega), lA, Nat.sub_self]
          rfl
        · have hx := List.mem_of_mem_take hx
          rcases List.mem_append.mp hx with h | h
          · exact dit_prs (Same.prs sF hps) x (by
              unfold Rfs at h ⊢
              obtain ⟨g, hg, rfl⟩ := List.mem_map.mp h
              exact List.mem_map.mpr ⟨g, List.mem_of_mem_take hg, rfl⟩)
          · rcases List.mem_cons.mp h with rfl | h
            · exact dit_same (tG.trans s12) dv fun d h => dp_same (tG.trans s12) h
            · rcases List.mem_append.mp h with h | h
              · exact dit_prs (Same.prs sF hps) x (by
                  unfold Rfs at h ⊢
                  obtain ⟨g, hg, rfl⟩ := List.mem_map.mp h
                  exact List.mem_map.mpr ⟨g, List.mem_of_mem_drop hg, rfl⟩)
              · exact dit_same s12 (dy x h) fun d h => dp_same s12 h
      · rw [if_neg (by omega)]
        refine ⟨small_line (by decide), fun r kr => ?_⟩
        have s1 := same_new (o := .lst [.non]) kr
        have hr : (upd G r (.lst [.non])) r = some (.lst [.non]) := upd_same
        generalize upd G r (.lst [.non]) = G2 at s1 hr ⊢
        refine ⟨a, r, _, _, rfl, rfl, s1 _ _ (sG _ _ haH), hr, small_line (by rw [rfs_len]; show _ + 1 ≤ _; omega), fun L kL => ?_⟩
        have s2 := same_new (o := .lst (Rfs ps ++ [.non])) kL
        have hL : (upd G2 L (.lst (Rfs ps ++ [.non]))) L = some (.lst (Rfs ps ++ [.non])) := upd_same
        generalize upd G2 L (.lst (Rfs ps ++ [.non])) = G3 at s2 hL ⊢
        refine ⟨small_line (by decide), fun p np => ?_⟩
        have s3 := same_new (o := .tup [.ref L, .non]) np
        have sF := sG.trans (s1.trans (s2.trans s3))
        have hL3 := s3 _ _ hL
        refine q _ p (.ref L) none sF ((sG.trans (s1.trans s2)).free np) upd_same (.many hn (.inl (.inl hL3)) (by rw [List.length_append, rfs_len]; show 60 < _ + 1; omega)) (badD_list (.inl (.inl hL3)) fun x hx => ?_)
        rcases List.mem_append.mp hx with h | h
        · exact dit_prs (Same.prs sF hps) x h
        · rw [List.mem_singleton.mp h]
          exact dit_non
end Sw

set_option Elab.async false
set_option linter.all false
set_option maxRecDepth 100000
set_option maxHeartbeats 4000000
namespace Sw
open PySem PySem.Spec PyProof.Rows L2
local macro_rules | `(tactic| walk_at "ev") => `(tactic| simp only [tSeq, tCalW, quiet, tRzA, tRzO, tTryT, tTryK, tJoin, tJs, tBM, tBits, kStrI, kIntS, kLenS, mSplit, mPart, mIndex, tAsg, tRet, tRetN, tOp, tUn, tVar, tC, tNil, tCons, tCB, tDrop, tNext, tCont, tBreak, tIfS, tIf, tTest, tChain, tChain3, tB, tTup, tLst, tAnd, tOr, tNot, tAndV, tOrV, tNotV, tPart, tNoPart, tSl, tCal, tAug, ipI, rI0, rI, rU, rEq, rNe, kMin, kMax, gName, gCons, gNil, L2.start, wipe, List.map_cons, List.map_nil, List.length_cons, List.length_nil, List.cons_append, List.nil_append, List.append_nil, Nat.reduceAdd, Nat.reduceSub, List.replicate_succ, List.replicate_zero, List.getElem?_cons_zero, List.getElem?_cons_succ, List.set_cons_succ, List.set_cons_zero, Option.some.injEq, exists_eq_left', exists_eq_left, V.int.injEq, V.bl.injEq, V.str.injEq, V.ref.injEq, List.cons.injEq, exists_and_left, and_assoc, and_true, true_and, scal_ii, scal_ss, scal_nn, scal_bb, scal_ni, scal_in, decide_eq_true_eq, Bool.not_true, Bool.not_false, Bool.not_eq_true', decide_eq_false_iff_not, ite_not, reduceCtorEq, if_true, if_false, Bool.false_eq_true, ne_eq, not_true_eq_false, not_false_eq_true, Int.reduceLT, Int.reduceLE, Int.reduceNeg])
local macro_rules | `(tactic| walk_at "cm") => `(tactic| first | exact Or.inr ⟨by decide, by decide⟩ | exact Or.inl ⟨by decide, by decide⟩ | exact Or.inl ⟨by omega, by omega⟩ | exact Or.inr ⟨by omega, by omega⟩)
variable {K : PySem.W.Frag}
/-! ### a good thing -/
theorem thV_ask {H : Hp} {n way : Nat} {a : Addr} {cs : List Cmp} {tv : V} {due : Due} (h : ThV K H n cs way tv due) (hw : WebH K H a n cs) (n8 : n ≤ 8) : AskV K H way (.int (n : Int)) (.ref a) tv due := by
  have wa := webH_at hw
  have wg := web_good wa
  obtain ⟨ps, ha, hps, ok, n1, n10⟩ := id hw
  cases h with
  | any hw => exact .one hw wg
  | row hw hr =>
    rcases hw with rfl | rfl | rfl
    · exact .more (by decide) (.row (.inl rfl) wg hr)
    · exact .more (by decide) (.row (.inr rfl) wg hr)
    · exact .more (by decide) (.row0 hr)
  | place ht =>
    rw [← hps.length]
    exact .more (by decide) (.place (.inl (.inl ha)) hps ok n1 n10 ht)
  | order ho => exact .more (by decide) (.order wg ho)
  | diff h => exact .more (by decide) (.diff wg h)
  | lines hw ht => exact .more (by omega) (.lines hw ht)
  | merge hw ht => exact .more (by omega) (.merge hw ht)
  | @bad2 _ d h ne =>
    have e : dueW d = .web d := by cases d <;> first | exact absurd rfl ne | rfl
    rw [← e]
    exact .more (by decide) (.two hw n8 h fun z => absurd z ne)
  | two h few => exact .more (by decide) (.two (d := .good) hw n8 (web_good h) fun _ => ⟨_, _, rfl, h, few⟩)
  | full h many => exact .more (by decide) (.full hw n8 h many)
  | none ht => exact .more (by decide) (.none hw ht)
  | ten h => exact .more (by decide) (.ten wg h)
theorem thV_same {H H' : Hp} {n way : Nat} {cs : List Cmp} {tv : V} {due : Due} (s : Same H H') (h : ThV K H n cs way tv due) : ThV K H' n cs way tv due := by
  cases h with
  | any hw => exact .any hw
  | row hw hr => exact .row hw (rowV_same s hr)
  | place ht => exact .place (tyb_same s ht)
  | order ho => exact .order (ordV_same s ho)
  | diff h => exact .diff (webV_same s h)
  | lines hw ht => exact .lines hw (tyb_same s ht)
  | merge hw ht => exact .merge hw (tyb_same s ht)
  | bad2 h ne => exact .bad2 (webV_same s h) ne
  | two h few => exact .two (webAt_same s h) few
  | full h many => exact .full (webAt_same s h) many
  | none ht => exact .none (tyb_same s ht)
  | ten h => exact .ten (webV_same s h)
theorem row_good {H : Hp} {r : Addr} {n : Nat} (n10 : n ≤ 10) (h : H r = some (.lst (rgV 0 (n : Int)).reverse)) : RowV K H n (.ref r) true := by
  have e : (rgV 0 (n : Int)).reverse = vis (natI (List.range n).reverse) := by
    rw [rgV_nat, natL_vis]
    unfold vis natI
    rw [List.map_map, List.map_map, List.map_reverse]
  rw [e] at h
  have lr : (vis (natI (List.range n).reverse)).length = n := by
    rw [ints_len]
    unfold natI
    rw [List.length_map, List.length_reverse, List.length_range]
  have R := RowV.list (K := K) (n := n) (.inl (.inl h)) (by rw [lr]; omega) fun x hx => by
    unfold vis at hx
    obtain ⟨i, _, rfl⟩ := List.mem_map.mp hx
    exact ⟨_, .int i⟩
  rw [lr, decide_eq_true rfl, vis_isI] at R
  exact R
theorem ord_good {H : Hp} {r : Addr} {n : Nat} (n10 : n ≤ 10) (h : H r = some (.lst (rgV 0 (n : Int)).reverse)) : OrdV K H n (.ref r) true := by
  have e : (rgV 0 (n : Int)).reverse = vis (natI (List.range n).reverse) := by
    rw [rgV_nat, natL_vis]
    unfold vis natI
    rw [List.map_map, List.map_map, List.map_reverse]
  rw [e] at h
  refine .whole (.inl (.inl h)) (by unfold natI; rw [List.length_map, List.length_reverse, List.length_range]; omega) ⟨fun _ => ⟨(List.range n).reverse, rfl, List.reverse_perm _⟩, fun _ => rfl⟩
theorem one_web {H : Hp} {r t : Addr} {n : Nat} (n2 : 2 ≤ n) (n10 : n ≤ 10) (ht : H t = some (.tup [.int 1, .int 0])) (h : H r = some (.lst [.ref t])) : WebAt K H r n [(1, 0)] :=
  ⟨[t], .inl (.inl h), .cons (.inl (.inl ht)) .nil, ⟨by decide, fun c hc => by rw [List.mem_singleton.mp hc]; exact ⟨by show 1 < n; omega, by show 0 < n; omega, by decide⟩⟩, by omega, n10⟩
theorem low_in {way : Nat} (w8 : way ≤ 8) (_ : True) : ¬ (if false = true then !inV (.int (way : Int)) [.int 9, .int 10, .int 14] else inV (.int (way : Int)) [.int 9, .int 10, .int 14]) = true := by
  rcases (by omega : way = 0 ∨ way = 1 ∨ way = 2 ∨ way = 3 ∨ way = 4 ∨ way = 5 ∨ way = 6 ∨ way = 7 ∨ way = 8) with rfl | rfl | rfl | rfl | rfl | rfl | rfl | rfl | rfl <;> decide
theorem low_in2 {way : Nat} (w8 : way ≤ 8) : ¬ (if false = true then !inV (.int (way : Int)) [.int 19, .int 21] else inV (.int (way : Int)) [.int 19, .int 21]) = true := by
  rcases (by omega : way = 0 ∨ way = 1 ∨ way = 2 ∨ way = 3 ∨ way = 4 ∨ way = 5 ∨ way = 6 ∨ way = 7 ∨ way = 8) with rfl | rfl | rfl | rfl | rfl | rfl | rfl | rfl | rfl <;> decide
theorem rd_lgoodthing (vs : List V) (H : Hp) (Q : VK) (E : XK) (h : sp_lgoodthing K vs H Q E) : r_lgoodthing K { nx := fun _ H' => Q .non H', rt := Q } (L2.start N_lgoodthing vs) H := by
  obtain ⟨way, n, a, cs, rfl, w21, hw, n8, q⟩ := h
  obtain ⟨ps, ha, hps, ok, n1, n10⟩ := id hw
  have lps := hps.length
  have h60 := ok.1
  unfold r_lgoodthing N_lgoodthing tRevL tLstRg tRg1
  walk_at "ev"
  refine ⟨small_line (by decide), fun p k_p => ?_⟩
  have s1 := same_new (o := .tup [.int 9, .int 10, .int 14]) k_p
  have f_p : (upd H p (.tup [.int 9, .int 10, .int 14])) p = some (.tup [.int 9, .int 10, .int 14]) := upd_same
  generalize upd H p (.tup [.int 9, .int 10, .int 14]) = H1 at s1 f_p ⊢
  refine ⟨p, _, rfl, .inr (.inl (.inl f_p)), rfl, rfl, _, rfl, ?_⟩
  have rg : RgOk 0 (n : Int) := .of_le (by omega) (by omega) (by omega) (by omega)
  rcases (by omega : way ≤ 8 ∨ way = 9 ∨ way = 10 ∨ way = 11 ∨ way = 12 ∨ way = 13 ∨ way = 14 ∨ way = 15 ∨ way = 16 ∨ way = 17 ∨ way = 18 ∨ way = 19 ∨ way = 20 ∨ way = 21) with w8 | rfl | rfl | rfl | rfl | rfl | rfl | rfl | rfl | rfl | rfl | rfl | rfl | rfl
  · rw [if_neg (low_in w8 (by decide))]
    rw [if_neg (by omega), if_neg (by omega)]
    refine ⟨small_line (by decide), fun p2 k2 => ?_⟩
    have s2 := same_new (o := .tup [.int 19, .int 21]) k2
    have f2 : (upd H1 p2 (.tup [.int 19, .int 21])) p2 = some (.tup [.int 19, .int 21]) := upd_same
    generalize upd H1 p2 (.tup [.int 19, .int 21]) = H2 at s2 f2 ⊢
    have s12 := s1.trans s2
    refine ⟨p2, _, rfl, .inr (.inl (.inl f2)), rfl, rfl, _, rfl, ?_⟩
    rw [if_neg (low_in2 w8), if_neg (by omega)]
    refine ⟨small_line (by decide), fun L kL => ?_⟩
    have s3 := same_new (o := .lst [.int (n : Int), .int 1]) kL
    have f3 : (upd H2 L (.lst [.int (n : Int), .int 1])) L = some (.lst [.int (n : Int), .int 1]) := upd_same
    generalize upd H2 L (.lst [.int (n : Int), .int 1]) = H3 at s3 f3 ⊢
    rw [decide_eq_false (by omega)]
    refine .inr ⟨false, rfl, ?_⟩
    refine ⟨L, _, _, _, rfl, rfl, .inl (.inl f3), rfl, ?_⟩
    have g : gDue way cs = .good := by unfold gDue; rw [if_neg (by omega), if_neg (fun y => absurd y.1 (by omega)), if_neg (fun y => absurd y.1 (by omega))]
    rw [g] at q
    exact q _ _ (s12.trans s3) (.any w8)
  · rw [if_pos (by decide)]
    refine ⟨rg, fun g kg => ⟨_, .inl (.inl upd_same), fun r kr => ?_⟩⟩
    have s2 := same_new (o := .lst (rgV 0 (n : Int))) kg
    generalize upd H1 g (.lst (rgV 0 (n : Int))) = H2 at s2 kr ⊢
    have s3 := same_new (o := .lst (rgV 0 (n : Int)).reverse) kr
    exact q _ _ (s1.trans (s2.trans s3)) (.row (.inl rfl) (row_good n10 upd_same))
  · rw [if_pos (by decide)]
    refine ⟨rg, fun g kg => ⟨_, .inl (.inl upd_same), fun r kr => ?_⟩⟩
    have s2 := same_new (o := .lst (rgV 0 (n : Int))) kg
    generalize upd H1 g (.lst (rgV 0 (n : Int))) = H2 at s2 kr ⊢
    have s3 := same_new (o := .lst (rgV 0 (n : Int)).reverse) kr
    exact q _ _ (s1.trans (s2.trans s3)) (.row (.inr (.inl rfl)) (row_good n10 upd_same))
  · rw [if_neg (by decide), if_pos (by decide)]
    refine ⟨a, _, rfl, .inl (.inl (.inl (s1 _ _ ha))), _, rfl, ?_⟩
    rw [rfs_len, lps]
    have P := ThV.place (K := K) (H := H1) (n := n) (cs := cs) (tv := .int ((cs.length : Int) - 1)) (.int _)
    have e : plV cs.length (.int ((cs.length : Int) - 1)) = decide (0 ≤ (cs.length : Int) - 1 ∧ (cs.length : Int) - 1 < (cs.length : Int)) := rfl
    have g : gDue 11 cs = iteD (plV cs.length (.int ((cs.length : Int) - 1))) .place := by
      cases cs with
      | nil => rfl
      | cons c cs =>
        rw [e, decide_eq_true (by rw [List.length_cons]; omega)]
        rfl
    rw [← g] at P
    exact q _ _ s1 P
  · rw [if_neg (by decide), if_neg (by decide), if_pos (by decide)]
    refine ⟨rg, fun g kg => ⟨_, .inl (.inl upd_same), fun r kr => ?_⟩⟩
    have s2 := same_new (o := .lst (rgV 0 (n : Int))) kg
    generalize upd H1 g (.lst (rgV 0 (n : Int))) = H2 at s2 kr ⊢
    have s3 := same_new (o := .lst (rgV 0 (n : Int)).reverse) kr
    exact q _ _ (s1.trans (s2.trans s3)) (.order (ord_good n10 upd_same))
  · rw [if_neg (by decide)]
    rw [if_neg (by decide), if_neg (by decide)]
    refine ⟨small_line (by decide), fun p2 k2 => ?_⟩
    have s2 := same_new (o := .tup [.int 19, .int 21]) k2
    have f2 : (upd H1 p2 (.tup [.int 19, .int 21])) p2 = some (.tup [.int 19, .int 21]) := upd_same
    generalize upd H1 p2 (.tup [.int 19, .int 21]) = H2 at s2 f2 ⊢
    have s12 := s1.trans s2
    refine ⟨p2, _, rfl, .inr (.inl (.inl f2)), rfl, rfl, _, rfl, ?_⟩
    rw [if_neg (by decide), if_pos (by decide)]
    exact q _ _ s12 (.diff (d := .good) (webV_same s12 (web_good (webH_at hw))))
  · rw [if_pos (by decide)]
    refine ⟨rg, fun g kg => ⟨_, .inl (.inl upd_same), fun r kr => ?_⟩⟩
    have s2 := same_new (o := .lst (rgV 0 (n : Int))) kg
    generalize upd H1 g (.lst (rgV 0 (n : Int))) = H2 at s2 kr ⊢
    have s3 := same_new (o := .lst (rgV 0 (n : Int)).reverse) kr
    exact q _ _ (s1.trans (s2.trans s3)) (.row (.inr (.inr rfl)) (row_good n10 upd_same))
  · rw [if_neg (by decide)]
    rw [if_neg (by decide), if_neg (by decide)]
    refine ⟨small_line (by decide), fun p2 k2 => ?_⟩
    have s2 := same_new (o := .tup [.int 19, .int 21]) k2
    have f2 : (upd H1 p2 (.tup [.int 19, .int 21])) p2 = some (.tup [.int 19, .int 21]) := upd_same
    generalize upd H1 p2 (.tup [.int 19, .int 21]) = H2 at s2 f2 ⊢
    have s12 := s1.trans s2
    refine ⟨p2, _, rfl, .inr (.inl (.inl f2)), rfl, rfl, _, rfl, ?_⟩
    rw [if_neg (by decide), if_neg (by decide)]
    refine ⟨small_line (by decide), fun L kL => ?_⟩
    have s3 := same_new (o := .lst [.int (n : Int), .int 1]) kL
    have f3 : (upd H2 L (.lst [.int (n : Int), .int 1])) L = some (.lst [.int (n : Int), .int 1]) := upd_same
    generalize upd H2 L (.lst [.int (n : Int), .int 1]) = H3 at s3 f3 ⊢
    rw [decide_eq_false (by decide)]
    refine .inr ⟨false, rfl, ?_⟩
    refine ⟨L, _, _, _, rfl, rfl, .inl (.inl f3), rfl, ?_⟩
    have P := ThV.lines (K := K) (H := H3) (n := n) (cs := cs) (.inl rfl) (.int (n : Int))
    have e : noV (.int (n : Int)) = true := decide_eq_true ⟨by omega, by omega⟩
    rw [e] at P
    exact q _ _ (s12.trans s3) P
  · rw [if_neg (by decide)]
    rw [if_neg (by decide), if_neg (by decide)]
    refine ⟨small_line (by decide), fun p2 k2 => ?_⟩
    have s2 := same_new (o := .tup [.int 19, .int 21]) k2
    have f2 : (upd H1 p2 (.tup [.int 19, .int 21])) p2 = some (.tup [.int 19, .int 21]) := upd_same
    generalize upd H1 p2 (.tup [.int 19, .int 21]) = H2 at s2 f2 ⊢
    have s12 := s1.trans s2
    refine ⟨p2, _, rfl, .inr (.inl (.inl f2)), rfl, rfl, _, rfl, ?_⟩
    rw [if_neg (by decide), if_neg (by decide)]
    refine ⟨small_line (by decide), fun L kL => ?_⟩
    have s3 := same_new (o := .lst [.int (n : Int), .int 1]) kL
    have f3 : (upd H2 L (.lst [.int (n : Int), .int 1])) L = some (.lst [.int (n : Int), .int 1]) := upd_same
    generalize upd H2 L (.lst [.int (n : Int), .int 1]) = H3 at s3 f3 ⊢
    rw [decide_eq_false (by decide)]
    refine .inr ⟨false, rfl, ?_⟩
    refine ⟨L, _, _, _, rfl, rfl, .inl (.inl f3), rfl, ?_⟩
    have P := ThV.lines (K := K) (H := H3) (n := n) (cs := cs) (.inr rfl) (.int (n : Int))
    have e : noV (.int (n : Int)) = true := decide_eq_true ⟨by omega, by omega⟩
    rw [e] at P
    exact q _ _ (s12.trans s3) P
  · rw [if_neg (by decide)]
    rw [if_neg (by decide), if_neg (by decide)]
    refine ⟨small_line (by decide), fun p2 k2 => ?_⟩
    have s2 := same_new (o := .tup [.int 19, .int 21]) k2
    have f2 : (upd H1 p2 (.tup [.int 19, .int 21])) p2 = some (.tup [.int 19, .int 21]) := upd_same
    generalize upd H1 p2 (.tup [.int 19, .int 21]) = H2 at s2 f2 ⊢
    have s12 := s1.trans s2
    refine ⟨p2, _, rfl, .inr (.inl (.inl f2)), rfl, rfl, _, rfl, ?_⟩
    rw [if_neg (by decide), if_neg (by decide)]
    refine ⟨small_line (by decide), fun L kL => ?_⟩
    have s3 := same_new (o := .lst [.int (n : Int), .int 1]) kL
    have f3 : (upd H2 L (.lst [.int (n : Int), .int 1])) L = some (.lst [.int (n : Int), .int 1]) := upd_same
    generalize upd H2 L (.lst [.int (n : Int), .int 1]) = H3 at s3 f3 ⊢
    rw [decide_eq_false (by decide)]
    refine .inr ⟨false, rfl, ?_⟩
    refine ⟨L, _, _, _, rfl, rfl, .inl (.inl f3), rfl, ?_⟩
    have P := ThV.merge (K := K) (H := H3) (n := n) (cs := cs) (.inl rfl) (.int (n : Int))
    have e : meV (.int (n : Int)) = true := decide_eq_true ⟨by omega, by omega⟩
    rw [e] at P
    exact q _ _ (s12.trans s3) P
  · rw [if_neg (by decide)]
    rw [if_neg (by decide), if_neg (by decide)]
    refine ⟨small_line (by decide), fun p2 k2 => ?_⟩
    have s2 := same_new (o := .tup [.int 19, .int 21]) k2
    have f2 : (upd H1 p2 (.tup [.int 19, .int 21])) p2 = some (.tup [.int 19, .int 21]) := upd_same
    generalize upd H1 p2 (.tup [.int 19, .int 21]) = H2 at s2 f2 ⊢
    have s12 := s1.trans s2
    refine ⟨p2, _, rfl, .inr (.inl (.inl f2)), rfl, rfl, _, rfl, ?_⟩
    rw [if_neg (by decide), if_neg (by decide)]
    refine ⟨small_line (by decide), fun L kL => ?_⟩
    have s3 := same_new (o := .lst [.int (n : Int), .int 1]) kL
    have f3 : (upd H2 L (.lst [.int (n : Int), .int 1])) L = some (.lst [.int (n : Int), .int 1]) := upd_same
    generalize upd H2 L (.lst [.int (n : Int), .int 1]) = H3 at s3 f3 ⊢
    rw [decide_eq_false (by decide)]
    refine .inr ⟨false, rfl, ?_⟩
    refine ⟨L, _, _, _, rfl, rfl, .inl (.inl f3), rfl, ?_⟩
    have P := ThV.merge (K := K) (H := H3) (n := n) (cs := cs) (.inr rfl) (.int (n : Int))
    have e : meV (.int (n : Int)) = true := decide_eq_true ⟨by omega, by omega⟩
    rw [e] at P
    exact q _ _ (s12.trans s3) P
  · rw [if_neg (by decide)]
    rw [if_neg (by decide), if_neg (by decide)]
    refine ⟨small_line (by decide), fun p2 k2 => ?_⟩
    have s2 := same_new (o := .tup [.int 19, .int 21]) k2
    have f2 : (upd H1 p2 (.tup [.int 19, .int 21])) p2 = some (.tup [.int 19, .int 21]) := upd_same
    generalize upd H1 p2 (.tup [.int 19, .int 21]) = H2 at s2 f2 ⊢
    have s12 := s1.trans s2
    refine ⟨p2, _, rfl, .inr (.inl (.inl f2)), rfl, rfl, _, rfl, ?_⟩
    rw [if_pos (by decide)]
    refine ⟨small_line (by decide), fun t kt => ⟨small_line (by decide), fun r kr => ?_⟩⟩
    have s3 := same_new (o := .tup [.int 1, .int 0]) kt
    have f3 : (upd H2 t (.tup [.int 1, .int 0])) t = some (.tup [.int 1, .int 0]) := upd_same
    generalize upd H2 t (.tup [.int 1, .int 0]) = H3 at s3 f3 kr ⊢
    have s4 := same_new (o := .lst [.ref t]) kr
    have wa := one_web (K := K) (n := 2) (by decide) (by decide) (s4 _ _ f3) upd_same
    by_cases z : cs.length = 60
    · have g : gDue 19 cs = .web (.web none) := by unfold gDue; rw [if_neg (by decide), if_pos ⟨rfl, z⟩]
      rw [g] at q
      exact q _ _ (s12.trans (s3.trans s4)) (.full wa (by show 60 < cs.length + 1; omega))
    · have g : gDue 19 cs = .good := by unfold gDue; rw [if_neg (by decide), if_neg (fun y => z y.2), if_neg (fun y => absurd y.1 (by decide))]
      rw [g] at q
      exact q _ _ (s12.trans (s3.trans s4)) (.two wa (by show cs.length + 1 ≤ 60; omega))
  · rw [if_neg (by decide)]
    rw [if_neg (by decide), if_neg (by decide)]
    refine ⟨small_line (by decide), fun p2 k2 => ?_⟩
    have s2 := same_new (o := .tup [.int 19, .int 21]) k2
    have f2 : (upd H1 p2 (.tup [.int 19, .int 21])) p2 = some (.tup [.int 19, .int 21]) := upd_same
    generalize upd H1 p2 (.tup [.int 19, .int 21]) = H2 at s2 f2 ⊢
    have s12 := s1.trans s2
    refine ⟨p2, _, rfl, .inr (.inl (.inl f2)), rfl, rfl, _, rfl, ?_⟩
    rw [if_neg (by decide), if_neg (by decide)]
    refine ⟨small_line (by decide), fun L kL => ?_⟩
    have s3 := same_new (o := .lst [.int (n : Int), .int 1]) kL
    have f3 : (upd H2 L (.lst [.int (n : Int), .int 1])) L = some (.lst [.int (n : Int), .int 1]) := upd_same
    generalize upd H2 L (.lst [.int (n : Int), .int 1]) = H3 at s3 f3 ⊢
    rw [decide_eq_true (by decide)]
    refine .inr ⟨true, rfl, ?_⟩
    refine ⟨L, _, _, _, rfl, rfl, .inl (.inl f3), rfl, ?_⟩
    have P := ThV.none (K := K) (H := H3) (n := n) (cs := cs) (.int 1)
    have e : beV n (.int 1) = true := decide_eq_true ⟨by decide, by omega⟩
    rw [e] at P
    exact q _ _ (s12.trans s3) P
  · rw [if_neg (by decide)]
    rw [if_neg (by decide), if_neg (by decide)]
    refine ⟨small_line (by decide), fun p2 k2 => ?_⟩
    have s2 := same_new (o := .tup [.int 19, .int 21]) k2
    have f2 : (upd H1 p2 (.tup [.int 19, .int 21])) p2 = some (.tup [.int 19, .int 21]) := upd_same
    generalize upd H1 p2 (.tup [.int 19, .int 21]) = H2 at s2 f2 ⊢
    have s12 := s1.trans s2
    refine ⟨p2, _, rfl, .inr (.inl (.inl f2)), rfl, rfl, _, rfl, ?_⟩
    rw [if_pos (by decide)]
    refine ⟨small_line (by decide), fun t kt => ⟨small_line (by decide), fun r kr => ?_⟩⟩
    have s3 := same_new (o := .tup [.int 1, .int 0]) kt
    have f3 : (upd H2 t (.tup [.int 1, .int 0])) t = some (.tup [.int 1, .int 0]) := upd_same
    generalize upd H2 t (.tup [.int 1, .int 0]) = H3 at s3 f3 kr ⊢
    have s4 := same_new (o := .lst [.ref t]) kr
    exact q _ _ (s12.trans (s3.trans s4)) (.ten (d := .good) (web_good (one_web (by decide) (by decide) (s4 _ _ f3) upd_same)))
end Sw

set_option Elab.async false
set_option linter.all false
set_option maxRecDepth 100000
set_option maxHeartbeats 4000000
namespace Sw
open PySem PySem.Spec PyProof.Rows L2
local macro_rules | `(tactic| walk_at "ev") => `(tactic| simp only [tSeq, tCalW, quiet, tRzA, tRzO, tTryT, tTryK, tJoin, tJs, tBM, tBits, kStrI, kIntS, kLenS, mSplit, mPart, mIndex, tAsg, tRet, tRetN, tOp, tUn, tVar, tC, tNil, tCons, tCB, tDrop, tNext, tCont, tBreak, tIfS, tIf, tTest, tChain, tChain3, tB, tTup, tLst, tAnd, tOr, tNot, tAndV, tOrV, tNotV, tPart, tNoPart, tSl, tCal, tAug, ipI, rI0, rI, rU, rEq, rNe, kMin, kMax, gName, gCons, gNil, L2.start, wipe, List.map_cons, List.map_nil, List.length_cons, List.length_nil, List.cons_append, List.nil_append, List.append_nil, Nat.reduceAdd, Nat.reduceSub, List.replicate_succ, List.replicate_zero, List.getElem?_cons_zero, List.getElem?_cons_succ, List.set_cons_succ, List.set_cons_zero, Option.some.injEq, exists_eq_left', exists_eq_left, V.int.injEq, V.bl.injEq, V.str.injEq, V.ref.injEq, List.cons.injEq, exists_and_left, and_assoc, and_true, true_and, scal_ii, scal_ss, scal_nn, scal_bb, scal_ni, scal_in, decide_eq_true_eq, Bool.not_true, Bool.not_false, Bool.not_eq_true', decide_eq_false_iff_not, ite_not, reduceCtorEq, if_true, if_false, Bool.false_eq_true, ne_eq, not_true_eq_false, not_false_eq_true, Int.reduceLT, Int.reduceLE, Int.reduceNeg])
local macro_rules | `(tactic| walk_at "cm") => `(tactic| first | exact Or.inr ⟨by decide, by decide⟩ | exact Or.inl ⟨by decide, by decide⟩ | exact Or.inl ⟨by omega, by omega⟩ | exact Or.inr ⟨by omega, by omega⟩)
variable {K : PySem.W.Frag}
/-! ### a bad thing -/
def bt_row (K : PySem.W.Frag) : TS := (tSeq (tAsg (tSl (rSlL K) (tVar 4) (tPart (tC (.int 1))) (tNoPart)) (gName 5)) (tSeq (tAsg (tLst (tCons (tOp rCat (tVar 4) (tLst (tCons (tC (.int 1)) (tNil)))) (tCons (tVar 5) (tCons (tThen (tVar 4) (kTup K)) (tCons (tC .non) (tCons (tC (.int 5)) (tCons (tOp rCat (tVar 5) (tLst (tCons (tC (.bl true)) (tNil)))) (tCons (tOp rCat (tVar 5) (tLst (tCons (tC .non) (tNil)))) (tCons (tOp rCat (tVar 5) (tLst (tCons (tC (.str "1")) (tNil)))) (tNil)))))))))) (gName 6)) (tRet (tTup (tCons (tOp (rIxL K) (tOp rCat (tVar 6) (tLst (tCons (tDNewK) (tCons (tLst (tNil)) (tNil))))) (tOp oMod (tVar 3) (tC (.int 10)))) (tCons (tC (.str "row")) (tCons (tC .non) (tNil))))))))
def bt_place (K : PySem.W.Frag) : TS := (tRet (tTup (tCons (tOp (rIxL K) (tLst (tCons (tCB (kLen K) (tCons (tVar 2) (tNil))) (tCons (tUn oNeg (tC (.int 1))) (tCons (tC .non) (tCons (tC (.bl true)) (tCons (tC (.str "0")) (tCons (tLst (tCons (tC (.int 0)) (tNil))) (tCons (tOp oAdd (tCB (kLen K) (tCons (tVar 2) (tNil))) (tVar 3)) (tCons (tC (.bl false)) (tNil)))))))))) (tOp oMod (tVar 3) (tC (.int 8)))) (tCons (tC (.str "place")) (tCons (tC .non) (tNil))))))
def bt_order (K : PySem.W.Frag) : TS := (tSeq (tAsg (tLstRg (tRg1 (tVar 1))) (gName 7)) (tSeq (tAsg (tSl (rSlL K) (tVar 7) (tPart (tC (.int 1))) (tNoPart)) (gName 5)) (tSeq (tAsg (tLst (tCons (tOp rCat (tVar 7) (tLst (tCons (tC (.int 0)) (tNil)))) (tCons (tVar 5) (tCons (tThen (tVar 7) (kTup K)) (tCons (tC .non) (tCons (tC (.int 5)) (tCons (tOp rCat (tVar 5) (tLst (tCons (tVar 1) (tNil)))) (tCons (tOp rCat (tVar 5) (tLst (tCons (tUn oNeg (tC (.int 1))) (tNil)))) (tNil))))))))) (gName 6)) (tSeq (tAsg (tOp rCat (tVar 6) (tLst (tCons (tOp rCat (tVar 5) (tLst (tCons (tC (.bl true)) (tNil)))) (tCons (tOp rCat (tVar 5) (tLst (tCons (tC .non) (tNil)))) (tCons (tOp rRep (tOp rRep (tLst (tCons (tC (.int 0)) (tNil))) (tVar 1)) (tCB kInt1 (tCons (tOp oGt (tVar 1) (tC (.int 1))) (tNil)))) (tCons (tLst (tNil)) (tCons (tDNewK) (tNil)))))))) (gName 6)) (tRet (tTup (tCons (tOp (rIxL K) (tVar 6) (tOp oMod (tVar 3) (tC (.int 12)))) (tCons (tC (.str "order")) (tCons (tC .non) (tNil))))))))))
def bt_diff (K : PySem.W.Frag) : TS := (tSeq (tAsg (tCal (sp_lbadweb K) (tCons (tVar 1) (tCons (tVar 2) (tCons (tVar 3) (tNil))))) (gTup K 2 (gCons (gName 8) (gCons (gName 9) (gNil))))) (tRet (tTup (tCons (tVar 8) (tCons (tC (.str "web")) (tCons (tVar 9) (tNil)))))))
def bt_bes (K : PySem.W.Frag) : TS := (tSeq (tAsg (tCal (sp_lbadweb K) (tCons (tOp (rIxL K) (tLst (tCons (tC (.int 2)) (tCons (tC (.int 10)) (tNil)))) (tCB kInt1 (tCons (tOp rEq (tVar 0) (tC (.int 21))) (tNil)))) (tCons (tLst (tCons (tTup (tCons (tC (.int 1)) (tCons (tC (.int 0)) (tNil)))) (tNil))) (tCons (tVar 3) (tNil))))) (gTup K 2 (gCons (gName 8) (gCons (gName 9) (gNil))))) (tRet (tTup (tCons (tVar 8) (tCons (tC (.str "web")) (tCons (tVar 9) (tNil)))))))
def bt_rest (K : PySem.W.Frag) : TS := tSeq (tIfS (tAnd (tTest (tOp rEq (tVar 0) (tC (.int 20)))) (tTest (tOp rEq (tOp oMod (tVar 3) (tC (.int 3))) (tC (.int 0))))) (tRet (tTup (tCons (tC (.int 10)) (tCons (tC (.str "lines")) (tCons (tC .non) (tNil)))))) (tNext)) (tRet (tTup (tCons (tIf (tAnd (tTest (tOp (rIn K false) (tVar 0) (tTup (tCons (tC (.int 17)) (tCons (tC (.int 18)) (tNil)))))) (tTest (tOp rEq (tOp oMod (tVar 3) (tC (.int 12))) (tC (.int 0))))) (tC (.int 9)) (tCal (sp_lbadlines K) (tCons (tVar 3) (tNil)))) (tCons (tC (.str "lines")) (tCons (tC .non) (tNil))))))
theorem bt_eq (K : PySem.W.Frag) : r_lbadthing K = tSeq (tAsg (tLc (iRng1 (tCons (tVar 1) (tNil))) (gName 10) (tYes) (tOp oSub (tOp oMul (tC (.int 3)) (tVar 10)) (tVar 3)) [10]) (gName 4)) (tSeq (tIfS (tTest (tOp (rIn K false) (tVar 0) (tTup (tCons (tC (.int 9)) (tCons (tC (.int 10)) (tCons (tC (.int 14)) (tNil))))))) (bt_row K) (tNext)) (tSeq (tIfS (tTest (tOp rEq (tVar 0) (tC (.int 11)))) (bt_place K) (tNext)) (tSeq (tIfS (tTest (tOp rEq (tVar 0) (tC (.int 12)))) (bt_order K) (tNext)) (tSeq (tIfS (tTest (tOp rEq (tVar 0) (tC (.int 13)))) (bt_diff K) (tNext)) (tSeq (tIfS (tTest (tOp (rIn K false) (tVar 0) (tTup (tCons (tC (.int 19)) (tCons (tC (.int 21)) (tNil)))))) (bt_bes K) (tNext)) (bt_rest K)))))) := rfl
theorem rowV_false {H : Hp} {n : Nat} {l : Addr} {xs : List V} (h : H l = some (.lst xs)) (few : xs.length ≤ 1000) (each : ∀ x ∈ xs, ∃ T, TyB K H x T) (no : xs.length ≠ n ∨ xs.all isI = false) : RowV K H n (.ref l) false := by
  have R := RowV.list (K := K) (n := n) (.inl (.inl h)) few each
  have e : (decide (xs.length = n) && xs.all isI) = false := by
    rcases no with h | h
    · rw [decide_eq_false h]; rfl
    · rw [h, Bool.and_false]
  rw [e] at R
  exact R
theorem tys_vis {H : Hp} {r : Row} {xs : List V} (h : ∀ x ∈ xs, ∃ T, TyB K H x T) : ∀ x ∈ vis r ++ xs, ∃ T, TyB K H x T := fun x hx => by
  rcases List.mem_append.mp hx with h1 | h1
  · unfold vis at h1
    obtain ⟨i, _, rfl⟩ := List.mem_map.mp h1
    exact ⟨_, .int i⟩
  · exact h x h1
theorem tys_one {H : Hp} {y : V} {T : String} (h : TyB K H y T) : ∀ x ∈ [y], ∃ T, TyB K H x T := fun x hx => by
  rw [List.mem_singleton.mp hx]
  exact ⟨T, h⟩
theorem row_odd {H : Hp} {n : Nat} {gr : Row} (lg : gr.length = n) (n1 : 1 ≤ n) (n10 : n ≤ 10) {r0 ls u r5 r6 r7 d8 e9 : Addr} (h0 : H r0 = some (.lst (vis gr ++ [.int 1]))) (h1 : H ls = some (.lst (vis (gr.drop 1)))) (h2 : H u = some (.tup (vis gr))) (h5 : H r5 = some (.lst (vis (gr.drop 1) ++ [.bl true]))) (h6 : H r6 = some (.lst (vis (gr.drop 1) ++ [.non]))) (h7 : H r7 = some (.lst (vis (gr.drop 1) ++ [.str "1"]))) (h8 : H d8 = some (.dK [])) (h9 : H e9 = some (.lst [])) {k : Nat} (hk : k < 10) :
    ∃ v, ([.ref r0, .ref ls, .ref u, .non, .int 5, .ref r5, .ref r6, .ref r7, .ref d8, .ref e9] : List V)[k]? = some v ∧ RowV K H n v false := by
  have l1 : (vis gr ++ [V.int 1]).length = n + 1 := by rw [List.length_append, ints_len, lg]; rfl
  have l2 : (vis (gr.drop 1)).length = n - 1 := by rw [ints_len, List.length_drop, lg]
  have l3 : ∀ y : V, (vis (gr.drop 1) ++ [y]).length = n - 1 + 1 := fun y => by rw [List.length_append, l2]; rfl
  have al : ∀ y : V, isI y = false → (vis (gr.drop 1) ++ [y]).all isI = false := fun y hy => by rw [List.all_append, List.all_cons, hy]; simp
  match k, hk with
  | 0, _ => exact ⟨_, rfl, rowV_false h0 (by omega) (tys_vis (tys_one (.int 1))) (.inl (by omega))⟩
  | 1, _ => exact ⟨_, rfl, rowV_false h1 (by omega) (by have := tys_vis (K := K) (H := H) (r := gr.drop 1) (xs := []) (fun x hx => absurd hx List.not_mem_nil); rw [List.append_nil] at this; exact this) (.inl (by omega))⟩
  | 2, _ => exact ⟨_, rfl, .kind (.tup (.inl (.inl h2))) (by decide)⟩
  | 3, _ => exact ⟨_, rfl, .kind .non (by decide)⟩
  | 4, _ => exact ⟨_, rfl, .kind (.int 5) (by decide)⟩
  | 5, _ => exact ⟨_, rfl, rowV_false h5 (by rw [l3]; omega) (tys_vis (tys_one (.bl true))) (.inr (al _ rfl))⟩
  | 6, _ => exact ⟨_, rfl, rowV_false h6 (by rw [l3]; omega) (tys_vis (tys_one .non)) (.inr (al _ rfl))⟩
  | 7, _ => exact ⟨_, rfl, rowV_false h7 (by rw [l3]; omega) (tys_vis (tys_one (.str "1"))) (.inr (al _ rfl))⟩
  | 8, _ => exact ⟨_, rfl, .kind (.dK h8) (by decide)⟩
  | 9, _ => exact ⟨_, rfl, rowV_false h9 (by decide) (fun x hx => absurd hx List.not_mem_nil) (.inl (by show ¬ 0 = n; omega))⟩
theorem bt_row_ok {H : Hp} {way n : Nat} {a g : Addr} {m : Int} {gr : Row} {cs : List Cmp} {D : Ends} {Q : VK} (hrt : D.rt = Q) (hw : way = 9 ∨ way = 10 ∨ way = 14) (m0 : 0 ≤ m) (n1 : 1 ≤ n) (n10 : n ≤ 10) (hg : H g = some (.lst (vis gr))) (lg : gr.length = n)
    (q : ∀ H' p v due o, Same H H' → H p = none → H' p = some (.tup [v, .str (dueU due), onV o]) → ThV K H' n cs way v due → due ≠ .good → PlD due o → Q (.ref p) H') :
    bt_row K D [some (.int (way : Int)), some (.int (n : Int)), some (.ref a), some (.int m), some (.ref g), none, none, none, none, none, none] H := by
  unfold bt_row tDNewK tThen
  walk_at "ev"
  refine ⟨g, _, rfl, .inl (.inl hg), fun ls k_ls => ?_⟩
  have eD : cutV (vis gr) (some 1) none = vis (gr.drop 1) := by
    rw [show (some (1 : Int)) = some ((1 : Nat) : Int) from rfl, cutV_from]
    unfold vis
    rw [List.map_drop]
  rw [eD]
  have t_0 := same_new (o := (.lst (vis (gr.drop 1)) : HO)) k_ls
  have f_ls : (upd H ls (.lst (vis (gr.drop 1)))) ls = some (.lst (vis (gr.drop 1))) := upd_same
  generalize upd H ls (.lst (vis (gr.drop 1))) = G_0 at t_0 f_ls ⊢
  have hg := t_0 _ _ hg
  have s_0 := t_0
  have la : (vis gr).length = n := by rw [ints_len, lg]
  have lb : (vis (gr.drop 1)).length = n - 1 := by rw [ints_len, List.length_drop, lg]
  refine ⟨small_line (by decide), fun l0 k_l0 => ?_⟩
  have t_1 := same_new (o := (.lst [.int 1] : HO)) k_l0
  have f_l0 : (upd G_0 l0 (.lst [.int 1])) l0 = some (.lst [.int 1]) := upd_same
  generalize upd G_0 l0 (.lst [.int 1]) = G_1 at t_1 f_l0 ⊢
  have hg := t_1 _ _ hg
  have f_ls := t_1 _ _ f_ls
  have s_1 := s_0.trans t_1
  refine ⟨g, l0, _, _, rfl, rfl, hg, f_l0, small_line (by show _ + 1 ≤ _; omega), fun r0 k_r0 => ?_⟩
  have t_2 := same_new (o := (.lst (vis gr ++ [.int 1]) : HO)) k_r0
  have f_r0 : (upd G_1 r0 (.lst (vis gr ++ [.int 1]))) r0 = some (.lst (vis gr ++ [.int 1])) := upd_same
  generalize upd G_1 r0 (.lst (vis gr ++ [.int 1])) = G_2 at t_2 f_r0 ⊢
  have hg := t_2 _ _ hg
  have f_ls := t_2 _ _ f_ls
  have f_l0 := t_2 _ _ f_l0
  have s_2 := s_1.trans t_2
  refine .inl ⟨g, _, rfl, .inl (.inl hg), fun u k_u => ?_⟩
  have t_3 := same_new (o := (.tup (vis gr) : HO)) k_u
  have f_u : (upd G_2 u (.tup (vis gr))) u = some (.tup (vis gr)) := upd_same
  generalize upd G_2 u (.tup (vis gr)) = G_3 at t_3 f_u ⊢
  have hg := t_3 _ _ hg
  have f_ls := t_3 _ _ f_ls
  have f_l0 := t_3 _ _ f_l0
  have f_r0 := t_3 _ _ f_r0
  have s_3 := s_2.trans t_3
  refine ⟨small_line (by decide), fun l5 k_l5 => ?_⟩
  have t_4 := same_new (o := (.lst [.bl true] : HO)) k_l5
  have f_l5 : (upd G_3 l5 (.lst [.bl true])) l5 = some (.lst [.bl true]) := upd_same
  generalize upd G_3 l5 (.lst [.bl true]) = G_4 at t_4 f_l5 ⊢
  have hg := t_4 _ _ hg
  have f_ls := t_4 _ _ f_ls
  have f_l0 := t_4 _ _ f_l0
  have f_r0 := t_4 _ _ f_r0
  have f_u := t_4 _ _ f_u
  have s_4 := s_3.trans t_4
  refine ⟨ls, l5, _, _, rfl, rfl, f_ls, f_l5, small_line (by show _ + 1 ≤ _; omega), fun r5 k_r5 => ?_⟩
  have t_5 := same_new (o := (.lst (vis (gr.drop 1) ++ [.bl true]) : HO)) k_r5
  have f_r5 : (upd G_4 r5 (.lst (vis (gr.drop 1) ++ [.bl true]))) r5 = some (.lst (vis (gr.drop 1) ++ [.bl true])) := upd_same
  generalize upd G_4 r5 (.lst (vis (gr.drop 1) ++ [.bl true])) = G_5 at t_5 f_r5 ⊢
  have hg := t_5 _ _ hg
  have f_ls := t_5 _ _ f_ls
  have f_l0 := t_5 _ _ f_l0
  have f_r0 := t_5 _ _ f_r0
  have f_u := t_5 _ _ f_u
  have f_l5 := t_5 _ _ f_l5
  have s_5 := s_4.trans t_5
  refine ⟨small_line (by decide), fun l6 k_l6 => ?_⟩
  have t_6 := same_new (o := (.lst [.non] : HO)) k_l6
  have f_l6 : (upd G_5 l6 (.lst [.non])) l6 = some (.lst [.non]) := upd_same
  generalize upd G_5 l6 (.lst [.non]) = G_6 at t_6 f_l6 ⊢
  have hg := t_6 _ _ hg
  have f_ls := t_6 _ _ f_ls
  have f_l0 := t_6 _ _ f_l0
  have f_r0 := t_6 _ _ f_r0
  have f_u := t_6 _ _ f_u
  have f_l5 := t_6 _ _ f_l5
  have f_r5 := t_6 _ _ f_r5
  have s_6 := s_5.trans t_6
  refine ⟨ls, l6, _, _, rfl, rfl, f_ls, f_l6, small_line (by show _ + 1 ≤ _; omega), fun r6 k_r6 => ?_⟩
  have t_7 := same_new (o := (.lst (vis (gr.drop 1) ++ [.non]) : HO)) k_r6
  have f_r6 : (upd G_6 r6 (.lst (vis (gr.drop 1) ++ [.non]))) r6 = some (.lst (vis (gr.drop 1) ++ [.non])) := upd_same
  generalize upd G_6 r6 (.lst (vis (gr.drop 1) ++ [.non])) = G_7 at t_7 f_r6 ⊢
  have hg := t_7 _ _ hg
  have f_ls := t_7 _ _ f_ls
  have f_l0 := t_7 _ _ f_l0
  have f_r0 := t_7 _ _ f_r0
  have f_u := t_7 _ _ f_u
  have f_l5 := t_7 _ _ f_l5
  have f_r5 := t_7 _ _ f_r5
  have f_l6 := t_7 _ _ f_l6
  have s_7 := s_6.trans t_7
  refine ⟨small_line (by decide), fun l7 k_l7 => ?_⟩
  have t_8 := same_new (o := (.lst [.str "1"] : HO)) k_l7
  have f_l7 : (upd G_7 l7 (.lst [.str "1"])) l7 = some (.lst [.str "1"]) := upd_same
  generalize upd G_7 l7 (.lst [.str "1"]) = G_8 at t_8 f_l7 ⊢
  have hg := t_8 _ _ hg
  have f_ls := t_8 _ _ f_ls
  have f_l0 := t_8 _ _ f_l0
  have f_r0 := t_8 _ _ f_r0
  have f_u := t_8 _ _ f_u
  have f_l5 := t_8 _ _ f_l5
  have f_r5 := t_8 _ _ f_r5
  have f_l6 := t_8 _ _ f_l6
  have f_r6 := t_8 _ _ f_r6
  have s_8 := s_7.trans t_8
  refine ⟨ls, l7, _, _, rfl, rfl, f_ls, f_l7, small_line (by show _ + 1 ≤ _; omega), fun r7 k_r7 => ?_⟩
  have t_9 := same_new (o := (.lst (vis (gr.drop 1) ++ [.str "1"]) : HO)) k_r7
  have f_r7 : (upd G_8 r7 (.lst (vis (gr.drop 1) ++ [.str "1"]))) r7 = some (.lst (vis (gr.drop 1) ++ [.str "1"])) := upd_same
  generalize upd G_8 r7 (.lst (vis (gr.drop 1) ++ [.str "1"])) = G_9 at t_9 f_r7 ⊢
  have hg := t_9 _ _ hg
  have f_ls := t_9 _ _ f_ls
  have f_l0 := t_9 _ _ f_l0
  have f_r0 := t_9 _ _ f_r0
  have f_u := t_9 _ _ f_u
  have f_l5 := t_9 _ _ f_l5
  have f_r5 := t_9 _ _ f_r5
  have f_l6 := t_9 _ _ f_l6
  have f_r6 := t_9 _ _ f_r6
  have f_l7 := t_9 _ _ f_l7
  have s_9 := s_8.trans t_9
  refine ⟨small_line (by decide), fun SM k_SM => ?_⟩
  have t_10 := same_new (o := (.lst [.ref r0, .ref ls, .ref u, .non, .int 5, .ref r5, .ref r6, .ref r7] : HO)) k_SM
  have f_SM : (upd G_9 SM (.lst [.ref r0, .ref ls, .ref u, .non, .int 5, .ref r5, .ref r6, .ref r7])) SM = some (.lst [.ref r0, .ref ls, .ref u, .non, .int 5, .ref r5, .ref r6, .ref r7]) := upd_same
  generalize upd G_9 SM (.lst [.ref r0, .ref ls, .ref u, .non, .int 5, .ref r5, .ref r6, .ref r7]) = G_10 at t_10 f_SM ⊢
  have hg := t_10 _ _ hg
  have f_ls := t_10 _ _ f_ls
  have f_l0 := t_10 _ _ f_l0
  have f_r0 := t_10 _ _ f_r0
  have f_u := t_10 _ _ f_u
  have f_l5 := t_10 _ _ f_l5
  have f_r5 := t_10 _ _ f_r5
  have f_l6 := t_10 _ _ f_l6
  have f_r6 := t_10 _ _ f_r6
  have f_l7 := t_10 _ _ f_l7
  have f_r7 := t_10 _ _ f_r7
  have s_10 := s_9.trans t_10
  intro d8 k_d8
  have t_11 := same_new (o := (.dK [] : HO)) k_d8
  have f_d8 : (upd G_10 d8 (.dK [])) d8 = some (.dK []) := upd_same
  generalize upd G_10 d8 (.dK []) = G_11 at t_11 f_d8 ⊢
  have hg := t_11 _ _ hg
  have f_ls := t_11 _ _ f_ls
  have f_l0 := t_11 _ _ f_l0
  have f_r0 := t_11 _ _ f_r0
  have f_u := t_11 _ _ f_u
  have f_l5 := t_11 _ _ f_l5
  have f_r5 := t_11 _ _ f_r5
  have f_l6 := t_11 _ _ f_l6
  have f_r6 := t_11 _ _ f_r6
  have f_l7 := t_11 _ _ f_l7
  have f_r7 := t_11 _ _ f_r7
  have f_SM := t_11 _ _ f_SM
  have s_11 := s_10.trans t_11
  refine ⟨small_line (by decide), fun e9 k_e9 => ?_⟩
  have t_12 := same_new (o := (.lst [] : HO)) k_e9
  have f_e9 : (upd G_11 e9 (.lst [])) e9 = some (.lst []) := upd_same
  generalize upd G_11 e9 (.lst []) = G_12 at t_12 f_e9 ⊢
  have hg := t_12 _ _ hg
  have f_ls := t_12 _ _ f_ls
  have f_l0 := t_12 _ _ f_l0
  have f_r0 := t_12 _ _ f_r0
  have f_u := t_12 _ _ f_u
  have f_l5 := t_12 _ _ f_l5
  have f_r5 := t_12 _ _ f_r5
  have f_l6 := t_12 _ _ f_l6
  have f_r6 := t_12 _ _ f_r6
  have f_l7 := t_12 _ _ f_l7
  have f_r7 := t_12 _ _ f_r7
  have f_SM := t_12 _ _ f_SM
  have f_d8 := t_12 _ _ f_d8
  have s_12 := s_11.trans t_12
  refine ⟨small_line (by decide), fun X2 k_X2 => ?_⟩
  have t_13 := same_new (o := (.lst [.ref d8, .ref e9] : HO)) k_X2
  have f_X2 : (upd G_12 X2 (.lst [.ref d8, .ref e9])) X2 = some (.lst [.ref d8, .ref e9]) := upd_same
  generalize upd G_12 X2 (.lst [.ref d8, .ref e9]) = G_13 at t_13 f_X2 ⊢
  have hg := t_13 _ _ hg
  have f_ls := t_13 _ _ f_ls
  have f_l0 := t_13 _ _ f_l0
  have f_r0 := t_13 _ _ f_r0
  have f_u := t_13 _ _ f_u
  have f_l5 := t_13 _ _ f_l5
  have f_r5 := t_13 _ _ f_r5
  have f_l6 := t_13 _ _ f_l6
  have f_r6 := t_13 _ _ f_r6
  have f_l7 := t_13 _ _ f_l7
  have f_r7 := t_13 _ _ f_r7
  have f_SM := t_13 _ _ f_SM
  have f_d8 := t_13 _ _ f_d8
  have f_e9 := t_13 _ _ f_e9
  have s_13 := s_12.trans t_13
  refine ⟨SM, X2, _, _, rfl, rfl, f_SM, f_X2, small_line (by show 8 + 2 ≤ 1000000; decide), fun Y k_Y => ?_⟩
  rw [show ([.ref r0, .ref ls, .ref u, .non, .int 5, .ref r5, .ref r6, .ref r7] : List V) ++ [.ref d8, .ref e9] = [.ref r0, .ref ls, .ref u, .non, .int 5, .ref r5, .ref r6, .ref r7, .ref d8, .ref e9] from rfl]
  have t_14 := same_new (o := (.lst [.ref r0, .ref ls, .ref u, .non, .int 5, .ref r5, .ref r6, .ref r7, .ref d8, .ref e9] : HO)) k_Y
  have f_Y : (upd G_13 Y (.lst [.ref r0, .ref ls, .ref u, .non, .int 5, .ref r5, .ref r6, .ref r7, .ref d8, .ref e9])) Y = some (.lst [.ref r0, .ref ls, .ref u, .non, .int 5, .ref r5, .ref r6, .ref r7, .ref d8, .ref e9]) := upd_same
  generalize upd G_13 Y (.lst [.ref r0, .ref ls, .ref u, .non, .int 5, .ref r5, .ref r6, .ref r7, .ref d8, .ref e9]) = G_14 at t_14 f_Y ⊢
  have hg := t_14 _ _ hg
  have f_ls := t_14 _ _ f_ls
  have f_l0 := t_14 _ _ f_l0
  have f_r0 := t_14 _ _ f_r0
  have f_u := t_14 _ _ f_u
  have f_l5 := t_14 _ _ f_l5
  have f_r5 := t_14 _ _ f_r5
  have f_l6 := t_14 _ _ f_l6
  have f_r6 := t_14 _ _ f_r6
  have f_l7 := t_14 _ _ f_l7
  have f_r7 := t_14 _ _ f_r7
  have f_SM := t_14 _ _ f_SM
  have f_d8 := t_14 _ _ f_d8
  have f_e9 := t_14 _ _ f_e9
  have f_X2 := t_14 _ _ f_X2
  have s_14 := s_13.trans t_14
  obtain ⟨j, ej, jl⟩ : ∃ j : Nat, m % 10 = (j : Int) ∧ j < 10 := ⟨(m % 10).toNat, by omega, by omega⟩
  rw [ej]
  obtain ⟨v, gv, hv⟩ := row_odd (K := K) lg n1 n10 f_r0 f_ls f_u f_r5 f_r6 f_r7 f_d8 f_e9 jl
  refine ⟨Y, _, _, v, rfl, rfl, .inl (.inl f_Y), atI_nat gv, small_line (by decide), fun p np => ?_⟩
  rw [hrt]
  have sp := same_new (o := .tup [v, .str "row", .non]) np
  exact q _ p v .row none (s_14.trans sp) (s_14.free np) upd_same (.row (b := false) hw (rowV_same sp hv)) (fun z => nomatch z) (.inr ⟨rfl, fun o' z => nomatch z⟩)
theorem bt_place_ok {H : Hp} {way n : Nat} {a g : Addr} {m : Int} {cs : List Cmp} {D : Ends} {Q : VK} (hrt : D.rt = Q) (hw : way = 11) (m0 : 0 ≤ m) (wh : WebH K H a n cs)
    (q : ∀ H' p v due o, Same H H' → H p = none → H' p = some (.tup [v, .str (dueU due), onV o]) → ThV K H' n cs way v due → due ≠ .good → PlD due o → Q (.ref p) H') :
    bt_place K D [some (.int (way : Int)), some (.int (n : Int)), some (.ref a), some (.int m), some (.ref g), none, none, none, none, none, none] H := by
  obtain ⟨ps, ha, hps, ok, n1, n10⟩ := id wh
  have lps := hps.length
  subst hw
  unfold bt_place
  walk_at "ev"
  refine ⟨a, _, rfl, .inl (.inl (.inl ha)), small_line (by decide), fun l5 k_l5 => ?_⟩
  rw [rfs_len, lps]
  have t_0 := same_new (o := (.lst [.int 0] : HO)) k_l5
  have f_l5 : (upd H l5 (.lst [.int 0])) l5 = some (.lst [.int 0]) := upd_same
  generalize upd H l5 (.lst [.int 0]) = G_0 at t_0 f_l5 ⊢
  refine ⟨a, _, rfl, .inl (.inl (.inl (t_0 _ _ ha))), _, rfl, ?_⟩
  rw [rfs_len, lps]
  refine ⟨small_line (by decide), fun Y k_Y => ?_⟩
  have t_1 := same_new (o := (.lst [.int (cs.length : Int), .int (-1), .non, .bl true, .str "0", .ref l5, .int ((cs.length : Int) + m), .bl false] : HO)) k_Y
  have f_Y : (upd G_0 Y (.lst [.int (cs.length : Int), .int (-1), .non, .bl true, .str "0", .ref l5, .int ((cs.length : Int) + m), .bl false])) Y = some (.lst [.int (cs.length : Int), .int (-1), .non, .bl true, .str "0", .ref l5, .int ((cs.length : Int) + m), .bl false]) := upd_same
  generalize upd G_0 Y (.lst [.int (cs.length : Int), .int (-1), .non, .bl true, .str "0", .ref l5, .int ((cs.length : Int) + m), .bl false]) = G_1 at t_1 f_Y ⊢
  have f5 := t_1 _ _ f_l5
  have s_1 := t_0.trans t_1
  obtain ⟨j, ej, jl⟩ : ∃ j : Nat, m % 8 = (j : Int) ∧ j < 8 := ⟨(m % 8).toNat, by omega, by omega⟩
  rw [ej]
  obtain ⟨v, T, gv, hT, no⟩ : ∃ v T, ([.int (cs.length : Int), .int (-1), .non, .bl true, .str "0", .ref l5, .int ((cs.length : Int) + m), .bl false] : List V)[j]? = some v ∧ TyB K G_1 v T ∧ plV cs.length v = false := by
    match j, jl with
    | 0, _ => exact ⟨_, _, rfl, .int _, decide_eq_false (by omega)⟩
    | 1, _ => exact ⟨_, _, rfl, .int _, decide_eq_false (p := (0 : Int) ≤ -1 ∧ (-1 : Int) < (cs.length : Int)) (by omega)⟩
    | 2, _ => exact ⟨_, _, rfl, .non, rfl⟩
    | 3, _ => exact ⟨_, _, rfl, .bl _, rfl⟩
    | 4, _ => exact ⟨_, _, rfl, .str _, rfl⟩
    | 5, _ => exact ⟨_, _, rfl, .lst (.inl (.inl f5)), rfl⟩
    | 6, _ => exact ⟨_, _, rfl, .int _, decide_eq_false (by omega)⟩
    | 7, _ => exact ⟨_, _, rfl, .bl _, rfl⟩
  refine ⟨Y, _, _, v, rfl, rfl, .inl (.inl f_Y), atI_nat gv, small_line (by decide), fun p np => ?_⟩
  rw [hrt]
  have sp := same_new (o := .tup [v, .str "place", .non]) np
  have P := ThV.place (K := K) (n := n) (cs := cs) (tyb_same sp hT)
  rw [no] at P
  exact q _ p v .place none (s_1.trans sp) (s_1.free np) upd_same P (fun z => nomatch z) (.inr ⟨rfl, fun o' z => nomatch z⟩)
theorem dueW_web (o : Option Nat) : dueW (.web o) = .web (.web o) := rfl
theorem bt_diff_ok {H : Hp} {way n : Nat} {a g : Addr} {m : Int} {cs : List Cmp} {D : Ends} {Q : VK} (hrt : D.rt = Q) (hw : way = 13) (m0 : 0 ≤ m) (wh : WebH K H a n cs)
    (q : ∀ H' p v due o, Same H H' → H p = none → H' p = some (.tup [v, .str (dueU due), onV o]) → ThV K H' n cs way v due → due ≠ .good → PlD due o → Q (.ref p) H') :
    bt_diff K D [some (.int (way : Int)), some (.int (n : Int)), some (.ref a), some (.int m), some (.ref g), none, none, none, none, none, none] H := by
  subst hw
  unfold bt_diff
  walk_at "ev"
  refine ⟨n, a, m, cs, rfl, m0, wh, fun H1 t v o s nt ht hv _ => ?_⟩
  refine g2_run (.inl (.inl ht)) ?_
  walk_at "ev"
  refine ⟨small_line (by decide), fun p np => ?_⟩
  rw [hrt]
  have sp := same_new (o := .tup [v, .str "web", onV o]) np
  exact q _ p v (.web (.web o)) o (s.trans sp) (s.free np) upd_same (.diff (d := .web o) (webV_same sp hv)) (fun z => nomatch z) (.inl rfl)
theorem bt_bes_ok {H : Hp} {way n : Nat} {a g : Addr} {m : Int} {cs : List Cmp} {D : Ends} {Q : VK} (hrt : D.rt = Q) (hw : way = 19 ∨ way = 21) (m0 : 0 ≤ m)
    (q : ∀ H' p v due o, Same H H' → H p = none → H' p = some (.tup [v, .str (dueU due), onV o]) → ThV K H' n cs way v due → due ≠ .good → PlD due o → Q (.ref p) H') :
    bt_bes K D [some (.int (way : Int)), some (.int (n : Int)), some (.ref a), some (.int m), some (.ref g), none, none, none, none, none, none] H := by
  unfold bt_bes
  walk_at "ev"
  refine ⟨small_line (by decide), fun L kL => ?_⟩
  have s1 := same_new (o := .lst [.int 2, .int 10]) kL
  have fL : (upd H L (.lst [.int 2, .int 10])) L = some (.lst [.int 2, .int 10]) := upd_same
  generalize upd H L (.lst [.int 2, .int 10]) = H1 at s1 fL ⊢
  have key : ∀ (nn : Nat) (W : V → Option Nat → Hp → Prop), 2 ≤ nn → nn ≤ 10 → True := fun _ _ _ _ => trivial
  rcases hw with rfl | rfl
  · rw [decide_eq_false (by decide)]
    refine .inr ⟨false, rfl, ?_⟩
    refine ⟨L, _, _, .int 2, rfl, rfl, .inl (.inl fL), rfl, small_line (by decide), fun t kt => ⟨small_line (by decide), fun r kr => ?_⟩⟩
    have s2 := same_new (o := .tup [.int 1, .int 0]) kt
    have ft : (upd H1 t (.tup [.int 1, .int 0])) t = some (.tup [.int 1, .int 0]) := upd_same
    generalize upd H1 t (.tup [.int 1, .int 0]) = H2 at s2 ft kr ⊢
    have s3 := same_new (o := .lst [.ref t]) kr
    have fr : (upd H2 r (.lst [.ref t])) r = some (.lst (Rfs [t])) := upd_same
    generalize upd H2 r (.lst [.ref t]) = H3 at s3 fr ⊢
    have wh : WebH K H3 r 2 [(1, 0)] := ⟨[t], fr, .cons (.inl (.inl (s3 _ _ ft))) .nil, ⟨by decide, fun c hc => by rw [List.mem_singleton.mp hc]; exact ⟨by decide, by decide, by decide⟩⟩, by decide, by decide⟩
    refine ⟨2, r, m, [(1, 0)], rfl, m0, wh, fun H4 t2 v o s4 nt ht hv _ => ?_⟩
    refine g2_run (.inl (.inl ht)) ?_
    walk_at "ev"
    refine ⟨small_line (by decide), fun p np => ?_⟩
    rw [hrt]
    have sp := same_new (o := .tup [v, .str "web", onV o]) np
    have sF := s1.trans (s2.trans (s3.trans s4))
    exact q _ p v (.web (.web o)) o (sF.trans sp) (sF.free np) upd_same (.bad2 (d := .web o) (webV_same sp hv) (fun z => nomatch z)) (fun z => nomatch z) (.inl rfl)
  · rw [decide_eq_true (by decide)]
    refine .inr ⟨true, rfl, ?_⟩
    refine ⟨L, _, _, .int 10, rfl, rfl, .inl (.inl fL), rfl, small_line (by decide), fun t kt => ⟨small_line (by decide), fun r kr => ?_⟩⟩
    have s2 := same_new (o := .tup [.int 1, .int 0]) kt
    have ft : (upd H1 t (.tup [.int 1, .int 0])) t = some (.tup [.int 1, .int 0]) := upd_same
    generalize upd H1 t (.tup [.int 1, .int 0]) = H2 at s2 ft kr ⊢
    have s3 := same_new (o := .lst [.ref t]) kr
    have fr : (upd H2 r (.lst [.ref t])) r = some (.lst (Rfs [t])) := upd_same
    generalize upd H2 r (.lst [.ref t]) = H3 at s3 fr ⊢
    have wh : WebH K H3 r 10 [(1, 0)] := ⟨[t], fr, .cons (.inl (.inl (s3 _ _ ft))) .nil, ⟨by decide, fun c hc => by rw [List.mem_singleton.mp hc]; exact ⟨by decide, by decide, by decide⟩⟩, by decide, by decide⟩
    refine ⟨10, r, m, [(1, 0)], rfl, m0, wh, fun H4 t2 v o s4 nt ht hv _ => ?_⟩
    refine g2_run (.inl (.inl ht)) ?_
    walk_at "ev"
    refine ⟨small_line (by decide), fun p np => ?_⟩
    rw [hrt]
    have sp := same_new (o := .tup [v, .str "web", onV o]) np
    have sF := s1.trans (s2.trans (s3.trans s4))
    exact q _ p v (.web (.web o)) o (sF.trans sp) (sF.free np) upd_same (.ten (d := .web o) (webV_same sp hv)) (fun z => nomatch z) (.inl rfl)
theorem beV_no {n : Nat} {v : V} (h : noV v = false) : beV n v = false := by
  cases v with
  | int i =>
    have e := of_decide_eq_false (show decide (1 ≤ i ∧ i ≤ 10) = false from h)
    exact decide_eq_false fun z => e ⟨z.1, by omega⟩
  | _ => rfl
theorem bt_rest_ok {H : Hp} {way n : Nat} {a g : Addr} {m : Int} {cs : List Cmp} {D : Ends} {Q : VK} (hrt : D.rt = Q) (hw : way = 15 ∨ way = 16 ∨ way = 17 ∨ way = 18 ∨ way = 20) (m0 : 0 ≤ m) (n1 : 1 ≤ n)
    (q : ∀ H' p v due o, Same H H' → H p = none → H' p = some (.tup [v, .str (dueU due), onV o]) → ThV K H' n cs way v due → due ≠ .good → PlD due o → Q (.ref p) H') :
    bt_rest K D [some (.int (way : Int)), some (.int (n : Int)), some (.ref a), some (.int m), some (.ref g), none, none, none, none, none, none] H := by
  unfold bt_rest
  walk_at "ev"
  rcases hw with rfl | rfl | rfl | rfl | rfl
  · rw [if_neg (by decide)]
    refine ⟨small_line (by decide), fun w kw => ?_⟩
    have s1 := same_new (o := .tup [.int 17, .int 18]) kw
    have fw : (upd H w (.tup [.int 17, .int 18])) w = some (.tup [.int 17, .int 18]) := upd_same
    generalize upd H w (.tup [.int 17, .int 18]) = H1 at s1 fw ⊢
    refine ⟨w, _, rfl, .inr (.inl (.inl fw)), rfl, rfl, _, rfl, ?_⟩
    rw [if_neg (by decide)]
    refine ⟨m, rfl, m0, fun H2 v T s2 ht no me => ⟨small_line (by decide), fun p np => ?_⟩⟩
    rw [hrt]
    have sp := same_new (o := .tup [v, .str "lines", .non]) np
    have sF := s1.trans s2
    have P := ThV.lines (K := K) (n := n) (cs := cs) (.inl rfl) (tyb_same sp ht)
    rw [no] at P
    exact q _ p v (.web .lines) none (sF.trans sp) (sF.free np) upd_same P (fun z => nomatch z) (.inr ⟨rfl, fun o' z => nomatch z⟩)
  · rw [if_neg (by decide)]
    refine ⟨small_line (by decide), fun w kw => ?_⟩
    have s1 := same_new (o := .tup [.int 17, .int 18]) kw
    have fw : (upd H w (.tup [.int 17, .int 18])) w = some (.tup [.int 17, .int 18]) := upd_same
    generalize upd H w (.tup [.int 17, .int 18]) = H1 at s1 fw ⊢
    refine ⟨w, _, rfl, .inr (.inl (.inl fw)), rfl, rfl, _, rfl, ?_⟩
    rw [if_neg (by decide)]
    refine ⟨m, rfl, m0, fun H2 v T s2 ht no me => ⟨small_line (by decide), fun p np => ?_⟩⟩
    rw [hrt]
    have sp := same_new (o := .tup [v, .str "lines", .non]) np
    have sF := s1.trans s2
    have P := ThV.lines (K := K) (n := n) (cs := cs) (.inr rfl) (tyb_same sp ht)
    rw [no] at P
    exact q _ p v (.web .lines) none (sF.trans sp) (sF.free np) upd_same P (fun z => nomatch z) (.inr ⟨rfl, fun o' z => nomatch z⟩)
  · rw [if_neg (by decide)]
    refine ⟨small_line (by decide), fun w kw => ?_⟩
    have s1 := same_new (o := .tup [.int 17, .int 18]) kw
    have fw : (upd H w (.tup [.int 17, .int 18])) w = some (.tup [.int 17, .int 18]) := upd_same
    generalize upd H w (.tup [.int 17, .int 18]) = H1 at s1 fw ⊢
    refine ⟨w, _, rfl, .inr (.inl (.inl fw)), rfl, rfl, _, rfl, ?_⟩
    rw [if_pos (by decide)]
    by_cases z : m % 12 = 0
    · rw [if_pos z]
      refine ⟨small_line (by decide), fun p np => ?_⟩
      rw [hrt]
      have sp := same_new (o := .tup [.int 9, .str "lines", .non]) np
      have P := ThV.merge (K := K) (H := upd H1 p (.tup [.int 9, .str "lines", .non])) (n := n) (cs := cs) (.inl rfl) (.int 9)
      rw [show meV (.int 9) = false from by decide] at P
      exact q _ p _ (.web .lines) none (s1.trans sp) (s1.free np) upd_same P (fun z => nomatch z) (.inr ⟨rfl, fun o' z => nomatch z⟩)
    · rw [if_neg z]
      refine ⟨m, rfl, m0, fun H2 v T s2 ht no me => ⟨small_line (by decide), fun p np => ?_⟩⟩
      rw [hrt]
      have sp := same_new (o := .tup [v, .str "lines", .non]) np
      have sF := s1.trans s2
      have P := ThV.merge (K := K) (n := n) (cs := cs) (.inl rfl) (tyb_same sp ht)
      rw [me z] at P
      exact q _ p v (.web .lines) none (sF.trans sp) (sF.free np) upd_same P (fun z => nomatch z) (.inr ⟨rfl, fun o' z => nomatch z⟩)
  · rw [if_neg (by decide)]
    refine ⟨small_line (by decide), fun w kw => ?_⟩
    have s1 := same_new (o := .tup [.int 17, .int 18]) kw
    have fw : (upd H w (.tup [.int 17, .int 18])) w = some (.tup [.int 17, .int 18]) := upd_same
    generalize upd H w (.tup [.int 17, .int 18]) = H1 at s1 fw ⊢
    refine ⟨w, _, rfl, .inr (.inl (.inl fw)), rfl, rfl, _, rfl, ?_⟩
    rw [if_pos (by decide)]
    by_cases z : m % 12 = 0
    · rw [if_pos z]
      refine ⟨small_line (by decide), fun p np => ?_⟩
      rw [hrt]
      have sp := same_new (o := .tup [.int 9, .str "lines", .non]) np
      have P := ThV.merge (K := K) (H := upd H1 p (.tup [.int 9, .str "lines", .non])) (n := n) (cs := cs) (.inr rfl) (.int 9)
      rw [show meV (.int 9) = false from by decide] at P
      exact q _ p _ (.web .lines) none (s1.trans sp) (s1.free np) upd_same P (fun z => nomatch z) (.inr ⟨rfl, fun o' z => nomatch z⟩)
    · rw [if_neg z]
      refine ⟨m, rfl, m0, fun H2 v T s2 ht no me => ⟨small_line (by decide), fun p np => ?_⟩⟩
      rw [hrt]
      have sp := same_new (o := .tup [v, .str "lines", .non]) np
      have sF := s1.trans s2
      have P := ThV.merge (K := K) (n := n) (cs := cs) (.inr rfl) (tyb_same sp ht)
      rw [me z] at P
      exact q _ p v (.web .lines) none (sF.trans sp) (sF.free np) upd_same P (fun z => nomatch z) (.inr ⟨rfl, fun o' z => nomatch z⟩)
  · rw [if_pos (by decide)]
    by_cases z : m % 3 = 0
    · rw [if_pos z]
      refine ⟨small_line (by decide), fun p np => ?_⟩
      rw [hrt]
      have sp := same_new (o := .tup [.int 10, .str "lines", .non]) np
      have P := ThV.none (K := K) (H := upd H p (.tup [.int 10, .str "lines", .non])) (n := n) (cs := cs) (.int 10)
      rw [show beV n (.int 10) = false from decide_eq_false (p := (1 : Int) ≤ 10 ∧ (n : Int) + 10 ≤ 10) (by omega)] at P
      exact q _ p _ (.web .lines) none sp np upd_same P (fun z => nomatch z) (.inr ⟨rfl, fun o' z => nomatch z⟩)
    · rw [if_neg z]
      refine ⟨small_line (by decide), fun w kw => ?_⟩
      have s1 := same_new (o := .tup [.int 17, .int 18]) kw
      have fw : (upd H w (.tup [.int 17, .int 18])) w = some (.tup [.int 17, .int 18]) := upd_same
      generalize upd H w (.tup [.int 17, .int 18]) = H1 at s1 fw ⊢
      refine ⟨w, _, rfl, .inr (.inl (.inl fw)), rfl, rfl, _, rfl, ?_⟩
      rw [if_neg (by decide)]
      refine ⟨m, rfl, m0, fun H2 v T s2 ht no me => ⟨small_line (by decide), fun p np => ?_⟩⟩
      rw [hrt]
      have sp := same_new (o := .tup [v, .str "lines", .non]) np
      have sF := s1.trans s2
      have P := ThV.none (K := K) (n := n) (cs := cs) (tyb_same sp ht)
      rw [beV_no no] at P
      exact q _ p v (.web .lines) none (sF.trans sp) (sF.free np) upd_same P (fun z => nomatch z) (.inr ⟨rfl, fun o' z => nomatch z⟩)
end Sw

set_option Elab.async false
set_option linter.all false
set_option maxRecDepth 100000
set_option maxHeartbeats 4000000
namespace Sw
open PySem PySem.Spec PyProof.Rows L2
local macro_rules | `(tactic| walk_at "ev") => `(tactic| simp only [tSeq, tCalW, quiet, tRzA, tRzO, tTryT, tTryK, tJoin, tJs, tBM, tBits, kStrI, kIntS, kLenS, mSplit, mPart, mIndex, tAsg, tRet, tRetN, tOp, tUn, tVar, tC, tNil, tCons, tCB, tDrop, tNext, tCont, tBreak, tIfS, tIf, tTest, tChain, tChain3, tB, tTup, tLst, tAnd, tOr, tNot, tAndV, tOrV, tNotV, tPart, tNoPart, tSl, tCal, tAug, ipI, rI0, rI, rU, rEq, rNe, kMin, kMax, gName, gCons, gNil, L2.start, wipe, List.map_cons, List.map_nil, List.length_cons, List.length_nil, List.cons_append, List.nil_append, List.append_nil, Nat.reduceAdd, Nat.reduceSub, List.replicate_succ, List.replicate_zero, List.getElem?_cons_zero, List.getElem?_cons_succ, List.set_cons_succ, List.set_cons_zero, Option.some.injEq, exists_eq_left', exists_eq_left, V.int.injEq, V.bl.injEq, V.str.injEq, V.ref.injEq, List.cons.injEq, exists_and_left, and_assoc, and_true, true_and, scal_ii, scal_ss, scal_nn, scal_bb, scal_ni, scal_in, decide_eq_true_eq, Bool.not_true, Bool.not_false, Bool.not_eq_true', decide_eq_false_iff_not, ite_not, reduceCtorEq, if_true, if_false, Bool.false_eq_true, ne_eq, not_true_eq_false, not_false_eq_true, Int.reduceLT, Int.reduceLE, Int.reduceNeg])
local macro_rules | `(tactic| walk_at "cm") => `(tactic| first | exact Or.inr ⟨by decide, by decide⟩ | exact Or.inl ⟨by decide, by decide⟩ | exact Or.inl ⟨by omega, by omega⟩ | exact Or.inr ⟨by omega, by omega⟩)
variable {K : PySem.W.Frag}
/-! ### a bad order -/
theorem ord_no {H : Hp} {n : Nat} {l : Addr} {r : Row} (h : H l = some (.lst (vis r))) (few : r.length ≤ 1000) (no : ∀ o : List Nat, r = natI o → ¬ o.Perm (List.range n)) : OrdV K H n (.ref l) false :=
  .whole (.inl (.inl h)) few ⟨fun z => (Bool.false_ne_true z).elim, fun ⟨o, e, p⟩ => (no o e p).elim⟩
theorem ord_len {H : Hp} {n : Nat} {l : Addr} {r : Row} (h : H l = some (.lst (vis r))) (few : r.length ≤ 1000) (no : r.length ≠ n) : OrdV K H n (.ref l) false :=
  ord_no h few fun o e p => no (by
    have := p.length_eq
    rw [List.length_range] at this
    rw [e]
    unfold natI
    rw [List.length_map]
    exact this)
theorem natI_len (o : List Nat) : (natI o).length = o.length := List.length_map ..
theorem vis_app (r s : Row) : vis r ++ vis s = vis (r ++ s) := by
  unfold vis
  rw [List.map_append]
theorem ord_odd {H : Hp} {n : Nat} (n1 : 1 ≤ n) (n10 : n ≤ 10) {r0 ls u r5 r6 r7 r8 z9 e10 d11 : Addr} (h0 : H r0 = some (.lst (vis (natI (List.range n)) ++ [.int 0]))) (h1 : H ls = some (.lst (vis ((natI (List.range n)).drop 1)))) (h2 : H u = some (.tup (vis (natI (List.range n))))) (h5 : H r5 = some (.lst (vis ((natI (List.range n)).drop 1) ++ [.int (n : Int)]))) (h6 : H r6 = some (.lst (vis ((natI (List.range n)).drop 1) ++ [.int (-1)]))) (h7 : H r7 = some (.lst (vis ((natI (List.range n)).drop 1) ++ [.bl true]))) (h8 : H r8 = some (.lst (vis ((natI (List.range n)).drop 1) ++ [.non])))
    (h9 : H z9 = some (.lst (if 1 < n then List.replicate n (.int 0) else []))) (h10 : H e10 = some (.lst [])) (h11 : H d11 = some (.dK [])) {k : Nat} (hk : k < 12) :
    ∃ v, ([.ref r0, .ref ls, .ref u, .non, .int 5, .ref r5, .ref r6, .ref r7, .ref r8, .ref z9, .ref e10, .ref d11] : List V)[k]? = some v ∧ OrdV K H n v false := by
  have lr : (natI (List.range n)).length = n := by rw [natI_len, List.length_range]
  have ld : ((natI (List.range n)).drop 1).length = n - 1 := by rw [List.length_drop, lr]
  have one : ∀ i : Int, [V.int i] = vis [i] := fun i => rfl
  have lv : (vis ((natI (List.range n)).drop 1)).length = n - 1 := by rw [ints_len, ld]
  have al : ∀ y : V, isI y = false → (vis ((natI (List.range n)).drop 1) ++ [y]).all isI = false := fun y hy => by rw [List.all_append, List.all_cons, hy]; simp
  match k, hk with
  | 0, _ =>
    rw [one, vis_app] at h0
    exact ⟨_, rfl, ord_len h0 (by rw [List.length_append, lr]; show n + 1 ≤ 1000; omega) (by rw [List.length_append, lr]; show n + 1 ≠ n; omega)⟩
  | 1, _ => exact ⟨_, rfl, ord_len h1 (by omega) (by omega)⟩
  | 2, _ => exact ⟨_, rfl, .kind (.tup (.inl (.inl h2))) (by decide)⟩
  | 3, _ => exact ⟨_, rfl, .kind .non (by decide)⟩
  | 4, _ => exact ⟨_, rfl, .kind (.int 5) (by decide)⟩
  | 5, _ =>
    rw [one, vis_app] at h5
    refine ⟨_, rfl, ord_no h5 (by rw [List.length_append, ld]; show n - 1 + 1 ≤ 1000; omega) fun o e p => ?_⟩
    have hm : (n : Int) ∈ natI o := by rw [← e]; exact List.mem_append_right _ (List.mem_singleton.mpr rfl)
    unfold natI at hm
    obtain ⟨k, hk, ek⟩ := List.mem_map.mp hm
    have := List.mem_range.mp (p.mem_iff.mp hk)
    omega
  | 6, _ =>
    rw [one, vis_app] at h6
    refine ⟨_, rfl, ord_no h6 (by rw [List.length_append, ld]; show n - 1 + 1 ≤ 1000; omega) fun o e p => ?_⟩
    have hm : (-1 : Int) ∈ natI o := by rw [← e]; exact List.mem_append_right _ (List.mem_singleton.mpr rfl)
    unfold natI at hm
    obtain ⟨k, hk, ek⟩ := List.mem_map.mp hm
    omega
  | 7, _ => exact ⟨_, rfl, .other (.inl (.inl h7)) (by rw [List.length_append, lv]; show n - 1 + 1 ≤ 1000; omega) (tys_vis (tys_one (.bl true))) (al _ rfl)⟩
  | 8, _ => exact ⟨_, rfl, .other (.inl (.inl h8)) (by rw [List.length_append, lv]; show n - 1 + 1 ≤ 1000; omega) (tys_vis (tys_one .non)) (al _ rfl)⟩
  | 9, _ =>
    by_cases z : 1 < n
    · rw [if_pos z] at h9
      have e9 : List.replicate n (V.int 0) = vis (List.replicate n 0) := by
        unfold vis
        rw [List.map_replicate]
      rw [e9] at h9
      refine ⟨_, rfl, ord_no h9 (by rw [List.length_replicate]; omega) fun o e p => ?_⟩
      have hm : 1 ∈ o := p.mem_iff.mpr (List.mem_range.mpr z)
      have h1 : ((1 : Nat) : Int) ∈ natI o := List.mem_map.mpr ⟨1, hm, rfl⟩
      rw [← e] at h1
      have := (List.mem_replicate.mp h1).2
      omega
    · rw [if_neg z] at h9
      exact ⟨_, rfl, ord_len (r := []) h9 (by decide) (by show 0 ≠ n; omega)⟩
  | 10, _ => exact ⟨_, rfl, ord_len (r := []) h10 (by decide) (by show 0 ≠ n; omega)⟩
  | 11, _ => exact ⟨_, rfl, .kind (.dK h11) (by decide)⟩
theorem bt_order_ok {H : Hp} {way n : Nat} {a g : Addr} {m : Int} {cs : List Cmp} {D : Ends} {Q : VK} (hrt : D.rt = Q) (hw : way = 12) (m0 : 0 ≤ m) (n1 : 1 ≤ n) (n10 : n ≤ 10)
    (q : ∀ H' p v due o, Same H H' → H p = none → H' p = some (.tup [v, .str (dueU due), onV o]) → ThV K H' n cs way v due → due ≠ .good → PlD due o → Q (.ref p) H') :
    bt_order K D [some (.int (way : Int)), some (.int (n : Int)), some (.ref a), some (.int m), some (.ref g), none, none, none, none, none, none] H := by
  subst hw
  unfold bt_order tDNewK tThen tLstRg tRg1
  walk_at "ev"
  refine ⟨.of_le (by omega) (by omega) (by omega) (by omega), fun od k_od => ?_⟩
  have eR : rgV 0 (n : Int) = vis (natI (List.range n)) := by rw [rgV_nat, natL_vis]
  rw [eR]
  have lr : (vis (natI (List.range n))).length = n := by rw [ints_len, natI_len, List.length_range]
  have lv : (vis ((natI (List.range n)).drop 1)).length = n - 1 := by rw [ints_len, List.length_drop, natI_len, List.length_range]
  have t_0 := same_new (o := (.lst (vis (natI (List.range n))) : HO)) k_od
  have f_od : (upd H od (.lst (vis (natI (List.range n))))) od = some (.lst (vis (natI (List.range n)))) := upd_same
  generalize upd H od (.lst (vis (natI (List.range n)))) = G_0 at t_0 f_od ⊢
  have s_0 := t_0
  refine ⟨od, _, rfl, .inl (.inl f_od), fun ls k_ls => ?_⟩
  have eD : cutV (vis (natI (List.range n))) (some 1) none = vis ((natI (List.range n)).drop 1) := by
    rw [show (some (1 : Int)) = some ((1 : Nat) : Int) from rfl, cutV_from]
    unfold vis
    rw [List.map_drop]
  rw [eD]
  have t_1 := same_new (o := (.lst (vis ((natI (List.range n)).drop 1)) : HO)) k_ls
  have f_ls : (upd G_0 ls (.lst (vis ((natI (List.range n)).drop 1)))) ls = some (.lst (vis ((natI (List.range n)).drop 1))) := upd_same
  generalize upd G_0 ls (.lst (vis ((natI (List.range n)).drop 1))) = G_1 at t_1 f_ls ⊢
  have f_od := t_1 _ _ f_od
  have s_1 := s_0.trans t_1
  refine ⟨small_line (by decide), fun l0 k_l0 => ?_⟩
  have t_2 := same_new (o := (.lst [.int 0] : HO)) k_l0
  have f_l0 : (upd G_1 l0 (.lst [.int 0])) l0 = some (.lst [.int 0]) := upd_same
  generalize upd G_1 l0 (.lst [.int 0]) = G_2 at t_2 f_l0 ⊢
  have f_od := t_2 _ _ f_od
  have f_ls := t_2 _ _ f_ls
  have s_2 := s_1.trans t_2
  refine ⟨od, l0, _, _, rfl, rfl, f_od, f_l0, small_line (by show _ + 1 ≤ _; omega), fun r0 k_r0 => ?_⟩
  have t_3 := same_new (o := (.lst (vis (natI (List.range n)) ++ [.int 0]) : HO)) k_r0
  have f_r0 : (upd G_2 r0 (.lst (vis (natI (List.range n)) ++ [.int 0]))) r0 = some (.lst (vis (natI (List.range n)) ++ [.int 0])) := upd_same
  generalize upd G_2 r0 (.lst (vis (natI (List.range n)) ++ [.int 0])) = G_3 at t_3 f_r0 ⊢
  have f_od := t_3 _ _ f_od
  have f_ls := t_3 _ _ f_ls
  have f_l0 := t_3 _ _ f_l0
  have s_3 := s_2.trans t_3
  refine .inl ⟨od, _, rfl, .inl (.inl f_od), fun u k_u => ?_⟩
  have t_4 := same_new (o := (.tup (vis (natI (List.range n))) : HO)) k_u
  have f_u : (upd G_3 u (.tup (vis (natI (List.range n))))) u = some (.tup (vis (natI (List.range n)))) := upd_same
  generalize upd G_3 u (.tup (vis (natI (List.range n)))) = G_4 at t_4 f_u ⊢
  have f_od := t_4 _ _ f_od
  have f_ls := t_4 _ _ f_ls
  have f_l0 := t_4 _ _ f_l0
  have f_r0 := t_4 _ _ f_r0
  have s_4 := s_3.trans t_4
  refine ⟨small_line (by decide), fun l5 k_l5 => ?_⟩
  have t_5 := same_new (o := (.lst [.int (n : Int)] : HO)) k_l5
  have f_l5 : (upd G_4 l5 (.lst [.int (n : Int)])) l5 = some (.lst [.int (n : Int)]) := upd_same
  generalize upd G_4 l5 (.lst [.int (n : Int)]) = G_5 at t_5 f_l5 ⊢
  have f_od := t_5 _ _ f_od
  have f_ls := t_5 _ _ f_ls
  have f_l0 := t_5 _ _ f_l0
  have f_r0 := t_5 _ _ f_r0
  have f_u := t_5 _ _ f_u
  have s_5 := s_4.trans t_5
  refine ⟨ls, l5, _, _, rfl, rfl, f_ls, f_l5, small_line (by show _ + 1 ≤ _; omega), fun r5 k_r5 => ?_⟩
  have t_6 := same_new (o := (.lst (vis ((natI (List.range n)).drop 1) ++ [.int (n : Int)]) : HO)) k_r5
  have f_r5 : (upd G_5 r5 (.lst (vis ((natI (List.range n)).drop 1) ++ [.int (n : Int)]))) r5 = some (.lst (vis ((natI (List.range n)).drop 1) ++ [.int (n : Int)])) := upd_same
  generalize upd G_5 r5 (.lst (vis ((natI (List.range n)).drop 1) ++ [.int (n : Int)])) = G_6 at t_6 f_r5 ⊢
  have f_od := t_6 _ _ f_od
  have f_ls := t_6 _ _ f_ls
  have f_l0 := t_6 _ _ f_l0
  have f_r0 := t_6 _ _ f_r0
  have f_u := t_6 _ _ f_u
  have f_l5 := t_6 _ _ f_l5
  have s_6 := s_5.trans t_6
  refine ⟨small_line (by decide), fun l6 k_l6 => ?_⟩
  have t_7 := same_new (o := (.lst [.int (-1)] : HO)) k_l6
  have f_l6 : (upd G_6 l6 (.lst [.int (-1)])) l6 = some (.lst [.int (-1)]) := upd_same
  generalize upd G_6 l6 (.lst [.int (-1)]) = G_7 at t_7 f_l6 ⊢
  have f_od := t_7 _ _ f_od
  have f_ls := t_7 _ _ f_ls
  have f_l0 := t_7 _ _ f_l0
  have f_r0 := t_7 _ _ f_r0
  have f_u := t_7 _ _ f_u
  have f_l5 := t_7 _ _ f_l5
  have f_r5 := t_7 _ _ f_r5
  have s_7 := s_6.trans t_7
  refine ⟨ls, l6, _, _, rfl, rfl, f_ls, f_l6, small_line (by show _ + 1 ≤ _; omega), fun r6 k_r6 => ?_⟩
  have t_8 := same_new (o := (.lst (vis ((natI (List.range n)).drop 1) ++ [.int (-1)]) : HO)) k_r6
  have f_r6 : (upd G_7 r6 (.lst (vis ((natI (List.range n)).drop 1) ++ [.int (-1)]))) r6 = some (.lst (vis ((natI (List.range n)).drop 1) ++ [.int (-1)])) := upd_same
  generalize upd G_7 r6 (.lst (vis ((natI (List.range n)).drop 1) ++ [.int (-1)])) = G_8 at t_8 f_r6 ⊢
  have f_od := t_8 _ _ f_od
  have f_ls := t_8 _ _ f_ls
  have f_l0 := t_8 _ _ f_l0
  have f_r0 := t_8 _ _ f_r0
  have f_u := t_8 _ _ f_u
  have f_l5 := t_8 _ _ f_l5
  have f_r5 := t_8 _ _ f_r5
  have f_l6 := t_8 _ _ f_l6
  have s_8 := s_7.trans t_8
  refine ⟨small_line (by decide), fun SM k_SM => ?_⟩
  have t_9 := same_new (o := (.lst [.ref r0, .ref ls, .ref u, .non, .int 5, .ref r5, .ref r6] : HO)) k_SM
  have f_SM : (upd G_8 SM (.lst [.ref r0, .ref ls, .ref u, .non, .int 5, .ref r5, .ref r6])) SM = some (.lst [.ref r0, .ref ls, .ref u, .non, .int 5, .ref r5, .ref r6]) := upd_same
  generalize upd G_8 SM (.lst [.ref r0, .ref ls, .ref u, .non, .int 5, .ref r5, .ref r6]) = G_9 at t_9 f_SM ⊢
  have f_od := t_9 _ _ f_od
  have f_ls := t_9 _ _ f_ls
  have f_l0 := t_9 _ _ f_l0
  have f_r0 := t_9 _ _ f_r0
  have f_u := t_9 _ _ f_u
  have f_l5 := t_9 _ _ f_l5
  have f_r5 := t_9 _ _ f_r5
  have f_l6 := t_9 _ _ f_l6
  have f_r6 := t_9 _ _ f_r6
  have s_9 := s_8.trans t_9
  refine ⟨small_line (by decide), fun l7 k_l7 => ?_⟩
  have t_10 := same_new (o := (.lst [.bl true] : HO)) k_l7
  have f_l7 : (upd G_9 l7 (.lst [.bl true])) l7 = some (.lst [.bl true]) := upd_same
  generalize upd G_9 l7 (.lst [.bl true]) = G_10 at t_10 f_l7 ⊢
  have f_od := t_10 _ _ f_od
  have f_ls := t_10 _ _ f_ls
  have f_l0 := t_10 _ _ f_l0
  have f_r0 := t_10 _ _ f_r0
  have f_u := t_10 _ _ f_u
  have f_l5 := t_10 _ _ f_l5
  have f_r5 := t_10 _ _ f_r5
  have f_l6 := t_10 _ _ f_l6
  have f_r6 := t_10 _ _ f_r6
  have f_SM := t_10 _ _ f_SM
  have s_10 := s_9.trans t_10
  refine ⟨ls, l7, _, _, rfl, rfl, f_ls, f_l7, small_line (by show _ + 1 ≤ _; omega), fun r7 k_r7 => ?_⟩
  have t_11 := same_new (o := (.lst (vis ((natI (List.range n)).drop 1) ++ [.bl true]) : HO)) k_r7
  have f_r7 : (upd G_10 r7 (.lst (vis ((natI (List.range n)).drop 1) ++ [.bl true]))) r7 = some (.lst (vis ((natI (List.range n)).drop 1) ++ [.bl true])) := upd_same
  generalize upd G_10 r7 (.lst (vis ((natI (List.range n)).drop 1) ++ [.bl true])) = G_11 at t_11 f_r7 ⊢
  have f_od := t_11 _ _ f_od
  have f_ls := t_11 _ _ f_ls
  have f_l0 := t_11 _ _ f_l0
  have f_r0 := t_11 _ _ f_r0
  have f_u := t_11 _ _ f_u
  have f_l5 := t_11 _ _ f_l5
  have f_r5 := t_11 _ _ f_r5
  have f_l6 := t_11 _ _ f_l6
  have f_r6 := t_11 _ _ f_r6
  have f_SM := t_11 _ _ f_SM
  have f_l7 := t_11 _ _ f_l7
  have s_11 := s_10.trans t_11
  refine ⟨small_line (by decide), fun l8 k_l8 => ?_⟩
  have t_12 := same_new (o := (.lst [.non] : HO)) k_l8
  have f_l8 : (upd G_11 l8 (.lst [.non])) l8 = some (.lst [.non]) := upd_same
  generalize upd G_11 l8 (.lst [.non]) = G_12 at t_12 f_l8 ⊢
  have f_od := t_12 _ _ f_od
  have f_ls := t_12 _ _ f_ls
  have f_l0 := t_12 _ _ f_l0
  have f_r0 := t_12 _ _ f_r0
  have f_u := t_12 _ _ f_u
  have f_l5 := t_12 _ _ f_l5
  have f_r5 := t_12 _ _ f_r5
  have f_l6 := t_12 _ _ f_l6
  have f_r6 := t_12 _ _ f_r6
  have f_SM := t_12 _ _ f_SM
  have f_l7 := t_12 _ _ f_l7
  have f_r7 := t_12 _ _ f_r7
  have s_12 := s_11.trans t_12
  refine ⟨ls, l8, _, _, rfl, rfl, f_ls, f_l8, small_line (by show _ + 1 ≤ _; omega), fun r8 k_r8 => ?_⟩
  have t_13 := same_new (o := (.lst (vis ((natI (List.range n)).drop 1) ++ [.non]) : HO)) k_r8
  have f_r8 : (upd G_12 r8 (.lst (vis ((natI (List.range n)).drop 1) ++ [.non]))) r8 = some (.lst (vis ((natI (List.range n)).drop 1) ++ [.non])) := upd_same
  generalize upd G_12 r8 (.lst (vis ((natI (List.range n)).drop 1) ++ [.non])) = G_13 at t_13 f_r8 ⊢
  have f_od := t_13 _ _ f_od
  have f_ls := t_13 _ _ f_ls
  have f_l0 := t_13 _ _ f_l0
  have f_r0 := t_13 _ _ f_r0
  have f_u := t_13 _ _ f_u
  have f_l5 := t_13 _ _ f_l5
  have f_r5 := t_13 _ _ f_r5
  have f_l6 := t_13 _ _ f_l6
  have f_r6 := t_13 _ _ f_r6
  have f_SM := t_13 _ _ f_SM
  have f_l7 := t_13 _ _ f_l7
  have f_r7 := t_13 _ _ f_r7
  have f_l8 := t_13 _ _ f_l8
  have s_13 := s_12.trans t_13
  refine ⟨small_line (by decide), fun z0 k_z0 => ?_⟩
  have t_14 := same_new (o := (.lst [.int 0] : HO)) k_z0
  have f_z0 : (upd G_13 z0 (.lst [.int 0])) z0 = some (.lst [.int 0]) := upd_same
  generalize upd G_13 z0 (.lst [.int 0]) = G_14 at t_14 f_z0 ⊢
  have f_od := t_14 _ _ f_od
  have f_ls := t_14 _ _ f_ls
  have f_l0 := t_14 _ _ f_l0
  have f_r0 := t_14 _ _ f_r0
  have f_u := t_14 _ _ f_u
  have f_l5 := t_14 _ _ f_l5
  have f_r5 := t_14 _ _ f_r5
  have f_l6 := t_14 _ _ f_l6
  have f_r6 := t_14 _ _ f_r6
  have f_SM := t_14 _ _ f_SM
  have f_l7 := t_14 _ _ f_l7
  have f_r7 := t_14 _ _ f_r7
  have f_l8 := t_14 _ _ f_l8
  have f_r8 := t_14 _ _ f_r8
  have s_14 := s_13.trans t_14
  refine ⟨z0, (n : Int), _, rfl, rfl, f_z0, by omega, by omega, by rw [sizeLine_eq]; show 1 * (n : Int).toNat ≤ 16777216; omega, fun z1 k_z1 => ?_⟩
  rw [show (List.replicate (n : Int).toNat [V.int 0]).flatten = List.replicate n (V.int 0) by rw [Int.toNat_natCast, List.flatten_replicate_singleton]]
  have t_15 := same_new (o := (.lst (List.replicate n (V.int 0)) : HO)) k_z1
  have f_z1 : (upd G_14 z1 (.lst (List.replicate n (V.int 0)))) z1 = some (.lst (List.replicate n (V.int 0))) := upd_same
  generalize upd G_14 z1 (.lst (List.replicate n (V.int 0))) = G_15 at t_15 f_z1 ⊢
  have f_od := t_15 _ _ f_od
  have f_ls := t_15 _ _ f_ls
  have f_l0 := t_15 _ _ f_l0
  have f_r0 := t_15 _ _ f_r0
  have f_u := t_15 _ _ f_u
  have f_l5 := t_15 _ _ f_l5
  have f_r5 := t_15 _ _ f_r5
  have f_l6 := t_15 _ _ f_l6
  have f_r6 := t_15 _ _ f_r6
  have f_SM := t_15 _ _ f_SM
  have f_l7 := t_15 _ _ f_l7
  have f_r7 := t_15 _ _ f_r7
  have f_l8 := t_15 _ _ f_l8
  have f_r8 := t_15 _ _ f_r8
  have f_z0 := t_15 _ _ f_z0
  have s_15 := s_14.trans t_15
  refine .inr ⟨_, rfl, ?_⟩
  refine ⟨z1, _, _, rfl, rfl, f_z1, by split <;> decide, by split <;> decide, by rw [sizeLine_eq, List.length_replicate]; split <;> (first | (show n * 1 ≤ 16777216; omega) | (show n * 0 ≤ 16777216; omega)), fun z9 k_z9 => ?_⟩
  rw [show (List.replicate (if (decide (1 < (n : Int))) = true then (1 : Int) else 0).toNat (List.replicate n (V.int 0))).flatten = (if 1 < n then List.replicate n (V.int 0) else []) by
    by_cases z : 1 < n
    · rw [if_pos (decide_eq_true (by omega)), if_pos z]
      show (List.replicate 1 (List.replicate n (V.int 0))).flatten = _
      simp
    · rw [if_neg (by rw [decide_eq_false (by omega)]; exact Bool.false_ne_true), if_neg z]
      rfl]
  have t_16 := same_new (o := (.lst (if 1 < n then List.replicate n (V.int 0) else []) : HO)) k_z9
  have f_z9 : (upd G_15 z9 (.lst (if 1 < n then List.replicate n (V.int 0) else []))) z9 = some (.lst (if 1 < n then List.replicate n (V.int 0) else [])) := upd_same
  generalize upd G_15 z9 (.lst (if 1 < n then List.replicate n (V.int 0) else [])) = G_16 at t_16 f_z9 ⊢
  have f_od := t_16 _ _ f_od
  have f_ls := t_16 _ _ f_ls
  have f_l0 := t_16 _ _ f_l0
  have f_r0 := t_16 _ _ f_r0
  have f_u := t_16 _ _ f_u
  have f_l5 := t_16 _ _ f_l5
  have f_r5 := t_16 _ _ f_r5
  have f_l6 := t_16 _ _ f_l6
  have f_r6 := t_16 _ _ f_r6
  have f_SM := t_16 _ _ f_SM
  have f_l7 := t_16 _ _ f_l7
  have f_r7 := t_16 _ _ f_r7
  have f_l8 := t_16 _ _ f_l8
  have f_r8 := t_16 _ _ f_r8
  have f_z0 := t_16 _ _ f_z0
  have f_z1 := t_16 _ _ f_z1
  have s_16 := s_15.trans t_16
  refine ⟨Nat.zero_le _, fun e10 k_e10 => ?_⟩
  have t_17 := same_new (o := (.lst ([] : List V) : HO)) k_e10
  have f_e10 : (upd G_16 e10 (.lst ([] : List V))) e10 = some (.lst ([] : List V)) := upd_same
  generalize upd G_16 e10 (.lst ([] : List V)) = G_17 at t_17 f_e10 ⊢
  have f_od := t_17 _ _ f_od
  have f_ls := t_17 _ _ f_ls
  have f_l0 := t_17 _ _ f_l0
  have f_r0 := t_17 _ _ f_r0
  have f_u := t_17 _ _ f_u
  have f_l5 := t_17 _ _ f_l5
  have f_r5 := t_17 _ _ f_r5
  have f_l6 := t_17 _ _ f_l6
  have f_r6 := t_17 _ _ f_r6
  have f_SM := t_17 _ _ f_SM
  have f_l7 := t_17 _ _ f_l7
  have f_r7 := t_17 _ _ f_r7
  have f_l8 := t_17 _ _ f_l8
  have f_r8 := t_17 _ _ f_r8
  have f_z0 := t_17 _ _ f_z0
  have f_z1 := t_17 _ _ f_z1
  have f_z9 := t_17 _ _ f_z9
  have s_17 := s_16.trans t_17
  intro d11 k_d11
  have t_18 := same_new (o := (.dK [] : HO)) k_d11
  have f_d11 : (upd G_17 d11 (.dK [])) d11 = some (.dK []) := upd_same
  generalize upd G_17 d11 (.dK []) = G_18 at t_18 f_d11 ⊢
  have f_od := t_18 _ _ f_od
  have f_ls := t_18 _ _ f_ls
  have f_l0 := t_18 _ _ f_l0
  have f_r0 := t_18 _ _ f_r0
  have f_u := t_18 _ _ f_u
  have f_l5 := t_18 _ _ f_l5
  have f_r5 := t_18 _ _ f_r5
  have f_l6 := t_18 _ _ f_l6
  have f_r6 := t_18 _ _ f_r6
  have f_SM := t_18 _ _ f_SM
  have f_l7 := t_18 _ _ f_l7
  have f_r7 := t_18 _ _ f_r7
  have f_l8 := t_18 _ _ f_l8
  have f_r8 := t_18 _ _ f_r8
  have f_z0 := t_18 _ _ f_z0
  have f_z1 := t_18 _ _ f_z1
  have f_z9 := t_18 _ _ f_z9
  have f_e10 := t_18 _ _ f_e10
  have s_18 := s_17.trans t_18
  refine ⟨small_line (by decide), fun X2 k_X2 => ?_⟩
  have t_19 := same_new (o := (.lst [.ref r7, .ref r8, .ref z9, .ref e10, .ref d11] : HO)) k_X2
  have f_X2 : (upd G_18 X2 (.lst [.ref r7, .ref r8, .ref z9, .ref e10, .ref d11])) X2 = some (.lst [.ref r7, .ref r8, .ref z9, .ref e10, .ref d11]) := upd_same
  generalize upd G_18 X2 (.lst [.ref r7, .ref r8, .ref z9, .ref e10, .ref d11]) = G_19 at t_19 f_X2 ⊢
  have f_od := t_19 _ _ f_od
  have f_ls := t_19 _ _ f_ls
  have f_l0 := t_19 _ _ f_l0
  have f_r0 := t_19 _ _ f_r0
  have f_u := t_19 _ _ f_u
  have f_l5 := t_19 _ _ f_l5
  have f_r5 := t_19 _ _ f_r5
  have f_l6 := t_19 _ _ f_l6
  have f_r6 := t_19 _ _ f_r6
  have f_SM := t_19 _ _ f_SM
  have f_l7 := t_19 _ _ f_l7
  have f_r7 := t_19 _ _ f_r7
  have f_l8 := t_19 _ _ f_l8
  have f_r8 := t_19 _ _ f_r8
  have f_z0 := t_19 _ _ f_z0
  have f_z1 := t_19 _ _ f_z1
  have f_z9 := t_19 _ _ f_z9
  have f_e10 := t_19 _ _ f_e10
  have f_d11 := t_19 _ _ f_d11
  have s_19 := s_18.trans t_19
  refine ⟨SM, X2, _, _, rfl, rfl, f_SM, f_X2, small_line (by show 7 + 5 ≤ 1000000; decide), fun Y k_Y => ?_⟩
  rw [show ([.ref r0, .ref ls, .ref u, .non, .int 5, .ref r5, .ref r6] : List V) ++ [.ref r7, .ref r8, .ref z9, .ref e10, .ref d11] = [.ref r0, .ref ls, .ref u, .non, .int 5, .ref r5, .ref r6, .ref r7, .ref r8, .ref z9, .ref e10, .ref d11] from rfl]
  have t_20 := same_new (o := (.lst [.ref r0, .ref ls, .ref u, .non, .int 5, .ref r5, .ref r6, .ref r7, .ref r8, .ref z9, .ref e10, .ref d11] : HO)) k_Y
  have f_Y : (upd G_19 Y (.lst [.ref r0, .ref ls, .ref u, .non, .int 5, .ref r5, .ref r6, .ref r7, .ref r8, .ref z9, .ref e10, .ref d11])) Y = some (.lst [.ref r0, .ref ls, .ref u, .non, .int 5, .ref r5, .ref r6, .ref r7, .ref r8, .ref z9, .ref e10, .ref d11]) := upd_same
  generalize upd G_19 Y (.lst [.ref r0, .ref ls, .ref u, .non, .int 5, .ref r5, .ref r6, .ref r7, .ref r8, .ref z9, .ref e10, .ref d11]) = G_20 at t_20 f_Y ⊢
  have f_od := t_20 _ _ f_od
  have f_ls := t_20 _ _ f_ls
  have f_l0 := t_20 _ _ f_l0
  have f_r0 := t_20 _ _ f_r0
  have f_u := t_20 _ _ f_u
  have f_l5 := t_20 _ _ f_l5
  have f_r5 := t_20 _ _ f_r5
  have f_l6 := t_20 _ _ f_l6
  have f_r6 := t_20 _ _ f_r6
  have f_SM := t_20 _ _ f_SM
  have f_l7 := t_20 _ _ f_l7
  have f_r7 := t_20 _ _ f_r7
  have f_l8 := t_20 _ _ f_l8
  have f_r8 := t_20 _ _ f_r8
  have f_z0 := t_20 _ _ f_z0
  have f_z1 := t_20 _ _ f_z1
  have f_z9 := t_20 _ _ f_z9
  have f_e10 := t_20 _ _ f_e10
  have f_d11 := t_20 _ _ f_d11
  have f_X2 := t_20 _ _ f_X2
  have s_20 := s_19.trans t_20
  obtain ⟨j, ej, jl⟩ : ∃ j : Nat, m % 12 = (j : Int) ∧ j < 12 := ⟨(m % 12).toNat, by omega, by omega⟩
  rw [ej]
  obtain ⟨v, gv, hv⟩ := ord_odd (K := K) n1 n10 f_r0 f_ls f_u f_r5 f_r6 f_r7 f_r8 f_z9 f_e10 f_d11 jl
  refine ⟨Y, _, _, v, rfl, rfl, .inl (.inl f_Y), atI_nat gv, small_line (by decide), fun p np => ?_⟩
  rw [hrt]
  have sp := same_new (o := .tup [v, .str "order", .non]) np
  exact q _ p v .order none (s_20.trans sp) (s_20.free np) upd_same (.order (b := false) (ordV_same sp hv)) (fun z => nomatch z) (.inr ⟨rfl, fun o' z => nomatch z⟩)
end Sw

set_option Elab.async false
set_option linter.all false
set_option maxRecDepth 100000
set_option maxHeartbeats 4000000
namespace Sw
open PySem PySem.Spec PyProof.Rows L2
local macro_rules | `(tactic| walk_at "ev") => `(tactic| simp only [tSeq, tCalW, quiet, tRzA, tRzO, tTryT, tTryK, tJoin, tJs, tBM, tBits, kStrI, kIntS, kLenS, mSplit, mPart, mIndex, tAsg, tRet, tRetN, tOp, tUn, tVar, tC, tNil, tCons, tCB, tDrop, tNext, tCont, tBreak, tIfS, tIf, tTest, tChain, tChain3, tB, tTup, tLst, tAnd, tOr, tNot, tAndV, tOrV, tNotV, tPart, tNoPart, tSl, tCal, tAug, ipI, rI0, rI, rU, rEq, rNe, kMin, kMax, gName, gCons, gNil, L2.start, wipe, List.map_cons, List.map_nil, List.length_cons, List.length_nil, List.cons_append, List.nil_append, List.append_nil, Nat.reduceAdd, Nat.reduceSub, List.replicate_succ, List.replicate_zero, List.getElem?_cons_zero, List.getElem?_cons_succ, List.set_cons_succ, List.set_cons_zero, Option.some.injEq, exists_eq_left', exists_eq_left, V.int.injEq, V.bl.injEq, V.str.injEq, V.ref.injEq, List.cons.injEq, exists_and_left, and_assoc, and_true, true_and, scal_ii, scal_ss, scal_nn, scal_bb, scal_ni, scal_in, decide_eq_true_eq, Bool.not_true, Bool.not_false, Bool.not_eq_true', decide_eq_false_iff_not, ite_not, reduceCtorEq, if_true, if_false, Bool.false_eq_true, ne_eq, not_true_eq_false, not_false_eq_true, Int.reduceLT, Int.reduceLE, Int.reduceNeg])
local macro_rules | `(tactic| walk_at "cm") => `(tactic| first | exact Or.inr ⟨by decide, by decide⟩ | exact Or.inl ⟨by decide, by decide⟩ | exact Or.inl ⟨by omega, by omega⟩ | exact Or.inr ⟨by omega, by omega⟩)
variable {K : PySem.W.Frag}
/-! ### what is bad beside a web -/
theorem rd_lbadthing (vs : List V) (H : Hp) (Q : VK) (E : XK) (h : sp_lbadthing K vs H Q E) : r_lbadthing K { nx := fun _ H' => Q .non H', rt := Q } (L2.start N_lbadthing vs) H := by
  obtain ⟨way, n, a, m, cs, rfl, ⟨w9, w21⟩, m0, wh, n8, q⟩ := h
  obtain ⟨ps, ha, hps, ok, n1, n10⟩ := id wh
  rw [bt_eq]
  unfold N_lbadthing
  walk_at "ev"
  refine lc_row (n := n) (fun k => 3 * (k : Int) - m) (fun Q h => ⟨_, rfl, h⟩) (by omega) (fun v => rfl) (fun i H' Q' hi s q' => ?_) (fun g H1 s1 ng hg => ?_)
  · walk_at "ev"
    exact ⟨by walk_at "cm", q'⟩
  · have lg : ((List.range n).map fun k : Nat => 3 * (k : Int) - m).length = n := by rw [List.length_map, List.length_range]
    refine ⟨small_line (by decide), fun w kw => ?_⟩
    have s2 := same_new (o := .tup [.int 9, .int 10, .int 14]) kw
    have fw : (upd H1 w (.tup [.int 9, .int 10, .int 14])) w = some (.tup [.int 9, .int 10, .int 14]) := upd_same
    generalize upd H1 w (.tup [.int 9, .int 10, .int 14]) = H2 at s2 fw ⊢
    have hg2 := s2 _ _ hg
    have s12 := s1.trans s2
    have wh2 : WebH K H2 a n cs := ⟨ps, s12 _ _ ha, Same.prs s12 hps, ok, n1, n10⟩
    have q2 : ∀ H' p v due o, Same H2 H' → H2 p = none → H' p = some (.tup [v, .str (dueU due), onV o]) → ThV K H' n cs way v due → due ≠ .good → PlD due o → Q (.ref p) H' := fun H' p v due o s np => q H' p v due o (s12.trans s) (s12.free np)
    refine ⟨w, _, rfl, .inr (.inl (.inl fw)), rfl, rfl, _, rfl, ?_⟩
    rcases (by omega : way = 9 ∨ way = 10 ∨ way = 11 ∨ way = 12 ∨ way = 13 ∨ way = 14 ∨ way = 15 ∨ way = 16 ∨ way = 17 ∨ way = 18 ∨ way = 19 ∨ way = 20 ∨ way = 21) with rfl | rfl | rfl | rfl | rfl | rfl | rfl | rfl | rfl | rfl | rfl | rfl | rfl
    · rw [if_pos (by decide)]
      exact bt_row_ok rfl (.inl rfl) m0 n1 n10 hg2 lg q2
    · rw [if_pos (by decide)]
      exact bt_row_ok rfl (.inr (.inl rfl)) m0 n1 n10 hg2 lg q2
    · rw [if_neg (by decide), if_pos (by decide)]
      exact bt_place_ok rfl rfl m0 wh2 q2
    · rw [if_neg (by decide), if_neg (by decide), if_pos (by decide)]
      exact bt_order_ok rfl rfl m0 n1 n10 q2
    · rw [if_neg (by decide), if_neg (by decide), if_neg (by decide), if_pos (by decide)]
      exact bt_diff_ok rfl rfl m0 wh2 q2
    · rw [if_pos (by decide)]
      exact bt_row_ok rfl (.inr (.inr rfl)) m0 n1 n10 hg2 lg q2
    · rw [if_neg (by decide), if_neg (by decide), if_neg (by decide), if_neg (by decide)]
      refine ⟨small_line (by decide), fun y ky => ?_⟩
      have s3 := same_new (o := .tup [.int 19, .int 21]) ky
      have fy : (upd H2 y (.tup [.int 19, .int 21])) y = some (.tup [.int 19, .int 21]) := upd_same
      generalize upd H2 y (.tup [.int 19, .int 21]) = H3 at s3 fy ⊢
      have q3 : ∀ H' p v due o, Same H3 H' → H3 p = none → H' p = some (.tup [v, .str (dueU due), onV o]) → ThV K H' n cs 15 v due → due ≠ .good → PlD due o → Q (.ref p) H' := fun H' p v due o s np => q2 H' p v due o (s3.trans s) (s3.free np)
      refine ⟨y, _, rfl, .inr (.inl (.inl fy)), rfl, rfl, _, rfl, ?_⟩
      rw [if_neg (by decide)]
      exact bt_rest_ok rfl (.inl rfl) m0 n1 q3
    · rw [if_neg (by decide), if_neg (by decide), if_neg (by decide), if_neg (by decide)]
      refine ⟨small_line (by decide), fun y ky => ?_⟩
      have s3 := same_new (o := .tup [.int 19, .int 21]) ky
      have fy : (upd H2 y (.tup [.int 19, .int 21])) y = some (.tup [.int 19, .int 21]) := upd_same
      generalize upd H2 y (.tup [.int 19, .int 21]) = H3 at s3 fy ⊢
      have q3 : ∀ H' p v due o, Same H3 H' → H3 p = none → H' p = some (.tup [v, .str (dueU due), onV o]) → ThV K H' n cs 16 v due → due ≠ .good → PlD due o → Q (.ref p) H' := fun H' p v due o s np => q2 H' p v due o (s3.trans s) (s3.free np)
      refine ⟨y, _, rfl, .inr (.inl (.inl fy)), rfl, rfl, _, rfl, ?_⟩
      rw [if_neg (by decide)]
      exact bt_rest_ok rfl (.inr (.inl rfl)) m0 n1 q3
    · rw [if_neg (by decide), if_neg (by decide), if_neg (by decide), if_neg (by decide)]
      refine ⟨small_line (by decide), fun y ky => ?_⟩
      have s3 := same_new (o := .tup [.int 19, .int 21]) ky
      have fy : (upd H2 y (.tup [.int 19, .int 21])) y = some (.tup [.int 19, .int 21]) := upd_same
      generalize upd H2 y (.tup [.int 19, .int 21]) = H3 at s3 fy ⊢
      have q3 : ∀ H' p v due o, Same H3 H' → H3 p = none → H' p = some (.tup [v, .str (dueU due), onV o]) → ThV K H' n cs 17 v due → due ≠ .good → PlD due o → Q (.ref p) H' := fun H' p v due o s np => q2 H' p v due o (s3.trans s) (s3.free np)
      refine ⟨y, _, rfl, .inr (.inl (.inl fy)), rfl, rfl, _, rfl, ?_⟩
      rw [if_neg (by decide)]
      exact bt_rest_ok rfl (.inr (.inr (.inl rfl))) m0 n1 q3
    · rw [if_neg (by decide), if_neg (by decide), if_neg (by decide), if_neg (by decide)]
      refine ⟨small_line (by decide), fun y ky => ?_⟩
      have s3 := same_new (o := .tup [.int 19, .int 21]) ky
      have fy : (upd H2 y (.tup [.int 19, .int 21])) y = some (.tup [.int 19, .int 21]) := upd_same
      generalize upd H2 y (.tup [.int 19, .int 21]) = H3 at s3 fy ⊢
      have q3 : ∀ H' p v due o, Same H3 H' → H3 p = none → H' p = some (.tup [v, .str (dueU due), onV o]) → ThV K H' n cs 18 v due → due ≠ .good → PlD due o → Q (.ref p) H' := fun H' p v due o s np => q2 H' p v due o (s3.trans s) (s3.free np)
      refine ⟨y, _, rfl, .inr (.inl (.inl fy)), rfl, rfl, _, rfl, ?_⟩
      rw [if_neg (by decide)]
      exact bt_rest_ok rfl (.inr (.inr (.inr (.inl rfl)))) m0 n1 q3
    · rw [if_neg (by decide), if_neg (by decide), if_neg (by decide), if_neg (by decide)]
      refine ⟨small_line (by decide), fun y ky => ?_⟩
      have s3 := same_new (o := .tup [.int 19, .int 21]) ky
      have fy : (upd H2 y (.tup [.int 19, .int 21])) y = some (.tup [.int 19, .int 21]) := upd_same
      generalize upd H2 y (.tup [.int 19, .int 21]) = H3 at s3 fy ⊢
      have q3 : ∀ H' p v due o, Same H3 H' → H3 p = none → H' p = some (.tup [v, .str (dueU due), onV o]) → ThV K H' n cs 19 v due → due ≠ .good → PlD due o → Q (.ref p) H' := fun H' p v due o s np => q2 H' p v due o (s3.trans s) (s3.free np)
      refine ⟨y, _, rfl, .inr (.inl (.inl fy)), rfl, rfl, _, rfl, ?_⟩
      rw [if_pos (by decide)]
      exact bt_bes_ok rfl (.inl rfl) m0 q3
    · rw [if_neg (by decide), if_neg (by decide), if_neg (by decide), if_neg (by decide)]
      refine ⟨small_line (by decide), fun y ky => ?_⟩
      have s3 := same_new (o := .tup [.int 19, .int 21]) ky
      have fy : (upd H2 y (.tup [.int 19, .int 21])) y = some (.tup [.int 19, .int 21]) := upd_same
      generalize upd H2 y (.tup [.int 19, .int 21]) = H3 at s3 fy ⊢
      have q3 : ∀ H' p v due o, Same H3 H' → H3 p = none → H' p = some (.tup [v, .str (dueU due), onV o]) → ThV K H' n cs 20 v due → due ≠ .good → PlD due o → Q (.ref p) H' := fun H' p v due o s np => q2 H' p v due o (s3.trans s) (s3.free np)
      refine ⟨y, _, rfl, .inr (.inl (.inl fy)), rfl, rfl, _, rfl, ?_⟩
      rw [if_neg (by decide)]
      exact bt_rest_ok rfl (.inr (.inr (.inr (.inr rfl)))) m0 n1 q3
    · rw [if_neg (by decide), if_neg (by decide), if_neg (by decide), if_neg (by decide)]
      refine ⟨small_line (by decide), fun y ky => ?_⟩
      have s3 := same_new (o := .tup [.int 19, .int 21]) ky
      have fy : (upd H2 y (.tup [.int 19, .int 21])) y = some (.tup [.int 19, .int 21]) := upd_same
      generalize upd H2 y (.tup [.int 19, .int 21]) = H3 at s3 fy ⊢
      have q3 : ∀ H' p v due o, Same H3 H' → H3 p = none → H' p = some (.tup [v, .str (dueU due), onV o]) → ThV K H' n cs 21 v due → due ≠ .good → PlD due o → Q (.ref p) H' := fun H' p v due o s np => q2 H' p v due o (s3.trans s) (s3.free np)
      refine ⟨y, _, rfl, .inr (.inl (.inl fy)), rfl, rfl, _, rfl, ?_⟩
      rw [if_pos (by decide)]
      exact bt_bes_ok rfl (.inr rfl) m0 q3
end Sw

set_option Elab.async false
set_option linter.all false
set_option maxRecDepth 100000
set_option maxHeartbeats 4000000
namespace Sw
open PySem PySem.Spec PyProof.Rows L2
local macro_rules | `(tactic| walk_at "ev") => `(tactic| simp only [tSeq, tCalW, quiet, tRzA, tRzO, tTryT, tTryK, tJoin, tJs, tBM, tBits, kStrI, kIntS, kLenS, mSplit, mPart, mIndex, tAsg, tRet, tRetN, tOp, tUn, tVar, tC, tNil, tCons, tCB, tDrop, tNext, tCont, tBreak, tIfS, tIf, tTest, tChain, tChain3, tB, tTup, tLst, tAnd, tOr, tNot, tAndV, tOrV, tNotV, tPart, tNoPart, tSl, tCal, tAug, ipI, rI0, rI, rU, rEq, rNe, kMin, kMax, gName, gCons, gNil, L2.start, wipe, List.map_cons, List.map_nil, List.length_cons, List.length_nil, List.cons_append, List.nil_append, List.append_nil, Nat.reduceAdd, Nat.reduceSub, List.replicate_succ, List.replicate_zero, List.getElem?_cons_zero, List.getElem?_cons_succ, List.set_cons_succ, List.set_cons_zero, Option.some.injEq, exists_eq_left', exists_eq_left, V.int.injEq, V.bl.injEq, V.str.injEq, V.ref.injEq, List.cons.injEq, exists_and_left, and_assoc, and_true, true_and, scal_ii, scal_ss, scal_nn, scal_bb, scal_ni, scal_in, decide_eq_true_eq, Bool.not_true, Bool.not_false, Bool.not_eq_true', decide_eq_false_iff_not, ite_not, reduceCtorEq, if_true, if_false, Bool.false_eq_true, ne_eq, not_true_eq_false, not_false_eq_true, Int.reduceLT, Int.reduceLE, Int.reduceNeg])
local macro_rules | `(tactic| walk_at "cm") => `(tactic| first | exact Or.inr ⟨by decide, by decide⟩ | exact Or.inl ⟨by decide, by decide⟩ | exact Or.inl ⟨by omega, by omega⟩ | exact Or.inr ⟨by omega, by omega⟩)
variable {K : PySem.W.Frag}
/-! ### what is tried -/
theorem moreV_ok {H : Hp} {way : Nat} {lv cv tv : V} {d : Due} (h : MoreV K H way lv cv tv d) : d ≠ .web .good := by
  have i : ∀ (b : Bool) (e : Due), e ≠ .web .good → iteD b e ≠ .web .good := fun b e ne z => by
    cases b with
    | true => cases z
    | false => exact ne z
  have w : ∀ d : Verd, dueW d ≠ .web .good := fun d z => by cases d <;> cases z
  cases h with
  | web hw h ne => exact fun z => ne (by injection z)
  | row hw h hr => exact i _ _ fun z => nomatch z
  | place => exact i _ _ fun z => nomatch z
  | order => exact i _ _ fun z => nomatch z
  | diff => exact w _
  | row0 => exact i _ _ fun z => nomatch z
  | lines => exact i _ _ fun z => nomatch z
  | merge => exact i _ _ fun z => nomatch z
  | two => exact w _
  | full => exact fun z => nomatch z
  | none => exact i _ _ fun z => nomatch z
  | @ten _ _ _ d => exact fun z => by cases d <;> cases z
theorem rd_ltried (XW : ∀ C u, (C, u) ∈ errWs → PySem.W.exmOne K (.ref (He.ga K C)) (.ref (He.ga K "WebError")) = some true) (vs : List V) (H : Hp) (Q : VK) (E : XK) (h : sp_ltried K vs H Q E) : r_ltried K { nx := fun _ H' => Q .non H', rt := Q } (L2.start N_ltried vs) H := by
  obtain ⟨way, lv, cv, tv, due, rfl, hv, good, bad⟩ := h
  have xL := XW "BadLines" "lines" (by unfold errWs; simp)
  have xW := XW "BadWeb" "web" (by unfold errWs; simp)
  have xR := XW "BadRow" "row" (by unfold errWs; simp)
  have xP := XW "BadPlace" "place" (by unfold errWs; simp)
  have xO := XW "BadOrder" "order" (by unfold errWs; simp)
  have plain : ∀ H' a (C : Str), due ≠ .good → dueC due = C → (∀ o, due ≠ .web (.web o)) → Same H H' → H' a = none → Q (.ref a) (upd H' a (ErO (.ref (He.ga K C)) none a)) := fun H' a C ne eC no s na =>
    bad ne _ a (same_mut s (s.free na)) ⟨none, by rw [upd_same, eC], .inl rfl, fun o e => absurd e (no o)⟩
  have webE : ∀ H' d a o, due = .web (.web o) → Same H H' → H' d = none → (upd H' d (.xd [("place", onV o)])) a = none → Q (.ref a) (upd (upd H' d (.xd [("place", onV o)])) a (ErO (.ref (He.ga K "BadWeb")) (some d) a)) := fun H' d a o e s nd na => by
    have s1 := s.trans (same_new (o := .xd [("place", onV o)]) nd)
    have ad : a ≠ d := fun z => by rw [z, upd_same] at na; cases na
    have hd : (upd (upd H' d (.xd [("place", onV o)])) a (ErO (.ref (He.ga K "BadWeb")) (some d) a)) d = some (.xd [("place", onV o)]) := by rw [upd_ne ad.symm, upd_same]
    subst e
    exact bad (fun z => nomatch z) _ a (same_mut s1 (s1.free na)) ⟨some d, upd_same, .inr ⟨d, _, rfl, hd⟩, fun o' e => ⟨d, rfl, by injection e with e; injection e with e; subst e; exact hd⟩⟩
  unfold r_ltried N_ltried
  walk_at "ev"
  cases hv with
  | @one d hw h =>
    rw [if_pos (by omega)]
    refine ⟨way, lv, cv, d, rfl, hw, h, fun g => ?_, fun ne => ?_⟩
    · subst g
      exact good rfl
    · cases d with
      | good => exact absurd rfl ne
      | lines =>
        intro H' s
        refine ⟨xL, fun a na => ?_⟩
        walk_at "ev"
        exact plain H' a _ (show Due.web .lines ≠ .good from fun z => nomatch z) rfl (fun o => show Due.web .lines ≠ .web (.web o) from fun z => nomatch z) s na
      | web o =>
        intro H' d s nd
        refine ⟨xW, fun a na => ?_⟩
        walk_at "ev"
        exact webE H' d a o rfl s nd na
  | more hw h =>
    rw [if_neg (by omega)]
    refine ⟨way, lv, cv, tv, due, rfl, h, good, fun ne => ?_⟩
    have ok := moreV_ok h
    cases due with
    | good => exact absurd rfl ne
    | row =>
      intro H' s
      refine ⟨xR, fun a na => ?_⟩
      walk_at "ev"
      exact plain H' a _ (fun z => nomatch z) rfl (fun o z => nomatch z) s na
    | place =>
      intro H' s
      refine ⟨xP, fun a na => ?_⟩
      walk_at "ev"
      exact plain H' a _ (fun z => nomatch z) rfl (fun o z => nomatch z) s na
    | order =>
      intro H' s
      refine ⟨xO, fun a na => ?_⟩
      walk_at "ev"
      exact plain H' a _ (fun z => nomatch z) rfl (fun o z => nomatch z) s na
    | web d =>
      cases d with
      | good => exact absurd rfl ok
      | lines =>
        intro H' s
        refine ⟨xL, fun a na => ?_⟩
        walk_at "ev"
        exact plain H' a _ (fun z => nomatch z) rfl (fun o z => nomatch z) s na
      | web o =>
        intro H' d s nd
        refine ⟨xW, fun a na => ?_⟩
        walk_at "ev"
        exact webE H' d a o rfl s nd na
end Sw

set_option Elab.async false
set_option linter.all false
set_option maxRecDepth 100000
set_option maxHeartbeats 4000000
namespace Sw
open PySem PySem.Spec PyProof.Rows L2
local macro_rules | `(tactic| walk_at "ev") => `(tactic| simp only [tSeq, tCalW, quiet, tRzA, tRzO, tTryT, tTryK, tJoin, tJs, tBM, tBits, kStrI, kIntS, kLenS, mSplit, mPart, mIndex, tAsg, tRet, tRetN, tOp, tUn, tVar, tC, tNil, tCons, tCB, tDrop, tNext, tCont, tBreak, tIfS, tIf, tTest, tChain, tChain3, tB, tTup, tLst, tAnd, tOr, tNot, tAndV, tOrV, tNotV, tPart, tNoPart, tSl, tCal, tAug, ipI, rI0, rI, rU, rEq, rNe, kMin, kMax, gName, gCons, gNil, L2.start, wipe, List.map_cons, List.map_nil, List.length_cons, List.length_nil, List.cons_append, List.nil_append, List.append_nil, Nat.reduceAdd, Nat.reduceSub, List.replicate_succ, List.replicate_zero, List.getElem?_cons_zero, List.getElem?_cons_succ, List.set_cons_succ, List.set_cons_zero, Option.some.injEq, exists_eq_left', exists_eq_left, V.int.injEq, V.bl.injEq, V.str.injEq, V.ref.injEq, List.cons.injEq, exists_and_left, and_assoc, and_true, true_and, scal_ii, scal_ss, scal_nn, scal_bb, scal_ni, scal_in, decide_eq_true_eq, Bool.not_true, Bool.not_false, Bool.not_eq_true', decide_eq_false_iff_not, ite_not, reduceCtorEq, if_true, if_false, Bool.false_eq_true, ne_eq, not_true_eq_false, not_false_eq_true, Int.reduceLT, Int.reduceLE, Int.reduceNeg])
local macro_rules | `(tactic| walk_at "cm") => `(tactic| first | exact Or.inr ⟨by decide, by decide⟩ | exact Or.inl ⟨by decide, by decide⟩ | exact Or.inl ⟨by omega, by omega⟩ | exact Or.inr ⟨by omega, by omega⟩)
variable {K : PySem.W.Frag}
/-! ### the law's words for errors -/
/-- v is None, or a kept error of the class C -/
def ErrIs (K : PySem.W.Frag) (H : Hp) (v : V) (o : Option Str) : Prop := (v = .non ∧ o = none) ∨ ∃ (a : Addr) (d : Option Addr) (C u : Str), v = .ref a ∧ H a = some (ErO (.ref (He.ga K C)) d a) ∧ DicOk H d ∧ (C, u) ∈ errWs ∧ o = some C
theorem dic_same {H H' : Hp} {d : Option Addr} (s : Same H H') (h : DicOk H d) : DicOk H' d := by
  rcases h with h | ⟨dd, fs, h, e⟩
  · exact .inl h
  · exact .inr ⟨dd, fs, h, s _ _ e⟩
theorem err_same {H H' : Hp} {v : V} {o : Option Str} (s : Same H H') (h : ErrIs K H v o) : ErrIs K H' v o := by
  rcases h with h | ⟨a, d, C, u, h1, h2, h3, h4⟩
  · exact .inl h
  · exact .inr ⟨a, d, C, u, h1, s _ _ h2, dic_same s h3, h4⟩
theorem err_isi (F : ErrF K) {H : Hp} {v : V} {o : Option Str} {D w : Str} {Q : VK} (h : ErrIs K H v o) (hD : (D, w) ∈ errWs) (q : Q (.bl (decide (o = some D))) H) : rIsK K [v, .ref (He.ga K D)] H Q := by
  rcases h with ⟨rfl, rfl⟩ | ⟨a, d, C, u, rfl, ha, hd, hC, rfl⟩
  · exact .inl ⟨.non, .ref (He.ga K D), .type "NoneType", .ref (He.ga K D), false, rfl, .own _, .base .non, F.n D w hD, q⟩
  · refine .inr ⟨a, He.ga K C, d, .ref (He.ga K D), .ref (He.ga K D), decide (C = D), rfl, ha, hd, F.e C u hC, .own _, F.k C u D w hC hD, ?_⟩
    have : decide (C = D) = decide (some C = some D) := decide_eq_decide.mpr ⟨fun z => by rw [z], fun z => Option.some.inj z⟩
    rw [this]
    exact q
theorem err_ve (F : ErrF K) {H : Hp} {v : V} {C : Str} {Q : VK} (h : ErrIs K H v (some C)) (q : Q (.bl true) H) : rIsK K [v, .ty "ValueError"] H Q := by
  rcases h with ⟨_, z⟩ | ⟨a, d, C, u, rfl, ha, hd, hC, _⟩
  · cases z
  · exact .inr ⟨a, He.ga K C, d, .ty "ValueError", .type "ValueError", true, rfl, ha, hd, F.e C u hC, .ty _, F.v C u hC, q⟩
/-- pairs of a word and a truth value -/
abbrev Wps (H : Hp) (ps : List Addr) (l : List (Str × Bool)) : Prop := All2 (fun p (w : Str × Bool) => H p = some (.tup [.str w.1, .bl w.2])) ps l
theorem Wps.step {H0 H : Hp} {ps : List Addr} {l : List (Str × Bool)} (s : Same H0 H) (h : Wps H ps l) {p : Addr} (np : H p = none) (w : Str) (b : Bool) : Same H0 (upd H p (.tup [.str w, .bl b])) ∧ Wps (upd H p (.tup [.str w, .bl b])) (ps ++ [p]) (l ++ [(w, b)]) :=
  ⟨s.trans (same_new np), (h.imp fun q u e => same_new np _ _ e).snoc upd_same⟩
theorem Wps.list {H0 H : Hp} {ps : List Addr} {l : List (Str × Bool)} (s : Same H0 H) (h : Wps H ps l) {p : Addr} {o : HO} (np : H p = none) : Same H0 (upd H p o) ∧ Wps (upd H p o) ps l :=
  ⟨s.trans (same_new np), h.imp fun q u e => same_new np _ _ e⟩
theorem Wps.last {H0 H : Hp} {ps : List Addr} {l : List (Str × Bool)} (s : Same H0 H) (h : Wps H ps l) {p : Addr} {o : HO} (np : H p = none) : ∃ H', upd H p o = H' ∧ Same H0 H' ∧ Wps H' ps l ∧ H' p = some o :=
  ⟨_, rfl, s.trans (same_new np), h.imp fun q u e => same_new np _ _ e, upd_same⟩
def wordU (l : List (Str × Bool)) (i : Nat) : V × V := match l[i]? with
  | some w => (.str w.1, .bl w.2)
  | none => (.non, .non)
def errL (o : Option Str) : List (Str × Bool) := errWs.map fun p => (p.2, decide (o = some p.1))
theorem rd_lword (F : ErrF K) (vs : List V) (H : Hp) (Q : VK) (E : XK) (h : sp_lword K vs H Q E) : r_lword K { nx := fun _ H' => Q .non H', rt := Q } (L2.start N_lword vs) H := by
  obtain ⟨v, u, rfl, hv, q⟩ := h
  obtain ⟨o, ho, hu⟩ : ∃ o, ErrIs K H v o ∧ ((o = none ∧ v = .non ∧ u = "") ∨ ∃ C, o = some C ∧ (C, u) ∈ errWs ∧ ∃ a, v = .ref a) := by
    rcases hv with ⟨rfl, rfl⟩ | ⟨a, d, C, rfl, ha, hd, hC⟩
    · exact ⟨none, .inl ⟨rfl, rfl⟩, .inl ⟨rfl, rfl, rfl⟩⟩
    · exact ⟨some C, .inr ⟨a, d, C, u, rfl, ha, hd, hC, rfl⟩, .inr ⟨C, rfl, hC, a, rfl⟩⟩
  unfold r_lword N_lword
  walk_at "ev"
  refine err_isi F (w := "lines") ho (by unfold errWs; simp) ⟨small_line (by decide), fun p1 n1 => ?_⟩
  obtain ⟨s1, w1⟩ := Wps.step (.refl H) .nil n1 "lines" (decide (o = some ("BadLines" : Str)))
  refine err_isi F (w := "web") (err_same s1 ho) (by unfold errWs; simp) ⟨small_line (by decide), fun p2 n2 => ?_⟩
  obtain ⟨s2, w2⟩ := Wps.step s1 w1 n2 "web" (decide (o = some ("BadWeb" : Str)))
  refine err_isi F (w := "row") (err_same s2 ho) (by unfold errWs; simp) ⟨small_line (by decide), fun p3 n3 => ?_⟩
  obtain ⟨s3, w3⟩ := Wps.step s2 w2 n3 "row" (decide (o = some ("BadRow" : Str)))
  refine ⟨small_line (by decide), fun L1 m1 => ?_⟩
  obtain ⟨t3, w3⟩ := Wps.list (o := .lst [.ref p1, .ref p2, .ref p3]) s3 w3 m1
  refine err_isi F (w := "place") (err_same t3 ho) (by unfold errWs; simp) ⟨small_line (by decide), fun p4 n4 => ?_⟩
  obtain ⟨s4, w4⟩ := Wps.step t3 w3 n4 "place" (decide (o = some ("BadPlace" : Str)))
  refine err_isi F (w := "order") (err_same s4 ho) (by unfold errWs; simp) ⟨small_line (by decide), fun p5 n5 => ?_⟩
  obtain ⟨s5, w5⟩ := Wps.step s4 w4 n5 "order" (decide (o = some ("BadOrder" : Str)))
  refine ⟨small_line (by decide), fun L2' m2 => ?_⟩
  obtain ⟨t5, w5⟩ := Wps.list (o := .lst [.ref p4, .ref p5]) s5 w5 m2
  have k45 := same_new (o := .tup [.str "place", .bl (decide (o = some ("BadPlace" : Str)))]) n4
  have k5 := same_new (o := .tup [.str "order", .bl (decide (o = some ("BadOrder" : Str)))]) n5
  have k6 := same_new (o := .lst [.ref p4, .ref p5]) m2
  refine ⟨L1, L2', _, _, rfl, rfl, k6 _ _ (k5 _ _ (k45 _ _ upd_same)), upd_same, small_line (by simp), fun L3 m3 => ?_⟩
  obtain ⟨t6, w5⟩ := Wps.list (o := .lst ([.ref p1, .ref p2, .ref p3] ++ [.ref p4, .ref p5])) t5 w5 m3
  refine err_isi F (w := "text") (err_same t6 ho) (by unfold errWs; simp) ⟨small_line (by decide), fun p6 n6 => ?_⟩
  obtain ⟨s6, w6⟩ := Wps.step t6 w5 n6 "text" (decide (o = some ("BadText" : Str)))
  refine err_isi F (w := "nothing") (err_same s6 ho) (by unfold errWs; simp) ⟨small_line (by decide), fun p7 n7 => ?_⟩
  obtain ⟨s7, w7⟩ := Wps.step s6 w6 n7 "nothing" (decide (o = some ("NothingPut" : Str)))
  refine ⟨small_line (by decide), fun L4 m4 => ?_⟩
  obtain ⟨t7, w7⟩ := Wps.list (o := .lst [.ref p6, .ref p7]) s7 w7 m4
  have j6 := same_new (o := .tup [.str "text", .bl (decide (o = some ("BadText" : Str)))]) n6
  have j7 := same_new (o := .tup [.str "nothing", .bl (decide (o = some ("NothingPut" : Str)))]) n7
  have j8 := same_new (o := .lst [.ref p6, .ref p7]) m4
  refine ⟨L3, L4, _, _, rfl, rfl, j8 _ _ (j7 _ _ (j6 _ _ upd_same)), upd_same, small_line (by simp), fun L5 m5 => ?_⟩
  obtain ⟨H8, eH, t8, w8, hL0⟩ := Wps.last (o := .lst ([.ref p1, .ref p2, .ref p3] ++ [.ref p4, .ref p5] ++ [.ref p6, .ref p7])) t7 w7 m5
  have hL : H8 L5 = some (.lst (Rfs [p1, p2, p3, p4, p5, p6, p7])) := hL0
  rw [eH]
  have w9 : Wps H8 [p1, p2, p3, p4, p5, p6, p7] (errL o) := w8
  clear w8
  refine lc_pairs (a := L5) (ps := [p1, p2, p3, p4, p5, p6, p7]) (wordU (errL o)) rfl (.inl (.inl hL)) (fun v w => rfl) (fun D i acc H' => Same H8 H' ∧ acc = (((errL o).take i).filter (·.2)).map fun w => V.str w.1) (fun D nD => ⟨same_new nD, rfl⟩) (fun D i acc H' nD g => g.1.seq (.inl (.inl hL))) ?_ ?_ ?_
  · intro D i p acc H' nD gp hD g
    obtain ⟨w, gw, hw⟩ := w9.getL gp
    unfold wordU
    rw [gw]
    exact .inl (.inl (g.1 _ _ hw))
  · intro D i acc H' nD hi hD g
    obtain ⟨s, rfl⟩ := g
    obtain ⟨w, gw⟩ := get_of (xs := errL o) (i := i) hi
    have hs : (((errL o).take (i + 1)).filter (·.2)).map (fun w => V.str w.1) = (((errL o).take i).filter (·.2)).map (fun w => V.str w.1) ++ (if w.2 = true then [V.str w.1] else []) := by
      rw [List.take_add_one, gw, List.filter_append, List.map_append]
      congr 1
      cases e : w.2 <;> simp [e]
    unfold wordU Turn
    rw [gw]
    walk_at "ev"
    cases e : w.2 with
    | false =>
      rw [e] at hs
      simp only [Bool.false_eq_true, if_false, List.append_nil] at hs
      exact ⟨_, hD, s, hs.symm⟩
    | true =>
      rw [e] at hs
      simp only [if_true] at hs
      refine GoOn.mk hD ?_ ⟨same_mut s nD, hs.symm⟩
      rw [List.length_map]
      have h1 := List.length_filter_le (fun w : Str × Bool => w.2) ((errL o).take i)
      have h2 : ((errL o).take i).length ≤ 7 := by
        rw [List.length_take]
        exact Nat.min_le_right _ _
      omega
  · intro D acc H' nD hD g
    obtain ⟨s, rfl⟩ := g
    have hT : (errL o).take [p1, p2, p3, p4, p5, p6, p7].length = errL o := rfl
    rw [hT] at hD
    have sH := t8.trans s
    rcases hu with ⟨rfl, rfl, rfl⟩ | ⟨C, rfl, hC, a, rfl⟩
    · refine ⟨rfl, _, rfl, ?_⟩
      rw [decide_eq_true rfl]
      walk_at "ev"
      exact q H' sH
    · have one : ((errL (some C)).filter (·.2)).map (fun w => V.str w.1) = [.str u] := by
        unfold errWs at hC
        simp only [List.mem_cons, Prod.mk.injEq, List.not_mem_nil, or_false] at hC
        rcases hC with ⟨rfl, rfl⟩ | ⟨rfl, rfl⟩ | ⟨rfl, rfl⟩ | ⟨rfl, rfl⟩ | ⟨rfl, rfl⟩ | ⟨rfl, rfl⟩ | ⟨rfl, rfl⟩ <;> decide +kernel
      rw [one] at hD
      refine ⟨rfl, _, rfl, ?_⟩
      rw [decide_eq_false (fun z => nomatch z)]
      walk_at "ev"
      refine ⟨D, _, rfl, .inl (.inl (.inl hD)), ?_⟩
      walk_at "ev"
      refine err_ve F (err_same sH ho) ⟨true, rfl, ?_⟩
      walk_at "ev"
      refine ⟨D, _, 0, .str u, rfl, rfl, .inl (.inl hD), rfl, ?_⟩
      exact q H' sH
end Sw

set_option Elab.async false
set_option linter.all false
set_option maxRecDepth 100000
set_option maxHeartbeats 4000000
namespace Sw
open PySem PySem.Spec PyProof.Rows L2
local macro_rules | `(tactic| walk_at "ev") => `(tactic| simp only [tSeq, tCalW, quiet, tRzA, tRzO, tTryT, tTryK, tJoin, tJs, tBM, tBits, kStrI, kIntS, kLenS, mSplit, mPart, mIndex, tAsg, tRet, tRetN, tOp, tUn, tVar, tC, tNil, tCons, tCB, tDrop, tNext, tCont, tBreak, tIfS, tIf, tTest, tChain, tChain3, tB, tTup, tLst, tAnd, tOr, tNot, tAndV, tOrV, tNotV, tPart, tNoPart, tSl, tCal, tAug, ipI, rI0, rI, rU, rEq, rNe, kMin, kMax, gName, gCons, gNil, L2.start, wipe, List.map_cons, List.map_nil, List.length_cons, List.length_nil, List.cons_append, List.nil_append, List.append_nil, Nat.reduceAdd, Nat.reduceSub, List.replicate_succ, List.replicate_zero, List.getElem?_cons_zero, List.getElem?_cons_succ, List.set_cons_succ, List.set_cons_zero, Option.some.injEq, exists_eq_left', exists_eq_left, V.int.injEq, V.bl.injEq, V.str.injEq, V.ref.injEq, List.cons.injEq, exists_and_left, and_assoc, and_true, true_and, scal_ii, scal_ss, scal_nn, scal_bb, scal_ni, scal_in, decide_eq_true_eq, Bool.not_true, Bool.not_false, Bool.not_eq_true', decide_eq_false_iff_not, ite_not, reduceCtorEq, if_true, if_false, Bool.false_eq_true, ne_eq, not_true_eq_false, not_false_eq_true, Int.reduceLT, Int.reduceLE, Int.reduceNeg])
local macro_rules | `(tactic| walk_at "cm") => `(tactic| first | exact Or.inr ⟨by decide, by decide⟩ | exact Or.inl ⟨by decide, by decide⟩ | exact Or.inl ⟨by omega, by omega⟩ | exact Or.inr ⟨by omega, by omega⟩)
variable {K : PySem.W.Frag}
/-! ### what is no number of lines -/
theorem bad_at {H : Hp} {m : Int} (m0 : 0 ≤ m) {p7 p8 p9 pb : Addr} (h7 : H p7 = some (.lst [.int 4])) (h8 : H p8 = some (.tup [.int 4])) (h9 : H p9 = some (.dK [])) (hb : H pb = some (.lst [])) {k : Nat} (hk : k < 12) :
    ∃ v T, ([.int 0, .int 11, .int (-1 - m), .int (11 + m), .non, .bl true, .str "4", .ref p7, .ref p8, .ref p9, .bl false, .ref pb] : List V)[k]? = some v ∧ TyB K H v T ∧ noV v = false ∧ (k ≠ 0 → meV v = false) := by
  match k, hk with
  | 0, _ => exact ⟨_, _, rfl, .int _, by decide, fun z => absurd rfl z⟩
  | 1, _ => exact ⟨_, _, rfl, .int _, by decide, fun _ => by decide⟩
  | 2, _ => exact ⟨_, _, rfl, .int _, decide_eq_false (by omega), fun _ => decide_eq_false (by omega)⟩
  | 3, _ => exact ⟨_, _, rfl, .int _, decide_eq_false (by omega), fun _ => decide_eq_false (by omega)⟩
  | 4, _ => exact ⟨_, _, rfl, .non, rfl, fun _ => rfl⟩
  | 5, _ => exact ⟨_, _, rfl, .bl _, rfl, fun _ => rfl⟩
  | 6, _ => exact ⟨_, _, rfl, .str _, rfl, fun _ => rfl⟩
  | 7, _ => exact ⟨_, _, rfl, .lst (.inl (.inl h7)), rfl, fun _ => rfl⟩
  | 8, _ => exact ⟨_, _, rfl, .tup (.inl (.inl h8)), rfl, fun _ => rfl⟩
  | 9, _ => exact ⟨_, _, rfl, .dK h9, rfl, fun _ => rfl⟩
  | 10, _ => exact ⟨_, _, rfl, .bl _, rfl, fun _ => rfl⟩
  | 11, _ => exact ⟨_, _, rfl, .lst (.inl (.inl hb)), rfl, fun _ => rfl⟩
theorem rd_lbadlines (vs : List V) (H : Hp) (Q : VK) (E : XK) (h : sp_lbadlines K vs H Q E) : r_lbadlines K { nx := fun _ H' => Q .non H', rt := Q } (L2.start N_lbadlines vs) H := by
  obtain ⟨m, rfl, m0, q⟩ := h
  unfold r_lbadlines N_lbadlines tDNewK
  walk_at "ev"
  refine ⟨small_line (by decide), fun p7 k_p7 => ?_⟩
  have t_0 := same_new (o := (.lst [.int 4] : HO)) k_p7
  have f_p7 : (upd H p7 (.lst [.int 4])) p7 = some (.lst [.int 4]) := upd_same
  generalize upd H p7 (.lst [.int 4]) = H_0 at t_0 f_p7 ⊢
  have s_0 := t_0
  refine ⟨small_line (by decide), fun p8 k_p8 => ?_⟩
  have t_1 := same_new (o := (.tup [.int 4] : HO)) k_p8
  have f_p8 : (upd H_0 p8 (.tup [.int 4])) p8 = some (.tup [.int 4]) := upd_same
  generalize upd H_0 p8 (.tup [.int 4]) = H_1 at t_1 f_p8 ⊢
  have f_p7 := t_1 _ _ f_p7
  have s_1 := s_0.trans t_1
  intro p9 k_p9
  have t_2 := same_new (o := (.dK [] : HO)) k_p9
  have f_p9 : (upd H_1 p9 (.dK [])) p9 = some (.dK []) := upd_same
  generalize upd H_1 p9 (.dK []) = H_2 at t_2 f_p9 ⊢
  have f_p7 := t_2 _ _ f_p7
  have f_p8 := t_2 _ _ f_p8
  have s_2 := s_1.trans t_2
  refine ⟨small_line (by decide), fun pb k_pb => ?_⟩
  have t_3 := same_new (o := (.lst [] : HO)) k_pb
  have f_pb : (upd H_2 pb (.lst [])) pb = some (.lst []) := upd_same
  generalize upd H_2 pb (.lst []) = H_3 at t_3 f_pb ⊢
  have f_p7 := t_3 _ _ f_p7
  have f_p8 := t_3 _ _ f_p8
  have f_p9 := t_3 _ _ f_p9
  have s_3 := s_2.trans t_3
  refine ⟨small_line (by decide), fun D k_D => ?_⟩
  have t_4 := same_new (o := (.lst [.int 0, .int 11, .int (-1 - m), .int (11 + m), .non, .bl true, .str "4", .ref p7, .ref p8, .ref p9, .bl false, .ref pb] : HO)) k_D
  have f_D : (upd H_3 D (.lst [.int 0, .int 11, .int (-1 - m), .int (11 + m), .non, .bl true, .str "4", .ref p7, .ref p8, .ref p9, .bl false, .ref pb])) D = some (.lst [.int 0, .int 11, .int (-1 - m), .int (11 + m), .non, .bl true, .str "4", .ref p7, .ref p8, .ref p9, .bl false, .ref pb]) := upd_same
  generalize upd H_3 D (.lst [.int 0, .int 11, .int (-1 - m), .int (11 + m), .non, .bl true, .str "4", .ref p7, .ref p8, .ref p9, .bl false, .ref pb]) = H_4 at t_4 f_D ⊢
  have f_p7 := t_4 _ _ f_p7
  have f_p8 := t_4 _ _ f_p8
  have f_p9 := t_4 _ _ f_p9
  have f_pb := t_4 _ _ f_pb
  have s_4 := s_3.trans t_4
  obtain ⟨k, ek, kl⟩ : ∃ k : Nat, m % 12 = (k : Int) ∧ k < 12 := ⟨(m % 12).toNat, by omega, by omega⟩
  rw [ek] at q ⊢
  obtain ⟨v, T, gv, hT, no, me⟩ := bad_at (K := K) m0 f_p7 f_p8 f_p9 f_pb kl
  exact ⟨D, _, _, v, rfl, rfl, .inl (.inl f_D), atI_nat gv, q _ v T s_4 hT no fun z => me fun e => z (by rw [e]; rfl)⟩
end Sw

set_option Elab.async false
set_option linter.all false
set_option maxRecDepth 100000
set_option maxHeartbeats 4000000
namespace Sw
open PySem PySem.Spec PyProof.Rows L2
local macro_rules | `(tactic| walk_at "ev") => `(tactic| simp only [tSeq, tCalW, quiet, tRzA, tRzO, tTryT, tTryK, tJoin, tJs, tBM, tBits, kStrI, kIntS, kLenS, mSplit, mPart, mIndex, tAsg, tRet, tRetN, tOp, tUn, tVar, tC, tNil, tCons, tCB, tDrop, tNext, tCont, tBreak, tIfS, tIf, tTest, tChain, tChain3, tB, tTup, tLst, tAnd, tOr, tNot, tAndV, tOrV, tNotV, tPart, tNoPart, tSl, tCal, tAug, ipI, rI0, rI, rU, rEq, rNe, kMin, kMax, gName, gCons, gNil, L2.start, wipe, List.map_cons, List.map_nil, List.length_cons, List.length_nil, List.cons_append, List.nil_append, List.append_nil, Nat.reduceAdd, Nat.reduceSub, List.replicate_succ, List.replicate_zero, List.getElem?_cons_zero, List.getElem?_cons_succ, List.set_cons_succ, List.set_cons_zero, Option.some.injEq, exists_eq_left', exists_eq_left, V.int.injEq, V.bl.injEq, V.str.injEq, V.ref.injEq, List.cons.injEq, exists_and_left, and_assoc, and_true, true_and, scal_ii, scal_ss, scal_nn, scal_bb, scal_ni, scal_in, decide_eq_true_eq, Bool.not_true, Bool.not_false, Bool.not_eq_true', decide_eq_false_iff_not, ite_not, reduceCtorEq, if_true, if_false, Bool.false_eq_true, ne_eq, not_true_eq_false, not_false_eq_true, Int.reduceLT, Int.reduceLE, Int.reduceNeg])
local macro_rules | `(tactic| walk_at "cm") => `(tactic| first | exact Or.inr ⟨by decide, by decide⟩ | exact Or.inl ⟨by decide, by decide⟩ | exact Or.inl ⟨by omega, by omega⟩ | exact Or.inr ⟨by omega, by omega⟩)
variable {K : PySem.W.Frag}
/-! ### a wrong thing -/
def lw_r (K : PySem.W.Frag) : TS := tSeq (tIfS (tTest (tOp rNe (tOp (rIxT K) (tVar 8) (tC (.int 0))) (tC (.str "web")))) (tRet (tC (.bl true))) (tNext)) (tRet (tIf (tTest (tOp rIsN (tOp (rIxT K) (tVar 8) (tC (.int 1))) (tC .non))) (tOp rIsN (tXk K "place" (tVar 12)) (tC .non)) (tAndV (tCB (rIsK K) (tCons (tXk K "place" (tVar 12)) (tCons (tC (.ty "int")) (tNil)))) (tOp rEq (tXk K "place" (tVar 12)) (tOp (rIxT K) (tVar 8) (tC (.int 1)))))))
def lw_e (K : PySem.W.Frag) : TS := tSeq (tAsg (tIf (tB (tCB (rIsK K) (tCons (tVar 7) (tCons (tC (.ty "list")) (tNil))))) (tCB (kList K) (tCons (tVar 7) (tNil))) (tVar 7)) (gName 11)) (tSeq (tAsg (tCal (sp_ltried K) (tCons (tVar 5) (tCons (tVar 0) (tCons (tVar 7) (tCons (tVar 6) (tNil)))))) (gName 12)) (tSeq (tIfS (tOr (tTest (tOp rNe (tCal (sp_lword K) (tCons (tVar 12) (tNil))) (tOp (rIxT K) (tVar 8) (tC (.int 0))))) (tTest (tOp (rNeX K) (tVar 7) (tVar 11)))) (tRet (tC (.bl false))) (tNext)) (lw_r K)))
def lw_d (K : PySem.W.Frag) : TS := tSeq (tIfS (tAnd (tTest (tOp rEq (tVar 5) (tC (.int 11)))) (tAnd (tTest (tOp rEq (tOp (rIxT K) (tVar 8) (tC (.int 0))) (tC (.str "")))) (tTest (tOp (rEqD K) (tVar 1) (tLst (tNil)))))) (tRet (tC (.bl true))) (tNext)) (lw_e K)
def lw_c (K : PySem.W.Frag) : TS := tSeq (tIfS (tAnd (tOr (tTest (tOp oLt (tVar 5) (tC (.int 14)))) (tTest (tOp oGt (tVar 5) (tC (.int 18))))) (tTest (tOp rEq (tOp oMod (tOp oDiv (tVar 4) (tC (.int 500))) (tC (.int 4))) (tC (.int 1))))) (tSeq (tAsg (tCal (sp_lbadlines K) (tCons (tOp oDiv (tVar 4) (tC (.int 2000))) (tNil))) (gName 0)) (tAsg (tTup (tCons (tC (.str "lines")) (tCons (tC .non) (tNil)))) (gName 8))) (tNext)) (lw_d K)
def lw_b (K : PySem.W.Frag) : TS := tSeq (tIfS (tAnd (tOr (tTest (tOp oLt (tVar 5) (tC (.int 14)))) (tTest (tOp oGt (tVar 5) (tC (.int 18))))) (tTest (tOp rEq (tOp oMod (tOp oDiv (tVar 4) (tC (.int 44))) (tC (.int 2))) (tC (.int 1))))) (tSeq (tAsg (tCal (sp_lbadweb K) (tCons (tVar 0) (tCons (tVar 1) (tCons (tOp oDiv (tVar 4) (tC (.int 88))) (tNil))))) (gTup K 2 (gCons (gName 7) (gCons (gName 10) (gNil))))) (tAsg (tTup (tCons (tC (.str "web")) (tCons (tVar 10) (tNil)))) (gName 8))) (tNext)) (lw_c K)
theorem lw_t1 (K : PySem.W.Frag) : r_lwrong_t1 K = tSeq (tIfS (tAnd (tTest (tOp oGt (tVar 5) (tC (.int 8)))) (tTest (tOp rEq (tOp oMod (tOp oDiv (tVar 4) (tC (.int 22))) (tC (.int 2))) (tC (.int 1))))) (tSeq (tAsg (tCal (sp_lbadthing K) (tCons (tVar 5) (tCons (tVar 0) (tCons (tVar 1) (tCons (tOp oDiv (tVar 4) (tC (.int 88))) (tNil)))))) (gTup K 3 (gCons (gName 6) (gCons (gName 9) (gCons (gName 10) (gNil)))))) (tAsg (tTup (tCons (tVar 9) (tCons (tVar 10) (tNil)))) (gName 8))) (tNext)) (lw_b K) := rfl
theorem tyx_tyb {H : Hp} {v : V} {T : String} (h : TyB K H v T) : TyX K H v (.type T) := by
  cases h with
  | non => exact .base .non
  | bl b => exact .base (.bl b)
  | int i => exact .base (.int i)
  | str x => exact .base (.str x)
  | byt b => exact .byt b
  | lst h => exact tyx_lst h
  | tup h => exact tyx_tup h
  | dK h => exact .base (.dK h)
theorem askV_ok {H : Hp} {way : Nat} {lv cv tv : V} {d : Due} (h : AskV K H way lv cv tv d) : d ≠ .web .good := by
  cases h with
  | @one d hw h => exact fun z => by cases d <;> cases z
  | more hw h => exact moreV_ok h
/-- what was told holds against what is due -/
theorem lw_r_ok {H : Hp} {s0 s1 s2 s3 s4 s5 s6 s7 y9 y10 s11 : Option V} {dp : Addr} {due : Due} {o : Option Nat} {ev : V} {D : Ends} {Q : VK} (XB : L2.XfC K (He.ga K "BadWeb")) (NB : PySem.W.findIn K (.ref (He.ga K "BadWeb")) "place" = some none) (hrt : D.rt = Q) (q : Q (.bl true) H)
    (hdp : H dp = some (.tup [.str (dueU due), onV o])) (ok : due ≠ .web .good) (pl : due = .good ∨ PlD due o) (he : due ≠ .good → ∃ e, ev = .ref e ∧ KeptD K H e due) :
    lw_r K D [s0, s1, s2, s3, s4, s5, s6, s7, some (.ref dp), y9, y10, s11, some ev] H := by
  have hd : SqT K H dp [.str (dueU due), onV o] := .inl (.inl hdp)
  unfold lw_r tXk
  walk_at "ev"
  refine ⟨dp, _, _, _, rfl, rfl, hd, rfl, rfl, ?_⟩
  by_cases w : ∃ o', due = .web (.web o')
  · obtain ⟨o', e⟩ := w
    have eo : o = o' := by
      rcases pl with z | z | z
      · rw [e] at z; cases z
      · rw [e] at z; injection z with z; injection z with z; exact z.symm
      · exact absurd e (z.2 o')
    subst eo
    obtain ⟨a, rfl, d, hE, _, pl2⟩ := he (by rw [e]; exact fun z => nomatch z)
    obtain ⟨dd, rfl, hdd⟩ := pl2 o e
    have eu : dueU due = "web" := by rw [e]; rfl
    have ec : dueC due = "BadWeb" := by rw [e]; rfl
    rw [ec] at hE
    rw [eu] at hd ⊢
    rw [if_pos rfl]
    refine ⟨dp, _, _, _, rfl, rfl, hd, rfl, ?_⟩
    cases o with
    | none =>
      refine ⟨rfl, _, rfl, ?_⟩
      rw [show decide (onV none = V.non) = true from decide_eq_true rfl, if_pos rfl]
      refine ⟨a, rfl, He.ga K "BadWeb", dd, hE, _, hdd, XB, NB, .non, List.lookup_cons_self, rfl, ?_⟩
      rw [decide_eq_true rfl, hrt]
      exact q
    | some k =>
      refine ⟨rfl, _, rfl, ?_⟩
      rw [show decide (onV (some k) = V.non) = false from decide_eq_false (fun z => nomatch z), if_neg Bool.false_ne_true]
      refine ⟨a, rfl, He.ga K "BadWeb", dd, hE, _, hdd, XB, NB, .int (k : Int), List.lookup_cons_self, ?_⟩
      refine isk_ty (.base (.int _)) (b := true) (by decide +kernel) ⟨true, rfl, ?_⟩
      rw [if_pos rfl]
      refine ⟨a, rfl, He.ga K "BadWeb", dd, hE, _, hdd, XB, NB, .int (k : Int), List.lookup_cons_self, ?_⟩
      refine ⟨dp, _, _, _, rfl, rfl, hd, rfl, rfl, ?_⟩
      rw [hrt, show decide (V.int (k : Int) = onV (some k)) = true from decide_eq_true rfl]
      exact q
  · have nu : dueU due ≠ "web" := fun z => by
      cases due with
      | web d =>
        cases d with
        | good => exact ok rfl
        | lines => exact absurd z (by decide +kernel)
        | web o' => exact w ⟨o', rfl⟩
      | good => exact absurd z (by decide +kernel)
      | row => exact absurd z (by decide +kernel)
      | place => exact absurd z (by decide +kernel)
      | order => exact absurd z (by decide +kernel)
    rw [if_neg fun z => nu (by injection z), hrt]
    exact q
theorem err_word : ∀ d : Due, d ≠ .good → d ≠ .web .good → (dueC d, dueU d) ∈ errWs := fun d n1 n2 => by
  unfold errWs
  cases d with
  | good => exact absurd rfl n1
  | web d =>
    cases d with
    | good => exact absurd rfl n2
    | lines => simp [dueC, dueU]
    | web o => simp [dueC, dueU]
  | row => simp [dueC, dueU]
  | place => simp [dueC, dueU]
  | order => simp [dueC, dueU]
theorem ne_data {H : Hp} {x y : V} {d : PyData} {Q : VK} (h1 : Dp K H x d) (h2 : Dp K H y d) (sh : SeqAt.shaped d = true) (e : PyData.eqv d d = true) (q : Q (.bl false) H) : rNeX K x y H Q :=
  .inl ⟨d, d, h1, h2, sh, sh, by rw [e]; exact q⟩
theorem lw_e_ok {H : Hp} {lv tv wv : V} {a dp : Addr} {c k m : Int} {way : Nat} {due : Due} {o : Option Nat} {D : Ends} {Q : VK} (XB : L2.XfC K (He.ga K "BadWeb")) (NB : PySem.W.findIn K (.ref (He.ga K "BadWeb")) "place" = some none) (hrt : D.rt = Q) (q : ∀ H', Same H H' → Q (.bl true) H')
    (ask : ∀ H', Same H H' → AskV K H' way lv wv tv due) (bd : BadD K H wv) (hdp : H dp = some (.tup [.str (dueU due), onV o])) (pl : due = .good ∨ PlD due o) {y9 y10 : Option V} :
    lw_e K D [some lv, some (.ref a), some (.int c), some (.int k), some (.int m), some (.int (way : Int)), some tv, some wv, some (.ref dp), y9, y10, none, none] H := by
  have ok := askV_ok (ask H (.refl H))
  have core : ∀ (x : V) (H1 : Hp), Same H H1 → (∀ H2 (Q' : VK), Same H1 H2 → Q' (.bl false) H2 → rNeX K wv x H2 Q') →
      sp_ltried K [V.int (way : Int), lv, wv, tv] H1
        (fun x_1 H1 =>
          sp_lword K [x_1] H1
            (fun x_2 H1 =>
              rIxT K (V.ref dp) (V.int 0) H1 fun y H2 =>
                scal x_2 y = true ∧
                  if x_2 = y then
                    rNeX K wv x H2 fun x_3 H' =>
                      ∃ k_1,
                        x_3 = V.bl k_1 ∧
                          if k_1 = true then D.rt (V.bl false) H'
                          else
                            lw_r K D
                              [some lv, some (V.ref a), some (V.int c), some (V.int k), some (V.int m),
                                some (V.int (way : Int)), some tv, some wv, some (V.ref dp), y9, y10, some x, some x_1]
                              H'
                  else D.rt (V.bl false) H2)
            E0)
        E0 := fun x H1 s1 ne => by
    have fin : ∀ (ev : V) (H2 : Hp), Same H1 H2 → (due ≠ .good → ∃ e, ev = .ref e ∧ KeptD K H2 e due) → rIxT K (V.ref dp) (V.int 0) H2 (fun y H2 =>
                scal (.str (dueU due)) y = true ∧
                  if (V.str (dueU due)) = y then
                    rNeX K wv x H2 fun x_3 H' =>
                      ∃ k_1,
                        x_3 = V.bl k_1 ∧
                          if k_1 = true then D.rt (V.bl false) H'
                          else
                            lw_r K D
                              [some lv, some (V.ref a), some (V.int c), some (V.int k), some (V.int m),
                                some (V.int (way : Int)), some tv, some wv, some (V.ref dp), y9, y10, some x, some ev]
                              H'
                  else D.rt (V.bl false) H2) := fun ev H2 s2 he => by
      have s12 := s1.trans s2
      refine ⟨dp, _, _, _, rfl, rfl, .inl (.inl (s12 _ _ hdp)), rfl, rfl, ?_⟩
      rw [if_pos rfl]
      refine ne H2 _ s2 ⟨false, rfl, ?_⟩
      rw [if_neg Bool.false_ne_true]
      exact lw_r_ok XB NB hrt (q _ s12) (s12 _ _ hdp) ok pl he
    refine ⟨way, lv, wv, tv, due, rfl, ask H1 s1, fun g H2 s2 => ?_, fun ng H2 e s2 kept => ?_⟩
    · refine ⟨.non, dueU due, rfl, .inl ⟨rfl, by rw [g]; rfl⟩, fun H3 s3 => fin .non H3 (s2.trans s3) fun z => absurd g z⟩
    · obtain ⟨d, hE, hD, pl2⟩ := id kept
      refine ⟨.ref e, dueU due, rfl, .inr ⟨e, d, dueC due, rfl, hE, hD, err_word due ng ok⟩, fun H3 s3 => fin (.ref e) H3 (s2.trans s3) fun _ => ⟨e, rfl, d, s3 _ _ hE, dic_same s3 hD, fun o e => ?_⟩⟩
      obtain ⟨dd, ed, hdd⟩ := pl2 o e
      exact ⟨dd, ed, s3 _ _ hdd⟩
  unfold lw_e
  walk_at "ev"
  rcases bd with ⟨l, xs, ds, rfl, hx, hd, sh, e⟩ | ⟨T, d, ht, ne, hd, sh, e⟩ | ⟨b, rfl, hb⟩
  · refine isk_ty (tyx_lst hx) (b := true) (by decide +kernel) ⟨true, rfl, ?_⟩
    rw [if_pos rfl]
    refine ⟨l, xs, rfl, .inl hx, fun u nu => ?_⟩
    have s := same_new (o := .lst xs) nu
    have hu : (upd H u (.lst xs)) u = some (.lst xs) := upd_same
    generalize upd H u (.lst xs) = H1 at s hu ⊢
    exact core _ H1 s fun H2 Q' s2 q' => ne_data (d := .list ds) (.lst ((s.trans s2).seq hx) (dps_same (s.trans s2) hd)) (.lst (.inl (.inl (s2 _ _ hu))) (dps_same (s.trans s2) hd)) sh e q'
  · refine isk_ty (tyx_tyb ht) (b := false) ?_ ⟨false, rfl, ?_⟩
    · cases ht with
      | lst h => exact absurd rfl ne
      | _ => decide +kernel
    rw [if_neg Bool.false_ne_true]
    exact core _ H (.refl H) fun H2 Q' s2 q' => ne_data (dp_same s2 hd) (dp_same s2 hd) sh e q'
  · refine isk_ty (.base (.dK hb)) (b := false) (by decide +kernel) ⟨false, rfl, ?_⟩
    rw [if_neg Bool.false_ne_true]
    exact core _ H (.refl H) fun H2 Q' s2 q' => .inr ⟨b, b, [], [], rfl, rfl, s2 _ _ hb, s2 _ _ hb, rfl, fun p hp => absurd hp List.not_mem_nil, q'⟩
theorem dueU_none {d : Due} (h : dueU d = "") : d = .good := by
  cases d with
  | good => rfl
  | web d =>
    cases d with
    | good => exact absurd (show ("web" : Str) = "" from h) (by decide +kernel)
    | lines => exact absurd (show ("lines" : Str) = "" from h) (by decide +kernel)
    | web o => exact absurd (show ("web" : Str) = "" from h) (by decide +kernel)
  | row => exact absurd h (by decide +kernel)
  | place => exact absurd h (by decide +kernel)
  | order => exact absurd h (by decide +kernel)
theorem eq_websL {H : Hp} {a b : Addr} {ps qs : List Addr} {cs ds : List Cmp} {Q : VK} (h1 : SqL K H a (Rfs ps)) (h2 : Prs K H ps cs) (h3 : SqL K H b (Rfs qs)) (h4 : Prs K H qs ds) (q : Q (.bl (decide (cs = ds))) H) : rEqD K (.ref a) (.ref b) H Q :=
  ⟨dCs cs, dCs ds, dp_web h1 h2, dp_web h3 h4, enc_cmps.shaped (by decide) _, enc_cmps.shaped (by decide) _, by rw [enc_cmps.eq]; exact q⟩
theorem lw_d_ok {H : Hp} {lv tv wv : V} {a dp : Addr} {n : Nat} {cs : List Cmp} {c k m : Int} {way : Nat} {due : Due} {o : Option Nat} {D : Ends} {Q : VK} (XB : L2.XfC K (He.ga K "BadWeb")) (NB : PySem.W.findIn K (.ref (He.ga K "BadWeb")) "place" = some none) (hrt : D.rt = Q) (q : ∀ H', Same H H' → Q (.bl true) H')
    (wh : WebH K H a n cs) (ask : ¬ (way = 11 ∧ due = .good ∧ cs = []) → ∀ H', Same H H' → AskV K H' way lv wv tv due) (bd : BadD K H wv) (hdp : H dp = some (.tup [.str (dueU due), onV o])) (pl : due = .good ∨ PlD due o) {y9 y10 : Option V} :
    lw_d K D [some lv, some (.ref a), some (.int c), some (.int k), some (.int m), some (.int (way : Int)), some tv, some wv, some (.ref dp), y9, y10, none, none] H := by
  obtain ⟨ps, ha, hps, _⟩ := id wh
  unfold lw_d
  walk_at "ev"
  by_cases w : way = 11
  · rw [if_pos (by omega)]
    refine ⟨dp, _, _, _, rfl, rfl, .inl (.inl hdp), rfl, ?_⟩
    refine ⟨rfl, ?_⟩
    by_cases z : dueU due = ""
    · rw [if_pos (by rw [z])]
      refine ⟨Nat.zero_le _, fun e ke => ?_⟩
      have s := same_new (o := .lst ([] : List V)) ke
      refine eq_websL (qs := []) (ds := []) (.inl (.inl (s _ _ ha))) (Same.prs s hps) (.inl (.inl upd_same)) .nil ?_
      generalize upd H e (.lst ([] : List V)) = H1 at s ⊢
      by_cases y : cs = []
      · rw [decide_eq_true y]
        refine ⟨true, rfl, ?_⟩
        rw [if_pos rfl, hrt]
        exact q _ s
      · rw [decide_eq_false y]
        refine ⟨false, rfl, ?_⟩
        rw [if_neg Bool.false_ne_true]
        exact lw_e_ok XB NB hrt (fun H' s2 => q H' (s.trans s2)) (fun H' s2 => ask (fun z => y z.2.2) H' (s.trans s2)) (badD_same s bd) (s _ _ hdp) pl
    · rw [if_neg fun y => z (by injection y)]
      exact lw_e_ok XB NB hrt q (ask fun y => z (by rw [y.2.1]; rfl)) bd hdp pl
  · rw [if_neg (by omega)]
    exact lw_e_ok XB NB hrt q (ask fun z => w z.1) bd hdp pl
/-- ways that are handed a web -/
def WebW (way : Nat) : Prop := way < 14 ∨ 18 < way
theorem ask_web {H : Hp} {way : Nat} {lv cv tv : V} {d : Verd} (w21 : way ≤ 21) (w : WebW way) (h : WebV K H lv cv d) (ne : d ≠ .good) : AskV K H way lv cv tv (.web d) := by
  by_cases w8 : way ≤ 8
  · have e : dueW d = .web d := by cases d <;> first | exact absurd rfl ne | rfl
    rw [← e]
    exact .one w8 h
  · exact .more (by omega) (.web (by unfold WebW at w; omega) h ne)
theorem lw_c_ok {H : Hp} {tv wv : V} {a dp : Addr} {n : Nat} {cs : List Cmp} {c k m : Int} {way : Nat} {due : Due} {o : Option Nat} {D : Ends} {Q : VK} (XB : L2.XfC K (He.ga K "BadWeb")) (NB : PySem.W.findIn K (.ref (He.ga K "BadWeb")) "place" = some none) (hrt : D.rt = Q) (q : ∀ H', Same H H' → Q (.bl true) H')
    (m0 : 0 ≤ m) (w21 : way ≤ 21) (wh : WebH K H a n cs) (ask : ¬ (way = 11 ∧ due = .good ∧ cs = []) → ∀ H', Same H H' → AskV K H' way (.int (n : Int)) wv tv due) (bd : BadD K H wv) (hdp : H dp = some (.tup [.str (dueU due), onV o])) (pl : due = .good ∨ PlD due o) {y9 y10 : Option V} :
    lw_c K D [some (.int (n : Int)), some (.ref a), some (.int c), some (.int k), some (.int m), some (.int (way : Int)), some tv, some wv, some (.ref dp), y9, y10, none, none] H := by
  obtain ⟨ps, ha, hps, r⟩ := id wh
  have no : lw_d K D [some (.int (n : Int)), some (.ref a), some (.int c), some (.int k), some (.int m), some (.int (way : Int)), some tv, some wv, some (.ref dp), y9, y10, none, none] H := lw_d_ok XB NB hrt q wh ask bd hdp pl
  have yes : WebW way → sp_lbadlines K [V.int (m / 2000)] H (fun x H1 => 2 ≤ sizeLine ∧ ∀ p, H1 p = none → lw_d K D [some x, some (.ref a), some (.int c), some (.int k), some (.int m), some (.int (way : Int)), some tv, some wv, some (.ref p), y9, y10, none, none] (upd H1 p (.tup [.str "lines", .non]))) E0 := fun w => by
    refine ⟨m / 2000, rfl, by omega, fun H1 v T s1 ht nv _ => ⟨small_line (by decide), fun p np => ?_⟩⟩
    have sp := same_new (o := .tup [.str "lines", .non]) np
    have s := s1.trans sp
    refine lw_d_ok (due := .web .lines) (o := none) XB NB hrt (fun H' s2 => q H' (s.trans s2)) ⟨ps, s _ _ ha, Same.prs s hps, r⟩ (fun _ H' s2 => ask_web w21 w (.lines (tyb_same (sp.trans s2) ht) nv) (fun z => nomatch z)) (badD_same s bd) upd_same (.inr (.inr ⟨rfl, fun o' z => nomatch z⟩))
  unfold lw_c
  walk_at "ev"
  by_cases w1 : way < 14
  · rw [if_pos (by omega)]
    refine ⟨⟨by decide, by decide⟩, ?_⟩
    split
    · exact ⟨⟨by decide, by decide⟩, yes (.inl w1)⟩
    · exact no
  · rw [if_neg (by omega)]
    by_cases w2 : 18 < way
    · rw [if_pos (by omega)]
      refine ⟨⟨by decide, by decide⟩, ?_⟩
      split
      · exact ⟨⟨by decide, by decide⟩, yes (.inr w2)⟩
      · exact no
    · rw [if_neg (by omega)]
      exact no
theorem webV_few {H : Hp} {lv v : V} {o : Option Nat} (h : WebV K H lv v (.web o)) : ∀ k, o = some k → k ≤ 1000 := fun k e => by
  subst e
  cases h with
  | item hn hx hl ok hy bad =>
    have := (List.getElem?_eq_some_iff.mp hy).1
    omega
theorem lw_b_ok {H : Hp} {tv wv : V} {a dp : Addr} {n : Nat} {cs : List Cmp} {c k m : Int} {way : Nat} {due : Due} {o : Option Nat} {D : Ends} {Q : VK} (XB : L2.XfC K (He.ga K "BadWeb")) (NB : PySem.W.findIn K (.ref (He.ga K "BadWeb")) "place" = some none) (hrt : D.rt = Q) (q : ∀ H', Same H H' → Q (.bl true) H')
    (m0 : 0 ≤ m) (w21 : way ≤ 21) (wh : WebH K H a n cs) (ask : ¬ (way = 11 ∧ due = .good ∧ cs = []) → ∀ H', Same H H' → AskV K H' way (.int (n : Int)) wv tv due) (bd : BadD K H wv) (hdp : H dp = some (.tup [.str (dueU due), onV o])) (pl : due = .good ∨ PlD due o) {y9 y10 : Option V} :
    lw_b K D [some (.int (n : Int)), some (.ref a), some (.int c), some (.int k), some (.int m), some (.int (way : Int)), some tv, some wv, some (.ref dp), y9, y10, none, none] H := by
  obtain ⟨ps, ha, hps, r⟩ := id wh
  have no : lw_c K D [some (.int (n : Int)), some (.ref a), some (.int c), some (.int k), some (.int m), some (.int (way : Int)), some tv, some wv, some (.ref dp), y9, y10, none, none] H := lw_c_ok XB NB hrt q m0 w21 wh ask bd hdp pl
  have yes0 : ∀ (v : V) (o : Option Nat) (H1 : Hp) (p : Addr), WebW way → Same H H1 → WebV K H1 (.int (n : Int)) v (.web o) → BadD K H1 v → H1 p = none → lw_c K D [some (.int (n : Int)), some (.ref a), some (.int c), some (.int k), some (.int m), some (.int (way : Int)), some tv, some v, some (.ref p), y9, some (onV o), none, none] (upd H1 p (.tup [.str "web", onV o])) := fun v o H1 p w s1 hv bv np => by
    have sp := same_new (o := .tup [.str "web", onV o]) np
    have s := s1.trans sp
    exact lw_c_ok (due := .web (.web o)) (o := o) XB NB hrt (fun H' s2 => q H' (s.trans s2)) m0 w21 ⟨ps, s _ _ ha, Same.prs s hps, r⟩ (fun _ H' s2 => ask_web w21 w (webV_same (sp.trans s2) hv) (fun z => nomatch z)) (badD_same sp bv) upd_same (.inr (.inl rfl))
  unfold lw_b
  walk_at "ev"
  by_cases w1 : way < 14
  · rw [if_pos (by omega)]
    refine ⟨⟨by decide, by decide⟩, ?_⟩
    split
    · refine ⟨⟨by decide, by decide⟩, n, a, m / 88, cs, rfl, by omega, wh, fun H1 p v o s1 np hp hv bv => ?_⟩
      refine g2_run (.inl (.inl hp)) ?_
      walk_at "ev"
      exact ⟨small_line (by decide), fun p2 np2 => yes0 v o H1 p2 (.inl w1) s1 hv bv np2⟩
    · exact no
  · rw [if_neg (by omega)]
    by_cases w2 : 18 < way
    · rw [if_pos (by omega)]
      refine ⟨⟨by decide, by decide⟩, ?_⟩
      split
      · refine ⟨⟨by decide, by decide⟩, n, a, m / 88, cs, rfl, by omega, wh, fun H1 p v o s1 np hp hv bv => ?_⟩
        refine g2_run (.inl (.inl hp)) ?_
        walk_at "ev"
        exact ⟨small_line (by decide), fun p2 np2 => yes0 v o H1 p2 (.inr w2) s1 hv bv np2⟩
      · exact no
    · rw [if_neg (by omega)]
      exact no
theorem t1_ok {H : Hp} {tv : V} {a dp w : Addr} {n : Nat} {cs : List Cmp} {c k m : Int} {way : Nat} {due : Due} {o : Option Nat} {D : Ends} {Q : VK} (XB : L2.XfC K (He.ga K "BadWeb")) (NB : PySem.W.findIn K (.ref (He.ga K "BadWeb")) "place" = some none) (hrt : D.rt = Q) (q : ∀ H', Same H H' → Q (.bl true) H')
    (m0 : 0 ≤ m) (w21 : way ≤ 21) (wh : WebH K H a n cs) (ww : WebH K H w n cs) (n8 : n ≤ 8) (th : ¬ (way = 11 ∧ due = .good ∧ cs = []) → ThV K H n cs way tv due) (hdp : H dp = some (.tup [.str (dueU due), onV o])) (pl : due = .good ∨ PlD due o) {y9 y10 : Option V} :
    r_lwrong_t1 K D [some (.int (n : Int)), some (.ref a), some (.int c), some (.int k), some (.int m), some (.int (way : Int)), some tv, some (.ref w), some (.ref dp), y9, y10, none, none] H := by
  obtain ⟨ps, ha, hps, r⟩ := id wh
  obtain ⟨qs, hw, hqs, r2⟩ := id ww
  have bd : BadD K H (.ref w) := badD_list (.inl (.inl hw)) (dit_prs hqs)
  rw [lw_t1]
  walk_at "ev"
  have no : lw_b K D [some (.int (n : Int)), some (.ref a), some (.int c), some (.int k), some (.int m), some (.int (way : Int)), some tv, some (.ref w), some (.ref dp), y9, y10, none, none] H :=
    lw_b_ok XB NB hrt q m0 w21 wh (fun z H' s => thV_ask (thV_same s (th z)) ⟨qs, s _ _ hw, Same.prs s hqs, r2⟩ n8) bd hdp pl
  by_cases w8 : 8 < way
  · rw [if_pos (by omega)]
    refine ⟨⟨by decide, by decide⟩, ?_⟩
    split
    · refine ⟨⟨by decide, by decide⟩, way, n, a, m / 88, cs, rfl, ⟨by omega, w21⟩, by omega, wh, n8, fun H1 p v due' o' s1 np hp ht ne pl' => ?_⟩
      refine ⟨p, _, rfl, .inl (.inl hp), rfl, _, _, rfl, _, _, rfl, _, [], rfl, rfl, ?_⟩
      walk_at "ev"
      refine ⟨small_line (by decide), fun p2 np2 => ?_⟩
      have sp := same_new (o := .tup [.str (dueU due'), onV o']) np2
      have s := s1.trans sp
      exact lw_b_ok (due := due') (o := o') XB NB hrt (fun H' s2 => q H' (s.trans s2)) m0 w21 ⟨ps, s _ _ ha, Same.prs s hps, r⟩ (fun _ H' s2 => thV_ask (thV_same (sp.trans s2) ht) ⟨qs, (s.trans s2) _ _ hw, Same.prs (s.trans s2) hqs, r2⟩ n8) (badD_same s bd) upd_same (.inr pl')
    · exact no
  · rw [if_neg (by omega)]
    exact no
theorem rd_lwrong (XB : L2.XfC K (He.ga K "BadWeb")) (NB : PySem.W.findIn K (.ref (He.ga K "BadWeb")) "place" = some none) (vs : List V) (H : Hp) (Q : VK) (E : XK) (h : sp_lwrong K vs H Q E) : r_lwrong K { nx := fun _ H' => Q .non H', rt := Q } (L2.start N_lwrong vs) H := by
  obtain ⟨n, a, c, k, cs, rfl, ⟨k0, k1⟩, wh, n8, q⟩ := h
  obtain ⟨ps, ha, hps, r⟩ := id wh
  unfold r_lwrong N_lwrong
  walk_at "ev"
  refine ⟨c, k, 30, rfl, ⟨k0, k1⟩, ⟨by decide, by decide⟩, fun m m0 m1 => ?_⟩
  obtain ⟨way, ew, w22⟩ : ∃ way : Nat, m % 22 = (way : Int) ∧ way < 22 := ⟨(m % 22).toNat, by omega, by omega⟩
  refine ⟨m, rfl, ?_⟩
  rw [ew]
  refine ⟨way, n, a, cs, rfl, by omega, wh, n8, fun H1 tv s1 th => ?_⟩
  refine ⟨a, _, rfl, .inl (.inl (.inl (s1 _ _ ha))), fun w nw => ?_⟩
  have s2 := same_new (o := .lst (Rfs ps)) nw
  have hw : (upd H1 w (.lst (Rfs ps))) w = some (.lst (Rfs ps)) := upd_same
  generalize upd H1 w (.lst (Rfs ps)) = H2 at s2 hw ⊢
  refine ⟨small_line (by decide), fun p np => ?_⟩
  have s3 := same_new (o := .tup [.str "", .non]) np
  have fp : (upd H2 p (.tup [.str "", .non])) p = some (.tup [.str (dueU .good), onV none]) := upd_same
  generalize upd H2 p (.tup [.str "", .non]) = H3 at s3 fp ⊢
  have s13 := s1.trans (s2.trans s3)
  have whs : ∀ H', Same H3 H' → WebH K H' a n cs := fun H' s => ⟨ps, (s13.trans s) _ _ ha, Same.prs (s13.trans s) hps, r⟩
  have wws : ∀ H', Same H3 H' → WebH K H' w n cs := fun H' s => ⟨ps, (s3.trans s) _ _ hw, Same.prs (s13.trans s) hps, r⟩
  have ths : ∀ H', Same H3 H' → ThV K H' n cs way tv (gDue way cs) := fun H' s => thV_same (s2.trans (s3.trans s)) th
  have go : ∀ (due : Due) (dp : Addr) (H' : Hp), Same H3 H' → H' dp = some (.tup [.str (dueU due), onV none]) → (due = .good ∨ PlD due none) → (¬ (way = 11 ∧ due = .good ∧ cs = []) → gDue way cs = due) →
      r_lwrong_t1 K { nx := fun _ H' => Q .non H', rt := Q } [some (.int (n : Int)), some (.ref a), some (.int c), some (.int k), some (.int m), some (.int (way : Int)), some tv, some (.ref w), some (.ref dp), none, none, none, none] H' := fun due dp H' s hdp pl hg =>
    t1_ok (due := due) (o := none) XB NB rfl (fun H2 s2 => q H2 (s13.trans (s.trans s2))) m0 (by omega) (whs _ s) (wws _ s) n8 (fun z => hg z ▸ ths _ s) hdp pl
  by_cases z : way = 21
  · rw [if_pos (by omega)]
    refine ⟨small_line (by decide), fun p2 np2 => ?_⟩
    refine go (.web .lines) p2 _ (same_new np2) upd_same (.inr (.inr ⟨rfl, fun o' z => nomatch z⟩)) fun _ => ?_
    unfold gDue
    rw [if_pos z]
  · rw [if_neg (by omega)]
    unfold r_lwrong_e1
    walk_at "ev"
    have plain : ¬ (way = 19 ∧ cs.length = 60) → ¬ (way = 11 ∧ Due.good = .good ∧ cs = []) → gDue way cs = .good := fun z1 z2 => by
      unfold gDue
      rw [if_neg z, if_neg z1, if_neg fun y => z2 ⟨y.1, rfl, y.2⟩]
    by_cases y : way = 19
    · rw [if_pos (by omega)]
      refine ⟨a, _, rfl, .inl (.inl (.inl (s13 _ _ ha))), rfl, ?_⟩
      rw [rfs_len, hps.length]
      by_cases x : cs.length = 60
      · rw [if_pos (by rw [x]; rfl)]
        refine ⟨small_line (by decide), fun p2 np2 => ?_⟩
        refine go (.web (.web none)) p2 _ (same_new np2) upd_same (.inr (.inl rfl)) fun _ => ?_
        unfold gDue
        rw [if_neg z, if_pos ⟨y, x⟩]
      · rw [if_neg fun e => x (by injection e with e; omega)]
        exact go .good p _ (.refl H3) fp (.inl rfl) (plain fun e => x e.2)
    · rw [if_neg (by omega)]
      exact go .good p _ (.refl H3) fp (.inl rfl) (plain fun e => y e.1)
end Sw

set_option Elab.async false
set_option linter.all false
set_option maxRecDepth 100000
set_option maxHeartbeats 4000000
namespace Sw
open PySem PySem.Spec PyProof.Rows L2
theorem xw_of {K : PySem.W.Frag} (x1 : PySem.W.exmOne K (.ref (He.ga K "BadLines")) (.ref (He.ga K "WebError")) = some true) (x2 : PySem.W.exmOne K (.ref (He.ga K "BadWeb")) (.ref (He.ga K "WebError")) = some true) (x3 : PySem.W.exmOne K (.ref (He.ga K "BadRow")) (.ref (He.ga K "WebError")) = some true) (x4 : PySem.W.exmOne K (.ref (He.ga K "BadPlace")) (.ref (He.ga K "WebError")) = some true)
    (x5 : PySem.W.exmOne K (.ref (He.ga K "BadOrder")) (.ref (He.ga K "WebError")) = some true) (x6 : PySem.W.exmOne K (.ref (He.ga K "BadText")) (.ref (He.ga K "WebError")) = some true) (x7 : PySem.W.exmOne K (.ref (He.ga K "NothingPut")) (.ref (He.ga K "WebError")) = some true) :
    ∀ C u, (C, u) ∈ errWs → PySem.W.exmOne K (.ref (He.ga K C)) (.ref (He.ga K "WebError")) = some true := fun C u h => by
  unfold errWs at h
  simp only [List.mem_cons, Prod.mk.injEq, List.not_mem_nil, or_false] at h
  rcases h with ⟨rfl, _⟩ | ⟨rfl, _⟩ | ⟨rfl, _⟩ | ⟨rfl, _⟩ | ⟨rfl, _⟩ | ⟨rfl, _⟩ | ⟨rfl, _⟩
  · exact x1
  · exact x2
  · exact x3
  · exact x4
  · exact x5
  · exact x6
  · exact x7
/-! ## The head -/
def fnL : List He.DefD := [defD "is_whole" s_iswhole, defD "is_comparer" s_iscomparer, defD "_is_line" s_isline, defD "need_lines" s_needlines, defD "need_web" s_needweb, defD "need_row" s_needrow, defD "all_columns" s_allcolumns, defD "greater" s_greater, defD "behind" s_behind, defD "columns_out" s_columnsout, defD "first_row" s_firstrow, defD "row_of" s_rowof, metD "Bench" "__init__" "Bench.__init__" s_binit, defD "layers" s_layers, defD "chain" s_chain, defD "_depths" s_depths, defD "_meet" s_meet, defD "unsorted" s_unsorted, defD "stirring" s_stirring, defD "needless" s_needless, defD "pruned" s_pruned, defD "differing" s_differing, defD "_need_place" s_needplace, defD "merging" s_merging, defD "sorting" s_sorting, defD "beside" s_beside, defD "_need_part" s_needpart, defD "_merging" s_pmerging, defD "_sorting" s_psorting, defD "run" s_run, defD "steps" s_steps, ⟨("behind_running", none), "_behind", "_behind", defArgs s_rbehind, defBody s_rbehind, defScope s_rbehind, [], []⟩, defD "web_text" s_webtext, defD "renamed" s_renamed, defD "upside" s_upside, defD "straightened" s_straightened, defD "_need_order" s_needorder, defD "_law_draw" s_ldraw, defD "_law_bricks" s_lbricks, defD "_law_comparer" s_lcomparer, defD "_law_web" s_lweb, defD "_law_word" s_lword, defD "_law_one_asked" s_loneasked, defD "_law_more_asked" s_lmoreasked, defD "_law_tried" s_ltried, defD "_law_bad_lines" s_lbadlines, defD "_law_bad_web" s_lbadweb, defD "_law_bad_thing" s_lbadthing, defD "_law_good_thing" s_lgoodthing, defD "_law_wrong" s_lwrong, defD "law" s_law, metD "BadWeb" "__init__" "BadWeb.__init__" s_initBadWeb]
def faL : List He.Fa := [.glo "is_whole", .glo "is_comparer", .glo "_is_line", .glo "need_lines", .glo "need_web", .glo "need_row", .glo "all_columns", .glo "greater", .glo "behind", .glo "columns_out", .glo "first_row", .glo "row_of", .glo "layers", .glo "chain", .glo "_depths", .glo "_meet", .glo "unsorted", .glo "stirring", .glo "needless", .glo "pruned", .glo "differing", .glo "_need_place", .glo "merging", .glo "sorting", .glo "beside", .glo "_need_part", .glo "_merging", .glo "_sorting", .glo "run", .glo "steps", .glo "behind_running", .glo "web_text", .glo "renamed", .glo "upside", .glo "straightened", .glo "_need_order", .glo "_law_draw", .glo "_law_bricks", .glo "_law_comparer", .glo "_law_web", .glo "_law_word", .glo "_law_one_asked", .glo "_law_more_asked", .glo "_law_tried", .glo "_law_bad_lines", .glo "_law_bad_web", .glo "_law_bad_thing", .glo "_law_good_thing", .glo "_law_wrong", .glo "law", .glo "BadLines", .glo "BadOrder", .glo "BadPlace", .glo "BadRow", .glo "BadText", .glo "BadWeb", .glo "Bench", .glo "NothingPut", .glo "WebError", .free "ValueError", .free "all", .free "enumerate", .free "int", .free "isinstance", .free "len", .free "list", .free "max", .free "min", .free "range", .free "reversed", .free "sorted", .free "sum", .free "tuple", .free "type", .free "zip", .int "MOST_COMPARERS" 60, .int "MOST_LINES" 10, .exc "BadLines", .exc "BadOrder", .exc "BadPlace", .exc "BadRow", .exm "BadLines" "WebError" true, .exm "BadWeb" "WebError" true, .exm "BadRow" "WebError" true, .exm "BadPlace" "WebError" true, .exm "BadOrder" "WebError" true, .exm "BadText" "WebError" true, .exm "NothingPut" "WebError" true, .cls "Bench", .noat "Bench" "_lines", .noat "Bench" "_comparers", .noat "Bench" "_rows", .mkr "Bench"]
def looseL : List Str := (["_wall", "WebError", "BadLines", "BadRow", "BadPlace", "BadOrder", "BadText", "NothingPut", "BadWeb", "MOST_LINES", "MOST_COMPARERS", "is_whole", "is_comparer", "_is_line", "need_lines", "need_web", "need_row", "all_columns", "greater", "behind", "columns_out", "first_row", "row_of", "Bench", "_behind", "behind_bench", "layers", "chain", "_depths", "_meet"] : List Str) ++ (["unsorted", "stirring", "needless", "pruned", "differing", "_need_place", "merging", "sorting", "beside", "_need_part", "_merging", "_sorting", "run", "steps", "behind_running", "web_text", "renamed", "upside", "straightened", "_need_order", "_law_draw", "_law_bricks", "_law_comparer", "_law_web", "_law_word", "_law_one_asked", "_law_more_asked", "_law_tried", "_law_bad_lines", "_law_bad_web"] : List Str) ++ (["_law_bad_thing", "_law_good_thing", "_law_wrong"] : List Str)
def exL (K : PySem.W.Frag) : Bool := winB K "WebError" && (owB K "BadWeb" "place" && (errFB K && (xfB K (He.ga K "BadWeb") && decide (PySem.W.findIn K (.ref (He.ga K "BadWeb")) "place" = some none))))
abbrev rowL : PySem.W.OpenRow := PySem.W.OpenLaw.row PySem.Challenge.rw_sortweb_k01_refused_in_order
abbrev hkL : PySem.W.Hook := hookZ 5 faL fnL exL
def obL (s : PySem.W.SharedT) : He.AlD × Bool := obsZ 5 faL fnL exL (HandSHeadRun.getT s)
theorem obL_eq (s : PySem.W.SharedT) : obL s = hkL.obs s.abs := obsZ_eq (HandSHeadRun.getT_eq s)
set_option maxHeartbeats 0 in
theorem runL (w : World) : HandSHeadRun.RunEq rowL (PySem.W.view rowL.prog [75]) hkL obL 5000 looseL w := by
  intro os
  kernel_rfl
theorem law_cal (w : World) (mg : Str → Option Value) (h : Heap) (K : PySem.W.Frag) (X : K.In h) (G : h.Ns mainGlobals mg) (c : SaysZ faL fnL exL K) (base : Heap) (KB : K.In base) (GB : base.Ns mainGlobals mg) :
    Cal (PySem.Challenge.rw_sortweb_k01_refused_in_order).prog w K mg base CX0 16 "law" ["_law_script"] (spLaw K) := by
  have b_ValueError : mg "ValueError" = none := none_of c X G 59 rfl
  have b_all : mg "all" = none := none_of c X G 60 rfl
  have b_enumerate : mg "enumerate" = none := none_of c X G 61 rfl
  have b_int : mg "int" = none := none_of c X G 62 rfl
  have b_isinstance : mg "isinstance" = none := none_of c X G 63 rfl
  have b_len : mg "len" = none := none_of c X G 64 rfl
  have b_list : mg "list" = none := none_of c X G 65 rfl
  have b_max : mg "max" = none := none_of c X G 66 rfl
  have b_min : mg "min" = none := none_of c X G 67 rfl
  have b_range : mg "range" = none := none_of c X G 68 rfl
  have b_reversed : mg "reversed" = none := none_of c X G 69 rfl
  have b_sorted : mg "sorted" = none := none_of c X G 70 rfl
  have b_sum : mg "sum" = none := none_of c X G 71 rfl
  have b_tuple : mg "tuple" = none := none_of c X G 72 rfl
  have b_type : mg "type" = none := none_of c X G 73 rfl
  have b_zip : mg "zip" = none := none_of c X G 74 rfl
  have c_MOST_COMPARERS : ∃ t, mg "MOST_COMPARERS" = some (.int 60 t) := int_of c X G 75 rfl
  have c_MOST_LINES : ∃ t, mg "MOST_LINES" = some (.int 10 t) := int_of c X G 76 rfl
  have G_BadLines : mg "BadLines" = some (.ref (He.ga K "BadLines")) := cls_of c X G 50 rfl
  have G_BadOrder : mg "BadOrder" = some (.ref (He.ga K "BadOrder")) := cls_of c X G 51 rfl
  have G_BadPlace : mg "BadPlace" = some (.ref (He.ga K "BadPlace")) := cls_of c X G 52 rfl
  have G_BadRow : mg "BadRow" = some (.ref (He.ga K "BadRow")) := cls_of c X G 53 rfl
  have G_BadText : mg "BadText" = some (.ref (He.ga K "BadText")) := cls_of c X G 54 rfl
  have G_BadWeb : mg "BadWeb" = some (.ref (He.ga K "BadWeb")) := cls_of c X G 55 rfl
  have G_NothingPut : mg "NothingPut" = some (.ref (He.ga K "NothingPut")) := cls_of c X G 57 rfl
  have G_WebError : mg "WebError" = some (.ref (He.ga K "WebError")) := cls_of c X G 58 rfl
  have X_BadLines : ExK K mg "BadLines" := exk_of c X G 50 77 rfl rfl
  have X_BadOrder : ExK K mg "BadOrder" := exk_of c X G 51 78 rfl rfl
  have X_BadPlace : ExK K mg "BadPlace" := exk_of c X G 52 79 rfl rfl
  have X_BadRow : ExK K mg "BadRow" := exk_of c X G 53 80 rfl rfl
  obtain ⟨e1, e2⟩ := He.ba c.x
  obtain ⟨e2, e3⟩ := He.ba e2
  obtain ⟨e3, e4⟩ := He.ba e3
  obtain ⟨e4, e5⟩ := He.ba e4
  have W_WebError : InK K mg "WebError" := winB_ok X G e1
  have O_BadWeb : OwK K mg "BadWeb" "place" := owB_ok X G e2
  have F : ErrF K := errFB_ok e3
  have XB : XfC K (He.ga K "BadWeb") := xfB_ok e4
  have NB : PySem.W.findIn K (.ref (He.ga K "BadWeb")) "place" = some none := of_decide_eq_true e5
  have xBadLines : PySem.W.exmOne K (.ref (He.ga K "BadLines")) (.ref (He.ga K "WebError")) = some true := exm_of' c 81 rfl
  have xBadWeb : PySem.W.exmOne K (.ref (He.ga K "BadWeb")) (.ref (He.ga K "WebError")) = some true := exm_of' c 82 rfl
  have xBadRow : PySem.W.exmOne K (.ref (He.ga K "BadRow")) (.ref (He.ga K "WebError")) = some true := exm_of' c 83 rfl
  have xBadPlace : PySem.W.exmOne K (.ref (He.ga K "BadPlace")) (.ref (He.ga K "WebError")) = some true := exm_of' c 84 rfl
  have xBadOrder : PySem.W.exmOne K (.ref (He.ga K "BadOrder")) (.ref (He.ga K "WebError")) = some true := exm_of' c 85 rfl
  have xBadText : PySem.W.exmOne K (.ref (He.ga K "BadText")) (.ref (He.ga K "WebError")) = some true := exm_of' c 86 rfl
  have xNothingPut : PySem.W.exmOne K (.ref (He.ga K "NothingPut")) (.ref (He.ga K "WebError")) = some true := exm_of' c 87 rfl
  have XW : ∀ C u, (C, u) ∈ errWs → PySem.W.exmOne K (.ref (He.ga K C)) (.ref (He.ga K "WebError")) = some true := xw_of xBadLines xBadWeb xBadRow xBadPlace xBadOrder xBadText xNothingPut
  have TB : BenchT K := ⟨He.cls_ok (c.d.fact 88 rfl), He.noat_ok (c.d.fact 89 rfl), He.noat_ok (c.d.fact 90 rfl), He.noat_ok (c.d.fact 91 rfl)⟩
  have I_BadWeb := ok_initBadWeb (P := (PySem.Challenge.rw_sortweb_k01_refused_in_order).prog) (w := w) (base := base) (mg := mg) (met_of c 51 rfl) W_WebError O_BadWeb
  have C_iswhole := ok_iswhole (P := (PySem.Challenge.rw_sortweb_k01_refused_in_order).prog) (w := w) (base := base) (here_of c X G 0 0 rfl rfl) b_int b_type (fun vs H Q E h => by obtain ⟨_, _, rfl, _⟩ := h; rfl) (rd_iswhole)
  have C_allcolumns := ok_allcolumns (P := (PySem.Challenge.rw_sortweb_k01_refused_in_order).prog) (w := w) (base := base) (here_of c X G 6 6 rfl rfl) b_range (fun vs H Q E h => by obtain ⟨_, rfl, _⟩ := h; rfl) (rd_allcolumns)
  have C_greater := ok_greater (P := (PySem.Challenge.rw_sortweb_k01_refused_in_order).prog) (w := w) (base := base) (here_of c X G 7 7 rfl rfl)  (fun vs H Q E h => by obtain ⟨_, _, _, _, _, rfl, _⟩ := h; rfl) (rd_greater)
  have C_behind := ok_behind (P := (PySem.Challenge.rw_sortweb_k01_refused_in_order).prog) (w := w) (base := base) (here_of c X G 8 8 rfl rfl) b_list (fun vs H Q E h => by obtain ⟨_, _, _, _, _, rfl, _⟩ := h; rfl) (rd_behind)
  have C_rowof := ok_rowof (P := (PySem.Challenge.rw_sortweb_k01_refused_in_order).prog) (w := w) (base := base) (here_of c X G 11 11 rfl rfl) b_range (fun vs H Q E h => by obtain ⟨_, _, rfl, _⟩ := h; rfl) (rd_rowof)
  have C_depths := ok_depths (P := (PySem.Challenge.rw_sortweb_k01_refused_in_order).prog) (w := w) (base := base) (here_of c X G 15 14 rfl rfl) b_max (fun vs H Q E h => by obtain ⟨_, _, _, rfl, _⟩ := h; rfl) (rd_depths)
  have C_meet := ok_meet (P := (PySem.Challenge.rw_sortweb_k01_refused_in_order).prog) (w := w) (base := base) (here_of c X G 16 15 rfl rfl)  (fun vs H Q E h => by obtain ⟨_, _, _, _, rfl, _⟩ := h; rfl) (rd_meet)
  have C_rbehind := ok_rbehind (P := (PySem.Challenge.rw_sortweb_k01_refused_in_order).prog) (w := w) (base := base) (hereA_of c X G 31 30 rfl rfl) b_list (fun vs H Q E h => by obtain ⟨_, _, _, _, _, rfl, _⟩ := h; rfl) (rd_rbehind)
  have C_ldraw := ok_ldraw (P := (PySem.Challenge.rw_sortweb_k01_refused_in_order).prog) (w := w) (base := base) (here_of c X G 37 36 rfl rfl)  (fun vs H Q E h => by obtain ⟨_, _, _, rfl, _⟩ := h; rfl) (rd_ldraw)
  have C_lbricks := ok_lbricks (P := (PySem.Challenge.rw_sortweb_k01_refused_in_order).prog) (w := w) (base := base) (here_of c X G 38 37 rfl rfl) b_range (fun vs H Q E h => by obtain ⟨_, rfl, _⟩ := h; rfl) (rd_lbricks)
  have C_lcomparer := ok_lcomparer (P := (PySem.Challenge.rw_sortweb_k01_refused_in_order).prog) (w := w) (base := base) (here_of c X G 39 38 rfl rfl) b_max b_min (fun vs H Q E h => by obtain ⟨_, _, rfl, _⟩ := h; rfl) (rd_lcomparer)
  have C_lword := ok_lword (P := (PySem.Challenge.rw_sortweb_k01_refused_in_order).prog) (w := w) (base := base) (here_of c X G 41 40 rfl rfl) b_ValueError b_isinstance b_len G_BadLines G_BadOrder G_BadPlace G_BadRow G_BadText G_BadWeb G_NothingPut (fun vs H Q E h => by obtain ⟨_, _, rfl, _⟩ := h; rfl) (rd_lword F)
  have C_lbadlines := ok_lbadlines (P := (PySem.Challenge.rw_sortweb_k01_refused_in_order).prog) (w := w) (base := base) (here_of c X G 45 44 rfl rfl)  (fun vs H Q E h => by obtain ⟨_, rfl, _⟩ := h; rfl) (rd_lbadlines)
  have C_lbadweb := ok_lbadweb (P := (PySem.Challenge.rw_sortweb_k01_refused_in_order).prog) (w := w) (base := base) (here_of c X G 46 45 rfl rfl) b_len b_tuple (fun vs H Q E h => by obtain ⟨_, _, _, _, rfl, _⟩ := h; rfl) (rd_lbadweb)
  have C_lgoodthing := ok_lgoodthing (P := (PySem.Challenge.rw_sortweb_k01_refused_in_order).prog) (w := w) (base := base) (here_of c X G 48 47 rfl rfl) b_int b_len b_list b_range (fun vs H Q E h => by obtain ⟨_, _, _, _, rfl, _⟩ := h; rfl) (rd_lgoodthing)
  have C_isline := ok_isline (P := (PySem.Challenge.rw_sortweb_k01_refused_in_order).prog) (w := w) (base := base) (here_of c X G 2 2 rfl rfl) C_iswhole (fun vs H Q E h => by obtain ⟨_, _, _, rfl, _⟩ := h; rfl) (rd_isline)
  have C_needlines := ok_needlines (P := (PySem.Challenge.rw_sortweb_k01_refused_in_order).prog) (w := w) (base := base) (here_of c X G 3 3 rfl rfl) C_iswhole c_MOST_LINES X_BadLines (fun vs H Q E h => by obtain ⟨_, _, rfl, _⟩ := h; rfl) (rd_needlines)
  have C_needrow := ok_needrow (P := (PySem.Challenge.rw_sortweb_k01_refused_in_order).prog) (w := w) (base := base) (here_of c X G 5 5 rfl rfl) C_iswhole b_all b_len b_list b_type X_BadRow (fun vs H Q E h => by obtain ⟨_, _, _, rfl, _⟩ := h; rfl) (rd_needrow)
  have C_columnsout := ok_columnsout (P := (PySem.Challenge.rw_sortweb_k01_refused_in_order).prog) (w := w) (base := base) (here_of c X G 9 9 rfl rfl) C_allcolumns C_behind (fun vs H Q E h => by obtain ⟨_, _, _, rfl, _⟩ := h; rfl) (rd_columnsout)
  have C_firstrow := ok_firstrow (P := (PySem.Challenge.rw_sortweb_k01_refused_in_order).prog) (w := w) (base := base) (here_of c X G 10 10 rfl rfl) C_rowof (fun vs H Q E h => by obtain ⟨_, _, rfl, _⟩ := h; rfl) (rd_firstrow)
  have C_needplace := ok_needplace (P := (PySem.Challenge.rw_sortweb_k01_refused_in_order).prog) (w := w) (base := base) (here_of c X G 22 21 rfl rfl) C_iswhole b_len X_BadPlace (fun vs H Q E h => by obtain ⟨_, _, _, _, rfl, _⟩ := h; rfl) (rd_needplace)
  have C_needpart := ok_needpart (P := (PySem.Challenge.rw_sortweb_k01_refused_in_order).prog) (w := w) (base := base) (here_of c X G 26 25 rfl rfl) C_iswhole c_MOST_LINES X_BadLines (fun vs H Q E h => by obtain ⟨_, _, rfl, _⟩ := h; rfl) (rd_needpart)
  have C_needorder := ok_needorder (P := (PySem.Challenge.rw_sortweb_k01_refused_in_order).prog) (w := w) (base := base) (here_of c X G 36 35 rfl rfl) C_iswhole b_all b_list b_range b_sorted b_type X_BadOrder (fun vs H Q E h => by obtain ⟨_, _, _, rfl, _⟩ := h; rfl) (rd_needorder)
  have C_lweb := ok_lweb (P := (PySem.Challenge.rw_sortweb_k01_refused_in_order).prog) (w := w) (base := base) (here_of c X G 40 39 rfl rfl) C_ldraw C_lbricks C_lcomparer b_enumerate b_len b_sum (fun vs H Q E h => by obtain ⟨_, _, rfl, _⟩ := h; rfl) (rd_lweb)
  have C_lbadthing := ok_lbadthing (P := (PySem.Challenge.rw_sortweb_k01_refused_in_order).prog) (w := w) (base := base) (here_of c X G 47 46 rfl rfl) C_lbadlines C_lbadweb b_int b_len b_list b_range b_tuple (fun vs H Q E h => by obtain ⟨_, _, _, _, _, rfl, _⟩ := h; rfl) (rd_lbadthing)
  have C_iscomparer := ok_iscomparer (P := (PySem.Challenge.rw_sortweb_k01_refused_in_order).prog) (w := w) (base := base) (here_of c X G 1 1 rfl rfl) C_isline b_len b_tuple b_type (fun vs H Q E h => by obtain ⟨_, _, _, rfl, _⟩ := h; rfl) (rd_iscomparer)
  have M_binit := ok_binit (P := (PySem.Challenge.rw_sortweb_k01_refused_in_order).prog) (w := w) (mg := mg) (base := base) (met_of c 12 rfl) (He.mkr_ok (c.d.fact 92 rfl)) (cls_of c X G 56 rfl) C_needlines b_list b_range (fun vs H Q E h => by obtain ⟨_, _, _, _, rfl, _⟩ := h; rfl) (rd_binit w TB)
  have C_needweb := ok_needweb (P := (PySem.Challenge.rw_sortweb_k01_refused_in_order).prog) (w := w) (base := base) (here_of c X G 4 4 rfl rfl) C_iscomparer C_needlines b_enumerate b_len b_list b_type c_MOST_COMPARERS O_BadWeb I_BadWeb (fun vs H Q E h => by obtain ⟨_, _, _, rfl, _⟩ := h; rfl) (rd_needweb)
  have C_layers := ok_layers (P := (PySem.Challenge.rw_sortweb_k01_refused_in_order).prog) (w := w) (base := base) (here_of c X G 13 12 rfl rfl) C_needweb C_depths b_len b_zip (fun vs H Q E h => by obtain ⟨_, _, _, rfl, _⟩ := h; rfl) (rd_layers)
  have C_chain := ok_chain (P := (PySem.Challenge.rw_sortweb_k01_refused_in_order).prog) (w := w) (base := base) (here_of c X G 14 13 rfl rfl) C_needweb C_depths C_meet b_len b_max b_range b_reversed (fun vs H Q E h => by obtain ⟨_, _, _, rfl, _⟩ := h; rfl) (rd_chain)
  have C_unsorted := ok_unsorted (P := (PySem.Challenge.rw_sortweb_k01_refused_in_order).prog) (w := w) (base := base) (here_of c X G 17 16 rfl rfl) C_needweb C_greater C_columnsout C_firstrow b_range (fun vs H Q E h => by obtain ⟨_, _, _, rfl, _⟩ := h; rfl) (rd_unsorted)
  have C_stirring := ok_stirring (P := (PySem.Challenge.rw_sortweb_k01_refused_in_order).prog) (w := w) (base := base) (here_of c X G 18 17 rfl rfl) C_needweb C_greater C_columnsout C_firstrow C_needplace (fun vs H Q E h => by obtain ⟨_, _, _, _, rfl, _⟩ := h; rfl) (rd_stirring)
  have C_needless := ok_needless (P := (PySem.Challenge.rw_sortweb_k01_refused_in_order).prog) (w := w) (base := base) (here_of c X G 19 18 rfl rfl) C_needweb C_allcolumns C_greater C_behind b_enumerate (fun vs H Q E h => by obtain ⟨_, _, _, rfl, _⟩ := h; rfl) (rd_needless)
  have C_differing := ok_differing (P := (PySem.Challenge.rw_sortweb_k01_refused_in_order).prog) (w := w) (base := base) (here_of c X G 21 20 rfl rfl) C_needweb C_columnsout C_firstrow b_zip (fun vs H Q E h => by obtain ⟨_, _, _, _, rfl, _⟩ := h; rfl) (rd_differing)
  have C_beside := ok_beside (P := (PySem.Challenge.rw_sortweb_k01_refused_in_order).prog) (w := w) (base := base) (here_of c X G 25 24 rfl rfl) C_needweb b_len c_MOST_COMPARERS c_MOST_LINES X_BadLines O_BadWeb I_BadWeb (fun vs H Q E h => by obtain ⟨_, _, _, _, _, rfl, _⟩ := h; rfl) (rd_beside)
  have C_steps := ok_steps (P := (PySem.Challenge.rw_sortweb_k01_refused_in_order).prog) (w := w) (base := base) (here_of c X G 30 29 rfl rfl) C_needweb C_needrow C_rbehind b_list (fun vs H Q E h => by obtain ⟨_, _, _, _, rfl, _⟩ := h; rfl) (rd_steps)
  have C_webtext := ok_webtext (P := (PySem.Challenge.rw_sortweb_k01_refused_in_order).prog) (w := w) (base := base) (here_of c X G 32 31 rfl rfl) C_needweb (fun vs H Q E h => by obtain ⟨_, _, _, rfl, _⟩ := h; rfl) (rd_webtext)
  have C_renamed := ok_renamed (P := (PySem.Challenge.rw_sortweb_k01_refused_in_order).prog) (w := w) (base := base) (here_of c X G 33 32 rfl rfl) C_needweb C_needorder (fun vs H Q E h => by obtain ⟨_, _, _, _, rfl, _⟩ := h; rfl) (rd_renamed)
  have C_upside := ok_upside (P := (PySem.Challenge.rw_sortweb_k01_refused_in_order).prog) (w := w) (base := base) (here_of c X G 34 33 rfl rfl) C_needweb (fun vs H Q E h => by obtain ⟨_, _, _, rfl, _⟩ := h; rfl) (rd_upside)
  have C_straightened := ok_straightened (P := (PySem.Challenge.rw_sortweb_k01_refused_in_order).prog) (w := w) (base := base) (here_of c X G 35 34 rfl rfl) C_needweb b_list b_max b_min b_range (fun vs H Q E h => by obtain ⟨_, _, _, rfl, _⟩ := h; rfl) (rd_straightened)
  have C_pruned := ok_pruned (P := (PySem.Challenge.rw_sortweb_k01_refused_in_order).prog) (w := w) (base := base) (here_of c X G 20 19 rfl rfl) C_needless b_enumerate (fun vs H Q E h => by obtain ⟨_, _, _, rfl, _⟩ := h; rfl) (rd_pruned)
  have C_pmerging := ok_pmerging (P := (PySem.Challenge.rw_sortweb_k01_refused_in_order).prog) (w := w) (base := base) (here_of c X G 27 26 rfl rfl) b_len b_range (fun f vs H Q E h => by obtain ⟨_, _, _, _, rfl, _⟩ := h; rfl) rd0_pmerging rd_pmerging
  have C_run := ok_run (P := (PySem.Challenge.rw_sortweb_k01_refused_in_order).prog) (w := w) (base := base) (here_of c X G 29 28 rfl rfl) C_steps (fun vs H Q E h => by obtain ⟨_, _, _, _, rfl, _⟩ := h; rfl) (rd_run)
  have C_merging := ok_merging (P := (PySem.Challenge.rw_sortweb_k01_refused_in_order).prog) (w := w) (base := base) (here_of c X G 23 22 rfl rfl) C_needlines C_needpart C_pmerging b_list b_range (fun vs H Q E h => by obtain ⟨_, _, _, _, rfl, _⟩ := h; rfl) (rd_merging)
  have C_loneasked := ok_loneasked (P := (PySem.Challenge.rw_sortweb_k01_refused_in_order).prog) (w := w) (base := base) (here_of c X G 42 41 rfl rfl) C_needweb C_layers C_chain C_unsorted C_needless C_pruned C_webtext C_upside C_straightened (fun vs H Q E h => by obtain ⟨_, _, _, _, rfl, _⟩ := h; rfl) (rd_loneasked)
  have C_psorting := ok_psorting (P := (PySem.Challenge.rw_sortweb_k01_refused_in_order).prog) (w := w) (base := base) (here_of c X G 28 27 rfl rfl) C_pmerging b_len (fun f vs H Q E h => by obtain ⟨_, _, rfl, _⟩ := h; rfl) rd0_psorting rd_psorting
  have C_sorting := ok_sorting (P := (PySem.Challenge.rw_sortweb_k01_refused_in_order).prog) (w := w) (base := base) (here_of c X G 24 23 rfl rfl) C_needlines C_psorting b_list b_range (fun vs H Q E h => by obtain ⟨_, _, rfl, _⟩ := h; rfl) (rd_sorting)
  have C_lmoreasked := ok_lmoreasked (P := (PySem.Challenge.rw_sortweb_k01_refused_in_order).prog) (w := w) (base := base) (here_of c X G 43 42 rfl rfl) C_needrow C_stirring C_differing C_merging C_sorting C_beside C_run C_steps C_renamed M_binit (fun vs H Q E h => by obtain ⟨_, _, _, _, _, rfl, _⟩ := h; rfl) (rd_lmoreasked)
  have C_ltried := ok_ltried (P := (PySem.Challenge.rw_sortweb_k01_refused_in_order).prog) (w := w) (base := base) (here_of c X G 44 43 rfl rfl) C_loneasked C_lmoreasked G_WebError (fun vs H Q E h => by obtain ⟨_, _, _, _, _, rfl, _⟩ := h; rfl) (rd_ltried XW)
  have C_lwrong := ok_lwrong (P := (PySem.Challenge.rw_sortweb_k01_refused_in_order).prog) (w := w) (base := base) (here_of c X G 49 48 rfl rfl) C_ldraw C_lword C_ltried C_lbadlines C_lbadweb C_lbadthing C_lgoodthing b_int b_isinstance b_len b_list (fun vs H Q E h => by obtain ⟨_, _, _, _, _, rfl, _⟩ := h; rfl) (rd_lwrong XB NB)
  have C_law := ok_law (P := (PySem.Challenge.rw_sortweb_k01_refused_in_order).prog) (w := w) (base := base) (here_of c X G 50 49 rfl rfl) C_lweb C_lwrong b_enumerate (fun vs H Q E h => by obtain ⟨_, _, rfl, _⟩ := h; rfl) (rd_law)
  exact C_law
end Sw
open PySem PySem.W PySem.Calls PyProof.Rows
set_option maxHeartbeats 0 in
theorem PySem.Challenge.cw_sortweb_k01_refused_in_order_holds : PySem.Challenge.rw_sortweb_k01_refused_in_order.Holds := by
  w_on; o_law
  refine HandSHeadRun.head_any (r := OpenLaw.row PySem.Challenge.rw_sortweb_k01_refused_in_order) (q := view (OpenLaw.row PySem.Challenge.rw_sortweb_k01_refused_in_order).prog [75]) (H := Sw.hkL) (ob := Sw.obL) (M := 5000) (loose := Sw.looseL) (d := HandSHeadRun.topDef (OpenLaw.row PySem.Challenge.rw_sortweb_k01_refused_in_order).prog 75) (kwd := []) Sw.obL_eq
    (by kernel_rfl) (fun s => by kernel_rfl) Sw.runL (by kernel_rfl) (by kernel_rfl) (by kernel_rfl) (by rfl) (by first | assumption | decide +kernel) (by decide +kernel) ⟨rfl, rfl, rfl, rfl, rfl, by decide +kernel⟩ ?hw ?hc
  case hw => w_witness2
  case hc => exact Sw.law_end (l := PySem.Challenge.rw_sortweb_k01_refused_in_order) (k := 16) (fa := Sw.faL) (fn := Sw.fnL) (ex := Sw.exL) (x := "_law_script") rfl (by kernel_rfl) ⟨rfl, by decide, by decide⟩ (by kernel_rfl) Sw.law_cal

