import PyProof.Rows.All
import Wide.All
import OpenK.AllK
import Wide.FinOn
import PyProof.EqAt
import PyProof.EqKinds
import PyProof.TupleCall
import Lean
import HandS.ForMost
import HandS.ForExc
import HandS.Defaults
import HandS.Steps
import HandS.Evl
import HandS.More
import HandS.TupAny
import HandS.Style
import HandS.Conv
import HandS.SortInts
import HandS.IsInst
import HandS.FStr
import HandS.Deep
import HandS.ExcInit
import HandS.TryMany
import HandS.RaiseFrom
import HandS.SuiteRaise
import HandS.Zip
import HandS.HeadHook4
import HandS.HeadEnd
import HandS.HeadWalk
import HandS.Head0
import HandS.Head1
import HandS.Head2
import HandS.NoneIn
import HandS.StrMore
import HandS.WideBits
import HandS.Small
import KE.KExcIs
import HandS.ExcIs
import HandS.ExcField
import HandS.ExcValue
import HandS.ExcInitHot
import HandS.RaiseMore
import HandS.Replace
import KE.IntTextLaws
import KE.BitLaws
import HandS.SetFor
import HandS.TupSets
import KE.DataMinMax
import HandS.SortKw
import HandS.RevRange
import PyProof.Rows.BitMore
import HandS.Strs
import HandS.SetBool
import HandS.Text
import HandS.TupLen
import HandS.Iter
import PyProof.TupleOfSeq
import PySem.Challenge.RW_sortweb_k11_a_bench_by_deeds
set_option Elab.async false
set_option linter.all false
set_option maxRecDepth 100000
set_option maxHeartbeats 4000000
namespace Sw
open PySem PySem.Spec PyProof.Rows L2

/-! ## A def by its promise -/
/-- the name x of the module is a def that keeps sp -/
structure Cal (P : Program) (w : World) (K : PySem.W.Frag) (mg : Str → Option Value) (base : Heap) (CX : CXT) (k : Nat) (x : Str) (ps : List Str) (sp : Sp) : Prop where
  ex : ∃ (f : Addr) (fd : FuncData), FnOk P w K mg base CX k f fd ps sp ∧ mg x = some (.ref f) ∧ PySem.W.keepIn K (.ref f) = true ∧ Binds K fd ps [] ∧
    (∀ (s : Shared) (us : List Value), us.length = ps.length → BindsTo s fd ⟨us, []⟩ (ps.zip us)) ∧ ∃ (oc : Value) (od : Option Addr) (osl : Array (Option Value)), K.lookup f = some ⟨oc, od, .func fd, osl⟩
/-- the name x of the module is the def st of the text -/
structure Here (K : PySem.W.Frag) (mg : Str → Option Value) (x : Str) (st : Stmt) : Prop where
  ex : ∃ (f : Addr) (fd : FuncData), FunD K x x (defArgs st) (defBody st) (defScope st) [] [] f fd ∧ mg x = some (.ref f)
abbrev BX (CX : CXT) (P : Program) (w : World) (K : PySem.W.Frag) (mg : Str → Option Value) (base : Heap) (N : List Str) (x : Str) (st : Stmt) (f : Addr) (cdv : Value) (A : Around) (outer : List Env) (s : Shared) (H : Hp) (E : XK) : Cx :=
  cxOf CX P w K mg base N x (defScope st) f cdv A outer s H E
abbrev RmIn (k : Nat) (A : Around) (x : Str) (st : Stmt) (s : Shared) (f : Addr) (cdv : Value) : Prop := Room k (A.deeper (envOfC x (defScope st) s.heap.objs.size f cdv))
section
variable {P : Program} {w : World} {K : PySem.W.Frag} {mg : Str → Option Value} {base : Heap} {x : Str} {st : Stmt} {N ps : List Str} {k : Nat} {sp : Sp}
theorem Here.cal {r : TS} (F : Here K mg x st) (S : FnScope N ps (defScope st)) (len : ∀ vs H Q E, sp vs H Q E → vs.length = ps.length)
    (bd : ∀ (kV doc pm : Value) (an : Option Addr) (cdv ct : Value) (us : List Value), us.length = ps.length →
      bindArgs (PySem.W.fnOf x x (defArgs st) (defBody st) (defScope st) .none kV doc pm an cdv ct) ⟨us, []⟩ = pure (ps.zip us))
    (dv : ∀ (f : Addr) (cdv : Value) (A : Around) (outer : List Env) (s : Shared) (H : Hp) (E : XK), RmIn k A x st s f cdv → PSs (BX CX0 P w K mg base N x st f cdv A outer s H E).nox (defBody st) r)
    (rd : ∀ (vs : List V) (H : Hp) (Q : VK) (E : XK), sp vs H Q E → r { nx := fun _ H' => Q .non H', rt := Q } (start N vs) H) :
    Cal P w K mg base CX0 (k + 1) x ps sp := by
  obtain ⟨f, fd, D, g⟩ := F.ex
  refine ⟨f, fd, ?_, g, D.kp, D.bindsN bd, fun s us hl => D.bindsA bd s us hl, ?_⟩
  · exact D.ok S len fun cdv A outer s H vs Q E hr h => ⟨r, (dv f cdv A outer s H E hr).nox, rd vs H Q E h⟩
  · obtain ⟨oc, od, _, _, _, _, _, _, _, osl, _, lk, _⟩ := D.ex
    exact ⟨oc, od, osl, lk⟩
theorem Cal.mono {CX : CXT} {j : Nat} (c : Cal P w K mg base CX j x ps sp) (h : j ≤ k) : Cal P w K mg base CX k x ps sp := by
  obtain ⟨f, fd, F, g, kp, b, ba⟩ := c.ex
  exact ⟨f, fd, F.mono h, g, kp, b, ba⟩
end
/-- f(e, ..), nothing raised -/
def tCal (sp : Sp) (t : TA) : TE := fun σ H Q => t σ H fun vs H1 => sp vs H1 Q E0
section
variable {X : Cx} {k : Nat} {x : Str} {ps : List Str} {sp : Sp} {t : TA} {e : Expr} {es : List Expr} {p pos : Pos}
theorem pe_cal (c : Cal X.prog X.w X.K X.mg X.base CX0 k x ps sp) (hr : Room k X.A) (hg : Gl X x) (ha : PA X (e :: es) t)
    (hdb : (x == ("__debug__" : Str)) = false := by decide) (he : starEach (e :: es) X.env = (false, eval e X.env) :: starEach es X.env := by rfl)
    (hpl : (backTo pos (starEach es X.env)).any (·.1) = false := by rfl) : PE X (.Call (.Name x p) (e :: es) [] pos) (tCal sp t) := by
  obtain ⟨f, fd, F, gm, kp, b, _⟩ := c.ex
  refine ⟨fun pins s σ H Q I h => ?_⟩
  refine (pe_call (E := E0) (dvs := []) F hr hg gm kp b .nil pass0 ha hdb he hpl).run pins s σ H Q I ?_
  have eq : (fun (vs : List V) (H1 : Hp) => sp vs H1 Q E0) = fun vs H1 => sp (vs ++ []) H1 Q E0 := by
    funext vs H1
    rw [List.append_nil]
  show t σ H fun vs H1 => sp (vs ++ []) H1 Q E0
  rw [← eq]
  exact h
end

/-! ## The head: what the top has left, by names -/
def defD (x : Str) (st : Stmt) : He.DefD := ⟨(x, none), x, x, defArgs st, defBody st, defScope st, [], []⟩
def asZ (g : Addr → Option Obj) : Nat → List Addr
  | 0 => [mainGlobals, cStatics]
  | n + 1 => He.growD g (asZ g n)
def fragZ (g : Addr → Option Obj) (n : Nat) : PySem.W.Frag := He.frG g (asZ g n)
def obsZ (n : Nat) (fa : List He.Fa) (fn : List He.DefD) (ex : PySem.W.Frag → Bool) (g : Addr → Option Obj) : He.AlD × Bool := (fun K : PySem.W.Frag => (He.obsD fa fn K, ex K)) (fragZ g n)
/-- what the head tells of the written part K -/
structure SaysZ (fa : List He.Fa) (fn : List He.DefD) (ex : PySem.W.Frag → Bool) (K : PySem.W.Frag) : Prop where
  d : He.SaysD fa fn K
  x : ex K = true
def hookZ (n : Nat) (fa : List He.Fa) (fn : List He.DefD) (ex : PySem.W.Frag → Bool) : PySem.W.Hook where
  α := He.AlD × Bool
  obs := fun s => obsZ n fa fn ex s.heap.get?
  val := fun _ => (He.valD fn, true)
  says := fun _ h => ∃ K : PySem.W.Frag, K.In h ∧ SaysZ fa fn ex K
  of := fun _ _ e => ⟨_, He.frG_in, congrArg (fun z : He.AlD × Bool => z.1) e, congrArg (fun z : He.AlD × Bool => z.2) e⟩
  keeps := fun _ _ _ ⟨K, hK, c⟩ k => ⟨K, PySem.W.Frag.In.keeps hK k, c⟩
theorem obsZ_eq {n : Nat} {fa : List He.Fa} {fn : List He.DefD} {ex : PySem.W.Frag → Bool} {g : Addr → Option Obj} {s : Shared} (h : ∀ a, g a = s.heap.get? a) : obsZ n fa fn ex g = (hookZ n fa fn ex).obs s := by
  have e : g = s.heap.get? := funext h
  rw [e] <;> rfl
section
variable {fa : List He.Fa} {fn : List He.DefD} {ex : PySem.W.Frag → Bool} {h : Heap} {K : PySem.W.Frag} {mg : Str → Option Value}
theorem here_of (c : SaysZ fa fn ex K) (X : K.In h) (G : h.Ns mainGlobals mg) {x : Str} {st : Stmt} (i j : Nat) (hi : fn[i]? = some (defD x st)) (hj : fa[j]? = some (.glo x)) : Here K mg x st := by
  obtain ⟨fd, F⟩ := c.d.def_ i hi
  exact ⟨_, fd, F, He.glo_ok X G (c.d.fact j hj)⟩
theorem none_of (c : SaysZ fa fn ex K) (X : K.In h) (G : h.Ns mainGlobals mg) {x : Str} (j : Nat) (hj : fa[j]? = some (.free x)) : mg x = none := He.free_ok X G (c.d.fact j hj)
theorem int_of (c : SaysZ fa fn ex K) (X : K.In h) (G : h.Ns mainGlobals mg) {x : Str} {z : Int} (j : Nat) (hj : fa[j]? = some (.int x z)) : ∃ t, mg x = some (.int z t) := He.int_ok X G (c.d.fact j hj)
end
/-- the law's own promise -/
def spLaw (K : PySem.W.Frag) : Sp := fun vs H Q _ => ∃ (a : Addr) (ns : List Int), vs = [.ref a] ∧ SqL K H a (ns.map V.int) ∧ ns.length ≤ 63 ∧ ∀ H', Q (.bl true) H'
theorem law_end {l : PySem.W.OpenLaw} {k : Nat} {q : Program} {loose : List Str} {XP : (Str → Option Value) → Heap → Prop} {fa : List He.Fa} {fn : List He.DefD} {ex : PySem.W.Frag → Bool} {d : DefRec} {x : Str} {n : Nat}
    (hm : l.most = some 63) (hdf : d.params.defaults = []) (hr : Room k callerA) (hd : d.name = ("law" : Str))
    (F : ∀ (w : World) (mg : Str → Option Value) (h : Heap) (K : PySem.W.Frag), K.In h → h.Ns mainGlobals mg → SaysZ fa fn ex K → ∀ base : Heap, K.In base → base.Ns mainGlobals mg → Cal l.prog w K mg base CX0 k "law" [x] (spLaw K)) :
    PySem.W.WalkO q loose XP (hookZ n fa fn ex).says l.row.toRowW d [] (fun f vs => PySem.call f vs) := by
  refine walk_ofE (CX := CX0) (x := x) hm (by rw [sizeLine_eq]; decide) hdf hr (fun w mg f h Y G hf => ?_) (fun _ _ _ _ z => z)
  obtain ⟨K, KX, c⟩ := Y
  rw [hd] at hf
  obtain ⟨f0, fd0, _, g0, _, _, ba0, oc0, od0, osl0, lk0⟩ := (F w mg h K KX G c h KX G).ex
  have e0 : f0 = f := by
    rw [hf] at g0
    cases g0
    rfl
  subst e0
  refine ⟨K, fd0, spLaw K, KX, fun s u => ba0 s [u] rfl, fun H a ns hl _ hS => ⟨a, ns, rfl, hS, hl, fun _ => rfl⟩, fun base KB GB => ?_⟩
  obtain ⟨f1, fd1, F1, g1, _, _, _, oc1, od1, osl1, lk1⟩ := (F w mg h K KX G c base KB GB).ex
  have e1 : f1 = f0 := by
    rw [hf] at g1
    cases g1
    rfl
  subst e1
  rw [lk0] at lk1
  cases lk1
  exact F1
/-! ## Readings by name -/
abbrev oAdd : R2 := rI0 fun i j => .int (i + j)
abbrev oSub : R2 := rI0 fun i j => .int (i - j)
abbrev oMul : R2 := rI CMul fun i j => .int (i * j)
abbrev oDiv : R2 := rI CDiv fun i j => .int (i / j)
abbrev oMod : R2 := rI (fun _ j => 0 < j) fun i j => .int (i % j)
abbrev oPow : R2 := rI CPow fun i j => .int (i ^ j.toNat)
abbrev oShl : R2 := rI CPow fun i j => .int (i * 2 ^ j.toNat)
abbrev oShr : R2 := rI (fun _ j => 0 ≤ j) fun i j => .int (i / 2 ^ j.toNat)
abbrev oBAnd : R2 := rI0 fun i j => .int (Builtin.bitAnd i j)
abbrev oLt : R2 := rI0 fun i j => .bl (decide (i < j))
abbrev oLe : R2 := rI0 fun i j => .bl (decide (i ≤ j))
abbrev oGt : R2 := rI0 fun i j => .bl (decide (j < i))
abbrev oGe : R2 := rI0 fun i j => .bl (decide (j ≤ i))
abbrev oNeg : V → Hp → VK → Prop := rU fun i => .int (-i)
def kLen (K : PySem.W.Frag) : List V → Hp → VK → Prop := fun xs H Q => ∃ p ys, xs = [.ref p] ∧ (SqL K H p ys ∨ SqT K H p ys) ∧ Q (.int ys.length) H
def kList (K : PySem.W.Frag) : List V → Hp → VK → Prop := fun xs H Q => ∃ p ys, xs = [.ref p] ∧ (SqL K H p ys ∨ SqT K H p ys) ∧ ∀ l, H l = none → Q (.ref l) (upd H l (.lst ys))
def kMin : List V → Hp → VK → Prop := fun xs H Q => ∃ i j, xs = [.int i, .int j] ∧ Q (.int (if j < i then j else i)) H
def kMax : List V → Hp → VK → Prop := fun xs H Q => ∃ i j, xs = [.int i, .int j] ∧ Q (.int (if j > i then j else i)) H
def rInsert : V → List V → Hp → VK → Prop := fun x vs H Q => ∃ (l : Addr) (xs : List V) (i : Int) (y : V), x = .ref l ∧ vs = [.int i, y] ∧ H l = some (.lst xs) ∧ xs.length < sizeLine ∧ 0 ≤ i ∧ i < 2 ^ 63 ∧ Q .non (upd H l (.lst (xs.take i.toNat ++ [y] ++ xs.drop i.toNat)))
abbrev oAddS : R2 := fun x y H Q => ∃ i j, x = .str i ∧ y = .str j ∧ i.length + j.length ≤ sizeLine ∧ Q (.str (i ++ j)) H
abbrev rIsTyB : R2 := fun x y H Q => ∃ a b, x = .ty a ∧ y = .ty b ∧ Q (.bl (decide (a = b))) H
theorem hu64 {k : Nat} {A : Around} (hr : Room k A) : A.units + 64 < cLine := hr.units
section
variable {X : Cx}
theorem cl_len : CallR X (.builtin "len") (kLen X.K) := call_len_seq
theorem cl_list : CallR X (.type "list") (kList X.K) := call_list_of
theorem cl_min (hc : X.calm = true) : CallR X (.builtin "min") kMin := call_min2 hc
theorem cl_max (hc : X.calm = true) : CallR X (.builtin "max") kMax := call_max2 hc
theorem md_insert : MtR X "list.insert" rInsert := mt_insert
theorem md_append : MtR X "list.append" rAppend := mt_append
theorem md_popAt : MtR X "list.pop" rPopAt := mt_popAt
/-- a module's int -/
theorem pe_gi {x : Str} {i : Int} {pos : Pos} (h : ∃ t, X.mg x = some (.int i t)) (hg : Gl X x) (hd : (x == ("__debug__" : Str)) = false := by decide) : PE X (.Name x pos) (tC (.int i)) := by
  obtain ⟨t, h⟩ := h
  exact pe_glob hg h ⟨t, rfl⟩ hd
/-- what is never reached -/
def tOff : TS := fun _ _ _ => False
theorem ps_off {st : Stmt} : PS X st tOff := ⟨fun _ _ _ _ _ _ h => h.elim⟩
end
end Sw

set_option Elab.async false
set_option linter.all false
set_option maxRecDepth 100000
set_option maxHeartbeats 4000000
namespace Sw
open PySem PySem.Spec PyProof.Rows L2
/-! ## (a, b)[::-1] -/
section
variable {prog : Program} {w : World} {A : Around} {E : Value → Shared → Prop} {s : Shared}
theorem applied_back2 {sl : Addr} {tk : Tok} {Q : Int × Int × Nat → Shared → Prop} (hs : s.heap.IsSliceOf sl .none .none (.int (-1) tk)) (h : Q (1, -1, 2) s) :
    wpAny (model prog w) A (Builtin.Slice.sliceApplied (.ref sl) (pure (2 : Int))) Q E s := by
  obtain ⟨os, hos, hcs, hds⟩ := id hs
  unfold Builtin.Slice.sliceApplied Builtin.Slice.sliceFields
  refine wpAny_bind (wpAny_bind ?_)
  refine wpAny_field hos hds (x := .none) rfl ?_
  refine wpAny_bind (wpAny_field hos hds (x := .none) rfl ?_)
  refine wpAny_bind (wpAny_field hos hds (x := .int (-1) tk) rfl ?_)
  refine wpAny_pure ?_
  refine wpAny_bind (HT.slicePart_ (.int (-1) tk) ?_)
  show wpAny _ _ (if ((-1 : Int) == 0) = true then _ else _) _ _ s
  rw [if_neg (by decide)]
  refine wpAny_bind (HT.slicePart_ .none ?_)
  refine wpAny_bind (HT.slicePart_ .none ?_)
  refine wpAny_bind (wpAny_pure ?_)
  exact wpAny_pure h
theorem item_back2 {t sl : Addr} {u v : Value} {tk : Tok} {Q : Value → Shared → Prop} (ht : IsTup s.heap t #[u, v]) (hs : s.heap.IsSliceOf sl .none .none (.int (-1) tk))
    (h : Q (.ref s.heap.objs.size) { s with heap := s.heap.push { cls := .type "tuple", data := .seq #[v, u] } }) : wpAny (model prog w) A (getItem (.ref t) (.ref sl)) Q E s := by
  have two : sizeOk (.seq #[v, u]) := by
    show 2 ≤ sizeLine
    rw [sizeLine_eq]
    decide
  obtain ⟨os, hos, hcs, hds⟩ := id hs
  have kind : s.TypeIs (.ref sl) "slice" := ⟨os, hos, hcs⟩
  unfold getItem
  try with_reducible refine wpAny_holding ?_
  first
    | refine wpAny_bind (wpAny_pure ?_)
    | skip
  refine wpAny_bind (wpAny_sequenceKey ht.typeIs (by decide) ?_)
  refine wpAny_bind (wpAny_callSpecial?_slot (name := Str.ofString "__getitem__") ht.typeIs slot_tuple_getitem ?_)
  refine wpAny_call_entry slot_tuple_getitem ht.typeIs entry_tuple_getitem ?_ (args_tuple_getitem _ _)
  show wpAny _ _ (Builtin.Tuple.tupleItemsOf (.ref t) >>= _) _ _ s
  refine wpAny_bind (tupleItemsOf_ ht ?_)
  refine wpAny_bind (wpAny_typeOf kind ?_)
  rw [if_pos (by decide)]
  refine wpAny_bind (applied_back2 hs ?_)
  show wpAny _ _ (if ((1 : Int) == 0 && (-1 : Int) == 1 && (2 : Nat) == 2) = true then _ else _) _ _ s
  rw [if_neg (by decide)]
  first
    | exact wpAny_bind (m := Builtin.Tuple.tupleExact _) (wpAny_newObj_type (wpAny_pure ⟨_, rfl, wpAny_pure h⟩) two)
    | exact wpAny_bind (m := Builtin.Tuple.tupleExact _) (wpAny_newObj_type (wpAny_bind (wpAny_pure (wpAny_pure ⟨_, rfl, wpAny_pure h⟩))) two)
    | exact wpAny_bind (wpAny_bind (m := Builtin.Tuple.tupleExact _) (wpAny_newObj_type (wpAny_pure (wpAny_pure ⟨_, rfl, wpAny_pure h⟩)) two))
    | exact wpAny_bind (wpAny_bind (m := Builtin.Tuple.tupleExact _) (wpAny_newObj_type (wpAny_pure ⟨_, rfl, wpAny_pure h⟩) two))
end
/-- t[::-1], t a pair -/
def tTurn (K : PySem.W.Frag) (te : TE) : TE := fun σ H Q => te σ H fun x H1 => ∃ (a : Addr) (y z : V), x = .ref a ∧ SqT K H1 a [y, z] ∧ ∀ p, H1 p = none → Q (.ref p) (upd H1 p (.tup [z, y]))
section
variable {X : Cx}
theorem pe_turn {e : Expr} {te : TE} {k : Nat} {p1 p2 p3 pos : Pos} (he : PE X e te) : PE X (.Subscript e (.Slice none none (some (.UnaryOp .USub (.Constant (.int 1) k p1) p2)) p3) pos) (tTurn X.K te) := by
  refine ⟨fun pins s σ H Q I h => ?_⟩
  refine Subscript_ (thn (he.run pins s σ H _ I h) fun v s1 ⟨x, H1, I1, r1, q1⟩ => ?_)
  obtain ⟨a, y, z, rfl, hx, q⟩ := q1
  cases r1
  have back : PO X (some (.UnaryOp .USub (.Constant (.int 1) k p1) p2)) (tPart (tUn oNeg (tC (.int 1)))) := po_some (pe_un un_neg pe_int)
  refine wpAny_Slice ?_
  refine thn (po_none.run pins s1 σ H1 (fun o G => o = none ∧ G = H1) I1 ⟨rfl, rfl⟩) fun vl s2 ⟨l, H2, I2, pl, el, e2⟩ => ?_
  subst el e2
  refine thn (po_none.run pins s2 σ H2 (fun o G => o = none ∧ G = H2) I2 ⟨rfl, rfl⟩) fun vu s3 ⟨u, H3, I3, pu, eu, e3⟩ => ?_
  subst eu e3
  refine thn (back.run pins s3 σ H3 (fun o G => o = some (-1) ∧ G = H3) I3 ⟨1, rfl, -1, rfl, rfl, rfl⟩) fun vs s4 ⟨o, H4, I4, ps, eo, e4⟩ => ?_
  subst eo e4
  cases pl
  cases pu
  cases ps with
  | int i tk =>
    have I5 : Inv X pins σ H4 { s4 with heap := s4.heap.push { cls := .type "slice", data := .fields #[.none, .none, .int (-1) tk] } } :=
      I4.kept (t' := s4.toks) fun b ob q => Heap.get?_push_of_some _ q
    obtain ⟨its, r, ht, hz⟩ := I5.tuple hx
    obtain ⟨y', z', rfl, ry, rz⟩ : ∃ y' z', its = [y', z'] ∧ RelV y y' ∧ RelV z z' := by
      cases r with
      | cons r1 r2 =>
        cases r2 with
        | cons r3 r4 =>
          cases r4
          exact ⟨_, _, rfl, r1, r3⟩
    show wpAny (model X.prog X.w) X.A (subscriptTail e (.Slice none none (some (.UnaryOp .USub (.Constant (.int 1) k p1) p2)) p3) (.ref a) (.ref s4.heap.objs.size)) (EP X pins σ Q) X.xe { s4 with heap := s4.heap.push { cls := .type "slice", data := .fields #[.none, .none, .int (-1) tk] } }
    refine tail_any (ops := [.ref a, .ref s4.heap.objs.size]) ht.typeIs slot_tuple_getitem.lookup ?_ (by with_unfolding_all rfl)
    refine item_back2 ht (Heap.IsSliceOf.new _ .none .none _) ?_
    refine ⟨.ref _, _, I5.laid (t' := s4.toks) (o := .tup [z, y]) (fun b ob q => Heap.get?_push_of_some _ q) (Nat.le_refl _) ?_, rfl, q _ (I5.hok.fresh (Nat.le_refl _))⟩
    refine ⟨by show 2 ≤ sizeLine; rw [sizeLine_eq]; decide, [z', y'], .cons rz (.cons ry .nil), IsTup.new _ _⟩
end
end Sw

set_option Elab.async false
set_option linter.all false
set_option maxRecDepth 100000
set_option maxHeartbeats 4000000
namespace Sw
open PySem PySem.Spec PyProof.Rows L2
/-! ## Two lists, item by item -/
inductive All2 {α β : Type} (R : α → β → Prop) : List α → List β → Prop
  | nil : All2 R [] []
  | cons {a : α} {b : β} {l : List α} {m : List β} : R a b → All2 R l m → All2 R (a :: l) (b :: m)
namespace All2
variable {α β : Type} {R S : α → β → Prop}
theorem length {l : List α} {m : List β} (h : All2 R l m) : l.length = m.length := by
  induction h with
  | nil => rfl
  | cons _ _ ih => rw [List.length_cons, List.length_cons, ih]
theorem imp {l : List α} {m : List β} (h : All2 R l m) (f : ∀ a b, R a b → S a b) : All2 S l m := by
  induction h with
  | nil => exact .nil
  | cons r _ ih => exact .cons (f _ _ r) ih
theorem append {l l' : List α} {m m' : List β} (h : All2 R l m) (h' : All2 R l' m') : All2 R (l ++ l') (m ++ m') := by
  induction h with
  | nil => exact h'
  | cons r _ ih => exact .cons r ih
theorem one {a : α} {b : β} (h : R a b) : All2 R [a] [b] := .cons h .nil
theorem take {l : List α} {m : List β} (h : All2 R l m) : ∀ n, All2 R (l.take n) (m.take n) := by
  induction h with
  | nil => intro n; rw [List.take_nil, List.take_nil]; exact .nil
  | cons r _ ih =>
    intro n
    cases n with
    | zero => exact .nil
    | succ n => exact .cons r (ih n)
theorem drop {l : List α} {m : List β} (h : All2 R l m) : ∀ n, All2 R (l.drop n) (m.drop n) := by
  induction h with
  | nil => intro n; rw [List.drop_nil, List.drop_nil]; exact .nil
  | cons r h ih =>
    intro n
    cases n with
    | zero => exact .cons r h
    | succ n => exact ih n
theorem set {a : α} {b : β} (r : R a b) {l : List α} {m : List β} (h : All2 R l m) : ∀ n, All2 R (l.set n a) (m.set n b) := by
  induction h with
  | nil => intro n; exact .nil
  | cons q h ih =>
    intro n
    cases n with
    | zero => exact .cons r h
    | succ n => exact .cons q (ih n)
theorem erase {l : List α} {m : List β} (h : All2 R l m) : ∀ n, All2 R (l.eraseIdx n) (m.eraseIdx n) := by
  induction h with
  | nil => intro n; exact .nil
  | cons q h ih =>
    intro n
    cases n with
    | zero => exact h
    | succ n => exact .cons q (ih n)
theorem get {l : List α} {m : List β} (h : All2 R l m) : ∀ {i : Nat} {b : β}, m[i]? = some b → ∃ a, l[i]? = some a ∧ R a b := by
  induction h with
  | nil => intro i b e; simp at e
  | cons q h ih =>
    intro i b e
    cases i with
    | zero =>
      rw [List.getElem?_cons_zero] at e
      cases e
      exact ⟨_, rfl, q⟩
    | succ i => exact ih (by simpa using e)
theorem getL {l : List α} {m : List β} (h : All2 R l m) : ∀ {i : Nat} {a : α}, l[i]? = some a → ∃ b, m[i]? = some b ∧ R a b := by
  induction h with
  | nil => intro i b e; simp at e
  | cons q h ih =>
    intro i b e
    cases i with
    | zero =>
      rw [List.getElem?_cons_zero] at e
      cases e
      exact ⟨_, rfl, q⟩
    | succ i => exact ih (by simpa using e)
theorem snoc {l : List α} {m : List β} {a : α} {b : β} (h : All2 R l m) (r : R a b) : All2 R (l ++ [a]) (m ++ [b]) := h.append (.one r)
end All2
/-! ## Webs on the heap -/
abbrev Cmp := Nat × Nat
def V2 (c : Cmp) : List V := [.int (c.1 : Int), .int (c.2 : Int)]
/-- at each address a pair: the comparer -/
abbrev Prs (K : PySem.W.Frag) (H : Hp) (ps : List Addr) (cs : List Cmp) : Prop := All2 (fun p c => SqT K H p (V2 c)) ps cs
def Rfs (ps : List Addr) : List V := ps.map V.ref
def CmpOk (n : Nat) (c : Cmp) : Prop := c.1 < n ∧ c.2 < n ∧ c.1 ≠ c.2
def CmpsOk (n : Nat) (cs : List Cmp) : Prop := ∀ c ∈ cs, CmpOk n c
def WebOk (n : Nat) (cs : List Cmp) : Prop := cs.length ≤ 60 ∧ CmpsOk n cs
theorem same_new {H : Hp} {p : Addr} {o : HO} (h : H p = none) : Same H (upd H p o) := fun b x e => by
  rw [upd_ne (ne_of_none e h)]
  exact e
theorem Same.sqt {K : PySem.W.Frag} {H H' : Hp} {a : Addr} {xs : List V} (e : Same H H') (h : SqT K H a xs) : SqT K H' a xs := by
  rcases h with (h | ⟨o, h⟩) | h
  · exact .inl (.inl (e _ _ h))
  · exact .inl (.inr ⟨o, e _ _ h⟩)
  · exact .inr h
theorem Same.prs {K : PySem.W.Frag} {H H' : Hp} {ps : List Addr} {cs : List Cmp} (e : Same H H') (h : Prs K H ps cs) : Prs K H' ps cs := h.imp fun _ _ r => Same.sqt e r
/-- a list of ours changes: the tuples stay -/
theorem sqt_upd {K : PySem.W.Frag} {H : Hp} {a l : Addr} {xs ys : List V} {o : HO} (hl : H l = some (.lst ys)) (h : SqT K H a xs) : SqT K (upd H l o) a xs := by
  rcases h with (h | ⟨u, h⟩) | h
  · refine .inl (.inl ?_)
    rw [upd_ne (ne_of h hl (by intro z; cases z))]
    exact h
  · refine .inl (.inr ⟨u, ?_⟩)
    rw [upd_ne (ne_of h hl (by intro z; cases z))]
    exact h
  · exact .inr h
theorem prs_upd {K : PySem.W.Frag} {H : Hp} {l : Addr} {ys : List V} {o : HO} {ps : List Addr} {cs : List Cmp} (hl : H l = some (.lst ys)) (h : Prs K H ps cs) : Prs K (upd H l o) ps cs := h.imp fun _ _ r => sqt_upd hl r
/-- what H knew stays where an object that H did not know changes -/
theorem same_mut {H H' : Hp} {p : Addr} {o : HO} (e : Same H H') (h : H p = none) : Same H (upd H' p o) := fun b x q => by
  rw [upd_ne (ne_of_none q h)]
  exact e b x q
theorem small_line {n : Nat} (h : n ≤ 1000000) : n ≤ sizeLine := Nat.le_trans h (by rw [sizeLine_eq]; decide)
theorem small_lt {n : Nat} (h : n < 1000000) : n < sizeLine := Nat.lt_of_lt_of_le h (by rw [sizeLine_eq]; decide)
end Sw

set_option Elab.async false
set_option linter.all false
set_option maxRecDepth 100000
set_option maxHeartbeats 4000000
namespace Sw
open PySem PySem.Spec PyProof.Rows L2
/-! ## Loops and comprehensions over any walk of n turns -/
theorem it_for {J : It} {n : Nat} {g : TG} {tb : TS} {D : Ends} {σ : L2.St} {H : Hp} (Pv : Nat → L2.St → Hp → Prop) (h0 : Pv 0 σ H)
    (go : ∀ i σ H, i < n → Pv i σ H → J.go i H) (stop : ∀ σ H, Pv n σ H → J.stop n H)
    (turn : ∀ i σ H, i < n → Pv i σ H → ∀ x H', J.yld i H x H' → g x σ H' fun σ2 H2 => tb { D with nx := Pv (i + 1), ct := Pv (i + 1), bk := D.nx } σ2 H2)
    (done : ∀ σ H, Pv n σ H → D.nx σ H) :
    ∃ W : Nat → Nat → L2.St → Hp → Prop, (∃ m, W 0 m σ H) ∧ ∀ i m σ H, W i m σ H →
      (J.stop i H ∧ D.nx σ H) ∨ (J.go i H ∧ ∃ N : L2.St → Hp → Prop, (∀ σ' H', N σ' H' → ∃ m', m' < m ∧ W (i + 1) m' σ' H') ∧ ∀ x H', J.yld i H x H' → g x σ H' fun σ2 H2 => tb { D with nx := N, ct := N, bk := D.nx } σ2 H2) := by
  refine ⟨fun i m σ H => m + i = n ∧ Pv i σ H, ⟨n, rfl, h0⟩, fun i m σ H hW => ?_⟩
  obtain ⟨e, p⟩ := hW
  by_cases h : i < n
  · refine .inr ⟨go i σ H h p, Pv (i + 1), fun σ' H' q => ⟨m - 1, by omega, by omega, q⟩, turn i σ H h p⟩
  · have e' : i = n := by omega
    subst e'
    exact .inl ⟨stop σ H p, done σ H p⟩
theorem it_lc {J : It} {n : Nat} {g : TG} {tt : TT} {te : TE} {vs : List Nat} {σ : L2.St} {H1 : Hp} {D : Addr} {Qd : Hp → Prop} (Pv : Nat → Hp → Prop) (h0 : Pv 0 (upd H1 D (.lst [])))
    (go : ∀ i H, i < n → Pv i H → J.go i H) (stop : ∀ H, Pv n H → J.stop n H)
    (turn : ∀ i H, i < n → Pv i H → ∀ x H', J.yld i H x H' → g x (wipe σ vs) H' fun σ2 H2 => wipe σ2 vs = wipe σ vs ∧ tt σ2 H2 fun b H3 =>
      if b = true then te σ2 H3 fun y H4 => ∃ acc, H4 D = some (.lst acc) ∧ acc.length < sizeLine ∧ Pv (i + 1) (upd H4 D (.lst (acc ++ [y]))) else Pv (i + 1) H3)
    (done : ∀ H, Pv n H → Qd H) :
    ∃ W : Nat → Nat → Hp → Prop, (∃ m, W 0 m (upd H1 D (.lst []))) ∧ ∀ i m H, W i m H →
      (J.stop i H ∧ Qd H) ∨ (J.go i H ∧ ∃ Nx : Hp → Prop, (∀ H', Nx H' → ∃ m', m' < m ∧ W (i + 1) m' H') ∧ ∀ x H', J.yld i H x H' → g x (wipe σ vs) H' fun σ2 H2 => wipe σ2 vs = wipe σ vs ∧ tt σ2 H2 fun b H3 =>
        if b = true then te σ2 H3 fun y H4 => ∃ acc, H4 D = some (.lst acc) ∧ acc.length < sizeLine ∧ Nx (upd H4 D (.lst (acc ++ [y]))) else Nx H3) := by
  refine ⟨fun i m H => m + i = n ∧ Pv i H, ⟨n, rfl, h0⟩, fun i m H hW => ?_⟩
  obtain ⟨e, p⟩ := hW
  by_cases h : i < n
  · refine .inr ⟨go i H h p, Pv (i + 1), fun H' q => ⟨m - 1, by omega, by omega, q⟩, turn i H h p⟩
  · have e' : i = n := by omega
    subst e'
    exact .inl ⟨stop H p, done H p⟩
section
variable {K : PySem.W.Frag} {σ : L2.St} {H : Hp} {D : Ends} {tb : TS} {a b : Addr} {xs ys : List V} {j1 j2 : Nat}
theorem get_of {α : Type} {xs : List α} {i : Nat} (h : i < xs.length) : ∃ x, xs[i]? = some x := ⟨xs[i], List.getElem?_eq_getElem h⟩
theorem g2_run {n1 n2 : Nat} {x y : V} {T : Addr} {σ : L2.St} {H : Hp} {Q : L2.St → Hp → Prop} (hT : SqT K H T [x, y]) (q : Q ((σ.set n1 (some x)).set n2 (some y)) H) :
    gTup K 2 (gCons (gName n1) (gCons (gName n2) gNil)) (.ref T) σ H Q := ⟨T, [x, y], rfl, hT, rfl, x, [y], rfl, y, [], rfl, rfl, q⟩
/-- for j1, j2 in enumerate(x), x at a -/
theorem for_enum2 {k : Nat} (hk : σ[k]? = some (some (.ref a))) (hx : SqL K H a xs) (Pv : Nat → L2.St → Hp → Prop) (h0 : Pv 0 σ H) (hl : ∀ i σ H, i ≤ xs.length → Pv i σ H → SqL K H a xs)
    (turn : ∀ i x σ H H', xs[i]? = some x → i < xs.length → Pv i σ H → Same H H' → tb { D with nx := Pv (i + 1), ct := Pv (i + 1), bk := D.nx } ((σ.set j1 (some (.int (i : Int)))).set j2 (some x)) H')
    (done : ∀ σ H, Pv xs.length σ H → D.nx σ H) : tFor (iEnum K (tCons (tVar k) tNil)) (gTup K 2 (gCons (gName j1) (gCons (gName j2) gNil))) tb D σ H := by
  refine ⟨.ref a, hk, a, xs, rfl, hx, it_for (n := xs.length) Pv h0 (fun i σ H hi p => ?_) (fun σ H p => ?_) (fun i σ H hi p v H' y => ?_) done⟩
  · obtain ⟨x, hx⟩ := get_of hi
    exact ⟨xs, x, hl i σ H (Nat.le_of_lt hi) p, hx⟩
  · exact ⟨xs, hl _ σ H (Nat.le_refl _) p, Nat.le_refl _⟩
  · obtain ⟨T, x, rfl, nT, rfl, f⟩ := y
    exact g2_run (.inl (.inl upd_same)) (turn i x σ H _ (f xs (hl i σ H (Nat.le_of_lt hi) p)) hi p (same_new nT))
/-- for j1, j2 in x, x at a a list of pairs -/
theorem for_pairs {k : Nat} {ps : List Addr} (hk : σ[k]? = some (some (.ref a))) (hx : SqL K H a (Rfs ps)) (u : Nat → V × V) (Pv : Nat → L2.St → Hp → Prop) (h0 : Pv 0 σ H)
    (hl : ∀ i σ H, i ≤ ps.length → Pv i σ H → SqL K H a (Rfs ps)) (hp : ∀ i p σ H, ps[i]? = some p → Pv i σ H → SqT K H p [(u i).1, (u i).2])
    (turn : ∀ i p σ H, ps[i]? = some p → Pv i σ H → tb { D with nx := Pv (i + 1), ct := Pv (i + 1), bk := D.nx } ((σ.set j1 (some (u i).1)).set j2 (some (u i).2)) H)
    (done : ∀ σ H, Pv ps.length σ H → D.nx σ H) : tFor (iList K (tVar k)) (gTup K 2 (gCons (gName j1) (gCons (gName j2) gNil))) tb D σ H := by
  have hn : (Rfs ps).length = ps.length := List.length_map ..
  refine ⟨.ref a, hk, a, rfl, ⟨_, hx⟩, it_for (n := ps.length) Pv h0 (fun i σ H hi p => ?_) (fun σ H p => ?_) (fun i σ H hi p v H' y => ?_) done⟩
  · obtain ⟨x, hx⟩ := get_of (xs := Rfs ps) (by rw [hn]; exact hi)
    exact ⟨_, x, hl i σ H (Nat.le_of_lt hi) p, hx⟩
  · exact ⟨_, hl _ σ H (Nat.le_refl _) p, by rw [hn]; exact Nat.le_refl _⟩
  · obtain ⟨rfl, f⟩ := y
    have e := f _ (hl i σ H' (Nat.le_of_lt hi) p)
    unfold Rfs at e
    rw [List.getElem?_map, List.getElem?_eq_getElem hi] at e
    cases e
    have g : ps[i]? = some ps[i] := List.getElem?_eq_getElem hi
    exact g2_run (hp i _ σ H' g p) (turn i _ σ H' g p)
/-- for x in y, y at a -/
theorem for_each {k : Nat} (hk : σ[k]? = some (some (.ref a))) (hx : SqL K H a xs) (Pv : Nat → L2.St → Hp → Prop) (h0 : Pv 0 σ H) (hl : ∀ i σ H, i ≤ xs.length → Pv i σ H → SqL K H a xs)
    (turn : ∀ i x σ H, xs[i]? = some x → i < xs.length → Pv i σ H → tb { D with nx := Pv (i + 1), ct := Pv (i + 1), bk := D.nx } (σ.set j1 (some x)) H)
    (done : ∀ σ H, Pv xs.length σ H → D.nx σ H) : tFor (iList K (tVar k)) (gName j1) tb D σ H := by
  refine ⟨.ref a, hk, a, rfl, ⟨_, hx⟩, it_for (n := xs.length) Pv h0 (fun i σ H hi p => ?_) (fun σ H p => ?_) (fun i σ H hi p v H' y => ?_) done⟩
  · obtain ⟨x, hx⟩ := get_of hi
    exact ⟨_, x, hl i σ H (Nat.le_of_lt hi) p, hx⟩
  · exact ⟨_, hl _ σ H (Nat.le_refl _) p, Nat.le_refl _⟩
  · obtain ⟨rfl, f⟩ := y
    exact turn i v σ H' (f _ (hl i σ H' (Nat.le_of_lt hi) p)) hi p
/-- for i in range(n) -/
theorem for_rng {ta : TA} {n : Nat} (ht : ∀ Q, Q [V.int (n : Int)] H → ta σ H Q) (hn : n ≤ 1000000) (Pv : Nat → L2.St → Hp → Prop) (h0 : Pv 0 σ H)
    (turn : ∀ (i : Nat) σ H, i < n → Pv i σ H → tb { D with nx := Pv (i + 1), ct := Pv (i + 1), bk := D.nx } (σ.set j1 (some (.int (i : Int)))) H)
    (done : ∀ σ H, Pv n σ H → D.nx σ H) : tFor (iRng1 ta) (gName j1) tb D σ H := by
  refine ht _ ⟨(n : Int), rfl, by omega, by omega, it_for (n := n) Pv h0 (fun i σ H hi p => ?_) (fun σ H p => ?_) (fun i σ H hi p v H' y => ?_) done⟩
  · exact hi
  · exact Nat.le_refl _
  · obtain ⟨rfl, rfl⟩ := y
    have e : (0 : Int) + (i : Int) = (i : Int) := Int.zero_add _
    rw [e]
    exact turn i σ H' hi p
end
/-! ## What a comprehension gives, item by item: G of the turn, the list so far, the heap -/
section
variable {K : PySem.W.Frag} {σ : L2.St} {H : Hp} {te : TE} {a b : Addr} {xs ys : List V} {j1 j2 : Nat} {Q : VK}
/-- the list so far stands at D, and G holds of it -/
def So (D : Addr) (G : Nat → List V → Hp → Prop) (i : Nat) (H' : Hp) : Prop := ∃ acc, H' D = some (.lst acc) ∧ G i acc H'
/-- the wish of a turn: v comes, on it goes -/
def GoOn (D : Addr) (G : Nat → List V → Hp → Prop) (i : Nat) : VK := fun v H' => ∃ acc, H' D = some (.lst acc) ∧ acc.length < sizeLine ∧ So D G (i + 1) (upd H' D (.lst (acc ++ [v])))
theorem GoOn.mk {D : Addr} {G : Nat → List V → Hp → Prop} {i : Nat} {v : V} {H' : Hp} {acc : List V} (h : H' D = some (.lst acc)) (hz : acc.length < 1000000) (g : G (i + 1) (acc ++ [v]) (upd H' D (.lst (acc ++ [v])))) : GoOn D G i v H' :=
  ⟨acc, h, small_lt hz, _, upd_same, g⟩
/-- of a turn that tests -/
def Turn (tt : TT) (te : TE) (D : Addr) (G : Nat → List V → Hp → Prop) (i : Nat) (σ : L2.St) (H : Hp) : Prop := tt σ H fun b H3 => if b = true then te σ H3 (GoOn D G i) else So D G (i + 1) H3
theorem Turn.yes {te : TE} {D : Addr} {G : Nat → List V → Hp → Prop} {i : Nat} (h : te σ H (GoOn D G i)) : Turn tYes te D G i σ H := by
  show (if true = true then te σ H (GoOn D G i) else So D G (i + 1) H)
  rw [if_pos rfl]
  exact h
theorem lc_enum2 {tt : TT} {k : Nat} {vs : List Nat} (hk : σ[k]? = some (some (.ref a))) (hx : SqL K H a xs) (hvs : ∀ v w, wipe (((wipe σ vs).set j1 v).set j2 w) vs = wipe σ vs)
    (G : Addr → Nat → List V → Hp → Prop) (h0 : ∀ D, H D = none → G D 0 [] (upd H D (.lst []))) (hl : ∀ D i acc H', H D = none → G D i acc H' → SqL K H' a xs)
    (turn : ∀ D i x acc H' H2, H D = none → xs[i]? = some x → i < xs.length → H' D = some (.lst acc) → G D i acc H' → Same H' H2 → Turn tt te D (G D) i (((wipe σ vs).set j1 (some (.int (i : Int)))).set j2 (some x)) H2)
    (done : ∀ D acc H', H D = none → H' D = some (.lst acc) → G D xs.length acc H' → Q (.ref D) H') :
    tLc (iEnum K (tCons (tVar k) tNil)) (gTup K 2 (gCons (gName j1) (gCons (gName j2) gNil))) tt te vs σ H Q := by
  refine ⟨.ref a, hk, a, xs, rfl, hx, fun D nD => ?_⟩
  refine it_lc (n := xs.length) (So D (G D)) ⟨[], upd_same, h0 D nD⟩ (fun i H' hi p => ?_) (fun H' p => ?_) (fun i H' hi p v H2 y => ?_) (fun H' p => ?_)
  · obtain ⟨acc, _, g⟩ := p
    obtain ⟨x, hx⟩ := get_of hi
    exact ⟨xs, x, hl D _ _ _ nD g, hx⟩
  · obtain ⟨acc, _, g⟩ := p
    exact ⟨xs, hl D _ _ _ nD g, Nat.le_refl _⟩
  · obtain ⟨acc, hD, g⟩ := p
    obtain ⟨T, x, rfl, nT, rfl, f⟩ := y
    exact g2_run (.inl (.inl upd_same)) ⟨hvs _ _, turn D i x acc H' _ nD (f xs (hl D _ _ _ nD g)) hi hD g (same_new (o := .tup [.int (i : Int), x]) nT)⟩
  · obtain ⟨acc, hD, g⟩ := p
    exact done D acc H' nD hD g
theorem lc_pairs {tt : TT} {k : Nat} {vs : List Nat} {ps : List Addr} (u : Nat → V × V) (hk : σ[k]? = some (some (.ref a))) (hx : SqL K H a (Rfs ps)) (hvs : ∀ v w, wipe (((wipe σ vs).set j1 v).set j2 w) vs = wipe σ vs)
    (G : Addr → Nat → List V → Hp → Prop) (h0 : ∀ D, H D = none → G D 0 [] (upd H D (.lst []))) (hl : ∀ D i acc H', H D = none → G D i acc H' → SqL K H' a (Rfs ps))
    (hp : ∀ D i p acc H', H D = none → ps[i]? = some p → H' D = some (.lst acc) → G D i acc H' → SqT K H' p [(u i).1, (u i).2])
    (turn : ∀ D i acc H', H D = none → i < ps.length → H' D = some (.lst acc) → G D i acc H' → Turn tt te D (G D) i (((wipe σ vs).set j1 (some (u i).1)).set j2 (some (u i).2)) H')
    (done : ∀ D acc H', H D = none → H' D = some (.lst acc) → G D ps.length acc H' → Q (.ref D) H') :
    tLc (iList K (tVar k)) (gTup K 2 (gCons (gName j1) (gCons (gName j2) gNil))) tt te vs σ H Q := by
  have hn : (Rfs ps).length = ps.length := List.length_map ..
  refine ⟨.ref a, hk, a, rfl, ⟨_, hx⟩, fun D nD => ?_⟩
  refine it_lc (n := ps.length) (So D (G D)) ⟨[], upd_same, h0 D nD⟩ (fun i H' hi p => ?_) (fun H' p => ?_) (fun i H' hi p v H2 y => ?_) (fun H' p => ?_)
  · obtain ⟨acc, _, g⟩ := p
    obtain ⟨x, hx⟩ := get_of (xs := Rfs ps) (by rw [hn]; exact hi)
    exact ⟨_, x, hl D _ _ _ nD g, hx⟩
  · obtain ⟨acc, _, g⟩ := p
    exact ⟨_, hl D _ _ _ nD g, by rw [hn]; exact Nat.le_refl _⟩
  · obtain ⟨acc, hD, g⟩ := p
    obtain ⟨rfl, f⟩ := y
    have e := f _ (hl D _ _ _ nD g)
    unfold Rfs at e
    rw [List.getElem?_map, List.getElem?_eq_getElem hi] at e
    cases e
    have gp : ps[i]? = some ps[i] := List.getElem?_eq_getElem hi
    exact g2_run (hp D i _ acc H2 nD gp hD g) ⟨hvs _ _, turn D i acc H2 nD hi hD g⟩
  · obtain ⟨acc, hD, g⟩ := p
    exact done D acc H' nD hD g
/-- [.. for j1 in x], x at a -/
theorem lc_each {tt : TT} {k : Nat} {vs : List Nat} (hk : σ[k]? = some (some (.ref a))) (hx : SqL K H a xs) (hvs : ∀ v, wipe ((wipe σ vs).set j1 v) vs = wipe σ vs)
    (G : Addr → Nat → List V → Hp → Prop) (h0 : ∀ D, H D = none → G D 0 [] (upd H D (.lst []))) (hl : ∀ D i acc H', H D = none → G D i acc H' → SqL K H' a xs)
    (turn : ∀ D i x acc H', H D = none → xs[i]? = some x → i < xs.length → H' D = some (.lst acc) → G D i acc H' → Turn tt te D (G D) i ((wipe σ vs).set j1 (some x)) H')
    (done : ∀ D acc H', H D = none → H' D = some (.lst acc) → G D xs.length acc H' → Q (.ref D) H') :
    tLc (iList K (tVar k)) (gName j1) tt te vs σ H Q := by
  refine ⟨.ref a, hk, a, rfl, ⟨_, hx⟩, fun D nD => ?_⟩
  refine it_lc (n := xs.length) (So D (G D)) ⟨[], upd_same, h0 D nD⟩ (fun i H' hi p => ?_) (fun H' p => ?_) (fun i H' hi p v H2 y => ?_) (fun H' p => ?_)
  · obtain ⟨acc, _, g⟩ := p
    obtain ⟨x, hx⟩ := get_of hi
    exact ⟨_, x, hl D _ _ _ nD g, hx⟩
  · obtain ⟨acc, _, g⟩ := p
    exact ⟨_, hl D _ _ _ nD g, Nat.le_refl _⟩
  · obtain ⟨acc, hD, g⟩ := p
    obtain ⟨rfl, f⟩ := y
    exact ⟨hvs _, turn D i v acc H2 nD (f _ (hl D _ _ _ nD g)) hi hD g⟩
  · obtain ⟨acc, hD, g⟩ := p
    exact done D acc H' nD hD g
/-- [.. for j1 in range(lo, hi, c)]: n turns -/
theorem lc_rng3 {tt : TT} {ta : TA} {vs : List Nat} {lo hi c : Int} {n : Nat} (ht : ∀ Q, Q [V.int lo, V.int hi, V.int c] H → ta σ H Q) (hn : RgC lo hi c n) (hvs : ∀ v, wipe ((wipe σ vs).set j1 v) vs = wipe σ vs)
    (G : Addr → Nat → List V → Hp → Prop) (h0 : ∀ D, H D = none → G D 0 [] (upd H D (.lst [])))
    (turn : ∀ (D : Addr) (i : Nat) (acc : List V) (H' : Hp), H D = none → i < n → H' D = some (.lst acc) → G D i acc H' → Turn tt te D (G D) i ((wipe σ vs).set j1 (some (.int (lo + (i : Int) * c)))) H')
    (done : ∀ D acc H', H D = none → H' D = some (.lst acc) → G D n acc H' → Q (.ref D) H') :
    tLc (iRng3 ta) (gName j1) tt te vs σ H Q := by
  refine ht _ ⟨lo, hi, c, n, rfl, hn, fun D nD => ?_⟩
  refine it_lc (n := n) (So D (G D)) ⟨[], upd_same, h0 D nD⟩ (fun i H' hi p => hi) (fun H' p => Nat.le_refl _) (fun i H' hi p v H2 y => ?_) (fun H' p => ?_)
  · obtain ⟨acc, hD, g⟩ := p
    obtain ⟨rfl, rfl⟩ := y
    exact ⟨hvs _, turn D i acc H2 nD hi hD g⟩
  · obtain ⟨acc, hD, g⟩ := p
    exact done D acc H' nD hD g
/-- [.. for j1 in range(n)] -/
theorem lc_rng {tt : TT} {ta : TA} {vs : List Nat} {n : Nat} (ht : ∀ Q, Q [V.int (n : Int)] H → ta σ H Q) (hn : n ≤ 1000000) (hvs : ∀ v, wipe ((wipe σ vs).set j1 v) vs = wipe σ vs)
    (G : Addr → Nat → List V → Hp → Prop) (h0 : ∀ D, H D = none → G D 0 [] (upd H D (.lst [])))
    (turn : ∀ (D : Addr) (i : Nat) (acc : List V) (H' : Hp), H D = none → i < n → H' D = some (.lst acc) → G D i acc H' → Turn tt te D (G D) i ((wipe σ vs).set j1 (some (.int (i : Int)))) H')
    (done : ∀ D acc H', H D = none → H' D = some (.lst acc) → G D n acc H' → Q (.ref D) H') :
    tLc (iRng1 ta) (gName j1) tt te vs σ H Q := by
  refine ht _ ⟨(n : Int), rfl, by omega, by omega, fun D nD => ?_⟩
  refine it_lc (n := n) (So D (G D)) ⟨[], upd_same, h0 D nD⟩ (fun i H' hi p => hi) (fun H' p => Nat.le_refl _) (fun i H' hi p v H2 y => ?_) (fun H' p => ?_)
  · obtain ⟨acc, hD, g⟩ := p
    obtain ⟨rfl, rfl⟩ := y
    have e : (0 : Int) + (i : Int) = (i : Int) := Int.zero_add _
    rw [e]
    exact ⟨hvs _, turn D i acc H2 nD hi hD g⟩
  · obtain ⟨acc, hD, g⟩ := p
    exact done D acc H' nD hD g
end
/-- how many turns range(lo, hi, c) has, c above 0 -/
def upN (lo hi c : Int) : Nat := if lo < hi then ((hi - lo - 1) / c).toNat + 1 else 0
theorem upN_rgc {lo hi c : Int} (hc : 1 ≤ c ∧ c ≤ 1000000) (hl : -1000000 ≤ lo ∧ lo ≤ 1000000) (hh : -1000000 ≤ hi ∧ hi ≤ 1000000) : RgC lo hi c (upN lo hi c) := by
  have size : Builtin.Range.rangeSize lo hi c = ((upN lo hi c : Nat) : Int) := by
    unfold Builtin.Range.rangeSize upN
    rw [if_pos (by omega)]
    split
    · have := Int.ediv_nonneg (a := hi - lo - 1) (b := c) (by omega) (by omega)
      omega
    · rfl
  have le : ((upN lo hi c : Nat) : Int) ≤ 2000001 := by
    unfold upN
    split
    · have h1 := Int.ediv_nonneg (a := hi - lo - 1) (b := c) (by omega) (by omega)
      have h2 := Int.ediv_le_self (a := hi - lo - 1) (b := c) (by omega)
      omega
    · decide
  refine ⟨by omega, by omega, ?_, size⟩
  unfold Builtin.Range.small
  rw [size]
  simp only [Builtin.Range.rangeFitsLong, Bool.and_eq_true, Bool.or_eq_true, decide_eq_true_eq, beq_iff_eq, show c > 0 by omega, if_true]
  omega
theorem upN_lt {lo hi c : Int} (hc : 1 ≤ c) {i : Nat} (h : i < upN lo hi c) : lo + (i : Int) * c < hi := by
  unfold upN at h
  split at h
  · have h1 := Int.ediv_nonneg (a := hi - lo - 1) (b := c) (by omega) (by omega)
    have h2 := Int.ediv_mul_le (hi - lo - 1) (b := c) (by omega)
    have h3 : (i : Int) ≤ (hi - lo - 1) / c := by omega
    have h4 : (i : Int) * c ≤ (hi - lo - 1) / c * c := Int.mul_le_mul_of_nonneg_right h3 (by omega)
    omega
  · omega
theorem upN_le {lo hi c : Int} (hc : 1 ≤ c) : upN lo hi c ≤ (hi - lo).toNat := by
  unfold upN
  split
  · have h1 := Int.ediv_nonneg (a := hi - lo - 1) (b := c) (by omega) (by omega)
    have h2 := Int.ediv_le_self (a := hi - lo - 1) (b := c) (by omega)
    omega
  · omega
theorem scal_ii (i j : Int) : scal (.int i) (.int j) = true := rfl
theorem scal_ss (i j : Str) : scal (.str i) (.str j) = true := rfl
theorem scal_nn : scal .non .non = true := rfl
theorem scal_bb (i j : Bool) : scal (.bl i) (.bl j) = true := rfl
theorem scal_ni (j : Int) : scal .non (.int j) = true := rfl
theorem scal_in (j : Int) : scal (.int j) .non = true := rfl
theorem cutV_to (xs : List V) (k : Nat) : cutV xs none (some (k : Int)) = xs.take k := by
  unfold cutV
  rw [HT.sIx_none, HT.sIx_nat]
  show (xs.drop 0).take (min k xs.length - 0) = _
  rw [List.drop_zero, Nat.sub_zero]
  by_cases h : k ≤ xs.length
  · rw [Nat.min_eq_left h]
  · rw [Nat.min_eq_right (by omega), List.take_of_length_le (Nat.le_refl _), List.take_of_length_le (by omega)]
theorem cutV_from (xs : List V) (k : Nat) : cutV xs (some (k : Int)) none = xs.drop k := by
  unfold cutV
  rw [HT.sIx_none, HT.sIx_nat]
  by_cases h : k ≤ xs.length
  · rw [Nat.min_eq_left h, List.take_of_length_le (by rw [List.length_drop]; exact Nat.le_refl _)]
  · rw [Nat.min_eq_right (by omega), List.drop_eq_nil_of_le (Nat.le_refl _), List.drop_eq_nil_of_le (by omega), List.take_nil]
theorem cut_ints_to (ns : List Int) (k : Nat) : cutV (ns.map V.int) none (some (k : Int)) = (ns.take k).map V.int := by rw [cutV_to, List.map_take]
theorem ints_get {l : List Int} {i : Nat} {x : V} (h : (l.map V.int)[i]? = some x) : ∃ z, x = .int z ∧ l[i]? = some z := by
  rw [List.getElem?_map] at h
  cases e : l[i]? with
  | none => rw [e] at h; cases h
  | some z => rw [e] at h; exact ⟨z, (Option.some.inj h).symm, rfl⟩
theorem rfs_get {l : List Addr} {i : Nat} {x : V} (h : (Rfs l)[i]? = some x) : ∃ z, x = .ref z ∧ l[i]? = some z := by
  unfold Rfs at h
  rw [List.getElem?_map] at h
  cases e : l[i]? with
  | none => rw [e] at h; cases h
  | some z => rw [e] at h; exact ⟨z, (Option.some.inj h).symm, rfl⟩
theorem rfs_len (l : List Addr) : (Rfs l).length = l.length := List.length_map ..
theorem rfs_at {l : List Addr} {i : Nat} {p : Addr} (h : l[i]? = some p) : (Rfs l)[i]? = some (.ref p) := by
  unfold Rfs
  rw [List.getElem?_map, h] <;> rfl
theorem seqIndex_nat {k n : Nat} (h : k < n) : seqIndex? (k : Int) n = some k := by
  have e := atI_nat (α := Nat) (xs := List.range n) (j := k) (v := k) (by rw [List.getElem?_range h])
  obtain ⟨j, h1, h2, h3, _⟩ := atI_get e
  rw [List.length_range] at h1
  rw [List.getElem?_eq_getElem h3] at h2
  rw [h1]
  have := Option.some.inj h2
  rw [List.getElem_range] at this
  rw [this]
theorem mem_set {α : Type} {l : List α} {n : Nat} {a b : α} (h : b ∈ l.set n a) : b ∈ l ∨ b = a := List.mem_or_eq_of_mem_set h
theorem rfs_erase : ∀ (l : List Addr) (n : Nat), (Rfs l).eraseIdx n = Rfs (l.eraseIdx n)
  | [], _ => rfl
  | _ :: _, 0 => rfl
  | a :: l, n + 1 => by
    show V.ref a :: (Rfs l).eraseIdx n = V.ref a :: Rfs (l.eraseIdx n)
    rw [rfs_erase l n]
end Sw

set_option Elab.async false
set_option linter.all false
set_option maxRecDepth 100000
set_option maxHeartbeats 4000000
namespace Sw
open PySem PySem.Spec PyProof.Rows L2
/-! ## Defs that may raise -/
section
variable {P : Program} {w : World} {K : PySem.W.Frag} {mg : Str → Option Value} {base : Heap} {x : Str} {st : Stmt} {N ps : List Str} {k : Nat} {sp : Sp}
theorem Here.calX {r : XK → TS} (F : Here K mg x st) (S : FnScope N ps (defScope st)) (len : ∀ vs H Q E, sp vs H Q E → vs.length = ps.length)
    (bd : ∀ (kV doc pm : Value) (an : Option Addr) (cdv ct : Value) (us : List Value), us.length = ps.length →
      bindArgs (PySem.W.fnOf x x (defArgs st) (defBody st) (defScope st) .none kV doc pm an cdv ct) ⟨us, []⟩ = pure (ps.zip us))
    (dv : ∀ (f : Addr) (cdv : Value) (A : Around) (outer : List Env) (s : Shared) (H : Hp) (E : XK), RmIn k A x st s f cdv → PSs (BX (L2.CX P w) P w K mg base N x st f cdv A outer s H E) (defBody st) (r E))
    (rd : ∀ (vs : List V) (H : Hp) (Q : VK) (E : XK), sp vs H Q E → r E { nx := fun _ H' => Q .non H', rt := Q } (L2.start N vs) H) :
    Cal P w K mg base (L2.CX P w) (k + 1) x ps sp := by
  obtain ⟨f, fd, D, g⟩ := F.ex
  refine ⟨f, fd, ?_, g, D.kp, D.bindsN bd, fun s us hl => D.bindsA bd s us hl, ?_⟩
  · exact D.ok S len fun cdv A outer s H vs Q E hr h => ⟨r E, dv f cdv A outer s H E hr, rd vs H Q E h⟩
  · obtain ⟨oc, od, _, _, _, _, _, _, _, osl, _, lk, _⟩ := D.ex
    exact ⟨oc, od, osl, lk⟩
/-- the same, where nothing is raised -/
def quiet (sp : Sp) : Sp := fun vs H Q _ => sp vs H Q E0
theorem Cal.quiet (c : Cal P w K mg base (L2.CX P w) k x ps sp) : Cal P w K mg base CX0 k x ps (quiet sp) := by
  obtain ⟨f, fd, F, g, kp, b, ba, lk⟩ := c.ex
  refine ⟨f, fd, ⟨fun vs H Q E h => F.len vs H Q E0 h, fun A outer s H args us vs Q E hr he hb rv h => ?_⟩, g, kp, b, ba, lk⟩
  refine codeAny_mono (F.run A outer s H args us vs Q E0 hr he hb rv h) fun r s' q => ?_
  cases r with
  | ok fl => cases fl <;> exact q
  | error e =>
    obtain ⟨_, _, _, _, _, _, _, _, _, _, _, _, z⟩ := q
    exact z.elim
end
/-- f(e, ..) that may raise, the wish about that W -/
def tCalW (sp : Sp) (W : WX) (t : TA) : TE := fun σ H Q => t σ H fun vs H1 => sp vs H1 Q fun cls d H' => W cls d σ H'
section
variable {X : Cx} {k : Nat} {x : Str} {ps : List Str} {sp : Sp} {t : TA} {e : Expr} {es : List Expr} {p pos : Pos} {W : WX}
theorem pe_calW (c : Cal X.prog X.w X.K X.mg X.base (L2.CX X.prog X.w) k x ps sp) (hr : Room k X.A) (tk : Takes X W) (hg : Gl X x) (ha : PA X (e :: es) t)
    (hdb : (x == ("__debug__" : Str)) = false := by decide) (he : starEach (e :: es) X.env = (false, eval e X.env) :: starEach es X.env := by rfl)
    (hpl : (backTo pos (starEach es X.env)).any (·.1) = false := by rfl) : PE X (.Call (.Name x p) (e :: es) [] pos) (tCalW sp W t) := by
  obtain ⟨f, fd, F, gm, kp, b, _⟩ := c.ex
  exact pe_callS F hr hg gm kp b (fun σ => passAt tk σ) ha hdb he hpl
/-! ## Raising -/
/-- the class x of the text, without an __init__ of its own, over ValueError -/
structure ExK (K : PySem.W.Frag) (mg : Str → Option Value) (x : Str) : Prop where
  g : mg x = some (.ref (He.ga K x))
  m : PySem.W.excIn K (He.ga K x) He.veBase "ValueError.__new__" = true ∧ PySem.W.keepIn K (.ref (He.ga K x)) = true ∧ PySem.W.subIn K (.ref (He.ga K x)) (.type "BaseException") = some true ∧ PySem.W.typeIn K (.ref (He.ga K x)) = some (.type "type")
/-- raise x(e, ..) -/
def tRzA (C : Addr) (W : WX) (t : TA) : TS := fun _ σ H => t σ H fun vs H1 => vs.length ≤ sizeLine ∧ W (.ref C) none σ H1
theorem ps_rzA {pos2 : Pos} (hc : X.calm = true) (tk : Takes X W) (m : ExK X.K X.mg x) (hg : Gl X x) (ha : PA X (e :: es) t)
    (hdb : (x == ("__debug__" : Str)) = false := by decide)
    (he : starEach (e :: es) X.env = (false, eval e X.env) :: starEach es X.env := by rfl) (hpl : (backTo pos (starEach es X.env)).any (·.1) = false := by rfl) :
    PS X (.Raise (some (.Call (.Name x p) (e :: es) [] pos)) none pos2) (tRzA (He.ga X.K x) W t) :=
  ps_raise hc tk (pmk_ownA PySem.F.excBase_ValueError m.m.1 m.g m.m.2.1 (raises_own m.m.2.2.1 m.m.2.2.2) hg ha hdb he hpl)
/-! ## {x} of a whole number or None -/
def tFmtN (te : TE) : TE := fun σ H Q => te σ H fun x H1 => (x = .non ∧ Q (.str "None") H1) ∨ ∃ i : Int, x = .int i ∧ i.natAbs.log2 < 1920 ∧ Q (.str (toString i)) H1
theorem pe_fmtN {te : TE} (he : PE X e te) : PE X (.FormattedValue e (-1) none pos) (tFmtN te) := by
  refine ⟨fun pins s σ H Q I h => ?_⟩
  refine wpAny_FormattedValue_plain (thn (he.run pins s σ H _ I h) fun v s1 hv => ?_)
  obtain ⟨y, H1, I1, r1, q⟩ := hv
  rcases q with ⟨rfl, q⟩ | ⟨i, rfl, hz, q⟩
  · cases r1
    exact wpAny_formatField_none ⟨.str "None", H1, (I1.tok _).tok _, ⟨_, rfl⟩, q⟩
  · obtain ⟨tk, rfl⟩ := r1
    exact wpAny_formatField_int hz ⟨.str (toString i), H1, I1.tok _, ⟨_, rfl⟩, q⟩
/-! ## W.__init__(self, ..), W an own class that has ValueError's -/
structure InK (K : PySem.W.Frag) (mg : Str → Option Value) (x : Str) : Prop where
  g : mg x = some (.ref (He.ga K x))
  sp : PySem.W.specialIn K (.ref (He.ga K x)) "__getattribute__" = some (some (.builtin "type.__getattribute__"))
  rd : PySem.W.readsIn K (He.ga K x) (.type "type") = true
  ty : PySem.W.typeIn K (.ref (He.ga K x)) = some (.type "type")
  fc : PySem.W.findCls K (.ref (He.ga K x)) (.type "type") "__init__" = some (.val (.builtin "ValueError.__init__"))
theorem pe_winit {pl : Sem Bool} {p1 p2 : Pos} (m : InK X.K X.mg x) (hg : Gl X x) (ha : PA X (e :: es) t)
    (hc : eval (.Call (.Attribute (.Name x p1) "__init__" p2) (e :: es) [] pos) X.env = (do
      let ov ← eval (.Name x p1) X.env
      standAt p2.atName
      let (f, first) ← holding [ov] (getMethod ov "__init__" pl)
      callWith pos f first (backTo pos (starEach (e :: es) X.env)) (backToKw pos (keywordEach [] X.env))) := by rfl)
    (hdb : (x == ("__debug__" : Str)) = false := by decide)
    (he : starEach (e :: es) X.env = (false, eval e X.env) :: starEach es X.env := by rfl) (hpl : (backTo pos (starEach es X.env)).any (·.1) = false := by rfl) :
    PE X (.Call (.Attribute (.Name x p1) "__init__" p2) (e :: es) [] pos) (tVeI X.K t) := by
  refine ⟨fun pins s σ H Q I h => ?_⟩
  refine PySem.W.methodCall_KW (ld_glob I hg m.g ?_ hdb) hc
  obtain ⟨mm, fr⟩ := I.fr
  refine PySem.W.method_of_cls fr I.ok.mod.kin m.sp ?_
  refine PySem.W.cls_val fr I.ok.mod.kin m.ty m.rd m.fc (by decide +kernel) ?_
  show wpAny _ _ (callWith pos (Value.builtin "ValueError.__init__") [] (backTo pos (starEach (e :: es) X.env)) []) _ _ _
  refine callWith_method1 (thn (ha.run pos pins _ σ H _ (I.tok _) h) fun us s1 hv => ?_) he hpl
  obtain ⟨vs, H1, I1, r1, a, C, ws, rfl, hl, T, ea, q⟩ := hv
  cases r1 with
  | @cons _ u0 _ ur ra rw' =>
    obtain rfl : u0 = Value.ref a := ra
    have small : ur.length ≤ sizeLine := by
      rw [← Paired.length rw']
      exact small_line (by omega)
    exact oinit_ok T I1 ea small fun s' J => ⟨.non, H1, J, rfl, q⟩
end
end Sw

set_option Elab.async false
set_option linter.all false
set_option maxRecDepth 100000
set_option maxHeartbeats 4000000
namespace Sw
open PySem PySem.Spec PyProof.Rows L2
/-! ## What the head is asked of the classes of errors -/
def oexB (K : PySem.W.Frag) (C : Addr) : Bool :=
  (match K.lookup C with
  | some ⟨.type "type", _, .cls cd, sl⟩ => (match cd.mro, sl.toList with
    | .ref C' :: bm, [_, _, _, _, some (.builtin n), _] => decide (C' = C) && (decide (n = "ValueError.__new__") && (!cd.hasDel && (cd.hasDict && PySem.HandSPX.refsVE bm)))
    | _, _ => false)
  | _ => false) && (He.eqO (PySem.W.findIn K (.ref C) "__setattr__") (some (some (.builtin "object.__setattr__"))) && (decide (PySem.W.subIn K (.ref C) (.type "BaseException") = some true) &&
    (decide (PySem.W.typeIn K (.ref C) = some (.type "type")) && PySem.W.keepIn K (.ref C))))
theorem oexB_ok {K : PySem.W.Frag} {C : Addr} (h : oexB K C = true) : OexC K C := by
  unfold oexB at h
  obtain ⟨h1, h⟩ := He.ba h
  obtain ⟨h2, h⟩ := He.ba h
  obtain ⟨h3, h⟩ := He.ba h
  obtain ⟨h4, h5⟩ := He.ba h
  refine ⟨?_, He.eqO_ok h2, of_decide_eq_true h3, of_decide_eq_true h4, h5⟩
  split at h1
  · rename_i dd cd sl ho
    split at h1
    · rename_i C' bm k0 k1 k2 k3 n k5 hm hs
      obtain ⟨q1, h1⟩ := He.ba h1
      obtain ⟨q2, h1⟩ := He.ba h1
      obtain ⟨q3, h1⟩ := He.ba h1
      obtain ⟨q4, q5⟩ := He.ba h1
      have q1 := of_decide_eq_true q1
      have q2 := of_decide_eq_true q2
      try subst q1
      try subst q2
      obtain ⟨nm, bs, mro, ns, qn, hd, sn, sub, ab, col, del⟩ := cd
      dsimp only at hm q3 q4
      have q3 : del = false := by simpa using q3
      subst hm q3 q4
      have hsl : sl = #[k0, k1, k2, k3, some (.builtin "ValueError.__new__"), k5] := by
        obtain ⟨l⟩ := sl
        simp only at hs
        rw [hs]
      subst hsl
      exact ⟨nm, qn, ns, bs, bm, sn, sub, ab, col, dd, k0, k1, k2, k3, k5, ho, q5⟩
    · cases h1
  · cases h1
def winB (K : PySem.W.Frag) (x : Str) : Bool := He.eqO (PySem.W.nsIn K mainGlobals x) (some (some (.ref (He.ga K x)))) && (He.eqO (PySem.W.specialIn K (.ref (He.ga K x)) "__getattribute__") (some (some (.builtin "type.__getattribute__"))) &&
  (PySem.W.readsIn K (He.ga K x) (.type "type") && (decide (PySem.W.typeIn K (.ref (He.ga K x)) = some (.type "type")) && (match PySem.W.findCls K (.ref (He.ga K x)) (.type "type") "__init__" with
    | some (.val v) => decide (v = .builtin "ValueError.__init__")
    | _ => false))))
theorem winB_ok {K : PySem.W.Frag} {h : Heap} {mg : Str → Option Value} {x : Str} (X : K.In h) (G : h.Ns mainGlobals mg) (e : winB K x = true) : InK K mg x := by
  unfold winB at e
  obtain ⟨h1, e⟩ := He.ba e
  obtain ⟨h2, e⟩ := He.ba e
  obtain ⟨h3, e⟩ := He.ba e
  obtain ⟨h4, h5⟩ := He.ba e
  refine ⟨PySem.W.mg_of X G (He.eqO_ok h1), He.eqO_ok h2, h3, of_decide_eq_true h4, ?_⟩
  split at h5
  · rename_i v hv
    have := of_decide_eq_true h5
    subst this
    exact hv
  · cases h5
/-- an error class with an __init__ of its own (x.__init__ keeps one field f) -/
structure OwK (K : PySem.W.Frag) (mg : Str → Option Value) (x f : Str) : Prop where
  g : mg x = some (.ref (He.ga K x))
  o : OexC K (He.ga K x)
  i : PySem.W.findIn K (.ref (He.ga K x)) "__init__" = some (some (.ref (He.ma K (He.ga K x) "__init__")))
  t : PySem.W.typeIn K (.ref (He.ma K (He.ga K x) "__init__")) = some (.type "function")
  n : PySem.W.findIn K (.ref (He.ga K x)) f = some none
def owB (K : PySem.W.Frag) (x f : Str) : Bool := He.eqO (PySem.W.nsIn K mainGlobals x) (some (some (.ref (He.ga K x)))) && (oexB K (He.ga K x) && (He.eqO (PySem.W.findIn K (.ref (He.ga K x)) "__init__") (some (some (.ref (He.ma K (He.ga K x) "__init__")))) &&
  (decide (PySem.W.typeIn K (.ref (He.ma K (He.ga K x) "__init__")) = some (.type "function")) && He.eqO (PySem.W.findIn K (.ref (He.ga K x)) f) (some none))))
theorem owB_ok {K : PySem.W.Frag} {h : Heap} {mg : Str → Option Value} {x f : Str} (X : K.In h) (G : h.Ns mainGlobals mg) (e : owB K x f = true) : OwK K mg x f := by
  unfold owB at e
  obtain ⟨h1, e⟩ := He.ba e
  obtain ⟨h2, e⟩ := He.ba e
  obtain ⟨h3, e⟩ := He.ba e
  obtain ⟨h4, h5⟩ := He.ba e
  exact ⟨PySem.W.mg_of X G (He.eqO_ok h1), oexB_ok h2, He.eqO_ok h3, of_decide_eq_true h4, He.eqO_ok h5⟩
section
variable {fa : List He.Fa} {fn : List He.DefD} {ex : PySem.W.Frag → Bool} {h : Heap} {K : PySem.W.Frag} {mg : Str → Option Value}
theorem exk_of (c : SaysZ fa fn ex K) (X : K.In h) (G : h.Ns mainGlobals mg) {x : Str} (i j : Nat) (hi : fa[i]? = some (.glo x)) (hj : fa[j]? = some (.exc x)) : ExK K mg x :=
  ⟨He.glo_ok X G (c.d.fact i hi), He.exc_ok (c.d.fact j hj)⟩
theorem exm_of' (c : SaysZ fa fn ex K) {x y : Str} {b : Bool} (j : Nat) (hj : fa[j]? = some (.exm x y b)) : PySem.W.exmOne K (.ref (He.ga K x)) (.ref (He.ga K y)) = some b := He.exm_ok (c.d.fact j hj)
end
/-! ## raise x(e), x with such an __init__: the error's own dict is new and holds the field -/
def spInit (K : PySem.W.Frag) (C : Addr) (f : Str) : Sp := fun vs H Q _ => ∃ (a : Addr) (v : V), vs = [.ref a, v] ∧ H a = some (exo a C none) ∧ (v = .non ∨ ∃ i : Int, v = .int i ∧ 0 ≤ i ∧ i ≤ 1000) ∧
  ∀ dx, H dx = none → dx ≠ a → Q .non (upd (upd H dx (exd dx [(f, v)])) a (exo a C (some dx)))
/-- the error x of that field -/
def EOwn (K : PySem.W.Frag) (x f : Str) (v : V) (σ : L2.St) (H : Hp) (W : WX) : Prop := ∀ d, H d = none → W (.ref (He.ga K x)) (some d) σ (upd H d (.xd [(f, v)]))
/-- what is wished of the field's value ahead of the raise -/
def OwnWish (K : PySem.W.Frag) (x f : Str) (W : WX) (σ : L2.St) : VK := fun v H1 => [v].length ≤ 1000 ∧ ∀ a, H1 a = none → spInit K (He.ga K x) f (.ref a :: ([v] ++ [])) (upd H1 a (exo a (He.ga K x) none))
  (fun u H2 => u = .non ∧ ∃ (d : Addr) (fs : List (Str × V)), H2 a = some (exo a (He.ga K x) (some d)) ∧ H2 d = some (exd d fs) ∧ H1 d = none ∧ W (.ref (He.ga K x)) (some d) σ (upd (L2.del H2 a) d (.xd fs))) (fun _ _ _ => False)
theorem del_upd {H1 : Hp} {a dx : Addr} {o u w : HO} (ha : H1 a = none) (ne : dx ≠ a) : upd (L2.del (upd (upd (upd H1 a o) dx u) a w) a) dx u = upd H1 dx u := by
  funext b
  by_cases hb : b = dx
  · subst hb
    rw [upd_same, upd_same]
  · rw [upd_ne hb, upd_ne hb]
    by_cases h2 : b = a
    · subst h2
      rw [del_same, ha]
    · rw [del_ne h2, upd_ne h2, upd_ne hb, upd_ne h2]
theorem OwnWish.mk {K : PySem.W.Frag} {x f : Str} {W : WX} {σ : L2.St} {v : V} {H1 : Hp} (hv : v = .non ∨ ∃ i : Int, v = .int i ∧ 0 ≤ i ∧ i ≤ 1000) (h : EOwn K x f v σ H1 W) : OwnWish K x f W σ v H1 := by
  refine ⟨by show 1 ≤ 1000; decide, fun a na => ⟨a, v, rfl, upd_same, hv, fun dx ndx ne => ⟨rfl, dx, [(f, v)], upd_same, ?_, ?_, ?_⟩⟩⟩
  · rw [upd_ne ne, upd_same]
  · rw [upd_ne ne] at ndx
    exact ndx
  · have nd : H1 dx = none := by
      rw [upd_ne ne] at ndx
      exact ndx
    have e : upd (L2.del (upd (upd (upd H1 a (exo a (He.ga K x) none)) dx (exd dx [(f, v)])) a (exo a (He.ga K x) (some dx))) a) dx (.xd [(f, v)]) = upd H1 dx (.xd [(f, v)]) := by
      funext b
      by_cases hb : b = dx
      · subst hb
        rw [upd_same, upd_same]
      · rw [upd_ne hb, upd_ne hb]
        by_cases h2 : b = a
        · subst h2
          rw [del_same, na]
        · rw [del_ne h2, upd_ne h2, upd_ne hb, upd_ne h2]
    rw [e]
    exact h dx nd
def tRzO (K : PySem.W.Frag) (x f : Str) (W : WX) (te : TE) : TS := fun _ σ H => te σ H (OwnWish K x f W σ)
section
variable {X : Cx} {k : Nat} {x f : Str} {te : TE} {e : Expr} {p pos : Pos} {W : WX} {fdI : FuncData} {qs : List Str}
theorem ps_rzO {pos2 : Pos} (hc : X.calm = true) (tk : Takes X W) (m : OwK X.K X.mg x f) (F : FnOk X.prog X.w X.K X.mg X.base CX0 k (He.ma X.K (He.ga X.K x) "__init__") fdI qs (spInit X.K (He.ga X.K x) f)) (hb : Binds X.K fdI qs [])
    (hr : Room (k + 1) X.A) (hg : Gl X x) (ha : PA X [e] (tCons te tNil)) (hdb : (x == ("__debug__" : Str)) = false := by decide)
    (hs : starEach [e] X.env = (false, eval e X.env) :: starEach [] X.env := by rfl) (hpl : (backTo pos (starEach [] X.env)).any (·.1) = false := by rfl) :
    PS X (.Raise (some (.Call (.Name x p) [e] [] pos)) none pos2) (tRzO X.K x f W te) :=
  ps_raise (pos := pos2) hc tk (pmk_oex (X := X) (dvs := []) (ds := []) m.o m.i m.t F hr hb .nil pass0 hg m.g ha hdb hs hpl)
end
end Sw

set_option Elab.async false
set_option linter.all false
set_option maxRecDepth 100000
set_option maxHeartbeats 4000000
namespace Sw
open PySem PySem.Spec PyProof.Rows L2
/-! ## A caught error: come down to the ground -/
theorem fly_keep {g B g' : Heap} {l : List Env} {a : Addr} {Z : Obj → Prop} (f : HandSPX.FlyingZ B l a Z g) (k : ∀ b o, g.get? b = some o → g'.get? b = some o) : HandSPX.FlyingZ B l a Z g' := by
  obtain ⟨q1, q2, q3, ob, ws, T, oT, tr, y1, y2, y3, y4, y5, y6, y7, y8, y9⟩ := f
  exact ⟨fun b o e => k b o (q1 b o e), q2, q3.of_keeps fun b o e _ => ⟨o, k b o e, rfl⟩, ob, ws, T, oT, tr, k _ _ y1, y2, y3, y4, y5, y6, k _ _ y7, y8, y9⟩
/-- what holds of the error at a, once it is noted -/
structure Down (X : Cx) (pins : List (Addr × Obj)) (σ : L2.St) (H : Hp) (a : Addr) (Z : Obj → Prop) (s : Shared) : Prop where
  at_ : ∃ ob ws, s.heap.get? a = some ob ∧ Z ob ∧ ob.data = .fields ws
  inv : Inv X pins σ H s
  nl : a ≠ X.env.locals
  nf : a ∉ X.fs
  n0 : X.s_0.heap.get? a = none
  np : ∀ p ∈ X.pn ++ pins, p.1 ≠ a
section
variable {X : Cx} {pins : List (Addr × Obj)} {σ : L2.St} {H : Hp} {a : Addr} {Z : Obj → Prop}
theorem down_of {B g : Heap} {r t : Shared} (hx : X.ex = []) (hf : X.env.frame = some X.env.locals) (hs : X.stack = X.env :: X.outer) (I : Inv X pins σ H r) (nb : ∀ b o, r.heap.get? b = some o → b ∉ frs X.stack → B.get? b = some o)
    (up : r.heap.UpToSlots g) (eo : t.os = r.os) (eg : AllBare t.gens) (fl : HandSPX.FlyingZ B (X.env :: X.outer) a Z g) : Down X pins σ H a Z { t with heap := g } := by
  obtain ⟨ob, ws, e1, e2, e3⟩ := fl.there
  have out : a ∉ frs (X.env :: X.outer) := fun hm => by
    obtain ⟨_, o, e, nd⟩ := (show g.FunFrames B (X.env :: X.outer) from fl.2.2.1).mem hm
    rw [e1] at e
    cases e
    exact nd _ e3
  have gone : ∀ o, r.heap.get? a = some o → False := fun o e => by
    have z := nb a o e (by rw [hs]; exact out)
    rw [fl.2.1] at z
    cases z
  refine ⟨⟨ob, ws, e1, e2, e3⟩, I.landed (s' := { t with heap := g }) nb fl.1 up eo eg, fun z => out ?_, fun z => out ?_, ?_, fun p hp z => ?_⟩
  · exact List.mem_filterMap.mpr ⟨X.env, List.mem_cons_self, by rw [hf, z]⟩
  · obtain ⟨e, he, q⟩ := List.mem_filterMap.mp z
    exact List.mem_filterMap.mpr ⟨e, List.mem_cons_of_mem _ he, q⟩
  · cases e : X.s_0.heap.get? a with
    | none => rfl
    | some o =>
      obtain ⟨o', q⟩ := I.base.there a o e (by rw [hx]; exact fun z => nomatch z)
      exact (gone o' q).elim
  · exact gone p.2 (by rw [← z]; exact (I.pin p hp).1)
/-- an error that stands at a: its class, its dict -/
def ErO (cls : Value) (d : Option Addr) (a : Addr) : HO := .ext fun g => ∃ (ob : Obj) (ws : Array Value), g.get? a = some ob ∧ Zc cls d ob ∧ ob.data = .fields ws
theorem track {s : Shared} {cls : Value} {d : Option Addr} {ob : Obj} {ws : Array Value} (I : Inv X pins σ H s) (e : s.heap.get? a = some ob) (z : Zc cls d ob) (ed : ob.data = .fields ws) (na : H a = none) (nl : a ≠ X.env.locals) (n0 : X.s_0.heap.get? a = none)
    (np : ∀ p ∈ X.pn ++ pins, p.1 ≠ a) : Inv X pins σ (upd H a (ErO cls d a)) s := by
  have ne0 : ∀ b o, X.s_0.heap.get? b = some o → b ≠ a := fun b o q y => by
    rw [y, n0] at q
    cases q
  have neH : ∀ b u, H b = some u → b ≠ a := fun b u q => ne_of_none q na
  refine ⟨I.ok, I.os, I.bare, ⟨I.base.keep, I.base.slot, fun b o q n x => ?_, I.base.there, fun b xs q => ?_, fun b o u q => ?_, fun b ps q => ?_⟩, I.loc, I.cell, ?_, fun x c q => ?_, fun p hp => ?_, ?_, I.len⟩
  · rw [upd_ne (ne0 b o q)]
    exact I.base.free b o q n x
  · have y := I.base.tups b xs q
    rw [upd_ne (neH b _ y)]
    exact y
  · have y := I.base.frzs b o u q
    rw [upd_ne (neH b _ y)]
    exact y
  · obtain ⟨m, y⟩ := I.base.tbls b ps q
    exact ⟨m, by rw [upd_ne (neH b _ y)]; exact y⟩
  · rw [upd_ne nl.symm]
    exact I.free
  · obtain ⟨v, o, ho, hd⟩ := I.cell x c q
    have : c ≠ a := fun y => by
      rw [y, e] at ho
      cases ho
      rw [ed] at hd
      cases hd
    rw [upd_ne this]
    exact I.freeC x c q
  · obtain ⟨y1, y2, y3⟩ := I.pin p hp
    exact ⟨y1, by rw [upd_ne (np p hp)]; exact y2, y3⟩
  · exact I.hok.laidN (fun _ _ q => q) na ⟨⟨ob, ws, e, z, ed⟩, ⟨ob, e⟩, fun _ _ ⟨o, v, q, r⟩ k => ⟨o, v, k o q, r⟩⟩
end
/-! ## try: .. except x as n: .., the error kept behind it -/
/-- what such a try wishes of an error of its body: x names it, the suite goes on, then it stands -/
def wKeep (K : PySem.W.Frag) (c : Value) (i : Nat) (ts : Addr → Value → Option Addr → TS) (D : Ends) : WX := fun cls d σ H => PySem.W.exmOne K cls c = some true ∧ ∀ a, H a = none →
  ts a cls d { nx := fun σ' H' => D.nx (σ'.set i none) (upd H' a (ErO cls d a)), rt := fun v H' => D.rt v (upd H' a (ErO cls d a)), bk := fun σ' H' => D.bk (σ'.set i none) (upd H' a (ErO cls d a)), ct := fun σ' H' => D.ct (σ'.set i none) (upd H' a (ErO cls d a)) } (σ.set i (some (.ref a))) H
section
variable {X : Cx} {x n : Str} {c : Value} {i : Nat} {body suite : List Stmt} {b₀ : Stmt} {np pos pos' : Pos} {tb : WX → TS} {ts : Addr → Value → Option Addr → TS}
theorem ps_try_keep (hs : X.stack = X.env :: X.outer) (hf : X.env.frame = some X.env.locals) (hx : X.ex = []) (hN : X.N.Nodup) (hi : X.N[i]? = some n) (hln : X.env.kindOf n = some .local) (hc : Names X x c)
    (hb : ∀ (W : WX) (pn : List (Addr × Obj)) (xe : Value → Shared → Prop), L2.Takes (X.tr pn xe) W → PassesOwn (model X.prog X.w) X.A X.env xe → PSs (X.tr pn xe) body (tb W))
    (hsu : ∀ (a : Addr) (oe : Obj) (cls : Value) (d : Option Addr) (pn : List (Addr × Obj)), Zc cls d oe → (∃ vs, oe.data = .fields vs) → PSs (X.suite a ((a, oe) :: pn)) (b₀ :: suite) (ts a cls d)) :
    PS X (.Try body [.ExceptHandler (some (.Name x np)) (some n) (b₀ :: suite) pos'] [] [] pos) (fun D σ H => tb (wKeep X.K c i ts D) D σ H) := by
  refine ⟨fun pins s σ H D I h => wpAny_Try_except ?_⟩
  have ok := I.ok
  have frm : X.A.frames = some (X.env :: X.outer) := hs ▸ ok.frames
  refine wpAny_mono ((hb (wKeep X.K c i ts D) (X.pn ++ pins) (fun e t => wpAny (model X.prog X.w) X.A (noteFrame e X.env) (fun _ t2 => wpAny (model X.prog X.w) X.A (setFlight e none) (fun _ t3 =>
    wpAny (model X.prog X.w) X.A (handleBy e X.env [.ExceptHandler (some (.Name x np)) (some n) (b₀ :: suite) pos']) (SP X pins D) X.xe t3) X.xe t2) X.xe t) (fun u t xx => ?_) PassesOwn.looking).run [] s σ H D (I.toTry _) h) (fun f t hsp => ?_) (fun _ _ z => z)
  · obtain ⟨a, B, r, pr, σ1, H1, cls, d, rfl, I1, nb, up, sky, na, eo, eg, hm, hgo⟩ := xx
    have I2 : Inv X pins σ1 H1 r := I1.ofTry ok
    show wpAny (model X.prog X.w) X.A (noteFrame (.ref a) X.env) _ _ _
    refine L2.Sky.land (Z := Zc cls d) (B := B) (L := X.env.locals) Zc.steady frm hf (by rw [← hs]; exact sky) fun g3 fl3 up3 => ?_
    have d3 := down_of (t := t) hx hf hs I2 nb (up.trans up3) eo eg fl3
    obtain ⟨ob3, ws3, e3, z3, dt3⟩ := d3.at_
    have S3 := d3.inv.suite e3 dt3 na d3.nl d3.nf
    refine wpAny_handleBy_cons (codeAny_handlers_test ?_) (fun q => nomatch q)
    have LT : PySem.W.Looks (model X.prog X.w) g3 (typeOf (.ref a)) cls := fun _ _ _ _ k q => wpAny_typeOf_ref (k _ _ e3) (by rw [z3.1]; exact q)
    have LM := PySem.W.exm_one (M := model X.prog X.w) d3.inv.kIn LT hm
    have test : ∀ {Q E : Value → Shared → Prop}, Q c { t with heap := g3 } → wpAny (model X.prog X.w) (X.A.mark (some (.ref a))) (eval (.Name x np) X.env) Q E { t with heap := g3 } := fun {Q E} q => by
      obtain ⟨y1, y2, y3 | ⟨y3, y4, y5⟩⟩ := hc
      · exact ld_glob (X := X.suite a ((a, ob3) :: (X.pn ++ pins))) S3 y1 y3 q y2
      · exact ld_blt (X := X.suite a ((a, ob3) :: (X.pn ++ pins))) S3 y1 y3 y4 q y5 y2
    refine test (LM.here (codeAny_handlers_suite_as ?_))
    refine HandSPX.lands_againZ fl3 fun g4 fl4 up4 => ?_
    have d4 := down_of (t := t) hx hf hs I2 nb ((up.trans up3).trans up4) eo eg fl4
    obtain ⟨ob4, ws4, e4, z4, dt4⟩ := d4.at_
    have S4 := d4.inv.suite e4 dt4 na d4.nl d4.nf
    refine store_ok (X := X.suite a ((a, ob4) :: (X.pn ++ pins))) (v := .ref a) S4 hN hi (.inl hln) rfl (fun s5 S5 => ?_) (.inr hln)
    refine wpAny_mono ((hsu a ob4 cls d (X.pn ++ pins) z4 ⟨_, dt4⟩).run [] s5 _ H1 _ S5 (hgo a na)) (fun f s6 hsp => ?_) (fun _ _ z => z.elim)
    have fin : ∀ {σ6 : L2.St} {H6 : Hp} {Q : Shared → Prop}, Inv (X.suite a ((a, ob4) :: (X.pn ++ pins))) [] σ6 H6 s6 → (∀ s7, Inv X pins (σ6.set i none) (upd H6 a (ErO cls d a)) s7 → Q s7) →
        wpAny (model X.prog X.w) X.A (do bindName X.env n .none; unbindBehindTheSuite X.env n pos') (fun _ s7 => Q s7) X.xe s6 := fun {σ6 H6 Q} S6 hq => by
      obtain ⟨y1, y2, _⟩ := S6.pin (a, ob4) (List.mem_append_left _ List.mem_cons_self)
      exact gone_ok (track (S6.unsuite ok) y1 z4 dt4 y2 d4.nl d4.n0 d4.np) hN hi hln hq
    cases f with
    | next =>
      obtain ⟨σ6, H6, S6, q6⟩ := hsp
      exact fin S6 fun s7 J7 => ⟨_, _, J7, q6⟩
    | brk =>
      obtain ⟨σ6, H6, S6, q6⟩ := hsp
      exact fin S6 fun s7 J7 => ⟨_, _, J7, q6⟩
    | cont =>
      obtain ⟨σ6, H6, S6, q6⟩ := hsp
      exact fin S6 fun s7 J7 => ⟨_, _, J7, q6⟩
    | ret u =>
      obtain ⟨v6, σ6, H6, S6, r6, q6⟩ := hsp
      exact fin S6 fun s7 J7 => ⟨_, _, _, J7, r6, q6⟩
  · cases f with
    | next =>
      obtain ⟨σ1, H1, I1, q⟩ := hsp
      exact wpAny_execs_nil ⟨σ1, H1, I1.ofTry ok, q⟩
    | brk =>
      obtain ⟨σ1, H1, I1, q⟩ := hsp
      exact ⟨σ1, H1, I1.ofTry ok, q⟩
    | cont =>
      obtain ⟨σ1, H1, I1, q⟩ := hsp
      exact ⟨σ1, H1, I1.ofTry ok, q⟩
    | ret u =>
      obtain ⟨v, σ1, H1, I1, r, q⟩ := hsp
      exact ⟨v, σ1, H1, I1.ofTry ok, r, q⟩
end
end Sw

set_option Elab.async false
set_option linter.all false
set_option maxRecDepth 100000
set_option maxHeartbeats 4000000
namespace Sw
open PySem PySem.Spec PyProof.Rows L2
/-! ## What is asked of a kept error -/
/-- the error's dict stands -/
def DicOk (H : Hp) (d : Option Addr) : Prop := d = none ∨ ∃ dd fs, d = some dd ∧ H dd = some (.xd fs)
section
variable {X : Cx} {pins : List (Addr × Obj)} {σ : L2.St} {H : Hp} {s : Shared} {a C : Addr} {d : Option Addr}
theorem inst_at (I : Inv X pins σ H s) (e : H a = some (ErO (.ref C) d a)) (hd : DicOk H d) : ∃ ob od, PySem.W.InstAt s.heap a ob C od ∧ (∀ dd fs, d = some dd → H dd = some (.xd fs) → ∃ o, od = some o ∧ s.heap.get? dd = some o) := by
  obtain ⟨⟨ob, ws, y1, ⟨y2, y3⟩, y4⟩, _, _⟩ := I.hok a _ e
  have nc : PySem.W.notCls ob = true := by
    unfold PySem.W.notCls
    rw [y4] <;> rfl
  rcases hd with rfl | ⟨dd, fs, rfl, hx⟩
  · exact ⟨ob, none, ⟨y1, y2, nc, by rw [y3]; trivial⟩, fun _ _ z => nomatch z⟩
  · obtain ⟨mA, ⟨o, es, ep, e1, _⟩, _⟩ := (show ObjOk X.prog X.w H s.heap dd (.xd fs) from I.hok dd _ hx)
    exact ⟨ob, some o, ⟨y1, y2, nc, by rw [y3]; exact e1⟩, fun d2 f2 z _ => by cases z; exact ⟨o, rfl, e1⟩⟩
end
/-- isinstance(x, c) of what rIsi knows, or of a kept error -/
def rIsK (K : PySem.W.Frag) : List V → Hp → VK → Prop := fun xs H Q => rIsi K xs H Q ∨ ∃ (a C : Addr) (d : Option Addr) (c : V) (u : Value) (b : Bool), xs = [.ref a, c] ∧ H a = some (ErO (.ref C) d a) ∧ DicOk H d ∧ ExcC K C ∧ ClsV c u ∧ PySem.W.kitOne K (.ref C) u = some b ∧ Q (.bl b) H
theorem cl_isk {X : Cx} : CallR X (.builtin "isinstance") (rIsK X.K) := by
  intro pins s σ H xs us Q I r h
  rcases h with h | ⟨a, C, d, c, u, b, rfl, ea, hd, T, k, e, q⟩
  · exact call_isi pins s σ H xs us Q I r h
  · obtain ⟨u1, u2, rfl, r1, r2⟩ := vals2 r
    obtain rfl := k.eq r2
    obtain rfl : u1 = Value.ref a := r1
    obtain ⟨ob, od, J, _⟩ := inst_at I ea hd
    have hcl : (PySem.W.clsIn X.K C).isSome = true := by
      obtain ⟨cd, hc, _⟩ := PySem.W.any_some T.hd
      rw [hc] <;> rfl
    exact PySem.W.kia_one (PySem.W.kitx_exc hcl T.hg T.hk T.hs T.ha T.hn T.ht T.hm) I.kIn J e (fun z => nomatch z) fun tk => ⟨.bl b, H, I.tok tk, rfl, q⟩
/-- x.f of a kept error -/
def tXk (K : PySem.W.Frag) (f : Str) (te : TE) : TE := fun σ H Q => te σ H fun x H1 => ∃ (a C dd : Addr) (fs : List (Str × V)) (v : V), x = .ref a ∧ H1 a = some (ErO (.ref C) (some dd) a) ∧ H1 dd = some (.xd fs) ∧ XfC K C ∧ PySem.W.findIn K (.ref C) f = some none ∧ fs.lookup f = some v ∧ Q v H1
theorem pe_xk {X : Cx} {e : Expr} {te : TE} {pos : Pos} {n : Str} (he : PE X e te) (hb : attributeBase e n X.env (eval e X.env) = eval e X.env := by rfl) : PE X (.Attribute e n pos) (tXk X.K n te) := by
  refine ⟨fun pins s σ H Q I h => attr_of hb (thn (he.run pins s σ H _ I h) fun u s1 hh => ?_)⟩
  obtain ⟨x, H1, I1, rx, a, C, dd, fs, v, rfl, ea, ed, T, hno, l, q⟩ := hh
  obtain rfl : u = Value.ref a := rx
  obtain ⟨ob, od, J, jd⟩ := inst_at I1 ea (.inr ⟨dd, fs, rfl, ed⟩)
  obtain ⟨o, rfl, eo⟩ := jd dd fs rfl ed
  obtain ⟨mA, hns, hr⟩ := (show ObjOk X.prog X.w H1 s1.heap dd (.xd fs) from I1.hok dd _ ed)
  obtain ⟨o2, ho, hl⟩ := lookIn_ns hns
  rw [eo] at ho
  cases ho
  obtain ⟨w, hw, rw'⟩ := RelO.some_of (v := v) (o := mA n) (by rw [← l]; exact hr n)
  exact HandSPX.exc_get I1.kIn J T.ga T.gg T.exC (PySem.W.findObj_own T.hdC hno rfl (by rw [hl, hw])) (handed_of rw') ⟨v, H1, I1.tok _, rw', q⟩
/-! ## Errors raised where nothing is handled: their context is None -/
theorem weak_cx {P : Program} {w : World} {K : PySem.W.Frag} {mg : Str → Option Value} {base : Heap} {k : Nat} {x : Str} {ps : List Str} {sp : Sp} (c : Cal P w K mg base (L2N.CX P w) k x ps sp) : Cal P w K mg base (L2.CX P w) k x ps sp := by
  obtain ⟨f, fd, F, g, kp, b, ba, lk⟩ := c.ex
  refine ⟨f, fd, ⟨F.len, fun A outer s H args us vs Q E hr he hb rv h => codeAny_mono (F.run A outer s H args us vs Q E hr he hb rv h) fun r s' q => ?_⟩, g, kp, b, ba, lk⟩
  cases r with
  | ok fl => cases fl <;> exact q
  | error e =>
    obtain ⟨a, B, H', cls, d, rfl, fl, z⟩ := q
    exact ⟨a, B, H', cls, d, rfl, L2H.flyingZ_imp (fun o y => y.zc) fl, z⟩
section
variable {P : Program} {w : World} {K : PySem.W.Frag} {mg : Str → Option Value} {base : Heap} {x : Str} {st : Stmt} {N ps : List Str} {k : Nat} {sp : Sp}
theorem Here.calN {r : XK → TS} (F : Here K mg x st) (S : FnScope N ps (defScope st)) (len : ∀ vs H Q E, sp vs H Q E → vs.length = ps.length)
    (bd : ∀ (kV doc pm : Value) (an : Option Addr) (cdv ct : Value) (us : List Value), us.length = ps.length →
      bindArgs (PySem.W.fnOf x x (defArgs st) (defBody st) (defScope st) .none kV doc pm an cdv ct) ⟨us, []⟩ = pure (ps.zip us))
    (dv : ∀ (f : Addr) (cdv : Value) (A : Around) (outer : List Env) (s : Shared) (H : Hp) (E : XK), RmIn k A x st s f cdv → PSs (BX (L2N.CX P w) P w K mg base N x st f cdv A outer s H E) (defBody st) (r E))
    (rd : ∀ (vs : List V) (H : Hp) (Q : VK) (E : XK), sp vs H Q E → r E { nx := fun _ H' => Q .non H', rt := Q } (L2.start N vs) H) :
    Cal P w K mg base (L2N.CX P w) (k + 1) x ps sp := by
  obtain ⟨f, fd, D, g⟩ := F.ex
  refine ⟨f, fd, D.ok S len fun cdv A outer s H vs Q E hr h => ⟨r E, dv f cdv A outer s H E hr, rd vs H Q E h⟩, g, D.kp, D.bindsN bd, fun s us hl => D.bindsA bd s us hl, ?_⟩
  obtain ⟨oc, od, _, _, _, _, _, _, _, osl, _, lk, _⟩ := D.ex
  exact ⟨oc, od, osl, lk⟩
end
section
variable {X : Cx} {k : Nat} {x : Str} {ps : List Str} {sp : Sp} {t : TA} {e : Expr} {es : List Expr} {p pos : Pos} {W : WX}
theorem pe_calN (c : Cal X.prog X.w X.K X.mg X.base (L2N.CX X.prog X.w) k x ps sp) (hr : Room k X.A) (tk : L2N.Takes X W) (hg : Gl X x) (ha : PA X (e :: es) t)
    (hdb : (x == ("__debug__" : Str)) = false := by decide) (he : starEach (e :: es) X.env = (false, eval e X.env) :: starEach es X.env := by rfl)
    (hpl : (backTo pos (starEach es X.env)).any (·.1) = false := by rfl) : PE X (.Call (.Name x p) (e :: es) [] pos) (tCalW sp W t) := by
  obtain ⟨f, fd, F, gm, kp, b, _⟩ := c.ex
  exact pe_callS F hr hg gm kp b (fun σ => L2N.passAt tk σ) ha hdb he hpl
/-- x(e, ..), x an error class without an __init__ of its own -/
theorem pmkA_N (m : ExK X.K X.mg x) (hg : Gl X x) (ha : PA X (e :: es) t) (hdb : (x == ("__debug__" : Str)) = false := by decide)
    (he : starEach (e :: es) X.env = (false, eval e X.env) :: starEach es X.env := by rfl) (hpl : (backTo pos (starEach es X.env)).any (·.1) = false := by rfl) :
    L2H.PMk5 X (.Call (.Name x p) (e :: es) [] pos) (fun σ H Q => t σ H fun vs H1 => vs.length ≤ sizeLine ∧ Q (.ref (He.ga X.K x)) none H1) := by
  intro pins s σ H Q I h
  refine wpAny_Call_Name_kw (ld_glob I hg m.g (PySem.W.callWith_K (h₀ := X.base) I.ok.mod.kin m.m.2.1 (thn (ha.run pos pins s σ H _ I h) fun us s1 hv => ?_) he hpl) hdb)
  obtain ⟨vs, H1, I1, rv, small, q⟩ := hv
  refine ⟨I1.kIn, ?_⟩
  show wpAny _ _ (call (.ref (He.ga X.K x)) us) _ _ _
  obtain ⟨y1, y2, y3, y4, y5, y6, y7, y8, y9, y10, y11, y12, y13, z1, z2, z3, z4, u1, u2, u3, T⟩ := exc_obj I1.kIn m.m.1
  exact wpAny_call_exc_subT PySem.F.excBase_ValueError T u1 u2 u3 (fun g1 a mk => L2H.mk_of5 I1 mk (raises_own m.m.2.2.1 m.m.2.2.2) q (I1.hok.gone mk.new)) (by rw [← rv.length]; exact small)
theorem ps_rzAN {pos2 : Pos} (hc : X.calm = true) (tk : L2N.Takes X W) (m : ExK X.K X.mg x) (hg : Gl X x) (ha : PA X (e :: es) t) (hdb : (x == ("__debug__" : Str)) = false := by decide)
    (he : starEach (e :: es) X.env = (false, eval e X.env) :: starEach es X.env := by rfl) (hpl : (backTo pos (starEach es X.env)).any (·.1) = false := by rfl) :
    PS X (.Raise (some (.Call (.Name x p) (e :: es) [] pos)) none pos2) (tRzA (He.ga X.K x) W t) := L2N.ps_raise hc tk (pmkA_N m hg ha hdb he hpl).pmk
/-- raise x(e, ..) from None in an except suite -/
theorem ps_rzAF {pos2 cp : Pos} {j : Nat} (hc : L2H.HotC X) (tk : L2.Takes X W) (m : ExK X.K X.mg x) (hg : Gl X x) (ha : PA X (e :: es) t) (hdb : (x == ("__debug__" : Str)) = false := by decide)
    (he : starEach (e :: es) X.env = (false, eval e X.env) :: starEach es X.env := by rfl) (hpl : (backTo pos (starEach es X.env)).any (·.1) = false := by rfl) :
    PS X (.Raise (some (.Call (.Name x p) (e :: es) [] pos)) (some (.Constant .none j cp)) pos2) (tRzA (He.ga X.K x) W t) := L2H.ps_raiseHN hc tk (pmkA_N m hg ha hdb he hpl)
end
end Sw

set_option Elab.async false
set_option linter.all false
set_option maxRecDepth 100000
set_option maxHeartbeats 4000000
namespace Sw
open PySem PySem.Spec PyProof.Rows L2
section
variable {X : Cx} {k : Nat} {x f : Str} {te : TE} {e : Expr} {p pos : Pos} {W : WX} {fdI : FuncData} {qs : List Str}
/-- x(e), x an error class whose own __init__ keeps one field: its context is None -/
theorem pmkO_N (m : OwK X.K X.mg x f) (F1 : FnOk X.prog X.w X.K X.mg X.base CX0 k (He.ma X.K (He.ga X.K x) "__init__") fdI qs (spInit X.K (He.ga X.K x) f)) (hb : Binds X.K fdI qs [])
    (hr : Room (k + 1) X.A) (hg : Gl X x) (ha : PA X [e] (tCons te tNil)) (hdb : (x == ("__debug__" : Str)) = false := by decide)
    (hs : starEach [e] X.env = (false, eval e X.env) :: starEach [] X.env := by rfl) (hpl : (backTo pos (starEach [] X.env)).any (·.1) = false := by rfl) :
    L2N.PMk X (.Call (.Name x p) [e] [] pos) (tMkO (He.ga X.K x) (spInit X.K (He.ga X.K x) f) [] (tCons te tNil)) := by
  intro pins s σ H Q I h
  have T := m.o
  obtain ⟨y1, y2, y3, y4, bm, y5, y6, y7, y8, y9, y10, y11, y12, y13, y14, cls, tail⟩ := T.cls
  refine wpAny_Call_Name_kw (ld_glob I hg m.g (PySem.W.callWith_K (h₀ := X.base) I.ok.mod.kin T.kC (thn (ha.run pos pins s σ H _ I h) fun us s1 hv => ?_) hs hpl) hdb)
  obtain ⟨vs, H1, I1, rv, small, ask⟩ := hv
  refine ⟨I1.kIn, ?_⟩
  show wpAny _ _ (call (.ref (He.ga X.K x)) us) _ _ _
  obtain ⟨hp, gn, dr, tk, os⟩ := s1
  have up1 : hp.objs.size ≤ hp.objs.size + 1 := Nat.le_succ _
  have kept : ∀ b o, hp.get? b = some o → ((hp.push (PySem.W.kdv_tup us)).push (PySem.HandSPX.excO (He.ga X.K x) hp.objs.size)).get? b = some o := fun b o y => Heap.get?_push_of_some _ (Heap.get?_push_of_some _ y)
  have there : ((hp.push (PySem.W.kdv_tup us)).push (PySem.HandSPX.excO (He.ga X.K x) hp.objs.size)).get? (hp.objs.size + 1) = some (PySem.HandSPX.excO (He.ga X.K x) hp.objs.size) := by heap_get
  have wish := ask (hp.objs.size + 1) (I1.hok.fresh up1)
  have J := I1.laid (t' := tk) (a := hp.objs.size + 1) (o := exo (hp.objs.size + 1) (He.ga X.K x) none) kept up1 (exo_ok there)
  have rel : Vals (V.ref (hp.objs.size + 1) :: vs) (Value.ref (hp.objs.size + 1) :: us) := .cons rfl rv
  rw [List.append_nil] at wish
  have bd := hb _ (Value.ref (hp.objs.size + 1) :: us) J.kIn (by rw [List.append_nil]; exact rel.length.symm.trans (F1.len _ _ _ _ wish))
  rw [List.append_nil] at bd
  have few : us.length ≤ sizeLine := by
    rw [← rv.length, sizeLine_eq]
    omega
  refine wpAny_call (PySem.HandSPX.call_own PySem.F.excBase_ValueError (fun Y => PySem.HandSPX.refsVE_contains Y bm tail) (I1.kIn _ _ cls) (PySem.W.looks_findIn I1.kIn m.i) (fun self => PySem.W.bind_fn I1.kIn self m.t) few
    (codeAny_mono (F1.run _ X.stack _ _ ⟨Value.ref (hp.objs.size + 1) :: us, []⟩ (Value.ref (hp.objs.size + 1) :: us) _ _ (fun _ _ _ => False) (hr.make (He.ga X.K x) us []) (J.env0.make (He.ga X.K x) us []) bd rel wish) fun r s2 hq => ?_))
  cases r with
  | error er => exact (show False from hq).elim
  | ok fl =>
    cases fl with
    | next => exact (show False from hq).elim
    | brk => exact (show False from hq).elim
    | cont => exact (show False from hq).elim
    | ret u =>
      obtain ⟨v, H2, eo, eb, un, hok, ru, rfl, dd, fs, ea, ed, nd, q⟩ := hq
      obtain ⟨h2, g2, d2, t2, o2⟩ := s2
      obtain ⟨t0, G, IG, kG, gone, obj, na⟩ := mk_end0 (d2 := d2) (t2 := t2) I1 up1 kept un hok eo eb ea ed nd
      exact ⟨ru, hp.objs.size + 1, _, _, ⟨G, g2, d2, t2, o2⟩, _, .ref (He.ga X.K x), some dd, rfl, IG, kG, gone, obj, ⟨rfl, rfl, fun ws hw => by cases hw; rfl⟩, rfl, rfl, na, rfl, eb, raises_own T.exC T.tyC, q⟩
theorem ps_rzON {pos2 : Pos} (hc : X.calm = true) (tk : L2N.Takes X W) (m : OwK X.K X.mg x f) (F : FnOk X.prog X.w X.K X.mg X.base CX0 k (He.ma X.K (He.ga X.K x) "__init__") fdI qs (spInit X.K (He.ga X.K x) f)) (hb : Binds X.K fdI qs [])
    (hr : Room (k + 1) X.A) (hg : Gl X x) (ha : PA X [e] (tCons te tNil)) (hdb : (x == ("__debug__" : Str)) = false := by decide)
    (hs : starEach [e] X.env = (false, eval e X.env) :: starEach [] X.env := by rfl) (hpl : (backTo pos (starEach [] X.env)).any (·.1) = false := by rfl) :
    PS X (.Raise (some (.Call (.Name x p) [e] [] pos)) none pos2) (tRzO X.K x f W te) := L2N.ps_raise hc tk (pmkO_N m F hb hr hg ha hdb hs hpl)
end
/-! ## try: .. except (x, y): .., the suite raises out -/
def wTup (K : PySem.W.Frag) (c1 c2 : Value) (ts : Addr → Value → Option Addr → TS) (D : Ends) : WX := fun cls d σ H => PySem.W.exmAny K cls [c1, c2] = some true ∧ ∀ a, H a = none → ts a cls d D σ H
section
variable {X : Cx} {x1 x2 : Str} {c1 c2 : Value} {body suite : List Stmt} {b₀ : Stmt} {np1 np2 tp pos pos' : Pos} {kk : Nat} {tb : WX → TS} {ts : Addr → Value → Option Addr → TS} {Wout : WX}
theorem ps_try_tupX (hs : X.stack = X.env :: X.outer) (hf : X.env.frame = some X.env.locals) (hx : X.ex = []) (n1 : Names X x1 c1) (n2 : Names X x2 c2) (hpa : ∀ hd : Option Value, PassesOwnAt (model X.prog X.w) (X.A.mark hd) X.A X.env X.xe) (tk : L2.Takes X Wout)
    (hb : ∀ (W : WX) (pn : List (Addr × Obj)) (xe : Value → Shared → Prop), L2N.Takes (X.tr pn xe) W → PassesOwn (model X.prog X.w) X.A X.env xe → PSs (X.tr pn xe) body (tb W))
    (hsu : ∀ (a : Addr) (ob : Obj) (cls : Value) (d : Option Addr) (pn : List (Addr × Obj)), L2N.Zn cls d ob → (∃ vs, ob.data = .fields vs) → L2.Takes (L2H.suiteX X a ((a, ob) :: pn)) Wout → L2H.HotC (L2H.suiteX X a ((a, ob) :: pn)) →
      PSs (L2H.suiteX X a ((a, ob) :: pn)) (b₀ :: suite) (ts a cls d)) :
    PS X (.Try body [.ExceptHandler (some (.Tuple [.Name x1 np1, .Name x2 np2] kk tp)) none (b₀ :: suite) pos'] [] [] pos) (fun D σ H => tb (wTup X.K c1 c2 ts D) D σ H) := by
  refine ⟨fun pins s σ H D I h => wpAny_Try_except ?_⟩
  have ok := I.ok
  have frm : X.A.frames = some (X.env :: X.outer) := hs ▸ ok.frames
  refine wpAny_mono ((hb (wTup X.K c1 c2 ts D) (X.pn ++ pins) (fun e t => wpAny (model X.prog X.w) X.A (noteFrame e X.env) (fun _ t2 => wpAny (model X.prog X.w) X.A (setFlight e none) (fun _ t3 =>
    wpAny (model X.prog X.w) X.A (handleBy e X.env [.ExceptHandler (some (.Tuple [.Name x1 np1, .Name x2 np2] kk tp)) none (b₀ :: suite) pos']) (SP X pins D) X.xe t3) X.xe t2) X.xe t) (fun u t xx => ?_) PassesOwn.looking).run [] s σ H D (I.toTry _) h) (fun f t hsp => ?_) (fun _ _ z => z)
  · obtain ⟨a, B, r, pr, σ1, H1, cls, d, rfl, I1, nb, up, sky, na, eo, eg, hm, hgo⟩ := xx
    have I2 : Inv X pins σ1 H1 r := I1.ofTry ok
    show wpAny (model X.prog X.w) X.A (noteFrame (.ref a) X.env) _ _ _
    refine L2N.Sky.land (Z := L2N.Zn cls d) (B := B) (L := X.env.locals) L2N.Zn.steady frm hf (by rw [← hs]; exact sky) fun g3 fl3 up3 => ?_
    have d3 := down_of (t := t) hx hf hs I2 nb (up.trans up3) eo eg fl3
    obtain ⟨ob3, ws3, e3, z3, dt3⟩ := d3.at_
    have S3 := d3.inv.suite e3 dt3 na d3.nl d3.nf
    refine wpAny_handleBy_cons (codeAny_handlers_test ?_) (fun q => nomatch q)
    have name : ∀ {y : Str} {c : Value} {q : Pos} {Q E : Value → Shared → Prop}, Names X y c → Q c { t with heap := g3 } → wpAny (model X.prog X.w) (X.A.mark (some (.ref a))) (eval (.Name y q) X.env) Q E { t with heap := g3 } := fun {y c q Q E} hc hq => by
      obtain ⟨y1, y2, y3 | ⟨y3, y4, y5⟩⟩ := hc
      · exact ld_glob (X := X.suite a ((a, ob3) :: (X.pn ++ pins))) S3 y1 y3 hq y2
      · exact ld_blt (X := X.suite a ((a, ob3) :: (X.pn ++ pins))) S3 y1 y3 y4 hq y5 y2
    refine wpAny_Tuple ?_
    refine wpAny_items_cons (name n1 ?_)
    refine wpAny_items_cons (name n2 ?_)
    refine wpAny_items_nil ⟨by size_fits, ?_⟩
    have kp : ∀ b o, g3.get? b = some o → (g3.push { cls := .type "tuple", data := .seq [c1, c2].toArray }).get? b = some o := fun _ _ z => Heap.get?_push_of_some _ z
    have LT : PySem.W.Looks (model X.prog X.w) (g3.push { cls := .type "tuple", data := .seq [c1, c2].toArray }) (typeOf (.ref a)) cls := fun _ _ _ _ k q => wpAny_typeOf_ref (k _ _ (kp _ _ e3)) (by rw [z3.1]; exact q)
    refine (PySem.W.exm_tup2 (M := model X.prog X.w) (d3.inv.kIn.keeps kp) LT (Heap.get?_push_size g3 rfl) hm).here (codeAny_handlers_suite ?_)
    refine HandSPX.lands_againZ (fly_keep fl3 kp) fun g4 fl4 up4 => ?_
    have d4 := down_of (t := t) hx hf hs I2 nb (((up.trans up3).trans (Heap.UpToSlots.of_keeps kp)).trans up4) eo eg fl4
    obtain ⟨ob4, ws4, e4, z4, dt4⟩ := d4.at_
    have S4 := d4.inv.suite e4 dt4 na d4.nl d4.nf
    have tkS : L2.Takes (L2H.suiteX X a ((a, ob4) :: (X.pn ++ pins))) Wout := fun u2 s2 ⟨a2, B2, r2, pn2, σ2, H2, cls2, dd2, q1, J2, q3⟩ => tk u2 s2 ⟨a2, B2, r2, pins, σ2, H2, cls2, dd2, q1, L2H.unsuiteX J2 ok, q3⟩
    have hot : L2H.HotC (L2H.suiteX X a ((a, ob4) :: (X.pn ++ pins))) := ⟨(a, ob4), ⟨rfl, ws4, dt4, z4.2.2 ws4 dt4⟩, List.mem_cons_self⟩
    refine wpAny_mono ((hsu a ob4 cls d (X.pn ++ pins) z4 ⟨_, dt4⟩ tkS hot).run [] _ _ H1 _ (L2H.suiteX_of S4) (hgo a na)) (fun f s6 hsp => ?_) (fun e6 s6 z => hpa (some (.ref a)) e6 s6 z)
    cases f with
    | next =>
      obtain ⟨σ6, H6, S6, q6⟩ := hsp
      exact ⟨_, _, L2H.unsuiteX S6 ok, q6⟩
    | brk =>
      obtain ⟨σ6, H6, S6, q6⟩ := hsp
      exact ⟨_, _, L2H.unsuiteX S6 ok, q6⟩
    | cont =>
      obtain ⟨σ6, H6, S6, q6⟩ := hsp
      exact ⟨_, _, L2H.unsuiteX S6 ok, q6⟩
    | ret u =>
      obtain ⟨v6, σ6, H6, S6, r6, q6⟩ := hsp
      exact ⟨_, _, _, L2H.unsuiteX S6 ok, r6, q6⟩
  · cases f with
    | next =>
      obtain ⟨σ1, H1, I1, q⟩ := hsp
      exact wpAny_execs_nil ⟨σ1, H1, I1.ofTry ok, q⟩
    | brk =>
      obtain ⟨σ1, H1, I1, q⟩ := hsp
      exact ⟨σ1, H1, I1.ofTry ok, q⟩
    | cont =>
      obtain ⟨σ1, H1, I1, q⟩ := hsp
      exact ⟨σ1, H1, I1.ofTry ok, q⟩
    | ret u =>
      obtain ⟨v, σ1, H1, I1, r, q⟩ := hsp
      exact ⟨v, σ1, H1, I1.ofTry ok, r, q⟩
end
end Sw

set_option Elab.async false
set_option linter.all false
set_option maxRecDepth 100000
set_option maxHeartbeats 4000000
namespace Sw
open PySem PySem.Spec PyProof.Rows L2
/-! ## first, *rest = a list that is not empty -/
section
variable {prog : Program} {w : World} {A : Around} {E : Value → Shared → Prop} {s : Shared}
theorem unpack_head {l : Addr} {u : Value} {us : List Value} {Q : List Value → Shared → Prop} (hl : s.heap.IsList l (u :: us).toArray) (hh : A.handled = none) (hz : us.length < 1000000)
    (h : ∀ (h2 : Heap) (tk : Nat), (∀ b o, s.heap.get? b = some o → h2.get? b = some o) →
      Q [u, .ref h2.objs.size] { s with heap := h2.push { cls := .type "list", data := .seq us.toArray }, toks := tk }) : wpAny (model prog w) A (unpackItems (.ref l) 2 (some 1)) Q E s := by
  have ne : l ≠ s.heap.objs.size := by
    obtain ⟨o, ho, _⟩ := hl
    exact Nat.ne_of_lt (Heap.lt_size ho)
  have size : (u :: us).toArray.size = us.length + 1 := by rw [List.size_toArray, List.length_cons]
  unfold unpackItems notIterableAtAll
  refine wpAny_bind (wpAny_bind ?_)
  refine wpAny_specialOf hl.typeIs slot_list_iter.lookup ?_
  refine wpAny_pure ?_
  simp only [Bool.false_eq_true, if_false]
  refine wpAny_bind (wpAny_holding (wpAny_pyIter_list hl ?_))
  refine wpAny_bind (wpAny_holding ?_)
  refine PySem.W.kun_draw ne 1 0 _ _ ⟨_, Heap.get?_push_size _ rfl, rfl, rfl⟩ (hl.push _) (by rw [size]; omega) fun h1 it1 sb1 => ?_
  have hl1 : h1.IsList l (u :: us).toArray := (hl.push _).extBut sb1.extBut ne
  have itx := it1
  obtain ⟨oi, hoi, _⟩ := itx
  have hlx := hl1
  obtain ⟨ol, hol, _⟩ := hlx
  show wpAny _ _ (if [u].length < 1 then _ else _) _ _ _
  rw [if_neg (show ¬ [u].length < 1 from fun z => absurd z (by show ¬ 1 < 1; omega))]
  refine wpAny_bind (wpAny_holding ?_)
  refine PySem.W.kun_collect (s := { s with heap := h1 }) (T := "list_iterator") (.inr (.inr (.inl rfl))) (Walks.list (A := A.in1) hh s.heap.objs.size l ne (u :: us).toArray) (fun j v st => st.1.typeIs) (k := 1) (by rw [size]; omega)
    ⟨it1, hl1⟩ (Heap.lt_size hoi) (Heap.lt_size hol) (fun h2 tk k2 => ?_) (by rw [size]; exact small_line (by omega))
  show wpAny _ _ (if us.length < 0 then _ else _) _ _ _
  rw [if_neg (Nat.not_lt_zero _)]
  have stay : ∀ b o, s.heap.get? b = some o → h2.get? b = some o := fun b o e => by
    have lt := Heap.lt_size e
    have nb : b ≠ s.heap.objs.size := Nat.ne_of_lt lt
    exact k2 b o nb (sb1.extBut b o nb (Heap.get?_push_of_some _ e))
  show wpAny _ _ (newList (us.take (us.length - 0)) >>= fun d => pure ([u] ++ [d] ++ us.drop (us.length - 0))) _ _ _
  rw [Nat.sub_zero, List.take_length, List.drop_length]
  refine wpAny_bind (wpAny_newObj_type ?_ (by show us.toArray.size ≤ sizeLine; rw [List.size_toArray]; exact small_line (by omega)))
  exact wpAny_pure (h h2 tk stay)
end
/-- first, *rest = a list -/
def gHead (K : PySem.W.Frag) (t : TGs) : TG := fun v σ H Q => ∃ (a : Addr) (x : V) (xs : List V), v = .ref a ∧ SqL K H a (x :: xs) ∧ xs.length < 1000000 ∧ ∀ p, H p = none → t [x, .ref p] σ (upd H p (.lst xs)) Q
section
variable {X : Cx} {pos : Pos}
theorem pg_head {es : List Expr} {k : Nat} {t : TGs} (hc : X.calm = true) (h : PGs X es t) (hn : (assignEach es X.env).length = 2 := by rfl) (hst : (assignEach es X.env).findIdx? (·.1) = some 1 := by rfl) :
    PG X (.Tuple es k pos) (gHead X.K t) := by
  refine ⟨fun pins s σ H v u Q I r hw => ?_⟩
  obtain ⟨a, x, xs, rfl, hq, hz, hw⟩ := hw
  cases r
  obtain ⟨its, rv, pl, _⟩ := I.list hq
  cases rv with
  | @cons _ u0 _ us r0 rs =>
    have hl := rs.length
    rw [PyProof.Rows.assign_Tuple]
    refine wpAny_bind (wpAny_standAt ?_)
    unfold unpack
    rw [hn, hst]
    refine wpAny_bind (wpAny_holding (unpack_head pl.isList (I.ok.hd hc) (by omega) fun h2 tk st => ?_))
    have I1 : Inv X pins σ H { s with heap := h2, toks := tk } := I.kept (t' := tk) st
    have I2 := I1.laid (t' := tk) (a := h2.objs.size) (o := .lst xs) (h' := h2.push { cls := .type "list", data := .seq us.toArray }) (fun b o q => Heap.get?_push_of_some _ q) (Nat.le_refl _)
      ⟨small_line (by omega), us, 0, rs, Heap.get?_push_size _ rfl⟩
    exact h.run pins _ σ _ [x, .ref h2.objs.size] [u0, .ref h2.objs.size] Q I2 (.cons r0 (.cons rfl .nil)) (hw _ (I1.hok.fresh (Nat.le_refl _)))
/-- *words among targets: the name in it -/
theorem pgs_star {e : Expr} {es : List Expr} {p : Pos} {t : TG} {u : TGs} (h1 : PG X e t) (h2 : PGs X es u)
    (hs : (assignEach (.Starred e p :: es) X.env).map (·.2) = assign e X.env :: (assignEach es X.env).map (·.2) := by rfl) : PGs X (.Starred e p :: es) (gCons t u) := by
  refine ⟨fun pins s σ H vs us Q I r h => ?_⟩
  obtain ⟨v, vr, rfl, h⟩ := h
  cases r with
  | cons r rr =>
    rw [hs]
    exact assignInOrder_cons (thn (h1.run pins s σ H _ _ _ I r h) fun _ s1 hq => by
      obtain ⟨σ1, H1, I1, q1⟩ := hq
      exact h2.run pins s1 σ1 H1 _ _ Q I1 rr q1)
end
end Sw

set_option Elab.async false
set_option linter.all false
set_option maxRecDepth 100000
set_option maxHeartbeats 4000000
namespace Sw
open PySem PySem.Spec PyProof.Rows L2
/-! ## Rows through a web -/
abbrev Row := List Int
def vis (r : Row) : List V := r.map V.int
def at0 (r : Row) (k : Nat) : Int := r.getD k 0
/-- one comparer -/
def goC (r : Row) (c : Cmp) : Row := if at0 r c.1 > at0 r c.2 then (r.set c.1 (at0 r c.2)).set c.2 (at0 r c.1) else r
def gone (cs : List Cmp) (r : Row) : Row := cs.foldl goC r
/-- the rows ahead of each comparer, and the last one -/
def trace : List Cmp → Row → List Row
  | [], r => [r]
  | c :: cs, r => r :: trace cs (goC r c)
theorem goC_len (r : Row) (c : Cmp) : (goC r c).length = r.length := by
  unfold goC
  split
  · rw [List.length_set, List.length_set]
  · rfl
theorem gone_len (cs : List Cmp) : ∀ r, (gone cs r).length = r.length := by
  induction cs with
  | nil => intro r; rfl
  | cons c cs ih =>
    intro r
    show (gone cs (goC r c)).length = r.length
    rw [ih, goC_len]
theorem gone_snoc (cs : List Cmp) (c : Cmp) (r : Row) : gone (cs ++ [c]) r = goC (gone cs r) c := by
  unfold gone
  rw [List.foldl_append] <;> rfl
theorem gone_take {cs : List Cmp} {i : Nat} {c : Cmp} (h : cs[i]? = some c) (r : Row) : gone (cs.take (i + 1)) r = goC (gone (cs.take i) r) c := by
  rw [List.take_add_one, h]
  exact gone_snoc _ _ _
theorem trace_len (cs : List Cmp) : ∀ r, (trace cs r).length = cs.length + 1 := by
  induction cs with
  | nil => intro r; rfl
  | cons c cs ih => intro r; show (trace cs (goC r c)).length + 1 = _; rw [ih] <;> rfl
theorem trace_snoc (cs : List Cmp) (c : Cmp) : ∀ r, trace (cs ++ [c]) r = trace cs r ++ [gone (cs ++ [c]) r] := by
  induction cs with
  | nil => intro r; rfl
  | cons d cs ih => intro r; show r :: trace (cs ++ [c]) (goC r d) = _; rw [ih] <;> rfl
theorem trace_take {cs : List Cmp} {i : Nat} {c : Cmp} (h : cs[i]? = some c) (r : Row) : trace (cs.take (i + 1)) r = trace (cs.take i) r ++ [gone (cs.take (i + 1)) r] := by
  rw [List.take_add_one, h]
  exact trace_snoc _ _ _
theorem trace_get (cs : List Cmp) : ∀ (r : Row) (i : Nat), i ≤ cs.length → (trace cs r)[i]? = some (gone (cs.take i) r) := by
  induction cs with
  | nil =>
    intro r i h
    have : i = 0 := by simpa using h
    subst this
    rfl
  | cons c cs ih =>
    intro r i h
    cases i with
    | zero => rfl
    | succ i =>
      show (trace cs (goC r c))[i]? = _
      rw [ih (goC r c) i (by simpa using h)] <;> rfl
theorem trace_last (cs : List Cmp) (r : Row) : (trace cs r)[cs.length]? = some (gone cs r) := by
  rw [trace_get cs r _ (Nat.le_refl _), List.take_length]
/-! ## Data: what == says -/
structure Enc {α : Type} [DecidableEq α] (enc : α → PyData) (k : Nat) : Prop where
  eq : ∀ a b, PyData.eqv (enc a) (enc b) = decide (a = b)
  lay : ∀ a, (enc a).canLay0 = true
  dep : ∀ a, (enc a).depth ≤ k
theorem Enc.shaped {α : Type} [DecidableEq α] {enc : α → PyData} {k : Nat} (h : Enc enc k) (hk : k ≤ 64) (a : α) : SeqAt.shaped (enc a) = true := by
  unfold SeqAt.shaped
  rw [h.lay a, decide_eq_true (Nat.le_trans (h.dep a) hk)] <;> rfl
def dL {α : Type} (enc : α → PyData) (xs : List α) : PyData := .list (xs.map enc)
theorem enc_all {α : Type} [DecidableEq α] {enc : α → PyData} {k : Nat} (h : Enc enc k) : ∀ xs ys : List α, PyData.eqvAll (xs.map enc) (ys.map enc) = decide (xs = ys)
  | [], [] => by simp [PyData.eqvAll]
  | [], _ :: _ => by simp [PyData.eqvAll]
  | _ :: _, [] => by simp [PyData.eqvAll]
  | x :: xs, y :: ys => by
    show (PyData.eqv (enc x) (enc y) && PyData.eqvAll (xs.map enc) (ys.map enc)) = _
    rw [h.eq, enc_all h xs ys, ← Bool.decide_and]
    congr 1
    simp
theorem lay_all {α : Type} {enc : α → PyData} (h : ∀ a, (enc a).canLay0 = true) : ∀ xs : List α, PyData.canLayAll0 (xs.map enc) = true
  | [] => rfl
  | x :: xs => by
    show ((enc x).canLay0 && PyData.canLayAll0 (xs.map enc)) = true
    rw [h x, lay_all h xs] <;> rfl
theorem dep_all {α : Type} {enc : α → PyData} {k : Nat} (h : ∀ a, (enc a).depth ≤ k) : ∀ xs : List α, PyData.depthAll (xs.map enc) ≤ k
  | [] => Nat.zero_le _
  | x :: xs => by
    show max (enc x).depth (PyData.depthAll (xs.map enc)) ≤ k
    have := h x
    have := dep_all h xs
    omega
theorem Enc.list {α : Type} [DecidableEq α] {enc : α → PyData} {k : Nat} (h : Enc enc k) : Enc (dL enc) (k + 1) where
  eq := fun a b => enc_all h a b
  lay := fun a => lay_all h.lay a
  dep := fun a => by
    show PyData.depthAll (a.map enc) + 1 ≤ k + 1
    have := dep_all h.dep a
    omega
theorem enc_int : Enc PyData.int 0 where
  eq := fun a b => by
    show (a == b) = _
    rw [Bool.beq_eq_decide_eq]
  lay := fun _ => rfl
  dep := fun _ => Nat.le_refl _
def dI : Row → PyData := dL PyData.int
theorem enc_row : Enc dI 1 := enc_int.list
def dC (c : Cmp) : PyData := .tuple [.int (c.1 : Int), .int (c.2 : Int)]
theorem enc_cmp : Enc dC 1 where
  eq := fun a b => by
    obtain ⟨a1, a2⟩ := a
    obtain ⟨b1, b2⟩ := b
    show (((a1 : Int) == (b1 : Int)) && (((a2 : Int) == (b2 : Int)) && true)) = _
    rw [Bool.and_true, Bool.beq_eq_decide_eq, Bool.beq_eq_decide_eq, ← Bool.decide_and]
    congr 1
    simp only [Prod.mk.injEq, Int.natCast_inj]
  lay := fun _ => rfl
  dep := fun _ => Nat.le_refl _
def dCs : List Cmp → PyData := dL dC
theorem enc_cmps : Enc dCs 2 := enc_cmp.list
def dRs : List Row → PyData := dL dI
theorem enc_rows : Enc dRs 2 := enc_row.list
section
variable {K : PySem.W.Frag} {H : Hp}
theorem dp_ints : ∀ r : Row, DpAll K H (vis r) (r.map PyData.int)
  | [] => .nil
  | i :: r => .cons (.int i) (dp_ints r)
theorem dp_row {a : Addr} {r : Row} (h : SqL K H a (vis r)) : Dp K H (.ref a) (dI r) := .lst h (dp_ints r)
theorem dp_cmp {p : Addr} {c : Cmp} (h : SqT K H p (V2 c)) : Dp K H (.ref p) (dC c) := .tup h (.cons (.int _) (.cons (.int _) .nil))
theorem dp_prs {ps : List Addr} {cs : List Cmp} (h : Prs K H ps cs) : DpAll K H (Rfs ps) (cs.map dC) := by
  induction h with
  | nil => exact .nil
  | cons r _ ih => exact .cons (dp_cmp r) ih
theorem dp_web {a : Addr} {ps : List Addr} {cs : List Cmp} (h : SqL K H a (Rfs ps)) (hp : Prs K H ps cs) : Dp K H (.ref a) (dCs cs) := .lst h (dp_prs hp)
abbrev Rws (K : PySem.W.Frag) (H : Hp) (qs : List Addr) (rs : List Row) : Prop := All2 (fun q r => SqL K H q (vis r)) qs rs
theorem dp_rws {qs : List Addr} {rs : List Row} (h : Rws K H qs rs) : DpAll K H (Rfs qs) (rs.map dI) := by
  induction h with
  | nil => exact .nil
  | cons r _ ih => exact .cons (dp_row r) ih
theorem dp_rows {a : Addr} {qs : List Addr} {rs : List Row} (h : SqL K H a (Rfs qs)) (hp : Rws K H qs rs) : Dp K H (.ref a) (dRs rs) := .lst h (dp_rws hp)
end
theorem Same.rws {K : PySem.W.Frag} {H H' : Hp} {qs : List Addr} {rs : List Row} (e : Same H H') (h : Rws K H qs rs) : Rws K H' qs rs := h.imp fun _ _ r => Same.seq e r
/-- lists of one's own, new behind H0 -/
abbrev Own (H0 H : Hp) (qs : List Addr) (rs : List Row) : Prop := All2 (fun q r => H0 q = none ∧ H q = some (.lst (vis r))) qs rs
theorem Own.rws {K : PySem.W.Frag} {H0 H : Hp} {qs : List Addr} {rs : List Row} (h : Own H0 H qs rs) : Rws K H qs rs := h.imp fun _ _ r => .inl (.inl r.2)
theorem Own.same {H0 H H' : Hp} {qs : List Addr} {rs : List Row} (e : Same H H') (h : Own H0 H qs rs) : Own H0 H' qs rs := h.imp fun _ _ r => ⟨r.1, e _ _ r.2⟩
theorem Own.back {H0 H1 H : Hp} {qs : List Addr} {rs : List Row} (e : Same H0 H1) (h : Own H1 H qs rs) : Own H0 H qs rs := h.imp fun _ _ r => ⟨e.free r.1, r.2⟩
theorem ints_at {r : Row} {k : Nat} (h : k < r.length) : (vis r)[k]? = some (.int (at0 r k)) := by
  unfold vis at0
  rw [List.getElem?_map, List.getElem?_eq_getElem h, List.getD_eq_getElem?_getD, List.getElem?_eq_getElem h] <;> rfl
theorem ints_set (r : Row) (k : Nat) (z : Int) : (vis r).set k (.int z) = vis (r.set k z) := by
  unfold vis
  rw [List.map_set]
theorem ints_len (r : Row) : (vis r).length = r.length := List.length_map ..
theorem row_ne {H : Hp} {q f : Addr} {r : Row} {qs : List Addr} (h : H q = some (.lst (vis r))) (hf : H f = some (.lst (Rfs qs))) (hr : r ≠ []) : q ≠ f := fun e => by
  subst e
  rw [h] at hf
  cases r with
  | nil => exact hr rfl
  | cons x r =>
    cases qs with
    | nil => cases hf
    | cons y qs => cases hf
theorem Own.upd {H0 H : Hp} {qs qs' : List Addr} {rs : List Row} {f : Addr} {o : HO} (h : Own H0 H qs rs) (hf : H f = some (.lst (Rfs qs'))) (hr : ∀ r ∈ rs, r ≠ []) : Own H0 (L2.upd H f o) qs rs := by
  induction h with
  | nil => exact .nil
  | cons r _ ih =>
    refine .cons ⟨r.1, ?_⟩ (ih fun r hr' => hr r (List.mem_cons_of_mem _ hr'))
    rw [upd_ne (row_ne r.2 hf (hr _ List.mem_cons_self))]
    exact r.2
theorem ne_of_len {r : Row} {n : Nat} (h : r.length = n) (hn : 1 ≤ n) : r ≠ [] := fun e => by
  subst e
  simp at h
  omega
theorem trace_all (cs : List Cmp) : ∀ (r s : Row), s ∈ trace cs r → s.length = r.length := by
  induction cs with
  | nil =>
    intro r s h
    rw [List.mem_singleton.mp h]
  | cons c cs ih =>
    intro r s h
    rcases List.mem_cons.mp h with e | h
    · rw [e]
    · rw [ih (goC r c) s h, goC_len]
section
variable {K : PySem.W.Frag} {σ : L2.St} {H : Hp} {D : Ends} {tb : TS} {j1 : Nat}
/-- for i in range(lo, hi, c): n turns -/
theorem for_rng3 {ta : TA} {lo hi c : Int} {n : Nat} (ht : ∀ Q, Q [V.int lo, V.int hi, V.int c] H → ta σ H Q) (hn : RgC lo hi c n) (Pv : Nat → L2.St → Hp → Prop) (h0 : Pv 0 σ H)
    (turn : ∀ (i : Nat) σ H, i < n → Pv i σ H → tb { D with nx := Pv (i + 1), ct := Pv (i + 1), bk := D.nx } (σ.set j1 (some (.int (lo + (i : Int) * c)))) H)
    (done : ∀ σ H, Pv n σ H → D.nx σ H) : tFor (iRng3 ta) (gName j1) tb D σ H := by
  refine ht _ ⟨lo, hi, c, n, rfl, hn, it_for (n := n) Pv h0 (fun i σ H hi p => hi) (fun σ H p => Nat.le_refl _) (fun i σ H hi p v H' y => ?_) done⟩
  obtain ⟨rfl, rfl⟩ := y
  exact turn i σ H' hi p
end
/-- a drawn item of four -/
theorem pick4 {a b c d : V} {n : Int} (h : 0 ≤ n) : ∃ v, atI [a, b, c, d] (n % 4) = some v ∧ (v = a ∨ v = b ∨ v = c ∨ v = d) := by
  have e : n % 4 = ((0 : Nat) : Int) ∨ n % 4 = ((1 : Nat) : Int) ∨ n % 4 = ((2 : Nat) : Int) ∨ n % 4 = ((3 : Nat) : Int) := by omega
  rcases e with e | e | e | e <;> rw [e]
  · exact ⟨a, rfl, .inl rfl⟩
  · exact ⟨b, rfl, .inr (.inl rfl)⟩
  · exact ⟨c, rfl, .inr (.inr (.inl rfl))⟩
  · exact ⟨d, rfl, .inr (.inr (.inr rfl))⟩
/-- an open place of a list -/
theorem drawn_at {n m : Int} (h : 0 < m) : ∃ k : Nat, n % m = (k : Int) ∧ (k : Int) < m := by
  have a0 := Int.emod_nonneg n (Int.ne_of_gt h)
  have a1 := Int.emod_lt_of_pos n h
  exact ⟨(n % m).toNat, by omega, by omega⟩
section
variable {K : PySem.W.Frag} {σ : L2.St} {H : Hp} {D : Ends} {tb : TS} {te : TE} {a b : Addr} {xs ys : List V} {j1 j2 : Nat} {Q : VK}
/-- for j1, j2 in enumerate(..), the list come to a -/
theorem enum_in (hx : SqL K H a xs) (Pv : Nat → L2.St → Hp → Prop) (h0 : Pv 0 σ H) (hl : ∀ i σ H, i ≤ xs.length → Pv i σ H → SqL K H a xs)
    (turn : ∀ i x σ H H', xs[i]? = some x → i < xs.length → Pv i σ H → Same H H' → tb { D with nx := Pv (i + 1), ct := Pv (i + 1), bk := D.nx } ((σ.set j1 (some (.int (i : Int)))).set j2 (some x)) H')
    (done : ∀ σ H, Pv xs.length σ H → D.nx σ H) :
    ∃ a' xs', [V.ref a] = [V.ref a'] ∧ SqL K H a' xs' ∧ ∃ W : Nat → Nat → L2.St → Hp → Prop, (∃ m, W 0 m σ H) ∧ ∀ i m σ H, W i m σ H → ((Ite K a').stop i H ∧ D.nx σ H) ∨ ((Ite K a').go i H ∧ ∃ N : L2.St → Hp → Prop,
      (∀ σ' H', N σ' H' → ∃ m', m' < m ∧ W (i + 1) m' σ' H') ∧ ∀ x H', (Ite K a').yld i H x H' → gTup K 2 (gCons (gName j1) (gCons (gName j2) gNil)) x σ H' fun σ2 H2 => tb { D with nx := N, ct := N, bk := D.nx } σ2 H2) := by
  refine ⟨a, xs, rfl, hx, it_for (n := xs.length) Pv h0 (fun i σ H hi p => ?_) (fun σ H p => ?_) (fun i σ H hi p v H' y => ?_) done⟩
  · obtain ⟨x, hx⟩ := get_of hi
    exact ⟨xs, x, hl i σ H (Nat.le_of_lt hi) p, hx⟩
  · exact ⟨xs, hl _ σ H (Nat.le_refl _) p, Nat.le_refl _⟩
  · obtain ⟨T, x, rfl, nT, rfl, f⟩ := y
    exact g2_run (.inl (.inl upd_same)) (turn i x σ H _ (f xs (hl i σ H (Nat.le_of_lt hi) p)) hi p (same_new nT))
/-- [.. for j1, j2 in zip(x, y)], lists at a and b of one length -/
theorem lc_zip2 {tt : TT} {k1 k2 : Nat} {vs : List Nat} (h1 : σ[k1]? = some (some (.ref a))) (h2 : σ[k2]? = some (some (.ref b))) (hx : SqL K H a xs) (hy : SqL K H b ys) (hz : xs.length = ys.length)
    (hvs : ∀ v w, wipe (((wipe σ vs).set j1 v).set j2 w) vs = wipe σ vs)
    (G : Addr → Nat → List V → Hp → Prop) (h0 : ∀ D, H D = none → G D 0 [] (upd H D (.lst []))) (hl : ∀ D i acc H', H D = none → G D i acc H' → SqL K H' a xs ∧ SqL K H' b ys)
    (turn : ∀ D i x y acc H' H2, H D = none → xs[i]? = some x → ys[i]? = some y → i < xs.length → H' D = some (.lst acc) → G D i acc H' → Same H' H2 → Turn tt te D (G D) i (((wipe σ vs).set j1 (some x)).set j2 (some y)) H2)
    (done : ∀ D acc H', H D = none → H' D = some (.lst acc) → G D xs.length acc H' → Q (.ref D) H') :
    tLc (iZip K (tCons (tVar k1) (tCons (tVar k2) tNil))) (gTup K 2 (gCons (gName j1) (gCons (gName j2) gNil))) tt te vs σ H Q := by
  refine ⟨.ref a, h1, .ref b, h2, a, b, xs, ys, rfl, hx, hy, fun D nD => ?_⟩
  refine it_lc (n := xs.length) (So D (G D)) ⟨[], upd_same, h0 D nD⟩ (fun i H' hi p => ?_) (fun H' p => ?_) (fun i H' hi p v H2 y => ?_) (fun H' p => ?_)
  · obtain ⟨acc, _, g⟩ := p
    obtain ⟨x, gx⟩ := get_of hi
    obtain ⟨y, gy⟩ := get_of (xs := ys) (i := i) (by omega)
    obtain ⟨q1, q2⟩ := hl D _ _ _ nD g
    exact ⟨xs, ys, x, y, q1, q2, gx, gy⟩
  · obtain ⟨acc, _, g⟩ := p
    obtain ⟨q1, q2⟩ := hl D _ _ _ nD g
    exact ⟨xs, ys, q1, q2, .inl (Nat.le_refl _)⟩
  · obtain ⟨acc, hD, g⟩ := p
    obtain ⟨T, x, y, rfl, nT, rfl, f1, f2⟩ := y
    obtain ⟨q1, q2⟩ := hl D _ _ _ nD g
    exact g2_run (.inl (.inl upd_same)) ⟨hvs _ _, turn D i x y acc H' _ nD (f1 xs q1) (f2 ys q2) hi hD g (same_new (o := .tup [x, y]) nT)⟩
  · obtain ⟨acc, hD, g⟩ := p
    exact done D acc H' nD hD g
end
theorem atI_end {α : Type} {xs : List α} {v : α} {n : Nat} (h : xs[n]? = some v) (hl : xs.length = n + 1) : atI xs (-1) = some v := by
  have lt : n < xs.length := by omega
  have e : xs = xs.take n ++ [v] := by
    have h1 : xs.take (n + 1) = xs := List.take_of_length_le (by omega)
    rw [List.take_add_one, h] at h1
    exact h1.symm
  rw [e]
  exact atI_last _ _
theorem eqv_refl2 {α β : Type} [DecidableEq α] [DecidableEq β] {ea : α → PyData} {eb : β → PyData} {k l : Nat} (h1 : Enc ea k) (h2 : Enc eb l) (x : α) (y : β) : PyData.eqv (.list [ea x, eb y]) (.list [ea x, eb y]) = true := by
  show (PyData.eqv (ea x) (ea x) && (PyData.eqv (eb y) (eb y) && true)) = true
  rw [h1.eq, h2.eq, decide_eq_true rfl, decide_eq_true rfl] <;> rfl
theorem shaped2 {α β : Type} [DecidableEq α] [DecidableEq β] {ea : α → PyData} {eb : β → PyData} {k l : Nat} (h1 : Enc ea k) (h2 : Enc eb l) (hk : k ≤ 63) (hl : l ≤ 63) (x : α) (y : β) : SeqAt.shaped (.list [ea x, eb y]) = true := by
  have e1 := h1.dep x
  have e2 := h2.dep y
  have d : PyData.depth (.list [ea x, eb y]) ≤ 64 := by
    show max (ea x).depth (max (eb y).depth 0) + 1 ≤ 64
    omega
  have l1 : PyData.canLay0 (.list [ea x, eb y]) = true := by
    show ((ea x).canLay0 && ((eb y).canLay0 && true)) = true
    rw [h1.lay, h2.lay] <;> rfl
  unfold SeqAt.shaped
  rw [l1, decide_eq_true d] <;> rfl
/-- isinstance(x, T) of a list of ours -/
theorem isi_lst {K : PySem.W.Frag} {H : Hp} {a : Addr} {xs : List V} {Q : VK} (h : H a = some (.lst xs)) (q : Q (.bl true) H) : rIsi K [.ref a, .ty "list"] H Q :=
  ⟨.ref a, .ty "list", .type "list", .type "list", true, rfl, .ty _, .base (.lst h), kit_ty (by decide +kernel), q⟩
theorem isi_int_bool {K : PySem.W.Frag} {H : Hp} {z : Int} {Q : VK} (q : Q (.bl false) H) : rIsi K [.int z, .ty "bool"] H Q :=
  ⟨.int z, .ty "bool", .type "int", .type "bool", false, rfl, .ty _, .base (.int z), kit_ty (by decide +kernel), q⟩
theorem isi_int_int {K : PySem.W.Frag} {H : Hp} {z : Int} {Q : VK} (q : Q (.bl true) H) : rIsi K [.int z, .ty "int"] H Q :=
  ⟨.int z, .ty "int", .type "int", .type "int", true, rfl, .ty _, .base (.int z), kit_ty (by decide +kernel), q⟩
end Sw

set_option Elab.async false
set_option linter.all false
set_option maxRecDepth 100000
set_option maxHeartbeats 4000000
namespace Sw
open PySem PySem.Spec PyProof.Rows L2
/-! ## Texts as lists of signs -/
def sg (x : Str) : List Nat := x.cps.toList
def tx (l : List Nat) : Str := ⟨l.toArray⟩
theorem sg_tx (l : List Nat) : sg (tx l) = l := rfl
theorem tx_sg (x : Str) : tx (sg x) = x := by
  obtain ⟨⟨l⟩⟩ := x
  rfl
theorem sg_inj {x y : Str} (h : sg x = sg y) : x = y := by rw [← tx_sg x, ← tx_sg y, h]
theorem sg_len (x : Str) : x.length = (sg x).length := by
  obtain ⟨⟨l⟩⟩ := x
  rfl
/-- where the sign c stands in l, counted from k -/
def hits (c : Nat) : List Nat → Nat → List Nat
  | [], _ => []
  | a :: l, k => if a = c then k :: hits c l (k + 1) else hits c l (k + 1)
open Builtin Builtin.Str in
theorem sub_one (x : Str) (c i : Nat) : (i + 1 ≤ x.length ∧ subAt x ⟨#[c]⟩ i = true) ↔ (sg x)[i]? = some c := by
  obtain ⟨⟨l⟩⟩ := x
  show (i + 1 ≤ l.length ∧ _) ↔ l[i]? = some c
  unfold subAt
  have e1 : (⟨#[c]⟩ : Str).length = 1 := rfl
  rw [e1]
  simp only [List.extract_toArray, beq_iff_eq]
  constructor
  · rintro ⟨h1, h2⟩
    have h3 : (List.extract l i (i + 1)) = [c] := by
      have := congrArg Array.toList h2
      simpa using this
    rw [List.extract_eq_drop_take] at h3
    have h4 : i < l.length := by omega
    rw [List.getElem?_eq_getElem h4]
    have h5 : (l.drop i).take (i + 1 - i) = [l[i]] := by
      rw [show i + 1 - i = 1 by omega, List.drop_eq_getElem_cons h4] <;> rfl
    rw [h5] at h3
    rw [List.cons.inj h3 |>.1]
  · intro h
    obtain ⟨h4, h5⟩ := List.getElem?_eq_some_iff.mp h
    refine ⟨by omega, ?_⟩
    have h6 : List.extract l i (i + 1) = [c] := by
      rw [List.extract_eq_drop_take, show i + 1 - i = 1 by omega, List.drop_eq_getElem_cons h4, h5] <;> rfl
    rw [h6]
open Builtin Builtin.Str in
theorem occ_run (x : Str) (c limit : Nat) : ∀ (r : List Nat) (k : Nat) (arr : Array Nat) (free : Nat), (sg x).drop k = r → free ≤ k →
    (forIn (List.range' k (r.length + 1)) (arr, free) (StrLaws.occBody x ⟨#[c]⟩ x.length limit)).run.fst.toList = arr.toList ++ (hits c r k).take (limit - arr.size)
  | [], k, arr, free, e, hf => by
    have hk : (sg x).length ≤ k := List.drop_eq_nil_iff.mp e
    rw [show List.range' k (([] : List Nat).length + 1) = [k] from rfl, List.forIn_cons]
    unfold StrLaws.occBody
    rw [if_neg (fun h => by
      have h2 : k + 1 ≤ x.length := h.1.2
      rw [sg_len] at h2
      omega)]
    show arr.toList = arr.toList ++ (hits c [] k).take (limit - arr.size)
    simp [hits]
  | a :: r, k, arr, free, e, hf => by
    have hk : (sg x)[k]? = some a := by
      have := congrArg (fun l => l[0]?) e
      simpa using this
    have e2 : (sg x).drop (k + 1) = r := by
      rw [← List.drop_drop, e] <;> rfl
    rw [show List.range' k ((a :: r).length + 1) = k :: List.range' (k + 1) (r.length + 1) from rfl, List.forIn_cons]
    unfold hits
    by_cases hc : a = c
    · subst hc
      rw [if_pos rfl]
      have h1 := (sub_one x a k).mpr hk
      by_cases hl : arr.size < limit
      · conv => lhs; unfold StrLaws.occBody
        rw [if_pos ⟨⟨⟨hl, hf⟩, h1.1⟩, h1.2⟩]
        have ih := occ_run x a limit r (k + 1) (arr.push k) (k + 1) e2 (Nat.le_refl _)
        refine Eq.trans ih ?_
        rw [Array.toList_push, Array.size_push, show limit - arr.size = (limit - (arr.size + 1)) + 1 by omega, List.take_succ_cons, List.append_assoc] <;> rfl
      · conv => lhs; unfold StrLaws.occBody
        rw [if_neg (fun h => hl h.1.1.1)]
        have ih := occ_run x a limit r (k + 1) arr free e2 (by omega)
        refine Eq.trans ih ?_
        rw [show limit - arr.size = 0 by omega, List.take_zero, List.take_zero]
    · rw [if_neg hc]
      conv => lhs; unfold StrLaws.occBody
      rw [if_neg (fun h => hc (Option.some.inj (hk.symm.trans ((sub_one x c k).mp ⟨h.1.2, h.2⟩))))]
      exact occ_run x c limit r (k + 1) arr free e2 (by omega)
theorem occ_sign (x : Str) (c limit : Nat) : Builtin.Str.occurrences x ⟨#[c]⟩ 0 x.length limit = (hits c (sg x) 0).take limit := by
  rw [StrLaws.occ_eq, sg_len, Nat.sub_zero]
  have h := occ_run x c limit (sg x) 0 #[] 0 rfl (Nat.le_refl _)
  rw [sg_len] at h
  simpa using h
theorem hits_len (c : Nat) : ∀ (l : List Nat) (k : Nat), (hits c l k).length ≤ l.length
  | [], _ => Nat.le_refl _
  | a :: l, k => by
    unfold hits
    have := hits_len c l (k + 1)
    split
    · rw [List.length_cons, List.length_cons]; omega
    · rw [List.length_cons]; omega
/-- l cut at each sign c -/
def cutOn (c : Nat) : List Nat → List (List Nat)
  | [] => [[]]
  | a :: l => if a = c then [] :: cutOn c l else match cutOn c l with
    | h :: t => (a :: h) :: t
    | [] => [[a]]
theorem cutOn_ne (c : Nat) : ∀ l, cutOn c l ≠ []
  | [] => by simp [cutOn]
  | a :: l => by
    unfold cutOn
    split
    · simp
    · split <;> simp
/-- p ahead of the first part -/
def ahead (p : List Nat) : List (List Nat) → List (List Nat)
  | h :: t => (p ++ h) :: t
  | [] => [p]
theorem extract_sg (x : Str) (i j : Nat) : sg (Builtin.Str.strSub x i j) = ((sg x).drop i).take (j - i) := by
  obtain ⟨⟨l⟩⟩ := x
  show (Array.extract l.toArray i j).toList = _
  rw [List.extract_toArray, List.extract_eq_drop_take] <;> rfl
theorem parts_run (x : Str) (c : Nat) : ∀ (r : List Nat) (s k : Nat), (sg x).drop k = r → s ≤ k →
    (((s :: (hits c r k).map (· + 1)).zip (hits c r k ++ [x.length])).map fun (q : Nat × Nat) => sg (Builtin.Str.strSub x q.1 q.2)) = ahead (((sg x).drop s).take (k - s)) (cutOn c r)
  | [], s, k, e, hs => by
    have hk : (sg x).length ≤ k := List.drop_eq_nil_iff.mp e
    show [sg (Builtin.Str.strSub x s x.length)] = [((sg x).drop s).take (k - s) ++ []]
    rw [extract_sg, sg_len, List.append_nil, List.take_of_length_le (by rw [List.length_drop]; omega), List.take_of_length_le (by rw [List.length_drop]; omega)]
  | a :: r, s, k, e, hs => by
    have hk : (sg x)[k]? = some a := by
      have := congrArg (fun l => l[0]?) e
      simpa using this
    have e2 : (sg x).drop (k + 1) = r := by
      rw [← List.drop_drop, e] <;> rfl
    unfold hits cutOn
    by_cases hc : a = c
    · rw [if_pos hc, if_pos hc]
      have ih := parts_run x c r (k + 1) (k + 1) e2 (Nat.le_refl _)
      show sg (Builtin.Str.strSub x s k) :: ((((k + 1) :: (hits c r (k + 1)).map (· + 1)).zip (hits c r (k + 1) ++ [x.length])).map fun (q : Nat × Nat) => sg (Builtin.Str.strSub x q.1 q.2)) = _
      rw [ih, extract_sg, Nat.sub_self, List.take_zero]
      show _ = (((sg x).drop s).take (k - s) ++ []) :: cutOn c r
      rw [List.append_nil]
      congr 1
      have := cutOn_ne c r
      revert this
      cases cutOn c r with
      | nil => intro h; exact absurd rfl h
      | cons h t => intro _; rfl
    · rw [if_neg hc, if_neg hc]
      have ih := parts_run x c r s (k + 1) e2 (by omega)
      rw [ih]
      have pre : ((sg x).drop s).take (k + 1 - s) = ((sg x).drop s).take (k - s) ++ [a] := by
        rw [show k + 1 - s = (k - s) + 1 by omega, List.take_add_one]
        congr 1
        rw [List.getElem?_drop, show s + (k - s) = k by omega, hk] <;> rfl
      rw [pre]
      have := cutOn_ne c r
      revert this
      cases cutOn c r with
      | nil => intro h; exact absurd rfl h
      | cons h t =>
        intro _
        show ((((sg x).drop s).take (k - s) ++ [a]) ++ h) :: t = (((sg x).drop s).take (k - s) ++ (a :: h)) :: t
        rw [List.append_assoc] <;> rfl
/-- text.split(sign) -/
theorem split_sign (x : Str) (c : Nat) (hc : c < 256) : (Txt.split x ⟨#[c]⟩).map sg = cutOn c (sg x) := by
  have kind : Builtin.Str.strKind (⟨#[c]⟩ : Str) = 1 := by
    unfold Builtin.Str.strKind
    rw [if_pos (by simp [hc])]
  have pos : ∀ y : Str, 1 ≤ Builtin.Str.strKind y := fun y => by
    unfold Builtin.Str.strKind
    split
    · exact Nat.le_refl _
    · split <;> decide
  have many : (hits c (sg x) 0).take (x.length + 1) = hits c (sg x) 0 := List.take_of_length_le (by rw [sg_len]; exact Nat.le_succ_of_le (hits_len c _ 0))
  have run := parts_run x c (sg x) 0 0 rfl (Nat.le_refl _)
  have start : ahead (((sg x).drop 0).take (0 - 0)) (cutOn c (sg x)) = cutOn c (sg x) := by
    rw [Nat.sub_self, List.take_zero]
    have := cutOn_ne c (sg x)
    revert this
    cases cutOn c (sg x) with
    | nil => intro h; exact absurd rfl h
    | cons h t => intro _; rfl
  rw [start] at run
  unfold Txt.split
  rw [occ_sign, many]
  have zero : hits c (sg x) 0 = [] → [x].map sg = cutOn c (sg x) := fun h => by
    rw [h] at run
    rw [← run]
    show [sg x] = [sg (Builtin.Str.strSub x 0 x.length)]
    rw [extract_sg, List.drop_zero, Nat.sub_zero, sg_len, List.take_length]
  split
  · rename_i h
    have h2 : x.length < 1 := by
      have h3 := pos x
      simp only [Bool.or_eq_true, decide_eq_true_eq] at h
      rcases h with h | h
      · exact h
      · rw [kind] at h
        omega
    refine zero ?_
    have := hits_len c (sg x) 0
    rw [← sg_len] at this
    exact List.eq_nil_of_length_eq_zero (by omega)
  · split
    · rename_i h
      refine zero ?_
      simpa using h
    · unfold Builtin.Str.partsBetween
      rw [List.map_map]
      exact run
/-- text.partition(sign) -/
def part1 (c : Nat) : List Nat → List Nat × Bool × List Nat
  | [] => ([], false, [])
  | a :: l => if a = c then ([], true, l) else (a :: (part1 c l).1, (part1 c l).2.1, (part1 c l).2.2)
theorem hits_head (c : Nat) : ∀ (l : List Nat) (k : Nat), (hits c l k = [] → part1 c l = (l, false, [])) ∧ ∀ i t, hits c l k = i :: t → k ≤ i ∧ part1 c l = (l.take (i - k), true, l.drop (i - k + 1))
  | [], k => ⟨fun _ => rfl, fun i t h => nomatch h⟩
  | a :: l, k => by
    have ih := hits_head c l (k + 1)
    unfold hits part1
    by_cases hc : a = c
    · rw [if_pos hc, if_pos hc]
      refine ⟨(fun h => nomatch h), fun i t h => ?_⟩
      obtain ⟨rfl, rfl⟩ := List.cons.inj h
      refine ⟨Nat.le_refl _, ?_⟩
      rw [Nat.sub_self] <;> rfl
    · rw [if_neg hc, if_neg hc]
      refine ⟨fun h => ?_, fun i t h => ?_⟩
      · rw [ih.1 h]
      · obtain ⟨h1, h2⟩ := ih.2 i t h
        refine ⟨by omega, ?_⟩
        rw [h2, show i - k = (i - (k + 1)) + 1 by omega, List.take_succ_cons, List.drop_succ_cons]
theorem partition_sign (x : Str) (c : Nat) : sg (Txt.partition x ⟨#[c]⟩).1 = (part1 c (sg x)).1 ∧ (Txt.partition x ⟨#[c]⟩).2.1 = (if (part1 c (sg x)).2.1 = true then ⟨#[c]⟩ else Str.empty) ∧ sg (Txt.partition x ⟨#[c]⟩).2.2 = (part1 c (sg x)).2.2 := by
  have hh := hits_head c (sg x) 0
  unfold Txt.partition
  rw [occ_sign]
  cases e : hits c (sg x) 0 with
  | nil =>
    rw [List.take_nil, hh.1 e]
    exact ⟨rfl, rfl, rfl⟩
  | cons i t =>
    rw [List.take_succ_cons]
    obtain ⟨_, h2⟩ := hh.2 i t e
    rw [Nat.sub_zero] at h2
    rw [h2]
    refine ⟨?_, rfl, ?_⟩
    · show sg (Builtin.Str.strSub x 0 i) = _
      rw [extract_sg, List.drop_zero, Nat.sub_zero]
    · show sg (Builtin.Str.strSub x (i + 1) x.length) = _
      rw [extract_sg, sg_len, List.take_of_length_le (by rw [List.length_drop]; exact Nat.le_refl _)]
end Sw

set_option Elab.async false
set_option linter.all false
set_option maxRecDepth 100000
set_option maxHeartbeats 4000000
namespace Sw
open PySem PySem.Spec PyProof.Rows L2
/-! ## x * n of a text -/
def repS (z : Str) (k : Nat) : Str := tx (List.replicate k (sg z)).flatten
theorem fold_app (x : Array Nat) : ∀ (k : Nat) (a : Array Nat), ((List.replicate k x).foldl (· ++ ·) a).toList = a.toList ++ (List.replicate k x.toList).flatten
  | 0, a => by simp
  | k + 1, a => by
    rw [List.replicate_succ, List.foldl_cons, fold_app x k (a ++ x), List.replicate_succ, List.flatten_cons, Array.toList_append, List.append_assoc]
theorem len_flat (l : List Nat) : ∀ k : Nat, (List.replicate k l).flatten.length = l.length * k
  | 0 => by simp
  | k + 1 => by
    rw [List.replicate_succ, List.flatten_cons, List.length_append, len_flat l k, Nat.mul_succ]
    omega
def rMulS : R2 := fun x y H Q => ∃ (z : Str) (n : Nat), x = .str z ∧ y = .int (n : Int) ∧ n ≤ 1000 ∧ z.length ≤ 10000 ∧ Q (.str (repS z n)) H
theorem op_mulS {X : Cx} : OpR X (binaryOp .Mult) rMulS := by
  intro pins s σ H x y v u Q I rx ry h
  obtain ⟨z, n, rfl, rfl, hn, hz, q⟩ := h
  obtain ⟨t, rfl⟩ := rx
  obtain ⟨t', rfl⟩ := ry
  have few : z.length * n ≤ 10000000 := Nat.le_trans (Nat.mul_le_mul hz hn) (by decide)
  refine P.mul_str ?_ (fun h1 h2 => ?_) (fun h1 h2 => ?_) ?_
  · rw [decide_eq_false (by omega), decide_eq_false (by omega)] <;> rfl
  · intro h3
    have h4 : ((z.length : Int) + 1) * (n : Int) ≤ 2 ^ 63 - 1 := by
      have h5 : (((z.length + 1) * n : Nat) : Int) ≤ 10001000 := by
        have := Nat.mul_le_mul (show z.length + 1 ≤ 10001 by omega) hn
        omega
      have h6 : ((z.length : Int) + 1) * (n : Int) = (((z.length + 1) * n : Nat) : Int) := by
        rw [Int.natCast_mul] <;> rfl
      rw [h6]
      omega
    have := Int.le_ediv_of_mul_le (by omega) h4
    omega
  · unfold Builtin.Str.tooLong
    rw [Int.toNat_natCast]
    simp only [decide_eq_false_iff_not, gt_iff_lt]
    have := sizeLine_eq
    omega
  · rw [Int.toNat_natCast]
    have e0 : n < 1 → repS z n = Str.empty := fun h => by
      have : n = 0 := by omega
      subst this
      rfl
    split
    · rename_i h
      refine ⟨by decide, ?_⟩
      rw [e0 (by omega)] at q
      exact ⟨.str Str.empty, H, I.tok _, ⟨_, rfl⟩, q⟩
    · split
      · rename_i h1 h2
        have e : repS z n = z := by
          rcases Bool.or_eq_true_iff.mp h2 with h3 | h3
          · have : n = 1 := by
              have := beq_iff_eq.mp h3
              omega
            subst this
            show tx ([sg z].flatten) = z
            rw [List.flatten_singleton, tx_sg]
          · have hl := beq_iff_eq.mp h3
            rw [sg_len] at hl
            have hs : sg z = [] := List.length_eq_zero_iff.mp hl
            apply sg_inj
            unfold repS
            rw [sg_tx, hs]
            simp
        rw [e] at q
        exact ⟨.str z, H, I, ⟨t, rfl⟩, q⟩
      · have e : (⟨(List.replicate n z.cps).foldl (· ++ ·) #[]⟩ : Str) = repS z n := by
          apply sg_inj
          unfold repS
          rw [sg_tx]
          show ((List.replicate n z.cps).foldl (· ++ ·) #[]).toList = _
          rw [fold_app] <;> rfl
        rw [e]
        refine ⟨?_, ?_⟩
        · unfold repS
          rw [sg_len, sg_tx, len_flat, ← sg_len]
          have := sizeLine_eq
          omega
        · exact ⟨.str (repS z n), H, I.tok _, ⟨_, rfl⟩, q⟩
/-! ## names of classes -/
section
variable {X : Cx}
theorem pe_cls {x : Str} {pos : Pos} (h : X.mg x = some (.ref (He.ga X.K x))) (hg : Gl X x) (hd : (x == ("__debug__" : Str)) = false := by decide) : PE X (.Name x pos) (tC (.ref (He.ga X.K x))) := pe_glob hg h rfl hd
theorem nm_cls {x : Str} (h : X.mg x = some (.ref (He.ga X.K x))) (hg : Gl X x) (hd : (x == ("__debug__" : Str)) = false := by decide) : Names X x (.ref (He.ga X.K x)) := ⟨hg, hd, .inl h⟩
end
/-! ## readings of trys -/
def tTryT (K : PySem.W.Frag) (c1 c2 : Value) (tb : WX → TS) (ts : Addr → Value → Option Addr → TS) : TS := fun D σ H => tb (wTup K c1 c2 ts D) D σ H
def tTryK (K : PySem.W.Frag) (c : Value) (i : Nat) (tb : WX → TS) (ts : Addr → Value → Option Addr → TS) : TS := fun D σ H => tb (wKeep K c i ts D) D σ H
def tJoin (ts : List TE) : TE := fun σ H Q => tJs ts Str.empty σ H fun out H1 => Q (.str out) H1
def kStrI : List V → Hp → VK → Prop := fun xs H Q => ∃ i : Int, xs = [.int i] ∧ i.natAbs.log2 < 1920 ∧ Q (.str (toString i)) H
def kIntS : List V → Hp → VK → Prop := fun xs H Q => ∃ (a : Str) (n : Int), xs = [.str a] ∧ PySem.intText? a = some n ∧ a.length ≤ 640 ∧ Q (.int n) H
def kLenS : List V → Hp → VK → Prop := fun xs H Q => ∃ z : Str, xs = [.str z] ∧ z.length ≤ sizeLine ∧ Q (.int z.length) H
def mSplit : V → List V → Hp → VK → Prop := fun x xs H Q => ∃ a b : Str, x = .str a ∧ xs = [.str b] ∧ (b.length == 0) = false ∧ a.length + 2 ≤ sizeLine ∧ rNewStrs (Txt.split a b) H Q
def mPart : V → List V → Hp → VK → Prop := fun x xs H Q => ∃ a b : Str, x = .str a ∧ xs = [.str b] ∧ (b.length == 0) = false ∧ a.length ≤ sizeLine ∧ ∀ p, H p = none → Q (.ref p) (upd H p (.tup [.str (Txt.partition a b).1, .str (Txt.partition a b).2.1, .str (Txt.partition a b).2.2]))
def mJoin (K : PySem.W.Frag) : V → List V → Hp → VK → Prop := fun x xs H Q => ∃ a p, ∃ ys : List Str, x = .str a ∧ xs = [.ref p] ∧ (SqL K H p (ys.map V.str) ∨ SqT K H p (ys.map V.str)) ∧ (ys.map (·.length)).sum + ys.length * a.length ≤ 16777216 ∧ Q (.str (Txt.join a ys)) H
def mIndex : V → List V → Hp → VK → Prop := fun x xs H Q => ∃ (a b : Str) (i : Nat) (rest : List Nat), x = .str a ∧ xs = [.str b] ∧ Builtin.Str.occurrences a b 0 a.length 1 = i :: rest ∧ Q (.int (i : Int)) H
def oNotInC : R2 := fun x y H Q => ∃ (c : Nat) (z : Str), x = .str ⟨#[c]⟩ ∧ y = .str z ∧ Q (.bl (!decide (c ∈ sg z))) H
def oInC : R2 := fun x y H Q => ∃ (c : Nat) (z : Str), x = .str ⟨#[c]⟩ ∧ y = .str z ∧ Q (.bl (decide (c ∈ sg z))) H
section
variable {X : Cx}
theorem op_inC : OpR X (compareOp .In) oInC := op_in_sign
theorem cl_strI : CallR X (.type "str") kStrI := call_str_int
theorem cl_lenS : CallR X (.builtin "len") kLenS := call_len_str
theorem cl_intS : CallR X (.type "int") kIntS := call_int_str
theorem md_split : MtR X "str.split" mSplit := mt_split
theorem md_part : MtR X "str.partition" mPart := mt_partition
theorem md_join : MtR X "str.join" (mJoin X.K) := mt_join
theorem md_index : MtR X "str.index" mIndex := mt_sindex
theorem op_notInC : OpR X (compareOp .NotIn) oNotInC := op_notIn_sign
end
/-! ## an error's __init__ -/
def InitOk (P : Program) (w : World) (K : PySem.W.Frag) (mg : Str → Option Value) (base : Heap) (k : Nat) (x f : Str) : Prop := ∃ fd : FuncData, FnOk P w K mg base CX0 k (He.ma K (He.ga K x) "__init__") fd ["self", f] (spInit K (He.ga K x) f) ∧ Binds K fd ["self", f] []
end Sw

set_option Elab.async false
set_option linter.all false
set_option maxRecDepth 100000
set_option maxHeartbeats 4000000
namespace Sw
open PySem PySem.Spec PyProof.Rows L2 PySem.NumText
/-! ## Numbers as signs -/
def numT (k : Nat) : List Nat := if k < 10 then [48 + k] else [49, 48]
theorem num_str : ∀ k : Nat, k ≤ 10 → sg (Str.ofString (toString (k : Int))) = numT k
  | 0, _ => by decide +kernel
  | 1, _ => by decide +kernel
  | 2, _ => by decide +kernel
  | 3, _ => by decide +kernel
  | 4, _ => by decide +kernel
  | 5, _ => by decide +kernel
  | 6, _ => by decide +kernel
  | 7, _ => by decide +kernel
  | 8, _ => by decide +kernel
  | 9, _ => by decide +kernel
  | 10, _ => by decide +kernel
  | k + 11, h => by omega
theorem num_inj {j k : Nat} (hj : j ≤ 10) (hk : k ≤ 10) (h : numT j = numT k) : j = k := by
  unfold numT at h
  split at h <;> split at h <;> simp at h <;> omega
theorem num_sign {k : Nat} (hk : k ≤ 10) : ∀ c ∈ numT k, 48 ≤ c ∧ c ≤ 57 := by
  unfold numT
  split <;> simp <;> omega
theorem num_ne (k : Nat) : numT k ≠ [] := by
  unfold numT
  split <;> simp
theorem num_len (k : Nat) : (numT k).length ≤ 2 := by
  unfold numT
  split <;> simp
/-- the number from 0 to 10 that the word is the figures of -/
def readN (w : List Nat) : Option Nat := (List.range 11).find? fun k => decide (w = numT k)
theorem readN_some {w : List Nat} {k : Nat} (h : readN w = some k) : k ≤ 10 ∧ w = numT k := by
  have h1 := List.find?_some h
  have h2 := List.mem_of_find?_eq_some h
  exact ⟨by have := List.mem_range.mp h2; omega, of_decide_eq_true h1⟩
theorem readN_none {w : List Nat} (h : readN w = none) (k : Nat) (hk : k ≤ 10) : w ≠ numT k := fun e => by
  have := List.find?_eq_none.mp h k (List.mem_range.mpr (by omega))
  exact this (decide_eq_true e)
theorem readN_of {w : List Nat} {k : Nat} (hk : k ≤ 10) (e : w = numT k) : readN w = some k := by
  cases h : readN w with
  | none => exact absurd e (readN_none h k hk)
  | some j =>
    obtain ⟨h1, h2⟩ := readN_some h
    rw [num_inj h1 hk (h2.symm.trans e)]
theorem readN_num {k : Nat} (hk : k ≤ 10) : readN (numT k) = some k := readN_of hk rfl
/-- the law's own reading -/
def isFig (c : Nat) : Bool := decide (48 ≤ c ∧ c ≤ 57)
def lawN (w : List Nat) : Option Nat := if (1 ≤ w.length ∧ w.length ≤ 2) ∧ w.all isFig = true then (if w.length = 2 ∧ w.head? = some 48 then none else some (digitsVal w)) else none
theorem lawN_one (a : Nat) : lawN [a] = if isFig a = true then some (a - 48) else none := by
  unfold lawN isFig digitsVal
  simp
theorem lawN_two (a b : Nat) : lawN [a, b] = if isFig a = true ∧ isFig b = true ∧ a ≠ 48 then some ((a - 48) * 10 + (b - 48)) else none := by
  unfold lawN isFig digitsVal
  by_cases h1 : 48 ≤ a ∧ a ≤ 57 <;> by_cases h2 : 48 ≤ b ∧ b ≤ 57 <;> by_cases h3 : a = 48 <;> simp [h1, h2, h3]
theorem law_read {w : List Nat} {k : Nat} (h : readN w = some k) : lawN w = some k := by
  obtain ⟨h1, rfl⟩ := readN_some h
  unfold numT
  split
  · rename_i h2
    rw [lawN_one, if_pos (show isFig (48 + k) = true from decide_eq_true (by omega))]
    congr 1
    omega
  · have : k = 10 := by omega
    subst this
    rw [lawN_two, if_pos ⟨by decide, by decide, by decide⟩]
theorem read_law {w : List Nat} {k : Nat} (h : lawN w = some k) (hk : k ≤ 10) : readN w = some k := by
  apply readN_of hk
  match w with
  | [] => unfold lawN at h; simp at h
  | [a] =>
    rw [lawN_one] at h
    split at h
    · rename_i h1
      have h2 := of_decide_eq_true h1
      have h3 := Option.some.inj h
      unfold numT
      rw [if_pos (by omega)]
      congr 1
      omega
    · cases h
  | [a, b] =>
    rw [lawN_two] at h
    split at h
    · rename_i h1
      have h2 := of_decide_eq_true h1.1
      have h4 := of_decide_eq_true h1.2.1
      have h5 := h1.2.2
      have h3 := Option.some.inj h
      have h6 : k = 10 := by omega
      have h7 : a = 49 := by omega
      have h8 : b = 48 := by omega
      rw [h6, h7, h8] <;> rfl
    · cases h
  | _ :: _ :: _ :: l => unfold lawN at h; simp at h
theorem law_none {w : List Nat} (h : readN w = none) : ∀ k, lawN w = some k → 10 < k := fun k e => by
  by_cases hk : k ≤ 10
  · rw [read_law e hk] at h
    cases h
  · omega
/-! ## cutting -/
theorem cut_same (c : Nat) (l : List Nat) : cutOn c (c :: l) = [] :: cutOn c l := by
  show (if c = c then _ else _) = _
  rw [if_pos rfl]
theorem cut_other {c a : Nat} (h : a ≠ c) (l : List Nat) : cutOn c (a :: l) = match cutOn c l with
    | h :: t => (a :: h) :: t
    | [] => [[a]] := by
  show (if a = c then _ else _) = _
  rw [if_neg h] <;> rfl
theorem part_same (c : Nat) (l : List Nat) : part1 c (c :: l) = ([], true, l) := by
  show (if c = c then _ else _) = _
  rw [if_pos rfl]
theorem part_other {c a : Nat} (h : a ≠ c) (l : List Nat) : part1 c (a :: l) = (a :: (part1 c l).1, (part1 c l).2.1, (part1 c l).2.2) := by
  show (if a = c then _ else _) = _
  rw [if_neg h]
theorem cut_part (c : Nat) : ∀ w : List Nat, cutOn c w = if (part1 c w).2.1 = true then (part1 c w).1 :: cutOn c (part1 c w).2.2 else [(part1 c w).1]
  | [] => rfl
  | a :: l => by
    have ih := cut_part c l
    by_cases h : a = c
    · rw [h, cut_same, part_same, if_pos rfl]
    · rw [cut_other h, part_other h, ih]
      cases (part1 c l).2.1 <;> rfl
theorem part_no {c : Nat} : ∀ {w : List Nat}, (∀ a ∈ w, a ≠ c) → part1 c w = (w, false, [])
  | [], _ => rfl
  | a :: l, h => by
    unfold part1
    rw [if_neg (h a List.mem_cons_self), part_no fun b hb => h b (List.mem_cons_of_mem _ hb)]
theorem part_at {c : Nat} {t : List Nat} : ∀ {w : List Nat}, (∀ a ∈ w, a ≠ c) → part1 c (w ++ c :: t) = (w, true, t)
  | [], _ => by
    show (if c = c then _ else _) = _
    rw [if_pos rfl]
  | a :: l, h => by
    rw [List.cons_append, part_other (h a List.mem_cons_self), part_at (w := l) fun b hb => h b (List.mem_cons_of_mem _ hb)]
theorem part_off {c : Nat} : ∀ {w : List Nat}, (part1 c w).2.1 = false → (part1 c w).2.2 = []
  | [], _ => rfl
  | a :: l, h => by
    unfold part1 at h ⊢
    by_cases e : a = c
    · rw [if_pos e] at h
      cases h
    · rw [if_neg e] at h ⊢
      exact part_off (w := l) h
theorem part_in {c : Nat} : ∀ {w : List Nat}, (part1 c w).2.1 = decide (c ∈ w)
  | [] => by simp [part1]
  | a :: l => by
    unfold part1
    by_cases e : a = c
    · rw [if_pos e]
      simp [e]
    · rw [if_neg e, part_in (w := l)]
      simp [Ne.symm e]
theorem part_len (c : Nat) : ∀ w : List Nat, (part1 c w).1.length ≤ w.length ∧ (part1 c w).2.2.length ≤ w.length
  | [] => ⟨Nat.le_refl _, Nat.le_refl _⟩
  | a :: l => by
    have ih := part_len c l
    unfold part1
    split
    · exact ⟨by simp, by simp⟩
    · exact ⟨by simp; omega, by simp; omega⟩
theorem cut_no {c : Nat} {w : List Nat} (h : ∀ a ∈ w, a ≠ c) : cutOn c w = [w] := by
  rw [cut_part, part_no h] <;> rfl
theorem cut_mem (c : Nat) : ∀ (w : List Nat) (u : List Nat), u ∈ cutOn c w → u.length ≤ w.length
  | [], u, h => by
    unfold cutOn at h
    rw [List.mem_singleton.mp h] <;> exact Nat.le_refl _
  | a :: l, u, h => by
    have ih := cut_mem c l
    unfold cutOn at h
    split at h
    · rcases List.mem_cons.mp h with e | h
      · rw [e]; exact Nat.zero_le _
      · exact Nat.le_trans (ih u h) (by simp)
    · cases e : cutOn c l with
      | nil => exact absurd e (cutOn_ne c l)
      | cons x t =>
        rw [e] at h ih
        rcases List.mem_cons.mp h with e2 | h
        · rw [e2]
          have := ih x List.mem_cons_self
          simp
          exact this
        · exact Nat.le_trans (ih u (List.mem_cons_of_mem _ h)) (by simp)
theorem cut_count (c : Nat) : ∀ w : List Nat, (cutOn c w).length ≤ w.length + 1
  | [] => Nat.le_refl _
  | a :: l => by
    have ih := cut_count c l
    unfold cutOn
    split
    · simp; omega
    · cases e : cutOn c l with
      | nil => exact absurd e (cutOn_ne c l)
      | cons x t =>
        rw [e] at ih
        simp at ih ⊢
        omega
/-! ## Comparers and webs as texts -/
def pairOk (n : Nat) : Option Nat → Option Nat → Option Cmp
  | some a, some b => if a < n ∧ b < n ∧ a ≠ b then some (a, b) else none
  | _, _ => none
def readC (n : Nat) (w : List Nat) : Option Cmp := pairOk n (readN (part1 45 w).1) (readN (part1 45 w).2.2)
def lawC (n : Nat) (w : List Nat) : Option Cmp := match cutOn 45 w with
  | [u, v] => pairOk n (lawN u) (lawN v)
  | _ => none
theorem pair_eq {n : Nat} (hn : n ≤ 10) (u v : List Nat) : pairOk n (lawN u) (lawN v) = pairOk n (readN u) (readN v) := by
  have one : ∀ w : List Nat, (∃ k, lawN w = some k ∧ readN w = some k ∧ k ≤ 10) ∨ (readN w = none ∧ (lawN w = none ∨ ∃ k, lawN w = some k ∧ 10 < k)) := fun w => by
    cases e : readN w with
    | some k => exact .inl ⟨k, law_read e, rfl, (readN_some e).1⟩
    | none =>
      refine .inr ⟨rfl, ?_⟩
      cases e2 : lawN w with
      | none => exact .inl rfl
      | some k => exact .inr ⟨k, rfl, law_none e k e2⟩
  rcases one u with ⟨a, h1, h2, _⟩ | ⟨h2, h1 | ⟨a, h1, h3⟩⟩ <;> rcases one v with ⟨b, g1, g2, _⟩ | ⟨g2, g1 | ⟨b, g1, g3⟩⟩ <;> rw [h1, h2, g1, g2]
  all_goals try rfl
  all_goals
    show (if _ then _ else _) = _
    rw [if_neg (by omega)] <;> rfl
theorem law_cmp {n : Nat} (hn : n ≤ 10) (w : List Nat) : lawC n w = readC n w := by
  unfold lawC readC
  rw [cut_part]
  cases e : (part1 45 w).2.1 with
  | false =>
    rw [part_off e]
    have : readN [] = none := by decide
    rw [this, if_neg (by simp)]
    cases readN (part1 45 w).1 <;> rfl
  | true =>
    rw [if_pos rfl, cut_part]
    cases e2 : (part1 45 (part1 45 w).2.2).2.1 with
    | false =>
      rw [if_neg (by simp)]
      have h : part1 45 (part1 45 w).2.2 = ((part1 45 w).2.2, false, []) := by
        have hh : ∀ a ∈ (part1 45 w).2.2, a ≠ 45 := fun a ha z => by
          rw [part_in] at e2
          exact of_decide_eq_false e2 (z ▸ ha)
        exact part_no hh
      rw [h]
      exact pair_eq hn _ _
    | true =>
      rw [if_pos rfl]
      have hne := cutOn_ne 45 (part1 45 (part1 45 w).2.2).2.2
      have none2 : readN (part1 45 w).2.2 = none := by
        cases q : readN (part1 45 w).2.2 with
        | none => rfl
        | some k =>
          obtain ⟨h1, h2⟩ := readN_some q
          have h3 : (45 : Nat) ∈ (part1 45 w).2.2 := by
            rw [part_in] at e2
            exact of_decide_eq_true e2
          rw [h2] at h3
          have := num_sign h1 45 h3
          omega
      rw [none2]
      cases q : cutOn 45 (part1 45 (part1 45 w).2.2).2.2 with
      | nil => exact absurd q hne
      | cons x t => cases readN (part1 45 w).1 <;> rfl
def getAll {α β : Type} (f : α → Option β) : List α → Option (List β)
  | [] => some []
  | a :: l => match f a, getAll f l with
    | some b, some r => some (b :: r)
    | _, _ => none
theorem getAll_some {α β : Type} {f : α → Option β} : ∀ {l : List α} {r : List β}, getAll f l = some r → All2 (fun a b => f a = some b) l r
  | [], r, h => by
    cases h
    exact .nil
  | a :: l, r, h => by
    unfold getAll at h
    split at h
    · rename_i b r' h1 h2
      cases h
      exact .cons h1 (getAll_some h2)
    · cases h
theorem getAll_none {α β : Type} {f : α → Option β} : ∀ {l : List α}, getAll f l = none → ∃ (k : Nat) (a : α), l[k]? = some a ∧ f a = none ∧ ∀ i < k, ∃ (b : α) (c : β), l[i]? = some b ∧ f b = some c
  | [], h => by cases h
  | a :: l, h => by
    unfold getAll at h
    cases e : f a with
    | none => exact ⟨0, a, rfl, e, fun i hi => absurd hi (Nat.not_lt_zero i)⟩
    | some b =>
      rw [e] at h
      cases e2 : getAll f l with
      | some r => rw [e2] at h; cases h
      | none =>
        obtain ⟨k, x, h1, h2, h3⟩ := getAll_none e2
        refine ⟨k + 1, x, h1, h2, fun i hi => ?_⟩
        cases i with
        | zero => exact ⟨a, b, rfl, e⟩
        | succ i => exact h3 i (by omega)
theorem getAll_of {α β : Type} {f : α → Option β} {l : List α} {r : List β} (h : All2 (fun a b => f a = some b) l r) : getAll f l = some r := by
  induction h with
  | nil => rfl
  | cons h1 _ ih =>
    unfold getAll
    rw [h1, ih]
theorem getAll_congr {α β : Type} {f g : α → Option β} (h : ∀ a, f a = g a) (l : List α) : getAll f l = getAll g l := by
  have : f = g := funext h
  rw [this]
/-- the web that a text writes -/
def tailW (n : Nat) (t : List Nat) : Option (List Cmp) := match cutOn 32 t with
  | [] :: ws => if ws.length ≤ 60 then getAll (readC n) ws else none
  | _ => none
def readW (x : List Nat) : Option (Nat × List Cmp) := if (part1 58 x).2.1 = true then match readN (part1 58 x).1 with
  | some n => if 1 ≤ n then (tailW n (part1 58 x).2.2).map fun cs => (n, cs) else none
  | none => none
  else none
def cmpT (c : Cmp) : List Nat := numT c.1 ++ 45 :: numT c.2
def tailT (cs : List Cmp) : List Nat := (cs.map fun c => 32 :: cmpT c).flatten
def webT (n : Nat) (cs : List Cmp) : List Nat := numT n ++ 58 :: tailT cs
def webTx (n : Nat) (cs : List Cmp) : Str := tx (webT n cs)
theorem cmp_sign {c : Cmp} (h1 : c.1 ≤ 10) (h2 : c.2 ≤ 10) : ∀ a ∈ cmpT c, a ≠ 32 ∧ a ≠ 58 := by
  intro a ha
  rcases List.mem_append.mp ha with h | h
  · have := num_sign h1 a h
    omega
  · rcases List.mem_cons.mp h with h | h
    · omega
    · have := num_sign h2 a h
      omega
theorem readC_cmp {n : Nat} {c : Cmp} (hn : n ≤ 10) (h : CmpOk n c) : readC n (cmpT c) = some c := by
  obtain ⟨h1, h2, h3⟩ := h
  have e : part1 45 (cmpT c) = (numT c.1, true, numT c.2) := part_at fun a ha z => by
    have := num_sign (show c.1 ≤ 10 by omega) a ha
    omega
  unfold readC
  rw [e, readN_num (by omega), readN_num (by omega)]
  show (if _ then _ else _) = _
  rw [if_pos ⟨h1, h2, h3⟩]
theorem cut_app {c : Nat} {t : List Nat} : ∀ {w : List Nat}, (∀ a ∈ w, a ≠ c) → cutOn c (w ++ c :: t) = w :: cutOn c t := fun {w} h => by
  rw [cut_part, part_at h] <;> rfl
theorem cut_tail : ∀ cs : List Cmp, (∀ c ∈ cs, c.1 ≤ 10 ∧ c.2 ≤ 10) → cutOn 32 (tailT cs) = [] :: cs.map cmpT
  | [], _ => rfl
  | c :: cs, h => by
    have hc := h c List.mem_cons_self
    have ih := cut_tail cs fun d hd => h d (List.mem_cons_of_mem _ hd)
    have no : ∀ a ∈ cmpT c, a ≠ 32 := fun a ha => (cmp_sign hc.1 hc.2 a ha).1
    show (if (32 : Nat) = 32 then [] :: cutOn 32 (cmpT c ++ tailT cs) else _) = _
    rw [if_pos rfl]
    show [] :: cutOn 32 (cmpT c ++ tailT cs) = [] :: cmpT c :: cs.map cmpT
    congr 1
    cases cs with
    | nil =>
      show cutOn 32 (cmpT c ++ []) = _
      rw [List.append_nil, cut_no no] <;> rfl
    | cons d ds =>
      have e : tailT (d :: ds) = 32 :: (cmpT d ++ tailT ds) := rfl
      rw [e] at ih ⊢
      rw [cut_app no]
      congr 1
      have e2 : cutOn 32 (32 :: (cmpT d ++ tailT ds)) = [] :: cutOn 32 (cmpT d ++ tailT ds) := by
        show (if (32 : Nat) = 32 then _ else _) = _
        rw [if_pos rfl]
      rw [e2] at ih
      exact (List.cons.inj ih).2
theorem readW_web {n : Nat} {cs : List Cmp} (h : WebOk n cs) (n1 : 1 ≤ n) (n10 : n ≤ 10) : readW (webT n cs) = some (n, cs) := by
  have e : part1 58 (webT n cs) = (numT n, true, tailT cs) := part_at fun a ha z => by
    have := num_sign n10 a ha
    omega
  have ok : ∀ c ∈ cs, c.1 ≤ 10 ∧ c.2 ≤ 10 := fun c hc => by
    obtain ⟨h1, h2, _⟩ := h.2 c hc
    exact ⟨by omega, by omega⟩
  have all : All2 (fun a b => readC n a = some b) (cs.map cmpT) cs := by
    have : ∀ l : List Cmp, (∀ c ∈ l, CmpOk n c) → All2 (fun a b => readC n a = some b) (l.map cmpT) l := fun l => by
      induction l with
      | nil => intro _; exact .nil
      | cons c l ih => intro hl; exact .cons (readC_cmp n10 (hl c List.mem_cons_self)) (ih fun d hd => hl d (List.mem_cons_of_mem _ hd))
    exact this cs h.2
  unfold readW
  rw [e, readN_num n10]
  show (if 1 ≤ n then _ else _) = _
  rw [if_pos n1]
  unfold tailW
  rw [cut_tail cs ok]
  show Option.map _ (if (cs.map cmpT).length ≤ 60 then _ else _) = _
  rw [if_pos (by rw [List.length_map]; exact h.1), getAll_of all] <;> rfl
theorem readW_ok {x : List Nat} {n : Nat} {cs : List Cmp} (h : readW x = some (n, cs)) : WebOk n cs ∧ 1 ≤ n ∧ n ≤ 10 := by
  unfold readW at h
  split at h
  · split at h
    · rename_i m hm
      split at h
      · rename_i h1
        cases e : tailW m (part1 58 x).2.2 with
        | none => rw [e] at h; cases h
        | some l =>
          rw [e] at h
          cases h
          refine ⟨?_, h1, (readN_some hm).1⟩
          unfold tailW at e
          split at e
          · rename_i ws _
            split at e
            · rename_i hl
              have a := getAll_some e
              refine ⟨by rw [← a.length]; exact hl, fun c hc => ?_⟩
              obtain ⟨i, hi⟩ := List.mem_iff_getElem?.mp hc
              obtain ⟨w, _, hw⟩ := a.get hi
              unfold readC pairOk at hw
              split at hw
              · split at hw
                · rename_i h3
                  cases hw
                  exact h3
                · cases hw
              · cases hw
            · cases e
          · cases e
      · cases h
    · cases h
  · cases h
end Sw

set_option Elab.async false
set_option linter.all false
set_option maxRecDepth 100000
set_option maxHeartbeats 4000000
namespace Sw
open PySem PySem.Spec PyProof.Rows L2
/-! ## What is handed in, and how it is judged -/
/-- a line of n -/
def lnV (n : Nat) : V → Bool
  | .int i => decide (0 ≤ i ∧ i < (n : Int))
  | _ => false
/-- two lines of n, unlike -/
def twV (n : Nat) : V → V → Bool
  | .int i, .int j => decide (0 ≤ i ∧ i < (n : Int)) && (decide (0 ≤ j ∧ j < (n : Int)) && decide (¬ i = j))
  | _, _ => false
/-- a number of lines -/
def noV : V → Bool
  | .int i => decide (1 ≤ i ∧ i ≤ 10)
  | _ => false
theorem tyb_int {K : PySem.W.Frag} {H : Hp} {v : V} {T : String} (h : TyB K H v T) : (T = "int" ∧ ∃ i, v = .int i) ∨ (T ≠ "int" ∧ ∀ i, v ≠ .int i) := by
  cases h with
  | int i => exact .inl ⟨rfl, i, rfl⟩
  | _ => exact .inr ⟨by decide, fun _ z => nomatch z⟩
/-- an item of comparers, and whether it is one -/
inductive ItOk (K : PySem.W.Frag) (H : Hp) (n : Nat) : V → Bool → Prop
  | other {v : V} {T : String} (h : TyB K H v T) (ne : T ≠ "tuple") : ItOk K H n v false
  | long {p : Addr} {xs : List V} (h : SqT K H p xs) (ne : xs.length ≠ 2) : ItOk K H n (.ref p) false
  | two {p : Addr} {x y : V} {Tx Ty : String} (h : SqT K H p [x, y]) (hx : TyB K H x Tx) (hy : TyB K H y Ty) : ItOk K H n (.ref p) (twV n x y)
/-- what need_web finds -/
inductive Verd where
  | good
  | lines
  | web (at_ : Option Nat)
inductive WebV (K : PySem.W.Frag) (H : Hp) : V → V → Verd → Prop
  | lines {lv cv : V} {T : String} (h : TyB K H lv T) (bad : noV lv = false) : WebV K H lv cv .lines
  | kind {n : Nat} {cv : V} {T : String} (hn : noV (.int (n : Int)) = true) (h : TyB K H cv T) (ne : T ≠ "list") : WebV K H (.int (n : Int)) cv (.web none)
  | many {n : Nat} {a : Addr} {xs : List V} (hn : noV (.int (n : Int)) = true) (h : SqL K H a xs) (hl : 60 < xs.length) : WebV K H (.int (n : Int)) (.ref a) (.web none)
  | item {n k : Nat} {a : Addr} {xs : List V} {y : V} (hn : noV (.int (n : Int)) = true) (h : SqL K H a xs) (hl : xs.length ≤ 60) (ok : ∀ i < k, ∃ x : V, xs[i]? = some x ∧ ItOk K H n x true) (hy : xs[k]? = some y) (bad : ItOk K H n y false) : WebV K H (.int (n : Int)) (.ref a) (.web (some k))
  | good {n : Nat} {a : Addr} {xs : List V} (hn : noV (.int (n : Int)) = true) (h : SqL K H a xs) (hl : xs.length ≤ 60) (ok : ∀ (i : Nat) (x : V), xs[i]? = some x → ItOk K H n x true) : WebV K H (.int (n : Int)) (.ref a) .good
/-- None or a number -/
def onV : Option Nat → V
  | none => .non
  | some k => .int (k : Int)
/-- how a bad web is refused -/
def Refu (K : PySem.W.Frag) (H : Hp) (E : XK) : Verd → Prop
  | .good => False
  | .lines => ∀ H', Same H H' → E (.ref (He.ga K "BadLines")) none H'
  | .web o => ∀ H' d, Same H H' → H' d = none → E (.ref (He.ga K "BadWeb")) (some d) (upd H' d (.xd [("place", onV o)]))
theorem tyb_same {K : PySem.W.Frag} {H H' : Hp} {v : V} {T : String} (s : Same H H') (h : TyB K H v T) : TyB K H' v T := by
  cases h with
  | non => exact .non
  | bl b => exact .bl b
  | int i => exact .int i
  | str x => exact .str x
  | byt b => exact .byt b
  | lst h => exact .lst (s.seq h)
  | tup h => exact .tup (Same.sqt s h)
  | dK h => exact .dK (s _ _ h)
theorem it_same {K : PySem.W.Frag} {H H' : Hp} {n : Nat} {v : V} {b : Bool} (s : Same H H') (h : ItOk K H n v b) : ItOk K H' n v b := by
  cases h with
  | other h ne => exact .other (tyb_same s h) ne
  | long h ne => exact .long (Same.sqt s h) ne
  | two h hx hy => exact .two (Same.sqt s h) (tyb_same s hx) (tyb_same s hy)
theorem it_cmp {K : PySem.W.Frag} {H : Hp} {n : Nat} {p : Addr} {c : Cmp} (h : SqT K H p (V2 c)) (ok : CmpOk n c) : ItOk K H n (.ref p) true := by
  have e : twV n (.int (c.1 : Int)) (.int (c.2 : Int)) = true := by
    obtain ⟨h1, h2, h3⟩ := ok
    show (decide _ && (decide _ && decide _)) = true
    rw [decide_eq_true (by omega), decide_eq_true (by omega), decide_eq_true (by omega)] <;> rfl
  rw [← e]
  exact .two h (.int _) (.int _)
end Sw

set_option Elab.async false
set_option linter.all false
set_option maxRecDepth 100000
set_option maxHeartbeats 4000000
namespace Sw
open PySem PySem.Spec PyProof.Rows L2
/-! ## Methods -/
def memS (st : Stmt) (i : Nat) : Stmt := match st with
  | .ClassDef _ _ _ b _ _ _ _ _ _ _ => b.getD i (.Pass ⟨0, 0, 0, 0⟩)
  | _ => .Pass ⟨0, 0, 0, 0⟩
def metD (x m q : Str) (st : Stmt) : He.DefD := ⟨(x, some m), m, q, defArgs st, defBody st, defScope st, [], []⟩
/-- the method m of the class x is the def st of the text -/
def Met (K : PySem.W.Frag) (x m q : Str) (st : Stmt) : Prop := ∃ fd : FuncData, FunD K m q (defArgs st) (defBody st) (defScope st) [] [] (He.ma K (He.ga K x) m) fd
theorem met_of {fa : List He.Fa} {fn : List He.DefD} {ex : PySem.W.Frag → Bool} {K : PySem.W.Frag} (c : SaysZ fa fn ex K) {x m q : Str} {st : Stmt} (i : Nat) (hi : fn[i]? = some (metD x m q st)) : Met K x m q st := c.d.def_ i hi
/-- the reading of an error's __init__ that keeps one field f, behind a text of it -/
def rInit (K : PySem.W.Frag) (z f : Str) : TS := tSeq (tDrop (tVeI K (tCons (tVar 0) (tCons (tJoin [tC (.str z), tFmtN (tVar 1)]) tNil)))) (tOst K f (tVar 0) (tVar 1))
theorem rd_init {K : PySem.W.Frag} {mg : Str → Option Value} {x z f : Str} (m : OwK K mg x f) (hz : z.length ≤ 1000) (vs : List V) (H : Hp) (Q : VK) (E : XK) (h : spInit K (He.ga K x) f vs H Q E) : rInit K z f { nx := fun _ H' => Q .non H', rt := Q } (L2.start ["self", f] vs) H := by
  obtain ⟨a, v, rfl, ha, hv, q⟩ := h
  have el : (Str.empty ++ z).length ≤ 1000 := by
    have : (Str.empty ++ z).length = z.length := by
      show (#[] ++ z.cps).size = z.cps.size
      simp
    omega
  have el2 : ∀ y : Str, y.length ≤ 400 → (Str.empty ++ z ++ y).length ≤ 1000000 := fun y hy => by
    have : (Str.empty ++ z ++ y).length = (Str.empty ++ z).length + y.length := by
      show ((Str.empty ++ z).cps ++ y.cps).size = _
      rw [Array.size_append] <;> rfl
    omega
  have gen : ∀ y : Str, y.length ≤ 400 → (Str.empty ++ z ++ y).length ≤ sizeLine ∧ (tVeI K (fun _ H Q => Q [.ref a, .str (Str.empty ++ z ++ y)] H)) [some (.ref a), some v] H fun _ H' => tOst K f (tVar 0) (tVar 1) { nx := fun _ H' => Q .non H', rt := Q } [some (.ref a), some v] H' := fun y hy => by
    refine ⟨small_line (el2 y hy), a, He.ga K x, [.str (Str.empty ++ z ++ y)], rfl, by show 1 ≤ 1000; decide, m.o, ha, ?_⟩
    exact ⟨v, rfl, .ref a, rfl, a, He.ga K x, rfl, m.o, m.n, .inl ⟨ha, fun dx h1 h2 => q dx h1 h2⟩⟩
  simp only [rInit, tSeq, tDrop, L2.start, List.map_cons, List.map_nil, List.length_cons, List.length_nil, Nat.reduceAdd, Nat.sub_self, List.replicate_zero, List.append_nil]
  rcases hv with rfl | ⟨i, rfl, i0, i1⟩
  · obtain ⟨g1, g2⟩ := gen "None" (by decide +kernel)
    exact ⟨.ref a, rfl, z, rfl, small_line (by omega), .non, rfl, .inl ⟨rfl, "None", rfl, g1, g2⟩⟩
  · have hi : i.natAbs.log2 < 1920 := by
      have h3 : i.natAbs ≤ 1000 := by omega
      have : i.natAbs.log2 ≤ i.natAbs := Nat.log2_le_self _
      omega
    have len : (toString i : Str).length ≤ 400 := by
      have h3 : ∀ n : Nat, n ≤ 1000 → (Str.ofString (toString (n : Int))).length ≤ 400 := by decide +kernel
      have := h3 i.toNat (by omega)
      rw [Int.toNat_of_nonneg i0] at this
      exact this
    obtain ⟨g1, g2⟩ := gen (toString i) len
    exact ⟨.ref a, rfl, z, rfl, small_line (by omega), .int i, rfl, .inr ⟨i, rfl, hi, toString i, rfl, g1, g2⟩⟩
end Sw

set_option Elab.async false
set_option linter.all false
set_option maxRecDepth 100000
set_option maxHeartbeats 4000000
namespace Sw
open PySem PySem.Spec PyProof.Rows L2
theorem sg_app (x y : Str) : sg (x ++ y) = sg x ++ sg y := by
  show (x.cps ++ y.cps).toList = x.cps.toList ++ y.cps.toList
  rw [Array.toList_append]
theorem sg_nil : sg Str.empty = [] := rfl
theorem sg_nil2 : sg ("" : Str) = [] := by decide +kernel
theorem app_len (x y : Str) : (x ++ y).length = x.length + y.length := by
  rw [sg_len, sg_len, sg_len, sg_app, List.length_append]
theorem tx_len (l : List Nat) : (tx l).length = l.length := by rw [sg_len, sg_tx]
theorem eq_tx {x : Str} {l : List Nat} (h : sg x = l) : x = tx l := by rw [← h, tx_sg]
theorem joinL_nil : ∀ l : List (List Nat), TL.joinL [] l = l.flatten
  | [] => rfl
  | [p] => by simp [TL.joinL]
  | p :: q :: r => by
    show p ++ ([] ++ TL.joinL [] (q :: r)) = _
    rw [joinL_nil (q :: r)] <;> rfl
theorem joinL_one (c : Nat) : ∀ (l : List (List Nat)) (p : List Nat), TL.joinL [c] (p :: l) = p ++ (l.map fun y => c :: y).flatten
  | [], p => by simp [TL.joinL]
  | q :: r, p => by
    show p ++ ([c] ++ TL.joinL [c] (q :: r)) = _
    rw [joinL_one c r q] <;> rfl
theorem sg_join0 (ys : List Str) : sg (Txt.join "" ys) = (ys.map sg).flatten := by
  rw [TL.join_eq]
  show TL.tl (Str.join _ ys) = _
  rw [TL.tl_join]
  have e : TL.tl ("" : Str) = [] := by decide +kernel
  rw [e]
  exact joinL_nil _
theorem sg_join1 (z p : Str) (c : Nat) (hz : sg z = [c]) (ys : List Str) : sg (Txt.join z (p :: ys)) = sg p ++ (ys.map fun y => c :: sg y).flatten := by
  rw [TL.join_eq]
  show TL.tl (Str.join _ (p :: ys)) = _
  rw [TL.tl_join]
  have e : TL.tl z = [c] := hz
  rw [e, List.map_cons, joinL_one, List.map_map] <;> rfl
theorem cutS_to (z : Str) (k : Nat) : sg (cutS z none (some (k : Int))) = (sg z).take k := by
  unfold cutS
  rw [HT.sIx_none, HT.sIx_nat]
  show ((sg z).drop 0).take (min k z.length - 0) = _
  rw [List.drop_zero, Nat.sub_zero, sg_len]
  by_cases h : k ≤ (sg z).length
  · rw [Nat.min_eq_left h]
  · rw [Nat.min_eq_right (by omega), List.take_of_length_le (Nat.le_refl _), List.take_of_length_le (by omega)]
theorem cutS_from (z : Str) (k : Nat) : sg (cutS z (some (k : Int)) none) = (sg z).drop k := by
  unfold cutS
  rw [HT.sIx_none, HT.sIx_nat]
  show ((sg z).drop (min k z.length)).take (z.length - min k z.length) = _
  rw [sg_len]
  by_cases h : k ≤ (sg z).length
  · rw [Nat.min_eq_left h, List.take_of_length_le (by rw [List.length_drop]; exact Nat.le_refl _)]
  · rw [Nat.min_eq_right (by omega), List.drop_eq_nil_of_le (Nat.le_refl _), List.drop_eq_nil_of_le (by omega), List.take_nil]
theorem log_small {i : Int} (h : i.natAbs ≤ 1000) : i.natAbs.log2 < 1920 := by
  have := Nat.log2_le_self i.natAbs
  omega
/-- the word of a comparer, a blank ahead -/
def wordT (c : Cmp) : Str := tx (32 :: cmpT c)
theorem cmp_len (c : Cmp) : (cmpT c).length ≤ 5 := by
  unfold cmpT
  rw [List.length_append, List.length_cons]
  have := num_len c.1
  have := num_len c.2
  omega
theorem tail_len (cs : List Cmp) : (tailT cs).length ≤ 6 * cs.length := by
  unfold tailT
  induction cs with
  | nil => simp
  | cons c cs ih =>
    rw [List.map_cons, List.flatten_cons, List.length_append, List.length_cons, List.length_cons]
    have := cmp_len c
    omega
theorem web_len (n : Nat) (cs : List Cmp) : (webTx n cs).length ≤ 3 + 6 * cs.length := by
  unfold webTx webT
  rw [tx_len, List.length_append, List.length_cons]
  have := num_len n
  have := tail_len cs
  omega
theorem join_words (cs : List Cmp) : sg (Txt.join "" (cs.map wordT)) = tailT cs := by
  rw [sg_join0, List.map_map] <;> rfl
theorem lens_words (cs : List Cmp) : ((cs.map wordT).map (·.length)).sum ≤ 6 * cs.length := by
  induction cs with
  | nil => simp
  | cons c cs ih =>
    rw [List.map_cons, List.map_cons, List.sum_cons, List.length_cons]
    have e : (wordT c).length ≤ 6 := by
      unfold wordT
      rw [tx_len, List.length_cons]
      have := cmp_len c
      omega
    omega
/-- f" {a}-{b}" -/
theorem word_eq {a b : Nat} (ha : a ≤ 10) (hb : b ≤ 10) (s1 s2 : Str) (h1 : sg s1 = [32]) (h2 : sg s2 = [45]) : Str.empty ++ s1 ++ Str.ofString (toString (a : Int)) ++ s2 ++ Str.ofString (toString (b : Int)) = wordT (a, b) := by
  refine eq_tx ?_
  rw [sg_app, sg_app, sg_app, sg_app, sg_nil, h1, h2, num_str a ha, num_str b hb]
  show [] ++ [32] ++ numT a ++ [45] ++ numT b = 32 :: (numT a ++ 45 :: numT b)
  simp
theorem sg_num {a : Nat} (ha : a ≤ 10) : (Str.ofString (toString (a : Int))).length ≤ 2 := by
  rw [sg_len, num_str a ha]
  exact num_len a
end Sw

set_option Elab.async false
set_option linter.all false
set_option maxRecDepth 100000
set_option maxHeartbeats 4000000
namespace Sw
open PySem PySem.Spec PyProof.Rows L2
/-! ## Walks, once what is walked is at hand -/
def LcK (g : TG) (tt : TT) (te : TE) (vs : List Nat) (σ : L2.St) (Q : VK) : It → Hp → Prop := fun J H1 => tLc (fun _ _ R => R J H1) g tt te vs σ H1 Q
theorem lc_def (wi : TI) (g : TG) (tt : TT) (te : TE) (vs : List Nat) (σ : L2.St) (H : Hp) (Q : VK) : tLc wi g tt te vs σ H Q = wi σ H (LcK g tt te vs σ Q) := rfl
def ForK (g : TG) (tb : TS) (D : Ends) (σ : L2.St) : It → Hp → Prop := fun J H1 => tFor (fun _ _ R => R J H1) g tb D σ H1
theorem for_def (wi : TI) (g : TG) (tb : TS) (D : Ends) (σ : L2.St) (H : Hp) : tFor wi g tb D σ H = wi σ H (ForK g tb D σ) := rfl
section
variable {K : PySem.W.Frag} {σ : L2.St} {H : Hp} {te : TE} {tb : TS} {D : Ends} {a : Addr} {xs : List V} {j1 j2 : Nat} {Q : VK}
theorem lck_list {tt : TT} {vs : List Nat} (hx : SqL K H a xs) (hvs : ∀ v, wipe ((wipe σ vs).set j1 v) vs = wipe σ vs)
    (G : Addr → Nat → List V → Hp → Prop) (h0 : ∀ D, H D = none → G D 0 [] (upd H D (.lst []))) (hl : ∀ D i acc H', H D = none → G D i acc H' → SqL K H' a xs)
    (turn : ∀ D i x acc H', H D = none → xs[i]? = some x → i < xs.length → H' D = some (.lst acc) → G D i acc H' → Turn tt te D (G D) i ((wipe σ vs).set j1 (some x)) H')
    (done : ∀ D acc H', H D = none → H' D = some (.lst acc) → G D xs.length acc H' → Q (.ref D) H') : LcK (gName j1) tt te vs σ Q (Itl K a) H := by
  refine fun D nD => it_lc (n := xs.length) (So D (G D)) ⟨[], upd_same, h0 D nD⟩ (fun i H' hi p => ?_) (fun H' p => ?_) (fun i H' hi p v H2 y => ?_) (fun H' p => ?_)
  · obtain ⟨acc, _, g⟩ := p
    obtain ⟨x, hx⟩ := get_of hi
    exact ⟨_, x, hl D _ _ _ nD g, hx⟩
  · obtain ⟨acc, _, g⟩ := p
    exact ⟨_, hl D _ _ _ nD g, Nat.le_refl _⟩
  · obtain ⟨acc, hD, g⟩ := p
    obtain ⟨rfl, f⟩ := y
    exact ⟨hvs _, turn D i v acc H2 nD (f _ (hl D _ _ _ nD g)) hi hD g⟩
  · obtain ⟨acc, hD, g⟩ := p
    exact done D acc H' nD hD g
theorem lck_tup {tt : TT} {vs : List Nat} (hx : SqT K H a xs) (hvs : ∀ v, wipe ((wipe σ vs).set j1 v) vs = wipe σ vs)
    (G : Addr → Nat → List V → Hp → Prop) (h0 : ∀ D, H D = none → G D 0 [] (upd H D (.lst []))) (hl : ∀ D i acc H', H D = none → G D i acc H' → SqT K H' a xs)
    (turn : ∀ D i x acc H', H D = none → xs[i]? = some x → i < xs.length → H' D = some (.lst acc) → G D i acc H' → Turn tt te D (G D) i ((wipe σ vs).set j1 (some x)) H')
    (done : ∀ D acc H', H D = none → H' D = some (.lst acc) → G D xs.length acc H' → Q (.ref D) H') : LcK (gName j1) tt te vs σ Q (Itt K a) H := by
  refine fun D nD => it_lc (n := xs.length) (So D (G D)) ⟨[], upd_same, h0 D nD⟩ (fun i H' hi p => ?_) (fun H' p => ?_) (fun i H' hi p v H2 y => ?_) (fun H' p => ?_)
  · obtain ⟨acc, _, g⟩ := p
    obtain ⟨x, hx⟩ := get_of hi
    exact ⟨_, x, hl D _ _ _ nD g, hx⟩
  · obtain ⟨acc, _, g⟩ := p
    exact ⟨_, hl D _ _ _ nD g, Nat.le_refl _⟩
  · obtain ⟨acc, hD, g⟩ := p
    obtain ⟨rfl, f⟩ := y
    exact ⟨hvs _, turn D i v acc H2 nD (f _ (hl D _ _ _ nD g)) hi hD g⟩
  · obtain ⟨acc, hD, g⟩ := p
    exact done D acc H' nD hD g
theorem lck_str {tt : TT} {vs : List Nat} {z : Str} (hvs : ∀ v, wipe ((wipe σ vs).set j1 v) vs = wipe σ vs)
    (G : Addr → Nat → List V → Hp → Prop) (h0 : ∀ D, H D = none → G D 0 [] (upd H D (.lst [])))
    (turn : ∀ D i c acc H', H D = none → (sg z)[i]? = some c → i < (sg z).length → H' D = some (.lst acc) → G D i acc H' → Turn tt te D (G D) i ((wipe σ vs).set j1 (some (.str ⟨#[c]⟩))) H')
    (done : ∀ D acc H', H D = none → H' D = some (.lst acc) → G D (sg z).length acc H' → Q (.ref D) H') : LcK (gName j1) tt te vs σ Q (Its z) H := by
  have size : z.cps.size = (sg z).length := by
    show _ = z.cps.toList.length
    rw [Array.length_toList]
  refine fun D nD => it_lc (n := (sg z).length) (So D (G D)) ⟨[], upd_same, h0 D nD⟩ (fun i H' hi p => ?_) (fun H' p => ?_) (fun i H' hi p v H2 y => ?_) (fun H' p => ?_)
  · show i < z.cps.size
    rw [size]
    exact hi
  · show z.cps.size ≤ (sg z).length
    rw [size]
    exact Nat.le_refl _
  · obtain ⟨acc, hD, g⟩ := p
    obtain ⟨rfl, c, hc, rfl⟩ := y
    refine ⟨hvs _, turn D i c acc H2 nD ?_ hi hD g⟩
    show z.cps.toList[i]? = some c
    rw [← hc]
    simp
  · obtain ⟨acc, hD, g⟩ := p
    exact done D acc H' nD hD g
theorem fork_list (hx : SqL K H a xs) (Pv : Nat → L2.St → Hp → Prop) (h0 : Pv 0 σ H) (hl : ∀ i σ H, i ≤ xs.length → Pv i σ H → SqL K H a xs)
    (turn : ∀ i x σ H, xs[i]? = some x → i < xs.length → Pv i σ H → tb { D with nx := Pv (i + 1), ct := Pv (i + 1), bk := D.nx } (σ.set j1 (some x)) H)
    (done : ∀ σ H, Pv xs.length σ H → D.nx σ H) : ForK (gName j1) tb D σ (Itl K a) H := by
  refine it_for (n := xs.length) Pv h0 (fun i σ H hi p => ?_) (fun σ H p => ?_) (fun i σ H hi p v H' y => ?_) done
  · obtain ⟨x, hx⟩ := get_of hi
    exact ⟨_, x, hl i σ H (Nat.le_of_lt hi) p, hx⟩
  · exact ⟨_, hl _ σ H (Nat.le_refl _) p, Nat.le_refl _⟩
  · obtain ⟨rfl, f⟩ := y
    exact turn i v σ H' (f _ (hl i σ H' (Nat.le_of_lt hi) p)) hi p
theorem fork_tup (hx : SqT K H a xs) (Pv : Nat → L2.St → Hp → Prop) (h0 : Pv 0 σ H) (hl : ∀ i σ H, i ≤ xs.length → Pv i σ H → SqT K H a xs)
    (turn : ∀ i x σ H, xs[i]? = some x → i < xs.length → Pv i σ H → tb { D with nx := Pv (i + 1), ct := Pv (i + 1), bk := D.nx } (σ.set j1 (some x)) H)
    (done : ∀ σ H, Pv xs.length σ H → D.nx σ H) : ForK (gName j1) tb D σ (Itt K a) H := by
  refine it_for (n := xs.length) Pv h0 (fun i σ H hi p => ?_) (fun σ H p => ?_) (fun i σ H hi p v H' y => ?_) done
  · obtain ⟨x, hx⟩ := get_of hi
    exact ⟨_, x, hl i σ H (Nat.le_of_lt hi) p, hx⟩
  · exact ⟨_, hl _ σ H (Nat.le_refl _) p, Nat.le_refl _⟩
  · obtain ⟨rfl, f⟩ := y
    exact turn i v σ H' (f _ (hl i σ H' (Nat.le_of_lt hi) p)) hi p
end
/-! ## isinstance -/
theorem tyx_tup {K : PySem.W.Frag} {H : Hp} {p : Addr} {xs : List V} (h : SqT K H p xs) : TyX K H (.ref p) (.type "tuple") := by
  rcases h with (h | ⟨o, h⟩) | ⟨o, its, n, h, hc, _⟩
  · exact .base (.tup h)
  · exact .fTuple h
  · exact .kTuple h hc
theorem tyx_lst {K : PySem.W.Frag} {H : Hp} {p : Addr} {xs : List V} (h : SqL K H p xs) : TyX K H (.ref p) (.type "list") := by
  rcases h with (h | ⟨o, h⟩) | ⟨o, its, n, h, hc, _⟩
  · exact .base (.lst h)
  · exact .base (.frz h)
  · exact .kList h hc
/-- isinstance(x, T), T a built-in type -/
theorem isk_ty {K : PySem.W.Frag} {H : Hp} {x : V} {t T : String} {b : Bool} {Q : VK} (h : TyX K H x (.type t)) (e : kitB t T = some b) (q : Q (.bl b) H) : rIsK K [x, .ty T] H Q :=
  .inl ⟨x, .ty T, .type t, .type T, b, rfl, .ty _, h, kit_ty e, q⟩
end Sw

set_option Elab.async false
set_option linter.all false
set_option maxRecDepth 100000
set_option maxHeartbeats 4000000
namespace Sw
open PySem PySem.Spec PyProof.Rows L2
/-! ## What the head is asked of errors that are kept -/
/-- the law's words for errors -/
def errWs : List (Str × Str) := [("BadLines", "lines"), ("BadWeb", "web"), ("BadRow", "row"), ("BadPlace", "place"), ("BadOrder", "order"), ("BadText", "text"), ("NothingPut", "nothing")]
structure ErrF (K : PySem.W.Frag) : Prop where
  e : ∀ C u, (C, u) ∈ errWs → ExcC K (He.ga K C)
  k : ∀ C u D v, (C, u) ∈ errWs → (D, v) ∈ errWs → PySem.W.kitOne K (.ref (He.ga K C)) (.ref (He.ga K D)) = some (decide (C = D))
  n : ∀ D v, (D, v) ∈ errWs → PySem.W.kitOne K (.type "NoneType") (.ref (He.ga K D)) = some false
  v : ∀ C u, (C, u) ∈ errWs → PySem.W.kitOne K (.ref (He.ga K C)) (.type "ValueError") = some true
def excCB (K : PySem.W.Frag) (D : Addr) : Bool := decide (PySem.W.findIn K (.ref D) "__getattribute__" = some (some (.builtin "BaseException.__getattribute__"))) && (decide (PySem.W.findIn K (.ref D) "__getattr__" = some none) &&
  (decide (PySem.W.subIn K (.ref D) (.type "BaseException") = some true) && (PySem.W.hasDictIn K D && (decide (PySem.W.findIn K (.ref D) "__class__" = some (some (.builtin "object.__class__"))) &&
    (decide (PySem.W.specialIn K (.builtin "object.__class__") "__get__" = some (some (.builtin "getset_descriptor.__get__"))) && (decide (PySem.W.takesIn K (.builtin "object.__class__") = some true) && decide (PySem.W.mroIn K D (.type "object") = some true)))))))
theorem excCB_ok {K : PySem.W.Frag} {D : Addr} (h : excCB K D = true) : ExcC K D := by
  unfold excCB at h
  obtain ⟨h1, h⟩ := He.ba h
  obtain ⟨h2, h⟩ := He.ba h
  obtain ⟨h3, h⟩ := He.ba h
  obtain ⟨h4, h⟩ := He.ba h
  obtain ⟨h5, h⟩ := He.ba h
  obtain ⟨h6, h⟩ := He.ba h
  obtain ⟨h7, h8⟩ := He.ba h
  exact ⟨of_decide_eq_true h1, of_decide_eq_true h2, of_decide_eq_true h3, h4, of_decide_eq_true h5, of_decide_eq_true h6, of_decide_eq_true h7, of_decide_eq_true h8⟩
def errFB (K : PySem.W.Frag) : Bool := errWs.all fun p => excCB K (He.ga K p.1) && (decide (PySem.W.kitOne K (.type "NoneType") (.ref (He.ga K p.1)) = some false) && (decide (PySem.W.kitOne K (.ref (He.ga K p.1)) (.type "ValueError") = some true) &&
  errWs.all fun q => decide (PySem.W.kitOne K (.ref (He.ga K p.1)) (.ref (He.ga K q.1)) = some (decide (p.1 = q.1)))))
theorem errFB_ok {K : PySem.W.Frag} (h : errFB K = true) : ErrF K := by
  have each : ∀ C u, (C, u) ∈ errWs → ExcC K (He.ga K C) ∧ PySem.W.kitOne K (.type "NoneType") (.ref (He.ga K C)) = some false ∧ PySem.W.kitOne K (.ref (He.ga K C)) (.type "ValueError") = some true ∧
      ∀ D v, (D, v) ∈ errWs → PySem.W.kitOne K (.ref (He.ga K C)) (.ref (He.ga K D)) = some (decide (C = D)) := fun C u hC => by
    have h0 := List.all_eq_true.mp h (C, u) hC
    obtain ⟨h1, h0⟩ := He.ba h0
    obtain ⟨h2, h0⟩ := He.ba h0
    obtain ⟨h3, h4⟩ := He.ba h0
    exact ⟨excCB_ok h1, of_decide_eq_true h2, of_decide_eq_true h3, fun D v hD => of_decide_eq_true (List.all_eq_true.mp h4 (D, v) hD)⟩
  exact ⟨fun C u h => (each C u h).1, fun C u D v h h2 => (each C u h).2.2.2 D v h2, fun D v h => (each D v h).2.1, fun C u h => (each C u h).2.2.1⟩
theorem cls_of {fa : List He.Fa} {fn : List He.DefD} {ex : PySem.W.Frag → Bool} {h : Heap} {K : PySem.W.Frag} {mg : Str → Option Value} (c : SaysZ fa fn ex K) (X : K.In h) (G : h.Ns mainGlobals mg) {x : Str} (j : Nat) (hj : fa[j]? = some (.glo x)) : mg x = some (.ref (He.ga K x)) := He.glo_ok X G (c.d.fact j hj)
end Sw

set_option Elab.async false
set_option linter.all false
set_option maxRecDepth 100000
set_option maxHeartbeats 4000000
namespace Sw
open PySem PySem.Spec PyProof.Rows L2
/-! ## Noughts and ones stand for all numbers -/
def Mono (f : Int → Int) : Prop := ∀ x y, x ≤ y → f x ≤ f y
theorem at0_map {r : Row} {f : Int → Int} {k : Nat} (h : k < r.length) : at0 (r.map f) k = f (at0 r k) := by
  unfold at0
  rw [List.getD_eq_getElem?_getD, List.getD_eq_getElem?_getD, List.getElem?_map, List.getElem?_eq_getElem h] <;> rfl
theorem at0_get {r : Row} {k : Nat} (h : k < r.length) : r[k]? = some (at0 r k) := by
  unfold at0
  rw [List.getD_eq_getElem?_getD, List.getElem?_eq_getElem h] <;> rfl
theorem set_at0' {r : Row} {k : Nat} : r.set k (at0 r k) = r := by
  by_cases h : k < r.length
  · have e : at0 r k = r[k] := by
      unfold at0
      rw [List.getD_eq_getElem?_getD, List.getElem?_eq_getElem h] <;> rfl
    rw [e, List.set_getElem_self]
  · rw [List.set_eq_of_length_le (by omega)]
theorem goC_map {n : Nat} {r : Row} {c : Cmp} {f : Int → Int} (hf : Mono f) (ok : CmpOk n c) (hr : r.length = n) : goC (r.map f) c = (goC r c).map f := by
  have h1 : at0 (r.map f) c.1 = f (at0 r c.1) := at0_map (by rw [hr]; exact ok.1)
  have h2 : at0 (r.map f) c.2 = f (at0 r c.2) := at0_map (by rw [hr]; exact ok.2.1)
  unfold goC
  rw [h1, h2]
  by_cases g : at0 r c.1 > at0 r c.2
  · rw [if_pos g, List.map_set, List.map_set]
    by_cases g2 : f (at0 r c.1) > f (at0 r c.2)
    · rw [if_pos g2]
    · rw [if_neg g2]
      have e : f (at0 r c.1) = f (at0 r c.2) := by
        have := hf _ _ (show at0 r c.2 ≤ at0 r c.1 by omega)
        omega
      rw [e, ← h2]
      have e1 : (r.map f).set c.1 (at0 (r.map f) c.2) = r.map f := by
        rw [h2, ← e, ← h1, set_at0']
      rw [e1, set_at0']
  · rw [if_neg g]
    have := hf _ _ (show at0 r c.1 ≤ at0 r c.2 by omega)
    rw [if_neg (by omega)]
theorem gone_map {n : Nat} {f : Int → Int} (hf : Mono f) : ∀ (cs : List Cmp) (r : Row), CmpsOk n cs → r.length = n → gone cs (r.map f) = (gone cs r).map f
  | [], _, _, _ => rfl
  | c :: cs, r, ok, hr => by
    show gone cs (goC (r.map f) c) = (gone cs (goC r c)).map f
    rw [goC_map hf (ok c List.mem_cons_self) hr]
    exact gone_map hf cs (goC r c) (fun d hd => ok d (List.mem_cons_of_mem _ hd)) (by rw [goC_len, hr])
/-- one from t on -/
def thr (t x : Int) : Int := if t ≤ x then 1 else 0
theorem thr_mono (t : Int) : Mono (thr t) := fun x y h => by
  unfold thr
  split <;> split <;> omega
theorem thr_bit (t x : Int) : thr t x = 0 ∨ thr t x = 1 := by
  unfold thr
  split
  · exact .inr rfl
  · exact .inl rfl
def bareR (n m : Nat) : Row := (List.range n).map fun k => ((m / 2 ^ k % 2 : Nat) : Int)
def bares (n : Nat) : List Row := (List.range (2 ^ n)).map (bareR n)
def Bits (r : Row) : Prop := ∀ x ∈ r, x = 0 ∨ x = 1
theorem bareR_len (n m : Nat) : (bareR n m).length = n := by
  unfold bareR
  rw [List.length_map, List.length_range]
theorem bareR_succ (n m : Nat) : bareR (n + 1) m = ((m % 2 : Nat) : Int) :: bareR n (m / 2) := by
  unfold bareR
  rw [List.range_succ_eq_map, List.map_cons, List.map_map]
  congr 1
  · rw [Nat.pow_zero, Nat.div_one]
  · apply List.map_congr_left
    intro k _
    show ((m / 2 ^ (k + 1) % 2 : Nat) : Int) = _
    rw [Nat.pow_succ, Nat.mul_comm, ← Nat.div_div_eq_div_mul]
theorem bits_bare : ∀ (r : Row), Bits r → ∃ m, m < 2 ^ r.length ∧ bareR r.length m = r
  | [], _ => ⟨0, by decide, rfl⟩
  | x :: r, h => by
    obtain ⟨m, hm, e⟩ := bits_bare r fun y hy => h y (List.mem_cons_of_mem _ hy)
    have p : 2 ^ (r.length + 1) = 2 * 2 ^ r.length := by rw [Nat.pow_succ, Nat.mul_comm]
    rcases h x List.mem_cons_self with hx | hx
    · refine ⟨2 * m, ?_, ?_⟩
      · rw [List.length_cons, p]
        omega
      · rw [List.length_cons, bareR_succ, show 2 * m / 2 = m by omega, show 2 * m % 2 = 0 by omega, e, hx] <;> rfl
    · refine ⟨2 * m + 1, ?_, ?_⟩
      · rw [List.length_cons, p]
        omega
      · rw [List.length_cons, bareR_succ, show (2 * m + 1) / 2 = m by omega, show (2 * m + 1) % 2 = 1 by omega, e, hx] <;> rfl
theorem bits_mem {r : Row} {n : Nat} (h : Bits r) (hr : r.length = n) : r ∈ bares n := by
  subst hr
  obtain ⟨m, hm, e⟩ := bits_bare r h
  exact List.mem_map.mpr ⟨m, List.mem_range.mpr hm, e⟩
theorem bares_ok {n : Nat} {r : Row} (h : r ∈ bares n) : r.length = n ∧ Bits r := by
  obtain ⟨m, _, rfl⟩ := List.mem_map.mp h
  refine ⟨bareR_len n m, fun x hx => ?_⟩
  obtain ⟨k, _, rfl⟩ := List.mem_map.mp hx
  have : m / 2 ^ k % 2 = 0 ∨ m / 2 ^ k % 2 = 1 := by omega
  rcases this with h | h <;> rw [h]
  · exact .inl rfl
  · exact .inr rfl
theorem thr_bare {r : Row} {n : Nat} (t : Int) (hr : r.length = n) : r.map (thr t) ∈ bares n := by
  refine bits_mem (fun x hx => ?_) (by rw [List.length_map, hr])
  obtain ⟨y, _, rfl⟩ := List.mem_map.mp hx
  exact thr_bit t y
/-- in order -/
abbrev Srt (r : Row) : Prop := r.Pairwise (· ≤ ·)
theorem zero_one {n : Nat} {cs : List Cmp} (ok : CmpsOk n cs) (h : ∀ r ∈ bares n, Srt (gone cs r)) {r : Row} (hr : r.length = n) : Srt (gone cs r) := by
  rw [Srt, List.pairwise_iff_getElem]
  intro i j hi hj hij
  by_cases g : (gone cs r)[i] ≤ (gone cs r)[j]
  · exact g
  · exfalso
    have hb := h _ (thr_bare (gone cs r)[i] hr)
    rw [gone_map (thr_mono _) cs r ok hr, Srt, List.pairwise_iff_getElem] at hb
    have := hb i j (by rw [List.length_map]; exact hi) (by rw [List.length_map]; exact hj) hij
    rw [List.getElem_map, List.getElem_map] at this
    unfold thr at this
    rw [if_pos (Int.le_refl _), if_neg (by omega)] at this
    omega
theorem zero_one_eq {n : Nat} {cs ds : List Cmp} (ok : CmpsOk n cs) (ok2 : CmpsOk n ds) (h : ∀ r ∈ bares n, gone cs r = gone ds r) {r : Row} (hr : r.length = n) : gone cs r = gone ds r := by
  apply List.ext_getElem
  · rw [gone_len, gone_len]
  · intro i hi hj
    have key : ∀ t, thr t (gone cs r)[i] = thr t (gone ds r)[i] := fun t => by
      have hb := h _ (thr_bare t hr)
      rw [gone_map (thr_mono _) cs r ok hr, gone_map (thr_mono _) ds r ok2 hr] at hb
      have := congrArg (fun l => l[i]?) hb
      simp only [List.getElem?_map, List.getElem?_eq_getElem hi, List.getElem?_eq_getElem hj, Option.map_some] at this
      exact Option.some.inj this
    have k1 := key (gone cs r)[i]
    have k2 := key (gone ds r)[i]
    unfold thr at k1 k2
    rw [if_pos (Int.le_refl _)] at k1
    rw [if_pos (Int.le_refl _)] at k2
    split at k1
    · split at k2
      · omega
      · cases k2
    · cases k1
/-- where a comparer exchanges some row, it exchanges one of noughts and ones -/
theorem zero_one_stir {n k : Nat} {cs : List Cmp} {c : Cmp} (ok : CmpsOk n cs) (hc : CmpOk n c) {r : Row} (hr : r.length = n) (g : at0 (gone (cs.take k) r) c.1 > at0 (gone (cs.take k) r) c.2) :
    ∃ b ∈ bares n, at0 (gone (cs.take k) b) c.1 > at0 (gone (cs.take k) b) c.2 := by
  refine ⟨_, thr_bare (at0 (gone (cs.take k) r) c.1) hr, ?_⟩
  have okt : CmpsOk n (cs.take k) := fun d hd => ok d (List.mem_of_mem_take hd)
  have hl : (gone (cs.take k) r).length = n := by rw [gone_len, hr]
  rw [gone_map (thr_mono _) _ r okt hr, at0_map (by rw [hl]; exact hc.1), at0_map (by rw [hl]; exact hc.2.1)]
  unfold thr
  rw [if_pos (Int.le_refl _), if_neg (by omega)]
  decide
/-- numbers laid upon noughts and ones go as these -/
theorem laid_goes {n : Nat} {cs : List Cmp} {t : Int} (ok : CmpsOk n cs) {r b : Row} (hr : r.length = n) (e : r.map (thr t) = b) : gone cs b = (gone cs r).map (thr t) := by
  rw [← e, gone_map (thr_mono _) cs r ok hr]
end Sw

set_option Elab.async false
set_option linter.all false
set_option maxRecDepth 100000
set_option maxHeartbeats 4000000
namespace Sw
open PySem PySem.Spec PyProof.Rows L2
/-! ## Layers -/
/-- two comparers with a line in common -/
def share (c d : Cmp) : Bool := decide (c.1 = d.1 ∨ c.1 = d.2 ∨ c.2 = d.1 ∨ c.2 = d.2)
abbrev Hgt := Nat → Nat
def tierH (h : Hgt) (c : Cmp) : Nat := max (h c.1) (h c.2)
def stepH (h : Hgt) (c : Cmp) : Hgt := fun l => if l = c.1 ∨ l = c.2 then tierH h c + 1 else h l
/-- the layer of each comparer, by heights of lines -/
def tiersH : Hgt → List Cmp → List Nat
  | _, [] => []
  | h, c :: cs => tierH h c :: tiersH (stepH h c) cs
def hgtH : Hgt → List Cmp → Hgt
  | h, [] => h
  | h, c :: cs => hgtH (stepH h c) cs
def tiers (cs : List Cmp) : List Nat := tiersH (fun _ => 0) cs
theorem tiersH_len : ∀ (h : Hgt) (cs : List Cmp), (tiersH h cs).length = cs.length
  | _, [] => rfl
  | h, c :: cs => by
    show (tiersH (stepH h c) cs).length + 1 = _
    rw [tiersH_len] <;> rfl
theorem tiersH_app : ∀ (h : Hgt) (cs ds : List Cmp), tiersH h (cs ++ ds) = tiersH h cs ++ tiersH (hgtH h cs) ds
  | _, [], _ => rfl
  | h, c :: cs, ds => by
    show tierH h c :: tiersH (stepH h c) (cs ++ ds) = _
    rw [tiersH_app (stepH h c) cs ds] <;> rfl
theorem hgtH_app : ∀ (h : Hgt) (cs ds : List Cmp), hgtH h (cs ++ ds) = hgtH (hgtH h cs) ds
  | _, [], _ => rfl
  | h, c :: cs, ds => hgtH_app (stepH h c) cs ds
theorem tiersH_take (h : Hgt) (cs : List Cmp) (i : Nat) : tiersH h (cs.take i) = (tiersH h cs).take i := by
  have e := tiersH_app h (cs.take i) (cs.drop i)
  rw [List.take_append_drop] at e
  by_cases hi : i ≤ cs.length
  · have l1 : (tiersH h (cs.take i)).length = i := by
      rw [tiersH_len, List.length_take]
      omega
    rw [e, List.take_left' l1]
  · rw [List.take_of_length_le (show cs.length ≤ i by omega), List.take_of_length_le (by rw [tiersH_len]; omega)]
theorem snocInd {α : Type} {P : List α → Prop} (h0 : P []) (h1 : ∀ l a, P l → P (l ++ [a])) (l : List α) : P l := by
  rw [← List.reverse_reverse l]
  induction l.reverse with
  | nil => exact h0
  | cons a r ih =>
    rw [List.reverse_cons]
    exact h1 _ _ ih
theorem tiers_get {cs : List Cmp} {i : Nat} {c : Cmp} (h : cs[i]? = some c) : (tiers cs)[i]? = some (tierH (hgtH (fun _ => 0) (cs.take i)) c) := by
  have hi : i < cs.length := (List.getElem?_eq_some_iff.mp h).1
  have e : cs = cs.take i ++ c :: cs.drop (i + 1) := by
    have := List.getElem?_eq_some_iff.mp h
    obtain ⟨_, hc⟩ := this
    rw [← hc, List.getElem_cons_drop, List.take_append_drop]
  have e2 : tiers cs = tiersH (fun _ => 0) (cs.take i) ++ tierH (hgtH (fun _ => 0) (cs.take i)) c :: tiersH (stepH (hgtH (fun _ => 0) (cs.take i)) c) (cs.drop (i + 1)) := by
    unfold tiers
    conv => lhs; rw [e, tiersH_app]
    rfl
  rw [e2, List.getElem?_append_right (by rw [tiersH_len, List.length_take]; omega), tiersH_len, List.length_take, Nat.min_eq_left (by omega), Nat.sub_self] <;> rfl
/-- a line's height: one above the highest of those that touch it -/
theorem hgt_spec : ∀ (cs : List Cmp) (l : Nat), (∀ (i : Nat) (c : Cmp), cs[i]? = some c → (c.1 = l ∨ c.2 = l) → ∀ t, (tiers cs)[i]? = some t → t + 1 ≤ hgtH (fun _ => 0) cs l) ∧
    (hgtH (fun _ => 0) cs l = 0 ∨ ∃ (i : Nat) (c : Cmp) (t : Nat), cs[i]? = some c ∧ (c.1 = l ∨ c.2 = l) ∧ (tiers cs)[i]? = some t ∧ hgtH (fun _ => 0) cs l = t + 1) := by
  intro cs
  induction cs using snocInd with
  | h0 => exact fun l => ⟨(fun i c h => nomatch h), .inl rfl⟩
  | h1 cs d ih =>
    intro l
    obtain ⟨ih1, ih2⟩ := ih l
    have eh : hgtH (fun _ => 0) (cs ++ [d]) = stepH (hgtH (fun _ => 0) cs) d := by rw [hgtH_app] <;> rfl
    have et : tiers (cs ++ [d]) = tiers cs ++ [tierH (hgtH (fun _ => 0) cs) d] := by
      unfold tiers
      rw [tiersH_app] <;> rfl
    have tl : (tiers cs).length = cs.length := tiersH_len _ _
    rw [eh, et]
    have low : hgtH (fun _ => 0) cs l ≤ stepH (hgtH (fun _ => 0) cs) d l := by
      unfold stepH
      split
      · rename_i h
        unfold tierH
        rcases h with h | h <;> rw [h] <;> omega
      · exact Nat.le_refl _
    constructor
    · intro i c hc ht t gt
      by_cases hi : i < cs.length
      · rw [List.getElem?_append_left hi] at hc
        rw [List.getElem?_append_left (by rw [tl]; exact hi)] at gt
        exact Nat.le_trans (ih1 i c hc ht t gt) low
      · have hl := (List.getElem?_eq_some_iff.mp hc).1
        rw [List.length_append, List.length_singleton] at hl
        have ei : i = cs.length := by omega
        subst ei
        rw [List.getElem?_append_right (Nat.le_refl _), Nat.sub_self] at hc
        rw [List.getElem?_append_right (by rw [tl]; exact Nat.le_refl _), tl, Nat.sub_self] at gt
        have e1 : d = c := Option.some.inj hc
        have e2 : tierH (hgtH (fun _ => 0) cs) d = t := Option.some.inj gt
        subst e1
        unfold stepH
        rw [if_pos (by rcases ht with h | h <;> simp [h]), e2]
        exact Nat.le_refl _
    · by_cases hd : l = d.1 ∨ l = d.2
      · refine .inr ⟨cs.length, d, tierH (hgtH (fun _ => 0) cs) d, ?_, ?_, ?_, ?_⟩
        · rw [List.getElem?_append_right (Nat.le_refl _), Nat.sub_self] <;> rfl
        · rcases hd with h | h
          · exact .inl h.symm
          · exact .inr h.symm
        · rw [List.getElem?_append_right (by rw [tl]; exact Nat.le_refl _), tl, Nat.sub_self] <;> rfl
        · unfold stepH
          rw [if_pos hd]
      · have es : stepH (hgtH (fun _ => 0) cs) d l = hgtH (fun _ => 0) cs l := by
          unfold stepH
          rw [if_neg hd]
        rw [es]
        rcases ih2 with h | ⟨i, c, t, h1, h2, h3, h4⟩
        · exact .inl h
        · have hi := (List.getElem?_eq_some_iff.mp h1).1
          exact .inr ⟨i, c, t, by rw [List.getElem?_append_left hi]; exact h1, h2, by rw [List.getElem?_append_left (by rw [tl]; exact hi)]; exact h3, h4⟩
/-- neighbours without a common line -/
theorem stepH_comm {h : Hgt} {c d : Cmp} (s : share c d = false) : tierH (stepH h c) d = tierH h d ∧ stepH (stepH h c) d = stepH (stepH h d) c := by
  unfold share at s
  have n := of_decide_eq_false s
  have n1 : c.1 ≠ d.1 := fun z => n (.inl z)
  have n2 : c.1 ≠ d.2 := fun z => n (.inr (.inl z))
  have n3 : c.2 ≠ d.1 := fun z => n (.inr (.inr (.inl z)))
  have n4 : c.2 ≠ d.2 := fun z => n (.inr (.inr (.inr z)))
  have a1 : tierH (stepH h c) d = tierH h d := by
    unfold tierH stepH
    rw [if_neg (fun z => by rcases z with z | z <;> simp_all), if_neg (fun z => by rcases z with z | z <;> simp_all)]
  have a2 : tierH (stepH h d) c = tierH h c := by
    unfold tierH stepH
    rw [if_neg (fun z => by rcases z with z | z <;> simp_all), if_neg (fun z => by rcases z with z | z <;> simp_all)]
  refine ⟨a1, ?_⟩
  funext l
  show (if l = d.1 ∨ l = d.2 then tierH (stepH h c) d + 1 else stepH h c l) = (if l = c.1 ∨ l = c.2 then tierH (stepH h d) c + 1 else stepH h d l)
  rw [a1, a2]
  unfold stepH
  by_cases h1 : l = d.1 ∨ l = d.2
  · have h2 : ¬ (l = c.1 ∨ l = c.2) := fun z => by
      rcases h1 with h1 | h1 <;> rcases z with z | z <;> simp_all
    rw [if_pos h1, if_neg h2, if_pos h1]
  · rw [if_neg h1, if_neg h1]
/-- the comparers of one layer -/
def layerOf (cs : List Cmp) (ts : List Nat) (t : Nat) : List Cmp := ((cs.zip ts).filter fun p => p.2 == t).map (·.1)
theorem share_comm (c d : Cmp) : share c d = share d c := by
  unfold share
  exact decide_eq_decide.mpr ⟨fun h => by rcases h with h | h | h | h <;> simp [h], fun h => by rcases h with h | h | h | h <;> simp [h]⟩
theorem layer_swap (h : Hgt) (c d : Cmp) (cs : List Cmp) (s : share c d = false) (t : Nat) : (layerOf (c :: d :: cs) (tiersH h (c :: d :: cs)) t).Perm (layerOf (d :: c :: cs) (tiersH h (d :: c :: cs)) t) := by
  obtain ⟨a1, a3⟩ := stepH_comm (h := h) s
  obtain ⟨a2, _⟩ := stepH_comm (h := h) (c := d) (d := c) (by rw [share_comm]; exact s)
  have e1 : tiersH h (c :: d :: cs) = tierH h c :: tierH h d :: tiersH (stepH (stepH h c) d) cs := by
    show tierH h c :: tierH (stepH h c) d :: _ = _
    rw [a1]
  have e2 : tiersH h (d :: c :: cs) = tierH h d :: tierH h c :: tiersH (stepH (stepH h c) d) cs := by
    show tierH h d :: tierH (stepH h d) c :: tiersH (stepH (stepH h d) c) cs = _
    rw [a2, ← a3]
  rw [e1, e2]
  unfold layerOf
  simp only [List.zip_cons_cons, List.filter_cons]
  split <;> split
  · exact List.Perm.swap _ _ _
  · exact List.Perm.refl _
  · exact List.Perm.refl _
  · exact List.Perm.refl _
theorem layer_cons (h : Hgt) (c : Cmp) (cs : List Cmp) (t : Nat) : layerOf (c :: cs) (tiersH h (c :: cs)) t = (if tierH h c = t then [c] else []) ++ layerOf cs (tiersH (stepH h c) cs) t := by
  unfold layerOf
  show List.map _ (List.filter _ ((c, tierH h c) :: cs.zip (tiersH (stepH h c) cs))) = _
  rw [List.filter_cons]
  by_cases e : tierH h c = t
  · rw [if_pos (by simpa using e), if_pos e] <;> rfl
  · rw [if_neg (by simpa using e), if_neg e] <;> rfl
/-- exchanging neighbours without a common line keeps each layer's comparers -/
theorem layer_perm : ∀ (pre : List Cmp) (h : Hgt) (c d : Cmp) (cs : List Cmp) (t : Nat), share c d = false → (layerOf (pre ++ c :: d :: cs) (tiersH h (pre ++ c :: d :: cs)) t).Perm (layerOf (pre ++ d :: c :: cs) (tiersH h (pre ++ d :: c :: cs)) t)
  | [], h, c, d, cs, t, s => layer_swap h c d cs s t
  | p :: pre, h, c, d, cs, t, s => by
    rw [List.cons_append, List.cons_append, layer_cons, layer_cons]
    exact (List.Perm.refl _).append (layer_perm pre (stepH h p) c d cs t s)
end Sw

set_option Elab.async false
set_option linter.all false
set_option maxRecDepth 100000
set_option maxHeartbeats 4000000
namespace Sw
open PySem PySem.Spec PyProof.Rows L2
/-! ## len(set(x)), x a tuple of whole numbers -/
def tLenSetI (K : PySem.W.Frag) (ta : TE) : TE := fun σ H Q => ta σ H fun x H1 => ∃ (l : Addr) (ns : List Int), x = .ref l ∧ SqT K H1 l (ns.map V.int) ∧ ns.length ≤ 1000 ∧ ∀ ks : List Int, ks.Nodup → (∀ k, k ∈ ks ↔ k ∈ ns) → Q (.int ks.length) H1
section
variable {X : Cx}
theorem pe_lenSetI {a : Expr} {ta : TE} {p p2 q pos : Pos} (hc : X.calm = true) (hg : Gl X "len") (hm : X.mg "len" = none) (hg2 : Gl X "set") (hm2 : X.mg "set" = none) (ha : PE X a ta)
    (na : starEach [a] X.env = (false, eval a X.env) :: starEach [] X.env := by rfl) : PE X (.Call (.Name "len" p) [.Call (.Name "set" p2) [a] [] q] [] pos) (tLenSetI X.K ta) := by
  refine ⟨fun pins s σ H Q I h => Call_ (ld_blt I hg hm boot_len (PyProof.Rows.callWith_builtin1 (PyProof.Rows.args_cons ?_ rfl) rfl rfl))⟩
  refine Call_ (ld_blt I hg2 hm2 boot_set (PyProof.Rows.callWith_type1 (PyProof.Rows.args_cons (thn (ha.run pins s σ H _ I h) fun v s1 hv => PyProof.Rows.args_nil ?_) na) na rfl))
  obtain ⟨x, H1, I1, r1, l, ns, rfl, hq, few, q1⟩ := hv
  cases r1
  obtain ⟨its, rv, pt, _⟩ := I1.tuple hq
  refine call_set_tupI ns (I1.ok.hd hc) (show s1.heap.IsTuple l its.toArray from pt) (ints_of_vals rv) (by unfold scanBound; omega) fun g tk c R hcn k => ?_
  obtain ⟨o, es, ep, t, ho, hex, hdt, _, nd, mem, hb, hf, hn, _⟩ := R
  refine PyProof.Rows.args_nil ?_
  have I2 : Inv X pins σ H1 { s1 with heap := g, toks := tk } := I1.kept k
  refine call_len_set ho hex hdt hf (by rw [hn]; have := sizeLine_eq; omega) ⟨.int (es.toList.map keyOf).length, H1, I2.tok _, ⟨_, by rw [List.length_map, Array.length_toList]⟩, q1 _ nd fun j => ?_⟩
  rw [← mem j, decide_eq_true_eq]
theorem md_count : MtR X "list.count" (rCntI X.K) := mt_lcount
end
/-! ## x[::k] of a list, k one or one less than nought -/
theorem pick_one (items : Array Value) : slicePick items none none (some 1) = items := by
  have e : (sliceBounds none none (some 1) items.size) = (((0 : Nat) : Int), ((items.size : Nat) : Int), (1 : Int)) := by
    first
      | rfl
      | simp [sliceBounds]
  unfold slicePick
  rw [e]
  show ((sliceRange ((0 : Nat) : Int) ((items.size : Nat) : Int) 1).filterMap (items[·]?)).toArray = _
  rw [sliceRange_one, Nat.sub_zero]
  have e2 : (List.range items.size).map (0 + ·) = List.range items.size := by
    rw [show ((0 + ·) : Nat → Nat) = id from funext fun k => Nat.zero_add k, List.map_id]
  rw [e2, PySem.W.krv_all]
def tStepL (K : PySem.W.Frag) (te ts : TE) : TE := fun σ H Q => te σ H fun x H1 => tPart ts σ H1 fun o H4 => ∃ k : Int, o = some k ∧ ∃ (a : Addr) (xs : List V), x = .ref a ∧ SqL K H4 a xs ∧ (k = 1 ∨ k = -1) ∧ ∀ p, H4 p = none → Q (.ref p) (upd H4 p (.lst (if k = 1 then xs else xs.reverse)))
section
variable {X : Cx}
theorem pe_stepL {e es : Expr} {te ts : TE} {p3 pos : Pos} (he : PE X e te) (hs : PE X es ts) (hl : ∀ o i, subscripted (.Slice none none (some es) p3) false o i = operate [o, i] (getItem o i) := by intro _ _; with_unfolding_all rfl) :
    PE X (.Subscript e (.Slice none none (some es) p3) pos) (tStepL X.K te ts) := by
  refine ⟨fun pins s σ H Q I h => Subscript_ (thn (he.run pins s σ H _ I h) fun v s1 hv => ?_)⟩
  obtain ⟨x, H1, I1, r1, q1⟩ := hv
  have pst : PO X (some es) (tPart ts) := po_some hs
  refine wpAny_Slice (thn (po_none.run pins s1 σ H1 (fun o H2 => o = none ∧ H2 = H1) I1 ⟨rfl, rfl⟩) fun vl s2 hl2 => ?_)
  obtain ⟨l, H2, I2, pl, rfl, rfl⟩ := hl2
  refine thn (po_none.run pins s2 σ H2 (fun o H3 => o = none ∧ H3 = H2) I2 ⟨rfl, rfl⟩) fun vu s3 hu2 => ?_
  obtain ⟨u, H3, I3, pu, rfl, rfl⟩ := hu2
  refine thn (pst.run pins s3 σ H3 (fun o H4 => ∃ k : Int, o = some k ∧ ∃ (a : Addr) (xs : List V), x = .ref a ∧ SqL X.K H4 a xs ∧ (k = 1 ∨ k = -1) ∧ ∀ p, H4 p = none → Q (.ref p) (upd H4 p (.lst (if k = 1 then xs else xs.reverse)))) I3 q1) fun vs s4 hs4 => ?_
  · obtain ⟨o, H4, I4, ps, k, rfl, a, xs, rfl, hx, hk, q⟩ := hs4
    cases r1
    have I5 : Inv X pins σ H4 { s4 with heap := s4.heap.push { cls := .type "slice", data := .fields #[vl, vu, vs] } } := I4.kept (t' := s4.toks) fun b ob z => Heap.get?_push_of_some _ z
    obtain ⟨its, r, ht, hz⟩ := I5.list hx
    have len := r.length
    show wpAny (model X.prog X.w) X.A (subscriptTail e (.Slice none none (some es) p3) (.ref a) (.ref s4.heap.objs.size)) (EP X pins σ Q) X.xe { s4 with heap := s4.heap.push { cls := .type "slice", data := .fields #[vl, vu, vs] } }
    refine tail_any (ops := [.ref a, .ref s4.heap.objs.size]) ht.isList.typeIs (PySem.slot_list_getitem.lookup) ?_ (hl _ _)
    refine wpAny_getItem_list_slice ht.isList (Heap.IsSliceOf.new _ vl vu vs) pl pu ps (by rcases hk with rfl | rfl <;> decide) ?_ (by rw [List.size_toArray]; omega)
    rcases hk with rfl | rfl
    · rw [pick_one]
      refine ⟨.ref _, _, I5.laid (t' := s4.toks) (o := .lst xs) (fun b ob z => Heap.get?_push_of_some _ z) (Nat.le_refl _) ?_, rfl, q _ (I5.hok.fresh (Nat.le_refl _))⟩
      exact ⟨hz, its, 0, r, Heap.get?_push_size _ rfl⟩
    · rw [PySem.W.krv_pick]
      refine ⟨.ref _, _, I5.laid (t' := s4.toks) (o := .lst xs.reverse) (fun b ob z => Heap.get?_push_of_some _ z) (Nat.le_refl _) ?_, rfl, q _ (I5.hok.fresh (Nat.le_refl _))⟩
      exact ⟨by rw [List.length_reverse]; exact hz, _, 0, r.reverse, Heap.get?_push_size _ rfl⟩
end
/-! ## a comprehension within a comprehension -/
theorem look_map (g : Str → NameKind → NameKind) : ∀ (l : List (Str × NameKind)) (x : Str), (l.map fun p => (p.1, g p.1 p.2)).lookup x = (l.lookup x).map (g x)
  | [], _ => rfl
  | (n, k) :: l, x => by
    rw [List.map_cons, List.lookup_cons, List.lookup_cons]
    cases h : x == n with
    | true =>
      have e : x = n := eq_of_beq h
      rw [e] <;> rfl
    | false => exact look_map g l x
theorem blkOk_in {N : List Str} {sc scope : Scope} {own : List (Str × Nat)} {env : Env} (h : BlkOk N sc scope own) : BlkOk N (relabel sc env) scope own := by
  refine ⟨h.kind, h.uniq, h.ix, fun y hy e => ?_, h.own⟩
  have q := h.free y hy e
  have em : (relabel sc env).names = sc.names.map fun p => (p.1, if (p.2 == NameKind.free && env.scope.kind == .function && env.kindOf p.1 == some .cell) then NameKind.cell else p.2) := by
    unfold relabel
    show List.map _ _ = List.map _ _
    congr 1
    funext p
    obtain ⟨n, k⟩ := p
    show (if _ then _ else _) = _
    split
    · rfl
    · rfl
  rw [em, look_map fun n k => if (k == NameKind.free && env.scope.kind == .function && env.kindOf n == some .cell) then NameKind.cell else k]
  rcases q with q | q
  · rw [q]
    exact .inl (by rfl)
  · rw [q]
    show some (if _ then _ else _) = _ ∨ some (if _ then _ else _) = _
    split
    · exact .inl rfl
    · exact .inr rfl
end Sw

set_option Elab.async false
set_option linter.all false
set_option maxRecDepth 100000
set_option maxHeartbeats 4000000
namespace Sw
open PySem PySem.Spec PyProof.Rows L2 PySem.W
/-! ## max(ns, default=d) -/
theorem ints_reads {h : Heap} : ∀ {vs : List Value} {ns : List Int}, IntsAre vs ns → ReadsAll h vs (ns.map PyData.int) []
  | _, _, .nil => .nil
  | _, _, .cons _ _ r => .cons (as := []) (.int _ _) (ints_reads r)
theorem ints_alike (ns : List Int) : AlikeAll (ns.map PyData.int) := by
  refine ⟨fun x hx y hy => ?_, fun x hx => ?_⟩
  · obtain ⟨a, _, rfl⟩ := List.mem_map.mp hx
    obtain ⟨b, _, rfl⟩ := List.mem_map.mp hy
    rfl
  · obtain ⟨a, _, rfl⟩ := List.mem_map.mp hx
    exact fun z => nomatch z
theorem depth_ints : ∀ ns : List Int, PyData.depthAll (ns.map PyData.int) = 0
  | [] => rfl
  | n :: ns => by
    show max 0 (PyData.depthAll (ns.map PyData.int)) = 0
    rw [depth_ints ns] <;> rfl
theorem fold_max : ∀ (ns : List Int) (n : Int), ns.foldl max n ∈ n :: ns ∧ ∀ y ∈ n :: ns, y ≤ ns.foldl max n
  | [], n => ⟨.head _, fun y hy => by rw [List.mem_singleton.mp hy]; exact Int.le_refl _⟩
  | k :: ns, n => by
    obtain ⟨h1, h2⟩ := fold_max ns (max n k)
    show ns.foldl max (max n k) ∈ n :: k :: ns ∧ _
    constructor
    · rcases List.mem_cons.mp h1 with h | h
      · rw [h]
        have : max n k = n ∨ max n k = k := by omega
        rcases this with e | e <;> rw [e]
        · exact .head _
        · exact .tail _ (.head _)
      · exact .tail _ (.tail _ h)
    · intro y hy
      have h3 := h2 _ (List.mem_cons_self (a := max n k))
      show y ≤ ns.foldl max (max n k)
      rcases List.mem_cons.mp hy with h | h
      · omega
      · rcases List.mem_cons.mp h with h | h
        · omega
        · exact h2 y (.tail _ h)
def rMaxDI (K : PySem.W.Frag) : List V → List V → Hp → VK → Prop := fun vs zs H Q => ∃ (a : Addr) (ns : List Int) (d : Int), vs = [.ref a] ∧ zs = [.int d] ∧ SqL K H a (ns.map V.int) ∧ (ns = [] → Q (.int d) H) ∧ ∀ m, m ∈ ns → (∀ y ∈ ns, y ≤ m) → Q (.int m) H
section
variable {X : Cx}
theorem cl_maxDI (hc : X.calm = true) (hu : X.A.units + 64 < cLine) : CallRK X (.builtin "max") ["default"] (rMaxDI X.K) := by
  intro pins s σ H vs zs us ws Q I r1 r2 h
  obtain ⟨a, ns, d, rfl, rfl, hs, q0, q1⟩ := h
  obtain ⟨its, rv, hl, _⟩ := I.list hs
  rw [Vals.ref1 r1]
  obtain ⟨u, rfl, t, rfl⟩ : ∃ u, ws = [u] ∧ ∃ t, u = .int d t := by
    cases r2 with
    | cons r rs =>
      cases rs
      exact ⟨_, rfl, r⟩
  refine max_list_default (as := []) (I.ok.hd hc) hl.isList (ints_reads rv.ints) (ints_alike ns) (by rw [depth_ints]; omega) (fun e h' tk hk => ?_) (fun y ys i v h' tk bs e hv hrd hk => ?_)
  · exact ⟨.int d, H, I.kept hk, ⟨t, rfl⟩, q0 (List.map_eq_nil_iff.mp e)⟩
  · cases ns with
    | nil => cases e
    | cons n ns =>
      cases e
      rw [maxD_ints] at hrd
      obtain ⟨t2, rfl, _⟩ := reads_int_inv hrd
      obtain ⟨f1, f2⟩ := fold_max ns n
      exact ⟨.int _, H, I.kept hk, ⟨t2, rfl⟩, q1 _ f1 f2⟩
end
end Sw

set_option Elab.async false
set_option linter.all false
set_option maxRecDepth 100000
set_option maxHeartbeats 4000000
namespace Sw
open PySem PySem.Spec PyProof.Rows L2
/-! ## t[::k] of a pair, k one or one less than nought -/
section
variable {prog : Program} {w : World} {A : Around} {E : Value → Shared → Prop} {s : Shared}
theorem applied_one2 {sl : Addr} {tk : Tok} {Q : Int × Int × Nat → Shared → Prop} (hs : s.heap.IsSliceOf sl .none .none (.int 1 tk)) (h : Q (0, 1, 2) s) :
    wpAny (model prog w) A (Builtin.Slice.sliceApplied (.ref sl) (pure (2 : Int))) Q E s := by
  obtain ⟨os, hos, hcs, hds⟩ := id hs
  unfold Builtin.Slice.sliceApplied Builtin.Slice.sliceFields
  refine wpAny_bind (wpAny_bind ?_)
  refine wpAny_field hos hds (x := .none) rfl ?_
  refine wpAny_bind (wpAny_field hos hds (x := .none) rfl ?_)
  refine wpAny_bind (wpAny_field hos hds (x := .int 1 tk) rfl ?_)
  refine wpAny_pure ?_
  refine wpAny_bind (HT.slicePart_ (.int 1 tk) ?_)
  show wpAny _ _ (if ((1 : Int) == 0) = true then _ else _) _ _ s
  rw [if_neg (by decide)]
  refine wpAny_bind (HT.slicePart_ .none ?_)
  refine wpAny_bind (HT.slicePart_ .none ?_)
  refine wpAny_bind (wpAny_pure ?_)
  exact wpAny_pure h
theorem item_one2 {t sl : Addr} {u v : Value} {tk : Tok} {Q : Value → Shared → Prop} (ht : IsTup s.heap t #[u, v]) (hs : s.heap.IsSliceOf sl .none .none (.int 1 tk))
    (h : Q (.ref t) s) : wpAny (model prog w) A (getItem (.ref t) (.ref sl)) Q E s := by
  obtain ⟨os, hos, hcs, hds⟩ := id hs
  have kind : s.TypeIs (.ref sl) "slice" := ⟨os, hos, hcs⟩
  unfold getItem
  try with_reducible refine wpAny_holding ?_
  first
    | refine wpAny_bind (wpAny_pure ?_)
    | skip
  refine wpAny_bind (wpAny_sequenceKey ht.typeIs (by decide) ?_)
  refine wpAny_bind (wpAny_callSpecial?_slot (name := Str.ofString "__getitem__") ht.typeIs slot_tuple_getitem ?_)
  refine wpAny_call_entry slot_tuple_getitem ht.typeIs entry_tuple_getitem ?_ (args_tuple_getitem _ _)
  show wpAny _ _ (Builtin.Tuple.tupleItemsOf (.ref t) >>= _) _ _ s
  refine wpAny_bind (tupleItemsOf_ ht ?_)
  refine wpAny_bind (wpAny_typeOf kind ?_)
  rw [if_pos (by decide)]
  refine wpAny_bind (applied_one2 hs ?_)
  show wpAny _ _ (if ((0 : Int) == 0 && (1 : Int) == 1 && (2 : Nat) == 2) = true then _ else _) _ _ s
  rw [if_pos (by decide)]
  refine wpAny_bind (m := Builtin.Tuple.tupleIsExact _) ?_
  unfold Builtin.Tuple.tupleIsExact
  refine wpAny_bind (wpAny_typeOf ht.typeIs ?_)
  refine wpAny_pure ?_
  rw [if_pos (by decide)]
  refine wpAny_bind (wpAny_rule ?_)
  exact wpAny_pure ⟨_, rfl, wpAny_pure h⟩
end
/-- t[::k], t a pair: itself, or turned -/
def tStepT (K : PySem.W.Frag) (te ts : TE) : TE := fun σ H Q => te σ H fun x H1 => tPart ts σ H1 fun o H4 => ∃ k : Int, o = some k ∧ ∃ (a : Addr) (y z : V), x = .ref a ∧ SqT K H4 a [y, z] ∧ ((k = 1 ∧ Q (.ref a) H4) ∨ (k = -1 ∧ ∀ p, H4 p = none → Q (.ref p) (upd H4 p (.tup [z, y]))))
section
variable {X : Cx}
theorem pe_stepT {e es : Expr} {te ts : TE} {p3 pos : Pos} (he : PE X e te) (hs : PE X es ts) (hl : ∀ o i, subscripted (.Slice none none (some es) p3) false o i = operate [o, i] (getItem o i) := by intro _ _; with_unfolding_all rfl) :
    PE X (.Subscript e (.Slice none none (some es) p3) pos) (tStepT X.K te ts) := by
  refine ⟨fun pins s σ H Q I h => Subscript_ (thn (he.run pins s σ H _ I h) fun v s1 hv => ?_)⟩
  obtain ⟨x, H1, I1, r1, q1⟩ := hv
  have pst : PO X (some es) (tPart ts) := po_some hs
  refine wpAny_Slice (thn (po_none.run pins s1 σ H1 (fun o H2 => o = none ∧ H2 = H1) I1 ⟨rfl, rfl⟩) fun vl s2 hl2 => ?_)
  obtain ⟨l, H2, I2, pl, rfl, rfl⟩ := hl2
  refine thn (po_none.run pins s2 σ H2 (fun o H3 => o = none ∧ H3 = H2) I2 ⟨rfl, rfl⟩) fun vu s3 hu2 => ?_
  obtain ⟨u, H3, I3, pu, rfl, rfl⟩ := hu2
  refine thn (pst.run pins s3 σ H3 (fun o H4 => ∃ k : Int, o = some k ∧ ∃ (a : Addr) (y z : V), x = .ref a ∧ SqT X.K H4 a [y, z] ∧ ((k = 1 ∧ Q (.ref a) H4) ∨ (k = -1 ∧ ∀ p, H4 p = none → Q (.ref p) (upd H4 p (.tup [z, y]))))) I3 q1) fun vs s4 hs4 => ?_
  obtain ⟨o, H4, I4, ps, k, rfl, a, y, z, rfl, hx, hk⟩ := hs4
  cases r1
  cases pl
  cases pu
  cases ps with
  | int i tk =>
    have I5 : Inv X pins σ H4 { s4 with heap := s4.heap.push { cls := .type "slice", data := .fields #[.none, .none, .int k tk] } } := I4.kept (t' := s4.toks) fun b ob z => Heap.get?_push_of_some _ z
    obtain ⟨its, r, ht, hz⟩ := I5.tuple hx
    obtain ⟨y', z', rfl, ry, rz⟩ : ∃ y' z', its = [y', z'] ∧ RelV y y' ∧ RelV z z' := by
      cases r with
      | cons r1 r2 =>
        cases r2 with
        | cons r3 r4 =>
          cases r4
          exact ⟨_, _, rfl, r1, r3⟩
    show wpAny (model X.prog X.w) X.A (subscriptTail e (.Slice none none (some es) p3) (.ref a) (.ref s4.heap.objs.size)) (EP X pins σ Q) X.xe { s4 with heap := s4.heap.push { cls := .type "slice", data := .fields #[.none, .none, .int k tk] } }
    refine tail_any (ops := [.ref a, .ref s4.heap.objs.size]) ht.typeIs slot_tuple_getitem.lookup ?_ (hl _ _)
    rcases hk with ⟨rfl, q⟩ | ⟨rfl, q⟩
    · exact item_one2 ht (Heap.IsSliceOf.new _ .none .none _) ⟨.ref a, H4, I5, rfl, q⟩
    · refine item_back2 ht (Heap.IsSliceOf.new _ .none .none _) ?_
      refine ⟨.ref _, _, I5.laid (t' := s4.toks) (o := .tup [z, y]) (fun b ob q => Heap.get?_push_of_some _ q) (Nat.le_refl _) ?_, rfl, q _ (I5.hok.fresh (Nat.le_refl _))⟩
      refine ⟨by show 2 ≤ sizeLine; rw [sizeLine_eq]; decide, [z', y'], .cons rz (.cons ry .nil), IsTup.new _ _⟩
end
/-! ## xs.extend(t), t a tuple -/
def rExtT (K : PySem.W.Frag) : V → List V → Hp → VK → Prop := fun x vs H Q => ∃ l b xs zs, x = .ref l ∧ vs = [.ref b] ∧ H l = some (.lst xs) ∧ SqT K H b zs ∧ xs.length + zs.length ≤ 1000000 ∧ Q .non (upd H l (.lst (xs ++ zs)))
theorem list_extend_tupG (l : Addr) (items : Array Value) (n : Nat) (b : Addr) (items2 : Array Value) (hs0 : ¬(!items.isEmpty && Builtin.List.listTooLong (items.size + items2.size)) = true) (hs1 : items.size ≤ sizeLine) (hs2 : items.size + items2.size ≤ sizeLine + 1) :
    Meets (Builtin.«list.extend» ⟨[.ref l, .ref b], []⟩) (fun _ R s => s.heap.get? l = some { cls := .type "list", dict := none, data := .seq items n, slots := #[] } ∧ IsTup s.heap b items2 ∧ R (.ok (.ret Value.none)) { s with heap := s.heap.update l (Obj.mapSeq fun x => x ++ items2), toks := s.toks }) :=
  .of_wp fun prog w A R s h => by
    obtain ⟨hp, g, d, tk, os⟩ := s
    obtain ⟨hl, ⟨o, hb, hc, n2, hd⟩, h⟩ := h
    obtain ⟨oc, od, odt, osl⟩ := o
    cases hc
    cases hd
    have f1 := AutoSeq1.idx_int; have f2 := AutoSeq1.sub_tuple_tuple; have f3 := AutoSeq1.sub_list_list; have f4 := AutoSeq1.sub_tuple_list; have f5 := AutoSeq1.sub_list_tuple
    have hz' : (items ++ items2).size ≤ sizeLine + 1 := by rw [Array.size_append]; exact hs2
    wp_walk using (wpAny_updateSeq hl rfl (hz := hs1) (_hz' := hz')), AutoSeq1.wpAny_loadPart' hl, AutoSeq1.wpAny_loadPart' hb; exact ⟨_, rfl, h⟩
section
variable {X : Cx}
theorem md_extT : MtR X "list.extend" (rExtT X.K) := by
  intro pins s σ H x vs v us Q I rx rv h
  obtain ⟨l, b, xs, zs, rfl, rfl, hH, hB, hz, q⟩ := h
  cases rx
  obtain ⟨u, rfl, ru⟩ := rv.one
  cases ru
  obtain ⟨z, its, n, r, hl, e⟩ := I.lstM hH
  obtain ⟨its2, r2, hl2, z2⟩ := I.tuple hB
  have l1 := r.length
  have l2 := r2.length
  have sl := sizeLine_eq
  have hsz : its.toArray.size + its2.toArray.size ≤ sizeLine := by rw [List.size_toArray, List.size_toArray]; omega
  have hlong : ¬ (!its.toArray.isEmpty && Builtin.List.listTooLong (its.toArray.size + its2.toArray.size)) = true := by
    rw [notLongL hsz, Bool.and_false]
    exact Bool.false_ne_true
  refine call_meets PySem.F.slot_list_extend ⟨_, e, rfl⟩ PySem.F.entry_list_extend (PySem.F.args_list_extend_2 _ _)
    (list_extend_tupG l its.toArray n b its2.toArray hlong (by rw [List.size_toArray]; omega) (by omega)) ⟨e, hl2, ?_⟩
  refine ⟨.non, _, I.lset (its' := its ++ its2) hH e (by simp) (r.append r2) ?_, rfl, q⟩
  rw [List.length_append]
  omega
theorem md_indexL : MtR X "list.index" (rIndex X.K) := mt_index
end
/-! ## a < b < c < d -/
def tChain3 (r r' r'' : R2) (ta tb tc td : TE) : TE := fun σ H Q => ta σ H fun x H1 => tb σ H1 fun y H2 => r x y H2 fun z H3 => ∃ k, z = .bl k ∧ (if k = true then tc σ H3 fun w' H4 => r' y w' H4 fun z2 H5 => ∃ k2, z2 = .bl k2 ∧ (if k2 = true then td σ H5 fun u H6 => r'' w' u H6 Q else Q (.bl false) H5) else Q (.bl false) H3)
section
variable {X : Cx} {a b c d : Expr} {ta tb tc td : TE} {pos : Pos}
theorem pt_chain3 {op op' op'' : CmpOp} {r r' r'' : R2} (ho : OpR X (compareOp op) r) (ho' : OpR X (compareOp op') r') (ho'' : OpR X (compareOp op'') r'') (ha : PE X a ta) (hb : PE X b tb) (hc : PE X c tc) (hd : PE X d td)
    (hm : lastMarks [op, op', op''] [b, c, d] = false := by with_unfolding_all rfl) : PT X (.Compare a [op, op', op''] [b, c, d] pos) (tTest (tChain3 r r' r'' ta tb tc td)) := by
  refine ⟨fun pins s σ H Q I h => ?_⟩
  refine isTrue_chain (thn (ha.run pins s σ H _ I h) fun v s1 ⟨x, H1, I1, r1, q1⟩ => test_link (thn (hb.run pins s1 σ H1 _ I1 q1) fun u s2 ⟨y, H2, I2, r2, q2⟩ =>
    thn (ho pins s2 σ H2 x y v u _ I2 r1 r2 q2) fun d s3 ⟨z, H3, I3, r3, k, e, q3⟩ => ?_)) hm
  subst e
  cases r3
  refine wpAny_truthy_bool ?_
  cases k with
  | false =>
    obtain ⟨k', e', q'⟩ := q3
    cases e'
    exact ite_ff ⟨H3, I3, q'⟩
  | true =>
    refine ite_tt (test_link (thn (hc.run pins s3 σ H3 _ I3 q3) fun w' s4 ⟨z', H4, I4, r4, q4⟩ => thn (ho' pins s4 σ H4 y z' u w' _ I4 r2 r4 q4) fun d' s5 ⟨z2, H5, I5, r5, k2, e2, q5⟩ => ?_))
    subst e2
    cases r5
    refine wpAny_truthy_bool ?_
    cases k2 with
    | false =>
      obtain ⟨k', e', q'⟩ := q5
      cases e'
      exact ite_ff ⟨H5, I5, q'⟩
    | true =>
      refine ite_tt (test_last (thn (hd.run pins s5 σ H5 _ I5 q5) fun w2 s6 ⟨z6, H6, I6, r6, q6⟩ => thn (ho'' pins s6 σ H6 z' z6 w' w2 _ I6 r4 r6 q6) fun d2 s7 ⟨z7, H7, I7, r7, k3, e3, q7⟩ => ?_))
      subst e3
      cases r7
      exact wpAny_truthy_bool ⟨H7, I7, q7⟩
end
end Sw

set_option Elab.async false
set_option linter.all false
set_option maxRecDepth 100000
set_option maxHeartbeats 4000000
namespace Sw
open PySem PySem.Spec PyProof.Rows L2
/-! ## try: .. except A: .. except B: .., nothing passed on -/
def wNo : WX := fun _ _ _ _ => False
theorem takes_no {X : Cx} : L2.Takes X wNo := fun _ _ ⟨_, _, _, _, _, _, _, _, _, _, _, _, _, _, _, _, w⟩ => w.elim
def tTryM (K : PySem.W.Frag) (l : List (Value × (Addr → Value → Option Addr → TS))) (tb : WX → TS) : TS := fun D σ H => tb (wMany K wNo D l) D σ H
/-! ## int(b) -/
def kInt1 : List V → Hp → VK → Prop := fun xs H Q => (∃ i, xs = [.int i] ∧ Q (.int i) H) ∨ ∃ k, xs = [.bl k] ∧ Q (.int (if k then 1 else 0)) H
theorem cl_int1 {X : Cx} : CallR X (.type "int") kInt1 := call_int1
end Sw

set_option Elab.async false
set_option linter.all false
set_option maxRecDepth 100000
set_option maxHeartbeats 4000000
namespace Sw
open PySem PySem.Spec PyProof.Rows L2
/-! ## sum(lists, []) -/
section
variable {prog : Program} {w : World} {A : Around} {R : Result → Shared → Prop} {E : Value → Shared → Prop}
def catFrom (its : Nat → Array Value) : Nat → Nat → Array Value → Array Value
  | _, 0, acc => acc
  | i, k + 1, acc => catFrom its (i + 1) k (acc ++ its i)
theorem catFrom_size (its : Nat → Array Value) : ∀ (k i : Nat) (acc : Array Value), acc.size ≤ (catFrom its i k acc).size
  | 0, _, _ => Nat.le_refl _
  | k + 1, i, acc => by
    have := catFrom_size its k (i + 1) (acc ++ its i)
    rw [Array.size_append] at this
    show acc.size ≤ (catFrom its (i + 1) k (acc ++ its i)).size
    omega
theorem codeAny_sum_cat {I ax : Addr} {items : Array Value} (hh : A.in1.handled = none) (hne : ax ≠ I) (hv : Nat → Addr) (its : Nat → Array Value) (hi : ∀ i v, items[i]? = some v → v = Value.ref (hv i)) (S : Addr) (hSI : S ≠ I) (hSa : S ≠ ax) :
    ∀ (k i : Nat) (s : Shared) (p : Addr) (acc : Array Value) (m c : Nat), items.size - i = k → i ≤ items.size → (s.heap.IsListIter I ax i ∧ s.heap.IsList ax items) →
      s.heap.get? S = some { cls := .type "list", dict := none, data := .seq #[.ref p] c, slots := #[] } → IsL s.heap p acc m → p ≠ I → p ≠ S →
      (∀ j, i ≤ j → j < items.size → ∃ m, IsL s.heap (hv j) (its j) m ∧ hv j ≠ I ∧ hv j ≠ S) → (catFrom its i k acc).size ≤ sizeLine →
      (∀ h' tk p' m', (∀ b o, b ≠ I → b ≠ S → s.heap.get? b = some o → h'.get? b = some o) → IsL h' p' (catFrom its i k acc) m' → ((k = 0 ∧ p' = p) ∨ I < p') → R (.ok (.ret (.ref p'))) { s with heap := h', toks := tk }) →
      codeAny (model prog w) A (.builtin "sum.loop" ⟨[.ref I, .ref S, rawInt 2, rawInt 0], []⟩) R s := by
  have W := Walks.list (prog := prog) (w := w) (A := A.in1) hh I ax hne items
  have hSw : S ∉ [I] := by simp [hSI]
  intro k
  induction k with
  | zero =>
    intro i s p acc m c hk hi' hst hS hp hpI hpS hits hsz hR
    have hin : i = items.size := by omega
    subst hin
    refine codeAny_builtin F.entry_sum_loop ?_
    rw [Around.under_plainId F.plain_sum_loop _]
    show wpAny _ A.in1 (seqItems? (.ref S) >>= _) _ _ s
    refine wpAny_bind (wpAny_seqItems hS rfl ?_)
    show wpAny _ A.in1 (tryCatch (pyNext (.ref I)) _ >>= _) _ _ s
    refine wpAny_bind (wpAny_tryCatch (W.done s _ _ hst fun h' tk hk' => ?_))
    exact wpAny_pure (hR h' tk p m (fun b o h1 _ e => hk' b o (by simpa using h1) e) (hk' p _ (by simpa using hpI) hp) (.inl ⟨rfl, rfl⟩))
  | succ k ih =>
    intro i s p acc m c hk hi' hst hS hp hpI hpS hits hsz hR
    have hlt : i < items.size := by omega
    refine codeAny_builtin F.entry_sum_loop ?_
    rw [Around.under_plainId F.plain_sum_loop _]
    show wpAny _ A.in1 (seqItems? (.ref S) >>= _) _ _ s
    refine wpAny_bind (wpAny_seqItems hS rfl ?_)
    show wpAny _ A.in1 (tryCatch (pyNext (.ref I)) _ >>= _) _ _ s
    refine wpAny_bind (wpAny_tryCatch (W.item i s _ _ hlt hst fun v h' tk hP hst' hk' => ?_))
    obtain rfl := hi i v hP
    have hS' := hk' S _ hSw hS
    have hp' := hk' p _ (by simpa using hpI) hp
    obtain ⟨mj, hj, hjI, hjS⟩ := hits i (Nat.le_refl _) hlt
    have hj' := hk' (hv i) _ (by simpa using hjI) hj
    have big := catFrom_size its k (i + 1) (acc ++ its i)
    have big2 : (catFrom its (i + 1) k (acc ++ its i)).size ≤ sizeLine := hsz
    rw [Array.size_append] at big
    have fits : acc.size + (its i).size ≤ sizeLine := Nat.le_trans big big2
    show wpAny _ A.in1 ((holding [Value.ref (hv i)] (binaryOp .Add (.ref p) (.ref (hv i)))).attempt >>= _) _ _ _
    refine wpAny_bind (wpAny_attempt (wpAny_holding (PySem.P.add_list hp' hj' ?_ fits)))
    show wpAny _ A.in1 (updateSeq S (fun _ => #[.ref h'.objs.size]) >>= _) _ _ _
    have hSp := Heap.get?_push_of_some { cls := .type "list", data := .seq (acc ++ its i) } hS'
    have hnew : IsL (h'.push { cls := .type "list", data := .seq (acc ++ its i) }) h'.objs.size (acc ++ its i) 0 := Heap.get?_push_size _ rfl
    refine wpAny_bind ?_
    refine wpAny_updateSeq hSp rfl ?_
    have hS2 := Heap.get?_update_self (Obj.mapSeq fun _ => #[Value.ref h'.objs.size]) hSp rfl
    refine wpAny_bind (wpAny_letGo ?_)
    refine wpAny_bind ?_
    have hSlt : S < h'.objs.size := Heap.lt_size hS'
    have hIlt : I < h'.objs.size := by
      obtain ⟨⟨_, e, _⟩, _⟩ := hst'
      exact Heap.lt_size e
    have keep : ∀ b o, b ≠ S → h'.get? b = some o → (((h'.push { cls := .type "list", data := .seq (acc ++ its i) }).update S (Obj.mapSeq fun _ => #[Value.ref h'.objs.size])).update S (Obj.mapSeq fun _ => #[Value.ref h'.objs.size])).get? b = some o := fun b o hb e =>
      (Heap.get?_update_other _ _ (Ne.symm hb)).trans ((Heap.get?_update_other _ _ (Ne.symm hb)).trans (Heap.get?_push_of_some _ e))
    refine wpAny_updateSeq hS2 rfl (wpAny_pure ⟨plainId_quiet F.plain_sum_loop _, ih (i + 1) _ h'.objs.size (acc ++ its i) 0 _ (by omega) hlt (W.frame _ h' _ hst' fun b hb o e => keep b o ?_ e) (Heap.get?_update_self _ hS2 rfl) ?_ (Nat.ne_of_gt hIlt) (Nat.ne_of_gt hSlt) (fun j h1 h2 => ?_) big2 fun h'' tk'' p'' m'' hk'' hl'' hn'' => ?_⟩)
    · rcases List.mem_cons.mp hb with rfl | hb
      · exact fun z => hSI z.symm
      · rw [List.mem_singleton.mp hb]
        exact fun z => hSa z.symm
    · exact (Heap.get?_update_other _ _ (Nat.ne_of_lt hSlt)).trans ((Heap.get?_update_other _ _ (Nat.ne_of_lt hSlt)).trans hnew)
    · obtain ⟨m2, e2, n1, n2⟩ := hits j (by omega) h2
      exact ⟨m2, keep _ _ n2 (hk' _ _ (by simpa using n1) e2), n1, n2⟩
    · refine hR h'' tk'' p'' m'' (fun b o h1 h2 e => hk'' b o h1 h2 (keep b o h2 (hk' b o (by simpa using h1) e))) hl'' (.inr ?_)
      rcases hn'' with ⟨_, rfl⟩ | h
      · exact hIlt
      · exact h
theorem sub_ls : isSubtype (.type "list") (.type "str") = pure false := by rw [isSubtype_type]; kernel_rfl
theorem sub_lb : isSubtype (.type "list") (.type "bytes") = pure false := by rw [isSubtype_type]; kernel_rfl
theorem sub_la : isSubtype (.type "list") (.type "bytearray") = pure false := by rw [isSubtype_type]; kernel_rfl
theorem call_sum_cat {s : Shared} {l st : Addr} {items : Array Value} {Q : Value → Shared → Prop} {m : Nat} (hh : A.handled = none) (hl : s.heap.IsList l items) (hv : Nat → Addr) (its : Nat → Array Value) (hi : ∀ i v, items[i]? = some v → v = Value.ref (hv i))
    (hs : IsL s.heap st #[] m) (hits : ∀ j, j < items.size → ∃ m, IsL s.heap (hv j) (its j) m) (hsz : (catFrom its 0 items.size #[]).size ≤ sizeLine)
    (h : ∀ h' tk p' m', (∀ b o, s.heap.get? b = some o → h'.get? b = some o) → IsL h' p' (catFrom its 0 items.size #[]) m' → ((items.size = 0 ∧ p' = st) ∨ s.heap.objs.size ≤ p') → Q (.ref p') { s with heap := h', toks := tk }) :
    wpAny (model prog w) A (call (.builtin "sum") [.ref l, .ref st]) Q E s := by
  refine call_function_tree F.kind_sum F.plain_sum F.entry_sum (by unfold argsOk; kernel_rfl) ?_
  unfold Builtin.«sum»
  simp only [List.length_cons, List.length_nil]
  rw [if_neg (by decide)]
  refine wpAny_bind (wpAny_of_eq (show Builtin.Builtins.bindParams "sum" ["start"] 0 ⟨[.ref st], []⟩ = pure [some (.ref st)] from rfl) ?_)
  refine wpAny_bind (wpAny_pyIter_list hl ?_)
  refine wpAny_bind (wpAny_pure ?_)
  have hlt : l < s.heap.objs.size := by obtain ⟨_, e, _⟩ := hl; exact Heap.lt_size e
  have hst1 := Heap.get?_push_of_some { cls := .type "list_iterator", data := .fields #[.ref l, .int 0 0] } hs
  simp only [List.forIn_cons, List.forIn_nil]
  refine wpAny_bind (wpAny_bind (wpAny_bind (wpAny_isInstance (T := "list") (b := false) ⟨_, hst1, rfl⟩ sub_ls ?_)))
  simp only [Bool.false_eq_true, if_false]
  refine wpAny_pure (wpAny_bind (wpAny_bind (wpAny_isInstance (T := "list") (b := false) ⟨_, hst1, rfl⟩ sub_lb ?_)))
  simp only [Bool.false_eq_true, if_false]
  refine wpAny_pure (wpAny_bind (wpAny_bind (wpAny_isInstance (T := "list") (b := false) ⟨_, hst1, rfl⟩ sub_la ?_)))
  simp only [Bool.false_eq_true, if_false]
  refine wpAny_pure (wpAny_pure ?_)
  refine wpAny_bind (wpAny_newObj_type ?_)
  have sz : (s.heap.push { cls := .type "list_iterator", data := .fields #[.ref l, .int 0 0] }).objs.size = s.heap.objs.size + 1 := Heap.size_push ..
  have old : ∀ (o : Obj) {b : Addr} {u : Obj}, s.heap.get? b = some u → ((s.heap.push { cls := .type "list_iterator", data := .fields #[.ref l, .int 0 0] }).push o).get? b = some u := fun o b u e => Heap.get?_push_of_some _ (Heap.get?_push_of_some _ e)
  refine wpAny_pure ⟨plainId_quiet F.plain_sum_loop _, codeAny_sum_cat (A := A) hh (Nat.ne_of_lt hlt) hv its hi _ ?_ ?_ items.size 0 _ st #[] m 0 rfl (Nat.zero_le _) ⟨⟨_, Heap.get?_push_of_some _ (Heap.get?_push_size _ rfl), rfl, rfl⟩, ?_⟩ (Heap.get?_push_size _ rfl) (old _ hs) ?_ ?_ (fun j _ hj => ?_) hsz fun h' tk p' m' hk hl' hn => ?_⟩
  · show (s.heap.push _).objs.size ≠ s.heap.objs.size
    rw [sz]
    exact Nat.succ_ne_self _
  · show (s.heap.push _).objs.size ≠ l
    rw [sz]
    exact Nat.ne_of_gt (Nat.lt_succ_of_lt hlt)
  · exact (hl.push _).push _
  · exact Nat.ne_of_lt (Heap.lt_size hs)
  · rw [sz]
    exact Nat.ne_of_lt (Nat.lt_succ_of_lt (Heap.lt_size hs))
  · obtain ⟨m2, e⟩ := hits j hj
    exact ⟨m2, old _ e, Nat.ne_of_lt (Heap.lt_size e), by rw [sz]; exact Nat.ne_of_lt (Nat.lt_succ_of_lt (Heap.lt_size e))⟩
  · refine h h' tk p' m' (fun b o e => hk b o (Nat.ne_of_lt (Heap.lt_size e)) (by rw [sz]; exact Nat.ne_of_lt (Nat.lt_succ_of_lt (Heap.lt_size e))) (old _ e)) hl' ?_
    rcases hn with h1 | h1
    · exact .inl h1
    · exact .inr (Nat.le_of_lt h1)
end
theorem vals_rfs : ∀ {ls : List Addr} {its : List Value}, Vals (Rfs ls) its → its = ls.map Value.ref
  | [], _, h => by
    cases h
    rfl
  | a :: ls, _, h => by
    cases h with
    | cons r rs =>
      cases r
      rw [vals_rfs rs] <;> rfl
theorem cat_vals {vsOf : Nat → List Value} {yss : List (List V)} (hv : ∀ j ys, yss[j]? = some ys → Vals ys (vsOf j)) : ∀ (k i : Nat) (acc : List Value) (done : List V), i + k = yss.length → Vals done acc →
    ∃ w : List Value, catFrom (fun j => (vsOf j).toArray) i k acc.toArray = w.toArray ∧ Vals (done ++ (yss.drop i).flatten) w
  | 0, i, acc, done, e, h => ⟨acc, rfl, by rw [List.drop_eq_nil_of_le (by omega), List.flatten_nil, List.append_nil]; exact h⟩
  | k + 1, i, acc, done, e, h => by
    have hi : i < yss.length := by omega
    obtain ⟨w, e1, e2⟩ := cat_vals hv k (i + 1) (acc ++ vsOf i) (done ++ yss[i]) (by omega) (h.append (hv i yss[i] (List.getElem?_eq_getElem hi)))
    refine ⟨w, ?_, ?_⟩
    · rw [← e1]
      show catFrom _ (i + 1) k (acc.toArray ++ (vsOf i).toArray) = _
      rw [show acc.toArray ++ (vsOf i).toArray = (acc ++ vsOf i).toArray by simp]
    · rw [List.drop_eq_getElem_cons hi, List.flatten_cons, ← List.append_assoc]
      exact e2
/-- sum(lists, []): a new list of all, or the list handed in where there is none -/
def rSumL (K : PySem.W.Frag) : List V → Hp → VK → Prop := fun vs H Q => ∃ (l st : Addr) (ls : List Addr) (yss : List (List V)), vs = [.ref l, .ref st] ∧ SqL K H l (Rfs ls) ∧ H st = some (.lst []) ∧ All2 (fun a ys => H a = some (.lst ys)) ls yss ∧
  yss.flatten.length ≤ sizeLine ∧ ∀ H' p, Same H H' → H' p = some (.lst yss.flatten) → (H p = none ∨ (yss = [] ∧ p = st)) → Q (.ref p) H'
theorem cr_sumL {X : Cx} (hc : X.calm = true) : CallR X (.builtin "sum") (rSumL X.K) := by
  intro pins s σ H xs us Q I r h
  obtain ⟨l, st, ls, yss, rfl, hl, hs, hys, hsz, q⟩ := h
  obtain ⟨its0, rv, hL, _⟩ := I.list hl
  have e0 := vals_rfs rv
  subst e0
  obtain rfl : us = [Value.ref l, Value.ref st] := by
    cases r with
    | cons r1 rs =>
      cases rs with
      | cons r2 rs =>
        cases rs
        cases r1
        cases r2
        rfl
  obtain ⟨_, e0, n0, r0, _, hst⟩ := I.lstM hs
  cases r0
  have ll := hys.length
  have hval : ∀ j, ∃ a : List Value, ∀ ys, yss[j]? = some ys → Vals ys a ∧ ∃ m, IsL s.heap (ls.getD j 0) a.toArray m := fun j => by
    by_cases hj : j < yss.length
    · have gy := List.getElem?_eq_getElem hj
      obtain ⟨a, ga⟩ := get_of (xs := ls) (i := j) (by omega)
      obtain ⟨ys, gy2, ha⟩ := hys.getL ga
      obtain ⟨_, its, n, rr, _, e⟩ := I.lstM ha
      refine ⟨its, fun ys' gy' => ?_⟩
      rw [gy2] at gy'
      cases gy'
      have ea : ls.getD j 0 = a := by rw [List.getD_eq_getElem?_getD, ga] <;> rfl
      rw [ea]
      exact ⟨rr, n, e⟩
    · exact ⟨[], fun ys gy => absurd (List.getElem?_eq_some_iff.mp gy).1 hj⟩
  have hv : ∀ j ys, yss[j]? = some ys → Vals ys (Classical.choose (hval j)) := fun j ys g => (Classical.choose_spec (hval j) ys g).1
  obtain ⟨w, ew, vw⟩ := cat_vals hv yss.length 0 [] [] (Nat.zero_add _) .nil
  rw [List.drop_zero, List.nil_append] at vw
  have lw := vw.length
  have sz : (ls.map Value.ref).toArray.size = yss.length := by rw [List.size_toArray, List.length_map, ll]
  refine call_sum_cat (m := n0) (I.ok.hd hc) hL.isList (fun j => ls.getD j 0) (fun j => (Classical.choose (hval j)).toArray) (fun i v g => ?_) hst (fun j hj => ?_) ?_ fun h' tk p' m' hk hl' hn => ?_
  · rw [List.getElem?_toArray, List.getElem?_map] at g
    cases g2 : ls[i]? with
    | none =>
      rw [g2] at g
      exact nomatch g
    | some a =>
      rw [g2] at g
      rw [List.getD_eq_getElem?_getD, g2]
      exact (Option.some.inj g).symm
  · rw [sz] at hj
    exact (Classical.choose_spec (hval j) _ (List.getElem?_eq_getElem hj)).2
  · rw [sz, show (#[] : Array Value) = ([] : List Value).toArray from rfl, ew, List.size_toArray]
    omega
  · rw [sz, show (#[] : Array Value) = ([] : List Value).toArray from rfl, ew] at hl'
    rcases hn with ⟨n1, rfl⟩ | big
    · rw [sz] at n1
      have en : yss = [] := List.eq_nil_of_length_eq_zero n1
      refine ⟨.ref p', H, I.kept hk, rfl, q H p' (.refl H) (by rw [en]; exact hs) (.inr ⟨en, rfl⟩)⟩
    · have nf : H p' = none := I.hok.fresh big
      exact ⟨.ref p', upd H p' (.lst yss.flatten), I.laid hk big ⟨hsz, w, m', vw, hl'⟩, rfl, q _ p' (same_new nf) upd_same (.inl nf)⟩
end Sw

set_option Elab.async false
set_option linter.all false
set_option maxRecDepth 100000
set_option maxHeartbeats 4000000
namespace Sw
open PySem PySem.Spec PyProof.Rows L2
abbrev oBOr : R2 := rI0 fun i j => .int (Builtin.bitOr i j)
abbrev oBXor : R2 := rI0 fun i j => .int (Builtin.bitXor i j)
abbrev oShlW : R2 := rI CShl fun i j => .int (i * 2 ^ j.toNat)
abbrev oInv : V → Hp → VK → Prop := rU fun i => .int (Builtin.bitNot i)
/-! ## All rows of noughts and ones at once: a bit for each -/
def maskN {α : Type} (f : α → Bool) : List α → Nat
  | [] => 0
  | x :: l => (f x).toNat + 2 * maskN f l
section
variable {α β : Type}
theorem tb_cons (b : Bool) (m i : Nat) : (b.toNat + 2 * m).testBit i = match i with | 0 => b | i + 1 => m.testBit i := by
  cases i with
  | zero =>
    rw [Nat.testBit_zero]
    cases b
    · show decide ((0 + 2 * m) % 2 = 1) = false
      rw [decide_eq_false (by omega)]
    · show decide ((1 + 2 * m) % 2 = 1) = true
      rw [decide_eq_true (by omega)]
  | succ i =>
    rw [Nat.testBit_succ]
    have : (b.toNat + 2 * m) / 2 = m := by cases b <;> simp <;> omega
    rw [this]
theorem cons_and (a b : Bool) (m k : Nat) : (a.toNat + 2 * m) &&& (b.toNat + 2 * k) = (a && b).toNat + 2 * (m &&& k) := by
  apply Nat.eq_of_testBit_eq
  intro i
  rw [Nat.testBit_and, tb_cons, tb_cons, tb_cons]
  cases i with
  | zero => rfl
  | succ i =>
    show (m.testBit i && k.testBit i) = (m &&& k).testBit i
    rw [Nat.testBit_and]
theorem mask_and (f g : α → Bool) : ∀ l : List α, maskN f l &&& maskN g l = maskN (fun x => f x && g x) l
  | [] => by
    show 0 &&& 0 = 0
    decide
  | x :: l => by
    show ((f x).toNat + 2 * maskN f l) &&& ((g x).toNat + 2 * maskN g l) = _
    rw [cons_and, mask_and f g l] <;> rfl
theorem mask_split (f g : α → Bool) : ∀ l : List α, maskN f l = maskN (fun x => f x && g x) l + maskN (fun x => f x && !g x) l
  | [] => rfl
  | x :: l => by
    show (f x).toNat + 2 * maskN f l = ((f x && g x).toNat + 2 * _) + ((f x && !g x).toNat + 2 * _)
    have e : (f x).toNat = (f x && g x).toNat + (f x && !g x).toNat := by cases f x <;> cases g x <;> rfl
    have := mask_split f g l
    omega
theorem mask_or' (f g : α → Bool) : ∀ l : List α, maskN (fun x => f x || g x) l + maskN (fun x => f x && g x) l = maskN f l + maskN g l
  | [] => rfl
  | x :: l => by
    show ((f x || g x).toNat + 2 * _) + ((f x && g x).toNat + 2 * _) = ((f x).toNat + 2 * _) + ((g x).toNat + 2 * _)
    have e : (f x || g x).toNat + (f x && g x).toNat = (f x).toNat + (g x).toNat := by cases f x <;> cases g x <;> rfl
    have := mask_or' f g l
    omega
theorem mask_xor' (f g : α → Bool) : ∀ l : List α, maskN (fun x => f x != g x) l + 2 * maskN (fun x => f x && g x) l = maskN f l + maskN g l
  | [] => rfl
  | x :: l => by
    show ((f x != g x).toNat + 2 * _) + 2 * ((f x && g x).toNat + 2 * _) = ((f x).toNat + 2 * _) + ((g x).toNat + 2 * _)
    have e : (f x != g x).toNat + 2 * (f x && g x).toNat = (f x).toNat + (g x).toNat := by cases f x <;> cases g x <;> rfl
    have := mask_xor' f g l
    omega
theorem i_and (f g : α → Bool) (l : List α) : Builtin.bitAnd (maskN f l : Int) (maskN g l : Int) = (maskN (fun x => f x && g x) l : Nat) := by
  rw [bitAnd_pp (Int.natCast_nonneg _) (Int.natCast_nonneg _), Int.toNat_natCast, Int.toNat_natCast, mask_and]
theorem i_or (f g : α → Bool) (l : List α) : Builtin.bitOr (maskN f l : Int) (maskN g l : Int) = (maskN (fun x => f x || g x) l : Nat) := by
  rw [bitOr_and, i_and]
  have := mask_or' f g l
  omega
theorem i_xor (f g : α → Bool) (l : List α) : Builtin.bitXor (maskN f l : Int) (maskN g l : Int) = (maskN (fun x => f x != g x) l : Nat) := by
  rw [bitXor_and, i_and]
  have := mask_xor' f g l
  omega
theorem i_andnot (f g : α → Bool) (l : List α) : Builtin.bitAnd (maskN f l : Int) (Builtin.bitNot (maskN g l : Int)) = (maskN (fun x => f x && !g x) l : Nat) := by
  rw [bitAnd_not, i_and]
  have := mask_split f g l
  omega
theorem mask_zero {f : α → Bool} : ∀ {l : List α}, maskN f l = 0 ↔ ∀ x ∈ l, f x = false
  | [] => ⟨fun _ _ h => (nomatch h), fun _ => rfl⟩
  | x :: l => by
    have ih := mask_zero (f := f) (l := l)
    constructor
    · intro h
      have h' : (f x).toNat + 2 * maskN f l = 0 := h
      have h1 : (f x).toNat = 0 := by omega
      have h2 : maskN f l = 0 := by omega
      intro y hy
      cases hy with
      | head => cases e : f x with
        | false => rfl
        | true => rw [e] at h1; cases h1
      | tail _ hy => exact ih.mp h2 y hy
    · intro h
      show (f x).toNat + 2 * maskN f l = 0
      rw [h x (.head _), ih.mpr fun y hy => h y (.tail _ hy)] <;> rfl
theorem mask_congr {f g : α → Bool} : ∀ {l : List α}, (∀ x ∈ l, f x = g x) → maskN f l = maskN g l
  | [], _ => rfl
  | x :: l, h => by
    show (f x).toNat + 2 * maskN f l = (g x).toNat + 2 * maskN g l
    rw [h x (.head _), mask_congr fun y hy => h y (.tail _ hy)]
theorem mask_app (f : α → Bool) : ∀ l m : List α, maskN f (l ++ m) = maskN f l + 2 ^ l.length * maskN f m
  | [], m => by
    show maskN f m = 0 + 2 ^ 0 * maskN f m
    omega
  | x :: l, m => by
    show (f x).toNat + 2 * maskN f (l ++ m) = (f x).toNat + 2 * maskN f l + 2 ^ (l.length + 1) * maskN f m
    rw [mask_app f l m, Nat.pow_succ, Nat.mul_add, Nat.mul_comm (2 ^ l.length) 2, Nat.mul_assoc]
    omega
theorem mask_map (f : β → Bool) (g : α → β) : ∀ l : List α, maskN f (l.map g) = maskN (fun x => f (g x)) l
  | [] => rfl
  | x :: l => by
    show (f (g x)).toNat + 2 * maskN f (l.map g) = _
    rw [mask_map f g l] <;> rfl
theorem mask_lt (f : α → Bool) : ∀ l : List α, maskN f l < 2 ^ l.length
  | [] => by
    show 0 < 2 ^ 0
    decide
  | x :: l => by
    show (f x).toNat + 2 * maskN f l < 2 ^ (l.length + 1)
    have := mask_lt f l
    have : (f x).toNat ≤ 1 := by cases f x <;> decide
    rw [Nat.pow_succ]
    omega
theorem mask_ones (k : Nat) : ∀ n : Nat, maskN (fun _ : Nat => true) (List.replicate n k) = 2 ^ n - 1
  | 0 => rfl
  | n + 1 => by
    show 1 + 2 * maskN _ (List.replicate n k) = _
    rw [mask_ones k n, Nat.pow_succ]
    have := Nat.two_pow_pos n
    omega
theorem mask_true : ∀ l : List α, maskN (fun _ => true) l = 2 ^ l.length - 1
  | [] => rfl
  | x :: l => by
    show 1 + 2 * maskN _ l = 2 ^ (l.length + 1) - 1
    rw [mask_true l, Nat.pow_succ]
    have := Nat.two_pow_pos l.length
    omega
/-- the first one -/
theorem mask_first (f : α → Bool) : ∀ l : List α, maskN f l ≠ 0 → ∃ (t : Nat) (x : α), l[t]? = some x ∧ l.find? f = some x ∧ maskN f l - (maskN f l &&& (maskN f l - 1)) = 2 ^ t
  | [], h => absurd rfl h
  | x :: l, h => by
    cases e : f x with
    | true =>
      refine ⟨0, x, rfl, by rw [List.find?_cons_of_pos (h := e)], ?_⟩
      have em : maskN f (x :: l) = true.toNat + 2 * maskN f l := by
        show (f x).toNat + _ = _
        rw [e]
      have em1 : maskN f (x :: l) - 1 = false.toNat + 2 * maskN f l := by
        rw [em]
        show 1 + 2 * maskN f l - 1 = 0 + 2 * maskN f l
        omega
      rw [em1, em, cons_and]
      show 1 + 2 * maskN f l - (0 + 2 * (maskN f l &&& maskN f l)) = 1
      rw [Nat.and_self]
      omega
    | false =>
      have em : maskN f (x :: l) = false.toNat + 2 * maskN f l := by
        show (f x).toNat + _ = _
        rw [e]
      have h2 : maskN f l ≠ 0 := fun z => h (by rw [em, z] <;> rfl)
      obtain ⟨t, y, h3, h4, h5⟩ := mask_first f l h2
      refine ⟨t + 1, y, h3, by rw [List.find?_cons_of_neg (h := by rw [e]; decide), h4], ?_⟩
      have em1 : maskN f (x :: l) - 1 = true.toNat + 2 * (maskN f l - 1) := by
        rw [em]
        show 0 + 2 * maskN f l - 1 = 1 + 2 * (maskN f l - 1)
        omega
      rw [em1, em, cons_and, Nat.pow_succ, ← h5]
      show 0 + 2 * maskN f l - (0 + 2 * (maskN f l &&& (maskN f l - 1))) = _
      omega
end
theorem low_bit {α : Type} {f : α → Bool} {l : List α} (h : maskN f l ≠ 0) : ∃ (t : Nat) (x : α), l[t]? = some x ∧ l.find? f = some x ∧ Builtin.bitAnd (maskN f l : Int) (-(maskN f l : Int)) = ((2 ^ t : Nat) : Int) := by
  obtain ⟨t, x, h1, h2, h3⟩ := mask_first f l h
  refine ⟨t, x, h1, h2, ?_⟩
  have e : -(maskN f l : Int) = Builtin.bitNot ((maskN f l - 1 : Nat) : Int) := by
    show _ = -((maskN f l - 1 : Nat) : Int) - 1
    omega
  rw [e, bitAnd_not, bitAnd_pp (Int.natCast_nonneg _) (Int.natCast_nonneg _), Int.toNat_natCast, Int.toNat_natCast, ← h3]
  have : maskN f l &&& (maskN f l - 1) ≤ maskN f l := Nat.and_le_left
  omega
theorem bits_pow (t : Nat) : Builtin.Int.intBits ((2 ^ t : Nat) : Int) = t + 1 := by
  have h0 : ((2 ^ t : Nat) : Int) ≠ 0 := by
    have := Nat.two_pow_pos t
    omega
  unfold Builtin.Int.intBits
  rw [if_neg (by simpa using h0), Int.natAbs_natCast, Nat.log2_two_pow]
/-! ## Rows of noughts and ones through a web -/
theorem bits_goC {r : Row} {c : Cmp} (h : Bits r) : Bits (goC r c) := by
  unfold goC
  split
  · intro x hx
    have z : ∀ k, at0 r k = 0 ∨ at0 r k = 1 := fun k => by
      by_cases hk : k < r.length
      · have := at0_get hk
        exact h _ (List.mem_of_getElem? this)
      · left
        unfold at0
        rw [List.getD_eq_getElem?_getD, List.getElem?_eq_none (by omega)] <;> rfl
    cases mem_set hx with
    | inl hx => cases mem_set hx with
      | inl hx => exact h x hx
      | inr e => rw [e]; exact z _
    | inr e => rw [e]; exact z _
  · exact h
theorem bits_gone {cs : List Cmp} : ∀ {r : Row}, Bits r → Bits (gone cs r) := by
  induction cs with
  | nil => intro r h; exact h
  | cons c cs ih => intro r h; exact ih (bits_goC h)
theorem bits_at {r : Row} (h : Bits r) (k : Nat) : at0 r k = 0 ∨ at0 r k = 1 := by
  by_cases hk : k < r.length
  · exact h _ (List.mem_of_getElem? (at0_get hk))
  · left
    unfold at0
    rw [List.getD_eq_getElem?_getD, List.getElem?_eq_none (by omega)] <;> rfl
def one0 (r : Row) (k : Nat) : Bool := at0 r k == 1
def colV (n : Nat) (cs : List Cmp) (k : Nat) : Int := (maskN (fun r => one0 (gone cs r) k) (bares n) : Nat)
def cols (n : Nat) (cs : List Cmp) : Row := (List.range n).map (colV n cs)
theorem cols_len (n : Nat) (cs : List Cmp) : (cols n cs).length = n := by
  unfold cols
  rw [List.length_map, List.length_range]
theorem cols_at {n : Nat} {cs : List Cmp} {k : Nat} (h : k < n) : at0 (cols n cs) k = colV n cs k := by
  unfold at0 cols
  rw [List.getD_eq_getElem?_getD, List.getElem?_map, List.getElem?_range h] <;> rfl
/-- whether the row is exchanged at lines a, b behind cs -/
def gtB (cs : List Cmp) (a b : Nat) (r : Row) : Bool := decide (at0 (gone cs r) a > at0 (gone cs r) b)
theorem col_gt {n : Nat} {cs : List Cmp} {a b : Nat} : Builtin.bitAnd (colV n cs a) (Builtin.bitNot (colV n cs b)) = (maskN (gtB cs a b) (bares n) : Nat) := by
  unfold colV
  rw [i_andnot, mask_congr]
  intro r hr
  have hb := bits_gone (cs := cs) (bares_ok hr).2
  unfold gtB one0
  rcases bits_at hb a with h | h <;> rcases bits_at hb b with h2 | h2 <;> rw [h, h2] <;> rfl
theorem col_behind {n : Nat} {cs : List Cmp} {c : Cmp} (ok : CmpOk n c) : ((cols n cs).set c.1 (Builtin.bitAnd (colV n cs c.1) (colV n cs c.2))).set c.2 (Builtin.bitOr (colV n cs c.1) (colV n cs c.2)) = cols n (cs ++ [c]) := by
  have g : ∀ k, colV n (cs ++ [c]) k = (maskN (fun r => one0 (goC (gone cs r) c) k) (bares n) : Nat) := fun k => by
    unfold colV
    rw [mask_congr]
    intro r _
    rw [gone_snoc]
  apply List.ext_getElem
  · rw [List.length_set, List.length_set, cols_len, cols_len]
  · intro k h1 h2
    have hk : k < n := by rw [cols_len] at h2; exact h2
    have e0 : ∀ (ds : List Cmp) (h : k < (cols n ds).length), (cols n ds)[k] = colV n ds k := fun ds h => by
      have := cols_at (cs := ds) hk
      rw [← this]
      unfold at0
      rw [List.getD_eq_getElem?_getD, List.getElem?_eq_getElem h] <;> rfl
    have e2 := e0 _ h2
    have e1 := e0 cs
    rw [e2, List.getElem_set, List.getElem_set, g, e1]
    have val : ∀ r ∈ bares n, at0 (goC (gone cs r) c) k = if c.2 = k then max (at0 (gone cs r) c.1) (at0 (gone cs r) c.2) else if c.1 = k then min (at0 (gone cs r) c.1) (at0 (gone cs r) c.2) else at0 (gone cs r) k := fun r hr => by
      have hl : (gone cs r).length = n := by rw [gone_len, (bares_ok hr).1]
      have a1 := ok.1
      have a2 := ok.2.1
      have a3 := ok.2.2
      unfold goC
      split
      · rename_i gt
        unfold at0
        rw [List.getD_eq_getElem?_getD, List.getElem?_set, List.length_set]
        by_cases z : c.2 = k
        · rw [if_pos z, if_pos z, if_pos (by omega)]
          show (gone cs r).getD c.1 0 = max _ _
          unfold at0 at gt
          omega
        · rw [if_neg z, if_neg z, List.getElem?_set]
          by_cases y : c.1 = k
          · rw [if_pos y, if_pos y, if_pos (by omega)]
            show (gone cs r).getD c.2 0 = min _ _
            unfold at0 at gt
            omega
          · rw [if_neg y, if_neg y] <;> rfl
      · rename_i gt
        by_cases z : c.2 = k
        · rw [if_pos z, ← z]
          omega
        · rw [if_neg z]
          by_cases y : c.1 = k
          · rw [if_pos y, ← y]
            omega
          · rw [if_neg y]
    have bt : ∀ r ∈ bares n, (at0 (gone cs r) c.1 = 0 ∨ at0 (gone cs r) c.1 = 1) ∧ (at0 (gone cs r) c.2 = 0 ∨ at0 (gone cs r) c.2 = 1) := fun r hr => ⟨bits_at (bits_gone (bares_ok hr).2) _, bits_at (bits_gone (bares_ok hr).2) _⟩
    by_cases z : c.2 = k
    · rw [if_pos z]
      unfold colV
      rw [i_or, mask_congr]
      intro r hr
      unfold one0
      rw [val r hr, if_pos z]
      obtain ⟨h1 | h1, h2 | h2⟩ := bt r hr <;> rw [h1, h2] <;> rfl
    · rw [if_neg z]
      by_cases y : c.1 = k
      · rw [if_pos y]
        unfold colV
        rw [i_and, mask_congr]
        intro r hr
        unfold one0
        rw [val r hr, if_neg z, if_pos y]
        obtain ⟨h1 | h1, h2 | h2⟩ := bt r hr <;> rw [h1, h2] <;> rfl
      · rw [if_neg y]
        unfold colV
        rw [mask_congr]
        intro r hr
        unfold one0
        rw [val r hr, if_neg z, if_neg y]
/-! ### making them -/
def mkC (j k : Nat) : Int := (maskN (fun m : Nat => m.testBit k) (List.range (2 ^ j)) : Nat)
def mkCs (j : Nat) : Row := (List.range j).map (mkC j)
theorem mkC_step {j k : Nat} (h : k < j) : Builtin.bitOr (mkC j k) (mkC j k * 2 ^ (2 ^ j)) = mkC (j + 1) k := by
  unfold mkC
  have e : List.range (2 ^ (j + 1)) = List.range (2 ^ j) ++ (List.range (2 ^ j)).map (2 ^ j + ·) := by rw [Nat.pow_succ, Nat.mul_two, List.range_add]
  have lt := mask_lt (fun m : Nat => m.testBit k) (List.range (2 ^ j))
  rw [List.length_range] at lt
  rw [bitOr_comm, or_low (Int.natCast_nonneg _) (Int.natCast_nonneg _) (by rw [← PySem.W.kbt_cast]; exact Int.ofNat_lt.mpr lt), e, mask_app, mask_map, List.length_range]
  rw [mask_congr (f := fun x => (2 ^ j + x).testBit k) (g := fun m => m.testBit k) fun x _ => Nat.testBit_two_pow_add_gt h x]
  rw [cast_parts, ← Int.natCast_add, Nat.add_comm]
theorem mkC_new (j : Nat) : ((1 : Int) * 2 ^ (2 ^ j) - 1) * 2 ^ (2 ^ j) = mkC (j + 1) j := by
  unfold mkC
  have e : List.range (2 ^ (j + 1)) = List.range (2 ^ j) ++ (List.range (2 ^ j)).map (2 ^ j + ·) := by rw [Nat.pow_succ, Nat.mul_two, List.range_add]
  rw [e, mask_app, mask_map, List.length_range]
  have c1 : maskN (fun x => (2 ^ j + x).testBit j) (List.range (2 ^ j)) = maskN (fun _ => true) (List.range (2 ^ j)) := mask_congr fun x hx => by
    rw [Nat.testBit_two_pow_add_eq, Nat.testBit_lt_two_pow (List.mem_range.mp hx)] <;> rfl
  have c2 : maskN (fun m : Nat => m.testBit j) (List.range (2 ^ j)) = 0 := mask_zero.mpr fun x hx => Nat.testBit_lt_two_pow (List.mem_range.mp hx)
  rw [c1, c2, mask_true, List.length_range, Int.one_mul]
  have hp := Nat.two_pow_pos (2 ^ j)
  have e3 : (2 : Int) ^ (2 ^ j) - 1 = ((2 ^ 2 ^ j - 1 : Nat) : Int) := by
    rw [← PySem.W.kbt_cast]
    omega
  rw [e3, cast_parts, Nat.zero_add]
theorem mkCs_cols (n : Nat) : mkCs n = cols n [] := by
  unfold mkCs cols
  apply List.map_congr_left
  intro k hk
  have hk' := List.mem_range.mp hk
  unfold mkC colV bares
  rw [mask_map, mask_congr]
  intro m _
  unfold one0
  show m.testBit k = (at0 (bareR n m) k == 1)
  have e : at0 (bareR n m) k = ((m / 2 ^ k % 2 : Nat) : Int) := by
    unfold at0 bareR
    rw [List.getD_eq_getElem?_getD, List.getElem?_map, List.getElem?_range hk'] <;> rfl
  rw [e, Nat.testBit_eq_decide_div_mod_eq]
  rw [Bool.eq_iff_iff, decide_eq_true_eq, beq_iff_eq]
  omega
def firstB (n : Nat) (f : Row → Bool) : Option Row := (bares n).find? f
theorem mkC_lt (j k : Nat) : mkC j k < 2 ^ (2 ^ j) ∧ 0 ≤ mkC j k := by
  unfold mkC
  have lt := mask_lt (fun m : Nat => m.testBit k) (List.range (2 ^ j))
  rw [List.length_range] at lt
  rw [← PySem.W.kbt_cast]
  omega
/-- what stands at places that b holds of -/
def pick {α : Type} (b : Nat → Bool) : Nat → List α → List α
  | _, [] => []
  | k, x :: l => (if b k = true then [x] else []) ++ pick b (k + 1) l
theorem pick_snoc {α : Type} (b : Nat → Bool) (x : α) : ∀ (l : List α) (k : Nat), pick b k (l ++ [x]) = pick b k l ++ (if b (k + l.length) = true then [x] else [])
  | [], k => by
    show (if b k = true then [x] else []) ++ [] = [] ++ _
    rw [List.append_nil, List.nil_append, List.length_nil, Nat.add_zero]
  | y :: l, k => by
    show (if b k = true then [y] else []) ++ pick b (k + 1) (l ++ [x]) = (if b k = true then [y] else []) ++ pick b (k + 1) l ++ _
    rw [pick_snoc b x l (k + 1), List.append_assoc, List.length_cons, show k + 1 + l.length = k + (l.length + 1) by omega]
theorem pick_take {α : Type} {b : Nat → Bool} {l : List α} {i : Nat} {x : α} (h : l[i]? = some x) : pick b 0 (l.take (i + 1)) = pick b 0 (l.take i) ++ (if b i = true then [x] else []) := by
  have hi : i < l.length := (List.getElem?_eq_some_iff.mp h).1
  rw [List.take_add_one, h]
  show pick b 0 (l.take i ++ [x]) = _
  rw [pick_snoc, List.length_take, Nat.zero_add, Nat.min_eq_left (by omega)]
theorem pick_len {α : Type} (b : Nat → Bool) : ∀ (l : List α) (k : Nat), (pick b k l).length ≤ l.length
  | [], _ => Nat.le_refl _
  | x :: l, k => by
    show ((if b k = true then [x] else []) ++ pick b (k + 1) l).length ≤ l.length + 1
    have := pick_len b l (k + 1)
    rw [List.length_append]
    split
    · rw [List.length_singleton]
      omega
    · rw [List.length_nil]
      omega
theorem pick_all2 {α β : Type} {R : α → β → Prop} (b : Nat → Bool) {l : List α} {m : List β} (h : All2 R l m) : ∀ k, All2 R (pick b k l) (pick b k m) := by
  induction h with
  | nil => intro k; exact .nil
  | cons r _ ih =>
    intro k
    show All2 R ((if b k = true then [_] else []) ++ _) ((if b k = true then [_] else []) ++ _)
    refine All2.append ?_ (ih (k + 1))
    split
    · exact .one r
    · exact .nil
theorem pick_mem {α : Type} {b : Nat → Bool} {x : α} : ∀ {l : List α} {k : Nat}, x ∈ pick b k l → x ∈ l
  | [], _, h => h
  | y :: l, k, h => by
    have h' : x ∈ (if b k = true then [y] else []) ++ pick b (k + 1) l := h
    rcases List.mem_append.mp h' with h | h
    · split at h
      · rw [List.mem_singleton.mp h]
        exact .head _
      · cases h
    · exact .tail _ (pick_mem h)
def natL (ts : List Nat) : List V := ts.map fun (t : Nat) => V.int (t : Int)
theorem nat_len (l : List Nat) : (natL l).length = l.length := List.length_map ..
def stirsAt (cs : List Cmp) (k : Nat) (r : Row) : Bool := match cs[k]? with
  | some c => decide (at0 (gone (cs.take k) r) c.1 > at0 (gone (cs.take k) r) c.2)
  | none => false
def stirB (cs : List Cmp) (rs : List Row) : List Bool := (List.range cs.length).map fun k => rs.any (stirsAt cs k)
end Sw

set_option Elab.async false
set_option linter.all false
set_option maxRecDepth 100000
set_option maxHeartbeats 4000000
namespace Sw
open PySem PySem.Spec PyProof.Rows L2
/-! ## Layers and chains -/
def manyL (ts : List Nat) : Nat := ts.foldr (fun t m => max (t + 1) m) 0
theorem manyL_lt : ∀ {ts : List Nat} {t : Nat}, t ∈ ts → t < manyL ts
  | [], _, h => nomatch h
  | s :: ts, t, h => by
    show t < max (s + 1) (manyL ts)
    rcases List.mem_cons.mp h with h | h
    · omega
    · have := manyL_lt h
      omega
theorem manyL_mem : ∀ {ts : List Nat} {m : Nat}, manyL ts = m + 1 → m ∈ ts
  | [], m, h => by cases h
  | s :: ts, m, h => by
    have h' : max (s + 1) (manyL ts) = m + 1 := h
    by_cases e : s = m
    · rw [e]
      exact .head _
    · exact .tail _ (manyL_mem (by omega))
theorem manyL_app : ∀ (ts us : List Nat), manyL (ts ++ us) = max (manyL ts) (manyL us)
  | [], us => by
    show manyL us = max 0 (manyL us)
    omega
  | s :: ts, us => by
    show max (s + 1) (manyL (ts ++ us)) = max (max (s + 1) (manyL ts)) (manyL us)
    rw [manyL_app ts us]
    omega
theorem manyL_nil {ts : List Nat} (h : manyL ts = 0) : ts = [] := by
  cases ts with
  | nil => rfl
  | cons s ts =>
    have h' : max (s + 1) (manyL ts) = 0 := h
    omega
def manyT (cs : List Cmp) : Nat := manyL (tiers cs)
theorem tiers_len (cs : List Cmp) : (tiers cs).length = cs.length := tiersH_len _ cs
theorem tiers_take (cs : List Cmp) (i : Nat) : tiers (cs.take i) = (tiers cs).take i := tiersH_take _ cs i
theorem tier_back {cs : List Cmp} {q t : Nat} {c : Cmp} (hc : cs[q]? = some c) (h : (tiers cs)[q]? = some (t + 1)) : ∃ (k : Nat) (d : Cmp), k < q ∧ cs[k]? = some d ∧ (tiers cs)[k]? = some t ∧ share d c = true := by
  have g := tiers_get hc
  rw [h] at g
  have e : t + 1 = max (hgtH (fun _ => 0) (cs.take q) c.1) (hgtH (fun _ => 0) (cs.take q) c.2) := Option.some.inj g
  obtain ⟨l, hl, hh⟩ : ∃ l, (l = c.1 ∨ l = c.2) ∧ hgtH (fun _ => 0) (cs.take q) l = t + 1 := by
    by_cases z : hgtH (fun _ => 0) (cs.take q) c.1 = t + 1
    · exact ⟨_, .inl rfl, z⟩
    · exact ⟨_, .inr rfl, by omega⟩
  rcases (hgt_spec (cs.take q) l).2 with z | ⟨i, d, t', h1, h2, h3, h4⟩
  · omega
  · have hi : i < (cs.take q).length := (List.getElem?_eq_some_iff.mp h1).1
    rw [List.length_take] at hi
    have iq : i < q := by omega
    rw [List.getElem?_take_of_lt iq] at h1
    rw [tiers_take, List.getElem?_take_of_lt iq] at h3
    refine ⟨i, d, iq, h1, by rw [h3]; congr 1; omega, ?_⟩
    unfold share
    rw [decide_eq_true_eq]
    rcases hl with hl | hl <;> rcases h2 with h2 | h2
    · exact .inl (by omega)
    · exact .inr (.inr (.inl (by omega)))
    · exact .inr (.inl (by omega))
    · exact .inr (.inr (.inr (by omega)))
theorem tier_le {cs : List Cmp} {i t : Nat} (h : (tiers cs)[i]? = some t) : t ≤ manyL ((tiers cs).take i) := by
  cases t with
  | zero => exact Nat.zero_le _
  | succ t =>
    have hi : i < cs.length := by
      have := (List.getElem?_eq_some_iff.mp h).1
      rw [tiers_len] at this
      exact this
    obtain ⟨c, hc⟩ := get_of hi
    obtain ⟨k, d, hk, _, ht, _⟩ := tier_back hc h
    have : t ∈ (tiers cs).take i := List.mem_of_getElem? (i := k) (by rw [List.getElem?_take_of_lt hk]; exact ht)
    exact manyL_lt this
/-! ### layers -/
def layI (cs : List Cmp) (i : Nat) (u : Nat) : List Cmp := layerOf (cs.take i) ((tiers cs).take i) u
theorem layI_step {cs : List Cmp} {i t : Nat} {c : Cmp} (hc : cs[i]? = some c) (ht : (tiers cs)[i]? = some t) (u : Nat) : layI cs (i + 1) u = layI cs i u ++ (if t = u then [c] else []) := by
  have hi : i < cs.length := (List.getElem?_eq_some_iff.mp hc).1
  unfold layI layerOf
  rw [List.take_add_one, List.take_add_one (l := tiers cs), hc, ht]
  show List.map _ (List.filter _ ((cs.take i ++ [c]).zip ((tiers cs).take i ++ [t]))) = _
  rw [List.zip_append (by rw [List.length_take, List.length_take, tiers_len]), List.filter_append, List.map_append]
  congr 1
  show List.map _ (List.filter _ [(c, t)]) = _
  by_cases e : t = u
  · rw [List.filter_cons_of_pos (by simpa using e), if_pos e] <;> rfl
  · rw [List.filter_cons_of_neg (by simpa using e), if_neg e] <;> rfl
theorem layI_nil {cs : List Cmp} {i u : Nat} (h : manyL ((tiers cs).take i) ≤ u) : layI cs i u = [] := by
  unfold layI layerOf
  rw [List.map_eq_nil_iff, List.filter_eq_nil_iff]
  rintro ⟨d, t⟩ hd
  have := (List.of_mem_zip hd).2
  have := manyL_lt this
  simp only [beq_iff_eq]
  omega
def layL (cs : List Cmp) (i M : Nat) : List (List Cmp) := (List.range M).map (layI cs i)
def layersOf (cs : List Cmp) : List (List Cmp) := layL cs cs.length (manyT cs)
theorem layL_len (cs : List Cmp) (i M : Nat) : (layL cs i M).length = M := by
  unfold layL
  rw [List.length_map, List.length_range]
theorem layL_get {cs : List Cmp} {i M u : Nat} (h : u < M) : (layL cs i M)[u]? = some (layI cs i u) := by
  unfold layL
  rw [List.getElem?_map, List.getElem?_range h] <;> rfl
theorem layL_set {cs : List Cmp} {i M t : Nat} {c : Cmp} (hc : cs[i]? = some c) (ht : (tiers cs)[i]? = some t) : (layL cs i M).set t (layI cs i t ++ [c]) = layL cs (i + 1) M := by
  apply List.ext_getElem
  · rw [List.length_set, layL_len, layL_len]
  · intro u h1 h2
    have hu : u < M := by rw [layL_len] at h2; exact h2
    have e : ∀ (j : Nat) (h : u < (layL cs j M).length), (layL cs j M)[u] = layI cs j u := fun j h => by
      have := layL_get (cs := cs) (i := j) hu
      rw [List.getElem?_eq_getElem h] at this
      exact Option.some.inj this
    rw [List.getElem_set, e, e, layI_step hc ht]
    by_cases z : t = u
    · rw [if_pos z, if_pos z, z]
    · rw [if_neg z, if_neg z, List.append_nil]
theorem layL_zero (cs : List Cmp) (M : Nat) : layL cs 0 M = (List.range M).map fun _ => [] := by
  unfold layL
  apply List.map_congr_left
  intro u _
  rfl
theorem layL_more (cs : List Cmp) (i : Nat) : layL cs i (manyL ((tiers cs).take i) + 1) = layL cs i (manyL ((tiers cs).take i)) ++ [[]] := by
  unfold layL
  rw [List.range_succ, List.map_append]
  show _ ++ [layI cs i _] = _
  rw [layI_nil (Nat.le_refl _)]
theorem layersOf_eq (cs : List Cmp) : layersOf cs = (List.range (manyT cs)).map (layerOf cs (tiers cs)) := by
  unfold layersOf layL
  apply List.map_congr_left
  intro u _
  unfold layI
  rw [List.take_length, ← tiers_len, List.take_length]
/-! ### a chain, from its end -/
def tAt (cs : List Cmp) (k : Nat) : Int := ((tiers cs).getD k 0 : Nat)
def cAt (cs : List Cmp) (k : Nat) : Cmp := cs.getD k (0, 0)
def topT (cs : List Cmp) : Int := ((manyT cs - 1 : Nat) : Int)
def chOk (cs : List Cmp) (k : Nat) (st : List Nat × Int) : Prop := tAt cs k = st.2 ∧ ∀ q, st.1.getLast? = some q → share (cAt cs k) (cAt cs q) = true
instance (cs : List Cmp) (k : Nat) (st : List Nat × Int) : Decidable (chOk cs k st) := by
  unfold chOk
  cases h : st.1.getLast? with
  | none => exact if e : tAt cs k = st.2 then isTrue ⟨e, fun q z => nomatch z⟩ else isFalse fun z => e z.1
  | some q => exact if e : tAt cs k = st.2 ∧ share (cAt cs k) (cAt cs q) = true then isTrue ⟨e.1, fun q' z => by cases z; exact e.2⟩ else isFalse fun z => e ⟨z.1, z.2 q rfl⟩
def chStep (cs : List Cmp) (k : Nat) (st : List Nat × Int) : List Nat × Int := if chOk cs k st then (st.1 ++ [k], st.2 - 1) else st
def chSt (cs : List Cmp) : Nat → List Nat × Int
  | 0 => ([], topT cs)
  | i + 1 => chStep cs (cs.length - 1 - i) (chSt cs i)
def chainOf (cs : List Cmp) : List Nat := (chSt cs cs.length).1.reverse
structure ChI (cs : List Cmp) (i : Nat) (st : List Nat × Int) : Prop where
  w : st.2 = topT cs - st.1.length
  at' : ∀ (j k : Nat), st.1[j]? = some k → cs.length - i ≤ k ∧ k < cs.length ∧ tAt cs k = topT cs - j
  nb : ∀ (j k k' : Nat), st.1[j]? = some k → st.1[j + 1]? = some k' → k' < k ∧ share (cAt cs k') (cAt cs k) = true
  no : st.1 = [] → ∀ k : Nat, cs.length - i ≤ k → k < cs.length → tAt cs k ≠ topT cs
  la : ∀ q : Nat, st.1.getLast? = some q → ∀ k : Nat, cs.length - i ≤ k → k < q → ¬ (tAt cs k = st.2 ∧ share (cAt cs k) (cAt cs q) = true)
theorem last_at {l : List Nat} {q : Nat} (h : l.getLast? = some q) : l[l.length - 1]? = some q := by rw [← List.getLast?_eq_getElem?]; exact h
theorem ch_inv (cs : List Cmp) : ∀ i, i ≤ cs.length → ChI cs i (chSt cs i)
  | 0, _ => ⟨by show topT cs = topT cs - ((0 : Nat) : Int); omega, fun j k h => (nomatch h), fun j k k' h => (nomatch h), fun _ k h1 h2 => by omega, fun q h => nomatch h⟩
  | i + 1, hi => by
    have I := ch_inv cs i (by omega)
    show ChI cs (i + 1) (chStep cs (cs.length - 1 - i) (chSt cs i))
    generalize chSt cs i = st at I
    obtain ⟨ps, w⟩ := st
    have ek : cs.length - 1 - i = cs.length - (i + 1) := by omega
    rw [ek]
    unfold chStep
    by_cases c : chOk cs (cs.length - (i + 1)) (ps, w)
    · rw [if_pos c]
      obtain ⟨c1, c2⟩ := c
      have iw : w = topT cs - ps.length := I.w
      have c1' : tAt cs (cs.length - (i + 1)) = w := c1
      refine ⟨?_, ?_, ?_, ?_, ?_⟩
      · show w - 1 = topT cs - ((ps ++ [_]).length : Nat)
        rw [List.length_append, List.length_singleton]
        omega
      · intro j k h
        rcases Nat.lt_or_ge j ps.length with hj | hj
        · rw [List.getElem?_append_left hj] at h
          obtain ⟨a1, a2, a3⟩ := I.at' j k h
          exact ⟨by omega, a2, a3⟩
        · rw [List.getElem?_append_right hj] at h
          have hj2 : j - ps.length = 0 := by
            have := (List.getElem?_eq_some_iff.mp h).1
            rw [List.length_singleton] at this
            omega
          rw [hj2] at h
          have e := Option.some.inj h
          subst e
          refine ⟨Nat.le_refl _, by omega, ?_⟩
          rw [c1', iw]
          omega
      · intro j k k' h h'
        have hj1 : j + 1 < ps.length + 1 := by
          have := (List.getElem?_eq_some_iff.mp h').1
          rw [List.length_append, List.length_singleton] at this
          exact this
        have hj0 : j < ps.length := by omega
        rw [List.getElem?_append_left (show j < (ps, w).1.length from hj0)] at h
        rcases Nat.lt_or_ge (j + 1) ps.length with hj | hj
        · rw [List.getElem?_append_left hj] at h'
          exact I.nb j k k' h h'
        · rw [List.getElem?_append_right hj, show j + 1 - ps.length = 0 by omega] at h'
          have e := Option.some.inj h'
          subst e
          have hl : ps.getLast? = some k := by rw [List.getLast?_eq_getElem?, show ps.length - 1 = j by omega]; exact h
          obtain ⟨a1, a2, a3⟩ := I.at' j k h
          refine ⟨by omega, c2 k hl⟩
      · intro z
        exact absurd z (by simp)
      · intro q hq k h1 h2
        have e : cs.length - (i + 1) = q := by
          have hq' : (ps ++ [cs.length - (i + 1)]).getLast? = some q := hq
          rw [List.getLast?_concat] at hq'
          exact Option.some.inj hq'
        omega
    · rw [if_neg c]
      refine ⟨I.w, fun j k h => ?_, I.nb, fun z k h1 h2 => ?_, fun q hq k h1 h2 => ?_⟩
      · obtain ⟨a1, a2, a3⟩ := I.at' j k h
        exact ⟨by omega, a2, a3⟩
      · have z' : ps = [] := z
        rcases Nat.eq_or_lt_of_le h1 with e | e
        · subst e
          intro t
          refine c ⟨?_, fun q hq => ?_⟩
          · have iw : w = topT cs - ps.length := I.w
            rw [z'] at iw
            show _ = w
            rw [t, iw]
            show _ = topT cs - ((0 : Nat) : Int)
            omega
          · have hq' : ps.getLast? = some q := hq
            rw [z'] at hq'
            cases hq'
        · exact I.no z k (by omega) h2
      · rcases Nat.eq_or_lt_of_le h1 with e | e
        · subst e
          rintro ⟨t1, t2⟩
          refine c ⟨t1, fun q' hq' => ?_⟩
          have : q' = q := Option.some.inj (hq'.symm.trans hq)
          rw [this]
          exact t2
        · exact I.la q hq k (by omega) h2
theorem tAt_get {cs : List Cmp} {k t : Nat} (h : (tiers cs)[k]? = some t) : tAt cs k = t := by
  unfold tAt
  rw [List.getD_eq_getElem?_getD, h] <;> rfl
theorem cAt_get {cs : List Cmp} {k : Nat} {c : Cmp} (h : cs[k]? = some c) : cAt cs k = c := by
  unfold cAt
  rw [List.getD_eq_getElem?_getD, h] <;> rfl
theorem chain_len (cs : List Cmp) : (chainOf cs).length = manyT cs := by
  have I := ch_inv cs cs.length (Nat.le_refl _)
  unfold chainOf
  rw [List.length_reverse]
  generalize chSt cs cs.length = st at I
  obtain ⟨ps, w⟩ := st
  have iw : w = topT cs - ps.length := I.w
  show ps.length = manyT cs
  cases hl : ps.getLast? with
  | none =>
    have z : ps = [] := List.getLast?_eq_none_iff.mp hl
    cases hm : manyT cs with
    | zero => rw [z] <;> rfl
    | succ m =>
      exfalso
      obtain ⟨k, hk⟩ := List.getElem?_of_mem (manyL_mem hm)
      have hk2 := (List.getElem?_eq_some_iff.mp hk).1
      rw [tiers_len] at hk2
      refine I.no z k (by omega) hk2 ?_
      rw [tAt_get hk]
      unfold topT
      rw [hm] <;> rfl
  | some q =>
    have hq := last_at hl
    have lp : ps.length ≠ 0 := fun z => by
      rw [List.eq_nil_of_length_eq_zero z] at hl
      cases hl
    obtain ⟨a1, a2, a3⟩ := I.at' _ _ hq
    obtain ⟨t, ht⟩ := get_of (xs := tiers cs) (i := q) (by rw [tiers_len]; exact a2)
    rw [tAt_get ht] at a3
    have mt : t < manyT cs := manyL_lt (List.mem_of_getElem? ht)
    unfold topT at a3
    cases t with
    | zero => omega
    | succ t =>
      exfalso
      obtain ⟨c, hc⟩ := get_of a2
      obtain ⟨k, d, hk, hd, hkt, hs⟩ := tier_back hc ht
      refine I.la q hl k (by omega) hk ⟨?_, ?_⟩
      · rw [tAt_get hkt]
        show (t : Int) = w
        rw [iw]
        unfold topT
        omega
      · rw [cAt_get hd, cAt_get hc]
        exact hs
theorem chain_lt {cs : List Cmp} {k : Nat} (h : k ∈ chainOf cs) : k < cs.length := by
  obtain ⟨j, hj⟩ := List.getElem?_of_mem (List.mem_reverse.mp h)
  exact ((ch_inv cs cs.length (Nat.le_refl _)).at' j k hj).2.1
theorem chain_nb {cs : List Cmp} {j a b : Nat} (h1 : (chainOf cs)[j]? = some a) (h2 : (chainOf cs)[j + 1]? = some b) : a < b ∧ share (cAt cs a) (cAt cs b) = true := by
  have l2 := (List.getElem?_eq_some_iff.mp h2).1
  unfold chainOf at h1 h2 l2
  rw [List.length_reverse] at l2
  rw [List.getElem?_reverse (by omega)] at h1 h2
  refine (ch_inv cs cs.length (Nat.le_refl _)).nb ((chSt cs cs.length).1.length - 1 - (j + 1)) b a h2 ?_
  rw [show (chSt cs cs.length).1.length - 1 - (j + 1) + 1 = (chSt cs cs.length).1.length - 1 - j by omega]
  exact h1
theorem ch_len (cs : List Cmp) : ∀ i, (chSt cs i).1.length ≤ i
  | 0 => Nat.le_refl _
  | i + 1 => by
    have := ch_len cs i
    show (chStep cs _ (chSt cs i)).1.length ≤ i + 1
    unfold chStep
    split
    · show ((chSt cs i).1 ++ [_]).length ≤ i + 1
      rw [List.length_append, List.length_singleton]
      omega
    · omega
end Sw

set_option Elab.async false
set_option linter.all false
set_option maxRecDepth 100000
set_option maxHeartbeats 4000000
namespace Sw
open PySem PySem.Spec PyProof.Rows L2
/-! ## The straight web of a web -/
def spA (sp : List Nat) (k : Nat) : Nat := sp.getD k 0
def strC (st : List Cmp × List Nat) (c : Cmp) : List Cmp × List Nat :=
  if spA st.2 c.1 < spA st.2 c.2 then (st.1 ++ [(spA st.2 c.1, spA st.2 c.2)], st.2)
  else (st.1 ++ [(spA st.2 c.2, spA st.2 c.1)], (st.2.set c.1 (spA st.2 c.2)).set c.2 (spA st.2 c.1))
def strOf (n : Nat) (cs : List Cmp) : List Cmp × List Nat := cs.foldl strC ([], List.range n)
theorem strOf_snoc (n : Nat) (cs : List Cmp) (c : Cmp) : strOf n (cs ++ [c]) = strC (strOf n cs) c := by
  unfold strOf
  rw [List.foldl_append] <;> rfl
theorem spA_get {sp : List Nat} {k : Nat} (h : k < sp.length) : sp[k]? = some (spA sp k) := by
  unfold spA
  rw [List.getD_eq_getElem?_getD, List.getElem?_eq_getElem h] <;> rfl
theorem spA_eq {sp : List Nat} {k : Nat} (h : k < sp.length) : sp[k] = spA sp k := by
  have := spA_get h
  rw [List.getElem?_eq_getElem h] at this
  exact Option.some.inj this
/-- all that holds of it -/
structure StrI (n : Nat) (cs : List Cmp) (st : List Cmp × List Nat) : Prop where
  len : st.1.length = cs.length
  perm : st.2.Perm (List.range n)
  str : ∀ c ∈ st.1, c.1 < c.2 ∧ c.2 < n
  goes : ∀ r : Row, r.length = n → ∀ k, k < n → at0 (gone st.1 r) (spA st.2 k) = at0 (gone cs r) k
theorem StrI.slen {n : Nat} {cs : List Cmp} {st : List Cmp × List Nat} (I : StrI n cs st) : st.2.length = n := by
  rw [I.perm.length_eq, List.length_range]
theorem StrI.lt {n : Nat} {cs : List Cmp} {st : List Cmp × List Nat} (I : StrI n cs st) {k : Nat} (h : k < n) : spA st.2 k < n := by
  have := List.mem_of_getElem? (spA_get (sp := st.2) (k := k) (by rw [I.slen]; exact h))
  exact List.mem_range.mp (I.perm.mem_iff.mp this)
theorem StrI.inj {n : Nat} {cs : List Cmp} {st : List Cmp × List Nat} (I : StrI n cs st) {j k : Nat} (hj : j < n) (hk : k < n) (e : spA st.2 j = spA st.2 k) : j = k := by
  have nd : st.2.Nodup := I.perm.nodup_iff.mpr List.nodup_range
  have z := List.pairwise_iff_getElem.mp nd
  have l := I.slen
  rcases Nat.lt_trichotomy j k with h | h | h
  · exact absurd (by rw [spA_eq, spA_eq]; exact e) (z j k (by omega) (by omega) h)
  · exact h
  · exact absurd (by rw [spA_eq, spA_eq]; exact e.symm) (z k j (by omega) (by omega) h)
theorem at0_set {r : Row} {k j : Nat} {v : Int} (h : k < r.length) : at0 (r.set k v) j = if k = j then v else at0 r j := by
  unfold at0
  rw [List.getD_eq_getElem?_getD, List.getElem?_set]
  by_cases e : k = j
  · rw [if_pos e, if_pos e, if_pos h] <;> rfl
  · rw [if_neg e, if_neg e, List.getD_eq_getElem?_getD]
theorem goC_at {r : Row} {c : Cmp} {n : Nat} (hr : r.length = n) (ok : CmpOk n c) (k : Nat) : at0 (goC r c) k = if c.2 = k then max (at0 r c.1) (at0 r c.2) else if c.1 = k then min (at0 r c.1) (at0 r c.2) else at0 r k := by
  obtain ⟨h1, h2, h3⟩ := ok
  unfold goC
  split
  · rename_i gt
    rw [at0_set (by rw [List.length_set, hr]; exact h2), at0_set (by rw [hr]; exact h1)]
    by_cases z : c.2 = k
    · rw [if_pos z, if_pos z]
      omega
    · rw [if_neg z, if_neg z]
      by_cases y : c.1 = k
      · rw [if_pos y, if_pos y]
        omega
      · rw [if_neg y, if_neg y]
  · rename_i gt
    by_cases z : c.2 = k
    · rw [if_pos z, ← z]
      omega
    · rw [if_neg z]
      by_cases y : c.1 = k
      · rw [if_pos y, ← y]
        omega
      · rw [if_neg y]
theorem spA_set {sp : List Nat} {k j v : Nat} (h : k < sp.length) : spA (sp.set k v) j = if k = j then v else spA sp j := by
  unfold spA
  rw [List.getD_eq_getElem?_getD, List.getElem?_set]
  by_cases e : k = j
  · rw [if_pos e, if_pos e, if_pos h] <;> rfl
  · rw [if_neg e, if_neg e, List.getD_eq_getElem?_getD]
theorem str_step {n : Nat} {cs : List Cmp} {c : Cmp} {st : List Cmp × List Nat} (ok : CmpOk n c) (I : StrI n cs st) : StrI n (cs ++ [c]) (strC st c) := by
  obtain ⟨h1, h2, h3⟩ := id ok
  have l1 := I.lt h1
  have l2 := I.lt h2
  have sl := I.slen
  have ne : spA st.2 c.1 ≠ spA st.2 c.2 := fun e => h3 (I.inj h1 h2 e)
  unfold strC
  split
  · rename_i lt
    refine ⟨?_, I.perm, ?_, ?_⟩
    · show (st.1 ++ [_]).length = _
      rw [List.length_append, List.length_append, I.len] <;> rfl
    · intro d hd
      rcases List.mem_append.mp hd with h | h
      · exact I.str d h
      · rw [List.mem_singleton.mp h]
        exact ⟨lt, l2⟩
    · intro r hr k hk
      show at0 (gone (st.1 ++ [_]) r) (spA st.2 k) = _
      have g := I.goes r hr
      rw [gone_snoc, gone_snoc, goC_at (n := n) (by rw [gone_len, hr]) ⟨l1, l2, ne⟩, goC_at (n := n) (by rw [gone_len, hr]) ok]
      show (if spA st.2 c.2 = spA st.2 k then max (at0 (gone st.1 r) (spA st.2 c.1)) (at0 (gone st.1 r) (spA st.2 c.2)) else if spA st.2 c.1 = spA st.2 k then min (at0 (gone st.1 r) (spA st.2 c.1)) (at0 (gone st.1 r) (spA st.2 c.2)) else at0 (gone st.1 r) (spA st.2 k)) = _
      rw [g _ h1, g _ h2, g _ hk]
      by_cases z : c.2 = k
      · rw [if_pos z, if_pos (by rw [z])]
      · rw [if_neg z, if_neg fun e => z (I.inj h2 hk e)]
        by_cases y : c.1 = k
        · rw [if_pos y, if_pos (by rw [y])]
        · rw [if_neg y, if_neg fun e => y (I.inj h1 hk e)]
  · rename_i lt
    have gt : spA st.2 c.2 < spA st.2 c.1 := by omega
    refine ⟨?_, ?_, ?_, ?_⟩
    · show (st.1 ++ [_]).length = _
      rw [List.length_append, List.length_append, I.len] <;> rfl
    · refine List.Perm.trans ?_ I.perm
      have p := List.set_set_perm (as := st.2) (i := c.1) (j := c.2) (by omega) (by omega)
      rw [spA_eq (by omega), spA_eq (by omega)] at p
      exact p
    · intro d hd
      rcases List.mem_append.mp hd with h | h
      · exact I.str d h
      · rw [List.mem_singleton.mp h]
        exact ⟨gt, l1⟩
    · intro r hr k hk
      show at0 (gone (st.1 ++ [_]) r) (spA ((st.2.set c.1 (spA st.2 c.2)).set c.2 (spA st.2 c.1)) k) = _
      have g := I.goes r hr
      rw [spA_set (by rw [List.length_set]; omega), spA_set (by omega)]
      rw [gone_snoc, gone_snoc, goC_at (n := n) (by rw [gone_len, hr]) ⟨l2, l1, ne.symm⟩, goC_at (n := n) (by rw [gone_len, hr]) ok]
      dsimp only
      rw [g _ h1, g _ h2]
      by_cases z : c.2 = k
      · rw [if_pos z, if_pos z, if_pos rfl]
        omega
      · rw [if_neg z, if_neg z]
        by_cases y : c.1 = k
        · rw [if_pos y, if_pos y, if_neg ne, if_pos rfl]
          omega
        · rw [if_neg y, if_neg y, if_neg fun e => y (I.inj h1 hk e), if_neg fun e => z (I.inj h2 hk e), g _ hk]
theorem str_all {n : Nat} {cs : List Cmp} (ok : CmpsOk n cs) : StrI n cs (strOf n cs) := by
  induction cs using snocInd with
  | h0 =>
    refine ⟨rfl, List.Perm.refl _, (fun c hc => nomatch hc), fun r hr k hk => ?_⟩
    show at0 r (spA (List.range n) k) = at0 r k
    have : spA (List.range n) k = k := by
      unfold spA
      rw [List.getD_eq_getElem?_getD, List.getElem?_range hk] <;> rfl
    rw [this]
  | h1 l c ih =>
    rw [strOf_snoc]
    exact str_step (ok c (List.mem_append.mpr (.inr (List.mem_singleton.mpr rfl)))) (ih fun d hd => ok d (List.mem_append.mpr (.inl hd)))
theorem str_ok {n : Nat} {cs : List Cmp} (ok : CmpsOk n cs) : CmpsOk n (strOf n cs).1 := fun c hc => by
  obtain ⟨h1, h2⟩ := (str_all ok).str c hc
  exact ⟨by omega, h2, by omega⟩
/-- rising numbers stay as they are in a straight web -/
def idR (n : Nat) : Row := (List.range n).map fun (k : Nat) => (k : Int)
theorem idR_at {n k : Nat} (h : k < n) : at0 (idR n) k = k := by
  unfold at0 idR
  rw [List.getD_eq_getElem?_getD, List.getElem?_map, List.getElem?_range h] <;> rfl
theorem idR_len (n : Nat) : (idR n).length = n := by
  unfold idR
  rw [List.length_map, List.length_range]
theorem straight_id {n : Nat} : ∀ {cs : List Cmp}, (∀ c ∈ cs, c.1 < c.2 ∧ c.2 < n) → gone cs (idR n) = idR n
  | [], _ => rfl
  | c :: cs, h => by
    obtain ⟨h1, h2⟩ := h c (.head _)
    have e : goC (idR n) c = idR n := by
      unfold goC
      rw [if_neg (by rw [idR_at (by omega), idR_at h2]; omega)]
    show gone cs (goC (idR n) c) = idR n
    rw [e]
    exact straight_id fun d hd => h d (.tail _ hd)
/-- of a web that sorts, the spots are the lines -/
theorem str_sorts {n : Nat} {cs : List Cmp} (ok : CmpsOk n cs) (s : ∀ r : Row, r.length = n → Srt (gone cs r)) : (strOf n cs).2 = List.range n ∧ ∀ r : Row, r.length = n → gone (strOf n cs).1 r = gone cs r := by
  have I := str_all ok
  have sl := I.slen
  have e1 : (strOf n cs).2 = List.range n := by
    refine List.Perm.eq_of_pairwise (le := fun a b => a ≤ b) (fun a b _ _ h1 h2 => Nat.le_antisymm h1 h2) ?_ ?_ I.perm
    · rw [List.pairwise_iff_getElem]
      intro i j hi hj hij
      have z := s (idR n) (idR_len n)
      rw [Srt, List.pairwise_iff_getElem] at z
      have gl : (gone cs (idR n)).length = n := by rw [gone_len, idR_len]
      have g := I.goes (idR n) (idR_len n)
      rw [straight_id I.str] at g
      have zi := z i j (by omega) (by omega) hij
      have a : ∀ (k : Nat) (hk : k < (gone cs (idR n)).length), (gone cs (idR n))[k] = (spA (strOf n cs).2 k : Int) := fun k hk => by
        have : (gone cs (idR n))[k] = at0 (gone cs (idR n)) k := by
          unfold at0
          rw [List.getD_eq_getElem?_getD, List.getElem?_eq_getElem hk] <;> rfl
        rw [this, ← g k (by omega), idR_at (I.lt (by omega))]
      rw [a, a] at zi
      rw [spA_eq hi, spA_eq hj]
      omega
    · exact List.pairwise_lt_range.imp fun h => Nat.le_of_lt h
  refine ⟨e1, fun r hr => ?_⟩
  apply List.ext_getElem
  · rw [gone_len, gone_len]
  · intro k h1 h2
    have g := I.goes r hr k (by rw [gone_len, hr] at h2; exact h2)
    rw [e1] at g
    have hk : k < n := by rw [gone_len, hr] at h2; exact h2
    have sk : spA (List.range n) k = k := by
      unfold spA
      rw [List.getD_eq_getElem?_getD, List.getElem?_range hk] <;> rfl
    rw [sk] at g
    unfold at0 at g
    rw [List.getD_eq_getElem?_getD, List.getD_eq_getElem?_getD, List.getElem?_eq_getElem h1, List.getElem?_eq_getElem h2] at g
    exact g
end Sw

set_option Elab.async false
set_option linter.all false
set_option maxRecDepth 100000
set_option maxHeartbeats 4000000
namespace Sw
open PySem PySem.Spec PyProof.Rows L2
/-! ## Lines called otherwise, upside down, beside one another -/
def callC (o : List Nat) (c : Cmp) : Cmp := (spA o c.1, spA o c.2)
def upC (n : Nat) (c : Cmp) : Cmp := (n - 1 - c.2, n - 1 - c.1)
def besC (n : Nat) (c : Cmp) : Cmp := (c.1 + n, c.2 + n)
def backOf (n : Nat) (o : List Nat) : List Nat := (List.range n).map fun k => o.idxOf k
def calledR (n : Nat) (o : List Nat) (r : Row) : Row := (List.range n).map fun k => at0 r (spA (backOf n o) k)
def turnR (r : Row) : Row := r.reverse.map fun x => 0 - x
theorem row_ext {n : Nat} {r s : Row} (hr : r.length = n) (hs : s.length = n) (h : ∀ k, k < n → at0 r k = at0 s k) : r = s := by
  apply List.ext_getElem (by omega)
  intro k h1 h2
  have := h k (by omega)
  unfold at0 at this
  rw [List.getD_eq_getElem?_getD, List.getD_eq_getElem?_getD, List.getElem?_eq_getElem h1, List.getElem?_eq_getElem h2] at this
  exact this
theorem perm_len {n : Nat} {o : List Nat} (hp : o.Perm (List.range n)) : o.length = n := by rw [hp.length_eq, List.length_range]
theorem perm_lt {n : Nat} {o : List Nat} (hp : o.Perm (List.range n)) {k : Nat} (h : k < n) : spA o k < n :=
  List.mem_range.mp (hp.mem_iff.mp (List.mem_of_getElem? (spA_get (sp := o) (k := k) (by rw [perm_len hp]; exact h))))
theorem perm_inj {n : Nat} {o : List Nat} (hp : o.Perm (List.range n)) {j k : Nat} (hj : j < n) (hk : k < n) (e : spA o j = spA o k) : j = k := by
  have nd : o.Nodup := hp.nodup_iff.mpr List.nodup_range
  have z := List.pairwise_iff_getElem.mp nd
  have l := perm_len hp
  rcases Nat.lt_trichotomy j k with h | h | h
  · exact absurd (by rw [spA_eq, spA_eq]; exact e) (z j k (by omega) (by omega) h)
  · exact h
  · exact absurd (by rw [spA_eq, spA_eq]; exact e.symm) (z k j (by omega) (by omega) h)
theorem idx_lt {n : Nat} {o : List Nat} (hp : o.Perm (List.range n)) {k : Nat} (h : k < n) : o.idxOf k < n := by
  have := List.idxOf_lt_length_of_mem (hp.mem_iff.mpr (List.mem_range.mpr h))
  rwa [perm_len hp] at this
theorem spA_idx {n : Nat} {o : List Nat} (hp : o.Perm (List.range n)) {k : Nat} (h : k < n) : spA o (o.idxOf k) = k := by
  have l := idx_lt hp h
  have := spA_eq (sp := o) (k := o.idxOf k) (by rw [perm_len hp]; exact l)
  rw [← this]
  exact List.getElem_idxOf _
theorem spA_back {n : Nat} {o : List Nat} {k : Nat} (h : k < n) : spA (backOf n o) k = o.idxOf k := by
  unfold spA backOf
  rw [List.getD_eq_getElem?_getD, List.getElem?_map, List.getElem?_range h] <;> rfl
theorem back_spA {n : Nat} {o : List Nat} (hp : o.Perm (List.range n)) {k : Nat} (h : k < n) : spA (backOf n o) (spA o k) = k := by
  have l := perm_lt hp h
  rw [spA_back l]
  exact perm_inj hp (idx_lt hp l) h (spA_idx hp l)
theorem back_perm {n : Nat} {o : List Nat} (hp : o.Perm (List.range n)) : (backOf n o).Perm (List.range n) := by
  have e : (List.range n).map (fun k => o.idxOf k) = backOf n o := rfl
  have p := hp.map (fun k => o.idxOf k)
  refine (p.symm).trans ?_
  have : o.map (fun k => o.idxOf k) = List.range n := by
    apply List.ext_getElem
    · rw [List.length_map, perm_len hp, List.length_range]
    · intro k h1 h2
      rw [List.length_range] at h2
      rw [List.getElem_map, List.getElem_range]
      have := back_spA hp h2
      rw [spA_back (perm_lt hp h2)] at this
      rw [spA_eq]
      exact this
  rw [this]
theorem call_ok {n : Nat} {o : List Nat} (hp : o.Perm (List.range n)) {c : Cmp} (ok : CmpOk n c) : CmpOk n (callC o c) :=
  ⟨perm_lt hp ok.1, perm_lt hp ok.2.1, fun e => ok.2.2 (perm_inj hp ok.1 ok.2.1 e)⟩
theorem calls_ok {n : Nat} {o : List Nat} (hp : o.Perm (List.range n)) {cs : List Cmp} (ok : WebOk n cs) : WebOk n (cs.map (callC o)) :=
  ⟨by rw [List.length_map]; exact ok.1, fun d hd => by
    obtain ⟨c, hc, rfl⟩ := List.mem_map.mp hd
    exact call_ok hp (ok.2 c hc)⟩
theorem call_back {n : Nat} {o : List Nat} (hp : o.Perm (List.range n)) {cs : List Cmp} (ok : WebOk n cs) : (cs.map (callC o)).map (callC (backOf n o)) = cs := by
  rw [List.map_map]
  conv => rhs; rw [← List.map_id cs]
  apply List.map_congr_left
  intro c hc
  obtain ⟨h1, h2, _⟩ := ok.2 c hc
  show (spA _ (spA o c.1), spA _ (spA o c.2)) = c
  rw [back_spA hp h1, back_spA hp h2]
theorem goes_called {n : Nat} {o : List Nat} (hp : o.Perm (List.range n)) {cs : List Cmp} : CmpsOk n cs → ∀ {r s : Row}, r.length = n → s.length = n → (∀ k, k < n → at0 s (spA o k) = at0 r k) → ∀ k, k < n → at0 (gone (cs.map (callC o)) s) (spA o k) = at0 (gone cs r) k := by
  induction cs with
  | nil => intro _ r s _ _ h; exact h
  | cons c cs ih =>
    intro ok r s hr hs h
    have okc := ok c (List.mem_cons_self ..)
    refine ih (fun d hd => ok d (List.mem_cons_of_mem _ hd)) (r := goC r c) (s := goC s (callC o c)) (by rw [goC_len, hr]) (by rw [goC_len, hs]) fun k hk => ?_
    rw [goC_at hs (call_ok hp okc), goC_at hr okc]
    show (if spA o c.2 = spA o k then max (at0 s (spA o c.1)) (at0 s (spA o c.2)) else if spA o c.1 = spA o k then min (at0 s (spA o c.1)) (at0 s (spA o c.2)) else at0 s (spA o k)) = _
    rw [h _ okc.1, h _ okc.2.1, h _ hk]
    by_cases z : c.2 = k
    · rw [if_pos z, if_pos (by rw [z])]
    · rw [if_neg z, if_neg fun e => z (perm_inj hp okc.2.1 hk e)]
      by_cases y : c.1 = k
      · rw [if_pos y, if_pos (by rw [y])]
      · rw [if_neg y, if_neg fun e => y (perm_inj hp okc.1 hk e)]
theorem at0_rng {n : Nat} {f : Nat → Int} {k : Nat} (h : k < n) : at0 ((List.range n).map f) k = f k := by
  unfold at0
  rw [List.getD_eq_getElem?_getD, List.getElem?_map, List.getElem?_range h] <;> rfl
theorem called_len {n : Nat} {o : List Nat} {r : Row} : (calledR n o r).length = n := by
  unfold calledR
  rw [List.length_map, List.length_range]
theorem gone_called {n : Nat} {o : List Nat} (hp : o.Perm (List.range n)) {cs : List Cmp} (ok : CmpsOk n cs) {r : Row} (hr : r.length = n) : gone (cs.map (callC o)) (calledR n o r) = calledR n o (gone cs r) := by
  refine row_ext (n := n) (by rw [gone_len, called_len]) called_len fun k hk => ?_
  have hj := idx_lt hp hk
  have g := goes_called hp ok hr (s := calledR n o r) called_len (fun j hj => by
    unfold calledR
    rw [at0_rng (perm_lt hp hj), back_spA hp hj]) _ hj
  rw [spA_idx hp hk] at g
  rw [g]
  unfold calledR
  rw [at0_rng hk, spA_back hk]
theorem up_ok {n : Nat} {c : Cmp} (ok : CmpOk n c) : CmpOk n (upC n c) := by
  obtain ⟨h1, h2, h3⟩ := ok
  refine ⟨?_, ?_, ?_⟩ <;> show _ <;> unfold upC <;> dsimp only <;> omega
theorem ups_ok {n : Nat} {cs : List Cmp} (ok : WebOk n cs) : WebOk n (cs.map (upC n)) :=
  ⟨by rw [List.length_map]; exact ok.1, fun d hd => by
    obtain ⟨c, hc, rfl⟩ := List.mem_map.mp hd
    exact up_ok (ok.2 c hc)⟩
theorem up_up {n : Nat} {cs : List Cmp} (ok : WebOk n cs) : (cs.map (upC n)).map (upC n) = cs := by
  rw [List.map_map]
  conv => rhs; rw [← List.map_id cs]
  apply List.map_congr_left
  intro c hc
  obtain ⟨h1, h2, _⟩ := ok.2 c hc
  show (n - 1 - (n - 1 - c.1), n - 1 - (n - 1 - c.2)) = c
  rw [show n - 1 - (n - 1 - c.1) = c.1 by omega, show n - 1 - (n - 1 - c.2) = c.2 by omega]
theorem goes_up {n : Nat} {cs : List Cmp} : CmpsOk n cs → ∀ {r s : Row}, r.length = n → s.length = n → (∀ k, k < n → at0 s (n - 1 - k) = 0 - at0 r k) → ∀ k, k < n → at0 (gone (cs.map (upC n)) s) (n - 1 - k) = 0 - at0 (gone cs r) k := by
  induction cs with
  | nil => intro _ r s _ _ h; exact h
  | cons c cs ih =>
    intro ok r s hr hs h
    have okc := ok c (List.mem_cons_self ..)
    have h1 := okc.1
    have h2 := okc.2.1
    have h3 := okc.2.2
    refine ih (fun d hd => ok d (List.mem_cons_of_mem _ hd)) (r := goC r c) (s := goC s (upC n c)) (by rw [goC_len, hr]) (by rw [goC_len, hs]) fun k hk => ?_
    rw [goC_at hs (up_ok okc), goC_at hr okc]
    show (if n - 1 - c.1 = n - 1 - k then max (at0 s (n - 1 - c.2)) (at0 s (n - 1 - c.1)) else if n - 1 - c.2 = n - 1 - k then min (at0 s (n - 1 - c.2)) (at0 s (n - 1 - c.1)) else at0 s (n - 1 - k)) = _
    rw [h _ h1, h _ h2, h _ hk]
    by_cases z : c.2 = k
    · rw [if_pos z, if_neg (by omega), if_pos (by rw [z])]
      omega
    · rw [if_neg z]
      by_cases y : c.1 = k
      · rw [if_pos y, if_pos (by rw [y])]
        omega
      · rw [if_neg y, if_neg (by omega), if_neg (by omega)]
theorem turn_len {r : Row} : (turnR r).length = r.length := by
  unfold turnR
  rw [List.length_map, List.length_reverse]
theorem at0_turn {n : Nat} {r : Row} (hr : r.length = n) {k : Nat} (h : k < n) : at0 (turnR r) (n - 1 - k) = 0 - at0 r k := by
  unfold at0 turnR
  rw [List.getD_eq_getElem?_getD, List.getD_eq_getElem?_getD, List.getElem?_map, List.getElem?_reverse (by omega), hr, show n - 1 - (n - 1 - k) = k by omega, List.getElem?_eq_getElem (by omega)] <;> rfl
theorem gone_turned {n : Nat} {cs : List Cmp} (ok : CmpsOk n cs) {r : Row} (hr : r.length = n) : gone (cs.map (upC n)) (turnR r) = turnR (gone cs r) := by
  refine row_ext (n := n) (by rw [gone_len, turn_len, hr]) (by rw [turn_len, gone_len, hr]) fun k hk => ?_
  have g := goes_up ok hr (s := turnR r) (by rw [turn_len, hr]) (fun j hj => at0_turn hr hj) (n - 1 - k) (by omega)
  have e := at0_turn (n := n) (r := gone cs r) (by rw [gone_len, hr]) (k := n - 1 - k) (by omega)
  rw [show n - 1 - (n - 1 - k) = k by omega] at g e
  rw [g, e]
theorem bes_ok {n m : Nat} {c : Cmp} (ok : CmpOk m c) : CmpOk (n + m) (besC n c) := by
  obtain ⟨h1, h2, h3⟩ := ok
  refine ⟨?_, ?_, ?_⟩ <;> show _ <;> unfold besC <;> dsimp only <;> omega
theorem cmp_more {n m : Nat} {c : Cmp} (ok : CmpOk n c) : CmpOk (n + m) c := by
  obtain ⟨h1, h2, h3⟩ := ok
  exact ⟨by omega, by omega, h3⟩
theorem bes_all {n m : Nat} {cs ds : List Cmp} (ok : CmpsOk n cs) (od : CmpsOk m ds) : CmpsOk (n + m) (cs ++ ds.map (besC n)) := fun d hd => by
  rcases List.mem_append.mp hd with h | h
  · exact cmp_more (ok d h)
  · obtain ⟨c, hc, rfl⟩ := List.mem_map.mp h
    exact bes_ok (od c hc)
theorem at0_app1 {a b : Row} {k : Nat} (h : k < a.length) : at0 (a ++ b) k = at0 a k := by
  unfold at0
  rw [List.getD_eq_getElem?_getD, List.getD_eq_getElem?_getD, List.getElem?_append_left h]
theorem at0_app2 {a b : Row} {k : Nat} : at0 (a ++ b) (k + a.length) = at0 b k := by
  unfold at0
  rw [List.getD_eq_getElem?_getD, List.getD_eq_getElem?_getD, List.getElem?_append_right (by omega), show k + a.length - a.length = k by omega]
theorem goC_app1 {n : Nat} {a b : Row} {c : Cmp} (ha : a.length = n) (ok : CmpOk n c) : goC (a ++ b) c = goC a c ++ b := by
  obtain ⟨h1, h2, h3⟩ := ok
  unfold goC
  rw [at0_app1 (by omega), at0_app1 (by omega)]
  split
  · rw [List.set_append_left _ _ (by omega), List.set_append_left _ _ (by rw [List.length_set]; omega)]
  · rfl
theorem goC_app2 {n : Nat} {a b : Row} {c : Cmp} (ha : a.length = n) : goC (a ++ b) (besC n c) = a ++ goC b c := by
  subst ha
  unfold goC besC
  dsimp only
  rw [at0_app2, at0_app2]
  split
  · rw [List.set_append_right _ _ (by omega), List.set_append_right _ _ (by omega), Nat.add_sub_cancel, Nat.add_sub_cancel]
  · rfl
theorem gone_app1 {n : Nat} {cs : List Cmp} : ∀ {a b : Row}, a.length = n → CmpsOk n cs → gone cs (a ++ b) = gone cs a ++ b := by
  induction cs with
  | nil => intro a b _ _; rfl
  | cons c cs ih =>
    intro a b ha ok
    show gone cs (goC (a ++ b) c) = gone cs (goC a c) ++ b
    rw [goC_app1 ha (ok c (List.mem_cons_self ..)), ih (by rw [goC_len, ha]) fun d hd => ok d (List.mem_cons_of_mem _ hd)]
theorem gone_app2 {n : Nat} {ds : List Cmp} : ∀ {a b : Row}, a.length = n → gone (ds.map (besC n)) (a ++ b) = a ++ gone ds b := by
  induction ds with
  | nil => intro a b _; rfl
  | cons c cs ih =>
    intro a b ha
    show gone (cs.map (besC n)) (goC (a ++ b) (besC n c)) = a ++ gone cs (goC b c)
    rw [goC_app2 ha, ih ha]
theorem gone_beside {n : Nat} {cs ds : List Cmp} {r : Row} (ok : CmpsOk n cs) (h : n ≤ r.length) : gone (cs ++ ds.map (besC n)) r = gone cs (r.take n) ++ gone ds (r.drop n) := by
  have e : gone (cs ++ ds.map (besC n)) r = gone (ds.map (besC n)) (gone cs r) := by
    unfold gone
    rw [List.foldl_append]
  rw [e]
  conv => lhs; rw [← List.take_append_drop n r]
  have l : (r.take n).length = n := by rw [List.length_take]; omega
  rw [gone_app1 l ok, gone_app2 (by rw [gone_len, l])]
section
variable {K : PySem.W.Frag} {σ : L2.St} {H : Hp} {te : TE} {j1 j2 : Nat} {a : Addr} {Q : VK}
def cmU (cs : List Cmp) (i : Nat) : V × V := match cs[i]? with
  | some c => (.int (c.1 : Int), .int (c.2 : Int))
  | none => (.non, .non)
/-- [(.., ..) for a, b in comparers] -/
theorem lc_cmps {k : Nat} {vs : List Nat} {ps : List Addr} {cs : List Cmp} (f : Cmp → Cmp) (hk : σ[k]? = some (some (.ref a))) (hx : SqL K H a (Rfs ps)) (hp : Prs K H ps cs) (few : cs.length ≤ 1000)
    (hvs : ∀ v w, wipe (((wipe σ vs).set j1 v).set j2 w) vs = wipe σ vs)
    (turn : ∀ (c : Cmp) (H' : Hp) (Q' : VK), c ∈ cs → Same H H' → (∀ T, H' T = none → Q' (.ref T) (upd H' T (.tup (V2 (f c))))) → te (((wipe σ vs).set j1 (some (.int (c.1 : Int)))).set j2 (some (.int (c.2 : Int)))) H' Q')
    (done : ∀ D H' qs, Same H H' → H D = none → H' D = some (.lst (Rfs qs)) → Prs K H' qs (cs.map f) → Q (.ref D) H') :
    tLc (iList K (tVar k)) (gTup K 2 (gCons (gName j1) (gCons (gName j2) gNil))) tYes te vs σ H Q := by
  have lp := hp.length
  refine lc_pairs (a := a) (ps := ps) (cmU cs) hk hx hvs (fun D i acc H' => Same H H' ∧ ∃ qs, acc = Rfs qs ∧ Prs K H' qs ((cs.take i).map f)) (fun D nD => ⟨same_new nD, [], rfl, .nil⟩) (fun D i acc H' nD g => g.1.seq hx) ?_ ?_ ?_
  · intro D i p acc H' nD gp hD g
    obtain ⟨c, gc, hc⟩ := hp.getL gp
    unfold cmU
    rw [gc]
    exact Same.sqt g.1 hc
  · intro D i acc H' nD hi hD g
    obtain ⟨s, qs, rfl, hq⟩ := g
    obtain ⟨c, gc⟩ := get_of (xs := cs) (i := i) (by omega)
    have lq := hq.length
    rw [List.length_map, List.length_take] at lq
    unfold cmU
    rw [gc]
    refine .yes (turn c H' _ (List.mem_of_getElem? gc) s fun T nT => ?_)
    have sT := same_new (o := .tup (V2 (f c))) nT
    refine GoOn.mk (sT _ _ hD) (by rw [rfs_len]; omega) ⟨same_mut (s.trans sT) nD, qs ++ [T], ?_, ?_⟩
    · unfold Rfs
      rw [List.map_append] <;> rfl
    · rw [List.take_add_one, gc, List.map_append]
      exact prs_upd (sT _ _ hD) ((Same.prs sT hq).snoc (.inl (.inl upd_same)))
  · intro D acc H' nD hD g
    obtain ⟨s, qs, rfl, hq⟩ := g
    rw [lp, List.take_length] at hq
    exact done D H' qs s nD hD hq
/-- [.. for k in range(n)], numbers -/
theorem lc_row {ta : TA} {vs : List Nat} {n : Nat} (f : Nat → Int) (ht : ∀ Q, Q [V.int (n : Int)] H → ta σ H Q) (hn : n ≤ 1000) (hvs : ∀ v, wipe ((wipe σ vs).set j1 v) vs = wipe σ vs)
    (turn : ∀ (i : Nat) (H' : Hp) (Q' : VK), i < n → Same H H' → Q' (.int (f i)) H' → te ((wipe σ vs).set j1 (some (.int (i : Int)))) H' Q')
    (done : ∀ D H', Same H H' → H D = none → H' D = some (.lst (vis ((List.range n).map f))) → Q (.ref D) H') :
    tLc (iRng1 ta) (gName j1) tYes te vs σ H Q := by
  refine lc_rng ht (by omega) hvs (fun D i acc H' => Same H H' ∧ acc = vis ((List.range i).map f)) (fun D nD => ⟨same_new nD, rfl⟩) ?_ ?_
  · intro D i acc H' nD hi hD g
    obtain ⟨s, rfl⟩ := g
    refine .yes (turn i H' _ hi s ?_)
    refine GoOn.mk hD (by rw [ints_len, List.length_map, List.length_range]; omega) ⟨same_mut s nD, ?_⟩
    unfold vis
    rw [List.range_succ, List.map_append, List.map_append] <;> rfl
  · intro D acc H' nD hD g
    obtain ⟨s, rfl⟩ := g
    exact done D H' s nD hD
/-- [.. for x in row], numbers -/
theorem lck_row {vs : List Nat} {r : Row} (f : Int → Int) (hx : SqL K H a (vis r)) (few : r.length ≤ 1000) (hvs : ∀ v, wipe ((wipe σ vs).set j1 v) vs = wipe σ vs)
    (turn : ∀ (z : Int) (H' : Hp) (Q' : VK), Same H H' → Q' (.int (f z)) H' → te ((wipe σ vs).set j1 (some (.int z))) H' Q')
    (done : ∀ D H', Same H H' → H D = none → H' D = some (.lst (vis (r.map f))) → Q (.ref D) H') :
    LcK (gName j1) tYes te vs σ Q (Itl K a) H := by
  refine lck_list (xs := vis r) hx hvs (fun D i acc H' => Same H H' ∧ acc = vis ((r.take i).map f)) (fun D nD => ⟨same_new nD, rfl⟩) (fun D i acc H' nD g => g.1.seq hx) ?_ ?_
  · intro D i x acc H' nD hx hi hD g
    obtain ⟨s, rfl⟩ := g
    obtain ⟨z, rfl, hz⟩ := ints_get hx
    refine .yes (turn z H' _ s ?_)
    refine GoOn.mk hD (by rw [ints_len, List.length_map, List.length_take]; omega) ⟨same_mut s nD, ?_⟩
    have e : r[i]? = some z := hz
    unfold vis
    rw [List.take_add_one, e, List.map_append, List.map_append] <;> rfl
  · intro D acc H' nD hD g
    obtain ⟨s, rfl⟩ := g
    rw [show (vis r).length = r.length from ints_len _, List.take_length] at hD
    exact done D H' s nD hD
end
section
variable {K : PySem.W.Frag}
def natI (ts : List Nat) : Row := ts.map fun (t : Nat) => (t : Int)
theorem natL_vis (ts : List Nat) : natL ts = vis (natI ts) := by
  unfold natL natI vis
  rw [List.map_map] <;> rfl
theorem natL_sp {sp : List Nat} {k : Nat} (h : k < sp.length) : (natL sp)[k]? = some (.int (spA sp k : Int)) := by
  unfold natL
  rw [List.getElem?_map, spA_get h] <;> rfl
theorem rgV_nat (m : Nat) : rgV 0 (m : Int) = natL (List.range m) := by
  unfold rgV natL
  rw [show ((m : Int) - 0).toNat = m by omega]
  apply List.map_congr_left
  intro k _
  rw [Int.zero_add]
theorem eq_nats {H : Hp} {a b : Addr} {r s : List Nat} {Q : VK} (h1 : SqL K H a (natL r)) (h2 : SqL K H b (natL s)) (q : Q (.bl (decide (natI r = natI s))) H) : rEqD K (.ref a) (.ref b) H Q := by
  rw [natL_vis] at h1 h2
  exact ⟨dI (natI r), dI (natI s), dp_row h1, dp_row h2, enc_row.shaped (by decide) _, enc_row.shaped (by decide) _, by rw [enc_row.eq]; exact q⟩
theorem ne_rows {H : Hp} {a b : Addr} {r s : Row} {Q : VK} (h1 : SqL K H a (vis r)) (h2 : SqL K H b (vis s)) (q : Q (.bl (!decide (r = s))) H) : rNeD K (.ref a) (.ref b) H Q :=
  ⟨dI r, dI s, dp_row h1, dp_row h2, enc_row.shaped (by decide) _, enc_row.shaped (by decide) _, by rw [enc_row.eq]; exact q⟩
theorem ne_webs {H : Hp} {a b : Addr} {ps qs : List Addr} {cs ds : List Cmp} {Q : VK} (h1 : SqL K H a (Rfs ps)) (h2 : Prs K H ps cs) (h3 : SqL K H b (Rfs qs)) (h4 : Prs K H qs ds) (q : Q (.bl (!decide (cs = ds))) H) : rNeD K (.ref a) (.ref b) H Q :=
  ⟨dCs cs, dCs ds, dp_web h1 h2, dp_web h3 h4, enc_cmps.shaped (by decide) _, enc_cmps.shaped (by decide) _, by rw [enc_cmps.eq]; exact q⟩
theorem eqv_tup2 {α β : Type} [DecidableEq α] [DecidableEq β] {ea : α → PyData} {eb : β → PyData} {k l : Nat} (h1 : Enc ea k) (h2 : Enc eb l) (x : α) (y : β) : PyData.eqv (.tuple [ea x, eb y]) (.tuple [ea x, eb y]) = true := by
  show (PyData.eqv (ea x) (ea x) && (PyData.eqv (eb y) (eb y) && true)) = true
  rw [h1.eq, h2.eq, decide_eq_true rfl, decide_eq_true rfl] <;> rfl
theorem shaped_tup2 {α β : Type} [DecidableEq α] [DecidableEq β] {ea : α → PyData} {eb : β → PyData} {k l : Nat} (h1 : Enc ea k) (h2 : Enc eb l) (hk : k ≤ 63) (hl : l ≤ 63) (x : α) (y : β) : SeqAt.shaped (.tuple [ea x, eb y]) = true := by
  have e1 := h1.dep x
  have e2 := h2.dep y
  have d : PyData.depth (.tuple [ea x, eb y]) ≤ 64 := by
    show max (ea x).depth (max (eb y).depth 0) + 1 ≤ 64
    omega
  have l1 : PyData.canLay0 (.tuple [ea x, eb y]) = true := by
    show ((ea x).canLay0 && ((eb y).canLay0 && true)) = true
    rw [h1.lay, h2.lay] <;> rfl
  unfold SeqAt.shaped
  rw [l1, decide_eq_true d] <;> rfl
theorem sorted_spots {n : Nat} {sp : List Nat} {ns : List Int} (hp : sp.Perm (List.range n)) (h1 : ns.Perm (natI sp)) (h2 : ns.Pairwise (· ≤ ·)) : ns = natI (List.range n) := by
  refine List.Perm.eq_of_pairwise (fun a b _ _ k1 k2 => Int.le_antisymm k1 k2) h2 ?_ (h1.trans (hp.map _))
  unfold natI
  refine List.Pairwise.map _ ?_ List.pairwise_lt_range
  intro a b h
  omega
theorem row_get {r : Row} {k : Nat} (h : k < r.length) : (vis r)[k]? = some (.int (at0 r k)) := by
  unfold vis
  rw [List.getElem?_map, at0_get h] <;> rfl
end
end Sw

set_option Elab.async false
set_option linter.all false
set_option maxRecDepth 100000
set_option maxHeartbeats 4000000
namespace Sw
open PySem PySem.Spec PyProof.Rows L2
/-! ## Made webs: held against all rows of noughts and ones by computing -/
def goB (w : Nat) (c : Cmp) : Nat := if (w.testBit c.1 && !w.testBit c.2) = true then (w ^^^ (1 <<< c.1)) ^^^ (1 <<< c.2) else w
def goneB (cs : List Cmp) (w : Nat) : Nat := cs.foldl goB w
def srtB (n w : Nat) : Bool := (List.range (n - 1)).all fun k => !w.testBit k || w.testBit (k + 1)
theorem at0_bare {n w k : Nat} (h : k < n) : at0 (bareR n w) k = if w.testBit k = true then 1 else 0 := by
  unfold bareR
  rw [at0_rng h, Nat.testBit_eq_decide_div_mod_eq]
  have : w / 2 ^ k % 2 = 0 ∨ w / 2 ^ k % 2 = 1 := by omega
  rcases this with e | e <;> rw [e] <;> rfl
theorem bare_ext {n w w' : Nat} (h : ∀ k, k < n → w.testBit k = w'.testBit k) : bareR n w = bareR n w' :=
  row_ext (n := n) (bareR_len ..) (bareR_len ..) fun k hk => by rw [at0_bare hk, at0_bare hk, h k hk]
theorem bit_one {j k : Nat} : (1 <<< j).testBit k = decide (j = k) := by
  rw [Nat.one_shiftLeft, Nat.testBit_two_pow]
theorem goC_bare {n w : Nat} {c : Cmp} (ok : CmpOk n c) : goC (bareR n w) c = bareR n (goB w c) := by
  obtain ⟨h1, h2, h3⟩ := id ok
  refine row_ext (n := n) (by rw [goC_len, bareR_len]) (bareR_len ..) fun k hk => ?_
  rw [goC_at (bareR_len ..) ok, at0_bare h1, at0_bare h2, at0_bare hk, at0_bare hk]
  unfold goB
  by_cases z : (w.testBit c.1 && !w.testBit c.2) = true
  · rw [if_pos z]
    rw [Bool.and_eq_true, Bool.not_eq_true'] at z
    obtain ⟨z1, z2⟩ := z
    rw [Nat.testBit_xor, Nat.testBit_xor, bit_one, bit_one, z1, z2]
    by_cases e2 : c.2 = k
    · subst e2
      rw [if_pos rfl, z2, decide_eq_false h3, decide_eq_true rfl] <;> decide
    · rw [if_neg e2, decide_eq_false e2]
      by_cases e1 : c.1 = k
      · subst e1
        rw [if_pos rfl, z1, decide_eq_true rfl] <;> decide
      · rw [if_neg e1, decide_eq_false e1, Bool.xor_false, Bool.xor_false]
  · rw [if_neg z]
    by_cases e2 : c.2 = k
    · subst e2
      rw [if_pos rfl]
      cases b1 : w.testBit c.1 <;> cases b2 : w.testBit c.2 <;> simp_all <;> decide
    · rw [if_neg e2]
      by_cases e1 : c.1 = k
      · subst e1
        rw [if_pos rfl]
        cases b1 : w.testBit c.1 <;> cases b2 : w.testBit c.2 <;> simp_all <;> decide
      · rw [if_neg e1]
theorem gone_bare {n : Nat} {cs : List Cmp} : CmpsOk n cs → ∀ w, gone cs (bareR n w) = bareR n (goneB cs w) := by
  induction cs with
  | nil => intro _ w; rfl
  | cons c cs ih =>
    intro ok w
    show gone cs (goC (bareR n w) c) = bareR n (goneB cs (goB w c))
    rw [goC_bare (ok c List.mem_cons_self), ih fun d hd => ok d (List.mem_cons_of_mem _ hd)]
theorem srt_step {r : Row} (h : ∀ k, k + 1 < r.length → at0 r k ≤ at0 r (k + 1)) : Srt r := by
  rw [Srt, List.pairwise_iff_getElem]
  intro i j hi hj hij
  have key : ∀ d, i + d < r.length → at0 r i ≤ at0 r (i + d) := fun d => by
    induction d with
    | zero => intro _; exact Int.le_refl _
    | succ d ih =>
      intro hd
      exact Int.le_trans (ih (by omega)) (h (i + d) (by omega))
  have := key (j - i) (by omega)
  rw [show i + (j - i) = j by omega] at this
  have e1 := at0_get hi
  have e2 := at0_get hj
  rw [List.getElem?_eq_getElem hi] at e1
  rw [List.getElem?_eq_getElem hj] at e2
  rw [Option.some.inj e1, Option.some.inj e2]
  exact this
theorem srt_bare {n w : Nat} (h : srtB n w = true) : Srt (bareR n w) := by
  refine srt_step fun k hk => ?_
  rw [bareR_len] at hk
  unfold srtB at h
  rw [List.all_eq_true] at h
  have := h k (List.mem_range.mpr (by omega))
  rw [at0_bare (by omega), at0_bare hk]
  cases b1 : w.testBit k <;> cases b2 : w.testBit (k + 1) <;> simp_all
/-- a comparer of lines that are there, straight -/
def strB (n : Nat) (c : Cmp) : Bool := decide (c.1 < c.2) && decide (c.2 < n)
theorem strB_ok {n : Nat} {cs : List Cmp} (h : cs.all (strB n) = true) : (∀ c ∈ cs, c.1 < c.2 ∧ c.2 < n) ∧ CmpsOk n cs := by
  rw [List.all_eq_true] at h
  have g : ∀ c ∈ cs, c.1 < c.2 ∧ c.2 < n := fun c hc => by
    have := h c hc
    unfold strB at this
    rw [Bool.and_eq_true, decide_eq_true_eq, decide_eq_true_eq] at this
    exact this
  exact ⟨g, fun c hc => by
    obtain ⟨h1, h2⟩ := g c hc
    exact ⟨by omega, h2, by omega⟩⟩
/-- a web that sorts -/
structure SortOk (n : Nat) (cs : List Cmp) : Prop where
  few : cs.length ≤ 60
  str : ∀ c ∈ cs, c.1 < c.2 ∧ c.2 < n
  ok : CmpsOk n cs
  srt : ∀ r : Row, r.length = n → Srt (gone cs r)
def sortChk (n : Nat) (cs : List Cmp) : Bool := decide (cs.length ≤ 60) && (cs.all (strB n) && (List.range (2 ^ n)).all fun w => srtB n (goneB cs w))
theorem sort_ok {n : Nat} {cs : List Cmp} (h : sortChk n cs = true) : SortOk n cs := by
  unfold sortChk at h
  rw [Bool.and_eq_true, Bool.and_eq_true, decide_eq_true_eq] at h
  obtain ⟨h1, h2, h3⟩ := h
  obtain ⟨g, ok⟩ := strB_ok h2
  refine ⟨h1, g, ok, fun r hr => zero_one ok (fun b hb => ?_) hr⟩
  obtain ⟨w, hw, rfl⟩ := List.mem_map.mp hb
  rw [gone_bare ok]
  exact srt_bare (List.all_eq_true.mp h3 w hw)
/-- a part in order, of noughts and ones -/
def half (m i : Nat) : Row := List.replicate (m - i) 0 ++ List.replicate i 1
theorem half_len {m i : Nat} (h : i ≤ m) : (half m i).length = m := by
  unfold half
  rw [List.length_append, List.length_replicate, List.length_replicate]
  omega
theorem half_of : ∀ (r : Row), Bits r → Srt r → ∃ i, i ≤ r.length ∧ r = half r.length i
  | [], _, _ => ⟨0, Nat.le_refl _, rfl⟩
  | x :: r, hb, hs => by
    rw [Srt, List.pairwise_cons] at hs
    obtain ⟨i, hi, e⟩ := half_of r (fun y hy => hb y (List.mem_cons_of_mem _ hy)) hs.2
    rcases hb x List.mem_cons_self with hx | hx
    · refine ⟨i, by rw [List.length_cons]; omega, ?_⟩
      unfold half at e ⊢
      rw [List.length_cons, show r.length + 1 - i = r.length - i + 1 by omega, List.replicate_succ, List.cons_append, ← e, hx]
    · have all : ∀ y ∈ r, y = 1 := fun y hy => by
        have h1 := hs.1 y hy
        rcases hb y (List.mem_cons_of_mem _ hy) with h | h
        · omega
        · exact h
      refine ⟨r.length + 1, Nat.le_refl _, ?_⟩
      unfold half
      rw [List.length_cons, Nat.sub_self, List.replicate_succ, hx]
      show 1 :: r = [] ++ 1 :: List.replicate r.length 1
      rw [List.nil_append]
      congr 1
      exact List.eq_replicate_iff.mpr ⟨rfl, all⟩
/-- a web that merges -/
structure MergeOk (m k : Nat) (cs : List Cmp) : Prop where
  few : cs.length ≤ 60
  str : ∀ c ∈ cs, c.1 < c.2 ∧ c.2 < m + k
  ok : CmpsOk (m + k) cs
  mer : ∀ a b : Row, a.length = m → b.length = k → Srt a → Srt b → Srt (gone cs (a ++ b))
theorem zero_one_row {n : Nat} {cs : List Cmp} {r : Row} (ok : CmpsOk n cs) (hr : r.length = n) (h : ∀ t, Srt (gone cs (r.map (thr t)))) : Srt (gone cs r) := by
  rw [Srt, List.pairwise_iff_getElem]
  intro i j hi hj hij
  by_cases g : (gone cs r)[i] ≤ (gone cs r)[j]
  · exact g
  · exfalso
    have hb := h (gone cs r)[i]
    rw [gone_map (thr_mono _) cs r ok hr, Srt, List.pairwise_iff_getElem] at hb
    have := hb i j (by rw [List.length_map]; exact hi) (by rw [List.length_map]; exact hj) hij
    rw [List.getElem_map, List.getElem_map] at this
    unfold thr at this
    rw [if_pos (Int.le_refl _), if_neg (by omega)] at this
    omega
theorem half_thr {a : Row} (t : Int) (hs : Srt a) : ∃ i, i ≤ a.length ∧ a.map (thr t) = half a.length i := by
  have hb : Bits (a.map (thr t)) := fun x hx => by
    obtain ⟨y, _, rfl⟩ := List.mem_map.mp hx
    exact thr_bit t y
  have hs2 : Srt (a.map (thr t)) := List.Pairwise.map _ (fun x y h => by
    unfold thr
    split <;> split <;> omega) hs
  obtain ⟨i, hi, e⟩ := half_of _ hb hs2
  rw [List.length_map] at hi e
  exact ⟨i, hi, e⟩
/-- both halves as a number -/
def halfN (m k i j : Nat) : Nat := ((2 ^ i - 1) <<< (m - i)) + ((2 ^ j - 1) <<< (m + k - j))
def mergeChk (m k : Nat) (cs : List Cmp) : Bool := decide (cs.length ≤ 60) && (cs.all (strB (m + k)) &&
  (List.range (m + 1)).all fun i => (List.range (k + 1)).all fun j => decide (half m i ++ half k j = bareR (m + k) (halfN m k i j)) && srtB (m + k) (goneB cs (halfN m k i j)))
theorem merge_ok {m k : Nat} {cs : List Cmp} (h : mergeChk m k cs = true) : MergeOk m k cs := by
  unfold mergeChk at h
  rw [Bool.and_eq_true, Bool.and_eq_true, decide_eq_true_eq] at h
  obtain ⟨h1, h2, h3⟩ := h
  obtain ⟨g, ok⟩ := strB_ok h2
  refine ⟨h1, g, ok, fun a b ha hb sa sb => zero_one_row ok (by rw [List.length_append, ha, hb]) fun t => ?_⟩
  obtain ⟨i, hi, e1⟩ := half_thr t sa
  obtain ⟨j, hj, e2⟩ := half_thr t sb
  rw [List.map_append, e1, e2, ha, hb]
  rw [ha] at hi
  rw [hb] at hj
  rw [List.all_eq_true] at h3
  have h4 := h3 i (List.mem_range.mpr (by omega))
  rw [List.all_eq_true] at h4
  have h5 := h4 j (List.mem_range.mpr (by omega))
  rw [Bool.and_eq_true, decide_eq_true_eq] at h5
  rw [h5.1, gone_bare ok]
  exact srt_bare h5.2
theorem goC_prm {n : Nat} {r : Row} {c : Cmp} (hr : r.length = n) (ok : CmpOk n c) : (goC r c).Perm r := by
  obtain ⟨h1, h2, h3⟩ := ok
  unfold goC
  split
  · have p := List.set_set_perm (as := r) (i := c.1) (j := c.2) (by omega) (by omega)
    have e1 := at0_get (r := r) (k := c.1) (by omega)
    have e2 := at0_get (r := r) (k := c.2) (by omega)
    rw [List.getElem?_eq_getElem (by omega)] at e1 e2
    rw [← Option.some.inj e1, ← Option.some.inj e2]
    exact p
  · exact .refl _
theorem gone_prm {n : Nat} {cs : List Cmp} : CmpsOk n cs → ∀ {r : Row}, r.length = n → (gone cs r).Perm r := by
  induction cs with
  | nil => intro _ r _; exact .refl _
  | cons c cs ih =>
    intro ok r hr
    show (gone cs (goC r c)).Perm r
    exact (ih (fun d hd => ok d (List.mem_cons_of_mem _ hd)) (by rw [goC_len, hr])).trans (goC_prm hr (ok c List.mem_cons_self))
theorem srt_uniq {r s : Row} (hp : r.Perm s) (hr : Srt r) (hs : Srt s) : r = s :=
  List.Perm.eq_of_pairwise (fun a b _ _ k1 k2 => Int.le_antisymm k1 k2) hr hs hp
end Sw

set_option Elab.async false
set_option linter.all false
set_option maxRecDepth 100000
set_option maxHeartbeats 4000000
namespace Sw
open PySem PySem.Spec PyProof.Rows L2
/-! ## x[k::2], k nought or one -/
/-- every second one, the first one ahead -/
def evs {α : Type} : List α → List α
  | [] => []
  | [x] => [x]
  | x :: _ :: r => x :: evs r
theorem evs_pick {α : Type} : ∀ (ys : List α), (List.range ((ys.length + 1) / 2)).filterMap (fun k => ys[2 * k]?) = evs ys
  | [] => by
    have e : (([] : List α).length + 1) / 2 = 0 := by
      rw [List.length_nil]
    rw [e]
    rfl
  | [x] => by
    have e : ([x].length + 1) / 2 = 1 := by
      rw [List.length_singleton]
    rw [e]
    rfl
  | x :: y :: r => by
    have ih := evs_pick r
    have e : ((x :: y :: r).length + 1) / 2 = (r.length + 1) / 2 + 1 := by
      rw [List.length_cons, List.length_cons]
      omega
    rw [e, List.range_succ_eq_map, List.filterMap_cons]
    show (x :: List.filterMap (fun k => (x :: y :: r)[2 * k]?) ((List.range ((r.length + 1) / 2)).map Nat.succ)) = x :: evs r
    rw [List.filterMap_map, ← ih]
    congr 1
theorem evs_len {α : Type} : ∀ (ys : List α), (evs ys).length = (ys.length + 1) / 2
  | [] => by
    show 0 = _
    rw [List.length_nil]
  | [x] => by
    show 1 = _
    rw [List.length_singleton]
  | x :: y :: r => by
    show (evs r).length + 1 = _
    rw [evs_len r, List.length_cons, List.length_cons]
    omega
theorem evs_map {α β : Type} (f : α → β) : ∀ (ys : List α), evs (ys.map f) = (evs ys).map f
  | [] => rfl
  | [x] => rfl
  | x :: y :: r => by
    show f x :: evs (r.map f) = f x :: (evs r).map f
    rw [evs_map f r]
theorem evs_paired {α β : Type} {F : α → β → Prop} : ∀ {xs : List α} {ys : List β}, PySem.Paired F xs ys → PySem.Paired F (evs xs) (evs ys)
  | [], _, h => by cases h; exact .nil
  | [x], _, h => by
    cases h with
    | cons h t => cases t; exact .cons h .nil
  | x :: y :: r, _, h => by
    cases h with
    | cons h t =>
      cases t with
      | cons h2 t2 => exact .cons h (evs_paired t2)
theorem pick_evs (items : Array Value) {lo : Option Int} {d : Nat} (hd : (lo = none ∧ d = 0) ∨ (lo = some (d : Int) ∧ d ≤ 1)) : slicePick items lo none (some 2) = (evs (items.toList.drop d)).toArray := by
  have e : sliceRange (sliceBounds lo none (some 2) items.size).1 (sliceBounds lo none (some 2) items.size).2.1 (sliceBounds lo none (some 2) items.size).2.2 = (List.range (((items.toList.drop d).length + 1) / 2)).map fun k => d + 2 * k := by
    have hl : (items.toList.drop d).length = items.size - d := by rw [List.length_drop, Array.length_toList]
    have b : sliceBounds lo none (some 2) items.size = (((min d items.size : Nat) : Int), (items.size : Int), 2) := by
      rcases hd with ⟨rfl, rfl⟩ | ⟨rfl, h⟩
      · unfold sliceBounds
        simp
      · unfold sliceBounds
        simp
        omega
    rw [b, hl]
    show sliceRange ((min d items.size : Nat) : Int) (items.size : Int) 2 = _
    unfold sliceRange
    by_cases h : d < items.size
    · have m : min d items.size = d := by omega
      rw [m, if_pos (by decide), if_pos (by omega)]
      have c : (((items.size : Int) - (d : Int) + 2 - 1) / 2).toNat = (items.size - d + 1) / 2 := by omega
      show (List.range (((items.size : Int) - (d : Int) + 2 - 1) / 2).toNat).map _ = _
      rw [c]
      refine List.map_congr_left fun k _ => ?_
      omega
    · have m : min d items.size = items.size := by omega
      rw [m, if_pos (by decide), if_neg (by omega)]
      have c : (items.size - d + 1) / 2 = 0 := by omega
      rw [c]
      rfl
  unfold slicePick
  rw [e, List.filterMap_map, ← evs_pick]
  congr 2
  funext k
  show items[d + 2 * k]? = (items.toList.drop d)[2 * k]?
  rw [List.getElem?_drop, Array.getElem?_toList]
def tStepF (K : PySem.W.Frag) (te : TE) (tl : TO) (ts : TE) : TE := fun σ H Q => te σ H fun x H1 => tl σ H1 fun l H2 => tPart ts σ H2 fun o H4 => o = some 2 ∧ ∃ (a : Addr) (xs : List V) (d : Nat), x = .ref a ∧ SqL K H4 a xs ∧ ((l = none ∧ d = 0) ∨ (l = some (d : Int) ∧ d ≤ 1)) ∧ ∀ p, H4 p = none → Q (.ref p) (upd H4 p (.lst (evs (xs.drop d))))
section
variable {X : Cx}
theorem pe_stepF {e es : Expr} {elo : Option Expr} {te ts : TE} {tl : TO} {p3 pos : Pos} (he : PE X e te) (hlo : PO X elo tl) (hs : PE X es ts) (hl : ∀ o i, subscripted (.Slice elo none (some es) p3) false o i = operate [o, i] (getItem o i) := by intro _ _; with_unfolding_all rfl) :
    PE X (.Subscript e (.Slice elo none (some es) p3) pos) (tStepF X.K te tl ts) := by
  refine ⟨fun pins s σ H Q I h => Subscript_ (thn (he.run pins s σ H _ I h) fun v s1 hv => ?_)⟩
  obtain ⟨x, H1, I1, r1, q1⟩ := hv
  have pst : PO X (some es) (tPart ts) := po_some hs
  refine wpAny_Slice (thn (hlo.run pins s1 σ H1 _ I1 q1) fun vl s2 hl2 => ?_)
  obtain ⟨l, H2, I2, pl, q2⟩ := hl2
  refine thn (po_none.run pins s2 σ H2 (fun o H3 => o = none ∧ H3 = H2) I2 ⟨rfl, rfl⟩) fun vu s3 hu2 => ?_
  obtain ⟨u, H3, I3, pu, rfl, rfl⟩ := hu2
  refine thn (pst.run pins s3 σ H3 _ I3 q2) fun vs s4 hs4 => ?_
  obtain ⟨o, H4, I4, ps, rfl, a, xs, d, rfl, hx, hk, q⟩ := hs4
  cases r1
  have I5 : Inv X pins σ H4 { s4 with heap := s4.heap.push { cls := .type "slice", data := .fields #[vl, vu, vs] } } := I4.kept (t' := s4.toks) fun b ob z => Heap.get?_push_of_some _ z
  obtain ⟨its, r, ht, hz⟩ := I5.list hx
  have len := r.length
  show wpAny (model X.prog X.w) X.A (subscriptTail e (.Slice elo none (some es) p3) (.ref a) (.ref s4.heap.objs.size)) (EP X pins σ Q) X.xe { s4 with heap := s4.heap.push { cls := .type "slice", data := .fields #[vl, vu, vs] } }
  refine tail_any (ops := [.ref a, .ref s4.heap.objs.size]) ht.isList.typeIs (PySem.slot_list_getitem.lookup) ?_ (hl _ _)
  refine wpAny_getItem_list_slice ht.isList (Heap.IsSliceOf.new _ vl vu vs) pl pu ps (by decide) ?_ (by rw [List.size_toArray]; omega)
  rw [pick_evs _ hk]
  refine ⟨.ref _, _, I5.laid (t' := s4.toks) (o := .lst (evs (xs.drop d))) (fun b ob z => Heap.get?_push_of_some _ z) (Nat.le_refl _) ?_, rfl, q _ (I5.hok.fresh (Nat.le_refl _))⟩
  refine ⟨?_, evs (its.drop d), 0, evs_paired (r.drop d), Heap.get?_push_size _ rfl⟩
  rw [evs_len, List.length_drop]
  omega
end
/-! ## A def that calls itself: no promise to begin with -/
theorem Here.none {P : Program} {w : World} {K : PySem.W.Frag} {mg : Str → Option Value} {base : Heap} {x : Str} {st : Stmt} {ps : List Str} {k : Nat} (F : Here K mg x st)
    (bd : ∀ (kV doc pm : Value) (an : Option Addr) (cdv ct : Value) (us : List Value), us.length = ps.length →
      bindArgs (PySem.W.fnOf x x (defArgs st) (defBody st) (defScope st) .none kV doc pm an cdv ct) ⟨us, []⟩ = pure (ps.zip us)) :
    Cal P w K mg base CX0 k x ps (fun _ _ _ _ => False) := by
  obtain ⟨f, fd, D, g⟩ := F.ex
  refine ⟨f, fd, ⟨fun _ _ _ _ h => h.elim, fun _ _ _ _ _ _ _ _ _ _ _ _ _ h => h.elim⟩, g, D.kp, D.bindsN bd, fun s us hl => D.bindsA bd s us hl, ?_⟩
  obtain ⟨oc, od, _, _, _, _, _, _, _, osl, _, lk, _⟩ := D.ex
  exact ⟨oc, od, osl, lk⟩
end Sw

set_option Elab.async false
set_option linter.all false
set_option maxRecDepth 100000
namespace Sw
/-! ## The made webs of the landed program -/
/-- neighbours, from the second line on -/
def ups (r : List Nat) : List Cmp := (List.range ((r.length - 1) / 2)).map fun i => (r.getD (1 + 2 * i) 0, r.getD (1 + 2 * i + 1) 0)
def mergeF : Nat → List Nat → List Nat → List Cmp
  | 0, _, _ => []
  | f + 1, a, b => if a = [] ∨ b = [] then [] else if a.length = 1 ∧ b.length = 1 then [(a.headD 0, b.headD 0)] else
      (mergeF f (evs a) (evs b) ++ mergeF f (evs (a.drop 1)) (evs (b.drop 1))) ++ ups (a ++ b)
def sortF : Nat → List Nat → List Cmp
  | 0, _ => []
  | f + 1, r => if r.length < 2 then [] else (sortF f (r.take (r.length / 2)) ++ sortF f (r.drop (r.length / 2))) ++ mergeF 5 (r.take (r.length / 2)) (r.drop (r.length / 2))
def mergeW (m k : Nat) : List Cmp := mergeF 5 (List.range m) ((List.range k).map (m + ·))
def sortW (n : Nat) : List Cmp := sortF 4 (List.range n)
theorem allM : ((List.range 11).all fun m => (List.range 11).all fun k => (decide (m + k = 0) || decide (m + k > 10)) || mergeChk m k (mergeW m k)) = true := by decide +kernel
theorem allS : ((List.range 10).all fun n => sortChk (n + 1) (sortW (n + 1))) = true := by decide +kernel
theorem merge_all {m k : Nat} (h1 : 1 ≤ m + k) (h2 : m + k ≤ 10) : MergeOk m k (mergeW m k) := by
  have h := List.all_eq_true.mp (List.all_eq_true.mp allM m (List.mem_range.mpr (by omega))) k (List.mem_range.mpr (by omega))
  rw [decide_eq_false (by omega), decide_eq_false (by omega)] at h
  exact merge_ok h
theorem sort_all {n : Nat} (h1 : 1 ≤ n) (h2 : n ≤ 10) : SortOk n (sortW n) := by
  have h := List.all_eq_true.mp allS (n - 1) (List.mem_range.mpr (by omega))
  rw [show n - 1 + 1 = n by omega] at h
  exact sort_ok h
/-! ### how many -/
theorem ups_len (r : List Nat) : (ups r).length = (r.length - 1) / 2 := by
  unfold ups
  rw [List.length_map, List.length_range]
theorem mergeF_len : ∀ (f : Nat) (a b : List Nat), (mergeF f a b).length ≤ f * (a.length + b.length)
  | 0, _, _ => by
    show 0 ≤ _
    omega
  | f + 1, a, b => by
    have h1 := mergeF_len f (evs a) (evs b)
    have h2 := mergeF_len f (evs (a.drop 1)) (evs (b.drop 1))
    have e : (f + 1) * (a.length + b.length) = f * (a.length + b.length) + (a.length + b.length) := by rw [Nat.add_mul, Nat.one_mul]
    unfold mergeF
    split
    · show 0 ≤ _
      omega
    · split
      · rename_i z
        show 1 ≤ _
        rw [e]
        omega
      · rw [List.length_append, List.length_append, ups_len, List.length_append, e]
        rw [evs_len, evs_len] at h1 h2
        rw [List.length_drop, List.length_drop] at h2
        have m : f * ((a.length + 1) / 2 + (b.length + 1) / 2) + f * ((a.length - 1 + 1) / 2 + (b.length - 1 + 1) / 2) ≤ f * (a.length + b.length) := by
          rw [← Nat.mul_add]
          by_cases ha : a.length = 0
          · have : a = [] := List.eq_nil_of_length_eq_zero ha
            exact absurd (Or.inl this) (by assumption)
          · by_cases hb : b.length = 0
            · have : b = [] := List.eq_nil_of_length_eq_zero hb
              exact absurd (Or.inr this) (by assumption)
            · exact Nat.mul_le_mul_left _ (by omega)
        omega
theorem sortF_len : ∀ (f : Nat) (r : List Nat), (sortF f r).length ≤ f * (5 * r.length)
  | 0, _ => by
    show 0 ≤ _
    omega
  | f + 1, r => by
    have h1 := sortF_len f (r.take (r.length / 2))
    have h2 := sortF_len f (r.drop (r.length / 2))
    have h3 := mergeF_len 5 (r.take (r.length / 2)) (r.drop (r.length / 2))
    have e : (f + 1) * (5 * r.length) = f * (5 * r.length) + 5 * r.length := by rw [Nat.add_mul, Nat.one_mul]
    unfold sortF
    split
    · show 0 ≤ _
      omega
    · rw [List.length_append, List.length_append, e]
      rw [List.length_take, List.length_drop] at h3
      rw [List.length_take] at h1
      rw [List.length_drop] at h2
      have m : f * (5 * min (r.length / 2) r.length) + f * (5 * (r.length - r.length / 2)) = f * (5 * r.length) := by
        rw [← Nat.mul_add]
        congr 1
        omega
      omega
end Sw

set_option Elab.async false
set_option linter.all false
set_option maxRecDepth 100000
set_option maxHeartbeats 4000000
namespace Sw
open PySem PySem.Spec PyProof.Rows L2
/-! ## Layer by layer, the same with every row -/
theorem goC_comm {n : Nat} {r : Row} {c d : Cmp} (hr : r.length = n) (okc : CmpOk n c) (okd : CmpOk n d) (s : share c d = false) : goC (goC r c) d = goC (goC r d) c := by
  unfold share at s
  rw [decide_eq_false_iff_not] at s
  have a1 : c.1 ≠ d.1 := fun e => s (.inl e)
  have a2 : c.1 ≠ d.2 := fun e => s (.inr (.inl e))
  have a3 : c.2 ≠ d.1 := fun e => s (.inr (.inr (.inl e)))
  have a4 : c.2 ≠ d.2 := fun e => s (.inr (.inr (.inr e)))
  have lc : (goC r c).length = n := by rw [goC_len, hr]
  have ld : (goC r d).length = n := by rw [goC_len, hr]
  refine row_ext (n := n) (by rw [goC_len, lc]) (by rw [goC_len, ld]) fun k hk => ?_
  rw [goC_at lc okd, goC_at ld okc]
  rw [goC_at hr okc, goC_at hr okc, goC_at hr okc, goC_at hr okd, goC_at hr okd, goC_at hr okd]
  rw [if_neg a4, if_neg a2, if_neg a3, if_neg a1, if_neg a4.symm, if_neg a3.symm, if_neg a2.symm, if_neg a1.symm]
  by_cases e1 : d.2 = k
  · rw [if_pos e1, if_neg (fun e => a4 (e.trans e1.symm)), if_neg (fun e => a2 (e.trans e1.symm)), if_pos e1]
  · rw [if_neg e1, if_neg e1]
    by_cases e2 : d.1 = k
    · rw [if_pos e2, if_neg (fun e => a3 (e.trans e2.symm)), if_neg (fun e => a1 (e.trans e2.symm)), if_pos e2]
    · rw [if_neg e2, if_neg e2]
theorem gone_comm {n : Nat} {c : Cmp} (okc : CmpOk n c) {B : List Cmp} : CmpsOk n B → (∀ d ∈ B, share c d = false) → ∀ {r : Row}, r.length = n → gone B (goC r c) = goC (gone B r) c := by
  induction B with
  | nil => intro _ _ r _; rfl
  | cons d B ih =>
    intro ok s r hr
    show gone B (goC (goC r c) d) = goC (gone B (goC r d)) c
    rw [goC_comm hr okc (ok d List.mem_cons_self) (s d List.mem_cons_self), ih (fun e he => ok e (List.mem_cons_of_mem _ he)) (fun e he => s e (List.mem_cons_of_mem _ he)) (by rw [goC_len, hr])]
theorem gone_app (A B : List Cmp) (r : Row) : gone (A ++ B) r = gone B (gone A r) := by
  unfold gone
  rw [List.foldl_append]
theorem flat_set {n t : Nat} {c : Cmp} {x : List Cmp} (okc : CmpOk n c) : ∀ {ls : List (List Cmp)}, ls[t]? = some x → (∀ u y, t < u → ls[u]? = some y → ∀ d ∈ y, share c d = false ∧ CmpOk n d) → (∀ y ∈ ls, CmpsOk n y) → ∀ {r : Row}, r.length = n → gone (ls.set t (x ++ [c])).flatten r = goC (gone ls.flatten r) c := by
  intro ls hx later ok r hr
  have ht : t < ls.length := (List.getElem?_eq_some_iff.mp hx).1
  have e1 : ls = ls.take t ++ x :: ls.drop (t + 1) := by
    obtain ⟨_, hc⟩ := List.getElem?_eq_some_iff.mp hx
    rw [← hc, List.getElem_cons_drop, List.take_append_drop]
  have e2 : ls.set t (x ++ [c]) = ls.take t ++ (x ++ [c]) :: ls.drop (t + 1) := by
    rw [List.set_eq_take_append_cons_drop, if_pos ht]
  have fl : ls.flatten = (ls.take t).flatten ++ (x ++ (ls.drop (t + 1)).flatten) := by
    conv => lhs; rw [e1]
    rw [List.flatten_append, List.flatten_cons]
  rw [e2, fl, List.flatten_append, List.flatten_cons, gone_app, gone_app, gone_app, gone_app, gone_app]
  refine gone_comm okc (fun d hd => ?_) (fun d hd => ?_) (by rw [gone_len, gone_len, hr])
  all_goals
    obtain ⟨y, hy, hd⟩ := List.mem_flatten.mp hd
    obtain ⟨k, hk, e⟩ := List.mem_iff_getElem.mp hy
    rw [List.getElem_drop] at e
    have hk2 : t + 1 + k < ls.length := by
      rw [List.length_drop] at hk
      omega
    have := later (t + 1 + k) y (by omega) (by rw [List.getElem?_eq_getElem hk2, e]) d hd
  · exact this.2
  · exact this.1
theorem lay_in {cs : List Cmp} {i u : Nat} {d : Cmp} (h : d ∈ layI cs i u) : ∃ j, j < i ∧ cs[j]? = some d ∧ (tiers cs)[j]? = some u := by
  unfold layI layerOf at h
  obtain ⟨p, hp, rfl⟩ := List.mem_map.mp h
  rw [List.mem_filter] at hp
  obtain ⟨hp, e⟩ := hp
  obtain ⟨k, hk, ek⟩ := List.mem_iff_getElem.mp hp
  rw [List.getElem_zip] at ek
  rw [List.length_zip, List.length_take, List.length_take] at hk
  have e2 : p.2 = u := by simpa using e
  rw [List.getElem_take, List.getElem_take] at ek
  refine ⟨k, by omega, ?_, ?_⟩
  · rw [List.getElem?_eq_getElem (by omega), ← ek]
  · rw [List.getElem?_eq_getElem (by omega), ← e2, ← ek]
theorem lay_later {n : Nat} {cs : List Cmp} (ok : CmpsOk n cs) {i t u : Nat} {c d : Cmp} (hc : cs[i]? = some c) (ht : (tiers cs)[i]? = some t) (tu : t < u) (hd : d ∈ layI cs i u) : share c d = false ∧ CmpOk n d := by
  obtain ⟨j, hj, gd, gu⟩ := lay_in hd
  refine ⟨?_, ok d (List.mem_of_getElem? gd)⟩
  unfold share
  rw [decide_eq_false_iff_not]
  intro h
  have g := tiers_get hc
  rw [ht] at g
  have et : t = tierH (hgtH (fun _ => 0) (cs.take i)) c := Option.some.inj g
  have gd' : (cs.take i)[j]? = some d := by rw [List.getElem?_take_of_lt hj]; exact gd
  have gu' : (tiers (cs.take i))[j]? = some u := by rw [tiers_take, List.getElem?_take_of_lt hj]; exact gu
  have key : ∀ l, (d.1 = l ∨ d.2 = l) → u + 1 ≤ hgtH (fun _ => 0) (cs.take i) l := fun l hl => (hgt_spec (cs.take i) l).1 j d gd' hl u gu'
  unfold tierH at et
  rcases h with h | h | h | h
  · have := key c.1 (.inl h.symm); omega
  · have := key c.1 (.inr h.symm); omega
  · have := key c.2 (.inl h.symm); omega
  · have := key c.2 (.inr h.symm); omega
theorem lay_goes_i {n : Nat} {cs : List Cmp} (ok : CmpsOk n cs) {M : Nat} (hM : manyT cs ≤ M) {r : Row} (hr : r.length = n) : ∀ i, i ≤ cs.length → gone (layL cs i M).flatten r = gone (cs.take i) r := by
  intro i
  induction i with
  | zero =>
    intro _
    rw [layL_zero]
    have : ∀ l : List Nat, (l.map fun _ => ([] : List Cmp)).flatten = [] := fun l => by
      induction l with
      | nil => rfl
      | cons a l ih => rw [List.map_cons, List.flatten_cons, ih] <;> rfl
    rw [this] <;> rfl
  | succ i ih =>
    intro hi
    obtain ⟨c, hc⟩ := get_of (xs := cs) (i := i) (by omega)
    obtain ⟨t, ht⟩ := get_of (xs := tiers cs) (i := i) (by rw [tiers_len]; omega)
    have tM : t < M := by
      have := manyL_lt (List.mem_of_getElem? ht)
      unfold manyT at hM
      omega
    rw [← layL_set hc ht, List.take_add_one, hc]
    show _ = gone (cs.take i ++ [c]) r
    rw [gone_app, ← ih (by omega)]
    refine flat_set (ok c (List.mem_of_getElem? hc)) (layL_get tM) (fun u y tu hy d hd => ?_) (fun y hy d hd => ?_) hr
    · have uM : u < M := by
        have := (List.getElem?_eq_some_iff.mp hy).1
        rwa [layL_len] at this
      rw [layL_get uM] at hy
      rw [← Option.some.inj hy] at hd
      exact lay_later ok hc ht tu hd
    · unfold layL at hy
      obtain ⟨u, _, rfl⟩ := List.mem_map.mp hy
      obtain ⟨j, _, gd, _⟩ := lay_in hd
      exact ok d (List.mem_of_getElem? gd)
theorem lay_goes {n : Nat} {cs : List Cmp} (ok : CmpsOk n cs) {r : Row} (hr : r.length = n) : gone (layersOf cs).flatten r = gone cs r := by
  have := lay_goes_i ok (Nat.le_refl _) hr cs.length (Nat.le_refl _)
  rw [List.take_length] at this
  exact this
theorem flat_perm {t : Nat} {c : Cmp} {x : List Cmp} {ls : List (List Cmp)} (hx : ls[t]? = some x) : (ls.set t (x ++ [c])).flatten.Perm (ls.flatten ++ [c]) := by
  have ht : t < ls.length := (List.getElem?_eq_some_iff.mp hx).1
  have e1 : ls = ls.take t ++ x :: ls.drop (t + 1) := by
    obtain ⟨_, hc⟩ := List.getElem?_eq_some_iff.mp hx
    rw [← hc, List.getElem_cons_drop, List.take_append_drop]
  have e2 : ls.set t (x ++ [c]) = ls.take t ++ (x ++ [c]) :: ls.drop (t + 1) := by
    rw [List.set_eq_take_append_cons_drop, if_pos ht]
  have fl : ls.flatten = (ls.take t).flatten ++ (x ++ (ls.drop (t + 1)).flatten) := by
    conv => lhs; rw [e1]
    rw [List.flatten_append, List.flatten_cons]
  rw [e2, fl, List.flatten_append, List.flatten_cons, List.append_assoc, List.append_assoc, List.append_assoc]
  exact List.Perm.append_left _ (List.Perm.append_left _ List.perm_append_comm)
theorem lay_perm_i {cs : List Cmp} {M : Nat} (hM : manyT cs ≤ M) : ∀ i, i ≤ cs.length → (layL cs i M).flatten.Perm (cs.take i) := by
  intro i
  induction i with
  | zero =>
    intro _
    rw [layL_zero]
    have : ∀ l : List Nat, (l.map fun _ => ([] : List Cmp)).flatten = [] := fun l => by
      induction l with
      | nil => rfl
      | cons a l ih => rw [List.map_cons, List.flatten_cons, ih] <;> rfl
    rw [this]
    exact .nil
  | succ i ih =>
    intro hi
    obtain ⟨c, hc⟩ := get_of (xs := cs) (i := i) (by omega)
    obtain ⟨t, ht⟩ := get_of (xs := tiers cs) (i := i) (by rw [tiers_len]; omega)
    have tM : t < M := by
      have := manyL_lt (List.mem_of_getElem? ht)
      unfold manyT at hM
      omega
    rw [← layL_set hc ht, List.take_add_one, hc]
    exact (flat_perm (layL_get tM)).trans ((ih (by omega)).append_right _)
theorem lay_perm (cs : List Cmp) : (layersOf cs).flatten.Perm cs := by
  have := lay_perm_i (cs := cs) (Nat.le_refl _) cs.length (Nat.le_refl _)
  rw [List.take_length] at this
  exact this
end Sw

set_option Elab.async false
set_option linter.all false
set_option maxRecDepth 100000
set_option maxHeartbeats 4000000
namespace Sw
open PySem PySem.Spec PyProof.Rows L2
/-! ## {e for x in xs}, whole numbers, and sorted of it, any number of them -/
abbrev noI : Int → Bool := fun _ => false
abbrev moI (S : Int → Bool) (c : Int) : Int → Bool := fun j => S j || decide (j = c)
abbrev moN (S : Int → Bool) (c : Int) (n : Nat) : Nat := if S c = true then n else n + 1
def tSetC (w : World) (wi : TI) (g : TG) (te : TE) (vs : List Nat) : TE := fun σ H Q =>
  wi σ H fun J H1 => ∀ D, H1 D = none → ∃ Z : Nat → Nat → Hp → Prop, (∃ m, Z 0 m (upd H1 D (SetO w D noI 0))) ∧ ∀ i m H2, Z i m H2 →
    (J.stop i H2 ∧ Q (.ref D) H2) ∨ (J.go i H2 ∧ ∃ Y : Hp → Prop, (∀ G, Y G → ∃ k, k < m ∧ Z (i + 1) k G) ∧
      ∀ x H3, J.yld i H2 x H3 → g x (wipe σ vs) H3 fun σ4 H4 => wipe σ4 vs = wipe σ vs ∧
        te σ4 H4 fun y H5 => ∃ (c : Int) (S : Int → Bool) (n : Nat), y = .int c ∧ H5 D = some (SetO w D S n) ∧ n + 1 < scanBound ∧ Y (upd H5 D (SetO w D (moI S c) (moN S c n))))
section
variable {X : Cx}
theorem put_ok {pins : List (Addr × Obj)} {σ : L2.St} {H : Hp} {s : Shared} {E : Value → Shared → Prop} {D : Addr} {S : Int → Bool} {n : Nat} {c : Int} {u : Value} {Q : Value → Shared → Prop}
    (I : Inv X pins σ H s) (ru : RelV (.int c) u) (hD : H D = some (SetO X.w D S n)) (few : n + 1 < scanBound)
    (go : ∀ z, Inv X pins σ (upd H D (SetO X.w D (moI S c) (moN S c n))) z → Q .none z) : wpAny (model X.prog X.w) X.A (call (.builtin "set.add") [.ref D, u]) Q E s := by
  obtain ⟨tk, rfl⟩ := ru
  refine setR_add (setO_get I hD) few fun g2 but new => go _ ?_
  obtain ⟨o, _, _, _, ho, _⟩ := id new
  exact I.write (e := D) (t' := s.toks + 1) (by rw [hD]; exact True.intro) (.inl rfl) (fun b v nb hv => (but.2 b nb).trans hv) ⟨o, ho⟩ (setO_new new)
theorem pe_setC {elt tg iter : Expr} {sc : Scope} {own : List (Str × Nat)} {pos : Pos} {wi : TI} {g : TG} {te : TE} (calm : X.calm = true) (nd : X.N.Nodup) (pi : PI X tg iter wi) (bl : BlkOk X.N X.env.scope sc own)
    (hg : ∀ (z : Shared) (G : Hp) (C : Addr) (l : List (Str × Addr)) (fp : List Addr), PG (X.blk z G sc (compEnvC sc l C X.env) fp) tg g)
    (he : ∀ (z : Shared) (G : Hp) (C : Addr) (l : List (Str × Addr)) (fp : List Addr), PE (X.blk z G sc (compEnvC sc l C X.env) fp) elt te)
    (fo : ∀ x, foldedSetIterable iter X.env x = pure x := by intro _; rfl) : PE X (.SetComp elt [⟨tg, iter, [], 0⟩] sc pos) (tSetC X.w wi g te (own.map (·.2))) := by
  refine ⟨fun pins s σ H Q I h => ?_⟩
  rw [PpSet.eval_SetComp]
  have cl : ∀ y ∈ sc.names, y.2 = .free → ∃ c, X.env.cells.lookup y.1 = some c := fun y m e => (bl.free y m e).elim (fun k => I.ok.has _ (.inl k)) fun k => I.ok.has _ (.inr k)
  refine wpAny_comprehension_free rfl fo (closure_ok cl) bl.kind (fun y m e => by rw [bl.uniq y m, e]) (thn (pi.run pins s σ H _ I h) fun v1 z1 k1 => thn k1 fun v2 z2 k2 => ?_)
  obtain ⟨it, fp, tn, J, H2, rfl, I2, T, t2, f2, q⟩ := k2
  refine PpSet.newSet_ok (newEnv_comp ?_)
  generalize eD : z2.heap.objs.size = D
  have nD : H2 D = none := I2.hok.fresh (Nat.le_of_eq eD)
  obtain ⟨Z, ⟨m0, b0⟩, turn⟩ := q D nD
  generalize e3 : ({ z2 with heap := z2.heap.push { cls := .type "set", dict := none, data := .set #[] 0 (.fresh 0 0 (!X.w.params.followText "set-order")) } } : Shared) = z3
  have p3 : z3.heap = z2.heap.push { cls := .type "set", dict := none, data := .set #[] 0 (.fresh 0 0 (!X.w.params.followText "set-order")) } := congrArg Shared.heap e3.symm
  generalize eG : upd H2 D (SetO X.w D noI 0) = G at b0
  have I3 : Inv X pins σ G z3 := by
    subst e3 eG
    exact I2.laid (t' := z2.toks) (fun _ _ e => Heap.get?_push_of_some _ e) (Nat.le_of_eq eD) (by subst eD; exact setO_new (setR_fresh X.w))
  have f3 : ∀ b ∈ fp, FpOk X pins G b ∧ b < z3.heap.objs.size := fun b m => by
    obtain ⟨_, e, _⟩ := T.obj _ _ t2 b m
    have lt := Heap.lt_size e
    subst eG
    exact ⟨⟨(upd_ne (by rw [← eD]; exact Nat.ne_of_lt lt)).trans (f2 b m).1, (f2 b m).2⟩, by rw [p3, Heap.size_push]; exact Nat.lt_succ_of_lt lt⟩
  have t3 : tn 0 z3.heap := T.keep _ _ _ t2 fun _ _ _ e => by
    rw [p3]
    exact Heap.get?_push_of_some _ e
  have I4 := block_start I3 bl nd f3
  have n0 : ∀ b ∈ fp, G b = none := fun b m => (f3 b m).1.1
  have hgC := hg z3 G z3.heap.objs.size (cellsFrom (z3.heap.objs.size + 1) sc.names (cloFrom X.env.cells sc.names [])) fp
  have heC := he z3 G z3.heap.objs.size (cellsFrom (z3.heap.objs.size + 1) sc.names (cloFrom X.env.cells sc.names [])) fp
  show codeAny _ _ (.compStart (.SetComp elt [⟨tg, iter, [], 0⟩] sc pos) 0 (.ref it) (.ref D) (compEnvC sc (cellsFrom (z3.heap.objs.size + 1) sc.names (cloFrom X.env.cells sc.names [])) z3.heap.objs.size X.env))
    (compPost (model X.prog X.w) X.A X.xe none (EP X pins σ Q) (.ref D) z3.heap.objs.size) { z3 with heap := pushCells (z3.heap.push { cls := .type "dict", data := .dict #[] }) sc.names }
  have cL : (compEnvC sc (cellsFrom (z3.heap.objs.size + 1) sc.names (cloFrom X.env.cells sc.names [])) z3.heap.objs.size X.env).locals = z3.heap.objs.size := rfl
  generalize compEnvC sc (cellsFrom (z3.heap.objs.size + 1) sc.names (cloFrom X.env.cells sc.names [])) z3.heap.objs.size X.env = ce at I4 hgC heC cL ⊢
  generalize e4 : ({ z3 with heap := pushCells (z3.heap.push { cls := .type "dict", data := .dict #[] }) sc.names } : Shared) = z4 at I4 ⊢
  have t4 : tn 0 z4.heap := T.keep _ _ _ t3 fun _ _ _ e => by
    subst e4
    exact pushCells_keeps _ _ _ _ (Heap.get?_push_of_some _ e)
  have own4 : ∀ {σ' : L2.St} {H' : Hp} {z : Shared}, Inv (X.blk z3 G sc ce fp) [] σ' H' z → (∀ b ∈ fp, H' b = none) → ∀ b ∈ fp, FpOk (X.blk z3 G sc ce fp) [] H' b := fun J' nn b m =>
    ⟨nn b m, (J'.ok.exf b m).1, J'.ok.exfs b m, .inl m, fun x c e => (J'.ok.exf b m).2 x c e, fun p k => nomatch (show p ∈ ([] : List (Addr × Obj)) ++ [] from k)⟩
  have loop : codeAny (model X.prog X.w) X.A (.compLoop (.SetComp elt [⟨tg, iter, [], 0⟩] sc pos) 0 (.ref it) (.ref D) ce) (compPost (model X.prog X.w) X.A X.xe none (EP X pins σ Q) (.ref D) z3.heap.objs.size) z4 := by
    refine PpSet.compLoopS_any (fun n z => ∃ i H', Inv (X.blk z3 G sc ce fp) [] (wipe σ (own.map (·.2))) H' z ∧ tn i z.heap ∧ (∀ b ∈ fp, H' b = none) ∧ Z i n H') ?_ m0 ⟨0, G, I4, t4, n0, b0⟩
    rintro n z5 ⟨i, H5, I5, t5, n5, b5⟩
    rcases turn i n H5 b5 with ⟨st, fin⟩ | ⟨go, Y, hY, step⟩
    · refine thnF (T.done (X.blk z3 G sc ce fp) rfl rfl rfl calm i [] z5 _ H5 (fun _ _ => False) I5 (own4 I5 n5) t5 st) fun r z6 ⟨er, I6⟩ => ?_
      subst er
      have I7 : Inv X pins σ H5 z6 := I3.call' (ch := fp) I6.os I6.base I6.hok I6.bare fun b m => ⟨(f3 b m).1.2.2.2.1, (f3 b m).1.2.1, (f3 b m).1.2.2.2.2.1, (f3 b m).1.2.2.2.2.2⟩
      have nC : H5 z3.heap.objs.size = none := by
        rw [← cL]
        exact I6.free
      obtain ⟨mm, hm, _⟩ := I6.loc
      have hm2 : z6.heap.Ns z3.heap.objs.size mm := by
        rw [← cL]
        exact hm
      obtain ⟨a0, a1, _, a3, a4, a5⟩ := I3.fpOk (Nat.le_refl _) nC
      exact ⟨mm, hm2, fun _ but => ⟨.ref D, H5, I7.turned (t' := z6.toks) (fun b _ nb e => (but.2 b nb).trans e) a0 a1 a3 a4 a5, rfl, fin⟩⟩
    · refine thnF (T.item (X.blk z3 G sc ce fp) rfl rfl rfl calm i [] z5 _ H5 (fun _ _ => False) I5 (own4 I5 n5) t5 go) fun r z6 ⟨u, er, k6⟩ => ?_
      subst er
      refine thnF k6 fun _ z7 ⟨x, H7, I7, r7, y7, t7, n7⟩ => ?_
      refine thnF (hgC.run _ z7 _ H7 x u _ (I7.pinned (own4 I7 n7) (T.obj _ _ t7)) r7 (step x H7 y7)) fun _ z8 ⟨σ8, H8, I8, w8, q8⟩ => ?_
      refine wpAny_pure ?_
      rw [if_pos rfl]
      refine thnF (heC.run _ z8 σ8 H8 _ I8 q8) fun v z9 ⟨yv, H9, I9, r9, c, S, k, ey, hD9, few, nx⟩ => ?_
      subst ey
      refine put_ok (X := X.blk z3 G sc ce fp) I9 r9 hD9 few fun zz Iz => ?_
      obtain ⟨m2, lt2, b2⟩ := hY _ nx
      have pin : ∀ b ∈ fp, ∀ o, z7.heap.get? b = some o → zz.heap.get? b = some o ∧ (upd H9 D (SetO X.w D (moI S c) (moN S c k))) b = none := fun b m o e =>
        have p := Iz.pin (b, o) (List.mem_append_right _ (List.mem_append_right _ (mem_pinsAt m e)))
        ⟨p.1, p.2.1⟩
      refine ⟨m2, lt2, i + 1, _, (Iz.unpinned (pins := [])).weak (by rw [← w8, wipe_length]) (fun j v' e => ?_), T.keep _ _ _ t7 fun b m o e => (pin b m o e).1, fun b m => ?_, b2⟩
      · rw [← w8] at e
        exact (wipe_some e).1
      · obtain ⟨o, e, _⟩ := T.obj _ _ t7 b m
        exact (pin b m o e).2
  exact PpSet.codeAny_compStart_set loop (T.self X.A 0 _ _ _ t4 loop)
/-- sorted(s) -/
def rSortS (w : World) : List V → Hp → VK → Prop := fun vs H Q => ∃ (a : Addr) (S : Int → Bool) (n : Nat), vs = [.ref a] ∧ H a = some (SetO w a S n) ∧ n ≤ 1000000 ∧
  ∀ (ns : List Int) (p : Addr), ns.Pairwise (· < ·) → (∀ k : Int, k ∈ ns ↔ S k = true) → H p = none → Q (.ref p) (upd H p (.lst (ns.map V.int)))
theorem cr_sortS (calm : X.calm = true) : CallR X (.builtin "sorted") (rSortS X.w) := by
  intro pins s σ H vs us Q I r h
  obtain ⟨a, S, n, rfl, ha, few, q⟩ := h
  obtain ⟨o, es, ep, t, ho, ex, hd, good, nd, mem, small, fits, size, ris, led⟩ := setO_get I ha
  rw [Vals.ref1 r]
  refine Calls.call_function_entry kind_sorted plain_sorted entry_sorted (args_sorted1 _) ?_
  unfold Builtin.«sorted»
  refine wpAny_bind (m := checkCount "sorted" 1 1 _) (wpAny_pure (wpAny_bind (collect_set (A := X.A.in1) (I.ok.hd calm) ⟨o, ho, ex.1, hd⟩ fits small ris led fun z out keep grow gens os perm => ?_)))
  have lo : out.length ≤ sizeLine := by
    rw [perm.length_eq, List.length_map, Array.length_toList, size, sizeLine_eq]
    omega
  have areI : IntsAre out (out.map Builtin.Re.reRawOf) := ints_of out fun v m => by
    obtain ⟨e, me, rfl⟩ := List.mem_map.mp (perm.mem_iff.mp m)
    obtain ⟨k, tk, h1, _⟩ := good e me
    exact ⟨k, tk, h1⟩
  have keys : (out.map Builtin.Re.reRawOf).Perm (es.toList.map keyOf) := by
    refine (perm.map _).trans ?_
    rw [List.map_map]
    exact .refl _
  refine wpAny_bind (wpAny_newList ?_ lo)
  have at0 : (z.heap.push (seqObj "list" out.toArray 0)).get? z.heap.objs.size = some (seqObj "list" out.toArray 0) := Heap.get?_push_size _ rfl
  refine wpAny_bind (wpAny_holding (wpAny_call_entry slot_list_sort ⟨_, at0, rfl⟩ entry_list_sort
    (SrtO.list_sort_ord SrtO.swo_int at0 lo (fun two => SrtO.ints_sortable areI two) fun fin srt stb => ⟨_, rfl, wpAny_pure ⟨_, rfl, ?_⟩⟩) (args_list_sort _)))
  obtain ⟨fi, fp, fw⟩ := SrtO.ints_out areI srt stb
  obtain ⟨c, hc⟩ := sortedHeap_at (vs := out) (out := fin.toArray) at0
  have fp2 := fp.trans keys
  have old : ∀ b u, s.heap.get? b = some u → (sortedHeap (z.heap.push (seqObj "list" out.toArray 0)) z.heap.objs.size out fin.toArray).get? b = some u := fun b u e => by
    have e2 := keep b u e
    have lt := Heap.lt_size e2
    rw [sortedHeap_old (Nat.ne_of_lt lt) (by rw [size_push']; exact Nat.lt_succ_of_lt lt)]
    exact Heap.get?_push_of_some _ e2
  have len : ((fin.map SrtO.iv).map V.int).length ≤ sizeLine := by
    rw [List.length_map, fp.length_eq, List.length_map]
    exact lo
  have free : H z.heap.objs.size = none := I.hok.fresh grow
  obtain ⟨zh, zg, zd, zt, zo⟩ := z
  obtain rfl : zo = s.os := os
  obtain rfl : zg = s.gens := gens
  have J : Inv X pins σ (upd H zh.objs.size (.lst ((fin.map SrtO.iv).map V.int))) { s with heap := sortedHeap (zh.push (seqObj "list" out.toArray 0)) zh.objs.size out fin.toArray, drawn := zd, toks := zt } :=
    I.call (ch := []) (Un.laid old grow free) (I.hok.laid old grow ⟨len, fin, c, vals_of_ints fi, hc⟩) I.bare fun _ k => nomatch k
  exact ⟨.ref _, _, J, rfl, q _ _ (lt_of_le_nodup _ fw (fp2.nodup_iff.mpr nd)) (fun k => by rw [fp2.mem_iff, ← mem k]) free⟩
end
end Sw

set_option Elab.async false
set_option linter.all false
set_option maxRecDepth 100000
set_option maxHeartbeats 4000000
namespace Sw
open PySem PySem.Spec PyProof.Rows L2
theorem hu65 {k : Nat} {A : Around} (hr : Room k A) : A.units + 65 < cLine := by
  have := hr.un
  omega
/-! ## Methods of a class of the program -/
/-- the method m of the class x keeps sp -/
structure MCal (P : Program) (w : World) (K : PySem.W.Frag) (mg : Str → Option Value) (base : Heap) (CX : CXT) (k : Nat) (x m : Str) (ps : List Str) (sp : Sp) : Prop where
  ex : ∃ fd : FuncData, FnOk P w K mg base CX k (He.ma K (He.ga K x) m) fd ps sp ∧ Binds K fd ps [] ∧ Meth K (He.ga K x) m (He.ma K (He.ga K x) m) ∧ Cls K (He.ga K x)
/-- the class x is made by an __init__ that keeps sp -/
structure MkCal (P : Program) (w : World) (K : PySem.W.Frag) (mg : Str → Option Value) (base : Heap) (CX : CXT) (k : Nat) (x : Str) (ps : List Str) (sp : Sp) : Prop where
  ex : ∃ fd : FuncData, FnOk P w K mg base CX k (He.ma K (He.ga K x) "__init__") fd ps sp ∧ Binds K fd ps [] ∧ Mk K (He.ga K x) (He.ma K (He.ga K x) "__init__") ∧ mg x = some (.ref (He.ga K x))
/-- a def under another name -/
structure HereA (K : PySem.W.Frag) (mg : Str → Option Value) (x nm : Str) (st : Stmt) : Prop where
  ex : ∃ (f : Addr) (fd : FuncData), FunD K nm nm (defArgs st) (defBody st) (defScope st) [] [] f fd ∧ mg x = some (.ref f)
section
variable {P : Program} {w : World} {K : PySem.W.Frag} {mg : Str → Option Value} {base : Heap} {x m q nm : Str} {st : Stmt} {N ps : List Str} {k : Nat} {sp : Sp}
theorem Met.cal {r : TS} (F : Met K x m q st) (M : Meth K (He.ga K x) m (He.ma K (He.ga K x) m)) (T : Cls K (He.ga K x)) (S : FnScope N ps (defScope st)) (len : ∀ vs H Q E, sp vs H Q E → vs.length = ps.length)
    (bd : ∀ (kV doc pm : Value) (an : Option Addr) (cdv ct : Value) (us : List Value), us.length = ps.length → bindArgs (PySem.W.fnOf m q (defArgs st) (defBody st) (defScope st) .none kV doc pm an cdv ct) ⟨us, []⟩ = pure (ps.zip us))
    (dv : ∀ (f : Addr) (cdv : Value) (A : Around) (outer : List Env) (s : Shared) (H : Hp) (E : XK), RmIn k A q st s f cdv → PSs (BX CX0 P w K mg base N q st f cdv A outer s H E).nox (defBody st) r)
    (rd : ∀ (vs : List V) (H : Hp) (Q : VK) (E : XK), sp vs H Q E → r { nx := fun _ H' => Q .non H', rt := Q } (L2.start N vs) H) : MCal P w K mg base CX0 (k + 1) x m ps sp := by
  obtain ⟨fd, D⟩ := F
  exact ⟨fd, D.ok S len fun cdv A outer s H vs Q E hr h => ⟨r, (dv _ cdv A outer s H E hr).nox, rd vs H Q E h⟩, D.bindsN bd, M, T⟩
theorem Met.calX {r : XK → TS} (F : Met K x m q st) (M : Meth K (He.ga K x) m (He.ma K (He.ga K x) m)) (T : Cls K (He.ga K x)) (S : FnScope N ps (defScope st)) (len : ∀ vs H Q E, sp vs H Q E → vs.length = ps.length)
    (bd : ∀ (kV doc pm : Value) (an : Option Addr) (cdv ct : Value) (us : List Value), us.length = ps.length → bindArgs (PySem.W.fnOf m q (defArgs st) (defBody st) (defScope st) .none kV doc pm an cdv ct) ⟨us, []⟩ = pure (ps.zip us))
    (dv : ∀ (f : Addr) (cdv : Value) (A : Around) (outer : List Env) (s : Shared) (H : Hp) (E : XK), RmIn k A q st s f cdv → PSs (BX (L2.CX P w) P w K mg base N q st f cdv A outer s H E) (defBody st) (r E))
    (rd : ∀ (vs : List V) (H : Hp) (Q : VK) (E : XK), sp vs H Q E → r E { nx := fun _ H' => Q .non H', rt := Q } (L2.start N vs) H) : MCal P w K mg base (L2.CX P w) (k + 1) x m ps sp := by
  obtain ⟨fd, D⟩ := F
  exact ⟨fd, D.ok S len fun cdv A outer s H vs Q E hr h => ⟨r E, dv _ cdv A outer s H E hr, rd vs H Q E h⟩, D.bindsN bd, M, T⟩
theorem Met.mk {r : TS} (F : Met K x "__init__" q st) (M : Mk K (He.ga K x) (He.ma K (He.ga K x) "__init__")) (g : mg x = some (.ref (He.ga K x))) (S : FnScope N ps (defScope st)) (len : ∀ vs H Q E, sp vs H Q E → vs.length = ps.length)
    (bd : ∀ (kV doc pm : Value) (an : Option Addr) (cdv ct : Value) (us : List Value), us.length = ps.length → bindArgs (PySem.W.fnOf "__init__" q (defArgs st) (defBody st) (defScope st) .none kV doc pm an cdv ct) ⟨us, []⟩ = pure (ps.zip us))
    (dv : ∀ (f : Addr) (cdv : Value) (A : Around) (outer : List Env) (s : Shared) (H : Hp) (E : XK), RmIn k A q st s f cdv → PSs (BX CX0 P w K mg base N q st f cdv A outer s H E).nox (defBody st) r)
    (rd : ∀ (vs : List V) (H : Hp) (Q : VK) (E : XK), sp vs H Q E → r { nx := fun _ H' => Q .non H', rt := Q } (L2.start N vs) H) : MkCal P w K mg base CX0 (k + 1) x ps sp := by
  obtain ⟨fd, D⟩ := F
  exact ⟨fd, D.ok S len fun cdv A outer s H vs Q E hr h => ⟨r, (dv _ cdv A outer s H E hr).nox, rd vs H Q E h⟩, D.bindsN bd, M, g⟩
theorem Met.mkX {r : XK → TS} (F : Met K x "__init__" q st) (M : Mk K (He.ga K x) (He.ma K (He.ga K x) "__init__")) (g : mg x = some (.ref (He.ga K x))) (S : FnScope N ps (defScope st)) (len : ∀ vs H Q E, sp vs H Q E → vs.length = ps.length)
    (bd : ∀ (kV doc pm : Value) (an : Option Addr) (cdv ct : Value) (us : List Value), us.length = ps.length → bindArgs (PySem.W.fnOf "__init__" q (defArgs st) (defBody st) (defScope st) .none kV doc pm an cdv ct) ⟨us, []⟩ = pure (ps.zip us))
    (dv : ∀ (f : Addr) (cdv : Value) (A : Around) (outer : List Env) (s : Shared) (H : Hp) (E : XK), RmIn k A q st s f cdv → PSs (BX (L2.CX P w) P w K mg base N q st f cdv A outer s H E) (defBody st) (r E))
    (rd : ∀ (vs : List V) (H : Hp) (Q : VK) (E : XK), sp vs H Q E → r E { nx := fun _ H' => Q .non H', rt := Q } (L2.start N vs) H) : MkCal P w K mg base (L2.CX P w) (k + 1) x ps sp := by
  obtain ⟨fd, D⟩ := F
  exact ⟨fd, D.ok S len fun cdv A outer s H vs Q E hr h => ⟨r E, dv _ cdv A outer s H E hr, rd vs H Q E h⟩, D.bindsN bd, M, g⟩
theorem HereA.cal {r : TS} (F : HereA K mg x nm st) (S : FnScope N ps (defScope st)) (len : ∀ vs H Q E, sp vs H Q E → vs.length = ps.length)
    (bd : ∀ (kV doc pm : Value) (an : Option Addr) (cdv ct : Value) (us : List Value), us.length = ps.length → bindArgs (PySem.W.fnOf nm nm (defArgs st) (defBody st) (defScope st) .none kV doc pm an cdv ct) ⟨us, []⟩ = pure (ps.zip us))
    (dv : ∀ (f : Addr) (cdv : Value) (A : Around) (outer : List Env) (s : Shared) (H : Hp) (E : XK), RmIn k A nm st s f cdv → PSs (BX CX0 P w K mg base N nm st f cdv A outer s H E).nox (defBody st) r)
    (rd : ∀ (vs : List V) (H : Hp) (Q : VK) (E : XK), sp vs H Q E → r { nx := fun _ H' => Q .non H', rt := Q } (L2.start N vs) H) : Cal P w K mg base CX0 (k + 1) x ps sp := by
  obtain ⟨f, fd, D, g⟩ := F.ex
  refine ⟨f, fd, D.ok S len fun cdv A outer s H vs Q E hr h => ⟨r, (dv f cdv A outer s H E hr).nox, rd vs H Q E h⟩, g, D.kp, D.bindsN bd, fun s us hl => D.bindsA bd s us hl, ?_⟩
  obtain ⟨oc, od, _, _, _, _, _, _, _, osl, _, lk, _⟩ := D.ex
  exact ⟨oc, od, osl, lk⟩
theorem Cal.imp {CX : CXT} {sp' : Sp} (c : Cal P w K mg base CX k x ps sp) (h : ∀ vs H Q E, sp' vs H Q E → sp vs H Q E) : Cal P w K mg base CX k x ps sp' := by
  obtain ⟨f, fd, F, g⟩ := c.ex
  exact ⟨f, fd, F.imp h, g⟩
theorem MCal.quiet (c : MCal P w K mg base (L2.CX P w) k x m ps sp) : MCal P w K mg base CX0 k x m ps (quiet sp) := by
  obtain ⟨fd, F, b⟩ := c.ex
  refine ⟨fd, ⟨fun vs H Q E h => F.len vs H Q E0 h, fun A outer s H args us vs Q E hr he hb rv h => codeAny_mono (F.run A outer s H args us vs Q E0 hr he hb rv h) fun r s' q => ?_⟩, b⟩
  cases r with
  | ok fl => cases fl <;> exact q
  | error e =>
    obtain ⟨_, _, _, _, _, _, _, _, _, _, _, _, z⟩ := q
    exact z.elim
theorem MkCal.quiet (c : MkCal P w K mg base (L2.CX P w) k x ps sp) : MkCal P w K mg base CX0 k x ps (Sw.quiet sp) := by
  obtain ⟨fd, F, b⟩ := c.ex
  refine ⟨fd, ⟨fun vs H Q E h => F.len vs H Q E0 h, fun A outer s H args us vs Q E hr he hb rv h => codeAny_mono (F.run A outer s H args us vs Q E0 hr he hb rv h) fun r s' q => ?_⟩, b⟩
  cases r with
  | ok fl => cases fl <;> exact q
  | error e =>
    obtain ⟨_, _, _, _, _, _, _, _, _, _, _, _, z⟩ := q
    exact z.elim
end
theorem hereA_of {fa : List He.Fa} {fn : List He.DefD} {ex : PySem.W.Frag → Bool} {h : Heap} {K : PySem.W.Frag} {mg : Str → Option Value} (c : SaysZ fa fn ex K) (X : K.In h) (G : h.Ns mainGlobals mg) {x nm : Str} {st : Stmt} (i j : Nat)
    (hi : fn[i]? = some ⟨(x, none), nm, nm, defArgs st, defBody st, defScope st, [], []⟩) (hj : fa[j]? = some (.glo x)) : HereA K mg x nm st := by
  obtain ⟨fd, F⟩ := c.d.def_ i hi
  exact ⟨_, fd, F, He.glo_ok X G (c.d.fact j hj)⟩
/-- o.m(..) -/
def tMet (K : PySem.W.Frag) (x m : Str) (sp : Sp) (ta : TE) (t : TA) : TE := fun σ H Q => ta σ H fun y H1 => ∃ a dx fs, y = .ref a ∧ H1 a = some (.ins (He.ga K x) dx fs) ∧ fs.lookup m = none ∧ t σ H1 fun vs H2 => sp (y :: vs) H2 Q E0
def tMetW (K : PySem.W.Frag) (x m : Str) (sp : Sp) (W : WX) (ta : TE) (t : TA) : TE := fun σ H Q => ta σ H fun y H1 => ∃ a dx fs, y = .ref a ∧ H1 a = some (.ins (He.ga K x) dx fs) ∧ fs.lookup m = none ∧ t σ H1 fun vs H2 => sp (y :: vs) H2 Q fun cls d H' => W cls d σ H'
/-- x(..), x a class -/
def tMk (K : PySem.W.Frag) (x : Str) (sp : Sp) (t : TA) : TE := fun σ H Q => t σ H fun vs H1 => ∀ y dx, H1 y = none → H1 dx = none → dx ≠ y →
  sp (.ref y :: vs) (upd (upd H1 dx (.own y)) y (.ins (He.ga K x) dx [])) (fun v H2 => v = .non ∧ Q (.ref y) H2) E0
section
variable {X : Cx} {k : Nat} {x m : Str} {ps : List Str} {sp : Sp} {ta : TE} {t : TA} {o e : Expr} {es : List Expr} {p pos apos : Pos} {W : WX}
theorem tMet_of {K : PySem.W.Frag} {C : Addr} : tMeth C m sp [] E0 ta t = fun σ H Q => ta σ H fun y H1 => ∃ a dx fs, y = .ref a ∧ H1 a = some (.ins C dx fs) ∧ fs.lookup m = none ∧ t σ H1 fun vs H2 => sp (y :: vs) H2 Q E0 := by
  unfold tMeth
  funext σ H Q
  congr 1
  funext y H1
  congr 1
  funext a
  congr 1
  funext dx
  congr 1
  funext fs
  congr 3
  congr 1
  funext vs H2
  rw [List.append_nil]
theorem tMk_of {C : Addr} : tMake C sp [] E0 t = fun σ H Q => t σ H fun vs H1 => ∀ y dx, H1 y = none → H1 dx = none → dx ≠ y → sp (.ref y :: vs) (upd (upd H1 dx (.own y)) y (.ins C dx [])) (fun v H2 => v = .non ∧ Q (.ref y) H2) E0 := by
  unfold tMake
  funext σ H Q
  congr 1
  funext vs H1
  rw [List.append_nil]
theorem pe_met {pl : Sem Bool} (c : MCal X.prog X.w X.K X.mg X.base CX0 k x m ps sp) (hr : Room k X.A) (he : PE X o ta) (ha : PA X (e :: es) t)
    (hst : starEach (e :: es) X.env = (false, eval e X.env) :: starEach es X.env := by rfl) (hpl : (backTo pos (starEach es X.env)).any (·.1) = false := by rfl)
    (ht : eval (.Call (.Attribute o m apos) (e :: es) [] pos) X.env = (do
      let ov ← eval o X.env
      standAt apos.atName
      let (f, first) ← holding [ov] (getMethod ov m pl)
      callWith pos f first (backTo pos (starEach (e :: es) X.env)) (backToKw pos (keywordEach [] X.env))) := by rfl) :
    PE X (.Call (.Attribute o m apos) (e :: es) [] pos) (tMet X.K x m sp ta t) := by
  obtain ⟨fd, F, b, M, T⟩ := c.ex
  have h := pe_meth (E := E0) (dvs := []) he T M F hr b .nil pass0 ha hst hpl ht
  rw [tMet_of (K := X.K)] at h
  exact h
theorem pe_met0 {pl : Sem Bool} (c : MCal X.prog X.w X.K X.mg X.base CX0 k x m ps sp) (hr : Room k X.A) (he : PE X o ta)
    (ht : eval (.Call (.Attribute o m apos) [] [] pos) X.env = (do
      let ov ← eval o X.env
      standAt apos.atName
      let (f, first) ← holding [ov] (getMethod ov m pl)
      callWith pos f first (backTo pos (starEach [] X.env)) (backToKw pos (keywordEach [] X.env))) := by rfl) :
    PE X (.Call (.Attribute o m apos) [] [] pos) (tMet X.K x m sp ta tNil) := by
  obtain ⟨fd, F, b, M, T⟩ := c.ex
  have h := pe_meth0 (E := E0) (dvs := []) he T M F hr b .nil pass0 ht
  rw [tMet_of (K := X.K)] at h
  exact h
theorem pe_mk (c : MkCal X.prog X.w X.K X.mg X.base CX0 k x ps sp) (hr : Room (k + 1) X.A) (hg : Gl X x) (ha : PA X (e :: es) t)
    (hdb : (x == ("__debug__" : Str)) = false := by decide) (he : starEach (e :: es) X.env = (false, eval e X.env) :: starEach es X.env := by rfl)
    (hpl : (backTo pos (starEach es X.env)).any (·.1) = false := by rfl) : PE X (.Call (.Name x p) (e :: es) [] pos) (tMk X.K x sp t) := by
  obtain ⟨fd, F, b, M, g⟩ := c.ex
  have h := pe_make (p := p) (E := E0) (dvs := []) M F hr hg g b .nil pass0 ha hdb he hpl
  rw [tMk_of] at h
  exact h
end
end Sw

set_option Elab.async false
set_option linter.all false
set_option maxRecDepth 100000
set_option maxHeartbeats 4000000
namespace Sw
open PySem PySem.Spec PyProof.Rows L2
/-! ## What can come out, by numbers of rows -/
theorem bit_off {n w k : Nat} (hw : w < 2 ^ n) (hk : n ≤ k) : w.testBit k = false := Nat.testBit_lt_two_pow (Nat.lt_of_lt_of_le hw (Nat.pow_le_pow_right (by decide) hk))
theorem goB_lt {n w : Nat} {c : Cmp} (hw : w < 2 ^ n) (ok : CmpOk n c) : goB w c < 2 ^ n := by
  obtain ⟨h1, h2, _⟩ := ok
  unfold goB
  split
  · have p1 : 1 <<< c.1 < 2 ^ n := by rw [Nat.one_shiftLeft]; exact Nat.pow_lt_pow_right (by decide) h1
    have p2 : 1 <<< c.2 < 2 ^ n := by rw [Nat.one_shiftLeft]; exact Nat.pow_lt_pow_right (by decide) h2
    exact Nat.xor_lt_two_pow (Nat.xor_lt_two_pow hw p1) p2
  · exact hw
theorem goneB_lt {n : Nat} {cs : List Cmp} : CmpsOk n cs → ∀ {w : Nat}, w < 2 ^ n → goneB cs w < 2 ^ n := by
  induction cs with
  | nil => intro _ w h; exact h
  | cons c cs ih =>
    intro ok w h
    exact ih (fun d hd => ok d (List.mem_cons_of_mem _ hd)) (goB_lt h (ok c List.mem_cons_self))
theorem goneB_snoc (cs : List Cmp) (c : Cmp) (w : Nat) : goneB (cs ++ [c]) w = goB (goneB cs w) c := by
  unfold goneB
  rw [List.foldl_append] <;> rfl
def outsN (n : Nat) (cs : List Cmp) : List Nat := (List.range (2 ^ n)).filter fun k => (List.range (2 ^ n)).any fun w => decide (goneB cs w = k)
theorem mem_outs {n : Nat} {cs : List Cmp} (ok : CmpsOk n cs) {k : Nat} : k ∈ outsN n cs ↔ ∃ w, w < 2 ^ n ∧ goneB cs w = k := by
  unfold outsN
  rw [List.mem_filter, List.any_eq_true]
  constructor
  · rintro ⟨_, w, hw, e⟩
    exact ⟨w, List.mem_range.mp hw, of_decide_eq_true e⟩
  · rintro ⟨w, hw, e⟩
    exact ⟨List.mem_range.mpr (e ▸ goneB_lt ok hw), w, List.mem_range.mpr hw, decide_eq_true e⟩
theorem outs_rise (n : Nat) (cs : List Cmp) : (outsN n cs).Pairwise (· < ·) := List.Pairwise.filter _ List.pairwise_lt_range
theorem outs_len (n : Nat) (cs : List Cmp) : (outsN n cs).length ≤ 2 ^ n := by
  have := List.length_filter_le (fun k => (List.range (2 ^ n)).any fun w => decide (goneB cs w = k)) (List.range (2 ^ n))
  rw [List.length_range] at this
  exact this
theorem outs_nil (n : Nat) : outsN n [] = List.range (2 ^ n) := by
  unfold outsN
  rw [List.filter_eq_self]
  intro k hk
  rw [List.any_eq_true]
  exact ⟨k, hk, decide_eq_true rfl⟩
theorem rise_uniq {α : Type} {lt : α → α → Prop} (irr : ∀ a, ¬ lt a a) (tr : ∀ a b c, lt a b → lt b c → lt a c) : ∀ {l m : List α}, l.Pairwise lt → m.Pairwise lt → (∀ k, k ∈ l ↔ k ∈ m) → l = m
  | [], [], _, _, _ => rfl
  | [], y :: m, _, _, h => nomatch (h y).mpr List.mem_cons_self
  | x :: l, [], _, _, h => nomatch (h x).mp List.mem_cons_self
  | x :: l, y :: m, h1, h2, h => by
    have e1 := List.pairwise_cons.mp h1
    have e2 := List.pairwise_cons.mp h2
    have e : x = y := by
      rcases List.mem_cons.mp ((h x).mp List.mem_cons_self) with e | a
      · exact e
      · rcases List.mem_cons.mp ((h y).mpr List.mem_cons_self) with e | b
        · exact e.symm
        · exact absurd (tr _ _ _ (e1.1 y b) (e2.1 x a)) (irr x)
    subst e
    refine congrArg (x :: ·) (rise_uniq irr tr e1.2 e2.2 fun k => ⟨fun hk => ?_, fun hk => ?_⟩)
    · rcases List.mem_cons.mp ((h k).mp (List.mem_cons_of_mem _ hk)) with e | a
      · exact absurd (e1.1 k hk) (by rw [e]; exact irr x)
      · exact a
    · rcases List.mem_cons.mp ((h k).mpr (List.mem_cons_of_mem _ hk)) with e | a
      · exact absurd (e2.1 k hk) (by rw [e]; exact irr x)
      · exact a
theorem natI_mem {l : List Nat} {k : Nat} : ((k : Nat) : Int) ∈ natI l ↔ k ∈ l := by
  unfold natI
  rw [List.mem_map]
  constructor
  · rintro ⟨j, hj, e⟩
    rw [show k = j by omega]
    exact hj
  · exact fun h => ⟨k, h, rfl⟩
theorem natI_rise {l : List Nat} (h : l.Pairwise (· < ·)) : (natI l).Pairwise (· < ·) := by
  unfold natI
  exact List.Pairwise.map _ (fun a b k => by omega) h
/-- the rising list of the numbers that come out of one comparer more -/
theorem outs_step {n : Nat} {cs : List Cmp} {c : Cmp} (ok : CmpsOk n cs) (okc : CmpOk n c) {ns : List Int} (h1 : ns.Pairwise (· < ·)) (h2 : ∀ k : Int, k ∈ ns ↔ ∃ v ∈ outsN n cs, ((goB v c : Nat) : Int) = k) : ns = natI (outsN n (cs ++ [c])) := by
  have ok2 : CmpsOk n (cs ++ [c]) := fun d hd => by
    rcases List.mem_append.mp hd with h | h
    · exact ok d h
    · rw [List.mem_singleton.mp h]
      exact okc
  refine rise_uniq (fun a => Int.lt_irrefl a) (fun a b c => Int.lt_trans) h1 (natI_rise (outs_rise n _)) fun k => ?_
  rw [h2]
  constructor
  · rintro ⟨v, hv, rfl⟩
    rw [natI_mem, mem_outs ok2]
    obtain ⟨w, hw, rfl⟩ := (mem_outs ok).mp hv
    exact ⟨w, hw, goneB_snoc cs c w⟩
  · intro hk
    obtain ⟨j, hj, rfl⟩ := List.mem_map.mp hk
    obtain ⟨w, hw, e⟩ := (mem_outs ok2).mp hj
    exact ⟨goneB cs w, (mem_outs ok).mpr ⟨w, hw, rfl⟩, by rw [← goneB_snoc, e]⟩
def exB (w : Nat) (c : Cmp) : Bool := w.testBit c.1 && !w.testBit c.2
theorem goB_same {w : Nat} {c : Cmp} (h : exB w c = false) : goB w c = w := by
  unfold goB
  unfold exB at h
  rw [if_neg (by rw [h]; exact Bool.false_ne_true)]
theorem goB_calm {w : Nat} {c : Cmp} (ne : c.1 ≠ c.2) : exB (goB w c) c = false := by
  by_cases h : exB w c = true
  · unfold exB at h
    unfold goB
    rw [if_pos h]
    rw [Bool.and_eq_true, Bool.not_eq_true'] at h
    unfold exB
    rw [Nat.testBit_xor, Nat.testBit_xor, Nat.testBit_xor, Nat.testBit_xor, bit_one, bit_one, bit_one, bit_one, h.1, h.2, decide_eq_true rfl, decide_eq_false (fun e => ne e.symm)]
    rfl
  · rw [Bool.not_eq_true] at h
    rw [goB_same h, h]
/-- what comes out stays the same just where nothing is exchanged -/
theorem outs_same {n : Nat} {cs : List Cmp} {c : Cmp} (ok : CmpsOk n cs) (okc : CmpOk n c) : outsN n (cs ++ [c]) = outsN n cs ↔ ∀ v ∈ outsN n cs, exB v c = false := by
  have ok2 : CmpsOk n (cs ++ [c]) := fun d hd => by
    rcases List.mem_append.mp hd with h | h
    · exact ok d h
    · rw [List.mem_singleton.mp h]
      exact okc
  constructor
  · intro e v hv
    rw [← e] at hv
    obtain ⟨w, hw, rfl⟩ := (mem_outs ok2).mp hv
    rw [goneB_snoc]
    exact goB_calm okc.2.2
  · intro h
    refine rise_uniq (fun a => Nat.lt_irrefl a) (fun a b c => Nat.lt_trans) (outs_rise n _) (outs_rise n _) fun k => ?_
    rw [mem_outs ok2, mem_outs ok]
    constructor
    · rintro ⟨w, hw, e⟩
      refine ⟨w, hw, ?_⟩
      rw [goneB_snoc, goB_same (h _ ((mem_outs ok).mpr ⟨w, hw, rfl⟩))] at e
      exact e
    · rintro ⟨w, hw, e⟩
      refine ⟨w, hw, ?_⟩
      rw [goneB_snoc, goB_same (h _ ((mem_outs ok).mpr ⟨w, hw, rfl⟩))]
      exact e
theorem at0_bits {n w : Nat} {c : Cmp} (ok : CmpOk n c) : decide (at0 (bareR n w) c.1 > at0 (bareR n w) c.2) = exB w c := by
  rw [at0_bare ok.1, at0_bare ok.2.1]
  unfold exB
  cases w.testBit c.1 <;> cases w.testBit c.2 <;> rfl
theorem outs_stir {n : Nat} {cs : List Cmp} {c : Cmp} (ok : CmpsOk n cs) (okc : CmpOk n c) : (!decide (outsN n (cs ++ [c]) = outsN n cs)) = (bares n).any (gtB cs c.1 c.2) := by
  rw [Bool.eq_iff_iff, Bool.not_eq_true', decide_eq_false_iff_not, outs_same ok okc, List.any_eq_true]
  constructor
  · intro h
    by_cases g : ∃ x ∈ bares n, gtB cs c.1 c.2 x = true
    · exact g
    · exfalso
      refine h fun v hv => ?_
      obtain ⟨w, hw, rfl⟩ := (mem_outs ok).mp hv
      cases e : exB (goneB cs w) c with
      | false => rfl
      | true =>
        exfalso
        refine g ⟨bareR n w, List.mem_map.mpr ⟨w, List.mem_range.mpr hw, rfl⟩, ?_⟩
        unfold gtB
        rw [gone_bare ok, at0_bits okc]
        exact e
  · rintro ⟨x, hx, e⟩ h
    obtain ⟨w, hw, rfl⟩ := List.mem_map.mp hx
    unfold gtB at e
    rw [gone_bare ok, at0_bits okc, h _ ((mem_outs ok).mpr ⟨w, List.mem_range.mp hw, rfl⟩)] at e
    cases e
theorem natI_inj {a b : List Nat} : natI a = natI b ↔ a = b := by
  unfold natI
  exact List.map_inj_right fun x y e => by omega
/-- rows that are in no order, the first one that can come out -/
def inB (r : Row) : Bool := decide (Srt r)
def wildB (n : Nat) (cs : List Cmp) : Option Nat := (outsN n cs).find? fun w => !decide (Srt (bareR n w))
end Sw

set_option Elab.async false
set_option linter.all false
set_option maxRecDepth 100000
set_option maxHeartbeats 4000000
namespace Sw
open PySem PySem.Spec PyProof.Rows L2
theorem hu1 {k : Nat} {A : Around} (hr : Room k A) : A.units + 1 < cLine := by
  have := hr.un
  omega
/-! ## Methods and classes that may raise -/
def tMkW (K : PySem.W.Frag) (x : Str) (sp : Sp) (W : WX) (t : TA) : TE := fun σ H Q => t σ H fun vs H1 => ∀ y dx, H1 y = none → H1 dx = none → dx ≠ y →
  sp (.ref y :: vs) (upd (upd H1 dx (.own y)) y (.ins (He.ga K x) dx [])) (fun v H2 => v = .non ∧ Q (.ref y) H2) fun cls d H' => W cls d σ H'
section
variable {X : Cx} {k : Nat} {x m : Str} {ps : List Str} {sp : Sp} {ta : TE} {t : TA} {o e : Expr} {es : List Expr} {p pos apos : Pos} {W : WX}
theorem pe_metW {pl : Sem Bool} {K : PySem.W.Frag} (c : MCal X.prog X.w K X.mg X.base (L2.CX X.prog X.w) k x m ps sp) (hr : Room k X.A) (tk : Takes X W) (he : PE X o ta) (ha : PA X (e :: es) t)
    (hst : starEach (e :: es) X.env = (false, eval e X.env) :: starEach es X.env := by rfl) (hpl : (backTo pos (starEach es X.env)).any (·.1) = false := by rfl)
    (ht : eval (.Call (.Attribute o m apos) (e :: es) [] pos) X.env = (do
      let ov ← eval o X.env
      standAt apos.atName
      let (f, first) ← holding [ov] (getMethod ov m pl)
      callWith pos f first (backTo pos (starEach (e :: es) X.env)) (backToKw pos (keywordEach [] X.env))) := by rfl) (hK : X.K = K := by rfl) :
    PE X (.Call (.Attribute o m apos) (e :: es) [] pos) (tMetW K x m sp W ta t) := by
  subst hK
  obtain ⟨fd, F, b, M, T⟩ := c.ex
  refine ⟨fun pins s σ H Q I h => PySem.W.methodCall_KW (pl := pl) (thn (he.run pins s σ H _ I h) fun u s1 ⟨y, H1, I1, ry, a, dx, fs, ey, ea, off, q⟩ => ?_) ht⟩
  subst ey
  cases ry
  refine getmeth_ok I1 ea T M off (PySem.W.callWith_K (first := [.ref a]) (h₀ := X.base) I.ok.mod.kin M.kp (thn (ha.run pos pins s1 σ H1 _ I1 q) fun us s2 ⟨ws, H2, I2, rw', q2⟩ => ⟨I2.kIn, ?_⟩) hst hpl)
  exact run_fnS (E := fun τ => WE W τ) (us := .ref a :: us) (vs := .ref a :: ws) F hr b (passAt tk σ) I2 (.cons rfl rw') q2
theorem pe_metW0 {pl : Sem Bool} {K : PySem.W.Frag} (c : MCal X.prog X.w K X.mg X.base (L2.CX X.prog X.w) k x m ps sp) (hr : Room k X.A) (tk : Takes X W) (he : PE X o ta)
    (ht : eval (.Call (.Attribute o m apos) [] [] pos) X.env = (do
      let ov ← eval o X.env
      standAt apos.atName
      let (f, first) ← holding [ov] (getMethod ov m pl)
      callWith pos f first (backTo pos (starEach [] X.env)) (backToKw pos (keywordEach [] X.env))) := by rfl) (hK : X.K = K := by rfl) :
    PE X (.Call (.Attribute o m apos) [] [] pos) (tMetW K x m sp W ta tNil) := by
  subst hK
  obtain ⟨fd, F, b, M, T⟩ := c.ex
  refine ⟨fun pins s σ H Q I h => PySem.W.methodCall_KW (pl := pl) (thn (he.run pins s σ H _ I h) fun u s1 ⟨y, H1, I1, ry, a, dx, fs, ey, ea, off, q⟩ => ?_) ht⟩
  subst ey
  cases ry
  exact getmeth_ok I1 ea T M off (PySem.W.callWith_K0 (first := [.ref a]) I1.kIn M.kp (run_fnS (E := fun τ => WE W τ) (us := [.ref a]) (vs := [.ref a]) F hr b (passAt tk σ) I1 (.cons rfl .nil) q))
end
/-! ## A dict that is not changed any more -/
/-- what is told is locked for good -/
def tFrz (t : TE) : TE := fun σ H Q => t σ H fun v H1 => ∃ d u, v = .ref d ∧ H1 d = some u ∧ Mut (some u) ∧ ∀ od, Q (.ref d) (upd H1 d (.frz od u))
theorem pe_frz {X : Cx} {e : Expr} {t : TE} (h : PE X e t) : PE X e (tFrz t) := by
  refine ⟨fun pins s σ H Q I q => thn (h.run pins s σ H _ I q) fun v s1 ⟨x, H1, I1, r, d, u, ex, hd, mu, q1⟩ => ?_⟩
  subst ex
  obtain ⟨od, I2⟩ := I1.lock hd mu
  exact ⟨.ref d, _, I2, r, q1 od⟩
/-- len(d), keys tuples -/
def kLenT : List V → Hp → VK → Prop := fun xs H Q => ∃ (p : Addr) (kvs : List (List Key × V)), xs = [.ref p] ∧ Rd H p (.dT kvs) ∧ Q (.int ((kvs.length : Nat) : Int)) H
theorem cl_lenT {X : Cx} : CallR X (.builtin "len") kLenT := by
  intro pins s σ H xs us Q I r h
  obtain ⟨p, kvs, rfl, hp, q⟩ := h
  obtain ⟨u, rfl, rx⟩ := vals1 r
  obtain rfl : u = .ref p := rx
  obtain ⟨z, hd, ys, rel, dd⟩ := dt_rd I.hok hp
  have hl : kvs.length = ys.length := Paired.length rel
  rw [sizeLine_eq] at z
  refine call_len_dictH hd dd (by omega) ?_
  exact ⟨.int ((kvs.length : Nat) : Int), H, I.tok _, ⟨_, by rw [hl]⟩, q⟩
/-! ## sorted(t), a tuple of whole numbers -/
def kSortTu (K : PySem.W.Frag) : List V → Hp → VK → Prop := fun vs H Q => ∃ (a : Addr) (ns : List Int), vs = [.ref a] ∧ SqT K H a (ns.map V.int) ∧ ∀ (ns' : List Int) (p : Addr), ns'.Perm ns → ns'.Pairwise (· ≤ ·) → H p = none → Q (.ref p) (upd H p (.lst (ns'.map V.int)))
theorem cr_sortTu {X : Cx} : CallR X (.builtin "sorted") (kSortTu X.K) := by
  intro pins s σ H vs us Q I r h
  obtain ⟨a, ns, rfl, hs, q⟩ := h
  obtain ⟨its, rv, pl, hz⟩ := I.tuple hs
  rw [Vals.ref1 r]
  have areI := rv.ints
  obtain ⟨o, ho, hc, n, hd⟩ := id pl
  have len := rv.length
  have lo : its.length ≤ sizeLine := by rw [← len]; exact hz
  refine Calls.call_function_entry kind_sorted plain_sorted entry_sorted (args_sorted1 _) ?_
  unfold Builtin.«sorted»
  refine wpAny_bind (m := checkCount "sorted" 1 1 _) (wpAny_pure (wpAny_bind (wpAny_collect_seq (A := X.A.in1) a (.inr rfl) ho hc hd (fun h1 keep => ?_) (by rw [List.size_toArray]; exact lo))))
  refine wpAny_bind (wpAny_newList ?_ lo)
  have at0 : (h1.push (seqObj "list" its.toArray 0)).get? h1.objs.size = some (seqObj "list" its.toArray 0) := Heap.get?_push_size _ rfl
  refine wpAny_bind (wpAny_holding (wpAny_call_entry slot_list_sort ⟨_, at0, rfl⟩ entry_list_sort
    (SrtO.list_sort_ord SrtO.swo_int at0 lo (fun two => SrtO.ints_sortable areI two) fun fin srt stb => ⟨_, rfl, wpAny_pure ⟨_, rfl, ?_⟩⟩) (args_list_sort _)))
  obtain ⟨fi, fp, fw⟩ := SrtO.ints_out areI srt stb
  obtain ⟨c, hc2⟩ := sortedHeap_at (vs := its) (out := fin.toArray) at0
  have I1 : Inv X pins σ H { s with heap := h1 } := I.kept (t' := s.toks) keep
  have old : ∀ b u, h1.get? b = some u → (sortedHeap (h1.push (seqObj "list" its.toArray 0)) h1.objs.size its fin.toArray).get? b = some u := fun b u e => by
    have lt := Heap.lt_size e
    rw [sortedHeap_old (Nat.ne_of_lt lt) (by rw [size_push']; exact Nat.lt_succ_of_lt lt)]
    exact Heap.get?_push_of_some _ e
  have lf : ((fin.map SrtO.iv).map V.int).length ≤ sizeLine := by
    rw [List.length_map, fp.length_eq]
    rw [List.length_map] at len
    omega
  have free : H h1.objs.size = none := I1.hok.fresh (Nat.le_refl _)
  have J : Inv X pins σ (upd H h1.objs.size (.lst ((fin.map SrtO.iv).map V.int))) { s with heap := sortedHeap (h1.push (seqObj "list" its.toArray 0)) h1.objs.size its fin.toArray } :=
    I1.laid (t' := s.toks) old (Nat.le_refl _) ⟨lf, fin, c, vals_of_ints fi, hc2⟩
  exact ⟨.ref _, _, J, rfl, q _ _ fp fw free⟩
end Sw

set_option Elab.async false
set_option linter.all false
set_option maxRecDepth 100000
set_option maxHeartbeats 4000000
namespace Sw
open PySem PySem.Spec PyProof.Rows L2
def topS (i : Nat) : Stmt := PySem.Challenge.pw_sortweb_k11_a_bench_by_deeds.main.body.getD i (.Pass ⟨0, 0, 0, 0⟩)
/-! ## Promises of the law's own drawing -/
def sp_ldraw (K : PySem.W.Frag) : Sp := fun vs H Q _ => ∃ c k j : Int, vs = [.int c, .int k, .int j] ∧ (0 ≤ k ∧ k ≤ 1000) ∧ (0 ≤ j ∧ j ≤ 1000) ∧ ∀ n : Int, 0 ≤ n → n < 715827877 → Q (.int n) H
def sp_lbricks (K : PySem.W.Frag) : Sp := fun vs H Q _ => ∃ n : Nat, vs = [.int (n : Int)] ∧ n ≤ 7 ∧
  ∀ H' l ps cs, Same H H' → H l = none → H' l = some (.lst (Rfs ps)) → Prs K H' ps cs → CmpsOk n cs → cs.length ≤ 28 → Q (.ref l) H'
def sp_lcomparer (K : PySem.W.Frag) : Sp := fun vs H Q _ => ∃ (m : Int) (n : Nat), vs = [.int m, .int (n : Int)] ∧ 0 ≤ m ∧ 2 ≤ n ∧ n ≤ 10 ∧
  ∀ H' p c, Same H H' → H p = none → H' p = some (.tup (V2 c)) → CmpOk n c → Q (.ref p) H'
def sp_lweb (K : PySem.W.Frag) : Sp := fun vs H Q _ => ∃ (a : Addr) (ns : List Int), vs = [.ref a] ∧ SqL K H a (ns.map V.int) ∧ ns.length ≤ 63 ∧
  ∀ (H' : Hp) (p c : Addr) (ps : List Addr) (n : Nat) (cs : List Cmp), Same H H' → H p = none → H c = none → H' p = some (.tup [.int (n : Int), .ref c]) → H' c = some (.lst (Rfs ps)) → Prs K H' ps cs → WebOk n cs → 1 ≤ n → n ≤ 7 → Q (.ref p) H'
/-! ## Promises of the program -/
def WebAt (K : PySem.W.Frag) (H : Hp) (a : Addr) (n : Nat) (cs : List Cmp) : Prop := ∃ ps : List Addr, SqL K H a (Rfs ps) ∧ Prs K H ps cs ∧ WebOk n cs ∧ 1 ≤ n ∧ n ≤ 10
def sp_iswhole (K : PySem.W.Frag) : Sp := fun vs H Q _ => ∃ (v : V) (T : String), vs = [v] ∧ TyB K H v T ∧ Q (.bl (decide (T = "int"))) H
def sp_isline (K : PySem.W.Frag) : Sp := fun vs H Q _ => ∃ (n : Nat) (v : V) (T : String), vs = [.int (n : Int), v] ∧ TyB K H v T ∧ Q (.bl (lnV n v)) H
def sp_iscomparer (K : PySem.W.Frag) : Sp := fun vs H Q _ => ∃ (n : Nat) (v : V) (b : Bool), vs = [.int (n : Int), v] ∧ ItOk K H n v b ∧ Q (.bl b) H
def sp_needlines (K : PySem.W.Frag) : Sp := fun vs H Q _ => ∃ n : Nat, vs = [.int (n : Int)] ∧ 1 ≤ n ∧ n ≤ 10 ∧ Q .non H
def sp_lword (K : PySem.W.Frag) : Sp := fun vs H Q _ => ∃ (v : V) (u : Str), vs = [v] ∧ ((v = .non ∧ u = "") ∨ ∃ (a : Addr) (d : Option Addr) (C : Str), v = .ref a ∧ H a = some (ErO (.ref (He.ga K C)) d a) ∧ DicOk H d ∧ (C, u) ∈ errWs) ∧ ∀ H', Same H H' → Q (.str u) H'
def sp_rowof (K : PySem.W.Frag) : Sp := fun vs H Q _ => ∃ n t : Nat, vs = [.int (n : Int), .int (t : Int)] ∧ n ≤ 10 ∧ ∀ H' p, Same H H' → H p = none → H' p = some (.lst (vis (bareR n t))) → Q (.ref p) H'
/-! ## Rows of noughts and ones -/
def sp_lgone (K : PySem.W.Frag) : Sp := fun vs H Q _ => ∃ (a b : Addr) (n : Nat) (cs : List Cmp) (r : Row), vs = [.ref a, .ref b] ∧ WebAt K H a n cs ∧ SqL K H b (vis r) ∧ r.length = n ∧ ∀ H' p, Same H H' → H p = none → H' p = some (.lst (vis (gone cs r))) → Q (.ref p) H'
def sp_lbare (K : PySem.W.Frag) : Sp := fun vs H Q _ => ∃ n : Nat, vs = [.int (n : Int)] ∧ 1 ≤ n ∧ n ≤ 10 ∧ ∀ H' p qs, Same H H' → H p = none → H' p = some (.lst (Rfs qs)) → Own H H' qs (bares n) → Q (.ref p) H'
def sp_lisbare (K : PySem.W.Frag) : Sp := fun vs H Q _ => ∃ (a : Addr) (n : Nat) (r : Row), vs = [.ref a, .int (n : Int)] ∧ SqL K H a (vis r) ∧ r.length = n ∧ n ≤ 10 ∧ Bits r ∧ ∀ H', Same H H' → Q (.bl true) H'
def sp_lisweb (K : PySem.W.Frag) : Sp := fun vs H Q _ => ∃ (a b : Addr) (ps qs : List Addr) (cs : List Cmp), vs = [.ref a, .ref b] ∧ H a = some (.lst (Rfs ps)) ∧ Prs K H ps cs ∧ SqL K H b (Rfs qs) ∧ Prs K H qs cs ∧ cs.length ≤ 60 ∧ ∀ H', Same H H' → Q (.bl true) H'
/-! ## A bench -/
theorem nLC : ¬ (("_lines" : Str) = "_comparers") := by decide +kernel
theorem nLR : ¬ (("_lines" : Str) = "_rows") := by decide +kernel
theorem nCL : ¬ (("_comparers" : Str) = "_lines") := by decide +kernel
theorem nCR : ¬ (("_comparers" : Str) = "_rows") := by decide +kernel
theorem nRL : ¬ (("_rows" : Str) = "_lines") := by decide +kernel
theorem nRC : ¬ (("_rows" : Str) = "_comparers") := by decide +kernel
/-- what a bench keeps: lines, comparers, the rows' numbers -/
def bf (n : Nat) (l R : Addr) : List (Str × V) := putF "_rows" (.ref R) (putF "_comparers" (.ref l) (putF "_lines" (.int (n : Int)) []))
theorem bf_lines (n : Nat) (l R : Addr) : (bf n l R).lookup ("_lines" : Str) = some (.int (n : Int)) := by
  unfold bf
  rw [lookup_putF, if_neg nLR, lookup_putF, if_neg nLC, lookup_putF, if_pos rfl]
theorem bf_comps (n : Nat) (l R : Addr) : (bf n l R).lookup ("_comparers" : Str) = some (.ref l) := by
  unfold bf
  rw [lookup_putF, if_neg nCR, lookup_putF, if_pos rfl]
theorem bf_rows (n : Nat) (l R : Addr) : (bf n l R).lookup ("_rows" : Str) = some (.ref R) := by
  unfold bf
  rw [lookup_putF, if_pos rfl]
theorem bf_no (n : Nat) (l R : Addr) {m : Str} (h1 : ¬ m = "_lines") (h2 : ¬ m = "_comparers") (h3 : ¬ m = "_rows") : (bf n l R).lookup m = none := by
  unfold bf
  rw [lookup_putF, if_neg h3, lookup_putF, if_neg h2, lookup_putF, if_neg h1]
  all_goals rfl
structure BenchT (K : PySem.W.Frag) : Prop where
  cl : Cls K (He.ga K "Bench")
  nL : NoAttr K (He.ga K "Bench") "_lines"
  nC : NoAttr K (He.ga K "Bench") "_comparers"
  nR : NoAttr K (He.ga K "Bench") "_rows"
/-- all stays but what stands at l, R -/
def KeepB (l R : Addr) (H H' : Hp) : Prop := ∀ b o, b ≠ l → b ≠ R → H b = some o → H' b = some o
/-- the numbers of the rows behind each part of the comparers -/
def OutsAt (H : Hp) (n : Nat) (cs : List Cmp) (l R : Addr) (qs : List Addr) : Prop := qs.length = cs.length + 1 ∧ ∀ (i : Nat) (q : Addr), qs[i]? = some q → q ≠ l ∧ q ≠ R ∧ H q = some (.lst (natL (outsN n (cs.take i))))
/-- a bench of n lines at p, cs put; its lists stand at l and R -/
def BenchAt (K : PySem.W.Frag) (H : Hp) (p : Addr) (n : Nat) (cs : List Cmp) (l R : Addr) (qs : List Addr) : Prop :=
  ∃ dx ps, H p = some (.ins (He.ga K "Bench") dx (bf n l R)) ∧ H l = some (.lst (Rfs ps)) ∧ Prs K H ps cs ∧ H R = some (.lst (Rfs qs)) ∧ OutsAt H n cs l R qs ∧ l ≠ R ∧ WebOk n cs ∧ 1 ≤ n ∧ n ≤ 10
def sp_bbehind (K : PySem.W.Frag) : Sp := fun vs H Q _ => ∃ (v a b : Nat), vs = [.int (v : Int), .int (a : Int), .int (b : Int)] ∧ a ≤ 10 ∧ b ≤ 10 ∧ Q (.int ((goB v (a, b) : Nat) : Int)) H
def sp_binit (K : PySem.W.Frag) : Sp := fun vs H Q _ => ∃ (p dx : Addr) (n : Nat), vs = [.ref p, .int (n : Int)] ∧ H p = some (.ins (He.ga K "Bench") dx []) ∧ 1 ≤ n ∧ n ≤ 10 ∧
  ∀ H' l R d, (∀ b o, b ≠ p → H b = some o → H' b = some o) → H l = none → H R = none → H d = none → BenchAt K H' p n [] l R [d] → Q .non H'
def sp_bput (K : PySem.W.Frag) : Sp := fun vs H Q E => ∃ (p l R : Addr) (v : V) (b : Bool) (n : Nat) (cs : List Cmp) (qs : List Addr), vs = [.ref p, v] ∧ BenchAt K H p n cs l R qs ∧ ItOk K H n v b ∧
  (b = true → cs.length < 60 → ∃ (g : Addr) (c : Cmp), v = .ref g ∧ SqT K H g (V2 c) ∧ CmpOk n c ∧ ∀ H' u, KeepB l R H H' → H u = none → BenchAt K H' p n (cs ++ [c]) l R (qs ++ [u]) → Q (.bl ((bares n).any (gtB cs c.1 c.2))) H') ∧
  ((b = false ∨ 60 ≤ cs.length) → Refu K H E (.web none))
def sp_btake (K : PySem.W.Frag) : Sp := fun vs H Q E => ∃ (p l R : Addr) (n : Nat) (cs : List Cmp) (qs : List Addr), vs = [.ref p] ∧ BenchAt K H p n cs l R qs ∧ (cs = [] → ∀ H', Same H H' → E (.ref (He.ga K "NothingPut")) none H') ∧
  (∀ ds c, cs = ds ++ [c] → ∀ H' g, KeepB l R H H' → BenchAt K H' p n ds l R qs.dropLast → SqT K H' g (V2 c) → Q (.ref g) H')
def sp_bmany (K : PySem.W.Frag) : Sp := fun vs H Q _ => ∃ (p l R : Addr) (n : Nat) (cs : List Cmp) (qs : List Addr), vs = [.ref p] ∧ BenchAt K H p n cs l R qs ∧ Q (.int ((outsN n cs).length : Nat)) H
def sp_bcomps (K : PySem.W.Frag) : Sp := fun vs H Q _ => ∃ (p l R : Addr) (n : Nat) (cs : List Cmp) (qs : List Addr), vs = [.ref p] ∧ BenchAt K H p n cs l R qs ∧ ∀ H' u ps, Same H H' → H u = none → H' u = some (.lst (Rfs ps)) → Prs K H' ps cs → Q (.ref u) H'
def sp_bwild (K : PySem.W.Frag) : Sp := fun vs H Q _ => ∃ (p l R : Addr) (n : Nat) (cs : List Cmp) (qs : List Addr), vs = [.ref p] ∧ BenchAt K H p n cs l R qs ∧
  (wildB n cs = none → ∀ H', Same H H' → Q .non H') ∧ ∀ v, wildB n cs = some v → ∀ H' u, Same H H' → H u = none → H' u = some (.lst (vis (bareR n v))) → Q (.ref u) H'
/-! ## Promises of the law's own defs -/
/-- the model: lines, and the comparers that are due -/
def mdK (n : Nat) (w : Addr) : List (L2.Key × V) := [(.inr "lines", .int (n : Int)), (.inr "web", .ref w)]
def ModelAt (K : PySem.W.Frag) (H : Hp) (md w : Addr) (n : Nat) (ws : List Addr) (cs : List Cmp) : Prop := H md = some (.dK (mdK n w)) ∧ H w = some (.lst (Rfs ws)) ∧ Prs K H ws cs
/-- all stays but what stands at M -/
def KeepM (M : List Addr) (H H' : Hp) : Prop := ∀ b o, b ∉ M → H b = some o → H' b = some o
/-- a pair of lists that are alike -/
def HPair (K : PySem.W.Frag) (H : Hp) (M : List Addr) (t : Addr) : Prop := ∃ (f g : Addr) (fs gs : List Addr) (ds : List Cmp), H t = some (.tup [.ref f, .ref g]) ∧ H f = some (.lst (Rfs fs)) ∧ H g = some (.lst (Rfs gs)) ∧ Prs K H fs ds ∧ Prs K H gs ds ∧ f ∉ M ∧ g ∉ M
def HeldAt (K : PySem.W.Frag) (H : Hp) (hd : Addr) (M : List Addr) (k : Nat) : Prop := ∃ ts, H hd = some (.lst (Rfs ts)) ∧ ts.length ≤ k ∧ ∀ t ∈ ts, HPair K H M t
/-- the rows that come out, each once, as keys -/
def rowK (r : Row) : List L2.Key := r.map Sum.inl
def EndsK (n : Nat) (cs : List Cmp) (kvs : List (List L2.Key × V)) : Prop := (kvs.map (·.1)).Nodup ∧ ∀ k, k ∈ kvs.map (·.1) ↔ ∃ r ∈ bares n, k = rowK (gone cs r)
def sp_lends (K : PySem.W.Frag) : Sp := fun vs H Q _ => ∃ (n : Nat) (a : Addr) (cs : List Cmp), vs = [.int (n : Int), .ref a] ∧ WebAt K H a n cs ∧ ∀ H' d od kvs, Same H H' → H d = none → H' d = some (.frz od (.dT kvs)) → EndsK n cs kvs → Q (.ref d) H'
def sp_ltried (K : PySem.W.Frag) : Sp := fun vs H Q _ => ∃ (p l R : Addr) (v : V) (n : Nat) (cs : List Cmp) (qs : List Addr), vs = [.ref p, v] ∧ BenchAt K H p n cs l R qs ∧
  ((v = .non ∧ cs = [] ∧ ∀ H' a, Same H H' → H' a = some (ErO (.ref (He.ga K "NothingPut")) none a) → Q (.ref a) H') ∨
   (v ≠ .non ∧ ∃ b, ItOk K H n v b ∧ (b = false ∨ 60 ≤ cs.length) ∧ ∀ H' a d, Same H H' → H' a = some (ErO (.ref (He.ga K "BadWeb")) (some d) a) → H' d = some (.xd [("place", .non)]) → Q (.ref a) H'))
def sp_lasked (K : PySem.W.Frag) : Sp := fun vs H Q _ => ∃ (p md w l R hd : Addr) (n k : Nat) (m : Int) (cs : List Cmp) (qs ws M : List Addr), vs = [.ref p, .ref md, .int m, .ref hd] ∧ 0 ≤ m ∧ BenchAt K H p n cs l R qs ∧ ModelAt K H md w n ws cs ∧ HeldAt K H hd M k ∧ k ≤ 1000 ∧ (∀ x ∈ M, H x ≠ none) ∧ (hd ∈ M ∧ hd ≠ l ∧ hd ≠ R ∧ hd ≠ w) ∧
  ∀ H', KeepM [hd] H H' → HeldAt K H' hd M (k + 3) → Q (.bl true) H'
def sp_ldeed (K : PySem.W.Frag) : Sp := fun vs H Q _ => ∃ (p md w l R : Addr) (n : Nat) (c k : Int) (cs : List Cmp) (qs ws : List Addr), vs = [.ref p, .ref md, .int c, .int k] ∧ (0 ≤ k ∧ k ≤ 1000) ∧ BenchAt K H p n cs l R qs ∧ ModelAt K H md w n ws cs ∧ w ≠ l ∧ w ≠ R ∧
  ∀ H' ds rs us, KeepM [l, R, w] H H' → BenchAt K H' p n ds l R rs → ModelAt K H' md w n us ds → Q (.bl true) H'
def sp_lrefused (K : PySem.W.Frag) : Sp := fun vs H Q _ => ∃ (p md w l R : Addr) (n : Nat) (m : Int) (cs : List Cmp) (qs ws : List Addr), vs = [.ref p, .ref md, .int m] ∧ 0 ≤ m ∧ BenchAt K H p n cs l R qs ∧ ModelAt K H md w n ws cs ∧ ∀ H', Same H H' → Q (.bl true) H'
def sp_lfull (K : PySem.W.Frag) : Sp := fun vs H Q _ => ∃ (n : Nat) (m : Int), vs = [.int (n : Int), .int m] ∧ 2 ≤ n ∧ n ≤ 10 ∧ 0 ≤ m ∧ ∀ H', Same H H' → Q (.bl true) H'
abbrev sp_law := spLaw

/-! ### row_of(lines, number): slots 0 lines, 1 number, 2 line -/
abbrev s_rowof : Stmt := topS 1
abbrev N_rowof : List Str := ["lines", "number", "line"]
abbrev P_rowof : List Str := ["lines", "number"]
theorem sc_rowof : FnScope N_rowof P_rowof (defScope s_rowof) := ⟨rfl, rfl, rfl, by decide +kernel, rfl, by decide +kernel, by decide +kernel⟩
def r_rowof (K : PySem.W.Frag) : TS :=
  tRet (tLc (iRng1 (tCons (tVar 0) (tNil))) (gName 2) (tYes) (tOp oBAnd (tOp oShr (tVar 1) (tVar 2)) (tC (.int 1))) [2])
/-! ### is_whole(value): slots 0 value -/
abbrev s_iswhole : Stmt := topS 14
abbrev N_iswhole : List Str := ["value"]
abbrev P_iswhole : List Str := ["value"]
theorem sc_iswhole : FnScope N_iswhole P_iswhole (defScope s_iswhole) := ⟨rfl, rfl, rfl, by decide +kernel, rfl, by decide +kernel, by decide +kernel⟩
def r_iswhole (K : PySem.W.Frag) : TS :=
  tRet (tOp rIsTyB (tCB (rTyp K) (tCons (tVar 0) (tNil))) (tC (.ty "int")))
/-! ### is_comparer(lines, value): slots 0 lines, 1 value, 2 a, 3 b -/
abbrev s_iscomparer : Stmt := topS 15
abbrev N_iscomparer : List Str := ["lines", "value", "a", "b"]
abbrev P_iscomparer : List Str := ["lines", "value"]
theorem sc_iscomparer : FnScope N_iscomparer P_iscomparer (defScope s_iscomparer) := ⟨rfl, rfl, rfl, by decide +kernel, rfl, by decide +kernel, by decide +kernel⟩
def r_iscomparer (K : PySem.W.Frag) : TS :=
  tSeq (tIfS (tOr (tTest (tOp rNT (tCB (rTyp K) (tCons (tVar 1) (tNil))) (tC (.ty "tuple")))) (tTest (tOp rNe (tCB (kLen K) (tCons (tVar 1) (tNil))) (tC (.int 2))))) (tRet (tC (.bl false))) (tNext)) (tSeq (tAsg (tVar 1) (gTup K 2 (gCons (gName 2) (gCons (gName 3) (gNil))))) (tRet (tAndV (tCal (sp_isline K) (tCons (tVar 0) (tCons (tVar 2) (tNil)))) (tAndV (tCal (sp_isline K) (tCons (tVar 0) (tCons (tVar 3) (tNil)))) (tOp rNe (tVar 2) (tVar 3))))))
/-! ### _is_line(lines, value): slots 0 lines, 1 value -/
abbrev s_isline : Stmt := topS 16
abbrev N_isline : List Str := ["lines", "value"]
abbrev P_isline : List Str := ["lines", "value"]
theorem sc_isline : FnScope N_isline P_isline (defScope s_isline) := ⟨rfl, rfl, rfl, by decide +kernel, rfl, by decide +kernel, by decide +kernel⟩
def r_isline (K : PySem.W.Frag) : TS :=
  tRet (tAndV (tCal (sp_iswhole K) (tCons (tVar 1) (tNil))) (tChain oLe oLt (tC (.int 0)) (tVar 1) (tVar 0)))
/-! ### need_lines(lines): slots 0 lines -/
abbrev s_needlines : Stmt := topS 17
abbrev N_needlines : List Str := ["lines"]
abbrev P_needlines : List Str := ["lines"]
theorem sc_needlines : FnScope N_needlines P_needlines (defScope s_needlines) := ⟨rfl, rfl, rfl, by decide +kernel, rfl, by decide +kernel, by decide +kernel⟩
def r_needlines (K : PySem.W.Frag) : TS :=
  tIfS (tOr (tNot (tB (tCal (sp_iswhole K) (tCons (tVar 0) (tNil))))) (tNot (tTest (tChain oLe oLe (tC (.int 1)) (tVar 0) (tC (.int 10)))))) (tOff) (tNext)
/-! ### Bench.__init__(self, lines): slots 0 self, 1 lines -/
abbrev s_binit : Stmt := memS (topS 19) 0
abbrev N_binit : List Str := ["self", "lines"]
abbrev P_binit : List Str := ["self", "lines"]
theorem sc_binit : FnScope N_binit P_binit (defScope s_binit) := ⟨rfl, rfl, rfl, by decide +kernel, rfl, by decide +kernel, by decide +kernel⟩
def r_binit (K : PySem.W.Frag) : TS :=
  tSeq (tDrop (tCal (sp_needlines K) (tCons (tVar 1) (tNil)))) (tSeq (sFld K (tVar 0) (tVar 1) "_lines") (tSeq (sFld K (tVar 0) (tLst (tNil)) "_comparers") (sFld K (tVar 0) (tLst (tCons (tLstRg (tRg1 (tOp oShl (tC (.int 1)) (tVar 1)))) (tNil))) "_rows")))
/-! ### Bench.put(self, comparer): slots 0 self, 1 comparer, 2 a, 3 b, 4 ahead, 5 out, 6 number -/
abbrev s_bput : Stmt := memS (topS 19) 1
abbrev N_bput : List Str := ["self", "comparer", "a", "b", "ahead", "out", "number"]
abbrev P_bput : List Str := ["self", "comparer"]
theorem sc_bput : FnScope N_bput P_bput (defScope s_bput) := ⟨rfl, rfl, rfl, by decide +kernel, rfl, by decide +kernel, by decide +kernel⟩
def r_bput (K : PySem.W.Frag) (w : World) (E : XK) : TS :=
  tSeq (tIfS (tOr (tTest (tOp oGe (tCB (kLen K) (tCons (tFld K (tVar 0) "_comparers") (tNil))) (tC (.int 60)))) (tNot (tB (tCal (sp_iscomparer K) (tCons (tFld K (tVar 0) "_lines") (tCons (tVar 1) (tNil))))))) (tRzO K "BadWeb" "place" (fun cls d _ H => E cls d H) (tC .non)) (tNext)) (tSeq (tAsg (tVar 1) (gTup K 2 (gCons (gName 2) (gCons (gName 3) (gNil))))) (tSeq (tAsg (tOp (rIxL K) (tFld K (tVar 0) "_rows") (tUn oNeg (tC (.int 1)))) (gName 4)) (tSeq (tAsg (tCB (rSortS w) (tCons (tSetC w (iList K (tVar 4)) (gName 6) (tCal (sp_bbehind K) (tCons (tVar 6) (tCons (tVar 2) (tCons (tVar 3) (tNil))))) [6]) (tNil))) (gName 5)) (tSeq (tDrop (tBM K "list" rAppend (tFld K (tVar 0) "_comparers") (tCons (tTup (tCons (tVar 2) (tCons (tVar 3) (tNil)))) (tNil)))) (tSeq (tDrop (tBM K "list" rAppend (tFld K (tVar 0) "_rows") (tCons (tVar 5) (tNil)))) (tRet (tOp (rNeD K) (tVar 5) (tVar 4))))))))
/-! ### Bench.take_back(self): slots 0 self -/
abbrev s_btake : Stmt := memS (topS 19) 2
abbrev N_btake : List Str := ["self"]
abbrev P_btake : List Str := ["self"]
theorem sc_btake : FnScope N_btake P_btake (defScope s_btake) := ⟨rfl, rfl, rfl, by decide +kernel, rfl, by decide +kernel, by decide +kernel⟩
def r_btake (K : PySem.W.Frag) (E : XK) : TS :=
  tSeq (tIfS (tTest (tOp (rEqD K) (tFld K (tVar 0) "_comparers") (tLst (tNil)))) (tRzA (He.ga K "NothingPut") (fun cls d _ H => E cls d H) (tCons (tC (.str "no comparer is put that could be taken back")) (tNil))) (tNext)) (tSeq (tDrop (tBM0 K "list" rPop (tFld K (tVar 0) "_rows"))) (tRet (tBM0 K "list" rPop (tFld K (tVar 0) "_comparers"))))
/-! ### Bench.comparers(self): slots 0 self -/
abbrev s_bcomps : Stmt := memS (topS 19) 3
abbrev N_bcomps : List Str := ["self"]
abbrev P_bcomps : List Str := ["self"]
theorem sc_bcomps : FnScope N_bcomps P_bcomps (defScope s_bcomps) := ⟨rfl, rfl, rfl, by decide +kernel, rfl, by decide +kernel, by decide +kernel⟩
def r_bcomps (K : PySem.W.Frag) : TS :=
  tRet (tCB (kList K) (tCons (tFld K (tVar 0) "_comparers") (tNil)))
/-! ### Bench.many(self): slots 0 self -/
abbrev s_bmany : Stmt := memS (topS 19) 4
abbrev N_bmany : List Str := ["self"]
abbrev P_bmany : List Str := ["self"]
theorem sc_bmany : FnScope N_bmany P_bmany (defScope s_bmany) := ⟨rfl, rfl, rfl, by decide +kernel, rfl, by decide +kernel, by decide +kernel⟩
def r_bmany (K : PySem.W.Frag) : TS :=
  tRet (tCB (kLen K) (tCons (tOp (rIxL K) (tFld K (tVar 0) "_rows") (tUn oNeg (tC (.int 1)))) (tNil)))
/-! ### Bench.wild(self): slots 0 self, 1 number, 2 row -/
abbrev s_bwild : Stmt := memS (topS 19) 5
abbrev N_bwild : List Str := ["self", "number", "row"]
abbrev P_bwild : List Str := ["self"]
theorem sc_bwild : FnScope N_bwild P_bwild (defScope s_bwild) := ⟨rfl, rfl, rfl, by decide +kernel, rfl, by decide +kernel, by decide +kernel⟩
def r_bwild_f1 (K : PySem.W.Frag) : TS :=
  tSeq (tAsg (tCal (sp_rowof K) (tCons (tFld K (tVar 0) "_lines") (tCons (tVar 1) (tNil)))) (gName 2)) (tIfS (tTest (tOp (rNeD K) (tVar 2) (tCB (rSortedI K) (tCons (tVar 2) (tNil))))) (tRet (tVar 2)) (tNext))
def r_bwild (K : PySem.W.Frag) : TS :=
  tSeq (tFor (iList K (tOp (rIxL K) (tFld K (tVar 0) "_rows") (tUn oNeg (tC (.int 1))))) (gName 1) (r_bwild_f1 K)) (tRet (tC .non))
/-! ### _behind(number, a, b): slots 0 number, 1 a, 2 b -/
abbrev s_bbehind : Stmt := topS 20
abbrev N_bbehind : List Str := ["number", "a", "b"]
abbrev P_bbehind : List Str := ["number", "a", "b"]
theorem sc_bbehind : FnScope N_bbehind P_bbehind (defScope s_bbehind) := ⟨rfl, rfl, rfl, by decide +kernel, rfl, by decide +kernel, by decide +kernel⟩
def r_bbehind (K : PySem.W.Frag) : TS :=
  tSeq (tIfS (tTest (tOp oGt (tOp oBAnd (tOp oShr (tVar 0) (tVar 1)) (tC (.int 1))) (tOp oBAnd (tOp oShr (tVar 0) (tVar 2)) (tC (.int 1))))) (tRet (tOp oBXor (tOp oBXor (tVar 0) (tOp oShl (tC (.int 1)) (tVar 1))) (tOp oShl (tC (.int 1)) (tVar 2)))) (tNext)) (tRet (tVar 0))
/-! ### _law_draw(_law_cell, _law_k, _law_j): slots 0 _law_cell, 1 _law_k, 2 _law_j, 3 _law_more -/
abbrev s_ldraw : Stmt := topS 22
abbrev N_ldraw : List Str := ["_law_cell", "_law_k", "_law_j", "_law_more"]
abbrev P_ldraw : List Str := ["_law_cell", "_law_k", "_law_j"]
theorem sc_ldraw : FnScope N_ldraw P_ldraw (defScope s_ldraw) := ⟨rfl, rfl, rfl, by decide +kernel, rfl, by decide +kernel, by decide +kernel⟩
def r_ldraw (K : PySem.W.Frag) : TS :=
  tSeq (tAsg (tOp oAdd (tOp oMul (tOp oMul (tOp oAdd (tVar 1) (tC (.int 3))) (tOp oAdd (tVar 1) (tC (.int 3)))) (tC (.int 40692))) (tOp oMul (tOp oMul (tOp oAdd (tVar 2) (tC (.int 7))) (tOp oAdd (tVar 2) (tC (.int 7)))) (tC (.int 69621)))) (gName 3)) (tRet (tOp oDiv (tOp oMod (tOp oMul (tOp oMod (tOp oAdd (tOp oMul (tOp oMod (tVar 0) (tC (.int 2147483629))) (tC (.int 48271))) (tVar 3)) (tC (.int 2147483647))) (tC (.int 16807))) (tC (.int 2147483629))) (tC (.int 3))))
/-! ### _law_gone(_law_comparers, _law_row): slots 0 _law_comparers, 1 _law_row, 2 _law_found, 3 _law_a, 4 _law_b -/
abbrev s_lgone : Stmt := topS 23
abbrev N_lgone : List Str := ["_law_comparers", "_law_row", "_law_found", "_law_a", "_law_b"]
abbrev P_lgone : List Str := ["_law_comparers", "_law_row"]
theorem sc_lgone : FnScope N_lgone P_lgone (defScope s_lgone) := ⟨rfl, rfl, rfl, by decide +kernel, rfl, by decide +kernel, by decide +kernel⟩
def r_lgone_f1 (K : PySem.W.Frag) : TS :=
  tAsg (tTup (tCons (tCB kMin (tCons (tOp (rIxL K) (tVar 2) (tVar 3)) (tCons (tOp (rIxL K) (tVar 2) (tVar 4)) (tNil)))) (tCons (tCB kMax (tCons (tOp (rIxL K) (tVar 2) (tVar 3)) (tCons (tOp (rIxL K) (tVar 2) (tVar 4)) (tNil)))) (tNil)))) (gTup K 2 (gCons (gSub (tVar 2) (tVar 3) rSetL) (gCons (gSub (tVar 2) (tVar 4) rSetL) (gNil))))
def r_lgone (K : PySem.W.Frag) : TS :=
  tSeq (tAsg (tCB (kList K) (tCons (tVar 1) (tNil))) (gName 2)) (tSeq (tFor (iList K (tVar 0)) (gTup K 2 (gCons (gName 3) (gCons (gName 4) (gNil)))) (r_lgone_f1 K)) (tRet (tVar 2)))
/-! ### _law_bare(_law_lines): slots 0 _law_lines, 1 _law_n, 2 _law_k -/
abbrev s_lbare : Stmt := topS 24
abbrev N_lbare : List Str := ["_law_lines", "_law_n", "_law_k"]
abbrev P_lbare : List Str := ["_law_lines"]
theorem sc_lbare : FnScope N_lbare P_lbare (defScope s_lbare) := ⟨rfl, rfl, rfl, by decide +kernel, rfl, by decide +kernel, by decide +kernel⟩
def r_lbare (K : PySem.W.Frag) : TS :=
  tRet (tLc (iRng1 (tCons (tOp oShl (tC (.int 1)) (tVar 0)) (tNil))) (gName 1) (tYes) (tLc (iRng1 (tCons (tVar 0) (tNil))) (gName 2) (tYes) (tOp oBAnd (tOp oShr (tVar 1) (tVar 2)) (tC (.int 1))) [2]) [1])
/-! ### _law_is_bare(_law_row, _law_lines): slots 0 _law_row, 1 _law_lines, 2 _law_odd, 3 _law_bit -/
abbrev s_lisbare : Stmt := topS 25
abbrev N_lisbare : List Str := ["_law_row", "_law_lines", "_law_odd", "_law_bit"]
abbrev P_lisbare : List Str := ["_law_row", "_law_lines"]
theorem sc_lisbare : FnScope N_lisbare P_lisbare (defScope s_lisbare) := ⟨rfl, rfl, rfl, by decide +kernel, rfl, by decide +kernel, by decide +kernel⟩
def r_lisbare (K : PySem.W.Frag) : TS :=
  tSeq (tIfS (tOr (tNot (tB (tCB (rIsK K) (tCons (tVar 0) (tCons (tC (.ty "list")) (tNil)))))) (tTest (tOp rNe (tCB (kLen K) (tCons (tVar 0) (tNil))) (tVar 1)))) (tRet (tC (.bl false))) (tNext)) (tSeq (tAsg (tLc (iList K (tVar 0)) (gName 3) (tOr (tB (tCB (rIsK K) (tCons (tVar 3) (tCons (tC (.ty "bool")) (tNil))))) (tNot (tB (tCB (rIsK K) (tCons (tVar 3) (tCons (tC (.ty "int")) (tNil))))))) (tVar 3) [3]) (gName 2)) (tRet (tAndV (tOp (rEqD K) (tVar 2) (tLst (tNil))) (tOp (rEqD K) (tLc (iList K (tVar 0)) (gName 3) (tTest (tOp (rIn K true) (tVar 3) (tTup (tCons (tC (.int 0)) (tCons (tC (.int 1)) (tNil)))))) (tVar 3) [3]) (tLst (tNil))))))
/-! ### _law_is_web(_law_found, _law_due): slots 0 _law_found, 1 _law_due, 2 _law_comparer, 3 _law_line -/
abbrev s_lisweb : Stmt := topS 26
abbrev N_lisweb : List Str := ["_law_found", "_law_due", "_law_comparer", "_law_line"]
abbrev P_lisweb : List Str := ["_law_found", "_law_due"]
theorem sc_lisweb : FnScope N_lisweb P_lisweb (defScope s_lisweb) := ⟨rfl, rfl, rfl, by decide +kernel, rfl, by decide +kernel, by decide +kernel⟩
def r_lisweb_f1 (K : PySem.W.Frag) : TS :=
  tIfS (tOr (tNot (tB (tCB (rIsK K) (tCons (tVar 2) (tCons (tC (.ty "tuple")) (tNil)))))) (tTest (tOp (rNeD K) (tLc (iTup K (tVar 2)) (gName 3) (tB (tCB (rIsK K) (tCons (tVar 3) (tCons (tC (.ty "bool")) (tNil))))) (tVar 3) [3]) (tLst (tNil))))) (tRet (tC (.bl false))) (tNext)
def r_lisweb (K : PySem.W.Frag) : TS :=
  tSeq (tIfS (tOr (tNot (tB (tCB (rIsK K) (tCons (tVar 0) (tCons (tC (.ty "list")) (tNil)))))) (tTest (tOp (rNeD K) (tVar 0) (tVar 1)))) (tRet (tC (.bl false))) (tNext)) (tSeq (tFor (iList K (tVar 0)) (gName 2) (r_lisweb_f1 K)) (tRet (tC (.bl true))))
/-! ### _law_word(_law_e): slots 0 _law_e, 1 _law_some, 2 _law_found, 3 _law_word_here, 4 _law_good -/
abbrev s_lword : Stmt := topS 27
abbrev N_lword : List Str := ["_law_e", "_law_some", "_law_found", "_law_word_here", "_law_good"]
abbrev P_lword : List Str := ["_law_e"]
theorem sc_lword : FnScope N_lword P_lword (defScope s_lword) := ⟨rfl, rfl, rfl, by decide +kernel, rfl, by decide +kernel, by decide +kernel⟩
def r_lword (K : PySem.W.Frag) : TS :=
  tSeq (tAsg (tLst (tCons (tTup (tCons (tC (.str "lines")) (tCons (tCB (rIsK K) (tCons (tVar 0) (tCons (tC (.ref (He.ga K "BadLines"))) (tNil)))) (tNil)))) (tCons (tTup (tCons (tC (.str "web")) (tCons (tCB (rIsK K) (tCons (tVar 0) (tCons (tC (.ref (He.ga K "BadWeb"))) (tNil)))) (tNil)))) (tCons (tTup (tCons (tC (.str "row")) (tCons (tCB (rIsK K) (tCons (tVar 0) (tCons (tC (.ref (He.ga K "BadRow"))) (tNil)))) (tNil)))) (tNil))))) (gName 1)) (tSeq (tAsg (tOp rCat (tVar 1) (tLst (tCons (tTup (tCons (tC (.str "place")) (tCons (tCB (rIsK K) (tCons (tVar 0) (tCons (tC (.ref (He.ga K "BadPlace"))) (tNil)))) (tNil)))) (tCons (tTup (tCons (tC (.str "order")) (tCons (tCB (rIsK K) (tCons (tVar 0) (tCons (tC (.ref (He.ga K "BadOrder"))) (tNil)))) (tNil)))) (tNil))))) (gName 1)) (tSeq (tAsg (tOp rCat (tVar 1) (tLst (tCons (tTup (tCons (tC (.str "text")) (tCons (tCB (rIsK K) (tCons (tVar 0) (tCons (tC (.ref (He.ga K "BadText"))) (tNil)))) (tNil)))) (tCons (tTup (tCons (tC (.str "nothing")) (tCons (tCB (rIsK K) (tCons (tVar 0) (tCons (tC (.ref (He.ga K "NothingPut"))) (tNil)))) (tNil)))) (tNil))))) (gName 1)) (tSeq (tAsg (tLc (iList K (tVar 1)) (gTup K 2 (gCons (gName 3) (gCons (gName 4) (gNil)))) (tB (tVar 4)) (tVar 3) [3, 4]) (gName 2)) (tSeq (tIfS (tTest (tOp rIsN (tVar 0) (tC .non))) (tRet (tC (.str ""))) (tNext)) (tRet (tIf (tAnd (tTest (tOp rEq (tCB (kLen K) (tCons (tVar 2) (tNil))) (tC (.int 1)))) (tB (tCB (rIsK K) (tCons (tVar 0) (tCons (tC (.ty "ValueError")) (tNil)))))) (tOp (rIxL K) (tVar 2) (tC (.int 0))) (tC (.str "another"))))))))
/-! ### _law_tried(_law_bench, _law_thing): slots 0 _law_bench, 1 _law_thing, 2 _law_found, 3 _law_e -/
abbrev s_ltried : Stmt := topS 28
abbrev N_ltried : List Str := ["_law_bench", "_law_thing", "_law_found", "_law_e"]
abbrev P_ltried : List Str := ["_law_bench", "_law_thing"]
theorem sc_ltried : FnScope N_ltried P_ltried (defScope s_ltried) := ⟨rfl, rfl, rfl, by decide +kernel, rfl, by decide +kernel, by decide +kernel⟩
def r_ltried (K : PySem.W.Frag) : TS :=
  tSeq (tAsg (tC .non) (gName 2)) (tSeq (tTryK K (.ref (He.ga K "WebError")) 3 (fun W => tIfS (tTest (tOp rIsN (tVar 1) (tC .non))) (tDrop (tMetW K "Bench" "take_back" (sp_btake K) W (tVar 0) (tNil))) (tDrop (tMetW K "Bench" "put" (sp_bput K) W (tVar 0) (tCons (tVar 1) (tNil))))) (fun a cls d => tAsg (tVar 3) (gName 2))) (tRet (tVar 2)))
/-! ### _law_ends(_law_lines, _law_comparers): slots 0 _law_lines, 1 _law_comparers, 2 _law_found, 3 _law_row -/
abbrev s_lends : Stmt := topS 29
abbrev N_lends : List Str := ["_law_lines", "_law_comparers", "_law_found", "_law_row"]
abbrev P_lends : List Str := ["_law_lines", "_law_comparers"]
theorem sc_lends : FnScope N_lends P_lends (defScope s_lends) := ⟨rfl, rfl, rfl, by decide +kernel, rfl, by decide +kernel, by decide +kernel⟩
def r_lends_f1 (K : PySem.W.Frag) : TS :=
  tAsg (tC (.bl true)) (gSub (tVar 2) (tThen (tCal (sp_lgone K) (tCons (tVar 1) (tCons (tVar 3) (tNil)))) (kTup K)) rSetD)
def r_lends (K : PySem.W.Frag) : TS :=
  tSeq (tAsg (tDNewT) (gName 2)) (tSeq (tFor (iList K (tCal (sp_lbare K) (tCons (tVar 0) (tNil)))) (gName 3) (r_lends_f1 K)) (tRet (tFrz (tVar 2))))
/-! ### _law_asked(_law_bench, _law_model, _law_n, _law_held): slots 0 _law_bench, 1 _law_model, 2 _law_n, 3 _law_held, 4 _law_ends_here, 5 _law_turn, 6 _law_way, 7 _law_found, 8 _law_many, 9 _law_row, 10 _law_wild, 11 _law_kept, 12 _law_one -/
abbrev s_lasked : Stmt := topS 30
abbrev N_lasked : List Str := ["_law_bench", "_law_model", "_law_n", "_law_held", "_law_ends_here", "_law_turn", "_law_way", "_law_found", "_law_many", "_law_row", "_law_wild", "_law_kept", "_law_one"]
abbrev P_lasked : List Str := ["_law_bench", "_law_model", "_law_n", "_law_held"]
theorem sc_lasked : FnScope N_lasked P_lasked (defScope s_lasked) := ⟨rfl, rfl, rfl, by decide +kernel, rfl, by decide +kernel, by decide +kernel⟩
def r_lasked_f1 (K : PySem.W.Frag) : TS :=
  tSeq (tAsg (tOp oMod (tOp oAdd (tVar 2) (tOp oMul (tVar 5) (tOp (rIxL K) (tLst (tCons (tC (.int 1)) (tCons (tC (.int 2)) (tNil)))) (tOp oMod (tOp oDiv (tVar 2) (tC (.int 3))) (tC (.int 2)))))) (tC (.int 3))) (gName 6)) (tSeq (tIfS (tTest (tOp rEq (tVar 6) (tC (.int 0)))) (tSeq (tAsg (tMet K "Bench" "comparers" (sp_bcomps K) (tVar 0) (tNil)) (gName 7)) (tSeq (tIfS (tNot (tB (tCal (sp_lisweb K) (tCons (tVar 7) (tCons (tDGet (tVar 1) (tC (.str "web"))) (tNil)))))) (tRet (tC (.bl false))) (tNext)) (tSeq (tDrop (tBM K "list" rAppend (tVar 7) (tCons (tTup (tCons (tC (.int 0)) (tCons (tC (.int 0)) (tNil)))) (tNil)))) (tDrop (tBM K "list" rAppend (tVar 3) (tCons (tTup (tCons (tVar 7) (tCons (tOp rCat (tDGet (tVar 1) (tC (.str "web"))) (tLst (tCons (tTup (tCons (tC (.int 0)) (tCons (tC (.int 0)) (tNil)))) (tNil)))) (tNil)))) (tNil))))))) (tNext)) (tSeq (tIfS (tTest (tOp rEq (tVar 6) (tC (.int 1)))) (tSeq (tAsg (tMet K "Bench" "many" (sp_bmany K) (tVar 0) (tNil)) (gName 8)) (tIfS (tOr (tB (tCB (rIsK K) (tCons (tVar 8) (tCons (tC (.ty "bool")) (tNil))))) (tOr (tNot (tB (tCB (rIsK K) (tCons (tVar 8) (tCons (tC (.ty "int")) (tNil)))))) (tTest (tOp rNe (tVar 8) (tCB kLenT (tCons (tVar 4) (tNil))))))) (tRet (tC (.bl false))) (tNext))) (tNext)) (tIfS (tTest (tOp rEq (tVar 6) (tC (.int 2)))) (tSeq (tAsg (tMet K "Bench" "wild" (sp_bwild K) (tVar 0) (tNil)) (gName 9)) (tSeq (tAsg (tLc (iKeys (tVar 4)) (gName 12) (tTest (tOp (rNeD K) (tCB (kList K) (tCons (tVar 12) (tNil))) (tCB (kSortTu K) (tCons (tVar 12) (tNil))))) (tVar 12) [12]) (gName 10)) (tSeq (tIfS (tTest (tOp rNe (tOp rIsN (tVar 9) (tC .non)) (tOp (rEqD K) (tVar 10) (tLst (tNil))))) (tRet (tC (.bl false))) (tNext)) (tSeq (tIfS (tAnd (tTest (tOp rNotN (tVar 9) (tC .non))) (tOr (tNot (tB (tCB (rIsK K) (tCons (tVar 9) (tCons (tC (.ty "list")) (tNil)))))) (tTest (tOp (rNotInD K) (tThen (tVar 9) (kTup K)) (tVar 10))))) (tRet (tC (.bl false))) (tNext)) (tIfS (tTest (tOp rNotN (tVar 9) (tC .non))) (tSeq (tAsg (tCB (kList K) (tCons (tVar 9) (tNil))) (gName 11)) (tSeq (tDrop (tBM K "list" rAppend (tVar 9) (tCons (tC (.int 0)) (tNil)))) (tIfS (tTest (tOp (rNeD K) (tMet K "Bench" "wild" (sp_bwild K) (tVar 0) (tNil)) (tVar 11))) (tRet (tC (.bl false))) (tNext)))) (tNext)))))) (tNext))))
def r_lasked (K : PySem.W.Frag) : TS :=
  tSeq (tAsg (tCal (sp_lends K) (tCons (tDGet (tVar 1) (tC (.str "lines"))) (tCons (tDGet (tVar 1) (tC (.str "web"))) (tNil)))) (gName 4)) (tSeq (tFor (iRng1 (tCons (tC (.int 3)) (tNil))) (gName 5) (r_lasked_f1 K)) (tRet (tC (.bl true))))
/-! ### _law_deed(_law_bench, _law_model, _law_cell, _law_k): slots 0 _law_bench, 1 _law_model, 2 _law_cell, 3 _law_k, 4 _law_n, 5 _law_lines, 6 _law_a, 7 _law_b, 8 _law_comparer, 9 _law_one, 10 _law_other, 11 _law_due, 12 _law_found, 13 _law_row -/
abbrev s_ldeed : Stmt := topS 31
abbrev N_ldeed : List Str := ["_law_bench", "_law_model", "_law_cell", "_law_k", "_law_n", "_law_lines", "_law_a", "_law_b", "_law_comparer", "_law_one", "_law_other", "_law_due", "_law_found", "_law_row"]
abbrev P_ldeed : List Str := ["_law_bench", "_law_model", "_law_cell", "_law_k"]
theorem sc_ldeed : FnScope N_ldeed P_ldeed (defScope s_ldeed) := ⟨rfl, rfl, rfl, by decide +kernel, rfl, by decide +kernel, by decide +kernel⟩
def r_ldeed (K : PySem.W.Frag) : TS :=
  tSeq (tAsg (tCal (sp_ldraw K) (tCons (tVar 2) (tCons (tVar 3) (tCons (tC (.int 100)) (tNil))))) (gName 4)) (tSeq (tAsg (tDGet (tVar 1) (tC (.str "lines"))) (gName 5)) (tSeq (tIfS (tOr (tAnd (tTest (tOp rEq (tOp oMod (tVar 4) (tC (.int 5))) (tC (.int 0)))) (tTest (tOp (rNeD K) (tDGet (tVar 1) (tC (.str "web"))) (tLst (tNil))))) (tTest (tOp rEq (tCB (kLen K) (tCons (tDGet (tVar 1) (tC (.str "web"))) (tNil))) (tC (.int 60))))) (tRet (tOp (rEqD K) (tMet K "Bench" "take_back" (quiet (sp_btake K)) (tVar 0) (tNil)) (tBM0 K "list" rPop (tDGet (tVar 1) (tC (.str "web")))))) (tNext)) (tSeq (tIfS (tTest (tOp rEq (tVar 5) (tC (.int 1)))) (tRet (tOp rEq (tCal (sp_lword K) (tCons (tCal (sp_ltried K) (tCons (tVar 0) (tCons (tTup (tCons (tC (.int 0)) (tCons (tC (.int 0)) (tNil)))) (tNil)))) (tNil))) (tC (.str "web")))) (tNext)) (tSeq (tAsg (tOp oMod (tOp oDiv (tVar 4) (tC (.int 5))) (tVar 5)) (gName 6)) (tSeq (tAsg (tOp oMod (tOp oAdd (tOp oAdd (tVar 6) (tC (.int 1))) (tOp oMod (tOp oDiv (tVar 4) (tC (.int 50))) (tOp oSub (tVar 5) (tC (.int 1))))) (tVar 5)) (gName 7)) (tSeq (tAsg (tIf (tTest (tOp oGt (tOp oMod (tOp oDiv (tVar 4) (tC (.int 500))) (tC (.int 3))) (tC (.int 0)))) (tTup (tCons (tCB kMin (tCons (tVar 6) (tCons (tVar 7) (tNil)))) (tCons (tCB kMax (tCons (tVar 6) (tCons (tVar 7) (tNil)))) (tNil)))) (tTup (tCons (tVar 6) (tCons (tVar 7) (tNil))))) (gName 8)) (tSeq (tAsg (tVar 8) (gTup K 2 (gCons (gName 9) (gCons (gName 10) (gNil))))) (tSeq (tAsg (tOp (rNeD K) (tLc (iKeys (tCal (sp_lends K) (tCons (tVar 5) (tCons (tDGet (tVar 1) (tC (.str "web"))) (tNil))))) (gName 13) (tTest (tOp oGt (tOp (rIxT K) (tVar 13) (tVar 9)) (tOp (rIxT K) (tVar 13) (tVar 10)))) (tVar 13) [13]) (tLst (tNil))) (gName 11)) (tSeq (tDrop (tBM K "list" rAppend (tDGet (tVar 1) (tC (.str "web"))) (tCons (tVar 8) (tNil)))) (tSeq (tAsg (tMet K "Bench" "put" (quiet (sp_bput K)) (tVar 0) (tCons (tVar 8) (tNil))) (gName 12)) (tRet (tAndV (tCB (rIsK K) (tCons (tVar 12) (tCons (tC (.ty "bool")) (tNil)))) (tOp rEq (tVar 12) (tVar 11))))))))))))))
/-! ### _law_refused(_law_bench, _law_model, _law_n): slots 0 _law_bench, 1 _law_model, 2 _law_n, 3 _law_odd, 4 _law_e -/
abbrev s_lrefused : Stmt := topS 32
abbrev N_lrefused : List Str := ["_law_bench", "_law_model", "_law_n", "_law_odd", "_law_e"]
abbrev P_lrefused : List Str := ["_law_bench", "_law_model", "_law_n"]
theorem sc_lrefused : FnScope N_lrefused P_lrefused (defScope s_lrefused) := ⟨rfl, rfl, rfl, by decide +kernel, rfl, by decide +kernel, by decide +kernel⟩
def r_lrefused (K : PySem.W.Frag) : TS :=
  tSeq (tAsg (tOp (rIxL K) (tLst (tCons (tTup (tCons (tC (.int 0)) (tCons (tC (.int 0)) (tNil)))) (tCons (tTup (tCons (tC (.int 0)) (tCons (tDGet (tVar 1) (tC (.str "lines"))) (tNil)))) (tCons (tLst (tCons (tC (.int 0)) (tCons (tC (.int 1)) (tNil)))) (tCons (tC (.int 5)) (tCons (tC (.str "")) (tCons (tTup (tCons (tC (.int 0)) (tNil))) (tCons (tTup (tCons (tC (.bl true)) (tCons (tC (.int 0)) (tNil)))) (tCons (tTup (tCons (tUn oNeg (tC (.int 1))) (tCons (tC (.int 0)) (tNil)))) (tCons (tTup (tCons (tC (.int 0)) (tCons (tC (.int 1)) (tCons (tC (.int 2)) (tNil))))) (tCons (tDNewK) (tNil)))))))))))) (tOp oMod (tVar 2) (tC (.int 10)))) (gName 3)) (tSeq (tAsg (tCal (sp_ltried K) (tCons (tVar 0) (tCons (tVar 3) (tNil)))) (gName 4)) (tSeq (tIfS (tOr (tTest (tOp rNe (tCal (sp_lword K) (tCons (tVar 4) (tNil))) (tC (.str "web")))) (tTest (tOp rNotN (tXk K "place" (tVar 4)) (tC .non)))) (tRet (tC (.bl false))) (tNext)) (tRet (tOrV (tOp (rNeD K) (tDGet (tVar 1) (tC (.str "web"))) (tLst (tNil))) (tOp rEq (tCal (sp_lword K) (tCons (tCal (sp_ltried K) (tCons (tVar 0) (tCons (tC .non) (tNil)))) (tNil))) (tC (.str "nothing")))))))
/-! ### _law_full(_law_lines, _law_n): slots 0 _law_lines, 1 _law_n, 2 _law_bench, 3 _law_web, 4 _law_comparer, 5 _law_turn, 6 _law_e, 7 _law_k -/
abbrev s_lfull : Stmt := topS 33
abbrev N_lfull : List Str := ["_law_lines", "_law_n", "_law_bench", "_law_web", "_law_comparer", "_law_turn", "_law_e", "_law_k"]
abbrev P_lfull : List Str := ["_law_lines", "_law_n"]
theorem sc_lfull : FnScope N_lfull P_lfull (defScope s_lfull) := ⟨rfl, rfl, rfl, by decide +kernel, rfl, by decide +kernel, by decide +kernel⟩
def r_lfull_f1 (K : PySem.W.Frag) : TS :=
  tDrop (tMet K "Bench" "put" (quiet (sp_bput K)) (tVar 2) (tCons (tVar 4) (tNil)))
def r_lfull_f2 (K : PySem.W.Frag) : TS :=
  tSeq (tAsg (tCal (sp_ltried K) (tCons (tVar 2) (tCons (tTup (tCons (tC (.int 0)) (tCons (tC (.int 1)) (tNil)))) (tNil)))) (gName 6)) (tSeq (tIfS (tOr (tTest (tOp rNe (tCal (sp_lword K) (tCons (tVar 6) (tNil))) (tC (.str "web")))) (tOr (tTest (tOp rNotN (tXk K "place" (tVar 6)) (tC .non))) (tTest (tOp (rNeD K) (tMet K "Bench" "comparers" (sp_bcomps K) (tVar 2) (tNil)) (tVar 3))))) (tRet (tC (.bl false))) (tNext)) (tIfS (tOr (tTest (tOp (rNeD K) (tMet K "Bench" "take_back" (quiet (sp_btake K)) (tVar 2) (tNil)) (tOp (rIxL K) (tVar 3) (tUn oNeg (tC (.int 1)))))) (tNot (tB (tCB (rIsK K) (tCons (tMet K "Bench" "put" (quiet (sp_bput K)) (tVar 2) (tCons (tOp (rIxL K) (tVar 3) (tUn oNeg (tC (.int 1)))) (tNil))) (tCons (tC (.ty "bool")) (tNil))))))) (tRet (tC (.bl false))) (tNext)))
def r_lfull (K : PySem.W.Frag) : TS :=
  tSeq (tAsg (tMk K "Bench" (sp_binit K) (tCons (tVar 0) (tNil))) (gName 2)) (tSeq (tAsg (tLc (iRng1 (tCons (tC (.int 60)) (tNil))) (gName 7) (tYes) (tOp (rIxL K) (tLst (tCons (tTup (tCons (tC (.int 0)) (tCons (tC (.int 1)) (tNil)))) (tCons (tTup (tCons (tC (.int 1)) (tCons (tC (.int 0)) (tNil)))) (tCons (tTup (tCons (tOp oSub (tVar 0) (tC (.int 1))) (tCons (tC (.int 0)) (tNil)))) (tNil))))) (tOp oMod (tOp oShr (tVar 1) (tOp oMod (tVar 7) (tC (.int 20)))) (tC (.int 3)))) [7]) (gName 3)) (tSeq (tFor (iList K (tVar 3)) (gName 4) (r_lfull_f1 K)) (tSeq (tFor (iRng1 (tCons (tC (.int 2)) (tNil))) (gName 5) (r_lfull_f2 K)) (tRet (tOp (rEqD K) (tMet K "Bench" "comparers" (sp_bcomps K) (tVar 2) (tNil)) (tVar 3))))))
/-! ### law(_law_script): slots 0 _law_script, 1 _law_n, 2 _law_models, 3 _law_benches, 4 _law_held, 5 _law_k, 6 _law_cell, 7 _law_more, 8 _law_at, 9 _law_model, 10 _law_pair -/
abbrev s_law : Stmt := topS 34
abbrev N_law : List Str := ["_law_script", "_law_n", "_law_models", "_law_benches", "_law_held", "_law_k", "_law_cell", "_law_more", "_law_at", "_law_model", "_law_pair"]
abbrev P_law : List Str := ["_law_script"]
theorem sc_law : FnScope N_law P_law (defScope s_law) := ⟨rfl, rfl, rfl, by decide +kernel, rfl, by decide +kernel, by decide +kernel⟩
def r_law_f1 (K : PySem.W.Frag) : TS :=
  tSeq (tAsg (tCal (sp_ldraw K) (tCons (tVar 6) (tCons (tVar 5) (tCons (tC (.int 102)) (tNil))))) (gName 7)) (tSeq (tAsg (tCB kInt1 (tCons (tOp rEq (tOp oMod (tVar 7) (tC (.int 4))) (tC (.int 1))) (tNil))) (gName 8)) (tSeq (tIfS (tAnd (tTest (tOp rEq (tOp oMod (tOp oDiv (tVar 7) (tC (.int 4))) (tC (.int 7))) (tC (.int 1)))) (tNot (tB (tCal (sp_lrefused K) (tCons (tOp (rIxL K) (tVar 3) (tVar 8)) (tCons (tOp (rIxL K) (tVar 2) (tVar 8)) (tCons (tOp oDiv (tVar 7) (tC (.int 28))) (tNil)))))))) (tRet (tC (.bl false))) (tNext)) (tSeq (tIfS (tNot (tB (tCal (sp_ldeed K) (tCons (tOp (rIxL K) (tVar 3) (tVar 8)) (tCons (tOp (rIxL K) (tVar 2) (tVar 8)) (tCons (tVar 6) (tCons (tVar 5) (tNil)))))))) (tRet (tC (.bl false))) (tNext)) (tSeq (tIfS (tNot (tB (tCal (sp_lasked K) (tCons (tOp (rIxL K) (tVar 3) (tVar 8)) (tCons (tOp (rIxL K) (tVar 2) (tVar 8)) (tCons (tOp oDiv (tVar 7) (tC (.int 30))) (tCons (tVar 4) (tNil)))))))) (tRet (tC (.bl false))) (tNext)) (tIfS (tTest (tOp (rNeD K) (tMet K "Bench" "comparers" (sp_bcomps K) (tOp (rIxL K) (tVar 3) (tOp oSub (tC (.int 1)) (tVar 8))) (tNil)) (tDGet (tOp (rIxL K) (tVar 2) (tOp oSub (tC (.int 1)) (tVar 8))) (tC (.str "web"))))) (tRet (tC (.bl false))) (tNext))))))
def r_law (K : PySem.W.Frag) : TS :=
  tSeq (tAsg (tCal (sp_ldraw K) (tCons (tCB (rSum K) (tCons (tSl (rSlL K) (tVar 0) (tNoPart) (tPart (tC (.int 5)))) (tNil))) (tCons (tC (.int 4)) (tCons (tC (.int 101)) (tNil))))) (gName 1)) (tSeq (tIfS (tAnd (tTest (tOp rEq (tOp oMod (tOp oDiv (tVar 1) (tC (.int 100))) (tC (.int 8))) (tC (.int 1)))) (tNot (tB (tCal (sp_lfull K) (tCons (tOp oAdd (tC (.int 2)) (tOp oMod (tVar 1) (tC (.int 2)))) (tCons (tVar 1) (tNil))))))) (tRet (tC (.bl false))) (tNext)) (tSeq (tAsg (tLst (tCons (tDisp [(tC (.str "lines"), tOp oAdd (tC (.int 2)) (tOp oMod (tVar 1) (tC (.int 4)))), (tC (.str "web"), tLst (tNil))]) (tCons (tDisp [(tC (.str "lines"), tOp oAdd (tC (.int 1)) (tOp oMod (tOp oDiv (tVar 1) (tC (.int 4))) (tC (.int 6)))), (tC (.str "web"), tLst (tNil))]) (tNil)))) (gName 2)) (tSeq (tAsg (tLc (iList K (tVar 2)) (gName 9) (tYes) (tMk K "Bench" (sp_binit K) (tCons (tDGet (tVar 9) (tC (.str "lines"))) (tNil))) [9]) (gName 3)) (tSeq (tAsg (tLst (tNil)) (gName 4)) (tSeq (tFor (iEnum K (tCons (tSl (rSlL K) (tVar 0) (tNoPart) (tPart (tC (.int 63)))) (tNil))) (gTup K 2 (gCons (gName 5) (gCons (gName 6) (gNil)))) (r_law_f1 K)) (tRet (tOp (rEqD K) (tLc (iList K (tVar 4)) (gName 10) (tTest (tOp (rNeD K) (tOp (rIxT K) (tVar 10) (tC (.int 0))) (tOp (rIxT K) (tVar 10) (tC (.int 1))))) (tVar 10) [10]) (tLst (tNil)))))))))
/-! ### BadWeb.__init__ -/
abbrev s_initBadWeb : Stmt := memS (topS 10) 0
abbrev N_initBadWeb : List Str := ["self", "place"]
theorem sc_initBadWeb : FnScope N_initBadWeb N_initBadWeb (defScope s_initBadWeb) := ⟨rfl, rfl, rfl, by decide +kernel, rfl, by decide +kernel, by decide +kernel⟩
section
variable {P : Program} {w : World} {K : PySem.W.Frag} {mg : Str → Option Value} {base : Heap}
theorem ok_rowof (h : Here K mg "row_of" s_rowof) (b_range : mg "range" = none)
    (len : ∀ vs H Q E, sp_rowof K vs H Q E → vs.length = P_rowof.length)
    (rd : ∀ (vs : List V) (H : Hp) (Q : VK) (E : XK), sp_rowof K vs H Q E → r_rowof K { nx := fun _ H' => Q .non H', rt := Q } (start N_rowof vs) H) :
    Cal P w K mg base CX0 1 "row_of" P_rowof (sp_rowof K) := by
  exact h.cal sc_rowof len (fun _ _ _ _ _ _ us hl => match us, hl with | [_, _], _ => rfl)
    (fun f cdv A outer s H E hr => (show PSs _ _ _ from (pss_one (ps_ret (pe_lc (own := [("line", 2)]) rfl sc_rowof.nd (pi_range1 (by rfl) b_range (pa_cons (pv 0) pa_nil)) (blkOk_by (N := N_rowof) (sc := defScope s_rowof) (by decide +kernel)) (fun _ _ _ _ _ => (pg_name (i := 2) sc_rowof.nd rfl (Or.inl rfl))) (fun _ _ _ _ _ => pts_nil) (fun _ _ _ _ _ => (pe_op op_and (pe_op op_shr (pv 1) (pv 2)) pe_int))))))) rd
theorem ok_iswhole (h : Here K mg "is_whole" s_iswhole) (b_int : mg "int" = none) (b_type : mg "type" = none)
    (len : ∀ vs H Q E, sp_iswhole K vs H Q E → vs.length = P_iswhole.length)
    (rd : ∀ (vs : List V) (H : Hp) (Q : VK) (E : XK), sp_iswhole K vs H Q E → r_iswhole K { nx := fun _ H' => Q .non H', rt := Q } (start N_iswhole vs) H) :
    Cal P w K mg base CX0 1 "is_whole" P_iswhole (sp_iswhole K) := by
  exact h.cal sc_iswhole len (fun _ _ _ _ _ _ us hl => match us, hl with | [_], _ => rfl)
    (fun f cdv A outer s H E hr => (show PSs _ _ _ from (pss_one (ps_ret (pe_cmpR op_isTyB (pe_callTy call_type1 (by rfl) b_type (by decide +kernel) (pa_cons (pv 0) pa_nil)) (pe_bltn (v := .ty "int") (by rfl) b_int (by decide +kernel) rfl) (nomark _)))))) rd
theorem ok_iscomparer (h : Here K mg "is_comparer" s_iscomparer) (C_isline : Cal P w K mg base CX0 2 "_is_line" ["lines", "value"] (sp_isline K)) (b_len : mg "len" = none) (b_tuple : mg "tuple" = none) (b_type : mg "type" = none)
    (len : ∀ vs H Q E, sp_iscomparer K vs H Q E → vs.length = P_iscomparer.length)
    (rd : ∀ (vs : List V) (H : Hp) (Q : VK) (E : XK), sp_iscomparer K vs H Q E → r_iscomparer K { nx := fun _ H' => Q .non H', rt := Q } (start N_iscomparer vs) H) :
    Cal P w K mg base CX0 3 "is_comparer" P_iscomparer (sp_iscomparer K) := by
  exact h.cal sc_iscomparer len (fun _ _ _ _ _ _ us hl => match us, hl with | [_, _], _ => rfl)
    (fun f cdv A outer s H E hr => (show PSs _ _ _ from (pss_cons (ps_if (pw_or (pt_cmpR op_notTyB (pe_callTy call_type1 (by rfl) b_type (by decide +kernel) (pa_cons (pv 1) pa_nil)) (pe_bltn (v := .ty "tuple") (by rfl) b_tuple (by decide +kernel) rfl) (nomark _)) (pw_or1 (pt_cmpR op_ne (pe_callB cl_len (by rfl) b_len PySem.boot_len (pa_cons (pv 1) pa_nil)) pe_int (nomark _)))).pt (pss_one (ps_ret pe_bl)) pss_nil) (pss_cons (ps_asg (pv 1) (pg_tup rfl (pgs_cons (pg_name (i := 2) sc_iscomparer.nd rfl (Or.inl rfl)) (pgs_cons (pg_name (i := 3) sc_iscomparer.nd rfl (Or.inl rfl)) pgs_nil)))) (pss_one (ps_ret (pe_and (pe_cal C_isline (hr.mono (by decide)) (by rfl) (pa_cons (pv 0) (pa_cons (pv 2) pa_nil))) (pe_and (pe_cal C_isline (hr.mono (by decide)) (by rfl) (pa_cons (pv 0) (pa_cons (pv 3) pa_nil))) (pe_one (pe_cmpR op_ne (pv 2) (pv 3) (nomark _))))))))))) rd
theorem ok_isline (h : Here K mg "_is_line" s_isline) (C_iswhole : Cal P w K mg base CX0 1 "is_whole" ["value"] (sp_iswhole K))
    (len : ∀ vs H Q E, sp_isline K vs H Q E → vs.length = P_isline.length)
    (rd : ∀ (vs : List V) (H : Hp) (Q : VK) (E : XK), sp_isline K vs H Q E → r_isline K { nx := fun _ H' => Q .non H', rt := Q } (start N_isline vs) H) :
    Cal P w K mg base CX0 2 "_is_line" P_isline (sp_isline K) := by
  exact h.cal sc_isline len (fun _ _ _ _ _ _ us hl => match us, hl with | [_, _], _ => rfl)
    (fun f cdv A outer s H E hr => (show PSs _ _ _ from (pss_one (ps_ret (pe_and (pe_cal C_iswhole (hr.mono (by decide)) (by rfl) (pa_cons (pv 1) pa_nil)) (pe_one (pe_chain op_le op_lt pe_int (pv 1) (pv 0)))))))) rd
theorem ok_needlines (h : Here K mg "need_lines" s_needlines) (C_iswhole : Cal P w K mg base CX0 1 "is_whole" ["value"] (sp_iswhole K)) (c_MOST_LINES : ∃ t, mg "MOST_LINES" = some (.int 10 t))
    (len : ∀ vs H Q E, sp_needlines K vs H Q E → vs.length = P_needlines.length)
    (rd : ∀ (vs : List V) (H : Hp) (Q : VK) (E : XK), sp_needlines K vs H Q E → r_needlines K { nx := fun _ H' => Q .non H', rt := Q } (start N_needlines vs) H) :
    Cal P w K mg base CX0 2 "need_lines" P_needlines (sp_needlines K) := by
  exact h.cal sc_needlines len (fun _ _ _ _ _ _ us hl => match us, hl with | [_], _ => rfl)
    (fun f cdv A outer s H E hr => (show PSs _ _ _ from (pss_one (ps_if (pw_or (pt_not (pt_val (pe_cal C_iswhole (hr.mono (by decide)) (by rfl) (pa_cons (pv 0) pa_nil)))) (pw_or1 (pt_not (pt_chain op_le op_le pe_int (pv 0) (pe_gi c_MOST_LINES (by rfl)))))).pt (pss_one ps_off) pss_nil)))) rd
theorem ok_binit (h : Met K "Bench" "__init__" "Bench.__init__" s_binit) (hM : Mk K (He.ga K "Bench") (He.ma K (He.ga K "Bench") "__init__")) (g : mg "Bench" = some (.ref (He.ga K "Bench"))) (C_needlines : Cal P w K mg base CX0 2 "need_lines" ["lines"] (sp_needlines K)) (b_list : mg "list" = none) (b_range : mg "range" = none)
    (len : ∀ vs H Q E, sp_binit K vs H Q E → vs.length = P_binit.length)
    (rd : ∀ (vs : List V) (H : Hp) (Q : VK) (E : XK), sp_binit K vs H Q E → r_binit K { nx := fun _ H' => Q .non H', rt := Q } (start N_binit vs) H) :
    MkCal P w K mg base CX0 3 "Bench" P_binit (sp_binit K) := by
  exact h.mk hM g sc_binit len (fun _ _ _ _ _ _ us hl => match us, hl with | [_, _], _ => rfl)
    (fun f cdv A outer s H E hr => (show PSs _ _ _ from (pss_cons (ps_expr (pe_cal C_needlines (hr.mono (by decide)) (by rfl) (pa_cons (pv 1) pa_nil))) (pss_cons (ps_fld (pv 0) (pv 1) rfl) (pss_cons (ps_fld (pv 0) (pe_lst pa_nil) rfl) (pss_one (ps_fld (pv 0) (pe_lst (pa_cons (pe_listRg rfl (by rfl) b_list (prg_1 (by rfl) b_range (pe_op op_shl pe_int (pv 1)))) pa_nil)) rfl))))))) rd
theorem ok_bput (h : Met K "Bench" "put" "Bench.put" s_bput) (hM : Meth K (He.ga K "Bench") "put" (He.ma K (He.ga K "Bench") "put")) (T : Cls K (He.ga K "Bench")) (C_iscomparer : Cal P w K mg base CX0 3 "is_comparer" ["lines", "value"] (sp_iscomparer K)) (C_bbehind : Cal P w K mg base CX0 1 "_behind" ["number", "a", "b"] (sp_bbehind K)) (b_len : mg "len" = none) (b_sorted : mg "sorted" = none) (c_MOST_COMPARERS : ∃ t, mg "MOST_COMPARERS" = some (.int 60 t)) (O_BadWeb : OwK K mg "BadWeb" "place") (I_BadWeb : InitOk P w K mg base 1 "BadWeb" "place")
    (len : ∀ vs H Q E, sp_bput K vs H Q E → vs.length = P_bput.length)
    (rd : ∀ (vs : List V) (H : Hp) (Q : VK) (E : XK), sp_bput K vs H Q E → r_bput K w E { nx := fun _ H' => Q .non H', rt := Q } (start N_bput vs) H) :
    MCal P w K mg base (L2.CX P w) 4 "Bench" "put" P_bput (sp_bput K) := by
  obtain ⟨fd_BadWeb, F_BadWeb, B_BadWeb⟩ := I_BadWeb
  exact h.calX (r := fun E => r_bput K w E) hM T sc_bput len (fun _ _ _ _ _ _ us hl => match us, hl with | [_, _], _ => rfl)
    (fun f cdv A outer s H E hr => (show PSs _ _ _ from (pss_cons (ps_if (pw_or (pt_cmpR op_ge (pe_callB cl_len (by rfl) b_len PySem.boot_len (pa_cons (pe_fld (pv 0) rfl) pa_nil)) (pe_gi c_MOST_COMPARERS (by rfl)) (nomark _)) (pw_or1 (pt_not (pt_val (pe_cal C_iscomparer (hr.mono (by decide)) (by rfl) (pa_cons (pe_fld (pv 0) rfl) (pa_cons (pv 1) pa_nil))))))).pt (pss_one (ps_rzO rfl (L2.takes_of rfl rfl rfl rfl) O_BadWeb F_BadWeb B_BadWeb (hr.mono (by decide)) (by rfl) (pa_cons pe_non pa_nil))) pss_nil) (pss_cons (ps_asg (pv 1) (pg_tup rfl (pgs_cons (pg_name (i := 2) sc_bput.nd rfl (Or.inr rfl)) (pgs_cons (pg_name (i := 3) sc_bput.nd rfl (Or.inr rfl)) pgs_nil)))) (pss_cons (ps_set (i := 4) sc_bput.nd rfl (Or.inl rfl) (pe_ix ix_list (pe_fld (pv 0) rfl) (pe_un un_neg pe_int) (fun _ _ => rfl))) (pss_cons (ps_set (i := 5) sc_bput.nd rfl (Or.inl rfl) (pe_callB (cr_sortS rfl) (by rfl) b_sorted (by decide +kernel) (pa_cons (pe_setC (own := [("number", 6)]) rfl sc_bput.nd (pi_list (pv 4)) (blkOk_by (N := N_bput) (sc := defScope s_bput) (by decide +kernel)) (fun _ _ _ _ _ => (pg_name (i := 6) sc_bput.nd rfl (Or.inl rfl))) (fun _ _ _ _ _ => (pe_cal C_bbehind (hr.mono (by decide)) (by rfl) (pa_cons (pv 6) (pa_cons (pv 2) (pa_cons (pv 3) pa_nil)))))) pa_nil))) (pss_cons (ps_expr (pe_bm PySem.F.plainAttrs_list PySem.F.slot_list_append PySem.F.type_list_append md_append (pe_fld (pv 0) rfl) (pa_cons (pe_tup (pa_cons (pv 2) (pa_cons (pv 3) pa_nil))) pa_nil))) (pss_cons (ps_expr (pe_bm PySem.F.plainAttrs_list PySem.F.slot_list_append PySem.F.type_list_append md_append (pe_fld (pv 0) rfl) (pa_cons (pv 5) pa_nil))) (pss_one (ps_ret (pe_cmpR (op_neD (hu64 hr)) (pv 5) (pv 4) (nomark _)))))))))))) rd
theorem ok_btake (h : Met K "Bench" "take_back" "Bench.take_back" s_btake) (hM : Meth K (He.ga K "Bench") "take_back" (He.ma K (He.ga K "Bench") "take_back")) (T : Cls K (He.ga K "Bench")) (X_NothingPut : ExK K mg "NothingPut")
    (len : ∀ vs H Q E, sp_btake K vs H Q E → vs.length = P_btake.length)
    (rd : ∀ (vs : List V) (H : Hp) (Q : VK) (E : XK), sp_btake K vs H Q E → r_btake K E { nx := fun _ H' => Q .non H', rt := Q } (start N_btake vs) H) :
    MCal P w K mg base (L2.CX P w) 1 "Bench" "take_back" P_btake (sp_btake K) := by
  exact h.calX (r := fun E => r_btake K E) hM T sc_btake len (fun _ _ _ _ _ _ us hl => match us, hl with | [_], _ => rfl)
    (fun f cdv A outer s H E hr => (show PSs _ _ _ from (pss_cons (ps_if (pt_cmpR (op_eqD (hu64 hr)) (pe_fld (pv 0) rfl) (pe_lst pa_nil) (nomark _)) (pss_one (ps_rzA rfl (L2.takes_of rfl rfl rfl rfl) X_NothingPut (by rfl) (pa_cons pe_str pa_nil))) pss_nil) (pss_cons (ps_expr (pe_bm0 PySem.F.plainAttrs_list PySem.F.slot_list_pop PySem.F.type_list_pop mt_pop (pe_fld (pv 0) rfl))) (pss_one (ps_ret (pe_bm0 PySem.F.plainAttrs_list PySem.F.slot_list_pop PySem.F.type_list_pop mt_pop (pe_fld (pv 0) rfl)))))))) rd
theorem ok_bcomps (h : Met K "Bench" "comparers" "Bench.comparers" s_bcomps) (hM : Meth K (He.ga K "Bench") "comparers" (He.ma K (He.ga K "Bench") "comparers")) (T : Cls K (He.ga K "Bench")) (b_list : mg "list" = none)
    (len : ∀ vs H Q E, sp_bcomps K vs H Q E → vs.length = P_bcomps.length)
    (rd : ∀ (vs : List V) (H : Hp) (Q : VK) (E : XK), sp_bcomps K vs H Q E → r_bcomps K { nx := fun _ H' => Q .non H', rt := Q } (start N_bcomps vs) H) :
    MCal P w K mg base CX0 1 "Bench" "comparers" P_bcomps (sp_bcomps K) := by
  exact h.cal hM T sc_bcomps len (fun _ _ _ _ _ _ us hl => match us, hl with | [_], _ => rfl)
    (fun f cdv A outer s H E hr => (show PSs _ _ _ from (pss_one (ps_ret (pe_callTy cl_list (by rfl) b_list (by decide +kernel) (pa_cons (pe_fld (pv 0) rfl) pa_nil)))))) rd
theorem ok_bmany (h : Met K "Bench" "many" "Bench.many" s_bmany) (hM : Meth K (He.ga K "Bench") "many" (He.ma K (He.ga K "Bench") "many")) (T : Cls K (He.ga K "Bench")) (b_len : mg "len" = none)
    (len : ∀ vs H Q E, sp_bmany K vs H Q E → vs.length = P_bmany.length)
    (rd : ∀ (vs : List V) (H : Hp) (Q : VK) (E : XK), sp_bmany K vs H Q E → r_bmany K { nx := fun _ H' => Q .non H', rt := Q } (start N_bmany vs) H) :
    MCal P w K mg base CX0 1 "Bench" "many" P_bmany (sp_bmany K) := by
  exact h.cal hM T sc_bmany len (fun _ _ _ _ _ _ us hl => match us, hl with | [_], _ => rfl)
    (fun f cdv A outer s H E hr => (show PSs _ _ _ from (pss_one (ps_ret (pe_callB cl_len (by rfl) b_len PySem.boot_len (pa_cons (pe_ix ix_list (pe_fld (pv 0) rfl) (pe_un un_neg pe_int) (fun _ _ => rfl)) pa_nil)))))) rd
theorem ok_bwild (h : Met K "Bench" "wild" "Bench.wild" s_bwild) (hM : Meth K (He.ga K "Bench") "wild" (He.ma K (He.ga K "Bench") "wild")) (T : Cls K (He.ga K "Bench")) (C_rowof : Cal P w K mg base CX0 1 "row_of" ["lines", "number"] (sp_rowof K)) (b_sorted : mg "sorted" = none)
    (len : ∀ vs H Q E, sp_bwild K vs H Q E → vs.length = P_bwild.length)
    (rd : ∀ (vs : List V) (H : Hp) (Q : VK) (E : XK), sp_bwild K vs H Q E → r_bwild K { nx := fun _ H' => Q .non H', rt := Q } (start N_bwild vs) H) :
    MCal P w K mg base CX0 2 "Bench" "wild" P_bwild (sp_bwild K) := by
  exact h.cal hM T sc_bwild len (fun _ _ _ _ _ _ us hl => match us, hl with | [_], _ => rfl)
    (fun f cdv A outer s H E hr => (show PSs _ _ _ from (pss_cons (ps_for PassesOwn.never rfl (pi_list (pe_ix ix_list (pe_fld (pv 0) rfl) (pe_un un_neg pe_int) (fun _ _ => rfl))) (pg_name (i := 1) sc_bwild.nd rfl (Or.inl rfl)) (pss_cons (ps_set (i := 2) sc_bwild.nd rfl (Or.inl rfl) (pe_cal C_rowof (hr.mono (by decide)) (by rfl) (pa_cons (pe_fld (pv 0) rfl) (pa_cons (pv 1) pa_nil)))) (pss_one (ps_if (pt_cmpR (op_neD (hu64 hr)) (pv 2) (pe_callB cr_sortedI (by rfl) b_sorted (by decide +kernel) (pa_cons (pv 2) pa_nil)) (nomark _)) (pss_one (ps_ret (pv 2))) pss_nil)))) (pss_one (ps_ret pe_non))))) rd
theorem ok_bbehind (h : Here K mg "_behind" s_bbehind) 
    (len : ∀ vs H Q E, sp_bbehind K vs H Q E → vs.length = P_bbehind.length)
    (rd : ∀ (vs : List V) (H : Hp) (Q : VK) (E : XK), sp_bbehind K vs H Q E → r_bbehind K { nx := fun _ H' => Q .non H', rt := Q } (start N_bbehind vs) H) :
    Cal P w K mg base CX0 1 "_behind" P_bbehind (sp_bbehind K) := by
  exact h.cal sc_bbehind len (fun _ _ _ _ _ _ us hl => match us, hl with | [_, _, _], _ => rfl)
    (fun f cdv A outer s H E hr => (show PSs _ _ _ from (pss_cons (ps_if (pt_cmpR op_gt (pe_op op_and (pe_op op_shr (pv 0) (pv 1)) pe_int) (pe_op op_and (pe_op op_shr (pv 0) (pv 2)) pe_int) (nomark _)) (pss_one (ps_ret (pe_op op_xor (pe_op op_xor (pv 0) (pe_op op_shl pe_int (pv 1))) (pe_op op_shl pe_int (pv 2))))) pss_nil) (pss_one (ps_ret (pv 0)))))) rd
theorem ok_ldraw (h : Here K mg "_law_draw" s_ldraw) 
    (len : ∀ vs H Q E, sp_ldraw K vs H Q E → vs.length = P_ldraw.length)
    (rd : ∀ (vs : List V) (H : Hp) (Q : VK) (E : XK), sp_ldraw K vs H Q E → r_ldraw K { nx := fun _ H' => Q .non H', rt := Q } (start N_ldraw vs) H) :
    Cal P w K mg base CX0 1 "_law_draw" P_ldraw (sp_ldraw K) := by
  exact h.cal sc_ldraw len (fun _ _ _ _ _ _ us hl => match us, hl with | [_, _, _], _ => rfl)
    (fun f cdv A outer s H E hr => (show PSs _ _ _ from (pss_cons (ps_set (i := 3) sc_ldraw.nd rfl (Or.inl rfl) (pe_op op_add (pe_op op_mul (pe_op op_mul (pe_op op_add (pv 1) pe_int) (pe_op op_add (pv 1) pe_int)) pe_int) (pe_op op_mul (pe_op op_mul (pe_op op_add (pv 2) pe_int) (pe_op op_add (pv 2) pe_int)) pe_int))) (pss_one (ps_ret (pe_op op_fdiv (pe_op op_mod (pe_op op_mul (pe_op op_mod (pe_op op_add (pe_op op_mul (pe_op op_mod (pv 0) pe_int) pe_int) (pv 3)) pe_int) pe_int) pe_int) pe_int)))))) rd
theorem ok_lgone (h : Here K mg "_law_gone" s_lgone) (b_list : mg "list" = none) (b_max : mg "max" = none) (b_min : mg "min" = none)
    (len : ∀ vs H Q E, sp_lgone K vs H Q E → vs.length = P_lgone.length)
    (rd : ∀ (vs : List V) (H : Hp) (Q : VK) (E : XK), sp_lgone K vs H Q E → r_lgone K { nx := fun _ H' => Q .non H', rt := Q } (start N_lgone vs) H) :
    Cal P w K mg base CX0 1 "_law_gone" P_lgone (sp_lgone K) := by
  exact h.cal sc_lgone len (fun _ _ _ _ _ _ us hl => match us, hl with | [_, _], _ => rfl)
    (fun f cdv A outer s H E hr => (show PSs _ _ _ from (pss_cons (ps_set (i := 2) sc_lgone.nd rfl (Or.inl rfl) (pe_callTy cl_list (by rfl) b_list (by decide +kernel) (pa_cons (pv 1) pa_nil))) (pss_cons (ps_for PassesOwn.never rfl (pi_list (pv 0)) (pg_tup rfl (pgs_cons (pg_name (i := 3) sc_lgone.nd rfl (Or.inl rfl)) (pgs_cons (pg_name (i := 4) sc_lgone.nd rfl (Or.inl rfl)) pgs_nil))) (pss_one (ps_asg (pe_tup (pa_cons (pe_callB (cl_min rfl) (by rfl) b_min (by decide +kernel) (pa_cons (pe_ix ix_list (pv 2) (pv 3) (fun _ _ => rfl)) (pa_cons (pe_ix ix_list (pv 2) (pv 4) (fun _ _ => rfl)) pa_nil))) (pa_cons (pe_callB (cl_max rfl) (by rfl) b_max (by decide +kernel) (pa_cons (pe_ix ix_list (pv 2) (pv 3) (fun _ _ => rfl)) (pa_cons (pe_ix ix_list (pv 2) (pv 4) (fun _ _ => rfl)) pa_nil))) pa_nil))) (pg_tup rfl (pgs_cons (pg_sub (pv 2) (pv 3) set_list) (pgs_cons (pg_sub (pv 2) (pv 4) set_list) pgs_nil)))))) (pss_one (ps_ret (pv 2))))))) rd
theorem ok_lbare (h : Here K mg "_law_bare" s_lbare) (b_range : mg "range" = none)
    (len : ∀ vs H Q E, sp_lbare K vs H Q E → vs.length = P_lbare.length)
    (rd : ∀ (vs : List V) (H : Hp) (Q : VK) (E : XK), sp_lbare K vs H Q E → r_lbare K { nx := fun _ H' => Q .non H', rt := Q } (start N_lbare vs) H) :
    Cal P w K mg base CX0 1 "_law_bare" P_lbare (sp_lbare K) := by
  exact h.cal sc_lbare len (fun _ _ _ _ _ _ us hl => match us, hl with | [_], _ => rfl)
    (fun f cdv A outer s H E hr => (show PSs _ _ _ from (pss_one (ps_ret (pe_lc (own := [("_law_n", 1)]) rfl sc_lbare.nd (pi_range1 (by rfl) b_range (pa_cons (pe_op op_shl pe_int (pv 0)) pa_nil)) (blkOk_by (N := N_lbare) (sc := defScope s_lbare) (by decide +kernel)) (fun _ _ _ _ _ => (pg_name (i := 1) sc_lbare.nd rfl (Or.inr rfl))) (fun _ _ _ _ _ => pts_nil) (fun _ _ _ _ _ => (pe_lc (own := [("_law_k", 2)]) rfl sc_lbare.nd (pi_range1 (by rfl) b_range (pa_cons (pv 0) pa_nil)) (blkOk_in (blkOk_by (N := N_lbare) (sc := ({
                      kind := PySem.ScopeKind.function,
                      names := [
                        (PySem.Str.ofString ".0", PySem.NameKind.local),
                        (PySem.Str.ofString "_law_n", PySem.NameKind.cell),
                        (PySem.Str.ofString "range", PySem.NameKind.globalImplicit),
                        (PySem.Str.ofString "_law_lines", PySem.NameKind.free)],
                      isGenerator := false,
                      isCoroutine := false,
                      more := [] : PySem.Scope})) (by decide +kernel))) (fun _ _ _ _ _ => (pg_name (i := 2) sc_lbare.nd rfl (Or.inl rfl))) (fun _ _ _ _ _ => pts_nil) (fun _ _ _ _ _ => (pe_op op_and (pe_op op_shr (pv 1) (pv 2)) pe_int))))))))) rd
theorem ok_lisbare (h : Here K mg "_law_is_bare" s_lisbare) (b_bool : mg "bool" = none) (b_int : mg "int" = none) (b_isinstance : mg "isinstance" = none) (b_len : mg "len" = none) (b_list : mg "list" = none)
    (len : ∀ vs H Q E, sp_lisbare K vs H Q E → vs.length = P_lisbare.length)
    (rd : ∀ (vs : List V) (H : Hp) (Q : VK) (E : XK), sp_lisbare K vs H Q E → r_lisbare K { nx := fun _ H' => Q .non H', rt := Q } (start N_lisbare vs) H) :
    Cal P w K mg base CX0 1 "_law_is_bare" P_lisbare (sp_lisbare K) := by
  exact h.cal sc_lisbare len (fun _ _ _ _ _ _ us hl => match us, hl with | [_, _], _ => rfl)
    (fun f cdv A outer s H E hr => (show PSs _ _ _ from (pss_cons (ps_if (pw_or (pt_not (pt_val (pe_callB cl_isk (by rfl) b_isinstance (by decide +kernel) (pa_cons (pv 0) (pa_cons (pe_bltn (v := .ty "list") (by rfl) b_list (by decide +kernel) rfl) pa_nil))))) (pw_or1 (pt_cmpR op_ne (pe_callB cl_len (by rfl) b_len PySem.boot_len (pa_cons (pv 0) pa_nil)) (pv 1) (nomark _)))).pt (pss_one (ps_ret pe_bl)) pss_nil) (pss_cons (ps_setLc (i := 2) (own := [("_law_bit", 3)]) rfl sc_lisbare.nd rfl rfl (sw_true rfl rfl rfl (by decide +kernel)) (pi_list (pv 0)) (blkOk_by (N := N_lisbare) (sc := defScope s_lisbare) (by decide +kernel)) (fun _ _ _ _ _ => (pg_name (i := 3) sc_lisbare.nd rfl (Or.inl rfl))) (fun _ _ _ _ _ => (pts_one (pw_or (pt_val (pe_callB cl_isk (by rfl) b_isinstance (by decide +kernel) (pa_cons (pv 3) (pa_cons (pe_bltn (v := .ty "bool") (by rfl) b_bool (by decide +kernel) rfl) pa_nil)))) (pw_or1 (pt_not (pt_val (pe_callB cl_isk (by rfl) b_isinstance (by decide +kernel) (pa_cons (pv 3) (pa_cons (pe_bltn (v := .ty "int") (by rfl) b_int (by decide +kernel) rfl) pa_nil))))))).pt)) (fun _ _ _ _ _ => (pv 3))) (pss_one (ps_ret (pe_and (pe_cmpR (op_eqD (hu64 hr)) (pv 2) (pe_lst pa_nil) (nomark _)) (pe_one (pe_cmpR (op_eqD (hu64 hr)) (pe_lc (own := [("_law_bit", 3)]) rfl sc_lisbare.nd (pi_list (pv 0)) (blkOk_by (N := N_lisbare) (sc := defScope s_lisbare) (by decide +kernel)) (fun _ _ _ _ _ => (pg_name (i := 3) sc_lisbare.nd rfl (Or.inl rfl))) (fun _ _ _ _ _ => (pts_one (pt_cmpR op_notIn_seq (pv 3) (pe_tup (pa_cons pe_int (pa_cons pe_int pa_nil))) (by with_unfolding_all rfl)))) (fun _ _ _ _ _ => (pv 3))) (pe_lst pa_nil) (nomark _)))))))))) rd
theorem ok_lisweb (h : Here K mg "_law_is_web" s_lisweb) (b_bool : mg "bool" = none) (b_isinstance : mg "isinstance" = none) (b_list : mg "list" = none) (b_tuple : mg "tuple" = none)
    (len : ∀ vs H Q E, sp_lisweb K vs H Q E → vs.length = P_lisweb.length)
    (rd : ∀ (vs : List V) (H : Hp) (Q : VK) (E : XK), sp_lisweb K vs H Q E → r_lisweb K { nx := fun _ H' => Q .non H', rt := Q } (start N_lisweb vs) H) :
    Cal P w K mg base CX0 1 "_law_is_web" P_lisweb (sp_lisweb K) := by
  exact h.cal sc_lisweb len (fun _ _ _ _ _ _ us hl => match us, hl with | [_, _], _ => rfl)
    (fun f cdv A outer s H E hr => (show PSs _ _ _ from (pss_cons (ps_if (pw_or (pt_not (pt_val (pe_callB cl_isk (by rfl) b_isinstance (by decide +kernel) (pa_cons (pv 0) (pa_cons (pe_bltn (v := .ty "list") (by rfl) b_list (by decide +kernel) rfl) pa_nil))))) (pw_or1 (pt_cmpR (op_neD (hu64 hr)) (pv 0) (pv 1) (nomark _)))).pt (pss_one (ps_ret pe_bl)) pss_nil) (pss_cons (ps_for PassesOwn.never rfl (pi_list (pv 0)) (pg_name (i := 2) sc_lisweb.nd rfl (Or.inl rfl)) (pss_one (ps_if (pw_or (pt_not (pt_val (pe_callB cl_isk (by rfl) b_isinstance (by decide +kernel) (pa_cons (pv 2) (pa_cons (pe_bltn (v := .ty "tuple") (by rfl) b_tuple (by decide +kernel) rfl) pa_nil))))) (pw_or1 (pt_cmpR (op_neD (hu64 hr)) (pe_lc (own := [("_law_line", 3)]) rfl sc_lisweb.nd (pi_tup (pv 2)) (blkOk_by (N := N_lisweb) (sc := defScope s_lisweb) (by decide +kernel)) (fun _ _ _ _ _ => (pg_name (i := 3) sc_lisweb.nd rfl (Or.inl rfl))) (fun _ _ _ _ _ => (pts_one (pt_val (pe_callB cl_isk (by rfl) b_isinstance (by decide +kernel) (pa_cons (pv 3) (pa_cons (pe_bltn (v := .ty "bool") (by rfl) b_bool (by decide +kernel) rfl) pa_nil)))))) (fun _ _ _ _ _ => (pv 3))) (pe_lst pa_nil) (nomark _)))).pt (pss_one (ps_ret pe_bl)) pss_nil))) (pss_one (ps_ret pe_bl)))))) rd
theorem ok_lword (h : Here K mg "_law_word" s_lword) (b_ValueError : mg "ValueError" = none) (b_isinstance : mg "isinstance" = none) (b_len : mg "len" = none) (G_BadLines : mg "BadLines" = some (.ref (He.ga K "BadLines"))) (G_BadOrder : mg "BadOrder" = some (.ref (He.ga K "BadOrder"))) (G_BadPlace : mg "BadPlace" = some (.ref (He.ga K "BadPlace"))) (G_BadRow : mg "BadRow" = some (.ref (He.ga K "BadRow"))) (G_BadText : mg "BadText" = some (.ref (He.ga K "BadText"))) (G_BadWeb : mg "BadWeb" = some (.ref (He.ga K "BadWeb"))) (G_NothingPut : mg "NothingPut" = some (.ref (He.ga K "NothingPut")))
    (len : ∀ vs H Q E, sp_lword K vs H Q E → vs.length = P_lword.length)
    (rd : ∀ (vs : List V) (H : Hp) (Q : VK) (E : XK), sp_lword K vs H Q E → r_lword K { nx := fun _ H' => Q .non H', rt := Q } (start N_lword vs) H) :
    Cal P w K mg base CX0 1 "_law_word" P_lword (sp_lword K) := by
  exact h.cal sc_lword len (fun _ _ _ _ _ _ us hl => match us, hl with | [_], _ => rfl)
    (fun f cdv A outer s H E hr => (show PSs _ _ _ from (pss_cons (ps_set (i := 1) sc_lword.nd rfl (Or.inl rfl) (pe_lst (pa_cons (pe_tup (pa_cons pe_str (pa_cons (pe_callB cl_isk (by rfl) b_isinstance (by decide +kernel) (pa_cons (pv 0) (pa_cons (pe_cls G_BadLines (by rfl)) pa_nil))) pa_nil))) (pa_cons (pe_tup (pa_cons pe_str (pa_cons (pe_callB cl_isk (by rfl) b_isinstance (by decide +kernel) (pa_cons (pv 0) (pa_cons (pe_cls G_BadWeb (by rfl)) pa_nil))) pa_nil))) (pa_cons (pe_tup (pa_cons pe_str (pa_cons (pe_callB cl_isk (by rfl) b_isinstance (by decide +kernel) (pa_cons (pv 0) (pa_cons (pe_cls G_BadRow (by rfl)) pa_nil))) pa_nil))) pa_nil))))) (pss_cons (ps_set (i := 1) sc_lword.nd rfl (Or.inl rfl) (pe_op op_cat (pv 1) (pe_lst (pa_cons (pe_tup (pa_cons pe_str (pa_cons (pe_callB cl_isk (by rfl) b_isinstance (by decide +kernel) (pa_cons (pv 0) (pa_cons (pe_cls G_BadPlace (by rfl)) pa_nil))) pa_nil))) (pa_cons (pe_tup (pa_cons pe_str (pa_cons (pe_callB cl_isk (by rfl) b_isinstance (by decide +kernel) (pa_cons (pv 0) (pa_cons (pe_cls G_BadOrder (by rfl)) pa_nil))) pa_nil))) pa_nil))))) (pss_cons (ps_set (i := 1) sc_lword.nd rfl (Or.inl rfl) (pe_op op_cat (pv 1) (pe_lst (pa_cons (pe_tup (pa_cons pe_str (pa_cons (pe_callB cl_isk (by rfl) b_isinstance (by decide +kernel) (pa_cons (pv 0) (pa_cons (pe_cls G_BadText (by rfl)) pa_nil))) pa_nil))) (pa_cons (pe_tup (pa_cons pe_str (pa_cons (pe_callB cl_isk (by rfl) b_isinstance (by decide +kernel) (pa_cons (pv 0) (pa_cons (pe_cls G_NothingPut (by rfl)) pa_nil))) pa_nil))) pa_nil))))) (pss_cons (ps_setLc (i := 2) (own := [("_law_word_here", 3), ("_law_good", 4)]) rfl sc_lword.nd rfl rfl (sw_true rfl rfl rfl (by decide +kernel)) (pi_list (pv 1)) (blkOk_by (N := N_lword) (sc := defScope s_lword) (by decide +kernel)) (fun _ _ _ _ _ => (pg_tup rfl (pgs_cons (pg_name (i := 3) sc_lword.nd rfl (Or.inl rfl)) (pgs_cons (pg_name (i := 4) sc_lword.nd rfl (Or.inl rfl)) pgs_nil)))) (fun _ _ _ _ _ => (pts_one (pt_val (pv 4)))) (fun _ _ _ _ _ => (pv 3))) (pss_cons (ps_if (pt_cmpR op_isN1 (pv 0) pe_non (nomark _)) (pss_one (ps_ret pe_str)) pss_nil) (pss_one (ps_ret (pe_ifExp (pw_and (pt_cmpR op_eq (pe_callB cl_len (by rfl) b_len PySem.boot_len (pa_cons (pv 2) pa_nil)) pe_int (nomark _)) (pw_and1 (pt_val (pe_callB cl_isk (by rfl) b_isinstance (by decide +kernel) (pa_cons (pv 0) (pa_cons (pe_bltn (v := .ty "ValueError") (by rfl) b_ValueError (by decide +kernel) rfl) pa_nil)))))).pt (pe_ix ix_list (pv 2) pe_int (fun _ _ => rfl)) pe_str)))))))))) rd
theorem ok_ltried (h : Here K mg "_law_tried" s_ltried) (M_bput : MCal P w K mg base (L2.CX P w) 4 "Bench" "put" ["self", "comparer"] (sp_bput K)) (M_btake : MCal P w K mg base (L2.CX P w) 1 "Bench" "take_back" ["self"] (sp_btake K)) (G_WebError : mg "WebError" = some (.ref (He.ga K "WebError")))
    (len : ∀ vs H Q E, sp_ltried K vs H Q E → vs.length = P_ltried.length)
    (rd : ∀ (vs : List V) (H : Hp) (Q : VK) (E : XK), sp_ltried K vs H Q E → r_ltried K { nx := fun _ H' => Q .non H', rt := Q } (start N_ltried vs) H) :
    Cal P w K mg base CX0 5 "_law_tried" P_ltried (sp_ltried K) := by
  exact h.cal sc_ltried len (fun _ _ _ _ _ _ us hl => match us, hl with | [_, _], _ => rfl)
    (fun f cdv A outer s H E hr => (show PSs _ _ _ from (pss_cons (ps_set (i := 2) sc_ltried.nd rfl (Or.inl rfl) pe_non) (pss_cons (ps_try_keep (i := 3) rfl rfl rfl sc_ltried.nd rfl rfl (nm_cls G_WebError (by rfl)) (fun W pn xe tk pa => (show PSs _ _ _ from (pss_one (ps_if (pt_cmpR op_isN1 (pv 1) pe_non (nomark _)) (pss_one (ps_expr (pe_metW0 M_btake (hr.mono (by decide)) tk (pv 0)))) (pss_one (ps_expr (pe_metW M_bput (hr.mono (by decide)) tk (pv 0) (pa_cons (pv 1) pa_nil)))))))) (fun a ob cls d pn zn hd => (show PSs _ _ _ from (pss_one (ps_set (i := 2) sc_ltried.nd rfl (Or.inl rfl) (pv 3)))))) (pss_one (ps_ret (pv 2))))))) rd
theorem ok_lends (h : Here K mg "_law_ends" s_lends) (C_lgone : Cal P w K mg base CX0 1 "_law_gone" ["_law_comparers", "_law_row"] (sp_lgone K)) (C_lbare : Cal P w K mg base CX0 1 "_law_bare" ["_law_lines"] (sp_lbare K)) (b_tuple : mg "tuple" = none)
    (len : ∀ vs H Q E, sp_lends K vs H Q E → vs.length = P_lends.length)
    (rd : ∀ (vs : List V) (H : Hp) (Q : VK) (E : XK), sp_lends K vs H Q E → r_lends K { nx := fun _ H' => Q .non H', rt := Q } (start N_lends vs) H) :
    Cal P w K mg base CX0 2 "_law_ends" P_lends (sp_lends K) := by
  exact h.cal sc_lends len (fun _ _ _ _ _ _ us hl => match us, hl with | [_, _], _ => rfl)
    (fun f cdv A outer s H E hr => (show PSs _ _ _ from (pss_cons (ps_set (i := 2) sc_lends.nd rfl (Or.inl rfl) pe_dnewT) (pss_cons (ps_for PassesOwn.never rfl (pi_list (pe_cal C_lbare (hr.mono (by decide)) (by rfl) (pa_cons (pv 0) pa_nil))) (pg_name (i := 3) sc_lends.nd rfl (Or.inl rfl)) (pss_one (ps_asg pe_bl (pg_sub (pv 2) (pe_tupleOf (by rfl) b_tuple (pe_cal C_lgone (hr.mono (by decide)) (by rfl) (pa_cons (pv 1) (pa_cons (pv 3) pa_nil)))) (set_dict (hu1 hr)))))) (pss_one (ps_ret (pe_frz (pv 2)))))))) rd
theorem ok_lasked (h : Here K mg "_law_asked" s_lasked) (C_lisweb : Cal P w K mg base CX0 1 "_law_is_web" ["_law_found", "_law_due"] (sp_lisweb K)) (C_lends : Cal P w K mg base CX0 2 "_law_ends" ["_law_lines", "_law_comparers"] (sp_lends K)) (M_bcomps : MCal P w K mg base CX0 1 "Bench" "comparers" ["self"] (sp_bcomps K)) (M_bmany : MCal P w K mg base CX0 1 "Bench" "many" ["self"] (sp_bmany K)) (M_bwild : MCal P w K mg base CX0 2 "Bench" "wild" ["self"] (sp_bwild K)) (b_bool : mg "bool" = none) (b_int : mg "int" = none) (b_isinstance : mg "isinstance" = none) (b_len : mg "len" = none) (b_list : mg "list" = none) (b_range : mg "range" = none) (b_sorted : mg "sorted" = none) (b_tuple : mg "tuple" = none)
    (len : ∀ vs H Q E, sp_lasked K vs H Q E → vs.length = P_lasked.length)
    (rd : ∀ (vs : List V) (H : Hp) (Q : VK) (E : XK), sp_lasked K vs H Q E → r_lasked K { nx := fun _ H' => Q .non H', rt := Q } (start N_lasked vs) H) :
    Cal P w K mg base CX0 3 "_law_asked" P_lasked (sp_lasked K) := by
  exact h.cal sc_lasked len (fun _ _ _ _ _ _ us hl => match us, hl with | [_, _, _, _], _ => rfl)
    (fun f cdv A outer s H E hr => (show PSs _ _ _ from (pss_cons (ps_set (i := 4) sc_lasked.nd rfl (Or.inl rfl) (pe_cal C_lends (hr.mono (by decide)) (by rfl) (pa_cons (pe_dget (hu1 hr) (pv 1) pe_str (by intro _ _; rfl)) (pa_cons (pe_dget (hu1 hr) (pv 1) pe_str (by intro _ _; rfl)) pa_nil)))) (pss_cons (ps_for PassesOwn.never rfl (pi_range1 (by rfl) b_range (pa_cons pe_int pa_nil)) (pg_name (i := 5) sc_lasked.nd rfl (Or.inl rfl)) (pss_cons (ps_set (i := 6) sc_lasked.nd rfl (Or.inl rfl) (pe_op op_mod (pe_op op_add (pv 2) (pe_op op_mul (pv 5) (pe_ix ix_list (pe_lst (pa_cons pe_int (pa_cons pe_int pa_nil))) (pe_op op_mod (pe_op op_fdiv (pv 2) pe_int) pe_int) (fun _ _ => rfl)))) pe_int)) (pss_cons (ps_if (pt_cmpR op_eq (pv 6) pe_int (nomark _)) (pss_cons (ps_set (i := 7) sc_lasked.nd rfl (Or.inl rfl) (pe_met0 M_bcomps (hr.mono (by decide)) (pv 0))) (pss_cons (ps_if (pt_not (pt_val (pe_cal C_lisweb (hr.mono (by decide)) (by rfl) (pa_cons (pv 7) (pa_cons (pe_dget (hu1 hr) (pv 1) pe_str (by intro _ _; rfl)) pa_nil))))) (pss_one (ps_ret pe_bl)) pss_nil) (pss_cons (ps_expr (pe_bm PySem.F.plainAttrs_list PySem.F.slot_list_append PySem.F.type_list_append md_append (pv 7) (pa_cons (pe_tup (pa_cons pe_int (pa_cons pe_int pa_nil))) pa_nil))) (pss_one (ps_expr (pe_bm PySem.F.plainAttrs_list PySem.F.slot_list_append PySem.F.type_list_append md_append (pv 3) (pa_cons (pe_tup (pa_cons (pv 7) (pa_cons (pe_op op_cat (pe_dget (hu1 hr) (pv 1) pe_str (by intro _ _; rfl)) (pe_lst (pa_cons (pe_tup (pa_cons pe_int (pa_cons pe_int pa_nil))) pa_nil))) pa_nil))) pa_nil))))))) pss_nil) (pss_cons (ps_if (pt_cmpR op_eq (pv 6) pe_int (nomark _)) (pss_cons (ps_set (i := 8) sc_lasked.nd rfl (Or.inl rfl) (pe_met0 M_bmany (hr.mono (by decide)) (pv 0))) (pss_one (ps_if (pw_or (pt_val (pe_callB cl_isk (by rfl) b_isinstance (by decide +kernel) (pa_cons (pv 8) (pa_cons (pe_bltn (v := .ty "bool") (by rfl) b_bool (by decide +kernel) rfl) pa_nil)))) (pw_or (pt_not (pt_val (pe_callB cl_isk (by rfl) b_isinstance (by decide +kernel) (pa_cons (pv 8) (pa_cons (pe_bltn (v := .ty "int") (by rfl) b_int (by decide +kernel) rfl) pa_nil))))) (pw_or1 (pt_cmpR op_ne (pv 8) (pe_callB cl_lenT (by rfl) b_len PySem.boot_len (pa_cons (pv 4) pa_nil)) (nomark _))))).pt (pss_one (ps_ret pe_bl)) pss_nil))) pss_nil) (pss_one (ps_if (pt_cmpR op_eq (pv 6) pe_int (nomark _)) (pss_cons (ps_set (i := 9) sc_lasked.nd rfl (Or.inl rfl) (pe_met0 M_bwild (hr.mono (by decide)) (pv 0))) (pss_cons (ps_setLc (i := 10) (own := [("_law_one", 12)]) rfl sc_lasked.nd rfl rfl (sw_true rfl rfl rfl (by decide +kernel)) (pi_keys (pv 4)) (blkOk_by (N := N_lasked) (sc := defScope s_lasked) (by decide +kernel)) (fun _ _ _ _ _ => (pg_name (i := 12) sc_lasked.nd rfl (Or.inl rfl))) (fun _ _ _ _ _ => (pts_one (pt_cmpR (op_neD (hu64 hr)) (pe_callTy cl_list (by rfl) b_list (by decide +kernel) (pa_cons (pv 12) pa_nil)) (pe_callB cr_sortTu (by rfl) b_sorted (by decide +kernel) (pa_cons (pv 12) pa_nil)) (nomark _)))) (fun _ _ _ _ _ => (pv 12))) (pss_cons (ps_if (pt_cmpR op_ne (pe_cmpR op_isN1 (pv 9) pe_non (nomark _)) (pe_cmpR (op_eqD (hu64 hr)) (pv 10) (pe_lst pa_nil) (nomark _)) (nomark _)) (pss_one (ps_ret pe_bl)) pss_nil) (pss_cons (ps_if (pw_and (pt_cmpR op_notN1 (pv 9) pe_non (nomark _)) (pw_and1 (pw_or (pt_not (pt_val (pe_callB cl_isk (by rfl) b_isinstance (by decide +kernel) (pa_cons (pv 9) (pa_cons (pe_bltn (v := .ty "list") (by rfl) b_list (by decide +kernel) rfl) pa_nil))))) (pw_or1 (pt_cmpR (op_notInD (hu65 hr)) (pe_tupleOf (by rfl) b_tuple (pv 9)) (pv 10) (by with_unfolding_all rfl)))).pt)).pt (pss_one (ps_ret pe_bl)) pss_nil) (pss_one (ps_if (pt_cmpR op_notN1 (pv 9) pe_non (nomark _)) (pss_cons (ps_set (i := 11) sc_lasked.nd rfl (Or.inl rfl) (pe_callTy cl_list (by rfl) b_list (by decide +kernel) (pa_cons (pv 9) pa_nil))) (pss_cons (ps_expr (pe_bm PySem.F.plainAttrs_list PySem.F.slot_list_append PySem.F.type_list_append md_append (pv 9) (pa_cons pe_int pa_nil))) (pss_one (ps_if (pt_cmpR (op_neD (hu64 hr)) (pe_met0 M_bwild (hr.mono (by decide)) (pv 0)) (pv 11) (nomark _)) (pss_one (ps_ret pe_bl)) pss_nil)))) pss_nil)))))) pss_nil)))))) (pss_one (ps_ret pe_bl)))))) rd
theorem ok_ldeed (h : Here K mg "_law_deed" s_ldeed) (C_ldraw : Cal P w K mg base CX0 1 "_law_draw" ["_law_cell", "_law_k", "_law_j"] (sp_ldraw K)) (C_lword : Cal P w K mg base CX0 1 "_law_word" ["_law_e"] (sp_lword K)) (C_ltried : Cal P w K mg base CX0 5 "_law_tried" ["_law_bench", "_law_thing"] (sp_ltried K)) (C_lends : Cal P w K mg base CX0 2 "_law_ends" ["_law_lines", "_law_comparers"] (sp_lends K)) (M_bput : MCal P w K mg base (L2.CX P w) 4 "Bench" "put" ["self", "comparer"] (sp_bput K)) (M_btake : MCal P w K mg base (L2.CX P w) 1 "Bench" "take_back" ["self"] (sp_btake K)) (b_bool : mg "bool" = none) (b_isinstance : mg "isinstance" = none) (b_len : mg "len" = none) (b_max : mg "max" = none) (b_min : mg "min" = none)
    (len : ∀ vs H Q E, sp_ldeed K vs H Q E → vs.length = P_ldeed.length)
    (rd : ∀ (vs : List V) (H : Hp) (Q : VK) (E : XK), sp_ldeed K vs H Q E → r_ldeed K { nx := fun _ H' => Q .non H', rt := Q } (start N_ldeed vs) H) :
    Cal P w K mg base CX0 6 "_law_deed" P_ldeed (sp_ldeed K) := by
  exact h.cal sc_ldeed len (fun _ _ _ _ _ _ us hl => match us, hl with | [_, _, _, _], _ => rfl)
    (fun f cdv A outer s H E hr => (show PSs _ _ _ from (pss_cons (ps_set (i := 4) sc_ldeed.nd rfl (Or.inl rfl) (pe_cal C_ldraw (hr.mono (by decide)) (by rfl) (pa_cons (pv 2) (pa_cons (pv 3) (pa_cons pe_int pa_nil))))) (pss_cons (ps_set (i := 5) sc_ldeed.nd rfl (Or.inl rfl) (pe_dget (hu1 hr) (pv 1) pe_str (by intro _ _; rfl))) (pss_cons (ps_if (pw_or (pw_and (pt_cmpR op_eq (pe_op op_mod (pv 4) pe_int) pe_int (nomark _)) (pw_and1 (pt_cmpR (op_neD (hu64 hr)) (pe_dget (hu1 hr) (pv 1) pe_str (by intro _ _; rfl)) (pe_lst pa_nil) (nomark _)))).pt (pw_or1 (pt_cmpR op_eq (pe_callB cl_len (by rfl) b_len PySem.boot_len (pa_cons (pe_dget (hu1 hr) (pv 1) pe_str (by intro _ _; rfl)) pa_nil)) pe_int (nomark _)))).pt (pss_one (ps_ret (pe_cmpR (op_eqD (hu64 hr)) (pe_met0 M_btake.quiet (hr.mono (by decide)) (pv 0)) (pe_bm0 PySem.F.plainAttrs_list PySem.F.slot_list_pop PySem.F.type_list_pop mt_pop (pe_dget (hu1 hr) (pv 1) pe_str (by intro _ _; rfl))) (nomark _)))) pss_nil) (pss_cons (ps_if (pt_cmpR op_eq (pv 5) pe_int (nomark _)) (pss_one (ps_ret (pe_cmpR op_eq (pe_cal C_lword (hr.mono (by decide)) (by rfl) (pa_cons (pe_cal C_ltried (hr.mono (by decide)) (by rfl) (pa_cons (pv 0) (pa_cons (pe_tup (pa_cons pe_int (pa_cons pe_int pa_nil))) pa_nil))) pa_nil)) pe_str (nomark _)))) pss_nil) (pss_cons (ps_set (i := 6) sc_ldeed.nd rfl (Or.inl rfl) (pe_op op_mod (pe_op op_fdiv (pv 4) pe_int) (pv 5))) (pss_cons (ps_set (i := 7) sc_ldeed.nd rfl (Or.inl rfl) (pe_op op_mod (pe_op op_add (pe_op op_add (pv 6) pe_int) (pe_op op_mod (pe_op op_fdiv (pv 4) pe_int) (pe_op op_sub (pv 5) pe_int))) (pv 5))) (pss_cons (ps_set (i := 8) sc_ldeed.nd rfl (Or.inl rfl) (pe_ifExp (pt_cmpR op_gt (pe_op op_mod (pe_op op_fdiv (pv 4) pe_int) pe_int) pe_int (nomark _)) (pe_tup (pa_cons (pe_callB (cl_min rfl) (by rfl) b_min (by decide +kernel) (pa_cons (pv 6) (pa_cons (pv 7) pa_nil))) (pa_cons (pe_callB (cl_max rfl) (by rfl) b_max (by decide +kernel) (pa_cons (pv 6) (pa_cons (pv 7) pa_nil))) pa_nil))) (pe_tup (pa_cons (pv 6) (pa_cons (pv 7) pa_nil))))) (pss_cons (ps_asg (pv 8) (pg_tup rfl (pgs_cons (pg_name (i := 9) sc_ldeed.nd rfl (Or.inr rfl)) (pgs_cons (pg_name (i := 10) sc_ldeed.nd rfl (Or.inr rfl)) pgs_nil)))) (pss_cons (ps_set (i := 11) sc_ldeed.nd rfl (Or.inl rfl) (pe_cmpR (op_neD (hu64 hr)) (pe_lc (own := [("_law_row", 13)]) rfl sc_ldeed.nd (pi_keys (pe_cal C_lends (hr.mono (by decide)) (by rfl) (pa_cons (pv 5) (pa_cons (pe_dget (hu1 hr) (pv 1) pe_str (by intro _ _; rfl)) pa_nil)))) (blkOk_by (N := N_ldeed) (sc := defScope s_ldeed) (by decide +kernel)) (fun _ _ _ _ _ => (pg_name (i := 13) sc_ldeed.nd rfl (Or.inl rfl))) (fun _ _ _ _ _ => (pts_one (pt_cmpR op_gt (pe_ix ix_tup (pv 13) (pv 9) (fun _ _ => rfl)) (pe_ix ix_tup (pv 13) (pv 10) (fun _ _ => rfl)) (nomark _)))) (fun _ _ _ _ _ => (pv 13))) (pe_lst pa_nil) (nomark _))) (pss_cons (ps_expr (pe_bm PySem.F.plainAttrs_list PySem.F.slot_list_append PySem.F.type_list_append md_append (pe_dget (hu1 hr) (pv 1) pe_str (by intro _ _; rfl)) (pa_cons (pv 8) pa_nil))) (pss_cons (ps_set (i := 12) sc_ldeed.nd rfl (Or.inl rfl) (pe_met M_bput.quiet (hr.mono (by decide)) (pv 0) (pa_cons (pv 8) pa_nil))) (pss_one (ps_ret (pe_and (pe_callB cl_isk (by rfl) b_isinstance (by decide +kernel) (pa_cons (pv 12) (pa_cons (pe_bltn (v := .ty "bool") (by rfl) b_bool (by decide +kernel) rfl) pa_nil))) (pe_one (pe_cmpR op_eq (pv 12) (pv 11) (nomark _))))))))))))))))))) rd
theorem ok_lrefused (h : Here K mg "_law_refused" s_lrefused) (C_lword : Cal P w K mg base CX0 1 "_law_word" ["_law_e"] (sp_lword K)) (C_ltried : Cal P w K mg base CX0 5 "_law_tried" ["_law_bench", "_law_thing"] (sp_ltried K))
    (len : ∀ vs H Q E, sp_lrefused K vs H Q E → vs.length = P_lrefused.length)
    (rd : ∀ (vs : List V) (H : Hp) (Q : VK) (E : XK), sp_lrefused K vs H Q E → r_lrefused K { nx := fun _ H' => Q .non H', rt := Q } (start N_lrefused vs) H) :
    Cal P w K mg base CX0 6 "_law_refused" P_lrefused (sp_lrefused K) := by
  exact h.cal sc_lrefused len (fun _ _ _ _ _ _ us hl => match us, hl with | [_, _, _], _ => rfl)
    (fun f cdv A outer s H E hr => (show PSs _ _ _ from (pss_cons (ps_set (i := 3) sc_lrefused.nd rfl (Or.inl rfl) (pe_ix ix_list (pe_lst (pa_cons (pe_tup (pa_cons pe_int (pa_cons pe_int pa_nil))) (pa_cons (pe_tup (pa_cons pe_int (pa_cons (pe_dget (hu1 hr) (pv 1) pe_str (by intro _ _; rfl)) pa_nil))) (pa_cons (pe_lst (pa_cons pe_int (pa_cons pe_int pa_nil))) (pa_cons pe_int (pa_cons pe_str (pa_cons (pe_tup (pa_cons pe_int pa_nil)) (pa_cons (pe_tup (pa_cons pe_bl (pa_cons pe_int pa_nil))) (pa_cons (pe_tup (pa_cons (pe_un un_neg pe_int) (pa_cons pe_int pa_nil))) (pa_cons (pe_tup (pa_cons pe_int (pa_cons pe_int (pa_cons pe_int pa_nil)))) (pa_cons pe_dnewK pa_nil))))))))))) (pe_op op_mod (pv 2) pe_int) (fun _ _ => rfl))) (pss_cons (ps_set (i := 4) sc_lrefused.nd rfl (Or.inl rfl) (pe_cal C_ltried (hr.mono (by decide)) (by rfl) (pa_cons (pv 0) (pa_cons (pv 3) pa_nil)))) (pss_cons (ps_if (pw_or (pt_cmpR op_ne (pe_cal C_lword (hr.mono (by decide)) (by rfl) (pa_cons (pv 4) pa_nil)) pe_str (nomark _)) (pw_or1 (pt_cmpR op_notN1 (pe_xk (pv 4)) pe_non (nomark _)))).pt (pss_one (ps_ret pe_bl)) pss_nil) (pss_one (ps_ret (pe_or (pe_cmpR (op_neD (hu64 hr)) (pe_dget (hu1 hr) (pv 1) pe_str (by intro _ _; rfl)) (pe_lst pa_nil) (nomark _)) (pe_one (pe_cmpR op_eq (pe_cal C_lword (hr.mono (by decide)) (by rfl) (pa_cons (pe_cal C_ltried (hr.mono (by decide)) (by rfl) (pa_cons (pv 0) (pa_cons pe_non pa_nil))) pa_nil)) pe_str (nomark _))))))))))) rd
theorem ok_lfull (h : Here K mg "_law_full" s_lfull) (C_lword : Cal P w K mg base CX0 1 "_law_word" ["_law_e"] (sp_lword K)) (C_ltried : Cal P w K mg base CX0 5 "_law_tried" ["_law_bench", "_law_thing"] (sp_ltried K)) (M_binit : MkCal P w K mg base CX0 3 "Bench" ["self", "lines"] (sp_binit K)) (M_bcomps : MCal P w K mg base CX0 1 "Bench" "comparers" ["self"] (sp_bcomps K)) (M_bput : MCal P w K mg base (L2.CX P w) 4 "Bench" "put" ["self", "comparer"] (sp_bput K)) (M_btake : MCal P w K mg base (L2.CX P w) 1 "Bench" "take_back" ["self"] (sp_btake K)) (b_bool : mg "bool" = none) (b_isinstance : mg "isinstance" = none) (b_range : mg "range" = none)
    (len : ∀ vs H Q E, sp_lfull K vs H Q E → vs.length = P_lfull.length)
    (rd : ∀ (vs : List V) (H : Hp) (Q : VK) (E : XK), sp_lfull K vs H Q E → r_lfull K { nx := fun _ H' => Q .non H', rt := Q } (start N_lfull vs) H) :
    Cal P w K mg base CX0 6 "_law_full" P_lfull (sp_lfull K) := by
  exact h.cal sc_lfull len (fun _ _ _ _ _ _ us hl => match us, hl with | [_, _], _ => rfl)
    (fun f cdv A outer s H E hr => (show PSs _ _ _ from (pss_cons (ps_set (i := 2) sc_lfull.nd rfl (Or.inl rfl) (pe_mk M_binit (hr.mono (by decide)) (by rfl) (pa_cons (pv 0) pa_nil))) (pss_cons (ps_setLc (i := 3) (own := [("_law_k", 7)]) rfl sc_lfull.nd rfl rfl (sw_true rfl rfl rfl (by decide +kernel)) (pi_range1 (by rfl) b_range (pa_cons pe_int pa_nil)) (blkOk_by (N := N_lfull) (sc := defScope s_lfull) (by decide +kernel)) (fun _ _ _ _ _ => (pg_name (i := 7) sc_lfull.nd rfl (Or.inl rfl))) (fun _ _ _ _ _ => pts_nil) (fun _ _ _ _ _ => (pe_ix ix_list (pe_lst (pa_cons (pe_tup (pa_cons pe_int (pa_cons pe_int pa_nil))) (pa_cons (pe_tup (pa_cons pe_int (pa_cons pe_int pa_nil))) (pa_cons (pe_tup (pa_cons (pe_op op_sub (pv 0) pe_int) (pa_cons pe_int pa_nil))) pa_nil)))) (pe_op op_mod (pe_op op_shr (pv 1) (pe_op op_mod (pv 7) pe_int)) pe_int) (fun _ _ => rfl)))) (pss_cons (ps_for PassesOwn.never rfl (pi_list (pv 3)) (pg_name (i := 4) sc_lfull.nd rfl (Or.inl rfl)) (pss_one (ps_expr (pe_met M_bput.quiet (hr.mono (by decide)) (pv 2) (pa_cons (pv 4) pa_nil))))) (pss_cons (ps_for PassesOwn.never rfl (pi_range1 (by rfl) b_range (pa_cons pe_int pa_nil)) (pg_name (i := 5) sc_lfull.nd rfl (Or.inl rfl)) (pss_cons (ps_set (i := 6) sc_lfull.nd rfl (Or.inl rfl) (pe_cal C_ltried (hr.mono (by decide)) (by rfl) (pa_cons (pv 2) (pa_cons (pe_tup (pa_cons pe_int (pa_cons pe_int pa_nil))) pa_nil)))) (pss_cons (ps_if (pw_or (pt_cmpR op_ne (pe_cal C_lword (hr.mono (by decide)) (by rfl) (pa_cons (pv 6) pa_nil)) pe_str (nomark _)) (pw_or (pt_cmpR op_notN1 (pe_xk (pv 6)) pe_non (nomark _)) (pw_or1 (pt_cmpR (op_neD (hu64 hr)) (pe_met0 M_bcomps (hr.mono (by decide)) (pv 2)) (pv 3) (nomark _))))).pt (pss_one (ps_ret pe_bl)) pss_nil) (pss_one (ps_if (pw_or (pt_cmpR (op_neD (hu64 hr)) (pe_met0 M_btake.quiet (hr.mono (by decide)) (pv 2)) (pe_ix ix_list (pv 3) (pe_un un_neg pe_int) (fun _ _ => rfl)) (nomark _)) (pw_or1 (pt_not (pt_val (pe_callB cl_isk (by rfl) b_isinstance (by decide +kernel) (pa_cons (pe_met M_bput.quiet (hr.mono (by decide)) (pv 2) (pa_cons (pe_ix ix_list (pv 3) (pe_un un_neg pe_int) (fun _ _ => rfl)) pa_nil)) (pa_cons (pe_bltn (v := .ty "bool") (by rfl) b_bool (by decide +kernel) rfl) pa_nil))))))).pt (pss_one (ps_ret pe_bl)) pss_nil))))) (pss_one (ps_ret (pe_cmpR (op_eqD (hu64 hr)) (pe_met0 M_bcomps (hr.mono (by decide)) (pv 2)) (pv 3) (nomark _)))))))))) rd
theorem ok_law (h : Here K mg "law" s_law) (C_ldraw : Cal P w K mg base CX0 1 "_law_draw" ["_law_cell", "_law_k", "_law_j"] (sp_ldraw K)) (C_lasked : Cal P w K mg base CX0 3 "_law_asked" ["_law_bench", "_law_model", "_law_n", "_law_held"] (sp_lasked K)) (C_ldeed : Cal P w K mg base CX0 6 "_law_deed" ["_law_bench", "_law_model", "_law_cell", "_law_k"] (sp_ldeed K)) (C_lrefused : Cal P w K mg base CX0 6 "_law_refused" ["_law_bench", "_law_model", "_law_n"] (sp_lrefused K)) (C_lfull : Cal P w K mg base CX0 6 "_law_full" ["_law_lines", "_law_n"] (sp_lfull K)) (M_binit : MkCal P w K mg base CX0 3 "Bench" ["self", "lines"] (sp_binit K)) (M_bcomps : MCal P w K mg base CX0 1 "Bench" "comparers" ["self"] (sp_bcomps K)) (b_enumerate : mg "enumerate" = none) (b_int : mg "int" = none) (b_sum : mg "sum" = none)
    (len : ∀ vs H Q E, sp_law K vs H Q E → vs.length = P_law.length)
    (rd : ∀ (vs : List V) (H : Hp) (Q : VK) (E : XK), sp_law K vs H Q E → r_law K { nx := fun _ H' => Q .non H', rt := Q } (start N_law vs) H) :
    Cal P w K mg base CX0 7 "law" P_law (sp_law K) := by
  exact h.cal sc_law len (fun _ _ _ _ _ _ us hl => match us, hl with | [_], _ => rfl)
    (fun f cdv A outer s H E hr => (show PSs _ _ _ from (pss_cons (ps_set (i := 1) sc_law.nd rfl (Or.inl rfl) (pe_cal C_ldraw (hr.mono (by decide)) (by rfl) (pa_cons (pe_callB (cr_sum rfl) (by rfl) b_sum (by decide +kernel) (pa_cons (pe_slice sl_list (pv 0) po_none (po_some pe_int)) pa_nil)) (pa_cons pe_int (pa_cons pe_int pa_nil))))) (pss_cons (ps_if (pw_and (pt_cmpR op_eq (pe_op op_mod (pe_op op_fdiv (pv 1) pe_int) pe_int) pe_int (nomark _)) (pw_and1 (pt_not (pt_val (pe_cal C_lfull (hr.mono (by decide)) (by rfl) (pa_cons (pe_op op_add pe_int (pe_op op_mod (pv 1) pe_int)) (pa_cons (pv 1) pa_nil))))))).pt (pss_one (ps_ret pe_bl)) pss_nil) (pss_cons (ps_set (i := 2) sc_law.nd rfl (Or.inl rfl) (pe_lst (pa_cons (pe_disp (pps_cons pe_str (pe_op op_add pe_int (pe_op op_mod (pv 1) pe_int)) (pps_cons pe_str (pe_lst pa_nil) pps_nil)) (by rfl) (by rfl) (by intro h; cases h) (by decide)) (pa_cons (pe_disp (pps_cons pe_str (pe_op op_add pe_int (pe_op op_mod (pe_op op_fdiv (pv 1) pe_int) pe_int)) (pps_cons pe_str (pe_lst pa_nil) pps_nil)) (by rfl) (by rfl) (by intro h; cases h) (by decide)) pa_nil)))) (pss_cons (ps_setLc (i := 3) (own := [("_law_model", 9)]) rfl sc_law.nd rfl rfl (sw_true rfl rfl rfl (by decide +kernel)) (pi_list (pv 2)) (blkOk_by (N := N_law) (sc := defScope s_law) (by decide +kernel)) (fun _ _ _ _ _ => (pg_name (i := 9) sc_law.nd rfl (Or.inl rfl))) (fun _ _ _ _ _ => pts_nil) (fun _ _ _ _ _ => (pe_mk M_binit (hr.mono (by decide)) (by rfl) (pa_cons (pe_dget (hu1 hr) (pv 9) pe_str (by intro _ _; rfl)) pa_nil)))) (pss_cons (ps_set (i := 4) sc_law.nd rfl (Or.inl rfl) (pe_lst pa_nil)) (pss_cons (ps_for PassesOwn.never rfl (pi_enum (by rfl) b_enumerate (pa_cons (pe_slice sl_list (pv 0) po_none (po_some pe_int)) pa_nil)) (pg_tup rfl (pgs_cons (pg_name (i := 5) sc_law.nd rfl (Or.inl rfl)) (pgs_cons (pg_name (i := 6) sc_law.nd rfl (Or.inl rfl)) pgs_nil))) (pss_cons (ps_set (i := 7) sc_law.nd rfl (Or.inl rfl) (pe_cal C_ldraw (hr.mono (by decide)) (by rfl) (pa_cons (pv 6) (pa_cons (pv 5) (pa_cons pe_int pa_nil))))) (pss_cons (ps_set (i := 8) sc_law.nd rfl (Or.inl rfl) (pe_callTy cl_int1 (by rfl) b_int (by decide +kernel) (pa_cons (pe_cmpR op_eq (pe_op op_mod (pv 7) pe_int) pe_int (nomark _)) pa_nil))) (pss_cons (ps_if (pw_and (pt_cmpR op_eq (pe_op op_mod (pe_op op_fdiv (pv 7) pe_int) pe_int) pe_int (nomark _)) (pw_and1 (pt_not (pt_val (pe_cal C_lrefused (hr.mono (by decide)) (by rfl) (pa_cons (pe_ix ix_list (pv 3) (pv 8) (fun _ _ => rfl)) (pa_cons (pe_ix ix_list (pv 2) (pv 8) (fun _ _ => rfl)) (pa_cons (pe_op op_fdiv (pv 7) pe_int) pa_nil)))))))).pt (pss_one (ps_ret pe_bl)) pss_nil) (pss_cons (ps_if (pt_not (pt_val (pe_cal C_ldeed (hr.mono (by decide)) (by rfl) (pa_cons (pe_ix ix_list (pv 3) (pv 8) (fun _ _ => rfl)) (pa_cons (pe_ix ix_list (pv 2) (pv 8) (fun _ _ => rfl)) (pa_cons (pv 6) (pa_cons (pv 5) pa_nil))))))) (pss_one (ps_ret pe_bl)) pss_nil) (pss_cons (ps_if (pt_not (pt_val (pe_cal C_lasked (hr.mono (by decide)) (by rfl) (pa_cons (pe_ix ix_list (pv 3) (pv 8) (fun _ _ => rfl)) (pa_cons (pe_ix ix_list (pv 2) (pv 8) (fun _ _ => rfl)) (pa_cons (pe_op op_fdiv (pv 7) pe_int) (pa_cons (pv 4) pa_nil))))))) (pss_one (ps_ret pe_bl)) pss_nil) (pss_one (ps_if (pt_cmpR (op_neD (hu64 hr)) (pe_met0 M_bcomps (hr.mono (by decide)) (pe_ix ix_list (pv 3) (pe_op op_sub pe_int (pv 8)) (fun _ _ => rfl))) (pe_dget (hu1 hr) (pe_ix ix_list (pv 2) (pe_op op_sub pe_int (pv 8)) (fun _ _ => rfl)) pe_str (by intro _ _; rfl)) (nomark _)) (pss_one (ps_ret pe_bl)) pss_nil)))))))) (pss_one (ps_ret (pe_cmpR (op_eqD (hu64 hr)) (pe_lc (own := [("_law_pair", 10)]) rfl sc_law.nd (pi_list (pv 4)) (blkOk_by (N := N_law) (sc := defScope s_law) (by decide +kernel)) (fun _ _ _ _ _ => (pg_name (i := 10) sc_law.nd rfl (Or.inl rfl))) (fun _ _ _ _ _ => (pts_one (pt_cmpR (op_neD (hu64 hr)) (pe_ix ix_tup (pv 10) pe_int (fun _ _ => rfl)) (pe_ix ix_tup (pv 10) pe_int (fun _ _ => rfl)) (nomark _)))) (fun _ _ _ _ _ => (pv 10))) (pe_lst pa_nil) (nomark _)))))))))))) rd
theorem ok_initBadWeb (h : Met K "BadWeb" "__init__" "BadWeb.__init__" s_initBadWeb) (W_WebError : InK K mg "WebError") (O_BadWeb : OwK K mg "BadWeb" "place") : InitOk P w K mg base 1 "BadWeb" "place" := by
  obtain ⟨fd, D⟩ := h
  refine ⟨fd, D.ok sc_initBadWeb (fun vs H Q E h => by obtain ⟨_, _, rfl, _⟩ := h; rfl) fun cdv A outer s H vs Q E hr h => ⟨rInit K "no web, place " "place", ?_, rd_init O_BadWeb (by decide) vs H Q E h⟩, D.bindsN fun _ _ _ _ _ _ us hl => match us, hl with | [_, _], _ => rfl⟩
  exact (show PSs _ _ _ from (pss_cons (ps_expr (pe_winit W_WebError (by rfl) (pa_cons (pv 0) (pa_cons (pe_joined (.cons pe_str (.cons (pe_fmtN (pv 1)) .nil))) pa_nil)))) (pss_one (ps_ost (pv 0) (pv 1)))))
end
end Sw

set_option Elab.async false
set_option linter.all false
set_option maxRecDepth 100000
set_option maxHeartbeats 4000000
namespace Sw
open PySem PySem.Spec PyProof.Rows L2
local macro_rules | `(tactic| walk_at "ev") => `(tactic| simp only [tSeq, tAsg, tRet, tRetN, tOp, tUn, tVar, tC, tNil, tCons, tCB, tDrop, tNext, tCont, tBreak, tIfS, tIf, tTest, tChain, tB, tTup, tLst, tAnd, tOr, tNot, tAndV, tOrV, tNotV, tPart, tNoPart, tSl, tCal, tAug, ipI, rI0, rI, rU, rEq, rNe, kMin, kMax, gName, gCons, gNil, L2.start, wipe, List.map_cons, List.map_nil, List.length_cons, List.length_nil, List.cons_append, List.nil_append, List.append_nil, Nat.reduceAdd, Nat.reduceSub, List.replicate_succ, List.replicate_zero, List.getElem?_cons_zero, List.getElem?_cons_succ, List.set_cons_succ, List.set_cons_zero, Option.some.injEq, exists_eq_left', exists_eq_left, V.int.injEq, V.bl.injEq, V.str.injEq, V.ref.injEq, List.cons.injEq, exists_and_left, and_assoc, and_true, true_and, scal_ii, scal_ss, scal_nn, scal_bb, scal_ni, scal_in, decide_eq_true_eq, Bool.not_true, Bool.not_false, Bool.not_eq_true', decide_eq_false_iff_not, ite_not, reduceCtorEq, if_true, if_false, Bool.false_eq_true, ne_eq, not_true_eq_false, not_false_eq_true, Int.reduceLT, Int.reduceLE, Int.reduceNeg])
local macro_rules | `(tactic| walk_at "cm") => `(tactic| first | exact Or.inr ⟨by decide, by decide⟩ | exact Or.inl ⟨by decide, by decide⟩ | exact Or.inl ⟨by omega, by omega⟩ | exact Or.inr ⟨by omega, by omega⟩)
variable {K : PySem.W.Frag}

theorem rd_ldraw (vs : List V) (H : Hp) (Q : VK) (E : XK) (h : sp_ldraw K vs H Q E) : r_ldraw K { nx := fun _ H' => Q .non H', rt := Q } (L2.start N_ldraw vs) H := by
  obtain ⟨c, k, j, rfl, hk, hj, q⟩ := h
  unfold r_ldraw N_ldraw
  walk_at "ev"
  refine ⟨by walk_at "cm", by walk_at "cm", by walk_at "cm", by walk_at "cm", by walk_at "cm", by walk_at "cm", ⟨by decide, by decide⟩, ?_⟩
  refine q _ ?_ ?_ <;> omega
/-- what the two places of a comparer hold -/
theorem cmp_at {n : Nat} {c : Cmp} {r : Row} (h : CmpOk n c) (hr : r.length = n) : (vis r)[c.1]? = some (.int (at0 r c.1)) ∧ (vis r)[c.2]? = some (.int (at0 r c.2)) := ⟨ints_at (by rw [hr]; exact h.1), ints_at (by rw [hr]; exact h.2.1)⟩
theorem ixN_cmp {n k : Nat} {r : Row} (h : k < n) (hr : r.length = n) : ixN (vis r).length (k : Int) = some k := Evl.ixN_nat (by rw [ints_len, hr]; exact h)
/-- xs[a], xs[b] = v, u, the pair at hand -/
theorem swap_run {σ : L2.St} {H : Hp} {p T : Addr} {k i j : Nat} {a b : Nat} {r : Row} {u v : Int} {Q : L2.St → Hp → Prop} (hk : σ[k]? = some (some (.ref p))) (hi : σ[i]? = some (some (.int (a : Int)))) (hj : σ[j]? = some (some (.int (b : Int))))
    (hp : H p = some (.lst (vis r))) (hT : SqT K H T [.int u, .int v]) (ha : a < r.length) (hb : b < r.length) (q : Q σ (upd H p (.lst (vis ((r.set a u).set b v))))) :
    gTup K 2 (gCons (gSub (tVar k) (tVar i) rSetL) (gCons (gSub (tVar k) (tVar j) rSetL) gNil)) (.ref T) σ H Q := by
  refine ⟨T, _, rfl, hT, rfl, .int u, _, rfl, .ref p, hk, .int (a : Int), hi, p, _, (a : Int), a, rfl, rfl, hp, Evl.ixN_nat (by rw [ints_len]; exact ha), ?_⟩
  rw [ints_set]
  refine ⟨.int v, _, rfl, .ref p, hk, .int (b : Int), hj, p, _, (b : Int), b, rfl, rfl, upd_same, Evl.ixN_nat (by rw [ints_len, List.length_set]; exact hb), rfl, ?_⟩
  rw [ints_set, upd_upd]
  exact q

theorem set_run {σ : L2.St} {H : Hp} {p : Addr} {k i a : Nat} {v : V} {xs : List V} {Q : L2.St → Hp → Prop} (hk : σ[k]? = some (some (.ref p))) (hi : σ[i]? = some (some (.int (a : Int)))) (hp : H p = some (.lst xs)) (ha : a < xs.length)
    (q : Q σ (upd H p (.lst (xs.set a v)))) : gSub (tVar k) (tVar i) rSetL v σ H Q :=
  ⟨.ref p, hk, .int (a : Int), hi, p, _, (a : Int), a, rfl, rfl, hp, Evl.ixN_nat ha, q⟩
theorem stirs_eq {cs : List Cmp} {k : Nat} {c : Cmp} (h : cs[k]? = some c) : stirsAt cs k = gtB (cs.take k) c.1 c.2 := by
  funext r
  unfold stirsAt gtB
  rw [h]
theorem webAt_take {H : Hp} {a : Addr} {n k : Nat} {ps : List Addr} {cs : List Cmp} (ha : SqL K H a (Rfs (ps.take k))) (hp : Prs K H ps cs) (ok : WebOk n cs) (n1 : 1 ≤ n) (n10 : n ≤ 10) : WebAt K H a n (cs.take k) :=
  ⟨ps.take k, ha, hp.take k, ⟨by rw [List.length_take]; have := ok.1; omega, fun c hc => ok.2 c (List.mem_of_mem_take hc)⟩, n1, n10⟩
theorem rfs_take (ps : List Addr) (k : Nat) : cutV (Rfs ps) none (some (k : Int)) = Rfs (ps.take k) := by
  rw [cutV_to]
  unfold Rfs
  rw [List.map_take]
theorem any_first {n : Nat} {f : Row → Bool} : (bares n).any f = (firstB n f).isSome := by
  unfold firstB
  rw [Bool.eq_iff_iff, List.any_eq_true, List.find?_isSome]
theorem first_get {n : Nat} {f : Row → Bool} {r : Row} (h : firstB n f = some r) : r ∈ bares n ∧ f r = true := ⟨List.mem_of_find?_eq_some h, List.find?_some h⟩
theorem eq_rows {H : Hp} {a b : Addr} {r : Row} {Q : VK} (h1 : SqL K H a (vis r)) (h2 : SqL K H b (vis r)) (q : Q (.bl true) H) : rEqD K (.ref a) (.ref b) H Q :=
  ⟨dI r, dI r, dp_row h1, dp_row h2, enc_row.shaped (by decide) _, enc_row.shaped (by decide) _, by rw [enc_row.eq, decide_eq_true rfl]; exact q⟩
theorem webAt_same {H H' : Hp} {a : Addr} {n : Nat} {cs : List Cmp} (s : Same H H') (w : WebAt K H a n cs) : WebAt K H' a n cs := by
  obtain ⟨ps, ha, hp, r⟩ := w
  exact ⟨ps, s.seq ha, Same.prs s hp, r⟩
end Sw

set_option Elab.async false
set_option linter.all false
set_option maxRecDepth 100000
set_option maxHeartbeats 4000000
namespace Sw
open PySem PySem.Spec PyProof.Rows L2
local macro_rules | `(tactic| walk_at "ev") => `(tactic| simp only [tSeq, tCalW, quiet, tRzA, tRzO, tTryT, tTryK, tJoin, tJs, tBM, tBits, kStrI, kIntS, kLenS, mSplit, mPart, mIndex, tAsg, tRet, tRetN, tOp, tUn, tVar, tC, tNil, tCons, tCB, tDrop, tNext, tCont, tBreak, tIfS, tIf, tTest, tChain, tChain3, tB, tTup, tLst, tAnd, tOr, tNot, tAndV, tOrV, tNotV, tPart, tNoPart, tSl, tCal, tAug, ipI, rI0, rI, rU, rEq, rNe, kMin, kMax, gName, gCons, gNil, L2.start, wipe, List.map_cons, List.map_nil, List.length_cons, List.length_nil, List.cons_append, List.nil_append, List.append_nil, Nat.reduceAdd, Nat.reduceSub, List.replicate_succ, List.replicate_zero, List.getElem?_cons_zero, List.getElem?_cons_succ, List.set_cons_succ, List.set_cons_zero, Option.some.injEq, exists_eq_left', exists_eq_left, V.int.injEq, V.bl.injEq, V.str.injEq, V.ref.injEq, List.cons.injEq, exists_and_left, and_assoc, and_true, true_and, scal_ii, scal_ss, scal_nn, scal_bb, scal_ni, scal_in, decide_eq_true_eq, Bool.not_true, Bool.not_false, Bool.not_eq_true', decide_eq_false_iff_not, ite_not, reduceCtorEq, if_true, if_false, Bool.false_eq_true, ne_eq, not_true_eq_false, not_false_eq_true, Int.reduceLT, Int.reduceLE, Int.reduceNeg])
local macro_rules | `(tactic| walk_at "cm") => `(tactic| first | exact Or.inr ⟨by decide, by decide⟩ | exact Or.inl ⟨by decide, by decide⟩ | exact Or.inl ⟨by omega, by omega⟩ | exact Or.inr ⟨by omega, by omega⟩)
variable {K : PySem.W.Frag}
theorem bit_at (v a : Nat) : Builtin.bitAnd ((v : Int) / 2 ^ (a : Int).toNat) 1 = if v.testBit a = true then 1 else 0 := by
  rw [bitAnd_m1, Int.toNat_natCast, Nat.testBit_eq_decide_div_mod_eq]
  have e : ((v : Int) / 2 ^ a % 2) = ((v / 2 ^ a % 2 : Nat) : Int) := by norm_cast
  rw [e]
  have : v / 2 ^ a % 2 = 0 ∨ v / 2 ^ a % 2 = 1 := by omega
  rcases this with h | h <;> rw [h] <;> rfl
theorem xor_at (v a : Nat) : Builtin.bitXor (v : Int) (1 * 2 ^ (a : Int).toNat) = ((v ^^^ (1 <<< a) : Nat) : Int) := by
  have e : (1 : Int) * 2 ^ (a : Int).toNat = ((1 <<< a : Nat) : Int) := by
    rw [Int.one_mul, Int.toNat_natCast, Nat.one_shiftLeft, Int.natCast_pow]
  refine (congrArg (Builtin.bitXor (v : Int)) e).trans ?_
  rw [_root_.Bits.bitXor_pp (Int.natCast_nonneg _) (Int.natCast_nonneg _)]
  rfl
theorem rd_bbehind (vs : List V) (H : Hp) (Q : VK) (E : XK) (h : sp_bbehind K vs H Q E) : r_bbehind K { nx := fun _ H' => Q .non H', rt := Q } (L2.start N_bbehind vs) H := by
  obtain ⟨v, a, b, rfl, ha, hb, q⟩ := h
  unfold r_bbehind N_bbehind
  walk_at "ev"
  refine ⟨by omega, by omega, ?_⟩
  rw [bit_at, bit_at]
  by_cases z : (v.testBit a && !v.testBit b) = true
  · have e : goB v (a, b) = (v ^^^ (1 <<< a)) ^^^ (1 <<< b) := by
      unfold goB
      rw [if_pos z]
    rw [e] at q
    rw [Bool.and_eq_true, Bool.not_eq_true'] at z
    rw [z.1, z.2, if_neg Bool.false_ne_true, if_pos rfl, if_pos (by decide)]
    refine ⟨⟨by omega, by omega, by decide⟩, ⟨by omega, by omega, by decide⟩, ?_⟩
    rw [xor_at, xor_at]
    exact q
  · have e : goB v (a, b) = v := by
      unfold goB
      rw [if_neg z]
    rw [e] at q
    rw [if_neg ?_]
    · exact q
    · intro lt
      refine z ?_
      cases h1 : v.testBit a <;> cases h2 : v.testBit b <;> rw [h1, h2] at lt <;> first | rfl | exact absurd lt (by decide)
theorem bench_same {H H' : Hp} {p : Addr} {n : Nat} {cs : List Cmp} {l R : Addr} {qs : List Addr} (s : Same H H') (h : BenchAt K H p n cs l R qs) : BenchAt K H' p n cs l R qs := by
  obtain ⟨dx, ps, hp, hl, hps, hR, ⟨lq, ho⟩, r⟩ := h
  exact ⟨dx, ps, s _ _ hp, s _ _ hl, Same.prs s hps, s _ _ hR, ⟨lq, fun i q hq => by
    obtain ⟨h1, h2, h3⟩ := ho i q hq
    exact ⟨h1, h2, s _ _ h3⟩⟩, r⟩
theorem rd_bcomps (T : BenchT K) (vs : List V) (H : Hp) (Q : VK) (E : XK) (h : sp_bcomps K vs H Q E) : r_bcomps K { nx := fun _ H' => Q .non H', rt := Q } (L2.start N_bcomps vs) H := by
  obtain ⟨p, l, R, n, cs, qs, rfl, ⟨dx, ps, hp, hl, hps, hR, ho, r⟩, q⟩ := h
  unfold r_bcomps N_bcomps tFld
  walk_at "ev"
  refine ⟨_, dx, _, hp, T.cl, T.nC, _, bf_comps n l R, ?_⟩
  refine ⟨l, _, rfl, .inl (.inl (.inl hl)), fun u nu => ?_⟩
  have s := same_new (o := .lst (Rfs ps)) nu
  exact q _ u ps s nu upd_same (Same.prs s hps)
theorem rd_binit (T : BenchT K) (vs : List V) (H : Hp) (Q : VK) (E : XK) (h : sp_binit K vs H Q E) : r_binit K { nx := fun _ H' => Q .non H', rt := Q } (L2.start N_binit vs) H := by
  obtain ⟨p, dx, n, rfl, hp, n1, n10, q⟩ := h
  unfold r_binit N_binit sFld tLstRg tRg1
  walk_at "ev"
  refine ⟨n, rfl, n1, n10, ?_⟩
  walk_at "ev"
  have pn : 2 ^ n ≤ 2 ^ 10 := Nat.pow_le_pow_right (by decide) n10
  refine ⟨_, dx, _, hp, T.cl, T.nL, by show 0 < 1000; decide, small_line (by decide), fun l nl => ?_⟩
  have pl : l ≠ p := fun e => by
    rw [e, upd_same] at nl
    cases nl
  have nlH : H l = none := by
    rw [upd_ne pl] at nl
    exact nl
  generalize hH1 : upd (upd H p (.ins (He.ga K "Bench") dx (putF "_lines" (.int (n : Int)) []))) l (.lst []) = H1
  have p1 : H1 p = some (.ins (He.ga K "Bench") dx (putF "_lines" (.int (n : Int)) [])) := by rw [← hH1, upd_ne pl.symm, upd_same]
  have l1 : H1 l = some (.lst []) := by rw [← hH1, upd_same]
  have k1 : ∀ b o, b ≠ p → H b = some o → H1 b = some o := fun b o nb e => by
    rw [← hH1, upd_ne (ne_of_none e nlH), upd_ne nb]
    exact e
  have f1 : ∀ b, H1 b = none → H b = none := fun b e => by
    by_cases z : b = p
    · rw [z, p1] at e
      cases e
    · cases h : H b with
      | none => rfl
      | some o =>
        rw [k1 b o z h] at e
        cases e
  clear hH1 nl
  refine ⟨_, dx, _, p1, T.cl, T.nC, by show 1 < 1000; decide, ⟨by omega, by omega, by decide⟩, ?_⟩
  have e2 : (1 : Int) * 2 ^ (n : Int).toNat = ((2 ^ n : Nat) : Int) := by
    rw [Int.one_mul, Int.toNat_natCast, Int.natCast_pow]
    rfl
  have e3 : rgV 0 (1 * 2 ^ (n : Int).toNat) = natL (List.range (2 ^ n)) := (congrArg (rgV 0) e2).trans (rgV_nat _)
  rw [e3]
  refine ⟨?_, fun d nd => ?_⟩
  · have g0 : ∀ m : Nat, m ≤ 1024 → RgOk 0 (m : Int) := fun m hm => .of_le (by omega) (by omega) (by omega) (by omega)
    have g := g0 (2 ^ n) pn
    rw [← e2] at g
    exact g
  have dp : d ≠ p := fun e => by
    rw [e, upd_same] at nd
    cases nd
  rw [upd_ne dp] at nd
  have dl : d ≠ l := (ne_of_none l1 nd).symm
  generalize hH2 : upd (upd H1 p (.ins (He.ga K "Bench") dx (putF "_comparers" (.ref l) (putF "_lines" (.int (n : Int)) [])))) d (.lst (natL (List.range (2 ^ n)))) = H2
  have p2 : H2 p = some (.ins (He.ga K "Bench") dx (putF "_comparers" (.ref l) (putF "_lines" (.int (n : Int)) []))) := by rw [← hH2, upd_ne dp.symm, upd_same]
  have l2 : H2 l = some (.lst []) := by rw [← hH2, upd_ne dl.symm, upd_ne pl]; exact l1
  have d2 : H2 d = some (.lst (natL (List.range (2 ^ n)))) := by rw [← hH2, upd_same]
  have k2 : ∀ b o, b ≠ p → H1 b = some o → H2 b = some o := fun b o nb e => by
    rw [← hH2, upd_ne (ne_of_none e nd), upd_ne nb]
    exact e
  have f2 : ∀ b, H2 b = none → H1 b = none := fun b e => by
    by_cases z : b = p
    · rw [z, p2] at e
      cases e
    · cases h : H1 b with
      | none => rfl
      | some o =>
        rw [k2 b o z h] at e
        cases e
  clear hH2
  refine ⟨small_line (by decide), fun R nR => ?_⟩
  have Rp : R ≠ p := fun e => by
    rw [e, p2] at nR
    cases nR
  have Rl : R ≠ l := (ne_of_none l2 nR).symm
  have Rd : R ≠ d := (ne_of_none d2 nR).symm
  refine ⟨_, dx, _, by rw [upd_ne Rp.symm]; exact p2, T.cl, T.nR, by show 2 < 1000; decide, ?_⟩
  have nRH : H R = none := f1 _ (f2 _ nR)
  refine q _ l R d (fun b o nb e => ?_) nlH nRH (f1 _ nd) ⟨dx, [], upd_same, ?_, .nil, ?_, ⟨rfl, fun i g hg => ?_⟩, Rl.symm, ⟨by decide, fun c hc => nomatch hc⟩, n1, n10⟩
  · rw [upd_ne nb, upd_ne (ne_of_none e nRH)]
    exact k2 _ _ nb (k1 _ _ nb e)
  · rw [upd_ne pl, upd_ne Rl.symm]
    exact l2
  · rw [upd_ne Rp, upd_same]
    rfl
  · match i, hg with
    | 0, hg =>
      have e : g = d := (Option.some.inj hg).symm
      subst e
      refine ⟨dl, Rd.symm, ?_⟩
      rw [upd_ne dp, upd_ne Rd.symm, d2, List.take_zero, outs_nil]
theorem rd_bwild (T : BenchT K) (vs : List V) (H : Hp) (Q : VK) (E : XK) (h : sp_bwild K vs H Q E) : r_bwild K { nx := fun _ H' => Q .non H', rt := Q } (L2.start N_bwild vs) H := by
  obtain ⟨p, l, R, n, cs, qs, rfl, ⟨dx, ps, hp, hl, hps, hR, ho, r⟩, q1, q2⟩ := h
  unfold r_bwild N_bwild tFld
  walk_at "ev"
  obtain ⟨Rl, ok, n1, n10⟩ := r
  obtain ⟨lq, hq⟩ := ho
  obtain ⟨g, hg⟩ := get_of (xs := qs) (i := cs.length) (by omega)
  obtain ⟨_, _, hgr⟩ := hq _ g hg
  rw [List.take_length] at hgr
  have len := outs_len n cs
  have pn : 2 ^ n ≤ 2 ^ 10 := Nat.pow_le_pow_right (by decide) n10
  show tFor _ _ _ _ _ _
  rw [for_def]
  unfold iList
  walk_at "ev"
  refine ⟨_, dx, _, hp, T.cl, T.nR, _, bf_rows n l R, ?_⟩
  refine ⟨R, _, _, _, rfl, rfl, .inl (.inl hR), atI_end (n := cs.length) (rfs_at hg) (by rw [rfs_len]; omega), ?_⟩
  refine ⟨g, rfl, ⟨_, .inl (.inl hgr)⟩, ?_⟩
  refine fork_list (xs := natL (outsN n cs)) (.inl (.inl hgr)) (fun i σ H' => ∃ y1 y2, σ = [some (.ref p), y1, y2] ∧ Same H H' ∧ ∀ v ∈ (outsN n cs).take i, Srt (bareR n v)) ⟨none, none, rfl, .refl H, fun v hv => nomatch hv⟩ (fun i σ H' _ hW => ?_) (fun i x σ H' hx hi hW => ?_) (fun σ H' hW => ?_)
  · obtain ⟨_, _, _, s, _⟩ := hW
    exact s.seq (.inl (.inl hgr))
  · obtain ⟨y1, y2, rfl, s, all⟩ := hW
    obtain ⟨v, rfl, hv⟩ : ∃ v : Nat, x = .int (v : Int) ∧ (outsN n cs)[i]? = some v := by
      unfold natL at hx
      rw [List.getElem?_map] at hx
      cases e : (outsN n cs)[i]? with
      | none => rw [e] at hx; cases hx
      | some v => rw [e] at hx; exact ⟨v, (Option.some.inj hx).symm, rfl⟩
    unfold r_bwild_f1 tFld
    walk_at "ev"
    refine ⟨_, dx, _, s _ _ hp, T.cl, T.nL, _, bf_lines n l R, ?_⟩
    refine ⟨n, v, rfl, n10, fun H1 u s1 nu hu => ?_⟩
    refine ⟨u, bareR n v, rfl, .inl (.inl hu), fun ns w hperm hsort nw => ?_⟩
    have s2 := same_new (o := .lst (ns.map V.int)) nw
    refine ne_rows (r := bareR n v) (s := ns) (.inl (.inl (s2 _ _ hu))) (.inl (.inl upd_same)) ?_
    by_cases z : Srt (bareR n v)
    · have e : bareR n v = ns := srt_uniq hperm.symm z hsort
      rw [decide_eq_true e]
      refine ⟨false, rfl, ?_⟩
      rw [if_neg (by decide)]
      refine ⟨s.trans (s1.trans s2), ?_⟩
      intro k hk
      rw [List.take_add_one, hv] at hk
      rcases List.mem_append.mp hk with h | h
      · exact all k h
      · rw [List.mem_singleton.mp h]
        exact z
    · have e : ¬ bareR n v = ns := fun e => z (by rw [e]; exact hsort)
      rw [decide_eq_false e]
      refine ⟨true, rfl, ?_⟩
      rw [if_pos rfl]
      refine q2 v ?_ _ u (s.trans (s1.trans s2)) (s.free nu) (s2 _ _ hu)
      unfold wildB
      rw [List.find?_eq_some_iff_getElem]
      have hi' : i < (outsN n cs).length := by rw [nat_len] at hi; exact hi
      refine ⟨by rw [decide_eq_false z] <;> rfl, i, hi', ?_, fun j hj => ?_⟩
      · rw [List.getElem?_eq_getElem hi'] at hv
        exact Option.some.inj hv
      · have hm : (outsN n cs)[j] ∈ (outsN n cs).take i := by
          rw [List.mem_take_iff_getElem]
          exact ⟨j, by omega, rfl⟩
        rw [decide_eq_true (all _ hm)] <;> rfl
  · obtain ⟨y1, y2, rfl, s, all⟩ := hW
    walk_at "ev"
    refine q1 ?_ H' s
    unfold wildB
    rw [List.find?_eq_none]
    intro v hv
    rw [nat_len, List.take_length] at all
    rw [decide_eq_true (all v hv)]
    decide
end Sw

set_option Elab.async false
set_option linter.all false
set_option maxRecDepth 100000
set_option maxHeartbeats 4000000
namespace Sw
open PySem PySem.Spec PyProof.Rows L2
local macro_rules | `(tactic| walk_at "ev") => `(tactic| simp only [tSeq, tCalW, quiet, tRzA, tRzO, tTryT, tTryK, tJoin, tJs, tBM, tBits, kStrI, kIntS, kLenS, mSplit, mPart, mIndex, tAsg, tRet, tRetN, tOp, tUn, tVar, tC, tNil, tCons, tCB, tDrop, tNext, tCont, tBreak, tIfS, tIf, tTest, tChain, tChain3, tB, tTup, tLst, tAnd, tOr, tNot, tAndV, tOrV, tNotV, tPart, tNoPart, tSl, tCal, tAug, ipI, rI0, rI, rU, rEq, rNe, kMin, kMax, gName, gCons, gNil, L2.start, wipe, List.map_cons, List.map_nil, List.length_cons, List.length_nil, List.cons_append, List.nil_append, List.append_nil, Nat.reduceAdd, Nat.reduceSub, List.replicate_succ, List.replicate_zero, List.getElem?_cons_zero, List.getElem?_cons_succ, List.set_cons_succ, List.set_cons_zero, Option.some.injEq, exists_eq_left', exists_eq_left, V.int.injEq, V.bl.injEq, V.str.injEq, V.ref.injEq, List.cons.injEq, exists_and_left, and_assoc, and_true, true_and, scal_ii, scal_ss, scal_nn, scal_bb, scal_ni, scal_in, decide_eq_true_eq, Bool.not_true, Bool.not_false, Bool.not_eq_true', decide_eq_false_iff_not, ite_not, reduceCtorEq, if_true, if_false, Bool.false_eq_true, ne_eq, not_true_eq_false, not_false_eq_true, Int.reduceLT, Int.reduceLE, Int.reduceNeg])
local macro_rules | `(tactic| walk_at "cm") => `(tactic| first | exact Or.inr ⟨by decide, by decide⟩ | exact Or.inl ⟨by decide, by decide⟩ | exact Or.inl ⟨by omega, by omega⟩ | exact Or.inr ⟨by omega, by omega⟩)
variable {K : PySem.W.Frag}
section
variable {w : World} {σ : L2.St} {H : Hp} {te : TE} {j1 k : Nat} {a : Addr} {Q : VK}
/-- {.. for j1 in x}, x at a whole numbers -/
theorem sc_row {vs : List Nat} {r : Row} (f : Int → Int) (hk : σ[k]? = some (some (.ref a))) (hx : SqL K H a (vis r)) (few : r.length ≤ 4000) (hvs : ∀ v, wipe ((wipe σ vs).set j1 v) vs = wipe σ vs)
    (turn : ∀ (z : Int) (H' : Hp) (Q' : VK), z ∈ r → Q' (.int (f z)) H' → te ((wipe σ vs).set j1 (some (.int z))) H' Q')
    (done : ∀ D H' S n, Same H H' → H D = none → H' D = some (SetO w D S n) → n ≤ r.length → (∀ j, S j = true ↔ ∃ z ∈ r, f z = j) → Q (.ref D) H') :
    tSetC w (iList K (tVar k)) (gName j1) te vs σ H Q := by
  refine ⟨.ref a, hk, a, rfl, ⟨_, hx⟩, fun D nD => ?_⟩
  have lr : (vis r).length = r.length := ints_len _
  refine ⟨fun i m H2 => m + i = r.length ∧ Same H H2 ∧ ∃ S n, H2 D = some (SetO w D S n) ∧ n ≤ i ∧ (∀ j, S j = true ↔ ∃ z ∈ r.take i, f z = j), ⟨r.length, rfl, same_new nD, noI, 0, upd_same, Nat.le_refl _, fun j => ⟨fun e => (Bool.false_ne_true e).elim, fun ⟨z, hz, _⟩ => absurd hz (by rw [List.take_zero]; exact List.not_mem_nil)⟩⟩, fun i m H2 hW => ?_⟩
  obtain ⟨em, s, S, n, hD, hn, hS⟩ := hW
  by_cases hi : i < r.length
  · have gx : (vis r)[i]? = some (.int r[i]) := by
      unfold vis
      rw [List.getElem?_map, List.getElem?_eq_getElem hi] <;> rfl
    refine .inr ⟨⟨_, _, s.seq hx, gx⟩, fun G => m - 1 + (i + 1) = r.length ∧ Same H G ∧ ∃ S n, G D = some (SetO w D S n) ∧ n ≤ i + 1 ∧ (∀ j, S j = true ↔ ∃ z ∈ r.take (i + 1), f z = j), fun G hG => ⟨m - 1, by omega, hG⟩, fun x H3 y => ?_⟩
    obtain ⟨rfl, fx⟩ := y
    have ex := fx _ (s.seq hx)
    rw [gx] at ex
    obtain rfl : V.int r[i] = x := Option.some.inj ex
    refine ⟨hvs _, turn _ _ _ (List.getElem_mem hi) ⟨f r[i], S, n, rfl, hD, by unfold scanBound; omega, by omega, same_mut s nD, _, _, upd_same, ?_, fun j => ?_⟩⟩
    · unfold moN
      split <;> omega
    · have e : r.take (i + 1) = r.take i ++ [r[i]] := by rw [List.take_add_one, List.getElem?_eq_getElem hi] <;> rfl
      show (S j || decide (j = f r[i])) = true ↔ _
      rw [Bool.or_eq_true, decide_eq_true_eq, hS j, e]
      constructor
      · rintro (⟨z, hz, ez⟩ | h)
        · exact ⟨z, List.mem_append_left _ hz, ez⟩
        · exact ⟨_, List.mem_append_right _ (List.mem_singleton.mpr rfl), h.symm⟩
      · rintro ⟨z, hz, ez⟩
        rcases List.mem_append.mp hz with h | h
        · exact .inl ⟨z, h, ez⟩
        · rw [List.mem_singleton.mp h] at ez
          exact .inr ez.symm
  · have ei : r.length ≤ i := by omega
    rw [List.take_of_length_le ei] at hS
    exact .inl ⟨⟨_, s.seq hx, by rw [lr]; exact ei⟩, done D H2 S n s nD hD (by omega) hS⟩
end
theorem own_web {H H' : Hp} {E : XK} {o : Option Nat} {σ : L2.St} (q : Refu K H E (.web o)) (s : Same H H') (ho : ∀ k, o = some k → k ≤ 1000) : OwnWish K "BadWeb" "place" (fun cls d _ H => E cls d H) σ (onV o) H' := by
  refine OwnWish.mk ?_ fun d nd => q H' d s nd
  cases o with
  | none => exact .inl rfl
  | some k => exact .inr ⟨(k : Int), rfl, by omega, by have := ho k rfl; omega⟩
theorem rd_bput (w : World) (T : BenchT K) (vs : List V) (H : Hp) (Q : VK) (E : XK) (h : sp_bput K vs H Q E) : r_bput K w E { nx := fun _ H' => Q .non H', rt := Q } (L2.start N_bput vs) H := by
  obtain ⟨p, l, R, v, b, n, cs, qs, rfl, ⟨dx, ps, hp, hl, hps, hR, ⟨lq, hq⟩, lR, ok, n1, n10⟩, hv, good, bad⟩ := h
  have lps := hps.length
  have len := outs_len n cs
  have pn : 2 ^ n ≤ 2 ^ 10 := Nat.pow_le_pow_right (by decide) n10
  obtain ⟨d, hd⟩ := get_of (xs := qs) (i := cs.length) (by omega)
  obtain ⟨_, _, hdr⟩ := hq _ d hd
  rw [List.take_length] at hdr
  unfold r_bput N_bput tFld
  walk_at "ev"
  refine ⟨_, dx, _, hp, T.cl, T.nC, _, bf_comps n l R, ?_⟩
  refine ⟨l, _, rfl, .inl (.inl (.inl hl)), ?_⟩
  rw [rfs_len]
  walk_at "ev"
  by_cases few : cs.length < 60
  · rw [if_neg (by omega)]
    refine ⟨_, dx, _, hp, T.cl, T.nL, _, bf_lines n l R, ?_⟩
    refine ⟨n, v, b, rfl, hv, b, rfl, ?_⟩
    cases b with
    | false =>
      walk_at "ev"
      exact own_web (o := none) (bad (.inl rfl)) (.refl H) fun k z => nomatch z
    | true =>
      obtain ⟨g, c, rfl, hg, okc, q⟩ := good rfl few
      walk_at "ev"
      refine g2_run hg ?_
      walk_at "ev"
      refine ⟨_, dx, _, hp, T.cl, T.nR, _, bf_rows n l R, ?_⟩
      refine ⟨R, _, _, _, rfl, rfl, .inl (.inl hR), atI_end (n := cs.length) (rfs_at hd) (by rw [rfs_len]; omega), ?_⟩
      walk_at "ev"
      have hdv : SqL K H d (vis (natI (outsN n cs))) := by
        rw [← natL_vis]
        exact .inl (.inl hdr)
      refine sc_row (fun z => ((goB z.toNat c : Nat) : Int)) rfl hdv (by unfold natI; rw [List.length_map]; omega) (fun v => rfl) (fun z H' Q' hz q' => ?_) (fun D H1 S m s1 nD hD hm hS => ?_)
      · obtain ⟨v, hv, rfl⟩ := List.mem_map.mp hz
        obtain ⟨c1, c2, _⟩ := okc
        walk_at "ev"
        exact ⟨v, c.1, c.2, rfl, by omega, by omega, q'⟩
      refine ⟨D, S, m, rfl, hD, by unfold natI at hm; rw [List.length_map] at hm; omega, fun ns u rise mem nu => ?_⟩
      have en : ns = natI (outsN n (cs ++ [c])) := outs_step ok.2 okc rise fun k => by
        rw [mem, hS]
        constructor
        · rintro ⟨z, hz, e⟩
          obtain ⟨v, hv, rfl⟩ := List.mem_map.mp hz
          exact ⟨v, hv, e⟩
        · rintro ⟨v, hv, e⟩
          exact ⟨(v : Int), List.mem_map.mpr ⟨v, hv, rfl⟩, e⟩
      subst en
      have s2 := s1.trans (same_new (o := .lst ((natI (outsN n (cs ++ [c]))).map V.int)) nu)
      have hu : (upd H1 u (.lst ((natI (outsN n (cs ++ [c]))).map V.int))) u = some (.lst (natL (outsN n (cs ++ [c])))) := by
        rw [upd_same, natL_vis]
        rfl
      have nuH := s1.free nu
      have ul : u ≠ l := (ne_of_none hl nuH).symm
      have uR : u ≠ R := (ne_of_none hR nuH).symm
      generalize upd H1 u (.lst ((natI (outsN n (cs ++ [c]))).map V.int)) = H2 at s2 hu
      refine ⟨_, dx, _, s2 _ _ hp, T.cl, T.nC, _, bf_comps n l R, ?_⟩
      refine ⟨.inl ⟨rfl, _, .inl (.inl (s2 _ _ hl))⟩, small_line (by decide), fun t nt => ?_⟩
      have s3 := s2.trans (same_new (o := .tup (V2 c)) nt)
      have hu3 := (same_new (o := .tup (V2 c)) nt) _ _ hu
      have ht3 : (upd H2 t (.tup (V2 c))) t = some (.tup (V2 c)) := upd_same
      have ht0 : (upd H2 t (.tup [.int (c.1 : Int), .int (c.2 : Int)])) = upd H2 t (.tup (V2 c)) := rfl
      rw [ht0]
      generalize upd H2 t (.tup (V2 c)) = H3 at s3 hu3 ht3
      have hl3 := s3 _ _ hl
      have hR3 := s3 _ _ hR
      have hp3 := s3 _ _ hp
      have lp : l ≠ p := ne_of hl hp (by intro e; cases e)
      have Rp : R ≠ p := ne_of hR hp (by intro e; cases e)
      refine ⟨l, _, _, rfl, rfl, hl3, by rw [rfs_len]; exact small_lt (by omega), ?_⟩
      generalize hH4 : upd H3 l (.lst (Rfs ps ++ [.ref t])) = H4
      have p4 : H4 p = some (.ins (He.ga K "Bench") dx (bf n l R)) := by rw [← hH4, upd_ne lp.symm]; exact hp3
      have R4 : H4 R = some (.lst (Rfs qs)) := by rw [← hH4, upd_ne lR.symm]; exact hR3
      have l4 : H4 l = some (.lst (Rfs (ps ++ [t]))) := by
        rw [← hH4, upd_same]
        unfold Rfs
        rw [List.map_append] <;> rfl
      have k4 : ∀ b o, b ≠ l → H3 b = some o → H4 b = some o := fun b o nb e => by rw [← hH4, upd_ne nb]; exact e
      have ps4 : Prs K H4 (ps ++ [t]) (cs ++ [c]) := by
        rw [← hH4]
        exact prs_upd hl3 ((Same.prs s3 hps).snoc (.inl (.inl ht3)))
      clear hH4
      refine ⟨_, dx, _, p4, T.cl, T.nR, _, bf_rows n l R, ?_⟩
      refine ⟨.inl ⟨rfl, _, .inl (.inl R4)⟩, ?_⟩
      refine ⟨R, _, _, rfl, rfl, R4, by rw [rfs_len]; exact small_lt (by omega), ?_⟩
      generalize hH5 : upd H4 R (.lst (Rfs qs ++ [.ref u])) = H5
      have p5 : H5 p = some (.ins (He.ga K "Bench") dx (bf n l R)) := by rw [← hH5, upd_ne Rp.symm]; exact p4
      have l5 : H5 l = some (.lst (Rfs (ps ++ [t]))) := by rw [← hH5, upd_ne lR]; exact l4
      have R5 : H5 R = some (.lst (Rfs (qs ++ [u]))) := by
        rw [← hH5, upd_same]
        unfold Rfs
        rw [List.map_append] <;> rfl
      have k5 : ∀ b o, b ≠ R → H4 b = some o → H5 b = some o := fun b o nb e => by rw [← hH5, upd_ne nb]; exact e
      have ps5 : Prs K H5 (ps ++ [t]) (cs ++ [c]) := by
        rw [← hH5]
        exact prs_upd R4 ps4
      clear hH5
      have keep : KeepB l R H H5 := fun b o b1 b2 e => k5 _ _ b2 (k4 _ _ b1 (s3 _ _ e))
      obtain ⟨dl, dR, _⟩ := hq _ d hd
      have d5 := keep d _ dl dR hdr
      have u5 := k5 _ _ uR (k4 _ _ ul hu3)
      have fin := q H5 u keep nuH ⟨dx, ps ++ [t], p5, l5, ps5, R5, ⟨by rw [List.length_append, List.length_append, lq] <;> rfl, fun i x hx => ?_⟩, lR, ⟨by rw [List.length_append]; show cs.length + 1 ≤ 60; omega, fun e he => ?_⟩, n1, n10⟩
      · refine ne_rows (r := natI (outsN n (cs ++ [c]))) (s := natI (outsN n cs)) (.inl (.inl (by rw [u5, natL_vis]))) (.inl (.inl (by rw [d5, natL_vis]))) ?_
        have e : (!decide (natI (outsN n (cs ++ [c])) = natI (outsN n cs))) = (bares n).any (gtB cs c.1 c.2) := by
          rw [← outs_stir ok.2 okc]
          congr 1
          exact decide_eq_decide.mpr natI_inj
        rw [e]
        exact fin
      · by_cases hi : i < qs.length
        · rw [List.getElem?_append_left hi] at hx
          obtain ⟨x1, x2, x3⟩ := hq _ x hx
          refine ⟨x1, x2, ?_⟩
          rw [List.take_append_of_le_length (by omega)]
          exact keep x _ x1 x2 x3
        · rw [List.getElem?_append_right (by omega)] at hx
          have ei : i = qs.length := by
            have := (List.getElem?_eq_some_iff.mp hx).1
            rw [List.length_singleton] at this
            omega
          subst ei
          rw [Nat.sub_self] at hx
          have ex : x = u := (Option.some.inj hx).symm
          subst ex
          refine ⟨ul, uR, ?_⟩
          rw [lq, List.take_of_length_le (by rw [List.length_append] <;> exact Nat.le_refl _)]
          exact u5
      · rcases List.mem_append.mp he with h | h
        · exact ok.2 e h
        · rw [List.mem_singleton.mp h]
          exact okc
  · rw [if_pos (by omega)]
    exact own_web (o := none) (bad (.inr (by omega))) (.refl H) fun k z => nomatch z
theorem ne_cmp {H : Hp} {a b : Addr} {c d : Cmp} {Q : VK} (h1 : SqT K H a (V2 c)) (h2 : SqT K H b (V2 d)) (q : Q (.bl (!decide (c = d))) H) : rNeD K (.ref a) (.ref b) H Q :=
  ⟨dC c, dC d, dp_cmp h1, dp_cmp h2, enc_cmp.shaped (by decide) _, enc_cmp.shaped (by decide) _, by rw [enc_cmp.eq]; exact q⟩
theorem eq_cmp {H : Hp} {a b : Addr} {c d : Cmp} {Q : VK} (h1 : SqT K H a (V2 c)) (h2 : SqT K H b (V2 d)) (q : Q (.bl (decide (c = d))) H) : rEqD K (.ref a) (.ref b) H Q :=
  ⟨dC c, dC d, dp_cmp h1, dp_cmp h2, enc_cmp.shaped (by decide) _, enc_cmp.shaped (by decide) _, by rw [enc_cmp.eq]; exact q⟩
theorem eq_webs2 {H : Hp} {a b : Addr} {ps qs : List Addr} {cs ds : List Cmp} {Q : VK} (h1 : SqL K H a (Rfs ps)) (h2 : Prs K H ps cs) (h3 : SqL K H b (Rfs qs)) (h4 : Prs K H qs ds) (q : Q (.bl (decide (cs = ds))) H) : rEqD K (.ref a) (.ref b) H Q :=
  ⟨dCs cs, dCs ds, dp_web h1 h2, dp_web h3 h4, enc_cmps.shaped (by decide) _, enc_cmps.shaped (by decide) _, by rw [enc_cmps.eq]; exact q⟩
theorem rd_btake (T : BenchT K) (vs : List V) (H : Hp) (Q : VK) (E : XK) (h : sp_btake K vs H Q E) : r_btake K E { nx := fun _ H' => Q .non H', rt := Q } (L2.start N_btake vs) H := by
  obtain ⟨p, l, R, n, cs, qs, rfl, ⟨dx, ps, hp, hl, hps, hR, ⟨lq, hq⟩, lR, ok, n1, n10⟩, none', some'⟩ := h
  have lps := hps.length
  unfold r_btake N_btake tFld tBM0
  walk_at "ev"
  refine ⟨_, dx, _, hp, T.cl, T.nC, _, bf_comps n l R, ?_⟩
  refine ⟨small_line (by decide), fun e ne => ?_⟩
  have s1 := same_new (o := .lst ([] : List V)) ne
  have he : (upd H e (.lst ([] : List V))) e = some (.lst (Rfs [])) := upd_same
  generalize upd H e (.lst ([] : List V)) = H1 at s1 he
  refine eq_webs2 (ds := []) (.inl (.inl (s1 _ _ hl))) (Same.prs s1 hps) (.inl (.inl he)) .nil ?_
  obtain hcs : cs = [] ∨ ∃ ds c, cs = ds ++ [c] := by
    rcases List.eq_nil_or_concat cs with h | ⟨ds, c, h⟩
    · exact .inl h
    · exact .inr ⟨ds, c, by rw [h, List.concat_eq_append]⟩
  rcases hcs with rfl | ⟨ds, c, rfl⟩
  · rw [decide_eq_true rfl]
    refine ⟨true, rfl, ?_⟩
    walk_at "ev"
    exact ⟨small_line (by decide), none' rfl _ s1⟩
  · rw [decide_eq_false (by simp)]
    refine ⟨false, rfl, ?_⟩
    walk_at "ev"
    obtain ⟨u, hu⟩ := get_of (xs := qs) (i := qs.length - 1) (by omega)
    obtain ⟨g, hg⟩ := get_of (xs := ps) (i := ps.length - 1) (by rw [lps, List.length_append] <;> simp)
    refine ⟨_, dx, _, s1 _ _ hp, T.cl, T.nR, _, bf_rows n l R, ?_⟩
    refine ⟨.inl ⟨rfl, _, .inl (.inl (s1 _ _ hR))⟩, ?_⟩
    refine ⟨R, _, _, rfl, rfl, s1 _ _ hR, by rw [rfs_len]; exact rfs_at hu, ?_⟩
    have Rp : R ≠ p := ne_of hR hp (by intro e; cases e)
    have lp : l ≠ p := ne_of hl hp (by intro e; cases e)
    generalize hH2 : upd H1 R (.lst (Rfs qs).dropLast) = H2
    have p2 : H2 p = some (.ins (He.ga K "Bench") dx (bf n l R)) := by rw [← hH2, upd_ne Rp.symm]; exact s1 _ _ hp
    have l2 : H2 l = some (.lst (Rfs ps)) := by rw [← hH2, upd_ne lR]; exact s1 _ _ hl
    have R2 : H2 R = some (.lst (Rfs qs.dropLast)) := by
      rw [← hH2, upd_same]
      unfold Rfs
      rw [List.map_dropLast]
    have k2 : ∀ b o, b ≠ R → H1 b = some o → H2 b = some o := fun b o nb e => by rw [← hH2, upd_ne nb]; exact e
    have ps2 : Prs K H2 ps (ds ++ [c]) := by
      rw [← hH2]
      exact prs_upd (s1 _ _ hR) (Same.prs s1 hps)
    clear hH2
    refine ⟨_, dx, _, p2, T.cl, T.nC, _, bf_comps n l R, ?_⟩
    refine ⟨.inl ⟨rfl, _, .inl (.inl l2)⟩, ?_⟩
    refine ⟨l, _, _, rfl, rfl, l2, by rw [rfs_len]; exact rfs_at hg, ?_⟩
    generalize hH3 : upd H2 l (.lst (Rfs ps).dropLast) = H3
    have p3 : H3 p = some (.ins (He.ga K "Bench") dx (bf n l R)) := by rw [← hH3, upd_ne lp.symm]; exact p2
    have R3 : H3 R = some (.lst (Rfs qs.dropLast)) := by rw [← hH3, upd_ne lR.symm]; exact R2
    have l3 : H3 l = some (.lst (Rfs ps.dropLast)) := by
      rw [← hH3, upd_same]
      unfold Rfs
      rw [List.map_dropLast]
    have k3 : ∀ b o, b ≠ l → H2 b = some o → H3 b = some o := fun b o nb e => by rw [← hH3, upd_ne nb]; exact e
    have ps3 : Prs K H3 ps (ds ++ [c]) := by
      rw [← hH3]
      exact prs_upd l2 ps2
    clear hH3
    rw [List.length_append] at lps lq
    have lps' : ps.length = ds.length + 1 := lps
    have lq' : qs.length = ds.length + 1 + 1 := lq
    have pd : Prs K H3 ps.dropLast ds := by
      have t := All2.take ps3 ds.length
      rw [List.take_left] at t
      rw [List.dropLast_eq_take, lps']
      exact t
    have hc : SqT K H3 g (V2 c) := by
      obtain ⟨x, hx, hxc⟩ := All2.get ps3 (i := ds.length) (b := c) (by rw [List.getElem?_append_right (Nat.le_refl _), Nat.sub_self] <;> rfl)
      rw [lps', Nat.add_sub_cancel, hx] at hg
      cases hg
      exact hxc
    refine some' ds c rfl H3 g (fun b o b1 b2 e => k3 _ _ b1 (k2 _ _ b2 (s1 _ _ e))) ⟨dx, ps.dropLast, p3, l3, pd, R3, ⟨by rw [List.length_dropLast, lq'] <;> rfl, fun i x hx => ?_⟩, lR, ⟨by have := ok.1; rw [List.length_append] at this; omega, fun e he => ok.2 e (List.mem_append_left _ he)⟩, n1, n10⟩ hc
    have hi : i < ds.length + 1 := by
      have := (List.getElem?_eq_some_iff.mp hx).1
      rw [List.length_dropLast, lq'] at this
      omega
    have hx2 : qs[i]? = some x := by
      rw [List.dropLast_eq_take, List.getElem?_take] at hx
      split at hx
      · exact hx
      · cases hx
    obtain ⟨x1, x2, x3⟩ := hq _ x hx2
    rw [List.take_append_of_le_length (by omega)] at x3
    exact ⟨x1, x2, k3 _ _ x1 (k2 _ _ x2 (s1 _ _ x3))⟩
theorem rd_bmany (T : BenchT K) (vs : List V) (H : Hp) (Q : VK) (E : XK) (h : sp_bmany K vs H Q E) : r_bmany K { nx := fun _ H' => Q .non H', rt := Q } (L2.start N_bmany vs) H := by
  obtain ⟨p, l, R, n, cs, qs, rfl, ⟨dx, ps, hp, hl, hps, hR, ⟨lq, hq⟩, lR, ok, n1, n10⟩, q⟩ := h
  unfold r_bmany N_bmany tFld
  walk_at "ev"
  obtain ⟨g, hg⟩ := get_of (xs := qs) (i := cs.length) (by omega)
  obtain ⟨_, _, hgr⟩ := hq _ g hg
  rw [List.take_length] at hgr
  refine ⟨_, dx, _, hp, T.cl, T.nR, _, bf_rows n l R, ?_⟩
  refine ⟨R, _, _, _, rfl, rfl, .inl (.inl hR), atI_end (n := cs.length) (rfs_at hg) (by rw [rfs_len]; omega), ?_⟩
  refine ⟨g, _, rfl, .inl (.inl (.inl hgr)), ?_⟩
  rw [nat_len]
  exact q
end Sw

set_option Elab.async false
set_option linter.all false
set_option maxRecDepth 100000
set_option maxHeartbeats 4000000
namespace Sw
open PySem PySem.Spec PyProof.Rows L2
local macro_rules | `(tactic| walk_at "ev") => `(tactic| simp only [tSeq, tCalW, quiet, tRzA, tRzO, tTryT, tTryK, tJoin, tJs, tBM, tBits, kStrI, kIntS, kLenS, mSplit, mPart, mIndex, tAsg, tRet, tRetN, tOp, tUn, tVar, tC, tNil, tCons, tCB, tDrop, tNext, tCont, tBreak, tIfS, tIf, tTest, tChain, tChain3, tB, tTup, tLst, tAnd, tOr, tNot, tAndV, tOrV, tNotV, tPart, tNoPart, tSl, tCal, tAug, ipI, rI0, rI, rU, rEq, rNe, kMin, kMax, gName, gCons, gNil, L2.start, wipe, List.map_cons, List.map_nil, List.length_cons, List.length_nil, List.cons_append, List.nil_append, List.append_nil, Nat.reduceAdd, Nat.reduceSub, List.replicate_succ, List.replicate_zero, List.getElem?_cons_zero, List.getElem?_cons_succ, List.set_cons_succ, List.set_cons_zero, Option.some.injEq, exists_eq_left', exists_eq_left, V.int.injEq, V.bl.injEq, V.str.injEq, V.ref.injEq, List.cons.injEq, exists_and_left, and_assoc, and_true, true_and, scal_ii, scal_ss, scal_nn, scal_bb, scal_ni, scal_in, decide_eq_true_eq, Bool.not_true, Bool.not_false, Bool.not_eq_true', decide_eq_false_iff_not, ite_not, reduceCtorEq, if_true, if_false, Bool.false_eq_true, ne_eq, not_true_eq_false, not_false_eq_true, Int.reduceLT, Int.reduceLE, Int.reduceNeg])
local macro_rules | `(tactic| walk_at "cm") => `(tactic| first | exact Or.inr ⟨by decide, by decide⟩ | exact Or.inl ⟨by decide, by decide⟩ | exact Or.inl ⟨by omega, by omega⟩ | exact Or.inr ⟨by omega, by omega⟩)
variable {K : PySem.W.Frag}
/-! ### the rows that come out, each once -/
theorem put_keys (kvs : List (List L2.Key × V)) (k : List L2.Key) (v : V) : (k ∈ kvs.map (·.1) ∧ (L2.putK kvs k v).map (·.1) = kvs.map (·.1)) ∨ (k ∉ kvs.map (·.1) ∧ (L2.putK kvs k v).map (·.1) = kvs.map (·.1) ++ [k]) := by
  have ea : (kvs.any fun kv => decide (kv.1 = k)) = true ↔ k ∈ kvs.map (·.1) := by
    rw [List.any_eq_true]
    constructor
    · rintro ⟨x, hx, e⟩
      exact List.mem_map.mpr ⟨x, hx, of_decide_eq_true e⟩
    · intro h
      obtain ⟨x, hx, e⟩ := List.mem_map.mp h
      exact ⟨x, hx, decide_eq_true e⟩
  unfold L2.putK
  by_cases h : k ∈ kvs.map (·.1)
  · refine .inl ⟨h, ?_⟩
    rw [if_pos (ea.mpr h), List.map_map]
    apply List.map_congr_left
    intro x _
    show (if x.1 = k then (x.1, v) else x).1 = x.1
    split <;> rfl
  · refine .inr ⟨h, ?_⟩
    rw [if_neg fun z => h (ea.mp z), List.map_append] <;> rfl
theorem bares_len (n : Nat) : (bares n).length = 2 ^ n := by
  unfold bares
  rw [List.length_map, List.length_range]
def EndsI (n : Nat) (cs : List Cmp) (i : Nat) (kvs : List (List L2.Key × V)) : Prop := kvs.length ≤ i ∧ (kvs.map (·.1)).Nodup ∧ ∀ k, k ∈ kvs.map (·.1) ↔ ∃ r ∈ (bares n).take i, k = rowK (gone cs r)
theorem EndsI.step {n i : Nat} {cs : List Cmp} {kvs : List (List L2.Key × V)} {r : Row} {v : V} (h : EndsI n cs i kvs) (hr : (bares n)[i]? = some r) : EndsI n cs (i + 1) (L2.putK kvs (rowK (gone cs r)) v) := by
  obtain ⟨l, nd, m⟩ := h
  have et : (bares n).take (i + 1) = (bares n).take i ++ [r] := by rw [List.take_add_one, hr] <;> rfl
  have el : (L2.putK kvs (rowK (gone cs r)) v).length = ((L2.putK kvs (rowK (gone cs r)) v).map (·.1)).length := (List.length_map ..).symm
  have lk : (kvs.map (·.1)).length = kvs.length := List.length_map ..
  have ex : ∀ k, (∃ x ∈ (bares n).take i ++ [r], k = rowK (gone cs x)) ↔ (∃ x ∈ (bares n).take i, k = rowK (gone cs x)) ∨ k = rowK (gone cs r) := fun k => by
    constructor
    · rintro ⟨x, hx, e⟩
      rcases List.mem_append.mp hx with h | h
      · exact .inl ⟨x, h, e⟩
      · rw [List.mem_singleton.mp h] at e
        exact .inr e
    · rintro (⟨x, hx, e⟩ | e)
      · exact ⟨x, List.mem_append_left _ hx, e⟩
      · exact ⟨r, List.mem_append_right _ (List.mem_singleton.mpr rfl), e⟩
  rcases put_keys kvs (rowK (gone cs r)) v with ⟨h, ek⟩ | ⟨h, ek⟩
  · refine ⟨by rw [el, ek]; omega, by rw [ek]; exact nd, fun k => ?_⟩
    rw [ek, et, ex, ← m]
    constructor
    · exact .inl
    · rintro (h2 | rfl)
      · exact h2
      · exact h
  · refine ⟨by rw [el, ek, List.length_append]; show (kvs.map (·.1)).length + 1 ≤ i + 1; omega, ?_, fun k => ?_⟩
    · rw [ek, List.nodup_append]
      refine ⟨nd, List.nodup_cons.mpr ⟨List.not_mem_nil, List.nodup_nil⟩, fun a ha b hb e => ?_⟩
      rw [List.mem_singleton.mp hb] at e
      exact h (e ▸ ha)
    · rw [ek, et, ex, ← m, List.mem_append, List.mem_singleton]
theorem endsI_nil (n : Nat) (cs : List Cmp) : EndsI n cs 0 [] := by
  refine ⟨Nat.le_refl _, List.nodup_nil, fun k => ⟨fun e => absurd e List.not_mem_nil, fun h => ?_⟩⟩
  obtain ⟨r, hr, _⟩ := h
  rw [List.take_zero] at hr
  exact absurd hr List.not_mem_nil
theorem rowK_v (r : Row) : (rowK r).map L2.kV = vis r := by
  unfold rowK vis
  rw [List.map_map]
  rfl
theorem rd_lends (vs : List V) (H : Hp) (Q : VK) (E : XK) (h : sp_lends K vs H Q E) : r_lends K { nx := fun _ H' => Q .non H', rt := Q } (L2.start N_lends vs) H := by
  obtain ⟨n, a, cs, rfl, wa, q⟩ := h
  obtain ⟨-, -, -, -, n1, n10⟩ := id wa
  have pn : 2 ^ n ≤ 2 ^ 10 := Nat.pow_le_pow_right (by decide) n10
  have lb := bares_len n
  unfold r_lends N_lends tDNewT tFrz
  walk_at "ev"
  intro d nd
  have s0 := same_new (o := .dT []) nd
  have hd : (upd H d (.dT [])) d = some (.dT []) := upd_same
  generalize upd H d (.dT []) = H0 at s0 hd
  show tFor _ _ _ _ _ _
  rw [for_def]
  unfold iList
  walk_at "ev"
  refine ⟨n, rfl, n1, n10, fun H1 p qs s1 np hp own => ?_⟩
  have lq := own.length
  refine ⟨p, rfl, ⟨_, .inl (.inl hp)⟩, ?_⟩
  have pd : p ≠ d := ne_of hp (s1 _ _ hd) (by intro e; cases e)
  refine fork_list (xs := Rfs qs) (.inl (.inl hp)) (fun i σ H' => ∃ z kvs, σ = [some (.int (n : Int)), some (.ref a), some (.ref d), z] ∧ (∀ b o, b ≠ d → H1 b = some o → H' b = some o) ∧ H' d = some (.dT kvs) ∧ EndsI n cs i kvs)
    ⟨none, [], rfl, fun b o _ e => e, s1 _ _ hd, endsI_nil n cs⟩ (fun i σ H' _ hW => ?_) (fun i x σ H' hx hi hW => ?_) (fun σ H' hW => ?_)
  · obtain ⟨_, _, _, k, _⟩ := hW
    exact .inl (.inl (k _ _ pd hp))
  · obtain ⟨z, kvs, rfl, k, hkd, ei⟩ := hW
    obtain ⟨b, rfl, hb⟩ : ∃ b, x = .ref b ∧ qs[i]? = some b := by
      unfold Rfs at hx
      rw [List.getElem?_map] at hx
      cases e : qs[i]? with
      | none => rw [e] at hx; cases hx
      | some v => rw [e] at hx; exact ⟨v, (Option.some.inj hx).symm, rfl⟩
    obtain ⟨r, gr, _, hbr⟩ := own.getL hb
    have rok := bares_ok (List.mem_of_getElem? gr)
    have bd : b ≠ d := ne_of hbr (s1 _ _ hd) (by intro e; cases e)
    have sH : Same H H' := fun b o e => k b o (ne_of_none e nd) (s1 _ _ (s0 _ _ e))
    unfold r_lends_f1
    walk_at "ev"
    unfold gSub tThen
    walk_at "ev"
    refine ⟨a, b, n, cs, r, rfl, webAt_same sH wa, .inl (.inl (k _ _ bd hbr)), rok.1, fun H2 p2 s2 np2 hp2 => ?_⟩
    refine .inl ⟨p2, _, rfl, .inl (.inl hp2), fun t nt => ?_⟩
    have s3 := s2.trans (same_new (o := .tup (vis (gone cs r))) nt)
    have ht : (upd H2 t (.tup (vis (gone cs r)))) t = some (.tup ((rowK (gone cs r)).map L2.kV)) := by rw [upd_same, rowK_v]
    generalize upd H2 t (.tup (vis (gone cs r))) = H3 at s3 ht
    refine ⟨d, _, rfl, .inr ⟨kvs, _, t, s3 _ _ hkd, rfl, ht, ?_, rfl⟩, ?_⟩
    · have := ei.1
      rw [rfs_len] at hi
      exact small_lt (by omega)
    · refine ⟨fun b o nb e => ?_, _, upd_same, ei.step gr⟩
      rw [upd_ne nb]
      exact s3 _ _ (k _ _ nb e)
  · obtain ⟨z, kvs, rfl, k, hkd, ei⟩ := hW
    walk_at "ev"
    refine ⟨_, hkd, trivial, fun od => ?_⟩
    have sH : Same H H' := fun b o e => k b o (ne_of_none e nd) (s1 _ _ (s0 _ _ e))
    refine q _ d od kvs (same_mut sH nd) nd upd_same ⟨ei.2.1, fun k => ?_⟩
    rw [ei.2.2 k, rfs_len, lq, List.take_length]
end Sw

set_option Elab.async false
set_option linter.all false
set_option maxRecDepth 100000
set_option maxHeartbeats 4000000
namespace Sw
open PySem PySem.Spec PyProof.Rows L2
local macro_rules | `(tactic| walk_at "ev") => `(tactic| simp only [tSeq, tCalW, quiet, tRzA, tRzO, tTryT, tTryK, tJoin, tJs, tBM, tBits, kStrI, kIntS, kLenS, mSplit, mPart, mIndex, tAsg, tRet, tRetN, tOp, tUn, tVar, tC, tNil, tCons, tCB, tDrop, tNext, tCont, tBreak, tIfS, tIf, tTest, tChain, tChain3, tB, tTup, tLst, tAnd, tOr, tNot, tAndV, tOrV, tNotV, tPart, tNoPart, tSl, tCal, tAug, ipI, rI0, rI, rU, rEq, rNe, kMin, kMax, gName, gCons, gNil, L2.start, wipe, List.map_cons, List.map_nil, List.length_cons, List.length_nil, List.cons_append, List.nil_append, List.append_nil, Nat.reduceAdd, Nat.reduceSub, List.replicate_succ, List.replicate_zero, List.getElem?_cons_zero, List.getElem?_cons_succ, List.set_cons_succ, List.set_cons_zero, Option.some.injEq, exists_eq_left', exists_eq_left, V.int.injEq, V.bl.injEq, V.str.injEq, V.ref.injEq, List.cons.injEq, exists_and_left, and_assoc, and_true, true_and, scal_ii, scal_ss, scal_nn, scal_bb, scal_ni, scal_in, decide_eq_true_eq, Bool.not_true, Bool.not_false, Bool.not_eq_true', decide_eq_false_iff_not, ite_not, reduceCtorEq, if_true, if_false, Bool.false_eq_true, ne_eq, not_true_eq_false, not_false_eq_true, Int.reduceLT, Int.reduceLE, Int.reduceNeg])
local macro_rules | `(tactic| walk_at "cm") => `(tactic| first | exact Or.inr ⟨by decide, by decide⟩ | exact Or.inl ⟨by decide, by decide⟩ | exact Or.inl ⟨by omega, by omega⟩ | exact Or.inr ⟨by omega, by omega⟩)
variable {K : PySem.W.Frag}
/-! ### the model -/
theorem md_lines (n : Nat) (w : Addr) : L2.valV (mdK n w) (.inr "lines") = some (.int (n : Int)) := L2.valV_pos rfl
theorem md_web (n : Nat) (w : Addr) : L2.valV (mdK n w) (.inr "web") = some (.ref w) := (L2.valV_neg fun z => absurd (Sum.inr.inj z) (by decide +kernel)).trans (L2.valV_pos rfl)
theorem get_lines {H : Hp} {md w : Addr} {n : Nat} (h : H md = some (.dK (mdK n w))) : L2.DGet H md (.str "lines") (some (.int (n : Int))) := .inl ⟨_, .inr "lines", .inl h, rfl, (md_lines n w).symm⟩
theorem get_web {H : Hp} {md w : Addr} {n : Nat} (h : H md = some (.dK (mdK n w))) : L2.DGet H md (.str "web") (some (.ref w)) := .inl ⟨_, .inr "web", .inl h, rfl, (md_web n w).symm⟩
/-! ### what stays: lists of references change -/
def RfL (H : Hp) (x : Addr) : Prop := ∃ ts, H x = some (.lst (Rfs ts))
theorem keepM_of {M : List Addr} {H H' : Hp} {b : Addr} {o : HO} (hM : ∀ x ∈ M, RfL H x) (k : KeepM M H H') (h : H b = some o) (nl : ∀ ts, o ≠ .lst (Rfs ts)) : H' b = some o := by
  refine k b o (fun hb => ?_) h
  obtain ⟨ts, e⟩ := hM b hb
  rw [h] at e
  exact nl ts (Option.some.inj e)
theorem sqt_keepM {M : List Addr} {H H' : Hp} {g : Addr} {xs : List V} (hM : ∀ x ∈ M, RfL H x) (k : KeepM M H H') (h : SqT K H g xs) : SqT K H' g xs := by
  rcases h with (h | ⟨u, h⟩) | h
  · exact .inl (.inl (keepM_of hM k h (fun ts e => nomatch e)))
  · exact .inl (.inr ⟨u, keepM_of hM k h (fun ts e => nomatch e)⟩)
  · exact .inr h
theorem prs_keepM {M : List Addr} {H H' : Hp} {ps : List Addr} {cs : List Cmp} (hM : ∀ x ∈ M, RfL H x) (k : KeepM M H H') (h : Prs K H ps cs) : Prs K H' ps cs := h.imp fun _ _ r => sqt_keepM hM k r
theorem outs_ne {n : Nat} {cs : List Cmp} (ok : CmpsOk n cs) : outsN n cs ≠ [] := fun e => by
  have : goneB cs 0 ∈ outsN n cs := (mem_outs ok).mpr ⟨0, Nat.pos_of_ne_zero (by simp), rfl⟩
  rw [e] at this
  exact absurd this List.not_mem_nil
theorem natL_rfs {l : List Nat} {ts : List Addr} (h : l ≠ []) : natL l ≠ Rfs ts := fun e => by
  cases l with
  | nil => exact h rfl
  | cons a l =>
    cases ts with
    | nil => cases e
    | cons t ts => cases e
theorem bench_keepM {M : List Addr} {H H' : Hp} {p l R : Addr} {n : Nat} {cs : List Cmp} {qs : List Addr} (hM : ∀ x ∈ M, RfL H x) (k : KeepM M H H') (nl : l ∉ M) (nR : R ∉ M) (h : BenchAt K H p n cs l R qs) : BenchAt K H' p n cs l R qs := by
  obtain ⟨dx, ps, hp, hl, hps, hR, ⟨lq, ho⟩, lR, ok, r⟩ := h
  refine ⟨dx, ps, keepM_of hM k hp (fun ts e => nomatch e), k _ _ nl hl, prs_keepM hM k hps, k _ _ nR hR, ⟨lq, fun i q hq => ?_⟩, lR, ok, r⟩
  obtain ⟨h1, h2, h3⟩ := ho i q hq
  refine ⟨h1, h2, keepM_of hM k h3 fun ts e => ?_⟩
  have okt : CmpsOk n (cs.take i) := fun c hc => ok.2 c (List.mem_of_mem_take hc)
  injection e with e
  exact natL_rfs (outs_ne okt) e
theorem model_keepM {M : List Addr} {H H' : Hp} {md w : Addr} {n : Nat} {ws : List Addr} {cs : List Cmp} (hM : ∀ x ∈ M, RfL H x) (k : KeepM M H H') (nw : w ∉ M) (h : ModelAt K H md w n ws cs) : ModelAt K H' md w n ws cs := by
  obtain ⟨hm, hw, hws⟩ := h
  exact ⟨keepM_of hM k hm (fun ts e => nomatch e), k _ _ nw hw, prs_keepM hM k hws⟩
theorem pair_keepM {M M' : List Addr} {H H' : Hp} {t : Addr} (hM : ∀ x ∈ M', RfL H x) (sub : ∀ x ∈ M', x ∈ M) (k : KeepM M' H H') (h : HPair K H M t) : HPair K H' M t := by
  obtain ⟨f, g, fs, gs, ds, ht, hf, hg, pf, pg, nf, ng⟩ := h
  exact ⟨f, g, fs, gs, ds, keepM_of hM k ht (fun ts e => nomatch e), k _ _ (fun z => nf (sub _ z)) hf, k _ _ (fun z => ng (sub _ z)) hg, prs_keepM hM k pf, prs_keepM hM k pg, nf, ng⟩
theorem held_keepM {M M' : List Addr} {H H' : Hp} {hd : Addr} {j : Nat} (hM : ∀ x ∈ M', RfL H x) (sub : ∀ x ∈ M', x ∈ M) (k : KeepM M' H H') (nh : hd ∉ M') (h : HeldAt K H hd M j) : HeldAt K H' hd M j := by
  obtain ⟨ts, ht, lt, all⟩ := h
  exact ⟨ts, k _ _ nh ht, lt, fun t ht => pair_keepM hM sub k (all t ht)⟩
theorem model_same {H H' : Hp} {md w : Addr} {n : Nat} {ws : List Addr} {cs : List Cmp} (s : Same H H') (h : ModelAt K H md w n ws cs) : ModelAt K H' md w n ws cs :=
  ⟨s _ _ h.1, s _ _ h.2.1, Same.prs s h.2.2⟩
theorem same_keepM {M : List Addr} {H H' : Hp} (s : Same H H') : KeepM M H H' := fun b o _ e => s b o e
theorem KeepM.trans {M : List Addr} {H H1 H2 : Hp} (k : KeepM M H H1) (k2 : KeepM M H1 H2) : KeepM M H H2 := fun b o nb e => k2 b o nb (k b o nb e)
theorem KeepM.sub {M N : List Addr} {H H' : Hp} (h : ∀ x ∈ M, x ∈ N) (k : KeepM M H H') : KeepM N H H' := fun b o nb e => k b o (fun z => nb (h b z)) e
/-! ### the rows that come out, counted -/
theorem bareR_inj : ∀ {n v w : Nat}, v < 2 ^ n → w < 2 ^ n → bareR n v = bareR n w → v = w
  | 0, v, w, hv, hw, _ => by
    rw [Nat.pow_zero] at hv hw
    omega
  | n + 1, v, w, hv, hw, e => by
    rw [bareR_succ, bareR_succ] at e
    injection e with e1 e2
    rw [Nat.pow_succ] at hv hw
    have := bareR_inj (n := n) (v := v / 2) (w := w / 2) (by omega) (by omega) e2
    omega
theorem len_sub {α : Type} : ∀ {l m : List α}, l.Nodup → (∀ x ∈ l, x ∈ m) → l.length ≤ m.length
  | [], _, _, _ => Nat.zero_le _
  | a :: l, m, nd, sub => by
    obtain ⟨s, t, rfl⟩ := List.append_of_mem (sub a List.mem_cons_self)
    have h := len_sub (l := l) (m := s ++ t) (List.nodup_cons.mp nd).2 fun x hx => by
      have ne : x ≠ a := fun e => (List.nodup_cons.mp nd).1 (e ▸ hx)
      rcases List.mem_append.mp (sub x (List.mem_cons_of_mem _ hx)) with h | h
      · exact List.mem_append_left _ h
      · rcases List.mem_cons.mp h with h | h
        · exact absurd h ne
        · exact List.mem_append_right _ h
    rw [List.length_append] at h
    rw [List.length_cons, List.length_append, List.length_cons]
    omega
theorem rowK_inj {r s : Row} (h : rowK r = rowK s) : r = s := by
  have e := congrArg (fun k => k.map L2.kV) h
  simp only [rowK_v] at e
  unfold vis at e
  exact (List.map_inj_right (fun a b z => by injection z)).mp e
theorem ends_len {n : Nat} {cs : List Cmp} {kvs : List (List L2.Key × V)} (ok : CmpsOk n cs) (h : EndsK n cs kvs) : kvs.length = (outsN n cs).length := by
  have lt : ∀ {k : Nat}, k ∈ outsN n cs → k < 2 ^ n := fun hk => by
    obtain ⟨w, hw, rfl⟩ := (mem_outs ok).mp hk
    exact goneB_lt ok hw
  have nd : ((outsN n cs).map fun v => rowK (bareR n v)).Nodup := by
    unfold List.Nodup
    rw [List.pairwise_map]
    refine List.Pairwise.imp_of_mem ?_ (outs_rise n cs)
    intro a b ha hb hab e
    have := bareR_inj (lt ha) (lt hb) (rowK_inj e)
    omega
  have mem : ∀ k, k ∈ ((outsN n cs).map fun v => rowK (bareR n v)) ↔ k ∈ kvs.map (·.1) := fun k => by
    rw [h.2 k, List.mem_map]
    constructor
    · rintro ⟨v, hv, rfl⟩
      obtain ⟨w, hw, rfl⟩ := (mem_outs ok).mp hv
      exact ⟨bareR n w, List.mem_map.mpr ⟨w, List.mem_range.mpr hw, rfl⟩, by rw [gone_bare ok]⟩
    · rintro ⟨r, hr, rfl⟩
      obtain ⟨w, hw, rfl⟩ := List.mem_map.mp hr
      exact ⟨goneB cs w, (mem_outs ok).mpr ⟨w, List.mem_range.mp hw, rfl⟩, by rw [gone_bare ok]⟩
  have l1 := len_sub h.1 fun x hx => (mem x).mpr hx
  have l2 := len_sub nd fun x hx => (mem x).mp hx
  rw [List.length_map] at l1 l2
  rw [List.length_map] at l1 l2
  omega
/-- the rows behind the keys -/
def unK (k : List L2.Key) : Row := k.map fun x => match x with
  | .inl i => i
  | .inr _ => 0
theorem unK_row (r : Row) : unK (rowK r) = r := by
  unfold unK rowK
  rw [List.map_map]
  exact (List.map_congr_left fun _ _ => rfl).trans (List.map_id r)
def rowsOf (kvs : List (List L2.Key × V)) : List Row := kvs.map fun kv => unK kv.1
theorem mem_rows {n : Nat} {cs : List Cmp} {kvs : List (List L2.Key × V)} (h : EndsK n cs kvs) {r : Row} : r ∈ rowsOf kvs ↔ ∃ x ∈ bares n, r = gone cs x := by
  unfold rowsOf
  rw [List.mem_map]
  constructor
  · rintro ⟨kv, hkv, rfl⟩
    obtain ⟨x, hx, e⟩ := (h.2 kv.1).mp (List.mem_map.mpr ⟨kv, hkv, rfl⟩)
    exact ⟨x, hx, by rw [e, unK_row]⟩
  · rintro ⟨x, hx, rfl⟩
    obtain ⟨kv, hkv, e⟩ := List.mem_map.mp ((h.2 (rowK (gone cs x))).mpr ⟨x, hx, rfl⟩)
    exact ⟨kv, hkv, by rw [e, unK_row]⟩
theorem key_row {n : Nat} {cs : List Cmp} {kvs : List (List L2.Key × V)} (h : EndsK n cs kvs) {k : List L2.Key} {v : V} (hk : (k, v) ∈ kvs) : k.map L2.kV = vis (unK k) := by
  obtain ⟨x, hx, e⟩ := (h.2 k).mp (List.mem_map.mpr ⟨_, hk, rfl⟩)
  rw [e, unK_row, rowK_v]
def dT (r : Row) : PyData := .tuple (r.map PyData.int)
theorem enc_rowT : Enc dT 1 where
  eq := fun a b => enc_all enc_int a b
  lay := fun a => lay_all enc_int.lay a
  dep := fun a => by
    show PyData.depthAll (a.map PyData.int) + 1 ≤ 1
    have := dep_all enc_int.dep a
    omega
theorem dp_rowT {a : Addr} {r : Row} (h : SqT K H a (vis r)) : Dp K H (.ref a) (dT r) := .tup h (dp_ints r)
/-- at each address a tuple: the row -/
abbrev Tus (H : Hp) (qs : List Addr) (rs : List Row) : Prop := All2 (fun q r => H q = some (.tup (vis r))) qs rs
theorem dp_tus {qs : List Addr} {rs : List Row} (h : Tus H qs rs) : DpAll K H (Rfs qs) (rs.map dT) := by
  induction h with
  | nil => exact .nil
  | cons r _ ih => exact .cons (dp_rowT (.inl (.inl r))) ih
theorem any_row {rs : List Row} {r : Row} (h : r ∈ rs) : ((rs.map dT).any fun z => PyData.eqv z (dT r)) = true := by
  rw [List.any_eq_true]
  exact ⟨dT r, List.mem_map.mpr ⟨r, h, rfl⟩, by rw [enc_rowT.eq, decide_eq_true rfl]⟩
section
variable {σ : L2.St} {H : Hp} {te : TE} {j1 : Nat} {Q : VK} {d : Addr} {o : Obj} {kvs : List (List L2.Key × V)}
/-- [.. for j1 in d if ..], d a locked dict by tuples -/
theorem lck_keys {tt : TT} {vs : List Nat} (hx : H d = some (.frz o (.dT kvs))) (hvs : ∀ v, wipe ((wipe σ vs).set j1 v) vs = wipe σ vs)
    (G : Addr → Nat → List V → Hp → Prop) (h0 : ∀ D, H D = none → G D 0 [] (upd H D (.lst []))) (hl : ∀ D i acc H', H D = none → G D i acc H' → H' d = some (.frz o (.dT kvs)))
    (turn : ∀ D i k v q acc H', H D = none → kvs[i]? = some (k, v) → i < kvs.length → H' q = some (.tup (k.map L2.kV)) → H' D = some (.lst acc) → G D i acc H' → Turn tt te D (G D) i ((wipe σ vs).set j1 (some (.ref q))) H')
    (done : ∀ D acc H', H D = none → H' D = some (.lst acc) → G D kvs.length acc H' → Q (.ref D) H') : LcK (gName j1) tt te vs σ Q (L2.Itkt d o kvs) H := by
  refine fun D nD => it_lc (n := kvs.length) (So D (G D)) ⟨[], upd_same, h0 D nD⟩ (fun i H' hi p => ?_) (fun H' p => ?_) (fun i H' hi p v H2 y => ?_) (fun H' p => ?_)
  · obtain ⟨acc, _, g⟩ := p
    exact ⟨hl D _ _ _ nD g, hi⟩
  · obtain ⟨acc, _, g⟩ := p
    exact ⟨hl D _ _ _ nD g, Nat.le_refl _⟩
  · obtain ⟨acc, hD, g⟩ := p
    obtain ⟨rfl, k, u, q, gk, rfl, hq⟩ := y
    exact ⟨hvs _, turn D i k u q acc H2 nD gk hi hq hD g⟩
  · obtain ⟨acc, hD, g⟩ := p
    exact done D acc H' nD hD g
end
/-- what is wild comes out of some row, and the web doesn't sort -/
theorem wild_some {n : Nat} {cs : List Cmp} (ok : CmpsOk n cs) {v : Nat} (h : wildB n cs = some v) : ¬ Srt (bareR n v) ∧ ∃ r ∈ bares n, gone cs r = bareR n v := by
  unfold wildB at h
  have h1 := List.find?_some h
  have h2 := List.mem_of_find?_eq_some h
  obtain ⟨w, hw, e⟩ := (mem_outs ok).mp h2
  refine ⟨?_, bareR n w, List.mem_map.mpr ⟨w, List.mem_range.mpr hw, rfl⟩, by rw [gone_bare ok, e]⟩
  intro z
  rw [decide_eq_true z] at h1
  cases h1
theorem wild_none {n : Nat} {cs : List Cmp} (ok : CmpsOk n cs) (h : wildB n cs = none) : ∀ r ∈ bares n, Srt (gone cs r) := fun r hr => by
  obtain ⟨w, hw, rfl⟩ := List.mem_map.mp hr
  unfold wildB at h
  rw [List.find?_eq_none] at h
  have := h (goneB cs w) ((mem_outs ok).mpr ⟨w, List.mem_range.mp hw, rfl⟩)
  rw [gone_bare ok]
  by_cases z : Srt (bareR n (goneB cs w))
  · exact z
  · rw [decide_eq_false z] at this
    exact absurd rfl this
theorem wild_rows_none {n : Nat} {cs : List Cmp} {kvs : List (List L2.Key × V)} (ok : CmpsOk n cs) (he : EndsK n cs kvs) (h : wildB n cs = none) : ((rowsOf kvs).filter fun r => !decide (Srt r)) = [] := by
  rw [List.filter_eq_nil_iff]
  intro r hr
  obtain ⟨x, hx, rfl⟩ := (mem_rows he).mp hr
  rw [decide_eq_true (wild_none ok h x hx)]
  decide
theorem wild_rows_some {n v : Nat} {cs : List Cmp} {kvs : List (List L2.Key × V)} (ok : CmpsOk n cs) (he : EndsK n cs kvs) (h : wildB n cs = some v) : bareR n v ∈ ((rowsOf kvs).filter fun r => !decide (Srt r)) := by
  obtain ⟨ns, r, hr, e⟩ := wild_some ok h
  rw [List.mem_filter]
  exact ⟨(mem_rows he).mpr ⟨r, hr, e.symm⟩, by rw [decide_eq_false ns] <;> rfl⟩
theorem eq_tus {H : Hp} {a b : Addr} {es : List Addr} {rs : List Row} {Q : VK} (h1 : SqL K H a (Rfs es)) (h2 : Tus H es rs) (h3 : SqL K H b (Rfs [])) (q : Q (.bl (decide (rs = []))) H) : rEqD K (.ref a) (.ref b) H Q :=
  ⟨dL dT rs, dL dT [], .lst h1 (dp_tus h2), .lst h3 .nil, enc_rowT.list.shaped (by decide) _, enc_rowT.list.shaped (by decide) _, by rw [enc_rowT.list.eq]; exact q⟩
theorem notin_tus {H : Hp} {t a : Addr} {es : List Addr} {rs : List Row} {r : Row} {Q : VK} (ht : SqT K H t (vis r)) (h1 : SqL K H a (Rfs es)) (h2 : Tus H es rs) (hr : r ∈ rs) (q : Q (.bl false) H) : rNotInD K (.ref t) (.ref a) H Q :=
  ⟨dT r, rs.map dT, dp_rowT ht, .lst h1 (dp_tus h2), enc_rowT.shaped (by decide) _, enc_rowT.list.shaped (by decide) rs, by rw [any_row hr]; exact q⟩
theorem keep_same {H H1 H2 : Hp} {l R : Addr} (s : Same H H1) (nl : H l = none) (nR : H R = none) (k : KeepB l R H1 H2) : Same H H2 := fun b o e =>
  k b o (fun z => by rw [z, nl] at e; cases e) (fun z => by rw [z, nR] at e; cases e) (s b o e)
theorem sqt_keepB {H H' : Hp} {l R g : Addr} {xs ys : List V} {zs : List V} (hl : H l = some (.lst ys)) (hR : H R = some (.lst zs)) (k : KeepB l R H H') (h : SqT K H g xs) : SqT K H' g xs := by
  rcases h with (h | ⟨u, h⟩) | h
  · exact .inl (.inl (k _ _ (ne_of h hl (by intro z; cases z)) (ne_of h hR (by intro z; cases z)) h))
  · exact .inl (.inr ⟨u, k _ _ (ne_of h hl (by intro z; cases z)) (ne_of h hR (by intro z; cases z)) h⟩)
  · exact .inr h
theorem prs_keepB {H H' : Hp} {l R : Addr} {ys zs : List V} {ps : List Addr} {cs : List Cmp} (hl : H l = some (.lst ys)) (hR : H R = some (.lst zs)) (k : KeepB l R H H') (h : Prs K H ps cs) : Prs K H' ps cs :=
  h.imp fun _ _ r => sqt_keepB hl hR k r
end Sw

set_option Elab.async false
set_option linter.all false
set_option maxRecDepth 100000
set_option maxHeartbeats 4000000
namespace Sw
open PySem PySem.Spec PyProof.Rows L2
local macro_rules | `(tactic| walk_at "ev") => `(tactic| simp only [tSeq, tCalW, quiet, tRzA, tRzO, tTryT, tTryK, tJoin, tJs, tBM, tBits, kStrI, kIntS, kLenS, mSplit, mPart, mIndex, tAsg, tRet, tRetN, tOp, tUn, tVar, tC, tNil, tCons, tCB, tDrop, tNext, tCont, tBreak, tIfS, tIf, tTest, tChain, tChain3, tB, tTup, tLst, tAnd, tOr, tNot, tAndV, tOrV, tNotV, tPart, tNoPart, tSl, tCal, tAug, ipI, rI0, rI, rU, rEq, rNe, kMin, kMax, gName, gCons, gNil, L2.start, wipe, List.map_cons, List.map_nil, List.length_cons, List.length_nil, List.cons_append, List.nil_append, List.append_nil, Nat.reduceAdd, Nat.reduceSub, List.replicate_succ, List.replicate_zero, List.getElem?_cons_zero, List.getElem?_cons_succ, List.set_cons_succ, List.set_cons_zero, Option.some.injEq, exists_eq_left', exists_eq_left, V.int.injEq, V.bl.injEq, V.str.injEq, V.ref.injEq, List.cons.injEq, exists_and_left, and_assoc, and_true, true_and, scal_ii, scal_ss, scal_nn, scal_bb, scal_ni, scal_in, decide_eq_true_eq, Bool.not_true, Bool.not_false, Bool.not_eq_true', decide_eq_false_iff_not, ite_not, reduceCtorEq, if_true, if_false, Bool.false_eq_true, ne_eq, not_true_eq_false, not_false_eq_true, Int.reduceLT, Int.reduceLE, Int.reduceNeg])
local macro_rules | `(tactic| walk_at "cm") => `(tactic| first | exact Or.inr ⟨by decide, by decide⟩ | exact Or.inl ⟨by decide, by decide⟩ | exact Or.inl ⟨by omega, by omega⟩ | exact Or.inr ⟨by omega, by omega⟩)
variable {K : PySem.W.Frag}
/-! ### the law -/
def law11_u (K : PySem.W.Frag) : TS := (tSeq (tIfS (tNot (tB (tCal (sp_ldeed K) (tCons (tOp (rIxL K) (tVar 3) (tVar 8)) (tCons (tOp (rIxL K) (tVar 2) (tVar 8)) (tCons (tVar 6) (tCons (tVar 5) (tNil)))))))) (tRet (tC (.bl false))) (tNext)) (tSeq (tIfS (tNot (tB (tCal (sp_lasked K) (tCons (tOp (rIxL K) (tVar 3) (tVar 8)) (tCons (tOp (rIxL K) (tVar 2) (tVar 8)) (tCons (tOp oDiv (tVar 7) (tC (.int 30))) (tCons (tVar 4) (tNil)))))))) (tRet (tC (.bl false))) (tNext)) (tIfS (tTest (tOp (rNeD K) (tMet K "Bench" "comparers" (sp_bcomps K) (tOp (rIxL K) (tVar 3) (tOp oSub (tC (.int 1)) (tVar 8))) (tNil)) (tDGet (tOp (rIxL K) (tVar 2) (tOp oSub (tC (.int 1)) (tVar 8))) (tC (.str "web"))))) (tRet (tC (.bl false))) (tNext))))
def law11_t (K : PySem.W.Frag) : TS := tSeq (tIfS (tAnd (tTest (tOp rEq (tOp oMod (tOp oDiv (tVar 7) (tC (.int 4))) (tC (.int 7))) (tC (.int 1)))) (tNot (tB (tCal (sp_lrefused K) (tCons (tOp (rIxL K) (tVar 3) (tVar 8)) (tCons (tOp (rIxL K) (tVar 2) (tVar 8)) (tCons (tOp oDiv (tVar 7) (tC (.int 28))) (tNil)))))))) (tRet (tC (.bl false))) (tNext)) (law11_u K)
theorem law11_f1 (K : PySem.W.Frag) : r_law_f1 K = tSeq (tAsg (tCal (sp_ldraw K) (tCons (tVar 6) (tCons (tVar 5) (tCons (tC (.int 102)) (tNil))))) (gName 7)) (tSeq (tAsg (tCB kInt1 (tCons (tOp rEq (tOp oMod (tVar 7) (tC (.int 4))) (tC (.int 1))) (tNil))) (gName 8)) (law11_t K)) := rfl
def law11_e (K : PySem.W.Frag) : TS := (tRet (tOp (rEqD K) (tLc (iList K (tVar 4)) (gName 10) (tTest (tOp (rNeD K) (tOp (rIxT K) (tVar 10) (tC (.int 0))) (tOp (rIxT K) (tVar 10) (tC (.int 1))))) (tVar 10) [10]) (tLst (tNil))))
def law11_d (K : PySem.W.Frag) : TS := tSeq (tFor (iEnum K (tCons (tSl (rSlL K) (tVar 0) (tNoPart) (tPart (tC (.int 63)))) (tNil))) (gTup K 2 (gCons (gName 5) (gCons (gName 6) (gNil)))) (r_law_f1 K)) (law11_e K)
def law11_c (K : PySem.W.Frag) : TS := tSeq (tAsg (tLc (iList K (tVar 2)) (gName 9) (tYes) (tMk K "Bench" (sp_binit K) (tCons (tDGet (tVar 9) (tC (.str "lines"))) (tNil))) [9]) (gName 3)) (tSeq (tAsg (tLst (tNil)) (gName 4)) (law11_d K))
def law11_b (K : PySem.W.Frag) : TS := tSeq (tAsg (tLst (tCons (tDisp [(tC (.str "lines"), tOp oAdd (tC (.int 2)) (tOp oMod (tVar 1) (tC (.int 4)))), (tC (.str "web"), tLst (tNil))]) (tCons (tDisp [(tC (.str "lines"), tOp oAdd (tC (.int 1)) (tOp oMod (tOp oDiv (tVar 1) (tC (.int 4))) (tC (.int 6)))), (tC (.str "web"), tLst (tNil))]) (tNil)))) (gName 2)) (law11_c K)
theorem law11_eq (K : PySem.W.Frag) : r_law K = tSeq (tAsg (tCal (sp_ldraw K) (tCons (tCB (rSum K) (tCons (tSl (rSlL K) (tVar 0) (tNoPart) (tPart (tC (.int 5)))) (tNil))) (tCons (tC (.int 4)) (tCons (tC (.int 101)) (tNil))))) (gName 1)) (tSeq (tIfS (tAnd (tTest (tOp rEq (tOp oMod (tOp oDiv (tVar 1) (tC (.int 100))) (tC (.int 8))) (tC (.int 1)))) (tNot (tB (tCal (sp_lfull K) (tCons (tOp oAdd (tC (.int 2)) (tOp oMod (tVar 1) (tC (.int 2)))) (tCons (tVar 1) (tNil))))))) (tRet (tC (.bl false))) (tNext)) (law11_b K)) := rfl
theorem nodup_ne {α : Type} : ∀ {L : List α} {i j : Nat} {x y : α}, L.Nodup → i ≠ j → L[i]? = some x → L[j]? = some y → x ≠ y := fun {L i j x y} nd ij hi hj e => by
  subst e
  have h1 := (List.getElem?_eq_some_iff.mp hi).1
  have h2 := (List.getElem?_eq_some_iff.mp hj).1
  have e1 := (List.getElem?_eq_some_iff.mp hi).2
  have e2 := (List.getElem?_eq_some_iff.mp hj).2
  exact ij ((List.getElem_inj nd).mp (e1.trans e2.symm))
/-- two benches, their models, what is held -/
structure Duo (K : PySem.W.Frag) (H : Hp) (hd : Addr) (M : List Addr) (j : Nat) (p md w l R : Addr) (n : Nat) (p' md' w' l' R' : Addr) (n' : Nat) : Prop where
  b : ∃ cs qs ws, BenchAt K H p n cs l R qs ∧ ModelAt K H md w n ws cs
  b' : ∃ cs qs ws, BenchAt K H p' n' cs l' R' qs ∧ ModelAt K H md' w' n' ws cs
  h : HeldAt K H hd M j
  m : ∀ x ∈ M, H x ≠ none
theorem none_keepM {N : List Addr} {H H' : Hp} {x : Addr} (k : KeepM N H H') (hN : ∀ y ∈ N, H' y ≠ none) (h : H x ≠ none) : H' x ≠ none := fun e => by
  by_cases z : x ∈ N
  · exact hN x z e
  · cases e1 : H x with
    | none => exact h e1
    | some o =>
      rw [k x o z e1] at e
      cases e
theorem law11_u_ok {H : Hp} {a MS BS S hd : Addr} {M : List Addr} {j : Nat} {p md w l R p' md' w' l' R' : Addr} {n n' : Nat} {at' nn k c more : Int} {D : Ends} {z9 z10 : Option V} {bs ms : List Addr}
    (d : Duo K H hd M j p md w l R n p' md' w' l' R' n') (few : j ≤ 1000) (k0 : 0 ≤ k) (k1 : k ≤ 1000) (m0 : 0 ≤ more)
    (nd : [w, l, R, w', l', R', hd, MS, BS, S].Nodup) (sub : ∀ x ∈ [w, l, R, w', l', R', hd], x ∈ M)
    (hMS : H MS = some (.lst (Rfs ms))) (hBS : H BS = some (.lst (Rfs bs)))
    (g1 : atI (Rfs bs) at' = some (.ref p)) (g2 : atI (Rfs ms) at' = some (.ref md)) (g3 : atI (Rfs bs) (1 - at') = some (.ref p')) (g4 : atI (Rfs ms) (1 - at') = some (.ref md'))
    (done : ∀ H', KeepM [l, R, w, hd] H H' → Duo K H' hd M (j + 3) p md w l R n p' md' w' l' R' n' →
      D.nx [some (.ref a), some (.int nn), some (.ref MS), some (.ref BS), some (.ref hd), some (.int k), some (.int c), some (.int more), some (.int at'), z9, z10] H') :
    law11_u K D [some (.ref a), some (.int nn), some (.ref MS), some (.ref BS), some (.ref hd), some (.int k), some (.int c), some (.int more), some (.int at'), z9, z10] H := by
  obtain ⟨⟨cs, qs, ws, hb, hm⟩, hb', hh, hM⟩ := d
  obtain ⟨cs', qs', ws', hb', hm'⟩ := hb'
  have N : ∀ {i j : Nat} {x y : Addr}, i ≠ j → [w, l, R, w', l', R', hd, MS, BS, S][i]? = some x → [w, l, R, w', l', R', hd, MS, BS, S][j]? = some y → x ≠ y := fun ij h1 h2 => nodup_ne nd ij h1 h2
  have off : ∀ {i : Nat} {x : Addr}, i ≠ 0 → i ≠ 1 → i ≠ 2 → [w, l, R, w', l', R', hd, MS, BS, S][i]? = some x → x ∉ [l, R, w] := fun h0 h1 h2 hx => by
    have e0 := N h0 hx rfl
    have e1 := N h1 hx rfl
    have e2 := N h2 hx rfl
    simp [e0, e1, e2]
  have offh : ∀ {i : Nat} {x : Addr}, i ≠ 6 → [w, l, R, w', l', R', hd, MS, BS, S][i]? = some x → x ∉ [hd] := fun h0 hx => by
    have e0 := N h0 hx rfl
    simp [e0]
  unfold law11_u tMet tDGet
  walk_at "ev"
  refine ⟨BS, _, _, _, rfl, rfl, .inl (.inl hBS), g1, MS, _, _, _, rfl, rfl, .inl (.inl hMS), g2, ?_⟩
  have hL : ∀ x ∈ [l, R, w], RfL H x := fun x hx => by
    obtain ⟨_, ps, _, hl, _, hR, _⟩ := id hb
    simp only [List.mem_cons, List.not_mem_nil, or_false] at hx
    rcases hx with rfl | rfl | rfl
    · exact ⟨_, hl⟩
    · exact ⟨_, hR⟩
    · exact ⟨_, hm.2.1⟩
  refine ⟨p, md, w, l, R, n, c, k, cs, qs, ws, rfl, ⟨k0, k1⟩, hb, hm, N (i := 0) (j := 1) (by decide) rfl rfl, N (i := 0) (j := 2) (by decide) rfl rfl, fun H1 ds rs us q1 hb1 hm1 => ⟨true, rfl, ?_⟩⟩
  rw [if_neg (by decide)]
  have hMS1 := q1 _ _ (off (i := 7) (by decide) (by decide) (by decide) rfl) hMS
  have hBS1 := q1 _ _ (off (i := 8) (by decide) (by decide) (by decide) rfl) hBS
  have hb1' := bench_keepM hL q1 (off (i := 4) (by decide) (by decide) (by decide) rfl) (off (i := 5) (by decide) (by decide) (by decide) rfl) hb'
  have hm1' := model_keepM hL q1 (off (i := 3) (by decide) (by decide) (by decide) rfl) hm'
  have hh1 := held_keepM hL (fun x hx => sub x (by simp only [List.mem_cons, List.not_mem_nil, or_false] at hx ⊢; rcases hx with rfl | rfl | rfl <;> simp)) q1 (off (i := 6) (by decide) (by decide) (by decide) rfl) hh
  have hM1 : ∀ x ∈ M, H1 x ≠ none := fun x hx => none_keepM q1 (fun y hy e => by
    obtain ⟨_, ps, _, hl, _, hR, _⟩ := id hb1
    simp only [List.mem_cons, List.not_mem_nil, or_false] at hy
    rcases hy with rfl | rfl | rfl
    · rw [hl] at e; cases e
    · rw [hR] at e; cases e
    · rw [hm1.2.1] at e; cases e) (hM x hx)
  refine ⟨BS, _, _, _, rfl, rfl, .inl (.inl hBS1), g1, MS, _, _, _, rfl, rfl, .inl (.inl hMS1), g2, ⟨by decide, by decide⟩, ?_⟩
  obtain ⟨ts, hts, _⟩ := id hh1
  have hL1 : ∀ x ∈ [hd], RfL H1 x := fun x hx => by
    rw [List.mem_singleton.mp hx]
    exact ⟨_, hts⟩
  refine ⟨p, md, w, l, R, hd, n, j, more / 30, ds, rs, us, M, rfl, by omega, hb1, hm1, hh1, few, hM1, ⟨sub hd (by simp), N (i := 6) (j := 1) (by decide) rfl rfl, N (i := 6) (j := 2) (by decide) rfl rfl, N (i := 6) (j := 0) (by decide) rfl rfl⟩, fun H2 q2 hh2 => ⟨true, rfl, ?_⟩⟩
  rw [if_neg (by decide)]
  have hMS2 := q2 _ _ (offh (i := 7) (by decide) rfl) hMS1
  have hBS2 := q2 _ _ (offh (i := 8) (by decide) rfl) hBS1
  have hb2 := bench_keepM hL1 q2 (offh (i := 1) (by decide) rfl) (offh (i := 2) (by decide) rfl) hb1
  have hm2 := model_keepM hL1 q2 (offh (i := 0) (by decide) rfl) hm1
  have hb2' := bench_keepM hL1 q2 (offh (i := 4) (by decide) rfl) (offh (i := 5) (by decide) rfl) hb1'
  have hm2' := model_keepM hL1 q2 (offh (i := 3) (by decide) rfl) hm1'
  have hM2 : ∀ x ∈ M, H2 x ≠ none := fun x hx => none_keepM q2 (fun y hy e => by
    obtain ⟨ts2, hts2, _⟩ := id hh2
    rw [List.mem_singleton.mp hy, hts2] at e
    cases e) (hM1 x hx)
  obtain ⟨dx', _, hp', _⟩ := id hb2'
  refine ⟨BS, _, _, _, rfl, rfl, .inl (.inl hBS2), g3, p', rfl, dx', _, hp', bf_no n' l' R' (by decide +kernel) (by decide +kernel) (by decide +kernel), ?_⟩
  refine ⟨p', l', R', n', cs', qs', rfl, hb2', fun H3 u us3 s3 nu hu hus => ?_⟩
  refine ⟨MS, _, _, _, rfl, rfl, .inl (.inl (s3 _ _ hMS2)), g4, md', rfl, _, get_web (s3 _ _ hm2'.1), ?_⟩
  refine ne_webs (.inl (.inl hu)) hus (.inl (.inl (s3 _ _ hm2'.2.1))) (Same.prs s3 hm2'.2.2) ?_
  rw [decide_eq_true rfl]
  refine ⟨false, rfl, ?_⟩
  rw [if_neg Bool.false_ne_true]
  have hh3 : HeldAt K H3 hd M (j + 3) := held_keepM (M' := []) (fun y hy => nomatch hy) (fun y hy => nomatch hy) (same_keepM s3) List.not_mem_nil hh2
  refine done H3 (fun b o nb e => s3 _ _ (q2 _ _ (fun z => nb ?_) (q1 _ _ (fun z => nb ?_) e))) ⟨⟨ds, rs, us, bench_same s3 hb2, model_same s3 hm2⟩, ⟨cs', qs', ws', bench_same s3 hb2', model_same s3 hm2'⟩, hh3, fun x hx e => hM2 x hx (s3.free e)⟩
  · simp only [List.mem_cons, List.not_mem_nil, or_false] at z ⊢
    exact .inr (.inr (.inr z))
  · simp only [List.mem_cons, List.not_mem_nil, or_false] at z ⊢
    rcases z with z | z | z
    · exact .inl z
    · exact .inr (.inl z)
    · exact .inr (.inr (.inl z))
theorem law11_t_ok {H : Hp} {a MS BS S hd : Addr} {M : List Addr} {j : Nat} {p md w l R p' md' w' l' R' : Addr} {n n' : Nat} {at' nn k c more : Int} {D : Ends} {z9 z10 : Option V} {bs ms : List Addr}
    (d : Duo K H hd M j p md w l R n p' md' w' l' R' n') (few : j ≤ 1000) (k0 : 0 ≤ k) (k1 : k ≤ 1000) (m0 : 0 ≤ more)
    (nd : [w, l, R, w', l', R', hd, MS, BS, S].Nodup) (sub : ∀ x ∈ [w, l, R, w', l', R', hd], x ∈ M)
    (hMS : H MS = some (.lst (Rfs ms))) (hBS : H BS = some (.lst (Rfs bs)))
    (g1 : atI (Rfs bs) at' = some (.ref p)) (g2 : atI (Rfs ms) at' = some (.ref md)) (g3 : atI (Rfs bs) (1 - at') = some (.ref p')) (g4 : atI (Rfs ms) (1 - at') = some (.ref md'))
    (done : ∀ H', KeepM [l, R, w, hd] H H' → Duo K H' hd M (j + 3) p md w l R n p' md' w' l' R' n' →
      D.nx [some (.ref a), some (.int nn), some (.ref MS), some (.ref BS), some (.ref hd), some (.int k), some (.int c), some (.int more), some (.int at'), z9, z10] H') :
    law11_t K D [some (.ref a), some (.int nn), some (.ref MS), some (.ref BS), some (.ref hd), some (.int k), some (.int c), some (.int more), some (.int at'), z9, z10] H := by
  unfold law11_t
  walk_at "ev"
  refine ⟨⟨by decide, by decide⟩, ?_⟩
  split
  · obtain ⟨⟨cs, qs, ws, hb, hm⟩, hb', hh, hM⟩ := id d
    refine ⟨BS, _, _, _, rfl, rfl, .inl (.inl hBS), g1, MS, _, _, _, rfl, rfl, .inl (.inl hMS), g2, ⟨by decide, by decide⟩, ?_⟩
    refine ⟨p, md, w, l, R, n, more / 28, cs, qs, ws, rfl, by omega, hb, hm, fun H1 s => ⟨true, rfl, ?_⟩⟩
    rw [if_neg (by decide)]
    obtain ⟨cs', qs', ws', hb', hm'⟩ := hb'
    have hh1 : HeldAt K H1 hd M j := held_keepM (M' := []) (fun y hy => nomatch hy) (fun y hy => nomatch hy) (same_keepM s) List.not_mem_nil hh
    exact law11_u_ok ⟨⟨cs, qs, ws, bench_same s hb, model_same s hm⟩, ⟨cs', qs', ws', bench_same s hb', model_same s hm'⟩, hh1, fun x hx e => hM x hx (s.free e)⟩ few k0 k1 m0 nd sub (s _ _ hMS) (s _ _ hBS) g1 g2 g3 g4 fun H' q d2 => done H' ((same_keepM s).trans q) d2
  · exact law11_u_ok d few k0 k1 m0 nd sub hMS hBS g1 g2 g3 g4 done
theorem vis_to (l : Row) (k : Nat) : cutV (vis l) none (some (k : Int)) = vis (l.take k) := by
  rw [cutV_to]
  unfold vis
  rw [List.map_take]
theorem fork_enum2 {σ : L2.St} {H : Hp} {D : Ends} {tb : TS} {a : Addr} {xs : List V} {j1 j2 : Nat} (hx : SqL K H a xs) (Pv : Nat → L2.St → Hp → Prop) (h0 : Pv 0 σ H) (hl : ∀ i σ H, i ≤ xs.length → Pv i σ H → SqL K H a xs)
    (turn : ∀ i x σ H H', xs[i]? = some x → i < xs.length → Pv i σ H → Same H H' → tb { D with nx := Pv (i + 1), ct := Pv (i + 1), bk := D.nx } ((σ.set j1 (some (.int (i : Int)))).set j2 (some x)) H')
    (done : ∀ σ H, Pv xs.length σ H → D.nx σ H) : ForK (gTup K 2 (gCons (gName j1) (gCons (gName j2) gNil))) tb D σ (L2.Ite K a) H := by
  refine it_for (n := xs.length) Pv h0 (fun i σ H hi p => ?_) (fun σ H p => ?_) (fun i σ H hi p v H' y => ?_) done
  · obtain ⟨x, hx⟩ := get_of hi
    exact ⟨xs, x, hl i σ H (Nat.le_of_lt hi) p, hx⟩
  · exact ⟨xs, hl _ σ H (Nat.le_refl _) p, Nat.le_refl _⟩
  · obtain ⟨T, x, rfl, nT, rfl, f⟩ := y
    exact g2_run (.inl (.inl upd_same)) (turn i x σ H _ (f xs (hl i σ H (Nat.le_of_lt hi) p)) hi p (same_new nT))
theorem duo_same {H H' : Hp} {hd : Addr} {M : List Addr} {j : Nat} {p md w l R p' md' w' l' R' : Addr} {n n' : Nat} (s : Same H H') (d : Duo K H hd M j p md w l R n p' md' w' l' R' n') : Duo K H' hd M j p md w l R n p' md' w' l' R' n' := by
  obtain ⟨⟨cs, qs, ws, hb, hm⟩, ⟨cs', qs', ws', hb', hm'⟩, hh, hM⟩ := d
  exact ⟨⟨cs, qs, ws, bench_same s hb, model_same s hm⟩, ⟨cs', qs', ws', bench_same s hb', model_same s hm'⟩, held_keepM (M' := []) (fun y hy => nomatch hy) (fun y hy => nomatch hy) (same_keepM s) List.not_mem_nil hh, fun x hx e => hM x hx (s.free e)⟩
theorem duo_swap {H : Hp} {hd : Addr} {M : List Addr} {j : Nat} {p md w l R p' md' w' l' R' : Addr} {n n' : Nat} (d : Duo K H hd M j p md w l R n p' md' w' l' R' n') : Duo K H hd M j p' md' w' l' R' n' p md w l R n := ⟨d.b', d.b, d.h, d.m⟩
theorem nodup_swap {α : Type} {a b c d e f : α} {r : List α} (h : (a :: b :: c :: d :: e :: f :: r).Nodup) : (d :: e :: f :: a :: b :: c :: r).Nodup :=
  (List.Perm.nodup_iff (show List.Perm ([a, b, c] ++ [d, e, f] ++ r) ([d, e, f] ++ [a, b, c] ++ r) from List.Perm.append_right r List.perm_append_comm)).mp h
theorem law11_d_ok {H : Hp} {a MS BS hd : Addr} {ns : Row} {M : List Addr} {p md w l R p' md' w' l' R' : Addr} {n n' : Nat} {nn : Int} {D : Ends} {Q : VK} (hrt : D.rt = Q) (q : ∀ H', Q (.bl true) H')
    (ha : SqL K H a (vis ns)) (len : ns.length ≤ 63) (d : Duo K H hd M 0 p md w l R n p' md' w' l' R' n') (nd : [w, l, R, w', l', R', hd, MS, BS].Nodup) (sub : ∀ x ∈ [w, l, R, w', l', R', hd], x ∈ M)
    (hMS : H MS = some (.lst (Rfs [md, md']))) (hBS : H BS = some (.lst (Rfs [p, p']))) :
    law11_d K D [some (.ref a), some (.int nn), some (.ref MS), some (.ref BS), some (.ref hd), none, none, none, none, none, none] H := by
  unfold law11_d
  walk_at "ev"
  rw [for_def]
  unfold iEnum
  walk_at "ev"
  refine ⟨a, _, rfl, ha, fun S kS => ?_⟩
  have s := same_new (o := .lst (cutV (vis ns) none (some 63))) kS
  have hS : (upd H S (.lst (cutV (vis ns) none (some 63)))) S = some (.lst (vis (ns.take 63))) := by
    rw [upd_same]
    exact congrArg (fun z => some (HO.lst z)) (vis_to ns 63)
  generalize upd H S (.lst (cutV (vis ns) none (some 63))) = H1 at s hS ⊢
  refine ⟨S, rfl, _, .inl (.inl hS), ?_⟩
  have nds : [w, l, R, w', l', R', hd, MS, BS, S].Nodup := by
    have e : [w, l, R, w', l', R', hd, MS, BS, S] = [w, l, R, w', l', R', hd, MS, BS] ++ [S] := rfl
    rw [e, List.nodup_append]
    refine ⟨nd, List.nodup_cons.mpr ⟨List.not_mem_nil, List.nodup_nil⟩, fun x hx y hy e => ?_⟩
    rw [List.mem_singleton.mp hy] at e
    subst e
    rw [show [w, l, R, w', l', R', hd, MS, BS] = [w, l, R, w', l', R', hd] ++ [MS, BS] from rfl, List.mem_append] at hx
    rcases hx with hx | hx
    · exact d.m _ (sub _ hx) kS
    · simp only [List.mem_cons, List.not_mem_nil, or_false] at hx
      rcases hx with rfl | rfl
      · rw [hMS] at kS; cases kS
      · rw [hBS] at kS; cases kS
  have nds' := nodup_swap nds
  have sub' : ∀ x ∈ [w', l', R', w, l, R, hd], x ∈ M := fun x hx => sub x (by
    simp only [List.mem_cons, List.not_mem_nil, or_false] at hx ⊢
    rcases hx with h | h | h | h | h | h | h <;> simp [h])
  have off : ∀ {i : Nat} {x : Addr}, 7 ≤ i → [w, l, R, w', l', R', hd, MS, BS, S][i]? = some x → x ∉ [l, R, w, hd] := fun h0 hx => by
    have e0 := nodup_ne nds (i := _) (j := 0) (by omega) hx rfl
    have e1 := nodup_ne nds (i := _) (j := 1) (by omega) hx rfl
    have e2 := nodup_ne nds (i := _) (j := 2) (by omega) hx rfl
    have e6 := nodup_ne nds (i := _) (j := 6) (by omega) hx rfl
    simp [e0, e1, e2, e6]
  have off' : ∀ {i : Nat} {x : Addr}, 7 ≤ i → [w, l, R, w', l', R', hd, MS, BS, S][i]? = some x → x ∉ [l', R', w', hd] := fun h0 hx => by
    have e0 := nodup_ne nds (i := _) (j := 3) (by omega) hx rfl
    have e1 := nodup_ne nds (i := _) (j := 4) (by omega) hx rfl
    have e2 := nodup_ne nds (i := _) (j := 5) (by omega) hx rfl
    have e6 := nodup_ne nds (i := _) (j := 6) (by omega) hx rfl
    simp [e0, e1, e2, e6]
  have lt : (ns.take 63).length ≤ 63 := by rw [List.length_take]; exact Nat.min_le_left _ _
  refine fork_enum2 (xs := vis (ns.take 63)) (.inl (.inl hS)) (fun i σ G => ∃ z5 z6 z7 z8, σ = [some (.ref a), some (.int nn), some (.ref MS), some (.ref BS), some (.ref hd), z5, z6, z7, z8, none, none] ∧ Duo K G hd M (3 * i) p md w l R n p' md' w' l' R' n' ∧ G MS = some (.lst (Rfs [md, md'])) ∧ G BS = some (.lst (Rfs [p, p'])) ∧ G S = some (.lst (vis (ns.take 63))))
    ⟨none, none, none, none, rfl, duo_same s d, s _ _ hMS, s _ _ hBS, hS⟩ (fun i σ G _ hW => ?_) (fun i x σ G G' hx hi hW s2 => ?_) (fun σ G hW => ?_)
  · obtain ⟨_, _, _, _, _, _, _, _, h⟩ := hW
    exact .inl (.inl h)
  · obtain ⟨z5, z6, z7, z8, rfl, dG, hMG, hBG, hSG⟩ := hW
    rw [ints_len] at hi
    have dG2 := duo_same s2 dG
    have hM2 := s2 _ _ hMG
    have hB2 := s2 _ _ hBG
    have hS2 := s2 _ _ hSG
    rw [law11_f1]
    obtain ⟨c, rfl⟩ : ∃ c : Int, x = .int c := by
      unfold vis at hx
      rw [List.getElem?_map] at hx
      cases e : (ns.take 63)[i]? with
      | none => rw [e] at hx; cases hx
      | some v => rw [e] at hx; exact ⟨v, (Option.some.inj hx).symm⟩
    walk_at "ev"
    refine ⟨c, (i : Int), 102, rfl, ⟨by omega, by omega⟩, ⟨by decide, by decide⟩, fun more m0 m1 => ?_⟩
    refine ⟨more, rfl, ?_⟩
    by_cases z : more % 4 = 1
    · rw [decide_eq_true z]
      refine .inr ⟨true, rfl, ?_⟩
      refine law11_t_ok (at' := 1) (bs := [p, p']) (ms := [md, md']) (S := S) (duo_swap dG2) (by omega) (by omega) (by omega) m0 nds' sub' hM2 hB2 rfl rfl rfl rfl fun G3 q3 d3 => ?_
      refine ⟨_, _, _, _, rfl, duo_swap d3, q3 _ _ ?_ hM2, q3 _ _ ?_ hB2, q3 _ _ ?_ hS2⟩
      · exact off' (i := 7) (by decide) rfl
      · exact off' (i := 8) (by decide) rfl
      · exact off' (i := 9) (by decide) rfl
    · rw [decide_eq_false z]
      refine .inr ⟨false, rfl, ?_⟩
      refine law11_t_ok (at' := 0) (bs := [p, p']) (ms := [md, md']) (S := S) dG2 (by omega) (by omega) (by omega) m0 nds sub hM2 hB2 rfl rfl rfl rfl fun G3 q3 d3 => ?_
      refine ⟨_, _, _, _, rfl, d3, q3 _ _ ?_ hM2, q3 _ _ ?_ hB2, q3 _ _ ?_ hS2⟩
      · exact off (i := 7) (by decide) rfl
      · exact off (i := 8) (by decide) rfl
      · exact off (i := 9) (by decide) rfl
  · obtain ⟨z5, z6, z7, z8, rfl, dG, hMG, hBG, hSG⟩ := hW
    unfold law11_e
    walk_at "ev"
    obtain ⟨ts, hts, lts, all⟩ := dG.h
    refine lc_each (a := hd) (xs := Rfs ts) rfl (.inl (.inl hts)) (fun v => rfl) (fun C i acc H' => acc = [] ∧ Same G H') (fun C nC => ⟨rfl, same_new nC⟩) (fun C i acc H' nC g => .inl (.inl (g.2 _ _ hts))) (fun C i x acc H' nC hx hi hC g => ?_) (fun C acc H' nC hC g => ?_)
    · obtain ⟨rfl, s3⟩ := g
      obtain ⟨t, rfl, gt⟩ := rfs_get hx
      obtain ⟨f, g, fs, gs, ds, ht, hf, hg, pf, pg, _, _⟩ := all t (List.mem_of_getElem? gt)
      unfold Turn
      walk_at "ev"
      refine ⟨t, _, _, .ref f, rfl, rfl, .inl (.inl (s3 _ _ ht)), rfl, t, _, _, .ref g, rfl, rfl, .inl (.inl (s3 _ _ ht)), rfl, ?_⟩
      refine ne_webs (.inl (.inl (s3 _ _ hf))) (Same.prs s3 pf) (.inl (.inl (s3 _ _ hg))) (Same.prs s3 pg) ?_
      rw [decide_eq_true rfl]
      refine ⟨false, rfl, ?_⟩
      rw [if_neg Bool.false_ne_true]
      exact ⟨_, hC, rfl, s3⟩
    · obtain ⟨rfl, s3⟩ := g
      refine ⟨Nat.zero_le _, fun e ke => ?_⟩
      have s4 := same_new (o := .lst ([] : List V)) ke
      refine eq_webs2 (ps := []) (cs := []) (qs := []) (ds := []) (.inl (.inl (s4 _ _ hC))) .nil (.inl (.inl upd_same)) .nil ?_
      rw [decide_eq_true rfl, hrt]
      exact q _
theorem md_merge (x y : V) : L2.mergeK [] [(.inr "lines", x), (.inr "web", y)] = [(.inr "lines", x), (.inr "web", y)] := by
  have e : (decide ((Sum.inr ("lines" : Str) : L2.Key) = (Sum.inr ("web" : Str) : L2.Key))) = false := by decide +kernel
  unfold L2.mergeK
  simp only [List.foldl_cons, List.foldl_nil]
  unfold L2.putK
  simp only [List.any_nil, List.any_cons, e, Bool.or_false, Bool.false_eq_true, if_false, List.nil_append, List.singleton_append]
theorem md_new {H : Hp} {md w : Addr} {x : Int} {n : Nat} (e : (n : Int) = x) (k1 : H md = none) (kw : (upd H md (.dK [])) w = none) : (upd (upd H md (.dK [])) w (.lst [])) md = some (.dK []) ∧ H w = none ∧
    (upd (upd (upd H md (.dK [])) w (.lst [])) md (.dK (L2.mergeK [] [(.inr "lines", .int x), (.inr "web", .ref w)]))) md = some (.dK (mdK n w)) ∧
    (upd (upd (upd H md (.dK [])) w (.lst [])) md (.dK (L2.mergeK [] [(.inr "lines", .int x), (.inr "web", .ref w)]))) w = some (.lst (Rfs [])) ∧
    Same H (upd (upd (upd H md (.dK [])) w (.lst [])) md (.dK (L2.mergeK [] [(.inr "lines", .int x), (.inr "web", .ref w)]))) := by
  have mw : md ≠ w := fun e => by rw [← e, upd_same] at kw; cases kw
  have wH : H w = none := by rw [upd_ne mw.symm] at kw; exact kw
  refine ⟨by rw [upd_ne mw, upd_same], wH, ?_, ?_, fun b o h => ?_⟩
  · rw [upd_same, md_merge]
    unfold mdK
    rw [e]
  · rw [upd_ne mw.symm, upd_same]
    rfl
  · rw [upd_ne (ne_of_none h k1), upd_ne (ne_of_none h wH), upd_ne (ne_of_none h k1)]
    exact h
def BnI (K : PySem.W.Frag) (H0 H' : Hp) (C : Addr) (n n' : Nat) (i : Nat) (acc : List V) : Prop :=
  Same H0 H' ∧ ((i = 0 ∧ acc = []) ∨ (i = 1 ∧ ∃ p l R d, acc = [.ref p] ∧ BenchAt K H' p n [] l R [d] ∧ H0 l = none ∧ H0 R = none ∧ l ≠ C ∧ R ≠ C) ∨
    (i = 2 ∧ ∃ p l R d p' l' R' d', acc = [.ref p, .ref p'] ∧ BenchAt K H' p n [] l R [d] ∧ BenchAt K H' p' n' [] l' R' [d'] ∧ (H0 l = none ∧ H0 R = none ∧ H0 l' = none ∧ H0 R' = none) ∧ [l, R, l', R', C].Nodup))
/-- one more bench in a list of them -/
theorem bn_turn {H0 H' H4 : Hp} {C p dx l R d : Addr} {n : Nat} {ps : List Addr} (s : Same H0 H') (nC : H0 C = none) (hC : H' C = some (.lst (Rfs ps))) (np : H' p = none) (ndx : H' dx = none)
    (keep : ∀ b o, b ≠ p → (upd (upd H' dx (.own p)) p (.ins (He.ga K "Bench") dx [])) b = some o → H4 b = some o) (nl : (upd (upd H' dx (.own p)) p (.ins (He.ga K "Bench") dx [])) l = none) (nR : (upd (upd H' dx (.own p)) p (.ins (He.ga K "Bench") dx [])) R = none)
    (hb : BenchAt K H4 p n [] l R [d]) : H4 C = some (.lst (Rfs ps)) ∧ H' l = none ∧ H' R = none ∧ l ≠ C ∧ R ≠ C ∧ (∀ b o, b ≠ C → H' b = some o → (upd H4 C (.lst (Rfs ps ++ [.ref p]))) b = some o) ∧ Same H0 (upd H4 C (.lst (Rfs ps ++ [.ref p]))) ∧ BenchAt K (upd H4 C (.lst (Rfs ps ++ [.ref p]))) p n [] l R [d] := by
  have off : ∀ b, (upd (upd H' dx (.own p)) p (.ins (He.ga K "Bench") dx [])) b = none → H' b = none := fun b e => by
    have b1 : b ≠ p := fun z => by rw [z, upd_same] at e; cases e
    rw [upd_ne b1] at e
    have b2 : b ≠ dx := fun z => by rw [z, upd_same] at e; cases e
    rw [upd_ne b2] at e
    exact e
  have nl' := off l nl
  have nR' := off R nR
  have s4 : Same H' H4 := fun b o e => keep b o (ne_of_none e np) (by rw [upd_ne (ne_of_none e np), upd_ne (ne_of_none e ndx)]; exact e)
  have hC4 := s4 _ _ hC
  have lC : l ≠ C := (ne_of_none hC nl').symm
  have RC : R ≠ C := (ne_of_none hC nR').symm
  refine ⟨hC4, nl', nR', lC, RC, fun b o nb e => ?_, same_mut (s.trans s4) nC, ?_⟩
  · rw [upd_ne nb]
    exact s4 _ _ e
  · refine bench_keepM (M := [C]) (fun x hx => ?_) (fun b o nb e => ?_) (by simp [lC]) (by simp [RC]) hb
    · rw [List.mem_singleton.mp hx]
      exact ⟨_, hC4⟩
    · rw [upd_ne fun z => nb (List.mem_singleton.mpr z)]
      exact e
theorem law11_c_ok {H : Hp} {a MS md w md' w' : Addr} {ns : Row} {n n' : Nat} {nn : Int} {D : Ends} {Q : VK} (hrt : D.rt = Q) (q : ∀ H', Q (.bl true) H') (ha : SqL K H a (vis ns)) (len : ns.length ≤ 63)
    (hMS : H MS = some (.lst (Rfs [md, md']))) (hm : ModelAt K H md w n [] []) (hm' : ModelAt K H md' w' n' [] []) (nd : [w, w', MS].Nodup) (n1 : 1 ≤ n) (n10 : n ≤ 10) (n1' : 1 ≤ n') (n10' : n' ≤ 10) :
    law11_c K D [some (.ref a), some (.int nn), some (.ref MS), none, none, none, none, none, none, none, none] H := by
  unfold law11_c tMk tDGet
  walk_at "ev"
  refine lc_each (a := MS) (xs := Rfs [md, md']) rfl (.inl (.inl hMS)) (fun v => rfl) (fun C i acc H' => BnI K H H' C n n' i acc) (fun C nC => ⟨same_new nC, .inl ⟨rfl, rfl⟩⟩) (fun C i acc H' nC g => .inl (.inl (g.1 _ _ hMS))) (fun C i x acc H' nC hx hi hC hG => ?_) (fun C acc H' nC hC hG => ?_)
  · refine Turn.yes ?_
    walk_at "ev"
    obtain ⟨s, hG⟩ := hG
    rcases hG with ⟨rfl, rfl⟩ | ⟨rfl, p, l, R, d, rfl, hb, nl, nR, lC, RC⟩ | ⟨rfl, _⟩
    · obtain rfl : V.ref md = x := Option.some.inj hx
      refine ⟨md, rfl, _, get_lines (s _ _ hm.1), fun p dx np ndx ne => ?_⟩
      refine ⟨p, dx, n, rfl, upd_same, n1, n10, fun H4 l R d keep nl nR nd' hb => ⟨rfl, ?_⟩⟩
      obtain ⟨hC4, nl', nR', lC, RC, kC, s5, hb5⟩ := bn_turn (ps := []) s nC hC np ndx keep nl nR hb
      exact GoOn.mk hC4 (by decide) ⟨s5, .inr (.inl ⟨rfl, p, l, R, d, rfl, hb5, s.free nl', s.free nR', lC, RC⟩)⟩
    · obtain rfl : V.ref md' = x := Option.some.inj hx
      refine ⟨md', rfl, _, get_lines (s _ _ hm'.1), fun p2 dx np ndx ne => ?_⟩
      refine ⟨p2, dx, n', rfl, upd_same, n1', n10', fun H4 l2 R2 d2 keep nl2 nR2 nd' hb2 => ⟨rfl, ?_⟩⟩
      obtain ⟨hC4, nl', nR', lC', RC', kC, s5, hb5⟩ := bn_turn (ps := [p]) s nC hC np ndx keep nl2 nR2 hb2
      have hb6 := bench_keepM (M := [C]) (fun x hx => ⟨[p], by rw [List.mem_singleton.mp hx]; exact hC⟩) (fun b o nb e => kC b o (fun z => nb (List.mem_singleton.mpr z)) e) (by simp [lC]) (by simp [RC]) hb
      obtain ⟨_, _, _, hl1, _, hR1, _, lR, _⟩ := id hb
      obtain ⟨_, _, _, _, _, _, _, lR2, _⟩ := id hb2
      have e1 := ne_of_none hl1 nl'
      have e2 := ne_of_none hl1 nR'
      have e3 := ne_of_none hR1 nl'
      have e4 := ne_of_none hR1 nR'
      exact GoOn.mk hC4 (by show 1 < 1000000; decide) ⟨s5, .inr (.inr ⟨rfl, p, l, R, d, p2, l2, R2, d2, rfl, hb6, hb5, ⟨nl, nR, s.free nl', s.free nR'⟩, by simp [lR, e1, e2, lC, e3, e4, RC, lR2, lC', RC']⟩)⟩
    · exact absurd hi (by show ¬ 2 < 2; decide)
  · obtain ⟨s, hG⟩ := hG
    rcases hG with ⟨z, _⟩ | ⟨z, _⟩ | ⟨_, p, l, R, d, p', l', R', d', rfl, hb, hb', ⟨nl, nR, nl', nR'⟩, nn5⟩
    · exact absurd z (by show ¬ 2 = 0; decide)
    · exact absurd z (by show ¬ 2 = 1; decide)
    obtain ⟨_, _, _, hl1, _, hR1, _⟩ := id hb
    obtain ⟨_, _, _, hl2, _, hR2, _⟩ := id hb'
    refine ⟨Nat.zero_le _, fun hd kh => ?_⟩
    have u0 : w ≠ l := ne_of_none (hm.2.1) nl
    have u1 : w ≠ R := ne_of_none (hm.2.1) nR
    have u2 : w ≠ w' := nodup_ne nd (i := 0) (j := 1) (by decide) rfl rfl
    have u3 : w ≠ l' := ne_of_none (hm.2.1) nl'
    have u4 : w ≠ R' := ne_of_none (hm.2.1) nR'
    have u5 : w ≠ hd := ne_of_none (s _ _ (hm.2.1)) kh
    have u6 : w ≠ MS := nodup_ne nd (i := 0) (j := 2) (by decide) rfl rfl
    have u7 : w ≠ C := ne_of_none (hm.2.1) nC
    have u8 : l ≠ R := nodup_ne nn5 (i := 0) (j := 1) (by decide) rfl rfl
    have u9 : l ≠ w' := (ne_of_none (hm'.2.1) nl).symm
    have u10 : l ≠ l' := nodup_ne nn5 (i := 0) (j := 2) (by decide) rfl rfl
    have u11 : l ≠ R' := nodup_ne nn5 (i := 0) (j := 3) (by decide) rfl rfl
    have u12 : l ≠ hd := ne_of_none hl1 kh
    have u13 : l ≠ MS := (ne_of_none (hMS) nl).symm
    have u14 : l ≠ C := nodup_ne nn5 (i := 0) (j := 4) (by decide) rfl rfl
    have u15 : R ≠ w' := (ne_of_none (hm'.2.1) nR).symm
    have u16 : R ≠ l' := nodup_ne nn5 (i := 1) (j := 2) (by decide) rfl rfl
    have u17 : R ≠ R' := nodup_ne nn5 (i := 1) (j := 3) (by decide) rfl rfl
    have u18 : R ≠ hd := ne_of_none hR1 kh
    have u19 : R ≠ MS := (ne_of_none (hMS) nR).symm
    have u20 : R ≠ C := nodup_ne nn5 (i := 1) (j := 4) (by decide) rfl rfl
    have u21 : w' ≠ l' := ne_of_none (hm'.2.1) nl'
    have u22 : w' ≠ R' := ne_of_none (hm'.2.1) nR'
    have u23 : w' ≠ hd := ne_of_none (s _ _ (hm'.2.1)) kh
    have u24 : w' ≠ MS := nodup_ne nd (i := 1) (j := 2) (by decide) rfl rfl
    have u25 : w' ≠ C := ne_of_none (hm'.2.1) nC
    have u26 : l' ≠ R' := nodup_ne nn5 (i := 2) (j := 3) (by decide) rfl rfl
    have u27 : l' ≠ hd := ne_of_none hl2 kh
    have u28 : l' ≠ MS := (ne_of_none (hMS) nl').symm
    have u29 : l' ≠ C := nodup_ne nn5 (i := 2) (j := 4) (by decide) rfl rfl
    have u30 : R' ≠ hd := ne_of_none hR2 kh
    have u31 : R' ≠ MS := (ne_of_none (hMS) nR').symm
    have u32 : R' ≠ C := nodup_ne nn5 (i := 3) (j := 4) (by decide) rfl rfl
    have u33 : hd ≠ MS := (ne_of_none (s _ _ (hMS)) kh).symm
    have u34 : hd ≠ C := (ne_of_none hC kh).symm
    have u35 : MS ≠ C := ne_of_none (hMS) nC
    have s2 := same_new (o := .lst ([] : List V)) kh
    have hh : (upd H' hd (.lst ([] : List V))) hd = some (.lst (Rfs [])) := upd_same
    generalize upd H' hd (.lst ([] : List V)) = H5 at s2 hh ⊢
    have s5 := s.trans s2
    refine law11_d_ok (M := [w, l, R, w', l', R', hd]) hrt q (s5.seq ha) len ⟨⟨[], [d], [], bench_same s2 hb, model_same s5 hm⟩, ⟨[], [d'], [], bench_same s2 hb', model_same s5 hm'⟩, ⟨[], hh, Nat.le_refl _, fun t ht => nomatch ht⟩, fun x hx e => ?_⟩ (by simp [u0, u1, u2, u3, u4, u5, u6, u7, u8, u9, u10, u11, u12, u13, u14, u15, u16, u17, u18, u19, u20, u21, u22, u23, u24, u25, u26, u27, u28, u29, u30, u31, u32, u33, u34, u35]) (fun x hx => hx) (s5 _ _ hMS) (s2 _ _ hC)
    simp only [List.mem_cons, List.not_mem_nil, or_false] at hx
    rcases hx with rfl | rfl | rfl | rfl | rfl | rfl | rfl
    · rw [s5 _ _ hm.2.1] at e; cases e
    · rw [s2 _ _ hl1] at e; cases e
    · rw [s2 _ _ hR1] at e; cases e
    · rw [s5 _ _ hm'.2.1] at e; cases e
    · rw [s2 _ _ hl2] at e; cases e
    · rw [s2 _ _ hR2] at e; cases e
    · rw [hh] at e; cases e
theorem law11_b_ok {H : Hp} {a : Addr} {ns : Row} {nn : Int} {D : Ends} {Q : VK} (hrt : D.rt = Q) (q : ∀ H', Q (.bl true) H') (ha : SqL K H a (vis ns)) (len : ns.length ≤ 63) (n0 : 0 ≤ nn) :
    law11_b K D [some (.ref a), some (.int nn), none, none, none, none, none, none, none, none, none] H := by
  unfold law11_b tDisp
  simp only [L2.tPairs]
  walk_at "ev"
  intro md k1
  refine ⟨Nat.zero_le _, fun w kw => ?_⟩
  obtain ⟨a1, wH, a2, a3, a4⟩ := md_new (x := 2 + nn % 4) (n := (2 + nn % 4).toNat) (by omega) k1 kw
  refine ⟨a1, [(.inr "lines", .int (2 + nn % 4)), (.inr "web", .ref w)], rfl, by show 2 ≤ 15; decide, fun md' k2 => ⟨⟨by decide, by decide⟩, ?_⟩⟩
  generalize upd (upd (upd H md (.dK [])) w (.lst [])) md (.dK (L2.mergeK [] [(.inr "lines", .int (2 + nn % 4)), (.inr "web", .ref w)])) = H3 at a2 a3 a4 k2 ⊢
  refine ⟨Nat.zero_le _, fun w' kw' => ?_⟩
  obtain ⟨b1, wH', b2, b3, b4⟩ := md_new (x := 1 + nn / 4 % 6) (n := (1 + nn / 4 % 6).toNat) (by omega) k2 kw'
  refine ⟨b1, [(.inr "lines", .int (1 + nn / 4 % 6)), (.inr "web", .ref w')], rfl, by show 2 ≤ 15; decide, small_line (by decide), fun MS kM => ?_⟩
  generalize upd (upd (upd H3 md' (.dK [])) w' (.lst [])) md' (.dK (L2.mergeK [] [(.inr "lines", .int (1 + nn / 4 % 6)), (.inr "web", .ref w')])) = H4 at b2 b3 b4 kM ⊢
  have s5 := same_new (o := .lst [.ref md, .ref md']) kM
  have hMS : (upd H4 MS (.lst [.ref md, .ref md'])) MS = some (.lst (Rfs [md, md'])) := upd_same
  have e1 : w ≠ w' := ne_of_none a3 wH'
  have e2 : w ≠ MS := ne_of_none (b4 _ _ a3) kM
  have e3 : w' ≠ MS := ne_of_none b3 kM
  exact law11_c_ok hrt q (((a4.trans b4).trans s5).seq ha) len hMS ⟨s5 _ _ (b4 _ _ a2), s5 _ _ (b4 _ _ a3), .nil⟩ ⟨s5 _ _ b2, s5 _ _ b3, .nil⟩ (by simp [e1, e2, e3]) (by omega) (by omega) (by omega) (by omega)
theorem rd_law (vs : List V) (H : Hp) (Q : VK) (E : XK) (h : sp_law K vs H Q E) : r_law K { nx := fun _ H' => Q .non H', rt := Q } (L2.start N_law vs) H := by
  obtain ⟨a, ns, rfl, ha, len, q⟩ := h
  rw [law11_eq]
  unfold N_law
  walk_at "ev"
  refine ⟨a, _, rfl, ha, fun u nu => ?_⟩
  have s := same_new (o := .lst (cutV (ns.map V.int) none (some 5))) nu
  refine ⟨u, ns.take 5, rfl, .inl (.inl ?_), ?_⟩
  · rw [upd_same]
    exact congrArg (fun z => some (HO.lst z)) (vis_to ns 5)
  generalize upd H u (.lst (cutV (ns.map V.int) none (some 5))) = H1 at s ⊢
  refine ⟨_, 4, 101, rfl, ⟨by decide, by decide⟩, ⟨by decide, by decide⟩, fun n n0 n1 => ⟨n, rfl, ⟨by decide, by decide⟩, ?_⟩⟩
  split
  · refine ⟨n, rfl, (2 + n % 2).toNat, n, by rw [show (((2 + n % 2).toNat : Nat) : Int) = 2 + n % 2 by omega], by omega, by omega, n0, fun H2 s2 => ⟨true, rfl, ?_⟩⟩
    rw [if_neg (by decide)]
    exact law11_b_ok rfl q ((s.trans s2).seq ha) len n0
  · exact law11_b_ok rfl q (s.seq ha) len n0
end Sw

set_option Elab.async false
set_option linter.all false
set_option maxRecDepth 100000
set_option maxHeartbeats 4000000
namespace Sw
open PySem PySem.Spec PyProof.Rows L2
local macro_rules | `(tactic| walk_at "ev") => `(tactic| simp only [tSeq, tCalW, quiet, tRzA, tRzO, tTryT, tTryK, tJoin, tJs, tBM, tBits, kStrI, kIntS, kLenS, mSplit, mPart, mIndex, tAsg, tRet, tRetN, tOp, tUn, tVar, tC, tNil, tCons, tCB, tDrop, tNext, tCont, tBreak, tIfS, tIf, tTest, tChain, tChain3, tB, tTup, tLst, tAnd, tOr, tNot, tAndV, tOrV, tNotV, tPart, tNoPart, tSl, tCal, tAug, ipI, rI0, rI, rU, rEq, rNe, kMin, kMax, gName, gCons, gNil, L2.start, wipe, List.map_cons, List.map_nil, List.length_cons, List.length_nil, List.cons_append, List.nil_append, List.append_nil, Nat.reduceAdd, Nat.reduceSub, List.replicate_succ, List.replicate_zero, List.getElem?_cons_zero, List.getElem?_cons_succ, List.set_cons_succ, List.set_cons_zero, Option.some.injEq, exists_eq_left', exists_eq_left, V.int.injEq, V.bl.injEq, V.str.injEq, V.ref.injEq, List.cons.injEq, exists_and_left, and_assoc, and_true, true_and, scal_ii, scal_ss, scal_nn, scal_bb, scal_ni, scal_in, decide_eq_true_eq, Bool.not_true, Bool.not_false, Bool.not_eq_true', decide_eq_false_iff_not, ite_not, reduceCtorEq, if_true, if_false, Bool.false_eq_true, ne_eq, not_true_eq_false, not_false_eq_true, Int.reduceLT, Int.reduceLE, Int.reduceNeg])
local macro_rules | `(tactic| walk_at "cm") => `(tactic| first | exact Or.inr ⟨by decide, by decide⟩ | exact Or.inl ⟨by decide, by decide⟩ | exact Or.inl ⟨by omega, by omega⟩ | exact Or.inr ⟨by omega, by omega⟩)
variable {K : PySem.W.Frag}
/-! ### what is asked of a bench -/
def asked_a (K : PySem.W.Frag) : TS := (tSeq (tAsg (tMet K "Bench" "comparers" (sp_bcomps K) (tVar 0) (tNil)) (gName 7)) (tSeq (tIfS (tNot (tB (tCal (sp_lisweb K) (tCons (tVar 7) (tCons (tDGet (tVar 1) (tC (.str "web"))) (tNil)))))) (tRet (tC (.bl false))) (tNext)) (tSeq (tDrop (tBM K "list" rAppend (tVar 7) (tCons (tTup (tCons (tC (.int 0)) (tCons (tC (.int 0)) (tNil)))) (tNil)))) (tDrop (tBM K "list" rAppend (tVar 3) (tCons (tTup (tCons (tVar 7) (tCons (tOp rCat (tDGet (tVar 1) (tC (.str "web"))) (tLst (tCons (tTup (tCons (tC (.int 0)) (tCons (tC (.int 0)) (tNil)))) (tNil)))) (tNil)))) (tNil)))))))
def asked_b (K : PySem.W.Frag) : TS := (tSeq (tAsg (tMet K "Bench" "many" (sp_bmany K) (tVar 0) (tNil)) (gName 8)) (tIfS (tOr (tB (tCB (rIsK K) (tCons (tVar 8) (tCons (tC (.ty "bool")) (tNil))))) (tOr (tNot (tB (tCB (rIsK K) (tCons (tVar 8) (tCons (tC (.ty "int")) (tNil)))))) (tTest (tOp rNe (tVar 8) (tCB kLenT (tCons (tVar 4) (tNil))))))) (tRet (tC (.bl false))) (tNext)))
def asked_c (K : PySem.W.Frag) : TS := (tSeq (tAsg (tMet K "Bench" "wild" (sp_bwild K) (tVar 0) (tNil)) (gName 9)) (tSeq (tAsg (tLc (iKeys (tVar 4)) (gName 12) (tTest (tOp (rNeD K) (tCB (kList K) (tCons (tVar 12) (tNil))) (tCB (kSortTu K) (tCons (tVar 12) (tNil))))) (tVar 12) [12]) (gName 10)) (tSeq (tIfS (tTest (tOp rNe (tOp rIsN (tVar 9) (tC .non)) (tOp (rEqD K) (tVar 10) (tLst (tNil))))) (tRet (tC (.bl false))) (tNext)) (tSeq (tIfS (tAnd (tTest (tOp rNotN (tVar 9) (tC .non))) (tOr (tNot (tB (tCB (rIsK K) (tCons (tVar 9) (tCons (tC (.ty "list")) (tNil)))))) (tTest (tOp (rNotInD K) (tThen (tVar 9) (kTup K)) (tVar 10))))) (tRet (tC (.bl false))) (tNext)) (tIfS (tTest (tOp rNotN (tVar 9) (tC .non))) (tSeq (tAsg (tCB (kList K) (tCons (tVar 9) (tNil))) (gName 11)) (tSeq (tDrop (tBM K "list" rAppend (tVar 9) (tCons (tC (.int 0)) (tNil)))) (tIfS (tTest (tOp (rNeD K) (tMet K "Bench" "wild" (sp_bwild K) (tVar 0) (tNil)) (tVar 11))) (tRet (tC (.bl false))) (tNext)))) (tNext))))))
def asked_m (K : PySem.W.Frag) : TS := tSeq (tIfS (tTest (tOp rEq (tVar 6) (tC (.int 0)))) (asked_a K) tNext) (tSeq (tIfS (tTest (tOp rEq (tVar 6) (tC (.int 1)))) (asked_b K) tNext) (tIfS (tTest (tOp rEq (tVar 6) (tC (.int 2)))) (asked_c K) tNext))
theorem asked_f1 (K : PySem.W.Frag) : r_lasked_f1 K = tSeq (tAsg (tOp oMod (tOp oAdd (tVar 2) (tOp oMul (tVar 5) (tOp (rIxL K) (tLst (tCons (tC (.int 1)) (tCons (tC (.int 2)) (tNil)))) (tOp oMod (tOp oDiv (tVar 2) (tC (.int 3))) (tC (.int 2)))))) (tC (.int 3))) (gName 6)) (asked_m K) := rfl
/-- the turns' state -/
def AskSt (p md hd d : Addr) (m : Int) (z6 : Option V) (σ : L2.St) : Prop := ∃ z5 z7 z8 z9 z10 z11 z12, σ = [some (.ref p), some (.ref md), some (.int m), some (.ref hd), some (.ref d), z5, z6, z7, z8, z9, z10, z11, z12]
theorem asked_a_ok {H1 : Hp} {p md w l R hd d : Addr} {n j : Nat} {m : Int} {z6 : Option V} {cs : List Cmp} {qs ws M : List Addr} {D : Ends} {σ : L2.St} (hσ : AskSt p md hd d m z6 σ)
    (hb : BenchAt K H1 p n cs l R qs) (hm : ModelAt K H1 md w n ws cs) (hh : HeldAt K H1 hd M j) (few : j ≤ 2000) (hM : ∀ x ∈ M, H1 x ≠ none) (hhd : hd ∈ M)
    (done : ∀ σ' H', AskSt p md hd d m z6 σ' → KeepM [hd] H1 H' → HeldAt K H' hd M (j + 1) → D.nx σ' H') : asked_a K D σ H1 := by
  obtain ⟨z5, z7, z8, z9, z10, z11, z12, rfl⟩ := hσ
  unfold asked_a tMet tDGet
  walk_at "ev"
  obtain ⟨dx, _, hp, _, _, _, _, _, ok, n1, n10⟩ := id hb
  obtain ⟨hmd, hw, hws⟩ := hm
  obtain ⟨ts, hts, lts, all⟩ := hh
  have lws := hws.length
  refine ⟨dx, _, hp, bf_no n l R (by decide +kernel) (by decide +kernel) (by decide +kernel), ?_⟩
  refine ⟨p, l, R, n, cs, qs, rfl, hb, fun H2 u ps s2 nu hu hps => ?_⟩
  have lps := hps.length
  refine ⟨_, get_web (s2 _ _ hmd), ?_⟩
  refine ⟨u, w, ps, ws, cs, rfl, hu, hps, .inl (.inl (s2 _ _ hw)), Same.prs s2 hws, ok.1, fun H3 s3 => ⟨true, rfl, ?_⟩⟩
  rw [if_neg (by decide)]
  have s13 := s2.trans s3
  have hu3 := s3 _ _ hu
  have hps3 := Same.prs s3 hps
  refine ⟨.inl ⟨rfl, _, .inl (.inl hu3)⟩, small_line (by decide), fun t0 k0 => ?_⟩
  have s4 := same_new (o := .tup [.int 0, .int 0]) k0
  have ft0 : (upd H3 t0 (.tup [.int 0, .int 0])) t0 = some (.tup (V2 (0, 0))) := upd_same
  generalize upd H3 t0 (.tup [.int 0, .int 0]) = H4 at s4 ft0 ⊢
  have hu4 := s4 _ _ hu3
  have ps4 : Prs K H4 (ps ++ [t0]) (cs ++ [(0, 0)]) := (Same.prs s4 hps3).snoc (.inl (.inl ft0))
  refine ⟨u, _, _, rfl, rfl, hu4, by rw [rfs_len]; exact small_lt (by have := ok.1; omega), ?_⟩
  have s5 : Same H1 (upd H4 u (.lst (Rfs ps ++ [.ref t0]))) := same_mut (s13.trans s4) nu
  have ps5 : Prs K (upd H4 u (.lst (Rfs ps ++ [.ref t0]))) (ps ++ [t0]) (cs ++ [(0, 0)]) := prs_upd hu4 ps4
  have hu5 : (upd H4 u (.lst (Rfs ps ++ [.ref t0]))) u = some (.lst (Rfs (ps ++ [t0]))) := by
    rw [upd_same]
    unfold Rfs
    rw [List.map_append] <;> rfl
  generalize upd H4 u (.lst (Rfs ps ++ [.ref t0])) = H5 at s5 ps5 hu5 ⊢
  refine ⟨.inl ⟨rfl, _, .inl (.inl (s5 _ _ hts))⟩, _, get_web (s5 _ _ hmd), small_line (by decide), fun t1 k1 => ⟨small_line (by decide), fun g1 kg1 => ?_⟩⟩
  have s6 := same_new (o := .tup [.int 0, .int 0]) k1
  have ft1 : (upd H5 t1 (.tup [.int 0, .int 0])) t1 = some (.tup (V2 (0, 0))) := upd_same
  generalize upd H5 t1 (.tup [.int 0, .int 0]) = H6 at s6 ft1 kg1 ⊢
  have s7 := same_new (o := .lst [.ref t1]) kg1
  have hg1 : (upd H6 g1 (.lst [.ref t1])) g1 = some (.lst [.ref t1]) := upd_same
  generalize upd H6 g1 (.lst [.ref t1]) = H7 at s7 hg1 ⊢
  have s57 := s6.trans s7
  have s17 := s5.trans s57
  refine ⟨w, g1, _, _, rfl, rfl, s17 _ _ hw, hg1, by rw [rfs_len]; exact small_line (by have := ok.1; show ws.length + 1 ≤ 1000000; omega), fun g kg => ?_⟩
  have ngH := s17.free kg
  have s8 := same_new (o := .lst (Rfs ws ++ [.ref t1])) kg
  have hg8 : (upd H7 g (.lst (Rfs ws ++ [.ref t1]))) g = some (.lst (Rfs (ws ++ [t1]))) := by
    rw [upd_same]
    unfold Rfs
    rw [List.map_append] <;> rfl
  generalize upd H7 g (.lst (Rfs ws ++ [.ref t1])) = H8 at s8 hg8 ⊢
  have pg8 : Prs K H8 (ws ++ [t1]) (cs ++ [(0, 0)]) := (Same.prs (s17.trans s8) hws).snoc (.inl (.inl (s8 _ _ (s7 _ _ ft1))))
  refine ⟨small_line (by decide), fun t kt => ?_⟩
  have s9 := same_new (o := .tup [.ref u, .ref g]) kt
  have ft : (upd H8 t (.tup [.ref u, .ref g])) t = some (.tup [.ref u, .ref g]) := upd_same
  generalize upd H8 t (.tup [.ref u, .ref g]) = H9 at s9 ft ⊢
  have s59 := s57.trans (s8.trans s9)
  have s19 := s5.trans s59
  have hts9 := s19 _ _ hts
  refine ⟨hd, _, _, rfl, rfl, hts9, by rw [rfs_len]; exact small_lt (by omega), ?_⟩
  have uh : u ≠ hd := (ne_of_none hts nu).symm
  have gh : g ≠ hd := (ne_of_none hts ngH).symm
  have th : t ≠ hd := ne_of ft hts9 (by intro e; cases e)
  have keep : KeepM [hd] H1 (upd H9 hd (.lst (Rfs ts ++ [.ref t]))) := fun b o nb e => by
    rw [upd_ne fun z => nb (List.mem_singleton.mpr z)]
    exact s19 _ _ e
  refine done _ _ ⟨_, _, _, _, _, _, _, rfl⟩ keep ⟨ts ++ [t], ?_, ?_, fun x hx => ?_⟩
  · rw [upd_same]
    unfold Rfs
    rw [List.map_append] <;> rfl
  · rw [List.length_append]
    show ts.length + 1 ≤ j + 1
    omega
  · rcases List.mem_append.mp hx with h | h
    · refine pair_keepM (M' := [hd]) (fun y hy => ?_) (fun y hy => ?_) keep (all x h)
      · rw [List.mem_singleton.mp hy]
        exact ⟨ts, hts⟩
      · rw [List.mem_singleton.mp hy]
        exact hhd
    · rw [List.mem_singleton.mp h]
      refine ⟨u, g, ps ++ [t0], ws ++ [t1], cs ++ [(0, 0)], ?_, ?_, ?_, prs_upd hts9 (Same.prs s59 ps5), prs_upd hts9 (Same.prs s9 pg8), fun z => hM u z nu, fun z => hM g z ngH⟩
      · rw [upd_ne th]
        exact ft
      · rw [upd_ne uh]
        exact s59 _ _ hu5
      · rw [upd_ne gh]
        exact s9 _ _ hg8
theorem asked_b_ok {H1 : Hp} {p md l R hd d : Addr} {n : Nat} {m : Int} {z6 : Option V} {cs : List Cmp} {qs : List Addr} {D : Ends} {σ : L2.St} {od : Obj} {kvs : List (List L2.Key × V)} (hσ : AskSt p md hd d m z6 σ)
    (hb : BenchAt K H1 p n cs l R qs) (hdd : H1 d = some (.frz od (.dT kvs))) (he : EndsK n cs kvs)
    (done : ∀ σ', AskSt p md hd d m z6 σ' → D.nx σ' H1) : asked_b K D σ H1 := by
  obtain ⟨z5, z7, z8, z9, z10, z11, z12, rfl⟩ := hσ
  unfold asked_b tMet
  walk_at "ev"
  obtain ⟨dx, _, hp, _, _, _, _, _, ok, n1, n10⟩ := id hb
  refine ⟨dx, _, hp, bf_no n l R (by decide +kernel) (by decide +kernel) (by decide +kernel), ?_⟩
  refine ⟨p, l, R, n, cs, qs, rfl, hb, ?_⟩
  refine isk_ty (.base (.int _)) (b := false) (by decide +kernel) ⟨false, rfl, ?_⟩
  rw [if_neg (by decide)]
  refine isk_ty (.base (.int _)) (b := true) (by decide +kernel) ⟨true, rfl, ?_⟩
  rw [if_neg (by decide)]
  refine ⟨d, kvs, rfl, .inr ⟨od, hdd⟩, rfl, ?_⟩
  rw [ends_len ok.2 he, if_pos rfl]
  exact done _ ⟨_, _, _, _, _, _, _, rfl⟩
theorem asked_c_ok {H1 : Hp} {p md l R hd d : Addr} {n : Nat} {m : Int} {z6 : Option V} {cs : List Cmp} {qs : List Addr} {D : Ends} {σ : L2.St} {od : Obj} {kvs : List (List L2.Key × V)} (hσ : AskSt p md hd d m z6 σ)
    (hb : BenchAt K H1 p n cs l R qs) (hdd : H1 d = some (.frz od (.dT kvs))) (he : EndsK n cs kvs)
    (done : ∀ σ' H', AskSt p md hd d m z6 σ' → Same H1 H' → D.nx σ' H') : asked_c K D σ H1 := by
  obtain ⟨z5, z7, z8, z9, z10, z11, z12, rfl⟩ := hσ
  unfold asked_c tMet
  walk_at "ev"
  obtain ⟨dx, _, hp, _, _, _, _, _, ok, n1, n10⟩ := id hb
  have kl := ends_len ok.2 he
  have ol := outs_len n cs
  have pn : 2 ^ n ≤ 2 ^ 10 := Nat.pow_le_pow_right (by decide) n10
  refine ⟨dx, _, hp, bf_no n l R (by decide +kernel) (by decide +kernel) (by decide +kernel), ?_⟩
  have comp : ∀ (H2 : Hp) (x : V) (Q : VK), Same H1 H2 → (∀ H3 W es, Same H2 H3 → H2 W = none → H3 W = some (.lst (Rfs es)) → Tus H3 es ((rowsOf kvs).filter fun r => !decide (Srt r)) → Q (.ref W) H3) →
      tLc (iKeys (tVar 4)) (gName 12) (tTest (tOp (rNeD K) (tCB (kList K) (tCons (tVar 12) (tNil))) (tCB (kSortTu K) (tCons (tVar 12) (tNil))))) (tVar 12) [12] [some (.ref p), some (.ref md), some (.int m), some (.ref hd), some (.ref d), z5, z6, z7, z8, some x, z10, z11, z12] H2 Q := fun H2 x Q s2 fin => by
    rw [lc_def]
    unfold iKeys
    walk_at "ev"
    refine ⟨od, .inr ⟨kvs, s2 _ _ hdd, ?_⟩⟩
    refine lck_keys (s2 _ _ hdd) (fun v => rfl) (fun D i acc H' => Same H2 H' ∧ ∃ es, acc = Rfs es ∧ Tus H' es (((rowsOf kvs).take i).filter fun r => !decide (Srt r))) (fun D nD => ⟨same_new nD, [], rfl, .nil⟩) (fun D i acc H' nD g => g.1 _ _ (s2 _ _ hdd)) ?_ ?_
    · intro D i k v q acc H' nD gk hi hq hD g
      obtain ⟨s, es, rfl, hes⟩ := g
      rw [key_row he (List.mem_of_getElem? gk)] at hq
      have rowi : (rowsOf kvs)[i]? = some (unK k) := by
        unfold rowsOf
        rw [List.getElem?_map, gk] <;> rfl
      have et : (rowsOf kvs).take (i + 1) = (rowsOf kvs).take i ++ [unK k] := by rw [List.take_add_one, rowi] <;> rfl
      have lesi : es.length ≤ i := by
        rw [hes.length]
        refine Nat.le_trans (List.length_filter_le _ _) ?_
        rw [List.length_take]
        exact Nat.min_le_left _ _
      unfold Turn
      walk_at "ev"
      refine ⟨q, _, rfl, .inr (.inl (.inl hq)), fun L nL => ?_⟩
      have t1 := same_new (o := .lst (vis (unK k))) nL
      have fL : (upd H' L (.lst (vis (unK k)))) L = some (.lst (vis (unK k))) := upd_same
      generalize upd H' L (.lst (vis (unK k))) = H3 at t1 fL ⊢
      refine ⟨q, unK k, rfl, .inl (.inl (t1 _ _ hq)), fun ns S perm sorted nS => ?_⟩
      have t2 := same_new (o := .lst (ns.map V.int)) nS
      have fS : (upd H3 S (.lst (ns.map V.int))) S = some (.lst (vis ns)) := upd_same
      generalize upd H3 S (.lst (ns.map V.int)) = H4 at t2 fS ⊢
      have t12 := t1.trans t2
      refine ne_rows (.inl (.inl (t2 _ _ fL))) (.inl (.inl fS)) ?_
      have hD4 := t12 _ _ hD
      have hes4 : Tus H4 es (((rowsOf kvs).take i).filter fun r => !decide (Srt r)) := hes.imp fun _ _ r => t12 _ _ r
      by_cases z : Srt (unK k)
      · have e : unK k = ns := srt_uniq perm.symm z sorted
        rw [decide_eq_true e]
        refine ⟨_, rfl, ?_⟩
        rw [if_neg (by decide)]
        refine ⟨_, hD4, s.trans t12, es, rfl, ?_⟩
        rw [et, List.filter_append, List.filter_cons, decide_eq_true z, List.filter_nil]
        simp only [Bool.not_true, Bool.false_eq_true, if_false, List.append_nil]
        exact hes4
      · have e : ¬ unK k = ns := fun e => z (by rw [e]; exact sorted)
        rw [decide_eq_false e]
        refine ⟨_, rfl, ?_⟩
        rw [if_pos (by decide)]
        refine GoOn.mk hD4 (by rw [rfs_len]; omega) ⟨same_mut (s.trans t12) nD, es ++ [q], by unfold Rfs; rw [List.map_append] <;> rfl, ?_⟩
        rw [et, List.filter_append, List.filter_cons, decide_eq_false z, List.filter_nil]
        simp only [Bool.not_false, if_true]
        refine All2.imp (hes4.snoc (t12 _ _ hq)) fun x r h => ?_
        rw [upd_ne (ne_of h hD4 (by intro z; cases z))]
        exact h
    · intro D acc H' nD hD g
      obtain ⟨s, es, rfl, hes⟩ := g
      have : (rowsOf kvs).take kvs.length = rowsOf kvs := List.take_of_length_le (by unfold rowsOf; rw [List.length_map] <;> exact Nat.le_refl _)
      rw [this] at hes
      exact fin H' D es s nD hD hes
  refine ⟨p, l, R, n, cs, qs, rfl, hb, fun z H2 s2 => ?_, fun v z H2 u s2 nu hu => ?_⟩
  · refine comp H2 .non _ s2 fun H3 W es s3 nW hW hes => ?_
    rw [wild_rows_none ok.2 he z] at hes
    refine ⟨rfl, Nat.zero_le _, fun e ke => ?_⟩
    have s4 := same_new (o := .lst ([] : List V)) ke
    refine eq_tus (.inl (.inl (s4 _ _ hW))) (hes.imp fun _ _ r => s4 _ _ r) (.inl (.inl upd_same)) ?_
    rw [decide_eq_true rfl, decide_eq_true rfl]
    refine ⟨rfl, ?_⟩
    rw [if_pos rfl]
    refine ⟨rfl, _, rfl, ?_⟩
    rw [decide_eq_true rfl, if_neg (by decide)]
    refine ⟨rfl, _, rfl, ?_⟩
    rw [decide_eq_true rfl, if_neg (by decide)]
    exact done _ _ ⟨_, _, _, _, _, _, _, rfl⟩ (s2.trans (s3.trans s4))
  · refine comp H2 (.ref u) _ s2 fun H3 W es s3 nW hW hes => ?_
    have hr := wild_rows_some ok.2 he z
    refine ⟨rfl, Nat.zero_le _, fun e ke => ?_⟩
    have s4 := same_new (o := .lst ([] : List V)) ke
    have hW4 := s4 _ _ hW
    have hes4 : Tus (upd H3 e (.lst ([] : List V))) es _ := hes.imp fun _ _ r => s4 _ _ r
    refine eq_tus (.inl (.inl hW4)) hes4 (.inl (.inl upd_same)) ?_
    rw [decide_eq_false (fun z => nomatch z), decide_eq_false (fun z => by rw [z] at hr; exact absurd hr List.not_mem_nil)]
    refine ⟨rfl, ?_⟩
    rw [if_pos rfl]
    generalize upd H3 e (.lst ([] : List V)) = H4 at s4 hW4 hes4 ⊢
    have s24 := s3.trans s4
    have hu4 := s24 _ _ hu
    refine ⟨rfl, _, rfl, ?_⟩
    rw [decide_eq_false (fun z => nomatch z), if_pos (by decide)]
    refine isk_ty (tyx_lst (.inl (.inl hu4))) (b := true) (by decide +kernel) ⟨true, rfl, ?_⟩
    rw [if_neg (by decide)]
    unfold tThen
    walk_at "ev"
    refine .inl ⟨u, _, rfl, .inl (.inl hu4), fun t nt => ?_⟩
    have s5 := same_new (o := .tup (vis (bareR n v))) nt
    have ft : (upd H4 t (.tup (vis (bareR n v)))) t = some (.tup (vis (bareR n v))) := upd_same
    generalize upd H4 t (.tup (vis (bareR n v))) = H5 at s5 ft ⊢
    refine notin_tus (.inl (.inl ft)) (.inl (.inl (s5 _ _ hW4))) (hes4.imp fun _ _ r => s5 _ _ r) hr ?_
    refine ⟨false, rfl, ?_⟩
    rw [if_neg Bool.false_ne_true]
    refine ⟨rfl, _, rfl, ?_⟩
    rw [decide_eq_false (fun z => nomatch z), if_pos (by decide)]
    have hu5 := s5 _ _ hu4
    refine ⟨u, _, rfl, .inl (.inl (.inl hu5)), fun c kc => ?_⟩
    have s6 := same_new (o := .lst (vis (bareR n v))) kc
    have fc : (upd H5 c (.lst (vis (bareR n v)))) c = some (.lst (vis (bareR n v))) := upd_same
    have cu : c ≠ u := (ne_of_none hu5 kc).symm
    generalize upd H5 c (.lst (vis (bareR n v))) = H6 at s6 fc ⊢
    have hu6 := s6 _ _ hu5
    refine ⟨.inl ⟨rfl, _, .inl (.inl hu6)⟩, ?_⟩
    refine ⟨u, _, _, rfl, rfl, hu6, by rw [ints_len, bareR_len]; exact small_lt (by omega), ?_⟩
    have s17 : Same H1 (upd H6 u (.lst (vis (bareR n v) ++ [.int 0]))) := same_mut ((s2.trans s24).trans (s5.trans s6)) nu
    have fc7 : (upd H6 u (.lst (vis (bareR n v) ++ [.int 0]))) c = some (.lst (vis (bareR n v))) := by rw [upd_ne cu]; exact fc
    generalize upd H6 u (.lst (vis (bareR n v) ++ [.int 0])) = H7 at s17 fc7 ⊢
    refine ⟨dx, _, s17 _ _ hp, bf_no n l R (by decide +kernel) (by decide +kernel) (by decide +kernel), ?_⟩
    refine ⟨p, l, R, n, cs, qs, rfl, bench_same s17 hb, (fun z2 => by rw [z] at z2; cases z2), fun v2 z2 H8 u2 s8 nu2 hu2 => ?_⟩
    obtain rfl : v = v2 := Option.some.inj (z.symm.trans z2)
    refine ne_rows (.inl (.inl hu2)) (.inl (.inl (s8 _ _ fc7))) ?_
    rw [decide_eq_true rfl]
    refine ⟨false, rfl, ?_⟩
    rw [if_neg Bool.false_ne_true]
    exact done _ _ ⟨_, _, _, _, _, _, _, rfl⟩ (s17.trans s8)
theorem asked_m_ok {H1 : Hp} {p md w l R hd d : Addr} {n j : Nat} {m z : Int} {cs : List Cmp} {qs ws M : List Addr} {D : Ends} {σ : L2.St} {od : Obj} {kvs : List (List L2.Key × V)} (hσ : AskSt p md hd d m (some (.int z)) σ) (z0 : 0 ≤ z) (z3 : z < 3)
    (hb : BenchAt K H1 p n cs l R qs) (hm : ModelAt K H1 md w n ws cs) (hh : HeldAt K H1 hd M j) (few : j ≤ 2000) (hM : ∀ x ∈ M, H1 x ≠ none) (hhd : hd ∈ M) (hdd : H1 d = some (.frz od (.dT kvs))) (he : EndsK n cs kvs)
    (done : ∀ σ' H', AskSt p md hd d m (some (.int z)) σ' → KeepM [hd] H1 H' → HeldAt K H' hd M (j + 1) → D.nx σ' H') : asked_m K D σ H1 := by
  obtain ⟨y5, y7, y8, y9, y10, y11, y12, rfl⟩ := id hσ
  have sub : ∀ y ∈ ([] : List Addr), y ∈ M := fun y hy => nomatch hy
  have up : ∀ H', Same H1 H' → HeldAt K H' hd M (j + 1) := fun H' s => by
    obtain ⟨ts, hts, lts, all⟩ := hh
    exact ⟨ts, s _ _ hts, by omega, fun t ht => pair_keepM (M' := []) (fun y hy => nomatch hy) (fun y hy => nomatch hy) (same_keepM s) (all t ht)⟩
  unfold asked_m
  walk_at "ev"
  rcases (by omega : z = 0 ∨ z = 1 ∨ z = 2) with rfl | rfl | rfl
  · rw [if_pos rfl]
    refine asked_a_ok hσ hb hm hh few hM hhd fun σ' H' st k h => ?_
    obtain ⟨y5, y7, y8, y9, y10, y11, y12, rfl⟩ := id st
    walk_at "ev"
    rw [if_neg (by decide), if_neg (by decide)]
    exact done _ _ ⟨_, _, _, _, _, _, _, rfl⟩ k h
  · rw [if_neg (by decide), if_pos rfl]
    refine asked_b_ok hσ hb hdd he fun σ' st => ?_
    obtain ⟨y5, y7, y8, y9, y10, y11, y12, rfl⟩ := id st
    walk_at "ev"
    rw [if_neg (by decide)]
    exact done _ _ ⟨_, _, _, _, _, _, _, rfl⟩ (fun b o _ e => e) (up _ (.refl _))
  · rw [if_neg (by decide), if_neg (by decide), if_pos rfl]
    refine asked_c_ok hσ hb hdd he fun σ' H' st s => ?_
    exact done _ _ st (same_keepM s) (up _ s)
theorem rd_lasked (vs : List V) (H : Hp) (Q : VK) (E : XK) (h : sp_lasked K vs H Q E) : r_lasked K { nx := fun _ H' => Q .non H', rt := Q } (L2.start N_lasked vs) H := by
  obtain ⟨p, md, w, l, R, hd, n, k, m, cs, qs, ws, M, rfl, m0, hb, hm, hh, few, hM, ⟨hhd, nl, nR, nw⟩, q⟩ := h
  unfold r_lasked N_lasked tDGet
  walk_at "ev"
  obtain ⟨hmd, hw, hws⟩ := id hm
  obtain ⟨dx, _, hp, _, _, _, _, _, ok, n1, n10⟩ := id hb
  refine ⟨_, get_lines hmd, _, get_web hmd, ?_⟩
  refine ⟨n, w, cs, rfl, ⟨ws, .inl (.inl hw), hws, ok, n1, n10⟩, fun H1 d od kvs s1 nd hdd he => ?_⟩
  have hh1 : HeldAt K H1 hd M k := held_keepM (M' := []) (fun y hy => nomatch hy) (fun y hy => nomatch hy) (same_keepM s1) List.not_mem_nil hh
  obtain ⟨ts, hts, _⟩ := id hh1
  have hL : ∀ x ∈ [hd], RfL H1 x := fun x hx => by
    rw [List.mem_singleton.mp hx]
    exact ⟨ts, hts⟩
  refine for_rng (n := 3) (fun Q h => h) (by decide) (fun i σ H' => ∃ z6, AskSt p md hd d m z6 σ ∧ KeepM [hd] H1 H' ∧ HeldAt K H' hd M (k + i)) ⟨_, ⟨_, _, _, _, _, _, _, rfl⟩, (fun b o _ e => e), hh1⟩ (fun i σ H' hi hW => ?_) (fun σ H' hW => ?_)
  · obtain ⟨z6, ⟨y5, y7, y8, y9, y10, y11, y12, rfl⟩, keep, hh2⟩ := hW
    have hb2 := bench_keepM hL keep (fun z => nl (List.mem_singleton.mp z).symm) (fun z => nR (List.mem_singleton.mp z).symm) (bench_same s1 hb)
    have hm2 := model_keepM hL keep (fun z => nw (List.mem_singleton.mp z).symm) (model_same s1 hm)
    have hd2 := keepM_of hL keep hdd (fun ts e => nomatch e)
    have hM1 : ∀ x ∈ M, H1 x ≠ none := fun x hx e => hM x hx (s1.free e)
    have hM2 : ∀ x ∈ M, H' x ≠ none := fun x hx e => by
      obtain ⟨ts2, hts2, _⟩ := id hh2
      by_cases z : x = hd
      · rw [z, hts2] at e
        cases e
      · cases e1 : H1 x with
        | none => exact hM1 x hx e1
        | some o =>
          rw [keep x o (fun y => z (List.mem_singleton.mp y)) e1] at e
          cases e
    rw [asked_f1]
    walk_at "ev"
    refine ⟨small_line (by decide), fun g kg => ?_⟩
    have s3 := same_new (o := .lst [.int 1, .int 2]) kg
    have fg : (upd H' g (.lst [.int 1, .int 2])) g = some (.lst [.int 1, .int 2]) := upd_same
    generalize upd H' g (.lst [.int 1, .int 2]) = H3 at s3 fg ⊢
    obtain ⟨jj, ej, lj⟩ : ∃ jj : Nat, m / 3 % 2 = (jj : Int) ∧ jj < 2 := ⟨(m / 3 % 2).toNat, by omega, by omega⟩
    rw [ej]
    obtain ⟨x, hx, x1, x2⟩ : ∃ x : Int, ([.int 1, .int 2] : List V)[jj]? = some (.int x) ∧ 1 ≤ x ∧ x ≤ 2 := by
      match jj, lj with
      | 0, _ => exact ⟨1, rfl, by decide, by decide⟩
      | 1, _ => exact ⟨2, rfl, by decide, by decide⟩
    refine ⟨⟨by decide, by decide⟩, ⟨g, _, _, .int x, rfl, rfl, .inl (.inl fg), atI_nat hx, x, rfl, by walk_at "cm", ?_⟩⟩
    have hh3 : HeldAt K H3 hd M (k + i) := held_keepM (M' := []) (fun y hy => nomatch hy) (fun y hy => nomatch hy) (same_keepM s3) List.not_mem_nil hh2
    refine asked_m_ok (j := k + i) ⟨_, _, _, _, _, _, _, rfl⟩ (Int.emod_nonneg _ (by decide)) (Int.emod_lt_of_pos _ (by decide)) (bench_same s3 hb2) (model_same s3 hm2) hh3 (by omega) (fun y hy e => hM2 y hy (s3.free e)) hhd (s3 _ _ hd2) he fun σ' H4 st kp hh4 => ⟨_, st, keep.trans ((same_keepM s3).trans kp), hh4⟩
  · obtain ⟨z6, ⟨y5, y7, y8, y9, y10, y11, y12, rfl⟩, keep, hh2⟩ := hW
    walk_at "ev"
    exact q _ ((same_keepM s1).trans keep) hh2
end Sw

set_option Elab.async false
set_option linter.all false
set_option maxRecDepth 100000
set_option maxHeartbeats 4000000
namespace Sw
open PySem PySem.Spec PyProof.Rows L2
local macro_rules | `(tactic| walk_at "ev") => `(tactic| simp only [tSeq, tCalW, quiet, tRzA, tRzO, tTryT, tTryK, tJoin, tJs, tBM, tBits, kStrI, kIntS, kLenS, mSplit, mPart, mIndex, tAsg, tRet, tRetN, tOp, tUn, tVar, tC, tNil, tCons, tCB, tDrop, tNext, tCont, tBreak, tIfS, tIf, tTest, tChain, tChain3, tB, tTup, tLst, tAnd, tOr, tNot, tAndV, tOrV, tNotV, tPart, tNoPart, tSl, tCal, tAug, ipI, rI0, rI, rU, rEq, rNe, kMin, kMax, gName, gCons, gNil, L2.start, wipe, List.map_cons, List.map_nil, List.length_cons, List.length_nil, List.cons_append, List.nil_append, List.append_nil, Nat.reduceAdd, Nat.reduceSub, List.replicate_succ, List.replicate_zero, List.getElem?_cons_zero, List.getElem?_cons_succ, List.set_cons_succ, List.set_cons_zero, Option.some.injEq, exists_eq_left', exists_eq_left, V.int.injEq, V.bl.injEq, V.str.injEq, V.ref.injEq, List.cons.injEq, exists_and_left, and_assoc, and_true, true_and, scal_ii, scal_ss, scal_nn, scal_bb, scal_ni, scal_in, decide_eq_true_eq, Bool.not_true, Bool.not_false, Bool.not_eq_true', decide_eq_false_iff_not, ite_not, reduceCtorEq, if_true, if_false, Bool.false_eq_true, ne_eq, not_true_eq_false, not_false_eq_true, Int.reduceLT, Int.reduceLE, Int.reduceNeg])
local macro_rules | `(tactic| walk_at "cm") => `(tactic| first | exact Or.inr ⟨by decide, by decide⟩ | exact Or.inl ⟨by decide, by decide⟩ | exact Or.inl ⟨by omega, by omega⟩ | exact Or.inr ⟨by omega, by omega⟩)
variable {K : PySem.W.Frag}
/-! ### a deed -/
def deed_s (K : PySem.W.Frag) : TS := (tSeq (tAsg (tVar 8) (gTup K 2 (gCons (gName 9) (gCons (gName 10) (gNil))))) (tSeq (tAsg (tOp (rNeD K) (tLc (iKeys (tCal (sp_lends K) (tCons (tVar 5) (tCons (tDGet (tVar 1) (tC (.str "web"))) (tNil))))) (gName 13) (tTest (tOp oGt (tOp (rIxT K) (tVar 13) (tVar 9)) (tOp (rIxT K) (tVar 13) (tVar 10)))) (tVar 13) [13]) (tLst (tNil))) (gName 11)) (tSeq (tDrop (tBM K "list" rAppend (tDGet (tVar 1) (tC (.str "web"))) (tCons (tVar 8) (tNil)))) (tSeq (tAsg (tMet K "Bench" "put" (quiet (sp_bput K)) (tVar 0) (tCons (tVar 8) (tNil))) (gName 12)) (tRet (tAndV (tCB (rIsK K) (tCons (tVar 12) (tCons (tC (.ty "bool")) (tNil)))) (tOp rEq (tVar 12) (tVar 11))))))))
def deed_r (K : PySem.W.Frag) : TS := tSeq (tAsg (tOp oMod (tOp oDiv (tVar 4) (tC (.int 5))) (tVar 5)) (gName 6)) (tSeq (tAsg (tOp oMod (tOp oAdd (tOp oAdd (tVar 6) (tC (.int 1))) (tOp oMod (tOp oDiv (tVar 4) (tC (.int 50))) (tOp oSub (tVar 5) (tC (.int 1))))) (tVar 5)) (gName 7)) (tSeq (tAsg (tIf (tTest (tOp oGt (tOp oMod (tOp oDiv (tVar 4) (tC (.int 500))) (tC (.int 3))) (tC (.int 0)))) (tTup (tCons (tCB kMin (tCons (tVar 6) (tCons (tVar 7) (tNil)))) (tCons (tCB kMax (tCons (tVar 6) (tCons (tVar 7) (tNil)))) (tNil)))) (tTup (tCons (tVar 6) (tCons (tVar 7) (tNil))))) (gName 8)) (deed_s K)))
theorem deed_eq (K : PySem.W.Frag) : r_ldeed K = tSeq (tAsg (tCal (sp_ldraw K) (tCons (tVar 2) (tCons (tVar 3) (tCons (tC (.int 100)) (tNil))))) (gName 4)) (tSeq (tAsg (tDGet (tVar 1) (tC (.str "lines"))) (gName 5)) (tSeq (tIfS (tOr (tAnd (tTest (tOp rEq (tOp oMod (tVar 4) (tC (.int 5))) (tC (.int 0)))) (tTest (tOp (rNeD K) (tDGet (tVar 1) (tC (.str "web"))) (tLst (tNil))))) (tTest (tOp rEq (tCB (kLen K) (tCons (tDGet (tVar 1) (tC (.str "web"))) (tNil))) (tC (.int 60))))) (tRet (tOp (rEqD K) (tMet K "Bench" "take_back" (quiet (sp_btake K)) (tVar 0) (tNil)) (tBM0 K "list" rPop (tDGet (tVar 1) (tC (.str "web")))))) (tNext)) (tSeq (tIfS (tTest (tOp rEq (tVar 5) (tC (.int 1)))) (tRet (tOp rEq (tCal (sp_lword K) (tCons (tCal (sp_ltried K) (tCons (tVar 0) (tCons (tTup (tCons (tC (.int 0)) (tCons (tC (.int 0)) (tNil)))) (tNil)))) (tNil))) (tC (.str "web")))) (tNext)) (deed_r K)))) := rfl
theorem ne_tus {H : Hp} {a b : Addr} {es : List Addr} {rs : List Row} {Q : VK} (h1 : SqL K H a (Rfs es)) (h2 : Tus H es rs) (h3 : SqL K H b (Rfs [])) (q : Q (.bl (!decide (rs = []))) H) : rNeD K (.ref a) (.ref b) H Q :=
  ⟨dL dT rs, dL dT [], .lst h1 (dp_tus h2), .lst h3 .nil, enc_rowT.list.shaped (by decide) _, enc_rowT.list.shaped (by decide) _, by rw [enc_rowT.list.eq]; exact q⟩
theorem due_eq {n : Nat} {cs : List Cmp} {c : Cmp} {kvs : List (List L2.Key × V)} (he : EndsK n cs kvs) : (bares n).any (gtB cs c.1 c.2) = !decide (((rowsOf kvs).filter fun r => decide (at0 r c.1 > at0 r c.2)) = []) := by
  by_cases z : ((rowsOf kvs).filter fun r => decide (at0 r c.1 > at0 r c.2)) = []
  · rw [decide_eq_true z, Bool.not_true, Bool.eq_false_iff, ne_eq, List.any_eq_true]
    rintro ⟨x, hx, e⟩
    rw [List.filter_eq_nil_iff] at z
    exact z (gone cs x) ((mem_rows he).mpr ⟨x, hx, rfl⟩) e
  · rw [decide_eq_false z, Bool.not_false, List.any_eq_true]
    cases e : ((rowsOf kvs).filter fun r => decide (at0 r c.1 > at0 r c.2)) with
    | nil => exact absurd e z
    | cons r rs =>
      have hr : r ∈ ((rowsOf kvs).filter fun r => decide (at0 r c.1 > at0 r c.2)) := by rw [e]; exact List.mem_cons_self
      rw [List.mem_filter] at hr
      obtain ⟨x, hx, rfl⟩ := (mem_rows he).mp hr.1
      exact ⟨x, hx, hr.2⟩
theorem deed_s_ok {H : Hp} {p md w l R t : Addr} {n : Nat} {m a b : Int} {cs : List Cmp} {c : Cmp} {qs ws : List Addr} {D : Ends} {y2 y3 : V} {Q : VK} (hrt : D.rt = Q) (hb : BenchAt K H p n cs l R qs) (hm : ModelAt K H md w n ws cs) (wl : w ≠ l) (wR : w ≠ R) (few : cs.length < 60) (ht : H t = some (.tup (V2 c))) (okc : CmpOk n c)
    (q : ∀ H' ds rs us, KeepM [l, R, w] H H' → BenchAt K H' p n ds l R rs → ModelAt K H' md w n us ds → Q (.bl true) H') :
    deed_s K D [some (.ref p), some (.ref md), some y2, some y3, some (.int m), some (.int (n : Int)), some (.int a), some (.int b), some (.ref t), none, none, none, none, none] H := by
  obtain ⟨hmd, hw, hws⟩ := id hm
  obtain ⟨dx, _, hp, _, _, _, _, _, ok, n1, n10⟩ := id hb
  unfold deed_s tMet tDGet
  walk_at "ev"
  refine g2_run (.inl (.inl ht)) ?_
  walk_at "ev"
  rw [lc_def]
  unfold iKeys
  walk_at "ev"
  refine ⟨_, get_web hmd, ?_⟩
  refine ⟨n, w, cs, rfl, ⟨ws, .inl (.inl hw), hws, ok, n1, n10⟩, fun H1 d od kvs s1 nd hdd he => ?_⟩
  have kl := ends_len ok.2 he
  have ol := outs_len n cs
  have pn : 2 ^ n ≤ 2 ^ 10 := Nat.pow_le_pow_right (by decide) n10
  refine ⟨d, rfl, od, .inr ⟨kvs, hdd, ?_⟩⟩
  refine lck_keys hdd (fun v => rfl) (fun C i acc H' => Same H1 H' ∧ ∃ es, acc = Rfs es ∧ Tus H' es (((rowsOf kvs).take i).filter fun r => decide (at0 r c.1 > at0 r c.2))) (fun C nC => ⟨same_new nC, [], rfl, .nil⟩) (fun C i acc H' nC g => g.1 _ _ hdd) ?_ ?_
  · intro C i k v x acc H' nC gk hi hx hC g
    obtain ⟨s, es, rfl, hes⟩ := g
    rw [key_row he (List.mem_of_getElem? gk)] at hx
    have rowi : (rowsOf kvs)[i]? = some (unK k) := by
      unfold rowsOf
      rw [List.getElem?_map, gk] <;> rfl
    have et : (rowsOf kvs).take (i + 1) = (rowsOf kvs).take i ++ [unK k] := by rw [List.take_add_one, rowi] <;> rfl
    have lesi : es.length ≤ i := by
      rw [hes.length]
      refine Nat.le_trans (List.length_filter_le _ _) ?_
      rw [List.length_take]
      exact Nat.min_le_left _ _
    have lr : (unK k).length = n := by
      obtain ⟨x, hx, e⟩ := (mem_rows he).mp (List.mem_of_getElem? rowi)
      rw [e, gone_len]
      exact (bares_ok hx).1
    obtain ⟨g1, g2⟩ := cmp_at okc lr
    unfold Turn
    walk_at "ev"
    refine ⟨x, _, _, _, rfl, rfl, .inl (.inl hx), atI_nat g1, ?_⟩
    refine ⟨x, _, _, _, rfl, rfl, .inl (.inl hx), atI_nat g2, ?_⟩
    refine ⟨_, rfl, _, rfl, ?_⟩
    by_cases z : at0 (unK k) c.2 < at0 (unK k) c.1
    · rw [if_pos z]
      refine GoOn.mk hC (by rw [rfs_len]; omega) ⟨same_mut s nC, es ++ [x], by unfold Rfs; rw [List.map_append] <;> rfl, ?_⟩
      rw [et, List.filter_append, List.filter_cons, decide_eq_true z, List.filter_nil]
      simp only [if_true]
      refine All2.imp (hes.snoc hx) fun x r h => ?_
      rw [upd_ne (ne_of h hC (by intro z; cases z))]
      exact h
    · rw [if_neg z]
      refine ⟨_, hC, s, es, rfl, ?_⟩
      rw [et, List.filter_append, List.filter_cons, decide_eq_false z, List.filter_nil]
      simp only [Bool.false_eq_true, if_false, List.append_nil]
      exact hes
  · intro C acc H' nC hC g
    obtain ⟨s, es, rfl, hes⟩ := g
    have : (rowsOf kvs).take kvs.length = rowsOf kvs := List.take_of_length_le (by unfold rowsOf; rw [List.length_map] <;> exact Nat.le_refl _)
    rw [this] at hes
    have s0 := s1.trans s
    refine ⟨Nat.zero_le _, fun e ke => ?_⟩
    have s4 := same_new (o := .lst ([] : List V)) ke
    refine ne_tus (.inl (.inl (s4 _ _ hC))) (hes.imp fun _ _ r => s4 _ _ r) (.inl (.inl upd_same)) ?_
    have s5 := s0.trans s4
    generalize upd H' e (.lst ([] : List V)) = H5 at s5 ⊢
    have hw5 := s5 _ _ hw
    refine ⟨_, get_web (s5 _ _ hmd), .inl ⟨rfl, _, .inl (.inl hw5)⟩, ?_⟩
    refine ⟨w, _, _, rfl, rfl, hw5, by rw [rfs_len, hws.length]; exact small_lt (by omega), ?_⟩
    have hM : ∀ x ∈ [w], RfL H5 x := fun x hx => by
      rw [List.mem_singleton.mp hx]
      exact ⟨ws, hw5⟩
    have k6 : KeepM [w] H5 (upd H5 w (.lst (Rfs ws ++ [.ref t]))) := fun b o nb e => by
      rw [upd_ne fun z => nb (List.mem_singleton.mpr z)]
      exact e
    have hb6 := bench_keepM hM k6 (fun z => wl (List.mem_singleton.mp z).symm) (fun z => wR (List.mem_singleton.mp z).symm) (bench_same s5 hb)
    have hw6 : (upd H5 w (.lst (Rfs ws ++ [.ref t]))) w = some (.lst (Rfs (ws ++ [t]))) := by
      rw [upd_same]
      unfold Rfs
      rw [List.map_append] <;> rfl
    have ht6 := keepM_of hM k6 (s5 _ _ ht) (fun ts e => nomatch e)
    have hmd6 := keepM_of hM k6 (s5 _ _ hmd) (fun ts e => nomatch e)
    have ps6 : Prs K (upd H5 w (.lst (Rfs ws ++ [.ref t]))) (ws ++ [t]) (cs ++ [c]) := (prs_keepM hM k6 (Same.prs s5 hws)).snoc (.inl (.inl ht6))
    generalize upd H5 w (.lst (Rfs ws ++ [.ref t])) = H6 at k6 hb6 hw6 ht6 hmd6 ps6 ⊢
    obtain ⟨dx6, rs6, hp6, hl6, _, hR6, _⟩ := id hb6
    refine ⟨dx6, _, hp6, bf_no n l R (by decide +kernel) (by decide +kernel) (by decide +kernel), ?_⟩
    refine ⟨p, l, R, .ref t, true, n, cs, qs, rfl, hb6, it_cmp (.inl (.inl ht6)) okc, (fun _ _ => ⟨t, c, rfl, .inl (.inl ht6), okc, fun H7 u k7 nu hb7 => ?_⟩), fun bad => ?_⟩
    · refine isk_ty (.base (.bl _)) (b := true) (by decide +kernel) ⟨true, rfl, ?_⟩
      rw [if_pos rfl]
      refine ⟨rfl, ?_⟩
      rw [hrt, due_eq he, decide_eq_true rfl]
      refine q _ (cs ++ [c]) _ (ws ++ [t]) (fun b o nb e => ?_) hb7 ⟨k7 _ _ (ne_of hmd6 hl6 (by intro e; cases e)) (ne_of hmd6 hR6 (by intro e; cases e)) hmd6, k7 _ _ wl wR hw6, prs_keepB hl6 hR6 k7 ps6⟩
      exact k7 _ _ (fun z => nb (by rw [z]; simp)) (fun z => nb (by rw [z]; simp)) (k6 _ _ (fun z => nb (by rw [List.mem_singleton.mp z]; simp)) (s5 _ _ e))
    · exfalso
      rcases bad with h | h
      · cases h
      · omega
theorem turn_ne {n a x : Int} (h1 : 0 ≤ a) (h2 : a < n) (x1 : 0 ≤ x) (x2 : x < n - 1) : (a + 1 + x) % n ≠ a := by
  have e : (a + 1 + x) % n = a + 1 + x ∨ (a + 1 + x) % n = a + 1 + x - n := by
    by_cases z : a + 1 + x < n
    · exact .inl (Int.emod_eq_of_lt (by omega) z)
    · refine .inr ?_
      have e : a + 1 + x = (a + 1 + x - n) + n := by omega
      rw [e, Int.add_emod_right]
      rw [Int.emod_eq_of_lt (by omega) (by omega)]
      omega
  omega
theorem deed_r_ok {H : Hp} {p md w l R : Addr} {n : Nat} {m : Int} {cs : List Cmp} {qs ws : List Addr} {D : Ends} {y2 y3 : V} {Q : VK} (hrt : D.rt = Q) (hb : BenchAt K H p n cs l R qs) (hm : ModelAt K H md w n ws cs) (wl : w ≠ l) (wR : w ≠ R) (few : cs.length < 60) (m0 : 0 ≤ m) (n2 : 2 ≤ n)
    (q : ∀ H' ds rs us, KeepM [l, R, w] H H' → BenchAt K H' p n ds l R rs → ModelAt K H' md w n us ds → Q (.bl true) H') :
    deed_r K D [some (.ref p), some (.ref md), some y2, some y3, some (.int m), some (.int (n : Int)), none, none, none, none, none, none, none, none] H := by
  unfold deed_r
  walk_at "ev"
  have n0 : (0 : Int) < (n : Int) := by omega
  have a0 := Int.emod_nonneg (m / 5) (b := (n : Int)) (by omega)
  have a1 := Int.emod_lt_of_pos (m / 5) n0
  have x0 := Int.emod_nonneg (m / 50) (b := (n : Int) - 1) (by omega)
  have x1 := Int.emod_lt_of_pos (m / 50) (b := (n : Int) - 1) (by omega)
  have ne := turn_ne a0 a1 x0 x1
  have b0 := Int.emod_nonneg (m / 5 % (n : Int) + 1 + m / 50 % ((n : Int) - 1)) (b := (n : Int)) (by omega)
  have b1 := Int.emod_lt_of_pos (m / 5 % (n : Int) + 1 + m / 50 % ((n : Int) - 1)) n0
  generalize (m / 5 % (n : Int) + 1 + m / 50 % ((n : Int) - 1)) % (n : Int) = b at ne b0 b1 ⊢
  generalize m / 5 % (n : Int) = a at ne a0 a1 x0 x1 ⊢
  have fin : ∀ i j : Int, 0 ≤ i → i < n → 0 ≤ j → j < n → i ≠ j → ∀ t, H t = none → deed_s K D [some (.ref p), some (.ref md), some y2, some y3, some (.int m), some (.int (n : Int)), some (.int a), some (.int b), some (.ref t), none, none, none, none, none] (upd H t (.tup [.int i, .int j])) := fun i j i0 i1 j0 j1 ij t nt => by
    have s := same_new (o := .tup [.int i, .int j]) nt
    have e1 : i = (i.toNat : Int) := by omega
    have e2 : j = (j.toNat : Int) := by omega
    have ht : (upd H t (.tup [.int i, .int j])) t = some (.tup (V2 (i.toNat, j.toNat))) := by
      rw [upd_same]
      show some (HO.tup [.int i, .int j]) = some (.tup [.int (i.toNat : Int), .int (j.toNat : Int)])
      rw [← e1, ← e2]
    refine deed_s_ok hrt (bench_same s hb) (model_same s hm) wl wR few ht ⟨by show i.toNat < n; omega, by show j.toNat < n; omega, by show ¬ i.toNat = j.toNat; omega⟩ fun H' ds rs us k => q H' ds rs us ((same_keepM s).trans k)
  refine ⟨⟨by decide, by decide⟩, by omega, ⟨by decide, by decide⟩, by omega, by omega, ⟨by decide, by decide⟩, ?_⟩
  split
  · refine ⟨small_line (by decide), fun t nt => fin _ _ ?_ ?_ ?_ ?_ ?_ t nt⟩
    · split <;> omega
    · split <;> omega
    · split <;> omega
    · split <;> omega
    · split <;> split <;> omega
  · exact ⟨small_line (by decide), fun t nt => fin _ _ a0 a1 b0 b1 (fun z => ne z.symm) t nt⟩
theorem rd_ldeed (vs : List V) (H : Hp) (Q : VK) (E : XK) (h : sp_ldeed K vs H Q E) : r_ldeed K { nx := fun _ H' => Q .non H', rt := Q } (L2.start N_ldeed vs) H := by
  obtain ⟨p, md, w, l, R, n, c, k, cs, qs, ws, rfl, ⟨k0, k1⟩, hb, hm, wl, wR, q⟩ := h
  rw [deed_eq]
  unfold N_ldeed tMet tDGet tBM0
  walk_at "ev"
  obtain ⟨hmd, hw, hws⟩ := id hm
  obtain ⟨dx, _, hp, _, _, _, _, _, ok, n1, n10⟩ := id hb
  refine ⟨c, k, 100, rfl, ⟨k0, k1⟩, ⟨by decide, by decide⟩, fun m m0 m1 => ?_⟩
  refine ⟨_, get_lines hmd, m, rfl, ?_⟩
  split
  · refine ⟨_, get_web hmd, Nat.zero_le _, fun e ke => ?_⟩
    have s := same_new (o := .lst ([] : List V)) ke
    refine ne_webs (qs := []) (ds := []) (.inl (.inl (s _ _ hw))) (Same.prs s hws) (.inl (.inl upd_same)) .nil ?_
    generalize upd H e (.lst ([] : List V)) = H1 at s ⊢
    by_cases ne : cs = []
    · rw [decide_eq_true ne]
      refine ⟨false, rfl, ?_⟩
      rw [if_neg Bool.false_ne_true]
      refine ⟨_, get_web (s _ _ hmd), ?_⟩
      refine ⟨w, _, rfl, .inl (.inl (.inl (s _ _ hw))), rfl, ?_⟩
      rw [rfs_len, hws.length]
      by_cases z60 : cs.length = 60
      · rw [if_pos (by rw [z60]; rfl)]
        have ne : cs ≠ [] := fun z => by rw [z] at z60; cases z60
        refine ⟨dx, _, s _ _ hp, bf_no n l R (by decide +kernel) (by decide +kernel) (by decide +kernel), ?_⟩
        refine ⟨p, l, R, n, cs, qs, rfl, bench_same s hb, (fun z => absurd z ne), fun ds e ec H2 g k2 hb2 hg => ?_⟩
        subst ec
        have hm1 := model_same s hm
        obtain ⟨hmd1, hw1, hws1⟩ := hm1
        obtain ⟨_, rs1, _, hl1, _, hR1, _⟩ := id (bench_same s hb)
        have hmd2 := k2 _ _ (ne_of hmd1 hl1 (by intro e; cases e)) (ne_of hmd1 hR1 (by intro e; cases e)) hmd1
        have hw2 := k2 _ _ wl wR hw1
        have ps2 := prs_keepB hl1 hR1 k2 hws1
        have lw := hws.length
        rw [List.length_append] at lw
        have lw' : ws.length = ds.length + 1 := lw
        obtain ⟨x, hx, hxe⟩ := All2.get ps2 (i := ds.length) (b := e) (by rw [List.getElem?_append_right (Nat.le_refl _), Nat.sub_self] <;> rfl)
        refine ⟨_, get_web hmd2, .inl ⟨rfl, _, .inl (.inl hw2)⟩, ?_⟩
        refine ⟨w, _, .ref x, rfl, rfl, hw2, by rw [rfs_len, lw', Nat.add_sub_cancel]; exact rfs_at hx, ?_⟩
        refine eq_cmp (c := e) (d := e) (sqt_upd hw2 hg) (sqt_upd hw2 hxe) ?_
        rw [decide_eq_true rfl]
        have hM2 : ∀ x ∈ [w], RfL H2 x := fun x hx => by
          rw [List.mem_singleton.mp hx]
          exact ⟨ws, hw2⟩
        have k3 : KeepM [w] H2 (upd H2 w (.lst (Rfs ws).dropLast)) := fun b o nb e => by
          rw [upd_ne fun z => nb (List.mem_singleton.mpr z)]
          exact e
        refine q _ ds _ ws.dropLast (fun b o nb e => k3 _ _ (fun z => nb (by rw [List.mem_singleton.mp z]; simp)) (k2 _ _ (fun z => nb (by rw [z]; simp)) (fun z => nb (by rw [z]; simp)) (s _ _ e))) (bench_keepM hM2 k3 (fun z => wl (List.mem_singleton.mp z).symm) (fun z => wR (List.mem_singleton.mp z).symm) hb2) ⟨keepM_of hM2 k3 hmd2 (fun ts e => nomatch e), ?_, ?_⟩
        · rw [upd_same]
          unfold Rfs
          rw [List.map_dropLast]
        · have t := All2.take (prs_keepM hM2 k3 ps2) ds.length
          rw [List.take_left] at t
          have e2 : ws.dropLast = ws.take ds.length := by rw [List.dropLast_eq_take, lw', Nat.add_sub_cancel]
          rw [e2]
          exact t
      · rw [if_neg (by intro z; injection z with z; omega)]
        refine ⟨rfl, ?_⟩
        by_cases one : n = 1
        · rw [if_pos (by rw [one]; rfl)]
          refine ⟨small_line (by decide), fun t nt => ?_⟩
          have s2 := same_new (o := .tup [.int 0, .int 0]) nt
          have ht : (upd H1 t (.tup [.int 0, .int 0])) t = some (.tup (V2 (0, 0))) := upd_same
          have it : ItOk K _ n (.ref t) (twV n (.int 0) (.int 0)) := .two (.inl (.inl ht)) (.int _) (.int _)
          have et : twV n (.int 0) (.int 0) = false := by unfold twV; simp
          rw [et] at it
          have s3 := s.trans s2
          refine ⟨p, l, R, .ref t, n, cs, qs, rfl, bench_same s3 hb, .inr ⟨(fun z => nomatch z), false, it, .inl rfl, fun H3 a d s4 ha hd => ?_⟩⟩
          refine ⟨.ref a, "web", rfl, .inr ⟨a, some d, "BadWeb", rfl, ha, .inr ⟨d, _, rfl, hd⟩, by unfold errWs; simp⟩, fun H4 s5 => ⟨rfl, ?_⟩⟩
          rw [decide_eq_true rfl]
          have sf := s3.trans (s4.trans s5)
          exact q _ cs qs ws (same_keepM sf) (bench_same sf hb) (model_same sf hm)
        · rw [if_neg (by intro z; injection z with z; omega)]
          have c60 := ok.1
          exact deed_r_ok rfl (bench_same s hb) (model_same s hm) wl wR (by omega) m0 (by omega) fun H' ds rs us k => q H' ds rs us ((same_keepM s).trans k)
    · rw [decide_eq_false ne]
      refine ⟨true, rfl, ?_⟩
      rw [if_pos rfl]
      refine ⟨dx, _, s _ _ hp, bf_no n l R (by decide +kernel) (by decide +kernel) (by decide +kernel), ?_⟩
      refine ⟨p, l, R, n, cs, qs, rfl, bench_same s hb, (fun z => absurd z ne), fun ds e ec H2 g k2 hb2 hg => ?_⟩
      subst ec
      have hm1 := model_same s hm
      obtain ⟨hmd1, hw1, hws1⟩ := hm1
      obtain ⟨_, rs1, _, hl1, _, hR1, _⟩ := id (bench_same s hb)
      have hmd2 := k2 _ _ (ne_of hmd1 hl1 (by intro e; cases e)) (ne_of hmd1 hR1 (by intro e; cases e)) hmd1
      have hw2 := k2 _ _ wl wR hw1
      have ps2 := prs_keepB hl1 hR1 k2 hws1
      have lw := hws.length
      rw [List.length_append] at lw
      have lw' : ws.length = ds.length + 1 := lw
      obtain ⟨x, hx, hxe⟩ := All2.get ps2 (i := ds.length) (b := e) (by rw [List.getElem?_append_right (Nat.le_refl _), Nat.sub_self] <;> rfl)
      refine ⟨_, get_web hmd2, .inl ⟨rfl, _, .inl (.inl hw2)⟩, ?_⟩
      refine ⟨w, _, .ref x, rfl, rfl, hw2, by rw [rfs_len, lw', Nat.add_sub_cancel]; exact rfs_at hx, ?_⟩
      refine eq_cmp (c := e) (d := e) (sqt_upd hw2 hg) (sqt_upd hw2 hxe) ?_
      rw [decide_eq_true rfl]
      have hM2 : ∀ x ∈ [w], RfL H2 x := fun x hx => by
        rw [List.mem_singleton.mp hx]
        exact ⟨ws, hw2⟩
      have k3 : KeepM [w] H2 (upd H2 w (.lst (Rfs ws).dropLast)) := fun b o nb e => by
        rw [upd_ne fun z => nb (List.mem_singleton.mpr z)]
        exact e
      refine q _ ds _ ws.dropLast (fun b o nb e => k3 _ _ (fun z => nb (by rw [List.mem_singleton.mp z]; simp)) (k2 _ _ (fun z => nb (by rw [z]; simp)) (fun z => nb (by rw [z]; simp)) (s _ _ e))) (bench_keepM hM2 k3 (fun z => wl (List.mem_singleton.mp z).symm) (fun z => wR (List.mem_singleton.mp z).symm) hb2) ⟨keepM_of hM2 k3 hmd2 (fun ts e => nomatch e), ?_, ?_⟩
      · rw [upd_same]
        unfold Rfs
        rw [List.map_dropLast]
      · have t := All2.take (prs_keepM hM2 k3 ps2) ds.length
        rw [List.take_left] at t
        have e2 : ws.dropLast = ws.take ds.length := by rw [List.dropLast_eq_take, lw', Nat.add_sub_cancel]
        rw [e2]
        exact t
  · have s : Same H H := .refl H
    refine ⟨_, get_web (s _ _ hmd), ?_⟩
    refine ⟨w, _, rfl, .inl (.inl (.inl (s _ _ hw))), rfl, ?_⟩
    rw [rfs_len, hws.length]
    by_cases z60 : cs.length = 60
    · rw [if_pos (by rw [z60]; rfl)]
      have ne : cs ≠ [] := fun z => by rw [z] at z60; cases z60
      refine ⟨dx, _, s _ _ hp, bf_no n l R (by decide +kernel) (by decide +kernel) (by decide +kernel), ?_⟩
      refine ⟨p, l, R, n, cs, qs, rfl, bench_same s hb, (fun z => absurd z ne), fun ds e ec H2 g k2 hb2 hg => ?_⟩
      subst ec
      have hm1 := model_same s hm
      obtain ⟨hmd1, hw1, hws1⟩ := hm1
      obtain ⟨_, rs1, _, hl1, _, hR1, _⟩ := id (bench_same s hb)
      have hmd2 := k2 _ _ (ne_of hmd1 hl1 (by intro e; cases e)) (ne_of hmd1 hR1 (by intro e; cases e)) hmd1
      have hw2 := k2 _ _ wl wR hw1
      have ps2 := prs_keepB hl1 hR1 k2 hws1
      have lw := hws.length
      rw [List.length_append] at lw
      have lw' : ws.length = ds.length + 1 := lw
      obtain ⟨x, hx, hxe⟩ := All2.get ps2 (i := ds.length) (b := e) (by rw [List.getElem?_append_right (Nat.le_refl _), Nat.sub_self] <;> rfl)
      refine ⟨_, get_web hmd2, .inl ⟨rfl, _, .inl (.inl hw2)⟩, ?_⟩
      refine ⟨w, _, .ref x, rfl, rfl, hw2, by rw [rfs_len, lw', Nat.add_sub_cancel]; exact rfs_at hx, ?_⟩
      refine eq_cmp (c := e) (d := e) (sqt_upd hw2 hg) (sqt_upd hw2 hxe) ?_
      rw [decide_eq_true rfl]
      have hM2 : ∀ x ∈ [w], RfL H2 x := fun x hx => by
        rw [List.mem_singleton.mp hx]
        exact ⟨ws, hw2⟩
      have k3 : KeepM [w] H2 (upd H2 w (.lst (Rfs ws).dropLast)) := fun b o nb e => by
        rw [upd_ne fun z => nb (List.mem_singleton.mpr z)]
        exact e
      refine q _ ds _ ws.dropLast (fun b o nb e => k3 _ _ (fun z => nb (by rw [List.mem_singleton.mp z]; simp)) (k2 _ _ (fun z => nb (by rw [z]; simp)) (fun z => nb (by rw [z]; simp)) (s _ _ e))) (bench_keepM hM2 k3 (fun z => wl (List.mem_singleton.mp z).symm) (fun z => wR (List.mem_singleton.mp z).symm) hb2) ⟨keepM_of hM2 k3 hmd2 (fun ts e => nomatch e), ?_, ?_⟩
      · rw [upd_same]
        unfold Rfs
        rw [List.map_dropLast]
      · have t := All2.take (prs_keepM hM2 k3 ps2) ds.length
        rw [List.take_left] at t
        have e2 : ws.dropLast = ws.take ds.length := by rw [List.dropLast_eq_take, lw', Nat.add_sub_cancel]
        rw [e2]
        exact t
    · rw [if_neg (by intro z; injection z with z; omega)]
      refine ⟨rfl, ?_⟩
      by_cases one : n = 1
      · rw [if_pos (by rw [one]; rfl)]
        refine ⟨small_line (by decide), fun t nt => ?_⟩
        have s2 := same_new (o := .tup [.int 0, .int 0]) nt
        have ht : (upd H t (.tup [.int 0, .int 0])) t = some (.tup (V2 (0, 0))) := upd_same
        have it : ItOk K _ n (.ref t) (twV n (.int 0) (.int 0)) := .two (.inl (.inl ht)) (.int _) (.int _)
        have et : twV n (.int 0) (.int 0) = false := by unfold twV; simp
        rw [et] at it
        have s3 := s.trans s2
        refine ⟨p, l, R, .ref t, n, cs, qs, rfl, bench_same s3 hb, .inr ⟨(fun z => nomatch z), false, it, .inl rfl, fun H3 a d s4 ha hd => ?_⟩⟩
        refine ⟨.ref a, "web", rfl, .inr ⟨a, some d, "BadWeb", rfl, ha, .inr ⟨d, _, rfl, hd⟩, by unfold errWs; simp⟩, fun H4 s5 => ⟨rfl, ?_⟩⟩
        rw [decide_eq_true rfl]
        have sf := s3.trans (s4.trans s5)
        exact q _ cs qs ws (same_keepM sf) (bench_same sf hb) (model_same sf hm)
      · rw [if_neg (by intro z; injection z with z; omega)]
        have c60 := ok.1
        exact deed_r_ok rfl (bench_same s hb) (model_same s hm) wl wR (by omega) m0 (by omega) fun H' ds rs us k => q H' ds rs us ((same_keepM s).trans k)
end Sw

set_option Elab.async false
set_option linter.all false
set_option maxRecDepth 100000
set_option maxHeartbeats 4000000
namespace Sw
open PySem PySem.Spec PyProof.Rows L2
local macro_rules | `(tactic| walk_at "ev") => `(tactic| simp only [tSeq, tCalW, quiet, tRzA, tRzO, tTryT, tTryK, tJoin, tJs, tBM, tBits, kStrI, kIntS, kLenS, mSplit, mPart, mIndex, tAsg, tRet, tRetN, tOp, tUn, tVar, tC, tNil, tCons, tCB, tDrop, tNext, tCont, tBreak, tIfS, tIf, tTest, tChain, tChain3, tB, tTup, tLst, tAnd, tOr, tNot, tAndV, tOrV, tNotV, tPart, tNoPart, tSl, tCal, tAug, ipI, rI0, rI, rU, rEq, rNe, kMin, kMax, gName, gCons, gNil, L2.start, wipe, List.map_cons, List.map_nil, List.length_cons, List.length_nil, List.cons_append, List.nil_append, List.append_nil, Nat.reduceAdd, Nat.reduceSub, List.replicate_succ, List.replicate_zero, List.getElem?_cons_zero, List.getElem?_cons_succ, List.set_cons_succ, List.set_cons_zero, Option.some.injEq, exists_eq_left', exists_eq_left, V.int.injEq, V.bl.injEq, V.str.injEq, V.ref.injEq, List.cons.injEq, exists_and_left, and_assoc, and_true, true_and, scal_ii, scal_ss, scal_nn, scal_bb, scal_ni, scal_in, decide_eq_true_eq, Bool.not_true, Bool.not_false, Bool.not_eq_true', decide_eq_false_iff_not, ite_not, reduceCtorEq, if_true, if_false, Bool.false_eq_true, ne_eq, not_true_eq_false, not_false_eq_true, Int.reduceLT, Int.reduceLE, Int.reduceNeg])
local macro_rules | `(tactic| walk_at "cm") => `(tactic| first | exact Or.inr ⟨by decide, by decide⟩ | exact Or.inl ⟨by decide, by decide⟩ | exact Or.inl ⟨by omega, by omega⟩ | exact Or.inr ⟨by omega, by omega⟩)
variable {K : PySem.W.Frag}
/-! ### a full bench -/
theorem rd_lfull (XB : L2.XfC K (He.ga K "BadWeb")) (NB : PySem.W.findIn K (.ref (He.ga K "BadWeb")) "place" = some none) (vs : List V) (H : Hp) (Q : VK) (E : XK) (h : sp_lfull K vs H Q E) : r_lfull K { nx := fun _ H' => Q .non H', rt := Q } (L2.start N_lfull vs) H := by
  obtain ⟨n, m, rfl, n2, n10, m0, q⟩ := h
  unfold r_lfull N_lfull tMk
  walk_at "ev"
  intro p dx np ndx ne
  refine ⟨p, dx, n, rfl, upd_same, by omega, n10, fun H1 l R d keep nl nR nd hb => ⟨rfl, ?_⟩⟩
  have off : ∀ b, (upd (upd H dx (.own p)) p (.ins (He.ga K "Bench") dx [])) b = none → H b = none := fun b e => by
    have b1 : b ≠ p := fun z => by rw [z, upd_same] at e; cases e
    rw [upd_ne b1] at e
    have b2 : b ≠ dx := fun z => by rw [z, upd_same] at e; cases e
    rw [upd_ne b2] at e
    exact e
  have nlH := off l nl
  have nRH := off R nR
  have s1 : Same H H1 := fun b o e => keep b o (ne_of_none e np) (by rw [upd_ne (ne_of_none e np), upd_ne (ne_of_none e ndx)]; exact e)
  clear keep
  refine lc_rng (n := 60) (fun Q h => h) (by decide) (fun v => rfl) (fun D i acc H' => ∃ ps cs, acc = Rfs ps ∧ ps.length = i ∧ Prs K H' ps cs ∧ CmpsOk n cs ∧ Same H1 H') (fun D nD => ⟨[], [], rfl, rfl, .nil, (fun c hc => nomatch hc), same_new nD⟩) ?_ ?_
  · intro D i acc H' nD hi hD hG
    obtain ⟨ps, cs, rfl, lps, hps, ok, s⟩ := hG
    refine Turn.yes ?_
    walk_at "ev"
    refine ⟨small_line (by decide), fun p1 k_p1 => ?_⟩
    have t_0 := same_new (o := (.tup [.int 0, .int 1] : HO)) k_p1
    have f_p1 : (upd H' p1 (.tup [.int 0, .int 1])) p1 = some (.tup [.int 0, .int 1]) := upd_same
    generalize upd H' p1 (.tup [.int 0, .int 1]) = G0 at t_0 f_p1 ⊢
    have hD := t_0 _ _ hD
    refine ⟨small_line (by decide), fun p2 k_p2 => ?_⟩
    have t_1 := same_new (o := (.tup [.int 1, .int 0] : HO)) k_p2
    have f_p2 : (upd G0 p2 (.tup [.int 1, .int 0])) p2 = some (.tup [.int 1, .int 0]) := upd_same
    generalize upd G0 p2 (.tup [.int 1, .int 0]) = G1 at t_1 f_p2 ⊢
    have hD := t_1 _ _ hD
    have f_p1 := t_1 _ _ f_p1
    refine ⟨small_line (by decide), fun p3 k_p3 => ?_⟩
    have t_2 := same_new (o := (.tup [.int ((n : Int) - 1), .int 0] : HO)) k_p3
    have f_p3 : (upd G1 p3 (.tup [.int ((n : Int) - 1), .int 0])) p3 = some (.tup [.int ((n : Int) - 1), .int 0]) := upd_same
    generalize upd G1 p3 (.tup [.int ((n : Int) - 1), .int 0]) = G2 at t_2 f_p3 ⊢
    have hD := t_2 _ _ hD
    have f_p1 := t_2 _ _ f_p1
    have f_p2 := t_2 _ _ f_p2
    refine ⟨small_line (by decide), fun L k_L => ?_⟩
    have t_3 := same_new (o := (.lst [.ref p1, .ref p2, .ref p3] : HO)) k_L
    have f_L : (upd G2 L (.lst [.ref p1, .ref p2, .ref p3])) L = some (.lst [.ref p1, .ref p2, .ref p3]) := upd_same
    generalize upd G2 L (.lst [.ref p1, .ref p2, .ref p3]) = G3 at t_3 f_L ⊢
    have hD := t_3 _ _ hD
    have f_p1 := t_3 _ _ f_p1
    have f_p2 := t_3 _ _ f_p2
    have f_p3 := t_3 _ _ f_p3
    have tG := t_0.trans (t_1.trans (t_2.trans t_3))
    refine ⟨by omega, ?_⟩
    generalize m / 2 ^ ((i : Int) % 20).toNat = mm
    obtain ⟨j, ej, jl⟩ : ∃ j : Nat, mm % 3 = (j : Int) ∧ j < 3 := ⟨(mm % 3).toNat, by omega, by omega⟩
    rw [ej]
    obtain ⟨g, c, gj, hg, okc⟩ : ∃ g c, ([.ref p1, .ref p2, .ref p3] : List V)[j]? = some (.ref g) ∧ SqT K G3 g (V2 c) ∧ CmpOk n c := by
      match j, jl with
      | 0, _ => exact ⟨p1, (0, 1), rfl, .inl (.inl f_p1), by show 0 < n; omega, by show 1 < n; omega, by decide⟩
      | 1, _ => exact ⟨p2, (1, 0), rfl, .inl (.inl f_p2), by show 1 < n; omega, by show 0 < n; omega, by decide⟩
      | 2, _ =>
        refine ⟨p3, (n - 1, 0), rfl, .inl (.inl ?_), by show n - 1 < n; omega, by show 0 < n; omega, by show ¬ n - 1 = 0; omega⟩
        have e : (n : Int) - 1 = ((n - 1 : Nat) : Int) := by omega
        rw [e] at f_p3
        exact f_p3
    refine ⟨L, _, _, .ref g, rfl, rfl, .inl (.inl f_L), atI_nat gj, ?_⟩
    refine GoOn.mk hD (by rw [rfs_len]; omega) ⟨ps ++ [g], by unfold Rfs; rw [List.map_append] <;> rfl, by rw [List.length_append, lps] <;> rfl, cs ++ [c], prs_upd hD ((Same.prs tG hps).snoc hg), fun e he => ?_, same_mut (s.trans tG) nD⟩
    rcases List.mem_append.mp he with h | h
    · exact ok e h
    · rw [List.mem_singleton.mp h]
      exact okc
  · intro D acc H' nD hD hG
    obtain ⟨ps, cs, rfl, lps, hps, ok, s⟩ := hG
    have lcs := hps.length
    have sH := s1.trans s
    have hb1 := bench_same s hb
    obtain ⟨dx1, qs1, hp1, hl1, _, hR1, _⟩ := id hb
    have Dl : D ≠ l := (ne_of_none hl1 nD).symm
    have DR : D ≠ R := (ne_of_none hR1 nD).symm
    refine for_each (a := D) (xs := Rfs ps) rfl (.inl (.inl hD)) (fun i σ G => ∃ z4, σ = [some (.int (n : Int)), some (.int m), some (.ref p), some (.ref D), z4, none, none, none] ∧ Same H G ∧ G D = some (.lst (Rfs ps)) ∧ Prs K G ps cs ∧ ∃ qs, BenchAt K G p n (cs.take i) l R qs) ⟨none, rfl, sH, hD, hps, _, hb1⟩ (fun i σ G _ hW => ?_) (fun i x σ G hx hi hW => ?_) (fun σ G hW => ?_)
    · obtain ⟨_, _, _, hG, _⟩ := hW
      exact .inl (.inl hG)
    · obtain ⟨z4, rfl, sG, hDG, hpsG, qs, hbG⟩ := hW
      obtain ⟨g, rfl, hg⟩ := rfs_get hx
      obtain ⟨c, hc, hgc⟩ := hpsG.getL hg
      rw [rfs_len] at hi
      obtain ⟨dx2, rs2, hp2, hl2, _, hR2, _⟩ := id hbG
      unfold r_lfull_f1 tMet
      walk_at "ev"
      refine ⟨dx2, _, hp2, bf_no n l R (by decide +kernel) (by decide +kernel) (by decide +kernel), ?_⟩
      have lt : (cs.take i).length < 60 := by rw [List.length_take]; omega
      have okc := ok c (List.mem_of_getElem? hc)
      refine ⟨p, l, R, .ref g, true, n, cs.take i, qs, rfl, hbG, it_cmp hgc okc, (fun _ _ => ⟨g, c, rfl, hgc, okc, fun G2 u k2 nu hb2 => ?_⟩), fun bad => ?_⟩
      · have eT : cs.take i ++ [c] = cs.take (i + 1) := by rw [List.take_add_one, hc] <;> rfl
        rw [eT] at hb2
        exact ⟨keep_same sG nlH nRH k2, k2 _ _ Dl DR hDG, prs_keepB hl2 hR2 k2 hpsG, _, hb2⟩
      · exfalso
        rcases bad with h | h
        · cases h
        · omega
    · obtain ⟨z4, rfl, sG, hDG, hpsG, qs, hbG⟩ := hW
      rw [rfs_len, List.take_of_length_le (by omega)] at hbG
      walk_at "ev"
      refine for_rng (n := 2) (fun Q h => h) (by decide) (fun i σ G => ∃ z4 z5 z6, σ = [some (.int (n : Int)), some (.int m), some (.ref p), some (.ref D), z4, z5, z6, none] ∧ Same H G ∧ G D = some (.lst (Rfs ps)) ∧ Prs K G ps cs ∧ ∃ qs, BenchAt K G p n cs l R qs) ⟨z4, none, none, rfl, sG, hDG, hpsG, _, hbG⟩ (fun i σ G hi hW => ?_) (fun σ G hW => ?_)
      · clear sG hDG hpsG hbG qs
        obtain ⟨z4, z5, z6, rfl, sG, hDG, hpsG, qs, hbG⟩ := hW
        unfold r_lfull_f2 tMet tXk
        walk_at "ev"
        have lcs60 : cs.length = 60 := by omega
        refine ⟨small_line (by decide), fun t kt => ?_⟩
        have st := same_new (o := .tup [.int 0, .int 1]) kt
        have ft : (upd G t (.tup [.int 0, .int 1])) t = some (.tup (V2 (0, 1))) := upd_same
        generalize upd G t (.tup [.int 0, .int 1]) = G1 at st ft ⊢
        refine ⟨p, l, R, .ref t, n, cs, qs, rfl, bench_same st hbG, .inr ⟨(fun z => nomatch z), true, it_cmp (c := (0,1)) (.inl (.inl ft)) ⟨by show 0 < n; omega, by show 1 < n; omega, by decide⟩, .inr (by omega), fun G2 a d s ha hd => ?_⟩⟩
        have s2 := st.trans s
        refine ⟨.ref a, "web", rfl, .inr ⟨a, some d, "BadWeb", rfl, ha, .inr ⟨d, _, rfl, hd⟩, by unfold errWs; simp⟩, fun G3 s3 => ⟨rfl, ?_⟩⟩
        rw [if_pos rfl]
        refine ⟨a, rfl, He.ga K "BadWeb", d, s3 _ _ ha, _, s3 _ _ hd, XB, NB, ?_⟩
        refine ⟨.non, List.lookup_cons_self, rfl, ?_⟩
        rw [decide_eq_true rfl]
        refine ⟨false, rfl, ?_⟩
        rw [if_neg Bool.false_ne_true]
        have s4 := s2.trans s3
        have hb3 := bench_same s4 hbG
        obtain ⟨dx3, _, hp3, _⟩ := id hb3
        refine ⟨dx3, _, hp3, bf_no n l R (by decide +kernel) (by decide +kernel) (by decide +kernel), ?_⟩
        refine ⟨p, l, R, n, cs, qs, rfl, hb3, fun G4 u us s5 nu hu hus => ?_⟩
        have s6 := s4.trans s5
        refine ne_webs (.inl (.inl hu)) hus (.inl (.inl (s6 _ _ hDG))) (Same.prs s6 hpsG) ?_
        rw [decide_eq_true rfl]
        refine ⟨false, rfl, ?_⟩
        rw [if_neg Bool.false_ne_true]
        have hb4 := bench_same s6 hbG
        have hD4 := s6 _ _ hDG
        have ps4 := Same.prs s6 hpsG
        have sH4 := sG.trans s6
        obtain ⟨dx4, rs4, hp4, hl4, _, hR4, _⟩ := id hb4
        refine ⟨dx4, _, hp4, bf_no n l R (by decide +kernel) (by decide +kernel) (by decide +kernel), ?_⟩
        refine ⟨p, l, R, n, cs, qs, rfl, hb4, (fun z => by rw [z] at lcs60; cases lcs60), fun ds c ec G5 g k5 hb5 hg => ?_⟩
        subst ec
        have sH5 := keep_same sH4 nlH nRH k5
        have hD5 := k5 _ _ Dl DR hD4
        have ps5 := prs_keepB hl4 hR4 k5 ps4
        have ld : ds.length = 59 := by rw [List.length_append] at lcs60; exact Nat.succ.inj lcs60
        obtain ⟨x, hx, hxc⟩ := All2.get ps5 (i := ds.length) (b := c) (by rw [List.getElem?_append_right (Nat.le_refl _), Nat.sub_self] <;> rfl)
        have okc := ok c (List.mem_append_right _ (List.mem_singleton.mpr rfl))
        have hat : atI (Rfs ps) (-1) = some (.ref x) := atI_end (n := ds.length) (rfs_at hx) (by rw [rfs_len]; omega)
        refine ⟨D, _, _, .ref x, rfl, rfl, .inl (.inl hD5), hat, ?_⟩
        refine ne_cmp hg hxc ?_
        rw [decide_eq_true rfl]
        refine ⟨false, rfl, ?_⟩
        rw [if_neg Bool.false_ne_true]
        obtain ⟨dx5, rs5, hp5, hl5, _, hR5, _⟩ := id hb5
        refine ⟨dx5, _, hp5, bf_no n l R (by decide +kernel) (by decide +kernel) (by decide +kernel), ?_⟩
        refine ⟨D, _, _, .ref x, rfl, rfl, .inl (.inl hD5), hat, ?_⟩
        refine ⟨p, l, R, .ref x, true, n, ds, _, rfl, hb5, it_cmp hxc okc, (fun _ _ => ⟨x, c, rfl, hxc, okc, fun G6 u k6 nu hb6 => ?_⟩), fun bad => ?_⟩
        · refine isk_ty (.base (.bl _)) (b := true) (by decide +kernel) ⟨true, rfl, ?_⟩
          rw [if_neg (by decide)]
          exact ⟨keep_same sH5 nlH nRH k6, k6 _ _ Dl DR hD5, prs_keepB hl5 hR5 k6 ps5, _, hb6⟩
        · exfalso
          rcases bad with h | h
          · cases h
          · omega
      · clear sG hDG hpsG hbG qs
        obtain ⟨z4, z5, z6, rfl, sG, hDG, hpsG, qs, hbG⟩ := hW
        obtain ⟨dx2, _, hp2, _⟩ := id hbG
        unfold tMet
        walk_at "ev"
        refine ⟨dx2, _, hp2, bf_no n l R (by decide +kernel) (by decide +kernel) (by decide +kernel), ?_⟩
        refine ⟨p, l, R, n, cs, qs, rfl, hbG, fun G4 u us s5 nu hu hus => ?_⟩
        refine eq_webs2 (.inl (.inl hu)) hus (.inl (.inl (s5 _ _ hDG))) (Same.prs s5 hpsG) ?_
        rw [decide_eq_true rfl]
        exact q _ (sG.trans s5)
end Sw

set_option Elab.async false
set_option linter.all false
set_option maxRecDepth 100000
set_option maxHeartbeats 4000000
namespace Sw
open PySem PySem.Spec PyProof.Rows L2
local macro_rules | `(tactic| walk_at "ev") => `(tactic| simp only [tSeq, tCalW, quiet, tRzA, tRzO, tTryT, tTryK, tJoin, tJs, tBM, tBits, kStrI, kIntS, kLenS, mSplit, mPart, mIndex, tAsg, tRet, tRetN, tOp, tUn, tVar, tC, tNil, tCons, tCB, tDrop, tNext, tCont, tBreak, tIfS, tIf, tTest, tChain, tChain3, tB, tTup, tLst, tAnd, tOr, tNot, tAndV, tOrV, tNotV, tPart, tNoPart, tSl, tCal, tAug, ipI, rI0, rI, rU, rEq, rNe, kMin, kMax, gName, gCons, gNil, L2.start, wipe, List.map_cons, List.map_nil, List.length_cons, List.length_nil, List.cons_append, List.nil_append, List.append_nil, Nat.reduceAdd, Nat.reduceSub, List.replicate_succ, List.replicate_zero, List.getElem?_cons_zero, List.getElem?_cons_succ, List.set_cons_succ, List.set_cons_zero, Option.some.injEq, exists_eq_left', exists_eq_left, V.int.injEq, V.bl.injEq, V.str.injEq, V.ref.injEq, List.cons.injEq, exists_and_left, and_assoc, and_true, true_and, scal_ii, scal_ss, scal_nn, scal_bb, scal_ni, scal_in, decide_eq_true_eq, Bool.not_true, Bool.not_false, Bool.not_eq_true', decide_eq_false_iff_not, ite_not, reduceCtorEq, if_true, if_false, Bool.false_eq_true, ne_eq, not_true_eq_false, not_false_eq_true, Int.reduceLT, Int.reduceLE, Int.reduceNeg])
local macro_rules | `(tactic| walk_at "cm") => `(tactic| first | exact Or.inr ⟨by decide, by decide⟩ | exact Or.inl ⟨by decide, by decide⟩ | exact Or.inl ⟨by omega, by omega⟩ | exact Or.inr ⟨by omega, by omega⟩)
variable {K : PySem.W.Frag}
/-! ### odd things -/
theorem odd_at {H : Hp} {n : Nat} {p0 p1 p2 p5 p6 p7 p8 p9 : Addr} (h0 : H p0 = some (.tup [.int 0, .int 0])) (h1 : H p1 = some (.tup [.int 0, .int (n : Int)])) (h2 : H p2 = some (.lst [.int 0, .int 1])) (h5 : H p5 = some (.tup [.int 0]))
    (h6 : H p6 = some (.tup [.bl true, .int 0])) (h7 : H p7 = some (.tup [.int (-1), .int 0])) (h8 : H p8 = some (.tup [.int 0, .int 1, .int 2])) (h9 : H p9 = some (.dK [])) {k : Nat} (hk : k < 10) :
    ∃ v, ([.ref p0, .ref p1, .ref p2, .int 5, .str "", .ref p5, .ref p6, .ref p7, .ref p8, .ref p9] : List V)[k]? = some v ∧ v ≠ .non ∧ ItOk K H n v false := by
  have two : ∀ {p : Addr} {x y : V} {Tx Ty : String}, H p = some (.tup [x, y]) → TyB K H x Tx → TyB K H y Ty → twV n x y = false → ItOk K H n (.ref p) false := fun hp hx hy e => by
    rw [← e]
    exact .two (.inl (.inl hp)) hx hy
  match k, hk with
  | 0, _ => exact ⟨_, rfl, (fun z => nomatch z), two h0 (.int _) (.int _) (by unfold twV; simp)⟩
  | 1, _ => exact ⟨_, rfl, (fun z => nomatch z), two h1 (.int _) (.int _) (by unfold twV; simp)⟩
  | 2, _ => exact ⟨_, rfl, (fun z => nomatch z), .other (.lst (.inl (.inl h2))) (by decide)⟩
  | 3, _ => exact ⟨_, rfl, (fun z => nomatch z), .other (.int 5) (by decide)⟩
  | 4, _ => exact ⟨_, rfl, (fun z => nomatch z), .other (.str "") (by decide)⟩
  | 5, _ => exact ⟨_, rfl, (fun z => nomatch z), .long (.inl (.inl h5)) (by decide)⟩
  | 6, _ => exact ⟨_, rfl, (fun z => nomatch z), two h6 (.bl _) (.int _) rfl⟩
  | 7, _ => exact ⟨_, rfl, (fun z => nomatch z), two h7 (.int _) (.int _) (by unfold twV; simp)⟩
  | 8, _ => exact ⟨_, rfl, (fun z => nomatch z), .long (.inl (.inl h8)) (by decide)⟩
  | 9, _ => exact ⟨_, rfl, (fun z => nomatch z), .other (.dK h9) (by decide)⟩
theorem rd_lrefused (XB : L2.XfC K (He.ga K "BadWeb")) (NB : PySem.W.findIn K (.ref (He.ga K "BadWeb")) "place" = some none) (vs : List V) (H : Hp) (Q : VK) (E : XK) (h : sp_lrefused K vs H Q E) : r_lrefused K { nx := fun _ H' => Q .non H', rt := Q } (L2.start N_lrefused vs) H := by
  obtain ⟨p, md, w, l, R, n, m, cs, qs, ws, rfl, m0, hb, ⟨hm, hw, hws⟩, q⟩ := h
  have hws0 := hws.length
  have hws0 := hws.length
  unfold r_lrefused N_lrefused tXk tDGet tDNewK
  walk_at "ev"
  refine ⟨small_line (by decide), fun p0 k_p0 => ?_⟩
  have t_0 := same_new (o := (.tup [.int 0, .int 0] : HO)) k_p0
  have f_p0 : (upd H p0 (.tup [.int 0, .int 0])) p0 = some (.tup [.int 0, .int 0]) := upd_same
  generalize upd H p0 (.tup [.int 0, .int 0]) = H_0 at t_0 f_p0 ⊢
  have s_0 := t_0
  refine ⟨_, get_lines (s_0 _ _ hm), ?_⟩
  refine ⟨small_line (by decide), fun p1 k_p1 => ?_⟩
  have t_1 := same_new (o := (.tup [.int 0, .int (n : Int)] : HO)) k_p1
  have f_p1 : (upd H_0 p1 (.tup [.int 0, .int (n : Int)])) p1 = some (.tup [.int 0, .int (n : Int)]) := upd_same
  generalize upd H_0 p1 (.tup [.int 0, .int (n : Int)]) = H_1 at t_1 f_p1 ⊢
  have f_p0 := t_1 _ _ f_p0
  have s_1 := s_0.trans t_1
  refine ⟨small_line (by decide), fun p2 k_p2 => ?_⟩
  have t_2 := same_new (o := (.lst [.int 0, .int 1] : HO)) k_p2
  have f_p2 : (upd H_1 p2 (.lst [.int 0, .int 1])) p2 = some (.lst [.int 0, .int 1]) := upd_same
  generalize upd H_1 p2 (.lst [.int 0, .int 1]) = H_2 at t_2 f_p2 ⊢
  have f_p0 := t_2 _ _ f_p0
  have f_p1 := t_2 _ _ f_p1
  have s_2 := s_1.trans t_2
  refine ⟨small_line (by decide), fun p5 k_p5 => ?_⟩
  have t_3 := same_new (o := (.tup [.int 0] : HO)) k_p5
  have f_p5 : (upd H_2 p5 (.tup [.int 0])) p5 = some (.tup [.int 0]) := upd_same
  generalize upd H_2 p5 (.tup [.int 0]) = H_3 at t_3 f_p5 ⊢
  have f_p0 := t_3 _ _ f_p0
  have f_p1 := t_3 _ _ f_p1
  have f_p2 := t_3 _ _ f_p2
  have s_3 := s_2.trans t_3
  refine ⟨small_line (by decide), fun p6 k_p6 => ?_⟩
  have t_4 := same_new (o := (.tup [.bl true, .int 0] : HO)) k_p6
  have f_p6 : (upd H_3 p6 (.tup [.bl true, .int 0])) p6 = some (.tup [.bl true, .int 0]) := upd_same
  generalize upd H_3 p6 (.tup [.bl true, .int 0]) = H_4 at t_4 f_p6 ⊢
  have f_p0 := t_4 _ _ f_p0
  have f_p1 := t_4 _ _ f_p1
  have f_p2 := t_4 _ _ f_p2
  have f_p5 := t_4 _ _ f_p5
  have s_4 := s_3.trans t_4
  refine ⟨small_line (by decide), fun p7 k_p7 => ?_⟩
  have t_5 := same_new (o := (.tup [.int (-1), .int 0] : HO)) k_p7
  have f_p7 : (upd H_4 p7 (.tup [.int (-1), .int 0])) p7 = some (.tup [.int (-1), .int 0]) := upd_same
  generalize upd H_4 p7 (.tup [.int (-1), .int 0]) = H_5 at t_5 f_p7 ⊢
  have f_p0 := t_5 _ _ f_p0
  have f_p1 := t_5 _ _ f_p1
  have f_p2 := t_5 _ _ f_p2
  have f_p5 := t_5 _ _ f_p5
  have f_p6 := t_5 _ _ f_p6
  have s_5 := s_4.trans t_5
  refine ⟨small_line (by decide), fun p8 k_p8 => ?_⟩
  have t_6 := same_new (o := (.tup [.int 0, .int 1, .int 2] : HO)) k_p8
  have f_p8 : (upd H_5 p8 (.tup [.int 0, .int 1, .int 2])) p8 = some (.tup [.int 0, .int 1, .int 2]) := upd_same
  generalize upd H_5 p8 (.tup [.int 0, .int 1, .int 2]) = H_6 at t_6 f_p8 ⊢
  have f_p0 := t_6 _ _ f_p0
  have f_p1 := t_6 _ _ f_p1
  have f_p2 := t_6 _ _ f_p2
  have f_p5 := t_6 _ _ f_p5
  have f_p6 := t_6 _ _ f_p6
  have f_p7 := t_6 _ _ f_p7
  have s_6 := s_5.trans t_6
  intro p9 k_p9
  have t_7 := same_new (o := (.dK [] : HO)) k_p9
  have f_p9 : (upd H_6 p9 (.dK [])) p9 = some (.dK []) := upd_same
  generalize upd H_6 p9 (.dK []) = H_7 at t_7 f_p9 ⊢
  have f_p0 := t_7 _ _ f_p0
  have f_p1 := t_7 _ _ f_p1
  have f_p2 := t_7 _ _ f_p2
  have f_p5 := t_7 _ _ f_p5
  have f_p6 := t_7 _ _ f_p6
  have f_p7 := t_7 _ _ f_p7
  have f_p8 := t_7 _ _ f_p8
  have s_7 := s_6.trans t_7
  refine ⟨small_line (by decide), fun D k_D => ?_⟩
  have t_8 := same_new (o := (.lst [.ref p0, .ref p1, .ref p2, .int 5, .str "", .ref p5, .ref p6, .ref p7, .ref p8, .ref p9] : HO)) k_D
  have f_D : (upd H_7 D (.lst [.ref p0, .ref p1, .ref p2, .int 5, .str "", .ref p5, .ref p6, .ref p7, .ref p8, .ref p9])) D = some (.lst [.ref p0, .ref p1, .ref p2, .int 5, .str "", .ref p5, .ref p6, .ref p7, .ref p8, .ref p9]) := upd_same
  generalize upd H_7 D (.lst [.ref p0, .ref p1, .ref p2, .int 5, .str "", .ref p5, .ref p6, .ref p7, .ref p8, .ref p9]) = H_8 at t_8 f_D ⊢
  have f_p0 := t_8 _ _ f_p0
  have f_p1 := t_8 _ _ f_p1
  have f_p2 := t_8 _ _ f_p2
  have f_p5 := t_8 _ _ f_p5
  have f_p6 := t_8 _ _ f_p6
  have f_p7 := t_8 _ _ f_p7
  have f_p8 := t_8 _ _ f_p8
  have f_p9 := t_8 _ _ f_p9
  have s_8 := s_7.trans t_8
  obtain ⟨k, ek, kl⟩ : ∃ k : Nat, m % 10 = (k : Int) ∧ k < 10 := ⟨(m % 10).toNat, by omega, by omega⟩
  rw [ek]
  obtain ⟨v, gv, ne, it⟩ := odd_at (K := K) (n := n) f_p0 f_p1 f_p2 f_p5 f_p6 f_p7 f_p8 f_p9 kl
  refine ⟨D, _, _, v, rfl, rfl, .inl (.inl f_D), atI_nat gv, ?_⟩
  refine ⟨p, l, R, v, n, cs, qs, rfl, bench_same s_8 hb, .inr ⟨ne, false, it, .inl rfl, fun H' a d s ha hd => ?_⟩⟩
  have sH := s_8.trans s
  refine ⟨.ref a, "web", rfl, .inr ⟨a, some d, "BadWeb", rfl, ha, .inr ⟨d, _, rfl, hd⟩, by unfold errWs; simp⟩, fun H2 s2 => ⟨rfl, ?_⟩⟩
  rw [if_pos rfl]
  have sH2 := sH.trans s2
  refine ⟨a, rfl, He.ga K "BadWeb", d, s2 _ _ ha, _, s2 _ _ hd, XB, NB, ?_⟩
  refine ⟨.non, List.lookup_cons_self, rfl, ?_⟩
  rw [decide_eq_true rfl]
  refine ⟨false, rfl, ?_⟩
  rw [if_neg Bool.false_ne_true]
  refine ⟨_, get_web (sH2 _ _ hm), Nat.zero_le _, fun e ke => ?_⟩
  have sH3 := sH2.trans (same_new (o := .lst ([] : List V)) ke)
  refine ne_webs (qs := []) (ds := []) (.inl (.inl (sH3 _ _ hw))) (Same.prs sH3 hws) (.inl (.inl upd_same)) .nil ?_
  by_cases z : cs = []
  · subst z
    rw [decide_eq_true rfl]
    refine ⟨false, rfl, ?_⟩
    rw [if_neg Bool.false_ne_true]
    refine ⟨p, l, R, .non, n, [], qs, rfl, bench_same sH3 hb, .inl ⟨rfl, rfl, fun H' a s ha => ?_⟩⟩
    refine ⟨.ref a, "nothing", rfl, .inr ⟨a, none, "NothingPut", rfl, ha, .inl rfl, by unfold errWs; simp⟩, fun H4 s4 => ⟨rfl, ?_⟩⟩
    rw [decide_eq_true rfl]
    exact q _ ((sH3.trans s).trans s4)
  · rw [decide_eq_false z]
    refine ⟨true, rfl, ?_⟩
    rw [if_pos rfl]
    exact q _ sH3
end Sw

set_option Elab.async false
set_option linter.all false
set_option maxRecDepth 100000
set_option maxHeartbeats 4000000
namespace Sw
open PySem PySem.Spec PyProof.Rows L2
local macro_rules | `(tactic| walk_at "ev") => `(tactic| simp only [tSeq, tCalW, quiet, tRzA, tRzO, tTryT, tTryK, tJoin, tJs, tBM, tBits, kStrI, kIntS, kLenS, mSplit, mPart, mIndex, tAsg, tRet, tRetN, tOp, tUn, tVar, tC, tNil, tCons, tCB, tDrop, tNext, tCont, tBreak, tIfS, tIf, tTest, tChain, tChain3, tB, tTup, tLst, tAnd, tOr, tNot, tAndV, tOrV, tNotV, tPart, tNoPart, tSl, tCal, tAug, ipI, rI0, rI, rU, rEq, rNe, kMin, kMax, gName, gCons, gNil, L2.start, wipe, List.map_cons, List.map_nil, List.length_cons, List.length_nil, List.cons_append, List.nil_append, List.append_nil, Nat.reduceAdd, Nat.reduceSub, List.replicate_succ, List.replicate_zero, List.getElem?_cons_zero, List.getElem?_cons_succ, List.set_cons_succ, List.set_cons_zero, Option.some.injEq, exists_eq_left', exists_eq_left, V.int.injEq, V.bl.injEq, V.str.injEq, V.ref.injEq, List.cons.injEq, exists_and_left, and_assoc, and_true, true_and, scal_ii, scal_ss, scal_nn, scal_bb, scal_ni, scal_in, decide_eq_true_eq, Bool.not_true, Bool.not_false, Bool.not_eq_true', decide_eq_false_iff_not, ite_not, reduceCtorEq, if_true, if_false, Bool.false_eq_true, ne_eq, not_true_eq_false, not_false_eq_true, Int.reduceLT, Int.reduceLE, Int.reduceNeg])
local macro_rules | `(tactic| walk_at "cm") => `(tactic| first | exact Or.inr ⟨by decide, by decide⟩ | exact Or.inl ⟨by decide, by decide⟩ | exact Or.inl ⟨by omega, by omega⟩ | exact Or.inr ⟨by omega, by omega⟩)
variable {K : PySem.W.Frag}
/-! ### what is tried -/
theorem bench_ins {H : Hp} {p l R : Addr} {n : Nat} {cs : List Cmp} {qs : List Addr} (h : BenchAt K H p n cs l R qs) : ∃ dx, H p = some (.ins (He.ga K "Bench") dx (bf n l R)) := by
  obtain ⟨dx, _, hp, _⟩ := h
  exact ⟨dx, hp⟩
theorem rd_ltried (eNW : PySem.W.exmOne K (.ref (He.ga K "NothingPut")) (.ref (He.ga K "WebError")) = some true) (eBW : PySem.W.exmOne K (.ref (He.ga K "BadWeb")) (.ref (He.ga K "WebError")) = some true) (vs : List V) (H : Hp) (Q : VK) (E : XK) (h : sp_ltried K vs H Q E) : r_ltried K { nx := fun _ H' => Q .non H', rt := Q } (L2.start N_ltried vs) H := by
  obtain ⟨p, l, R, v, n, cs, qs, rfl, hb, q⟩ := h
  obtain ⟨dx, hp⟩ := bench_ins hb
  unfold r_ltried N_ltried tMetW
  walk_at "ev"
  rcases q with ⟨rfl, rfl, q⟩ | ⟨ne, b, it, bad, q⟩
  · refine ⟨rfl, _, rfl, ?_⟩
    rw [decide_eq_true rfl]
    walk_at "ev"
    refine ⟨dx, _, hp, bf_no n l R (by decide +kernel) (by decide +kernel) (by decide +kernel), ?_⟩
    refine ⟨p, l, R, n, [], qs, rfl, hb, (fun _ H' s => ?_), fun ds c e => absurd e (by simp)⟩
    refine ⟨eNW, fun a na => ?_⟩
    walk_at "ev"
    exact q _ a (same_mut s (s.free na)) upd_same
  · refine ⟨rfl, _, rfl, ?_⟩
    rw [decide_eq_false ne]
    walk_at "ev"
    refine ⟨dx, _, hp, bf_no n l R (by decide +kernel) (by decide +kernel) (by decide +kernel), ?_⟩
    refine ⟨p, l, R, v, b, n, cs, qs, rfl, hb, it, (fun e few => ?_), fun _ H' d s nd => ?_⟩
    · exfalso
      rcases bad with h | h
      · rw [h] at e
        cases e
      · omega
    · refine ⟨eBW, fun a na => ?_⟩
      walk_at "ev"
      have s1 := s.trans (same_new (o := .xd [("place", onV none)]) nd)
      have had : a ≠ d := fun e => by
        rw [e, upd_same] at na
        cases na
      refine q _ a d (same_mut s1 (s1.free na)) upd_same ?_
      rw [upd_ne had.symm, upd_same]
      rfl
end Sw

set_option Elab.async false
set_option linter.all false
set_option maxRecDepth 100000
set_option maxHeartbeats 4000000
namespace Sw
open PySem PySem.Spec PyProof.Rows L2
local macro_rules | `(tactic| walk_at "ev") => `(tactic| simp only [tSeq, tCalW, quiet, tRzA, tRzO, tTryT, tTryK, tJoin, tJs, tBM, tBits, kStrI, kIntS, kLenS, mSplit, mPart, mIndex, tAsg, tRet, tRetN, tOp, tUn, tVar, tC, tNil, tCons, tCB, tDrop, tNext, tCont, tBreak, tIfS, tIf, tTest, tChain, tChain3, tB, tTup, tLst, tAnd, tOr, tNot, tAndV, tOrV, tNotV, tPart, tNoPart, tSl, tCal, tAug, ipI, rI0, rI, rU, rEq, rNe, kMin, kMax, gName, gCons, gNil, L2.start, wipe, List.map_cons, List.map_nil, List.length_cons, List.length_nil, List.cons_append, List.nil_append, List.append_nil, Nat.reduceAdd, Nat.reduceSub, List.replicate_succ, List.replicate_zero, List.getElem?_cons_zero, List.getElem?_cons_succ, List.set_cons_succ, List.set_cons_zero, Option.some.injEq, exists_eq_left', exists_eq_left, V.int.injEq, V.bl.injEq, V.str.injEq, V.ref.injEq, List.cons.injEq, exists_and_left, and_assoc, and_true, true_and, scal_ii, scal_ss, scal_nn, scal_bb, scal_ni, scal_in, decide_eq_true_eq, Bool.not_true, Bool.not_false, Bool.not_eq_true', decide_eq_false_iff_not, ite_not, reduceCtorEq, if_true, if_false, Bool.false_eq_true, ne_eq, not_true_eq_false, not_false_eq_true, Int.reduceLT, Int.reduceLE, Int.reduceNeg])
local macro_rules | `(tactic| walk_at "cm") => `(tactic| first | exact Or.inr ⟨by decide, by decide⟩ | exact Or.inl ⟨by decide, by decide⟩ | exact Or.inl ⟨by omega, by omega⟩ | exact Or.inr ⟨by omega, by omega⟩)
variable {K : PySem.W.Frag}
/-! ### the law's words for errors -/
/-- v is None, or a kept error of the class C -/
def ErrIs (K : PySem.W.Frag) (H : Hp) (v : V) (o : Option Str) : Prop := (v = .non ∧ o = none) ∨ ∃ (a : Addr) (d : Option Addr) (C u : Str), v = .ref a ∧ H a = some (ErO (.ref (He.ga K C)) d a) ∧ DicOk H d ∧ (C, u) ∈ errWs ∧ o = some C
theorem dic_same {H H' : Hp} {d : Option Addr} (s : Same H H') (h : DicOk H d) : DicOk H' d := by
  rcases h with h | ⟨dd, fs, h, e⟩
  · exact .inl h
  · exact .inr ⟨dd, fs, h, s _ _ e⟩
theorem err_same {H H' : Hp} {v : V} {o : Option Str} (s : Same H H') (h : ErrIs K H v o) : ErrIs K H' v o := by
  rcases h with h | ⟨a, d, C, u, h1, h2, h3, h4⟩
  · exact .inl h
  · exact .inr ⟨a, d, C, u, h1, s _ _ h2, dic_same s h3, h4⟩
theorem err_isi (F : ErrF K) {H : Hp} {v : V} {o : Option Str} {D w : Str} {Q : VK} (h : ErrIs K H v o) (hD : (D, w) ∈ errWs) (q : Q (.bl (decide (o = some D))) H) : rIsK K [v, .ref (He.ga K D)] H Q := by
  rcases h with ⟨rfl, rfl⟩ | ⟨a, d, C, u, rfl, ha, hd, hC, rfl⟩
  · exact .inl ⟨.non, .ref (He.ga K D), .type "NoneType", .ref (He.ga K D), false, rfl, .own _, .base .non, F.n D w hD, q⟩
  · refine .inr ⟨a, He.ga K C, d, .ref (He.ga K D), .ref (He.ga K D), decide (C = D), rfl, ha, hd, F.e C u hC, .own _, F.k C u D w hC hD, ?_⟩
    have : decide (C = D) = decide (some C = some D) := decide_eq_decide.mpr ⟨fun z => by rw [z], fun z => Option.some.inj z⟩
    rw [this]
    exact q
theorem err_ve (F : ErrF K) {H : Hp} {v : V} {C : Str} {Q : VK} (h : ErrIs K H v (some C)) (q : Q (.bl true) H) : rIsK K [v, .ty "ValueError"] H Q := by
  rcases h with ⟨_, z⟩ | ⟨a, d, C, u, rfl, ha, hd, hC, _⟩
  · cases z
  · exact .inr ⟨a, He.ga K C, d, .ty "ValueError", .type "ValueError", true, rfl, ha, hd, F.e C u hC, .ty _, F.v C u hC, q⟩
/-- pairs of a word and a truth value -/
abbrev Wps (H : Hp) (ps : List Addr) (l : List (Str × Bool)) : Prop := All2 (fun p (w : Str × Bool) => H p = some (.tup [.str w.1, .bl w.2])) ps l
theorem Wps.step {H0 H : Hp} {ps : List Addr} {l : List (Str × Bool)} (s : Same H0 H) (h : Wps H ps l) {p : Addr} (np : H p = none) (w : Str) (b : Bool) : Same H0 (upd H p (.tup [.str w, .bl b])) ∧ Wps (upd H p (.tup [.str w, .bl b])) (ps ++ [p]) (l ++ [(w, b)]) :=
  ⟨s.trans (same_new np), (h.imp fun q u e => same_new np _ _ e).snoc upd_same⟩
theorem Wps.list {H0 H : Hp} {ps : List Addr} {l : List (Str × Bool)} (s : Same H0 H) (h : Wps H ps l) {p : Addr} {o : HO} (np : H p = none) : Same H0 (upd H p o) ∧ Wps (upd H p o) ps l :=
  ⟨s.trans (same_new np), h.imp fun q u e => same_new np _ _ e⟩
theorem Wps.last {H0 H : Hp} {ps : List Addr} {l : List (Str × Bool)} (s : Same H0 H) (h : Wps H ps l) {p : Addr} {o : HO} (np : H p = none) : ∃ H', upd H p o = H' ∧ Same H0 H' ∧ Wps H' ps l ∧ H' p = some o :=
  ⟨_, rfl, s.trans (same_new np), h.imp fun q u e => same_new np _ _ e, upd_same⟩
def wordU (l : List (Str × Bool)) (i : Nat) : V × V := match l[i]? with
  | some w => (.str w.1, .bl w.2)
  | none => (.non, .non)
def errL (o : Option Str) : List (Str × Bool) := errWs.map fun p => (p.2, decide (o = some p.1))
theorem rd_lword (F : ErrF K) (vs : List V) (H : Hp) (Q : VK) (E : XK) (h : sp_lword K vs H Q E) : r_lword K { nx := fun _ H' => Q .non H', rt := Q } (L2.start N_lword vs) H := by
  obtain ⟨v, u, rfl, hv, q⟩ := h
  obtain ⟨o, ho, hu⟩ : ∃ o, ErrIs K H v o ∧ ((o = none ∧ v = .non ∧ u = "") ∨ ∃ C, o = some C ∧ (C, u) ∈ errWs ∧ ∃ a, v = .ref a) := by
    rcases hv with ⟨rfl, rfl⟩ | ⟨a, d, C, rfl, ha, hd, hC⟩
    · exact ⟨none, .inl ⟨rfl, rfl⟩, .inl ⟨rfl, rfl, rfl⟩⟩
    · exact ⟨some C, .inr ⟨a, d, C, u, rfl, ha, hd, hC, rfl⟩, .inr ⟨C, rfl, hC, a, rfl⟩⟩
  unfold r_lword N_lword
  walk_at "ev"
  refine err_isi F (w := "lines") ho (by unfold errWs; simp) ⟨small_line (by decide), fun p1 n1 => ?_⟩
  obtain ⟨s1, w1⟩ := Wps.step (.refl H) .nil n1 "lines" (decide (o = some ("BadLines" : Str)))
  refine err_isi F (w := "web") (err_same s1 ho) (by unfold errWs; simp) ⟨small_line (by decide), fun p2 n2 => ?_⟩
  obtain ⟨s2, w2⟩ := Wps.step s1 w1 n2 "web" (decide (o = some ("BadWeb" : Str)))
  refine err_isi F (w := "row") (err_same s2 ho) (by unfold errWs; simp) ⟨small_line (by decide), fun p3 n3 => ?_⟩
  obtain ⟨s3, w3⟩ := Wps.step s2 w2 n3 "row" (decide (o = some ("BadRow" : Str)))
  refine ⟨small_line (by decide), fun L1 m1 => ?_⟩
  obtain ⟨t3, w3⟩ := Wps.list (o := .lst [.ref p1, .ref p2, .ref p3]) s3 w3 m1
  refine err_isi F (w := "place") (err_same t3 ho) (by unfold errWs; simp) ⟨small_line (by decide), fun p4 n4 => ?_⟩
  obtain ⟨s4, w4⟩ := Wps.step t3 w3 n4 "place" (decide (o = some ("BadPlace" : Str)))
  refine err_isi F (w := "order") (err_same s4 ho) (by unfold errWs; simp) ⟨small_line (by decide), fun p5 n5 => ?_⟩
  obtain ⟨s5, w5⟩ := Wps.step s4 w4 n5 "order" (decide (o = some ("BadOrder" : Str)))
  refine ⟨small_line (by decide), fun L2' m2 => ?_⟩
  obtain ⟨t5, w5⟩ := Wps.list (o := .lst [.ref p4, .ref p5]) s5 w5 m2
  have k45 := same_new (o := .tup [.str "place", .bl (decide (o = some ("BadPlace" : Str)))]) n4
  have k5 := same_new (o := .tup [.str "order", .bl (decide (o = some ("BadOrder" : Str)))]) n5
  have k6 := same_new (o := .lst [.ref p4, .ref p5]) m2
  refine ⟨L1, L2', _, _, rfl, rfl, k6 _ _ (k5 _ _ (k45 _ _ upd_same)), upd_same, small_line (by simp), fun L3 m3 => ?_⟩
  obtain ⟨t6, w5⟩ := Wps.list (o := .lst ([.ref p1, .ref p2, .ref p3] ++ [.ref p4, .ref p5])) t5 w5 m3
  refine err_isi F (w := "text") (err_same t6 ho) (by unfold errWs; simp) ⟨small_line (by decide), fun p6 n6 => ?_⟩
  obtain ⟨s6, w6⟩ := Wps.step t6 w5 n6 "text" (decide (o = some ("BadText" : Str)))
  refine err_isi F (w := "nothing") (err_same s6 ho) (by unfold errWs; simp) ⟨small_line (by decide), fun p7 n7 => ?_⟩
  obtain ⟨s7, w7⟩ := Wps.step s6 w6 n7 "nothing" (decide (o = some ("NothingPut" : Str)))
  refine ⟨small_line (by decide), fun L4 m4 => ?_⟩
  obtain ⟨t7, w7⟩ := Wps.list (o := .lst [.ref p6, .ref p7]) s7 w7 m4
  have j6 := same_new (o := .tup [.str "text", .bl (decide (o = some ("BadText" : Str)))]) n6
  have j7 := same_new (o := .tup [.str "nothing", .bl (decide (o = some ("NothingPut" : Str)))]) n7
  have j8 := same_new (o := .lst [.ref p6, .ref p7]) m4
  refine ⟨L3, L4, _, _, rfl, rfl, j8 _ _ (j7 _ _ (j6 _ _ upd_same)), upd_same, small_line (by simp), fun L5 m5 => ?_⟩
  obtain ⟨H8, eH, t8, w8, hL0⟩ := Wps.last (o := .lst ([.ref p1, .ref p2, .ref p3] ++ [.ref p4, .ref p5] ++ [.ref p6, .ref p7])) t7 w7 m5
  have hL : H8 L5 = some (.lst (Rfs [p1, p2, p3, p4, p5, p6, p7])) := hL0
  rw [eH]
  have w9 : Wps H8 [p1, p2, p3, p4, p5, p6, p7] (errL o) := w8
  clear w8
  refine lc_pairs (a := L5) (ps := [p1, p2, p3, p4, p5, p6, p7]) (wordU (errL o)) rfl (.inl (.inl hL)) (fun v w => rfl) (fun D i acc H' => Same H8 H' ∧ acc = (((errL o).take i).filter (·.2)).map fun w => V.str w.1) (fun D nD => ⟨same_new nD, rfl⟩) (fun D i acc H' nD g => g.1.seq (.inl (.inl hL))) ?_ ?_ ?_
  · intro D i p acc H' nD gp hD g
    obtain ⟨w, gw, hw⟩ := w9.getL gp
    unfold wordU
    rw [gw]
    exact .inl (.inl (g.1 _ _ hw))
  · intro D i acc H' nD hi hD g
    obtain ⟨s, rfl⟩ := g
    obtain ⟨w, gw⟩ := get_of (xs := errL o) (i := i) hi
    have hs : (((errL o).take (i + 1)).filter (·.2)).map (fun w => V.str w.1) = (((errL o).take i).filter (·.2)).map (fun w => V.str w.1) ++ (if w.2 = true then [V.str w.1] else []) := by
      rw [List.take_add_one, gw, List.filter_append, List.map_append]
      congr 1
      cases e : w.2 <;> simp [e]
    unfold wordU Turn
    rw [gw]
    walk_at "ev"
    cases e : w.2 with
    | false =>
      rw [e] at hs
      simp only [Bool.false_eq_true, if_false, List.append_nil] at hs
      exact ⟨_, hD, s, hs.symm⟩
    | true =>
      rw [e] at hs
      simp only [if_true] at hs
      refine GoOn.mk hD ?_ ⟨same_mut s nD, hs.symm⟩
      rw [List.length_map]
      have h1 := List.length_filter_le (fun w : Str × Bool => w.2) ((errL o).take i)
      have h2 : ((errL o).take i).length ≤ 7 := by
        rw [List.length_take]
        exact Nat.min_le_right _ _
      omega
  · intro D acc H' nD hD g
    obtain ⟨s, rfl⟩ := g
    have hT : (errL o).take [p1, p2, p3, p4, p5, p6, p7].length = errL o := rfl
    rw [hT] at hD
    have sH := t8.trans s
    rcases hu with ⟨rfl, rfl, rfl⟩ | ⟨C, rfl, hC, a, rfl⟩
    · refine ⟨rfl, _, rfl, ?_⟩
      rw [decide_eq_true rfl]
      walk_at "ev"
      exact q H' sH
    · have one : ((errL (some C)).filter (·.2)).map (fun w => V.str w.1) = [.str u] := by
        unfold errWs at hC
        simp only [List.mem_cons, Prod.mk.injEq, List.not_mem_nil, or_false] at hC
        rcases hC with ⟨rfl, rfl⟩ | ⟨rfl, rfl⟩ | ⟨rfl, rfl⟩ | ⟨rfl, rfl⟩ | ⟨rfl, rfl⟩ | ⟨rfl, rfl⟩ | ⟨rfl, rfl⟩ <;> decide +kernel
      rw [one] at hD
      refine ⟨rfl, _, rfl, ?_⟩
      rw [decide_eq_false (fun z => nomatch z)]
      walk_at "ev"
      refine ⟨D, _, rfl, .inl (.inl (.inl hD)), ?_⟩
      walk_at "ev"
      refine err_ve F (err_same sH ho) ⟨true, rfl, ?_⟩
      walk_at "ev"
      refine ⟨D, _, 0, .str u, rfl, rfl, .inl (.inl hD), rfl, ?_⟩
      exact q H' sH
end Sw

set_option Elab.async false
set_option linter.all false
set_option maxRecDepth 100000
set_option maxHeartbeats 4000000
namespace Sw
open PySem PySem.Spec PyProof.Rows L2
local macro_rules | `(tactic| walk_at "ev") => `(tactic| simp only [tSeq, tCalW, quiet, tRzA, tRzO, tTryT, tTryK, tJoin, tJs, tBM, tBits, kStrI, kIntS, kLenS, mSplit, mPart, mIndex, tAsg, tRet, tRetN, tOp, tUn, tVar, tC, tNil, tCons, tCB, tDrop, tNext, tCont, tBreak, tIfS, tIf, tTest, tChain, tChain3, tB, tTup, tLst, tAnd, tOr, tNot, tAndV, tOrV, tNotV, tPart, tNoPart, tSl, tCal, tAug, ipI, rI0, rI, rU, rEq, rNe, kMin, kMax, gName, gCons, gNil, L2.start, wipe, List.map_cons, List.map_nil, List.length_cons, List.length_nil, List.cons_append, List.nil_append, List.append_nil, Nat.reduceAdd, Nat.reduceSub, List.replicate_succ, List.replicate_zero, List.getElem?_cons_zero, List.getElem?_cons_succ, List.set_cons_succ, List.set_cons_zero, Option.some.injEq, exists_eq_left', exists_eq_left, V.int.injEq, V.bl.injEq, V.str.injEq, V.ref.injEq, List.cons.injEq, exists_and_left, and_assoc, and_true, true_and, scal_ii, scal_ss, scal_nn, scal_bb, scal_ni, scal_in, decide_eq_true_eq, Bool.not_true, Bool.not_false, Bool.not_eq_true', decide_eq_false_iff_not, ite_not, reduceCtorEq, if_true, if_false, Bool.false_eq_true, ne_eq, not_true_eq_false, not_false_eq_true, Int.reduceLT, Int.reduceLE, Int.reduceNeg])
local macro_rules | `(tactic| walk_at "cm") => `(tactic| first | exact Or.inr ⟨by decide, by decide⟩ | exact Or.inl ⟨by decide, by decide⟩ | exact Or.inl ⟨by omega, by omega⟩ | exact Or.inr ⟨by omega, by omega⟩)
variable {K : PySem.W.Frag}
theorem rd_iswhole (vs : List V) (H : Hp) (Q : VK) (E : XK) (h : sp_iswhole K vs H Q E) : r_iswhole K { nx := fun _ H' => Q .non H', rt := Q } (L2.start N_iswhole vs) H := by
  obtain ⟨v, T, rfl, ht, q⟩ := h
  unfold r_iswhole N_iswhole
  walk_at "ev"
  exact ⟨v, T, rfl, ht, _, _, rfl, rfl, q⟩
theorem rd_isline (vs : List V) (H : Hp) (Q : VK) (E : XK) (h : sp_isline K vs H Q E) : r_isline K { nx := fun _ H' => Q .non H', rt := Q } (L2.start N_isline vs) H := by
  obtain ⟨n, v, T, rfl, ht, q⟩ := h
  unfold r_isline N_isline
  walk_at "ev"
  refine ⟨v, T, rfl, ht, ?_⟩
  rcases tyb_int ht with ⟨rfl, i, rfl⟩ | ⟨ne, nv⟩
  · rw [decide_eq_true rfl]
    refine ⟨true, rfl, ?_⟩
    walk_at "ev"
    have e : lnV n (.int i) = decide (0 ≤ i ∧ i < (n : Int)) := rfl
    rw [e] at q
    split
    · rename_i h
      have e2 : decide (0 ≤ i ∧ i < (n : Int)) = decide (i < (n : Int)) := decide_eq_decide.mpr ⟨fun z => z.2, fun z => ⟨h, z⟩⟩
      rw [← e2]
      exact q
    · rename_i h
      rw [decide_eq_false fun z => h z.1] at q
      exact q
  · rw [decide_eq_false ne]
    refine ⟨false, rfl, ?_⟩
    have e : lnV n v = false := by
      cases v with
      | int i => exact absurd rfl (nv i)
      | _ => rfl
    rw [e] at q
    exact q
theorem tw_ne {n : Nat} {x y : V} (h : ∀ i, x ≠ .int i) : twV n x y = false := by
  cases x with
  | int i => exact absurd rfl (h i)
  | _ => rfl
theorem tw_ne2 {n : Nat} {x y : V} (h : ∀ i, y ≠ .int i) : twV n x y = false := by
  cases y with
  | int i => exact absurd rfl (h i)
  | _ => cases x <;> rfl
theorem ln_ne {n : Nat} {x : V} (h : ∀ i, x ≠ .int i) : lnV n x = false := by
  cases x with
  | int i => exact absurd rfl (h i)
  | _ => rfl
theorem rd_iscomparer (vs : List V) (H : Hp) (Q : VK) (E : XK) (h : sp_iscomparer K vs H Q E) : r_iscomparer K { nx := fun _ H' => Q .non H', rt := Q } (L2.start N_iscomparer vs) H := by
  obtain ⟨n, v, b, rfl, hv, q⟩ := h
  unfold r_iscomparer N_iscomparer
  walk_at "ev"
  cases hv with
  | @other _ T ht ne =>
    refine ⟨v, T, rfl, ht, _, _, rfl, rfl, ?_⟩
    walk_at "ev"
    rw [if_neg ne]
    exact q
  | @long p xs hp ne =>
    refine ⟨.ref p, "tuple", rfl, .tup hp, _, _, rfl, rfl, ?_⟩
    walk_at "ev"
    refine ⟨p, _, rfl, .inr hp, ?_⟩
    walk_at "ev"
    rw [if_neg (by omega)]
    exact q
  | @two p x y Tx Ty hp hx hy =>
    refine ⟨.ref p, "tuple", rfl, .tup hp, _, _, rfl, rfl, ?_⟩
    walk_at "ev"
    refine ⟨p, _, rfl, .inr hp, ?_⟩
    walk_at "ev"
    refine g2_run hp ?_
    walk_at "ev"
    refine ⟨n, x, Tx, rfl, hx, lnV n x, rfl, ?_⟩
    rcases tyb_int hx with ⟨_, i, rfl⟩ | ⟨_, nx⟩
    · cases e1 : lnV n (.int i) with
      | false =>
        have : twV n (.int i) y = false := by
          cases y with
          | int j =>
            show (decide _ && (decide _ && decide _)) = false
            rw [show decide (0 ≤ i ∧ i < (n : Int)) = false from e1] <;> rfl
          | _ => rfl
        rw [this] at q
        exact q
      | true =>
        walk_at "ev"
        refine ⟨n, y, Ty, rfl, hy, lnV n y, rfl, ?_⟩
        rcases tyb_int hy with ⟨_, j, rfl⟩ | ⟨_, ny⟩
        · have e3 : twV n (.int i) (.int j) = (lnV n (.int i) && (lnV n (.int j) && decide (¬ i = j))) := rfl
          rw [e3, e1, Bool.true_and] at q
          cases e2 : lnV n (.int j) with
          | false =>
            rw [e2] at q
            exact q
          | true =>
            rw [e2, Bool.true_and] at q
            walk_at "ev"
            first
              | exact q
              | (rw [decide_not] at q; exact q)
        · rw [ln_ne ny]
          rw [tw_ne2 ny] at q
          exact q
    · rw [ln_ne nx]
      rw [tw_ne nx] at q
      exact q
theorem rd_needlines (vs : List V) (H : Hp) (Q : VK) (E : XK) (h : sp_needlines K vs H Q E) : r_needlines K { nx := fun _ H' => Q .non H', rt := Q } (L2.start N_needlines vs) H := by
  obtain ⟨n, rfl, h1, h2, q⟩ := h
  unfold r_needlines N_needlines
  walk_at "ev"
  refine ⟨.int (n : Int), "int", rfl, .int _, true, ?_, ?_⟩
  · rw [decide_eq_true rfl]
  walk_at "ev"
  rw [if_pos (by omega), if_pos (by omega)]
  exact q
theorem rd_rowof (vs : List V) (H : Hp) (Q : VK) (E : XK) (h : sp_rowof K vs H Q E) : r_rowof K { nx := fun _ H' => Q .non H', rt := Q } (L2.start N_rowof vs) H := by
  obtain ⟨n, t, rfl, n10, q⟩ := h
  unfold r_rowof N_rowof
  walk_at "ev"
  refine lc_rng (n := n) (fun Q q => ⟨_, rfl, q⟩) (by omega) (fun v => rfl) (fun D k acc H' => Same H H' ∧ acc = vis ((List.range k).map fun k => ((t / 2 ^ k % 2 : Nat) : Int))) (fun D nD => ⟨same_new nD, rfl⟩) ?_ ?_
  · intro D k acc H2 nD hk hD g2
    obtain ⟨s2, rfl⟩ := g2
    refine .yes ?_
    walk_at "ev"
    refine ⟨by omega, ?_⟩
    have e : Builtin.bitAnd ((t : Int) / 2 ^ (k : Int).toNat) 1 = ((t / 2 ^ k % 2 : Nat) : Int) := by
      rw [bitAnd_m1, Int.toNat_natCast]
      norm_cast
    rw [e]
    refine GoOn.mk hD (by rw [ints_len, List.length_map, List.length_range]; omega) ⟨same_mut s2 nD, ?_⟩
    unfold vis
    rw [List.range_succ, List.map_append, List.map_append] <;> rfl
  · intro D acc H2 nD hD g2
    obtain ⟨s2, rfl⟩ := g2
    exact q H2 D s2 nD hD
end Sw

set_option Elab.async false
set_option linter.all false
set_option maxRecDepth 100000
set_option maxHeartbeats 4000000
namespace Sw
open PySem PySem.Spec PyProof.Rows L2
local macro_rules | `(tactic| walk_at "ev") => `(tactic| simp only [tSeq, tCalW, quiet, tRzA, tRzO, tTryT, tTryK, tJoin, tJs, tBM, tBits, kStrI, kIntS, kLenS, mSplit, mPart, mIndex, tAsg, tRet, tRetN, tOp, tUn, tVar, tC, tNil, tCons, tCB, tDrop, tNext, tCont, tBreak, tIfS, tIf, tTest, tChain, tChain3, tB, tTup, tLst, tAnd, tOr, tNot, tAndV, tOrV, tNotV, tPart, tNoPart, tSl, tCal, tAug, ipI, rI0, rI, rU, rEq, rNe, kMin, kMax, gName, gCons, gNil, L2.start, wipe, List.map_cons, List.map_nil, List.length_cons, List.length_nil, List.cons_append, List.nil_append, List.append_nil, Nat.reduceAdd, Nat.reduceSub, List.replicate_succ, List.replicate_zero, List.getElem?_cons_zero, List.getElem?_cons_succ, List.set_cons_succ, List.set_cons_zero, Option.some.injEq, exists_eq_left', exists_eq_left, V.int.injEq, V.bl.injEq, V.str.injEq, V.ref.injEq, List.cons.injEq, exists_and_left, and_assoc, and_true, true_and, scal_ii, scal_ss, scal_nn, scal_bb, scal_ni, scal_in, decide_eq_true_eq, Bool.not_true, Bool.not_false, Bool.not_eq_true', decide_eq_false_iff_not, ite_not, reduceCtorEq, if_true, if_false, Bool.false_eq_true, ne_eq, not_true_eq_false, not_false_eq_true, Int.reduceLT, Int.reduceLE, Int.reduceNeg])
local macro_rules | `(tactic| walk_at "cm") => `(tactic| first | exact Or.inr ⟨by decide, by decide⟩ | exact Or.inl ⟨by decide, by decide⟩ | exact Or.inl ⟨by omega, by omega⟩ | exact Or.inr ⟨by omega, by omega⟩)
variable {K : PySem.W.Frag}
def cmpU (cs : List Cmp) (i : Nat) : V × V := match cs[i]? with
  | some c => (.int (c.1 : Int), .int (c.2 : Int))
  | none => (.non, .non)
theorem set_still {r : Row} {a b : Nat} : (r.set a (at0 r a)).set b (at0 r b) = r := by rw [set_at0', set_at0']
/-- least ahead, greatest behind: what a comparer does -/
theorem goC_mm (r : Row) (c : Cmp) : (r.set c.1 (if at0 r c.2 < at0 r c.1 then at0 r c.2 else at0 r c.1)).set c.2 (if at0 r c.2 > at0 r c.1 then at0 r c.2 else at0 r c.1) = goC r c := by
  rcases Int.lt_trichotomy (at0 r c.1) (at0 r c.2) with h | h | h
  · have e1 : (if at0 r c.2 < at0 r c.1 then at0 r c.2 else at0 r c.1) = at0 r c.1 := if_neg (by omega)
    have e2 : (if at0 r c.2 > at0 r c.1 then at0 r c.2 else at0 r c.1) = at0 r c.2 := if_pos h
    have e3 : goC r c = r := if_neg (by omega)
    rw [e1, e2, e3, set_still]
  · have e1 : (if at0 r c.2 < at0 r c.1 then at0 r c.2 else at0 r c.1) = at0 r c.1 := if_neg (by omega)
    have e2 : (if at0 r c.2 > at0 r c.1 then at0 r c.2 else at0 r c.1) = at0 r c.2 := by rw [h]; exact if_neg (by omega)
    have e3 : goC r c = r := if_neg (by omega)
    rw [e1, e2, e3, set_still]
  · have e1 : (if at0 r c.2 < at0 r c.1 then at0 r c.2 else at0 r c.1) = at0 r c.2 := if_pos h
    have e2 : (if at0 r c.2 > at0 r c.1 then at0 r c.2 else at0 r c.1) = at0 r c.1 := if_neg (by omega)
    have e3 : goC r c = (r.set c.1 (at0 r c.2)).set c.2 (at0 r c.1) := if_pos h
    rw [e1, e2, e3]
def Wlgone (a b p : Addr) (cs : List Cmp) (r : Row) (H : Hp) (i : Nat) (σ : L2.St) (H' : Hp) : Prop :=
  ∃ y z, σ = [some (.ref a), some (.ref b), some (.ref p), y, z] ∧ Same H H' ∧ H' p = some (.lst (vis (gone (cs.take i) r)))
theorem rd_lgone (vs : List V) (H : Hp) (Q : VK) (E : XK) (h : sp_lgone K vs H Q E) : r_lgone K { nx := fun _ H' => Q .non H', rt := Q } (L2.start N_lgone vs) H := by
  obtain ⟨a, b, n, cs, r, rfl, ⟨ps, ha, hp, ok, n1, n10⟩, hb, hr, q⟩ := h
  unfold r_lgone N_lgone
  walk_at "ev"
  refine ⟨b, _, rfl, .inl hb, fun p np => ?_⟩
  have s0 := same_new (o := .lst (vis r)) np
  refine for_pairs (a := a) (ps := ps) rfl (s0.seq ha) (cmpU cs) (Wlgone a b p cs r H) ⟨none, none, rfl, s0, upd_same⟩ (fun i σ H' _ hW => ?_) (fun i g σ H' hg hW => ?_) (fun i g σ H' hg hW => ?_) (fun σ H' hW => ?_)
  · obtain ⟨_, _, _, s, _⟩ := hW
    exact s.seq ha
  · obtain ⟨_, _, _, s, _⟩ := hW
    obtain ⟨c, hc, ht⟩ := hp.getL hg
    unfold cmpU
    rw [hc]
    exact Same.sqt s ht
  · obtain ⟨y, z, rfl, s, hpp⟩ := hW
    obtain ⟨c, hc, ht⟩ := hp.getL hg
    unfold cmpU
    rw [hc]
    have okc := ok.2 c (List.mem_of_getElem? hc)
    have hlen : (gone (cs.take i) r).length = n := by rw [gone_len, hr]
    obtain ⟨e1, e2⟩ := cmp_at okc hlen
    unfold r_lgone_f1
    walk_at "ev"
    refine ⟨p, _, _, _, rfl, rfl, .inl (.inl hpp), atI_nat e1, p, _, _, _, rfl, rfl, .inl (.inl hpp), atI_nat e2, ?_⟩
    refine ⟨_, rfl, _, rfl, ?_⟩
    refine ⟨p, _, _, _, rfl, rfl, .inl (.inl hpp), atI_nat e1, p, _, _, _, rfl, rfl, .inl (.inl hpp), atI_nat e2, ?_⟩
    refine ⟨_, rfl, _, rfl, small_line (by decide), fun T nT => ?_⟩
    have hpT : p ≠ T := ne_of_none hpp nT
    refine swap_run (p := p) (r := gone (cs.take i) r) rfl rfl rfl (by rw [upd_ne hpT]; exact hpp) (.inl (.inl upd_same)) (by rw [hlen]; exact okc.1) (by rw [hlen]; exact okc.2.1) ?_
    refine ⟨_, _, rfl, same_mut (s.trans (same_new nT)) np, ?_⟩
    rw [upd_same, gone_take hc, goC_mm]
  · obtain ⟨y, z, rfl, s, hpp⟩ := hW
    rw [show ps.length = cs.length from hp.length, List.take_length] at hpp
    walk_at "ev"
    exact q H' p s np hpp
theorem pow_ge {n : Nat} (h : n ≤ 10) : 2 ^ n ≤ 1024 := Nat.pow_le_pow_right (by decide) h
theorem rd_lbare (vs : List V) (H : Hp) (Q : VK) (E : XK) (h : sp_lbare K vs H Q E) : r_lbare K { nx := fun _ H' => Q .non H', rt := Q } (L2.start N_lbare vs) H := by
  obtain ⟨n, rfl, n1, hn, q⟩ := h
  have hp := pow_ge hn
  unfold r_lbare N_lbare
  walk_at "ev"
  refine lc_rng (n := 2 ^ n) (fun Q q => ⟨_, rfl, 1, (n : Int), rfl, rfl, ⟨by omega, by omega, by decide⟩, ?_⟩) (by omega) (fun v => rfl) (fun D i acc H' => Same H H' ∧ ∃ qs : List Addr, acc = Rfs qs ∧ Own H H' qs ((List.range i).map (bareR n))) (fun D nD => ⟨same_new nD, [], rfl, .nil⟩) ?_ ?_
  · have e : (1 : Int) * 2 ^ (n : Int).toNat = ((2 ^ n : Nat) : Int) := by
      rw [Int.toNat_natCast, Int.one_mul]
      norm_cast
    show Q [V.int (1 * 2 ^ (n : Int).toNat)] H
    rw [e]
    exact q
  · intro D i acc H' nD hi hD g
    obtain ⟨s, qs, rfl, own⟩ := g
    have ql := own.length
    rw [List.length_map, List.length_range] at ql
    refine .yes ?_
    walk_at "ev"
    refine lc_rng (n := n) (fun Q q => ⟨_, rfl, q⟩) (by omega) (fun v => rfl) (fun D2 k acc2 H2 => Same H' H2 ∧ acc2 = vis ((List.range k).map fun k => ((i / 2 ^ k % 2 : Nat) : Int))) (fun D2 nD2 => ⟨same_new nD2, rfl⟩) ?_ ?_
    · intro D2 k acc2 H2 nD2 hk hD2 g2
      obtain ⟨s2, rfl⟩ := g2
      refine .yes ?_
      walk_at "ev"
      refine ⟨by omega, ?_⟩
      have e : Builtin.bitAnd ((i : Int) / 2 ^ (k : Int).toNat) 1 = ((i / 2 ^ k % 2 : Nat) : Int) := by
        rw [bitAnd_m1, Int.toNat_natCast]
        norm_cast
      rw [e]
      refine GoOn.mk hD2 (by rw [ints_len, List.length_map, List.length_range]; omega) ⟨same_mut s2 nD2, ?_⟩
      unfold vis
      rw [List.range_succ, List.map_append, List.map_append] <;> rfl
    · intro D2 acc2 H2 nD2 hD2 g2
      obtain ⟨s2, rfl⟩ := g2
      have hD' := s2 _ _ hD
      have h2D : D2 ≠ D := fun z => by rw [z, hD] at nD2; cases nD2
      refine GoOn.mk hD' (by rw [rfs_len]; omega) ⟨same_mut (s.trans s2) nD, qs ++ [D2], ?_, ?_⟩
      · unfold Rfs
        rw [List.map_append] <;> rfl
      · rw [List.range_succ, List.map_append]
        refine ((own.same s2).upd hD' fun r hr => ?_).snoc ⟨s.free nD2, ?_⟩
        · obtain ⟨m, _, rfl⟩ := List.mem_map.mp hr
          exact ne_of_len (bareR_len n m) n1
        · rw [upd_ne h2D]
          exact hD2
  · intro D acc H' nD hD g
    obtain ⟨s, qs, rfl, own⟩ := g
    exact q H' D qs s nD hD own
theorem ne_ints {H : Hp} {D p : Addr} {Q : VK} (h1 : H D = some (.lst [])) (h2 : H p = some (.lst [])) (q : Q (.bl true) H) : rEqD K (.ref D) (.ref p) H Q :=
  ⟨.list [], .list [], .lst (.inl (.inl h1)) .nil, .lst (.inl (.inl h2)) .nil, by decide +kernel, by decide +kernel, q⟩
theorem rd_lisbare (vs : List V) (H : Hp) (Q : VK) (E : XK) (h : sp_lisbare K vs H Q E) : r_lisbare K { nx := fun _ H' => Q .non H', rt := Q } (L2.start N_lisbare vs) H := by
  obtain ⟨a, n, r, rfl, ha, hr, hn, hb, q⟩ := h
  unfold r_lisbare N_lisbare
  walk_at "ev"
  refine isk_ty (tyx_lst ha) (b := true) (by decide +kernel) ⟨true, rfl, ?_⟩
  walk_at "ev"
  refine ⟨a, _, rfl, .inl ha, ?_⟩
  rw [ints_len, hr]
  walk_at "ev"
  refine lc_each (a := a) (xs := vis r) rfl ha (fun v => rfl) (fun D i acc H' => Same H H' ∧ acc = []) (fun D nD => ⟨same_new nD, rfl⟩) (fun D i acc H' nD g => g.1.seq ha) ?_ ?_
  · intro D i x acc H' nD hx hi hD g
    obtain ⟨s, rfl⟩ := g
    obtain ⟨z, rfl, _⟩ := ints_get hx
    unfold Turn
    walk_at "ev"
    refine isk_ty (.base (.int z)) (b := false) (by decide +kernel) ⟨false, rfl, ?_⟩
    walk_at "ev"
    refine isk_ty (.base (.int z)) (b := true) (by decide +kernel) ⟨true, rfl, ?_⟩
    exact ⟨[], hD, s, rfl⟩
  · intro D acc H' nD hD g
    obtain ⟨s, rfl⟩ := g
    refine ⟨small_line (by decide), fun p np => ?_⟩
    have k1 := same_new (o := .lst []) np
    refine ne_ints (by rw [upd_ne (ne_of_none hD np)]; exact hD) upd_same ?_
    refine ⟨true, rfl, ?_⟩
    walk_at "ev"
    have s1 := s.trans k1
    generalize upd H' p (.lst []) = H1 at s1
    refine lc_each (a := a) (xs := vis r) rfl (s1.seq ha) (fun v => rfl) (fun D i acc H' => Same H H' ∧ acc = []) (fun D nD => ⟨s1.trans (same_new nD), rfl⟩) (fun D i acc H' nD g => g.1.seq ha) ?_ ?_
    · intro D i x acc H' nD hx hi hD g
      obtain ⟨s, rfl⟩ := g
      obtain ⟨z, rfl, hz⟩ := ints_get hx
      have bit := hb z (List.mem_of_getElem? hz)
      unfold Turn
      walk_at "ev"
      refine ⟨small_line (by decide), fun T nT => ?_⟩
      have kT := same_new (o := .tup [.int 0, .int 1]) nT
      refine ⟨T, _, rfl, .inr (.inl (.inl upd_same)), rfl, rfl, false, ?_, ?_⟩
      · rcases bit with rfl | rfl <;> rfl
      · exact ⟨[], kT _ _ hD, s.trans kT, rfl⟩
    · intro D acc H' nD hD g
      obtain ⟨s, rfl⟩ := g
      refine ⟨small_line (by decide), fun p np => ?_⟩
      have k2 := same_new (o := .lst []) np
      refine ne_ints (by rw [upd_ne (ne_of_none hD np)]; exact hD) upd_same ?_
      exact q _ (s.trans k2)
end Sw

set_option Elab.async false
set_option linter.all false
set_option maxRecDepth 100000
set_option maxHeartbeats 4000000
namespace Sw
open PySem PySem.Spec PyProof.Rows L2
local macro_rules | `(tactic| walk_at "ev") => `(tactic| simp only [tSeq, tCalW, quiet, tRzA, tRzO, tTryT, tTryK, tJoin, tJs, tBM, tBits, kStrI, kIntS, kLenS, mSplit, mPart, mIndex, tAsg, tRet, tRetN, tOp, tUn, tVar, tC, tNil, tCons, tCB, tDrop, tNext, tCont, tBreak, tIfS, tIf, tTest, tChain, tChain3, tB, tTup, tLst, tAnd, tOr, tNot, tAndV, tOrV, tNotV, tPart, tNoPart, tSl, tCal, tAug, ipI, rI0, rI, rU, rEq, rNe, kMin, kMax, gName, gCons, gNil, L2.start, wipe, List.map_cons, List.map_nil, List.length_cons, List.length_nil, List.cons_append, List.nil_append, List.append_nil, Nat.reduceAdd, Nat.reduceSub, List.replicate_succ, List.replicate_zero, List.getElem?_cons_zero, List.getElem?_cons_succ, List.set_cons_succ, List.set_cons_zero, Option.some.injEq, exists_eq_left', exists_eq_left, V.int.injEq, V.bl.injEq, V.str.injEq, V.ref.injEq, List.cons.injEq, exists_and_left, and_assoc, and_true, true_and, scal_ii, scal_ss, scal_nn, scal_bb, scal_ni, scal_in, decide_eq_true_eq, Bool.not_true, Bool.not_false, Bool.not_eq_true', decide_eq_false_iff_not, ite_not, reduceCtorEq, if_true, if_false, Bool.false_eq_true, ne_eq, not_true_eq_false, not_false_eq_true, Int.reduceLT, Int.reduceLE, Int.reduceNeg])
local macro_rules | `(tactic| walk_at "cm") => `(tactic| first | exact Or.inr ⟨by decide, by decide⟩ | exact Or.inl ⟨by decide, by decide⟩ | exact Or.inl ⟨by omega, by omega⟩ | exact Or.inr ⟨by omega, by omega⟩)
variable {K : PySem.W.Frag}
theorem eqv_cs (x y : List Cmp) : PyData.eqv (dCs x) (dCs y) = decide (x = y) := enc_cmps.eq x y
theorem ne_nil {H : Hp} {D p : Addr} {Q : VK} (h1 : H D = some (.lst [])) (h2 : H p = some (.lst [])) (q : Q (.bl false) H) : rNeD K (.ref D) (.ref p) H Q :=
  ⟨.list [], .list [], .lst (.inl (.inl h1)) .nil, .lst (.inl (.inl h2)) .nil, by decide +kernel, by decide +kernel, q⟩
theorem rd_lisweb (vs : List V) (H : Hp) (Q : VK) (E : XK) (h : sp_lisweb K vs H Q E) : r_lisweb K { nx := fun _ H' => Q .non H', rt := Q } (L2.start N_lisweb vs) H := by
  obtain ⟨a, b, ps, qs, cs, rfl, ha, hp, hb, hq, h60, q⟩ := h
  unfold r_lisweb N_lisweb
  walk_at "ev"
  refine isk_ty (tyx_lst (.inl (.inl ha))) (b := true) (by decide +kernel) ⟨true, rfl, ?_⟩
  walk_at "ev"
  refine ⟨dCs cs, dCs cs, dp_web (.inl (.inl ha)) hp, dp_web hb hq, enc_cmps.shaped (by decide) cs, enc_cmps.shaped (by decide) cs, ?_⟩
  rw [eqv_cs, decide_eq_true rfl]
  walk_at "ev"
  rw [for_def]
  unfold iList
  refine ⟨.ref a, rfl, a, rfl, ⟨_, .inl (.inl ha)⟩, ?_⟩
  refine fork_list (xs := Rfs ps) (.inl (.inl ha)) (fun i σ H' => ∃ y z, σ = [some (.ref a), some (.ref b), y, z] ∧ Same H H') ⟨none, none, rfl, .refl H⟩ (fun i σ H' _ hW => ?_) (fun i x σ H' hx hi hW => ?_) (fun σ H' hW => ?_)
  · obtain ⟨_, _, _, s⟩ := hW
    exact s.seq (.inl (.inl ha))
  · obtain ⟨y, z, rfl, s⟩ := hW
    obtain ⟨p, rfl, gp⟩ := rfs_get hx
    obtain ⟨c, gc, hc⟩ := hp.getL gp
    have hc' := Same.sqt s hc
    unfold r_lisweb_f1
    walk_at "ev"
    refine isk_ty (tyx_tup hc') (b := true) (by decide +kernel) ⟨true, rfl, ?_⟩
    walk_at "ev"
    rw [lc_def]
    unfold iTup
    refine ⟨.ref p, rfl, p, rfl, ⟨_, hc'⟩, ?_⟩
    refine lck_tup (xs := V2 c) hc' (fun v => rfl) (fun D i acc H2 => Same H' H2 ∧ acc = []) (fun D nD => ⟨same_new nD, rfl⟩) (fun D i acc H2 nD g => Same.sqt g.1 hc') (fun D i x acc H2 nD hx hi hD g => ?_) (fun D acc H2 nD hD g => ?_)
    · obtain ⟨s2, rfl⟩ := g
      have hz : ∃ z : Int, x = .int z := by
        unfold V2 at hx
        match i, hx with
        | 0, hx => exact ⟨_, (Option.some.inj hx).symm⟩
        | 1, hx => exact ⟨_, (Option.some.inj hx).symm⟩
      obtain ⟨z, rfl⟩ := hz
      unfold Turn
      walk_at "ev"
      refine isk_ty (.base (.int z)) (b := false) (by decide +kernel) ⟨false, rfl, ?_⟩
      exact ⟨[], hD, s2, rfl⟩
    · obtain ⟨s2, rfl⟩ := g
      refine ⟨small_line (by decide), fun r nr => ?_⟩
      refine ne_nil (by rw [upd_ne (ne_of_none hD nr)]; exact hD) upd_same ?_
      walk_at "ev"
      exact (s.trans s2).trans (same_new nr)
  · obtain ⟨y, z, rfl, s⟩ := hW
    walk_at "ev"
    exact q H' s
end Sw

set_option Elab.async false
set_option linter.all false
set_option maxRecDepth 100000
set_option maxHeartbeats 4000000
namespace Sw
open PySem PySem.Spec PyProof.Rows L2
/-! ## The head -/
def fnL : List He.DefD := [defD "row_of" s_rowof, defD "is_whole" s_iswhole, defD "is_comparer" s_iscomparer, defD "_is_line" s_isline, defD "need_lines" s_needlines, metD "Bench" "__init__" "Bench.__init__" s_binit, metD "Bench" "put" "Bench.put" s_bput, metD "Bench" "take_back" "Bench.take_back" s_btake, metD "Bench" "comparers" "Bench.comparers" s_bcomps, metD "Bench" "many" "Bench.many" s_bmany, metD "Bench" "wild" "Bench.wild" s_bwild, defD "_behind" s_bbehind, defD "_law_draw" s_ldraw, defD "_law_gone" s_lgone, defD "_law_bare" s_lbare, defD "_law_is_bare" s_lisbare, defD "_law_is_web" s_lisweb, defD "_law_word" s_lword, defD "_law_tried" s_ltried, defD "_law_ends" s_lends, defD "_law_asked" s_lasked, defD "_law_deed" s_ldeed, defD "_law_refused" s_lrefused, defD "_law_full" s_lfull, defD "law" s_law, metD "BadWeb" "__init__" "BadWeb.__init__" s_initBadWeb]
def faL : List He.Fa := [.glo "row_of", .glo "is_whole", .glo "is_comparer", .glo "_is_line", .glo "need_lines", .glo "_behind", .glo "_law_draw", .glo "_law_gone", .glo "_law_bare", .glo "_law_is_bare", .glo "_law_is_web", .glo "_law_word", .glo "_law_tried", .glo "_law_ends", .glo "_law_asked", .glo "_law_deed", .glo "_law_refused", .glo "_law_full", .glo "law", .glo "BadLines", .glo "BadOrder", .glo "BadPlace", .glo "BadRow", .glo "BadText", .glo "BadWeb", .glo "Bench", .glo "NothingPut", .glo "WebError", .free "ValueError", .free "bool", .free "enumerate", .free "int", .free "isinstance", .free "len", .free "list", .free "max", .free "min", .free "range", .free "sorted", .free "sum", .free "tuple", .free "type", .int "MOST_COMPARERS" 60, .int "MOST_LINES" 10, .exc "NothingPut", .exm "NothingPut" "WebError" true, .exm "BadWeb" "WebError" true, .cls "Bench", .noat "Bench" "_lines", .noat "Bench" "_comparers", .noat "Bench" "_rows", .mkr "Bench", .meth "Bench" "put", .meth "Bench" "take_back", .meth "Bench" "comparers", .meth "Bench" "many", .meth "Bench" "wild"]
def looseL : List Str := (["row_of", "WebError", "BadLines", "BadRow", "BadPlace", "BadOrder", "BadText", "NothingPut", "BadWeb", "MOST_LINES", "MOST_COMPARERS", "is_whole", "is_comparer", "_is_line", "need_lines", "Bench", "_behind", "_law_draw", "_law_gone", "_law_bare", "_law_is_bare", "_law_is_web", "_law_word", "_law_tried", "_law_ends", "_law_asked", "_law_deed", "_law_refused", "_law_full"] : List Str)
def exL (K : PySem.W.Frag) : Bool := winB K "WebError" && (owB K "BadWeb" "place" && (errFB K && (xfB K (He.ga K "BadWeb") && decide (PySem.W.findIn K (.ref (He.ga K "BadWeb")) "place" = some none))))
abbrev rowL : PySem.W.OpenRow := PySem.W.OpenLaw.row PySem.Challenge.rw_sortweb_k11_a_bench_by_deeds
abbrev hkL : PySem.W.Hook := hookZ 5 faL fnL exL
def obL (s : PySem.W.SharedT) : He.AlD × Bool := obsZ 5 faL fnL exL (HandSHeadRun.getT s)
theorem obL_eq (s : PySem.W.SharedT) : obL s = hkL.obs s.abs := obsZ_eq (HandSHeadRun.getT_eq s)
set_option maxHeartbeats 0 in
theorem runL (w : World) : HandSHeadRun.RunEq rowL (PySem.W.view rowL.prog [34]) hkL obL 3000 looseL w := by
  intro os
  kernel_rfl
theorem law_cal (w : World) (mg : Str → Option Value) (h : Heap) (K : PySem.W.Frag) (X : K.In h) (G : h.Ns mainGlobals mg) (c : SaysZ faL fnL exL K) (base : Heap) (KB : K.In base) (GB : base.Ns mainGlobals mg) :
    Cal (PySem.Challenge.rw_sortweb_k11_a_bench_by_deeds).prog w K mg base CX0 7 "law" ["_law_script"] (spLaw K) := by
  have b_ValueError : mg "ValueError" = none := none_of c X G 28 rfl
  have b_bool : mg "bool" = none := none_of c X G 29 rfl
  have b_enumerate : mg "enumerate" = none := none_of c X G 30 rfl
  have b_int : mg "int" = none := none_of c X G 31 rfl
  have b_isinstance : mg "isinstance" = none := none_of c X G 32 rfl
  have b_len : mg "len" = none := none_of c X G 33 rfl
  have b_list : mg "list" = none := none_of c X G 34 rfl
  have b_max : mg "max" = none := none_of c X G 35 rfl
  have b_min : mg "min" = none := none_of c X G 36 rfl
  have b_range : mg "range" = none := none_of c X G 37 rfl
  have b_sorted : mg "sorted" = none := none_of c X G 38 rfl
  have b_sum : mg "sum" = none := none_of c X G 39 rfl
  have b_tuple : mg "tuple" = none := none_of c X G 40 rfl
  have b_type : mg "type" = none := none_of c X G 41 rfl
  have c_MOST_COMPARERS : ∃ t, mg "MOST_COMPARERS" = some (.int 60 t) := int_of c X G 42 rfl
  have c_MOST_LINES : ∃ t, mg "MOST_LINES" = some (.int 10 t) := int_of c X G 43 rfl
  have G_BadLines : mg "BadLines" = some (.ref (He.ga K "BadLines")) := cls_of c X G 19 rfl
  have G_BadOrder : mg "BadOrder" = some (.ref (He.ga K "BadOrder")) := cls_of c X G 20 rfl
  have G_BadPlace : mg "BadPlace" = some (.ref (He.ga K "BadPlace")) := cls_of c X G 21 rfl
  have G_BadRow : mg "BadRow" = some (.ref (He.ga K "BadRow")) := cls_of c X G 22 rfl
  have G_BadText : mg "BadText" = some (.ref (He.ga K "BadText")) := cls_of c X G 23 rfl
  have G_BadWeb : mg "BadWeb" = some (.ref (He.ga K "BadWeb")) := cls_of c X G 24 rfl
  have G_NothingPut : mg "NothingPut" = some (.ref (He.ga K "NothingPut")) := cls_of c X G 26 rfl
  have G_WebError : mg "WebError" = some (.ref (He.ga K "WebError")) := cls_of c X G 27 rfl
  have X_NothingPut : ExK K mg "NothingPut" := exk_of c X G 26 44 rfl rfl
  obtain ⟨e1, e2⟩ := He.ba c.x
  obtain ⟨e2, e3⟩ := He.ba e2
  obtain ⟨e3, e4⟩ := He.ba e3
  obtain ⟨e4, e5⟩ := He.ba e4
  have W_WebError : InK K mg "WebError" := winB_ok X G e1
  have O_BadWeb : OwK K mg "BadWeb" "place" := owB_ok X G e2
  have F : ErrF K := errFB_ok e3
  have XB : XfC K (He.ga K "BadWeb") := xfB_ok e4
  have NB : PySem.W.findIn K (.ref (He.ga K "BadWeb")) "place" = some none := of_decide_eq_true e5
  have eNW : PySem.W.exmOne K (.ref (He.ga K "NothingPut")) (.ref (He.ga K "WebError")) = some true := exm_of' c 45 rfl
  have eBW : PySem.W.exmOne K (.ref (He.ga K "BadWeb")) (.ref (He.ga K "WebError")) = some true := exm_of' c 46 rfl
  have TB : BenchT K := ⟨He.cls_ok (c.d.fact 47 rfl), He.noat_ok (c.d.fact 48 rfl), He.noat_ok (c.d.fact 49 rfl), He.noat_ok (c.d.fact 50 rfl)⟩
  have I_BadWeb := ok_initBadWeb (P := (PySem.Challenge.rw_sortweb_k11_a_bench_by_deeds).prog) (w := w) (base := base) (mg := mg) (met_of c 25 rfl) W_WebError O_BadWeb
  have C_rowof := ok_rowof (P := (PySem.Challenge.rw_sortweb_k11_a_bench_by_deeds).prog) (w := w) (base := base) (here_of c X G 0 0 rfl rfl) b_range (fun vs H Q E h => by obtain ⟨_, _, rfl, _⟩ := h; rfl) (rd_rowof)
  have C_iswhole := ok_iswhole (P := (PySem.Challenge.rw_sortweb_k11_a_bench_by_deeds).prog) (w := w) (base := base) (here_of c X G 1 1 rfl rfl) b_int b_type (fun vs H Q E h => by obtain ⟨_, _, rfl, _⟩ := h; rfl) (rd_iswhole)
  have M_btake := ok_btake (P := (PySem.Challenge.rw_sortweb_k11_a_bench_by_deeds).prog) (w := w) (mg := mg) (base := base) (met_of c 7 rfl) (He.meth_ok (c.d.fact 53 rfl)) (He.cls_ok (c.d.fact 47 rfl)) X_NothingPut (fun vs H Q E h => by obtain ⟨_, _, _, _, _, _, rfl, _⟩ := h; rfl) (rd_btake TB)
  have M_bcomps := ok_bcomps (P := (PySem.Challenge.rw_sortweb_k11_a_bench_by_deeds).prog) (w := w) (mg := mg) (base := base) (met_of c 8 rfl) (He.meth_ok (c.d.fact 54 rfl)) (He.cls_ok (c.d.fact 47 rfl)) b_list (fun vs H Q E h => by obtain ⟨_, _, _, _, _, _, rfl, _⟩ := h; rfl) (rd_bcomps TB)
  have M_bmany := ok_bmany (P := (PySem.Challenge.rw_sortweb_k11_a_bench_by_deeds).prog) (w := w) (mg := mg) (base := base) (met_of c 9 rfl) (He.meth_ok (c.d.fact 55 rfl)) (He.cls_ok (c.d.fact 47 rfl)) b_len (fun vs H Q E h => by obtain ⟨_, _, _, _, _, _, rfl, _⟩ := h; rfl) (rd_bmany TB)
  have C_bbehind := ok_bbehind (P := (PySem.Challenge.rw_sortweb_k11_a_bench_by_deeds).prog) (w := w) (base := base) (here_of c X G 11 5 rfl rfl)  (fun vs H Q E h => by obtain ⟨_, _, _, rfl, _⟩ := h; rfl) (rd_bbehind)
  have C_ldraw := ok_ldraw (P := (PySem.Challenge.rw_sortweb_k11_a_bench_by_deeds).prog) (w := w) (base := base) (here_of c X G 12 6 rfl rfl)  (fun vs H Q E h => by obtain ⟨_, _, _, rfl, _⟩ := h; rfl) (rd_ldraw)
  have C_lgone := ok_lgone (P := (PySem.Challenge.rw_sortweb_k11_a_bench_by_deeds).prog) (w := w) (base := base) (here_of c X G 13 7 rfl rfl) b_list b_max b_min (fun vs H Q E h => by obtain ⟨_, _, _, _, _, rfl, _⟩ := h; rfl) (rd_lgone)
  have C_lbare := ok_lbare (P := (PySem.Challenge.rw_sortweb_k11_a_bench_by_deeds).prog) (w := w) (base := base) (here_of c X G 14 8 rfl rfl) b_range (fun vs H Q E h => by obtain ⟨_, rfl, _⟩ := h; rfl) (rd_lbare)
  have C_lisbare := ok_lisbare (P := (PySem.Challenge.rw_sortweb_k11_a_bench_by_deeds).prog) (w := w) (base := base) (here_of c X G 15 9 rfl rfl) b_bool b_int b_isinstance b_len b_list (fun vs H Q E h => by obtain ⟨_, _, _, rfl, _⟩ := h; rfl) (rd_lisbare)
  have C_lisweb := ok_lisweb (P := (PySem.Challenge.rw_sortweb_k11_a_bench_by_deeds).prog) (w := w) (base := base) (here_of c X G 16 10 rfl rfl) b_bool b_isinstance b_list b_tuple (fun vs H Q E h => by obtain ⟨_, _, _, _, _, rfl, _⟩ := h; rfl) (rd_lisweb)
  have C_lword := ok_lword (P := (PySem.Challenge.rw_sortweb_k11_a_bench_by_deeds).prog) (w := w) (base := base) (here_of c X G 17 11 rfl rfl) b_ValueError b_isinstance b_len G_BadLines G_BadOrder G_BadPlace G_BadRow G_BadText G_BadWeb G_NothingPut (fun vs H Q E h => by obtain ⟨_, _, rfl, _⟩ := h; rfl) (rd_lword F)
  have C_isline := ok_isline (P := (PySem.Challenge.rw_sortweb_k11_a_bench_by_deeds).prog) (w := w) (base := base) (here_of c X G 3 3 rfl rfl) C_iswhole (fun vs H Q E h => by obtain ⟨_, _, _, rfl, _⟩ := h; rfl) (rd_isline)
  have C_needlines := ok_needlines (P := (PySem.Challenge.rw_sortweb_k11_a_bench_by_deeds).prog) (w := w) (base := base) (here_of c X G 4 4 rfl rfl) C_iswhole c_MOST_LINES (fun vs H Q E h => by obtain ⟨_, rfl, _⟩ := h; rfl) (rd_needlines)
  have M_bwild := ok_bwild (P := (PySem.Challenge.rw_sortweb_k11_a_bench_by_deeds).prog) (w := w) (mg := mg) (base := base) (met_of c 10 rfl) (He.meth_ok (c.d.fact 56 rfl)) (He.cls_ok (c.d.fact 47 rfl)) C_rowof b_sorted (fun vs H Q E h => by obtain ⟨_, _, _, _, _, _, rfl, _⟩ := h; rfl) (rd_bwild TB)
  have C_lends := ok_lends (P := (PySem.Challenge.rw_sortweb_k11_a_bench_by_deeds).prog) (w := w) (base := base) (here_of c X G 19 13 rfl rfl) C_lgone C_lbare b_tuple (fun vs H Q E h => by obtain ⟨_, _, _, rfl, _⟩ := h; rfl) (rd_lends)
  have C_iscomparer := ok_iscomparer (P := (PySem.Challenge.rw_sortweb_k11_a_bench_by_deeds).prog) (w := w) (base := base) (here_of c X G 2 2 rfl rfl) C_isline b_len b_tuple b_type (fun vs H Q E h => by obtain ⟨_, _, _, rfl, _⟩ := h; rfl) (rd_iscomparer)
  have M_binit := ok_binit (P := (PySem.Challenge.rw_sortweb_k11_a_bench_by_deeds).prog) (w := w) (mg := mg) (base := base) (met_of c 5 rfl) (He.mkr_ok (c.d.fact 51 rfl)) (cls_of c X G 25 rfl) C_needlines b_list b_range (fun vs H Q E h => by obtain ⟨_, _, _, rfl, _⟩ := h; rfl) (rd_binit TB)
  have C_lasked := ok_lasked (P := (PySem.Challenge.rw_sortweb_k11_a_bench_by_deeds).prog) (w := w) (base := base) (here_of c X G 20 14 rfl rfl) C_lisweb C_lends M_bcomps M_bmany M_bwild b_bool b_int b_isinstance b_len b_list b_range b_sorted b_tuple (fun vs H Q E h => by obtain ⟨_, _, _, _, _, _, _, _, _, _, _, _, _, rfl, _⟩ := h; rfl) (rd_lasked)
  have M_bput := ok_bput (P := (PySem.Challenge.rw_sortweb_k11_a_bench_by_deeds).prog) (w := w) (mg := mg) (base := base) (met_of c 6 rfl) (He.meth_ok (c.d.fact 52 rfl)) (He.cls_ok (c.d.fact 47 rfl)) C_iscomparer C_bbehind b_len b_sorted c_MOST_COMPARERS O_BadWeb I_BadWeb (fun vs H Q E h => by obtain ⟨_, _, _, _, _, _, _, _, rfl, _⟩ := h; rfl) (rd_bput w TB)
  have C_ltried := ok_ltried (P := (PySem.Challenge.rw_sortweb_k11_a_bench_by_deeds).prog) (w := w) (base := base) (here_of c X G 18 12 rfl rfl) M_bput M_btake G_WebError (fun vs H Q E h => by obtain ⟨_, _, _, _, _, _, _, rfl, _⟩ := h; rfl) (rd_ltried eNW eBW)
  have C_ldeed := ok_ldeed (P := (PySem.Challenge.rw_sortweb_k11_a_bench_by_deeds).prog) (w := w) (base := base) (here_of c X G 21 15 rfl rfl) C_ldraw C_lword C_ltried C_lends M_bput M_btake b_bool b_isinstance b_len b_max b_min (fun vs H Q E h => by obtain ⟨_, _, _, _, _, _, _, _, _, _, _, rfl, _⟩ := h; rfl) (rd_ldeed)
  have C_lrefused := ok_lrefused (P := (PySem.Challenge.rw_sortweb_k11_a_bench_by_deeds).prog) (w := w) (base := base) (here_of c X G 22 16 rfl rfl) C_lword C_ltried (fun vs H Q E h => by obtain ⟨_, _, _, _, _, _, _, _, _, _, rfl, _⟩ := h; rfl) (rd_lrefused XB NB)
  have C_lfull := ok_lfull (P := (PySem.Challenge.rw_sortweb_k11_a_bench_by_deeds).prog) (w := w) (base := base) (here_of c X G 23 17 rfl rfl) C_lword C_ltried M_binit M_bcomps M_bput M_btake b_bool b_isinstance b_range (fun vs H Q E h => by obtain ⟨_, _, rfl, _⟩ := h; rfl) (rd_lfull XB NB)
  have C_law := ok_law (P := (PySem.Challenge.rw_sortweb_k11_a_bench_by_deeds).prog) (w := w) (base := base) (here_of c X G 24 18 rfl rfl) C_ldraw C_lasked C_ldeed C_lrefused C_lfull M_binit M_bcomps b_enumerate b_int b_sum (fun vs H Q E h => by obtain ⟨_, _, rfl, _⟩ := h; rfl) (rd_law)
  exact C_law
end Sw
open PySem PySem.W PySem.Calls PyProof.Rows
set_option maxHeartbeats 0 in
theorem PySem.Challenge.cw_sortweb_k11_a_bench_by_deeds_holds : PySem.Challenge.rw_sortweb_k11_a_bench_by_deeds.Holds := by
  w_on; o_law
  refine HandSHeadRun.head_any (r := OpenLaw.row PySem.Challenge.rw_sortweb_k11_a_bench_by_deeds) (q := view (OpenLaw.row PySem.Challenge.rw_sortweb_k11_a_bench_by_deeds).prog [34]) (H := Sw.hkL) (ob := Sw.obL) (M := 3000) (loose := Sw.looseL) (d := HandSHeadRun.topDef (OpenLaw.row PySem.Challenge.rw_sortweb_k11_a_bench_by_deeds).prog 34) (kwd := []) Sw.obL_eq
    (by kernel_rfl) (fun s => by kernel_rfl) Sw.runL (by kernel_rfl) (by kernel_rfl) (by kernel_rfl) (by rfl) (by first | assumption | decide +kernel) (by decide +kernel) ⟨rfl, rfl, rfl, rfl, rfl, by decide +kernel⟩ ?hw ?hc
  case hw => w_witness2
  case hc => exact Sw.law_end (l := PySem.Challenge.rw_sortweb_k11_a_bench_by_deeds) (k := 7) (fa := Sw.faL) (fn := Sw.fnL) (ex := Sw.exL) (x := "_law_script") rfl (by kernel_rfl) ⟨rfl, by decide, by decide⟩ (by kernel_rfl) Sw.law_cal

