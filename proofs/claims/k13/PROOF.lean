import PyProof.Rows.All
import Wide.All
import OpenK.AllK
import Wide.FinOn
import PyProof.EqAt
import PyProof.EqKinds
import PyProof.TupleCall
import Lean
import HandS.ForMost
import HandS.ForExc
import HandS.Defaults
import HandS.Steps
import HandS.Evl
import HandS.More
import HandS.TupAny
import HandS.Style
import HandS.Conv
import HandS.SortInts
import HandS.IsInst
import HandS.FStr
import HandS.Deep
import HandS.ExcInit
import HandS.TryMany
import HandS.RaiseFrom
import HandS.SuiteRaise
import HandS.Zip
import HandS.HeadHook4
import HandS.HeadEnd
import HandS.HeadWalk
import HandS.Head0
import HandS.Head1
import HandS.Head2
import HandS.NoneIn
import HandS.StrMore
import HandS.WideBits
import HandS.Small
import KE.KExcIs
import HandS.ExcIs
import HandS.ExcField
import HandS.ExcValue
import HandS.ExcInitHot
import HandS.RaiseMore
import HandS.Replace
import KE.IntTextLaws
import KE.BitLaws
import HandS.SetFor
import HandS.TupSets
import KE.DataMinMax
import HandS.SortKw
import HandS.RevRange
import PyProof.Rows.BitMore
import HandS.Strs
import HandS.SetBool
import HandS.Text
import PySem.Challenge.RW_sortweb_k13_whole_one_web_in_many_ways
set_option Elab.async false
set_option linter.all false
set_option maxRecDepth 100000
set_option maxHeartbeats 4000000
namespace Sw
open PySem PySem.Spec PyProof.Rows L2

/-! ## A def by its promise -/
/-- the name x of the module is a def that keeps sp -/
structure Cal (P : Program) (w : World) (K : PySem.W.Frag) (mg : Str → Option Value) (base : Heap) (CX : CXT) (k : Nat) (x : Str) (ps : List Str) (sp : Sp) : Prop where
  ex : ∃ (f : Addr) (fd : FuncData), FnOk P w K mg base CX k f fd ps sp ∧ mg x = some (.ref f) ∧ PySem.W.keepIn K (.ref f) = true ∧ Binds K fd ps [] ∧
    (∀ (s : Shared) (us : List Value), us.length = ps.length → BindsTo s fd ⟨us, []⟩ (ps.zip us)) ∧ ∃ (oc : Value) (od : Option Addr) (osl : Array (Option Value)), K.lookup f = some ⟨oc, od, .func fd, osl⟩
/-- the name x of the module is the def st of the text -/
structure Here (K : PySem.W.Frag) (mg : Str → Option Value) (x : Str) (st : Stmt) : Prop where
  ex : ∃ (f : Addr) (fd : FuncData), FunD K x x (defArgs st) (defBody st) (defScope st) [] [] f fd ∧ mg x = some (.ref f)
abbrev BX (CX : CXT) (P : Program) (w : World) (K : PySem.W.Frag) (mg : Str → Option Value) (base : Heap) (N : List Str) (x : Str) (st : Stmt) (f : Addr) (cdv : Value) (A : Around) (outer : List Env) (s : Shared) (H : Hp) (E : XK) : Cx :=
  cxOf CX P w K mg base N x (defScope st) f cdv A outer s H E
abbrev RmIn (k : Nat) (A : Around) (x : Str) (st : Stmt) (s : Shared) (f : Addr) (cdv : Value) : Prop := Room k (A.deeper (envOfC x (defScope st) s.heap.objs.size f cdv))
section
variable {P : Program} {w : World} {K : PySem.W.Frag} {mg : Str → Option Value} {base : Heap} {x : Str} {st : Stmt} {N ps : List Str} {k : Nat} {sp : Sp}
theorem Here.cal {r : TS} (F : Here K mg x st) (S : FnScope N ps (defScope st)) (len : ∀ vs H Q E, sp vs H Q E → vs.length = ps.length)
    (bd : ∀ (kV doc pm : Value) (an : Option Addr) (cdv ct : Value) (us : List Value), us.length = ps.length →
      bindArgs (PySem.W.fnOf x x (defArgs st) (defBody st) (defScope st) .none kV doc pm an cdv ct) ⟨us, []⟩ = pure (ps.zip us))
    (dv : ∀ (f : Addr) (cdv : Value) (A : Around) (outer : List Env) (s : Shared) (H : Hp) (E : XK), RmIn k A x st s f cdv → PSs (BX CX0 P w K mg base N x st f cdv A outer s H E).nox (defBody st) r)
    (rd : ∀ (vs : List V) (H : Hp) (Q : VK) (E : XK), sp vs H Q E → r { nx := fun _ H' => Q .non H', rt := Q } (start N vs) H) :
    Cal P w K mg base CX0 (k + 1) x ps sp := by
  obtain ⟨f, fd, D, g⟩ := F.ex
  refine ⟨f, fd, ?_, g, D.kp, D.bindsN bd, fun s us hl => D.bindsA bd s us hl, ?_⟩
  · exact D.ok S len fun cdv A outer s H vs Q E hr h => ⟨r, (dv f cdv A outer s H E hr).nox, rd vs H Q E h⟩
  · obtain ⟨oc, od, _, _, _, _, _, _, _, osl, _, lk, _⟩ := D.ex
    exact ⟨oc, od, osl, lk⟩
theorem Cal.mono {CX : CXT} {j : Nat} (c : Cal P w K mg base CX j x ps sp) (h : j ≤ k) : Cal P w K mg base CX k x ps sp := by
  obtain ⟨f, fd, F, g, kp, b, ba⟩ := c.ex
  exact ⟨f, fd, F.mono h, g, kp, b, ba⟩
end
/-- f(e, ..), nothing raised -/
def tCal (sp : Sp) (t : TA) : TE := fun σ H Q => t σ H fun vs H1 => sp vs H1 Q E0
section
variable {X : Cx} {k : Nat} {x : Str} {ps : List Str} {sp : Sp} {t : TA} {e : Expr} {es : List Expr} {p pos : Pos}
theorem pe_cal (c : Cal X.prog X.w X.K X.mg X.base CX0 k x ps sp) (hr : Room k X.A) (hg : Gl X x) (ha : PA X (e :: es) t)
    (hdb : (x == ("__debug__" : Str)) = false := by decide) (he : starEach (e :: es) X.env = (false, eval e X.env) :: starEach es X.env := by rfl)
    (hpl : (backTo pos (starEach es X.env)).any (·.1) = false := by rfl) : PE X (.Call (.Name x p) (e :: es) [] pos) (tCal sp t) := by
  obtain ⟨f, fd, F, gm, kp, b, _⟩ := c.ex
  refine ⟨fun pins s σ H Q I h => ?_⟩
  refine (pe_call (E := E0) (dvs := []) F hr hg gm kp b .nil pass0 ha hdb he hpl).run pins s σ H Q I ?_
  have eq : (fun (vs : List V) (H1 : Hp) => sp vs H1 Q E0) = fun vs H1 => sp (vs ++ []) H1 Q E0 := by
    funext vs H1
    rw [List.append_nil]
  show t σ H fun vs H1 => sp (vs ++ []) H1 Q E0
  rw [← eq]
  exact h
end

/-! ## The head: what the top has left, by names -/
def defD (x : Str) (st : Stmt) : He.DefD := ⟨(x, none), x, x, defArgs st, defBody st, defScope st, [], []⟩
def asZ (g : Addr → Option Obj) : Nat → List Addr
  | 0 => [mainGlobals, cStatics]
  | n + 1 => He.growD g (asZ g n)
def fragZ (g : Addr → Option Obj) (n : Nat) : PySem.W.Frag := He.frG g (asZ g n)
def obsZ (n : Nat) (fa : List He.Fa) (fn : List He.DefD) (ex : PySem.W.Frag → Bool) (g : Addr → Option Obj) : He.AlD × Bool := (fun K : PySem.W.Frag => (He.obsD fa fn K, ex K)) (fragZ g n)
/-- what the head tells of the written part K -/
structure SaysZ (fa : List He.Fa) (fn : List He.DefD) (ex : PySem.W.Frag → Bool) (K : PySem.W.Frag) : Prop where
  d : He.SaysD fa fn K
  x : ex K = true
def hookZ (n : Nat) (fa : List He.Fa) (fn : List He.DefD) (ex : PySem.W.Frag → Bool) : PySem.W.Hook where
  α := He.AlD × Bool
  obs := fun s => obsZ n fa fn ex s.heap.get?
  val := fun _ => (He.valD fn, true)
  says := fun _ h => ∃ K : PySem.W.Frag, K.In h ∧ SaysZ fa fn ex K
  of := fun _ _ e => ⟨_, He.frG_in, congrArg (fun z : He.AlD × Bool => z.1) e, congrArg (fun z : He.AlD × Bool => z.2) e⟩
  keeps := fun _ _ _ ⟨K, hK, c⟩ k => ⟨K, PySem.W.Frag.In.keeps hK k, c⟩
theorem obsZ_eq {n : Nat} {fa : List He.Fa} {fn : List He.DefD} {ex : PySem.W.Frag → Bool} {g : Addr → Option Obj} {s : Shared} (h : ∀ a, g a = s.heap.get? a) : obsZ n fa fn ex g = (hookZ n fa fn ex).obs s := by
  have e : g = s.heap.get? := funext h
  rw [e] <;> rfl
section
variable {fa : List He.Fa} {fn : List He.DefD} {ex : PySem.W.Frag → Bool} {h : Heap} {K : PySem.W.Frag} {mg : Str → Option Value}
theorem here_of (c : SaysZ fa fn ex K) (X : K.In h) (G : h.Ns mainGlobals mg) {x : Str} {st : Stmt} (i j : Nat) (hi : fn[i]? = some (defD x st)) (hj : fa[j]? = some (.glo x)) : Here K mg x st := by
  obtain ⟨fd, F⟩ := c.d.def_ i hi
  exact ⟨_, fd, F, He.glo_ok X G (c.d.fact j hj)⟩
theorem none_of (c : SaysZ fa fn ex K) (X : K.In h) (G : h.Ns mainGlobals mg) {x : Str} (j : Nat) (hj : fa[j]? = some (.free x)) : mg x = none := He.free_ok X G (c.d.fact j hj)
theorem int_of (c : SaysZ fa fn ex K) (X : K.In h) (G : h.Ns mainGlobals mg) {x : Str} {z : Int} (j : Nat) (hj : fa[j]? = some (.int x z)) : ∃ t, mg x = some (.int z t) := He.int_ok X G (c.d.fact j hj)
end
/-- the law's own promise -/
def spLaw (K : PySem.W.Frag) : Sp := fun vs H Q _ => ∃ (a : Addr) (ns : List Int), vs = [.ref a] ∧ SqL K H a (ns.map V.int) ∧ ns.length ≤ 63 ∧ ∀ H', Q (.bl true) H'
theorem law_end {l : PySem.W.OpenLaw} {k : Nat} {q : Program} {loose : List Str} {XP : (Str → Option Value) → Heap → Prop} {fa : List He.Fa} {fn : List He.DefD} {ex : PySem.W.Frag → Bool} {d : DefRec} {x : Str} {n : Nat}
    (hm : l.most = some 63) (hdf : d.params.defaults = []) (hr : Room k callerA) (hd : d.name = ("law" : Str))
    (F : ∀ (w : World) (mg : Str → Option Value) (h : Heap) (K : PySem.W.Frag), K.In h → h.Ns mainGlobals mg → SaysZ fa fn ex K → ∀ base : Heap, K.In base → base.Ns mainGlobals mg → Cal l.prog w K mg base CX0 k "law" [x] (spLaw K)) :
    PySem.W.WalkO q loose XP (hookZ n fa fn ex).says l.row.toRowW d [] (fun f vs => PySem.call f vs) := by
  refine walk_ofE (CX := CX0) (x := x) hm (by rw [sizeLine_eq]; decide) hdf hr (fun w mg f h Y G hf => ?_) (fun _ _ _ _ z => z)
  obtain ⟨K, KX, c⟩ := Y
  rw [hd] at hf
  obtain ⟨f0, fd0, _, g0, _, _, ba0, oc0, od0, osl0, lk0⟩ := (F w mg h K KX G c h KX G).ex
  have e0 : f0 = f := by
    rw [hf] at g0
    cases g0
    rfl
  subst e0
  refine ⟨K, fd0, spLaw K, KX, fun s u => ba0 s [u] rfl, fun H a ns hl _ hS => ⟨a, ns, rfl, hS, hl, fun _ => rfl⟩, fun base KB GB => ?_⟩
  obtain ⟨f1, fd1, F1, g1, _, _, _, oc1, od1, osl1, lk1⟩ := (F w mg h K KX G c base KB GB).ex
  have e1 : f1 = f0 := by
    rw [hf] at g1
    cases g1
    rfl
  subst e1
  rw [lk0] at lk1
  cases lk1
  exact F1
/-! ## Readings by name -/
abbrev oAdd : R2 := rI0 fun i j => .int (i + j)
abbrev oSub : R2 := rI0 fun i j => .int (i - j)
abbrev oMul : R2 := rI CMul fun i j => .int (i * j)
abbrev oDiv : R2 := rI CDiv fun i j => .int (i / j)
abbrev oMod : R2 := rI (fun _ j => 0 < j) fun i j => .int (i % j)
abbrev oPow : R2 := rI CPow fun i j => .int (i ^ j.toNat)
abbrev oShl : R2 := rI CPow fun i j => .int (i * 2 ^ j.toNat)
abbrev oShr : R2 := rI (fun _ j => 0 ≤ j) fun i j => .int (i / 2 ^ j.toNat)
abbrev oBAnd : R2 := rI0 fun i j => .int (Builtin.bitAnd i j)
abbrev oLt : R2 := rI0 fun i j => .bl (decide (i < j))
abbrev oLe : R2 := rI0 fun i j => .bl (decide (i ≤ j))
abbrev oGt : R2 := rI0 fun i j => .bl (decide (j < i))
abbrev oGe : R2 := rI0 fun i j => .bl (decide (j ≤ i))
abbrev oNeg : V → Hp → VK → Prop := rU fun i => .int (-i)
def kLen (K : PySem.W.Frag) : List V → Hp → VK → Prop := fun xs H Q => ∃ p ys, xs = [.ref p] ∧ (SqL K H p ys ∨ SqT K H p ys) ∧ Q (.int ys.length) H
def kList (K : PySem.W.Frag) : List V → Hp → VK → Prop := fun xs H Q => ∃ p ys, xs = [.ref p] ∧ (SqL K H p ys ∨ SqT K H p ys) ∧ ∀ l, H l = none → Q (.ref l) (upd H l (.lst ys))
def kMin : List V → Hp → VK → Prop := fun xs H Q => ∃ i j, xs = [.int i, .int j] ∧ Q (.int (if j < i then j else i)) H
def kMax : List V → Hp → VK → Prop := fun xs H Q => ∃ i j, xs = [.int i, .int j] ∧ Q (.int (if j > i then j else i)) H
def rInsert : V → List V → Hp → VK → Prop := fun x vs H Q => ∃ (l : Addr) (xs : List V) (i : Int) (y : V), x = .ref l ∧ vs = [.int i, y] ∧ H l = some (.lst xs) ∧ xs.length < sizeLine ∧ 0 ≤ i ∧ i < 2 ^ 63 ∧ Q .non (upd H l (.lst (xs.take i.toNat ++ [y] ++ xs.drop i.toNat)))
abbrev oAddS : R2 := fun x y H Q => ∃ i j, x = .str i ∧ y = .str j ∧ i.length + j.length ≤ sizeLine ∧ Q (.str (i ++ j)) H
abbrev rIsTyB : R2 := fun x y H Q => ∃ a b, x = .ty a ∧ y = .ty b ∧ Q (.bl (decide (a = b))) H
theorem hu64 {k : Nat} {A : Around} (hr : Room k A) : A.units + 64 < cLine := hr.units
section
variable {X : Cx}
theorem cl_len : CallR X (.builtin "len") (kLen X.K) := call_len_seq
theorem cl_list : CallR X (.type "list") (kList X.K) := call_list_of
theorem cl_min (hc : X.calm = true) : CallR X (.builtin "min") kMin := call_min2 hc
theorem cl_max (hc : X.calm = true) : CallR X (.builtin "max") kMax := call_max2 hc
theorem md_insert : MtR X "list.insert" rInsert := mt_insert
theorem md_append : MtR X "list.append" rAppend := mt_append
theorem md_popAt : MtR X "list.pop" rPopAt := mt_popAt
/-- a module's int -/
theorem pe_gi {x : Str} {i : Int} {pos : Pos} (h : ∃ t, X.mg x = some (.int i t)) (hg : Gl X x) (hd : (x == ("__debug__" : Str)) = false := by decide) : PE X (.Name x pos) (tC (.int i)) := by
  obtain ⟨t, h⟩ := h
  exact pe_glob hg h ⟨t, rfl⟩ hd
/-- what is never reached -/
def tOff : TS := fun _ _ _ => False
theorem ps_off {st : Stmt} : PS X st tOff := ⟨fun _ _ _ _ _ _ h => h.elim⟩
end
end Sw

set_option Elab.async false
set_option linter.all false
set_option maxRecDepth 100000
set_option maxHeartbeats 4000000
namespace Sw
open PySem PySem.Spec PyProof.Rows L2
/-! ## (a, b)[::-1] -/
section
variable {prog : Program} {w : World} {A : Around} {E : Value → Shared → Prop} {s : Shared}
theorem applied_back2 {sl : Addr} {tk : Tok} {Q : Int × Int × Nat → Shared → Prop} (hs : s.heap.IsSliceOf sl .none .none (.int (-1) tk)) (h : Q (1, -1, 2) s) :
    wpAny (model prog w) A (Builtin.Slice.sliceApplied (.ref sl) (pure (2 : Int))) Q E s := by
  obtain ⟨os, hos, hcs, hds⟩ := id hs
  unfold Builtin.Slice.sliceApplied Builtin.Slice.sliceFields
  refine wpAny_bind (wpAny_bind ?_)
  refine wpAny_field hos hds (x := .none) rfl ?_
  refine wpAny_bind (wpAny_field hos hds (x := .none) rfl ?_)
  refine wpAny_bind (wpAny_field hos hds (x := .int (-1) tk) rfl ?_)
  refine wpAny_pure ?_
  refine wpAny_bind (HT.slicePart_ (.int (-1) tk) ?_)
  show wpAny _ _ (if ((-1 : Int) == 0) = true then _ else _) _ _ s
  rw [if_neg (by decide)]
  refine wpAny_bind (HT.slicePart_ .none ?_)
  refine wpAny_bind (HT.slicePart_ .none ?_)
  refine wpAny_bind (wpAny_pure ?_)
  exact wpAny_pure h
theorem item_back2 {t sl : Addr} {u v : Value} {tk : Tok} {Q : Value → Shared → Prop} (ht : IsTup s.heap t #[u, v]) (hs : s.heap.IsSliceOf sl .none .none (.int (-1) tk))
    (h : Q (.ref s.heap.objs.size) { s with heap := s.heap.push { cls := .type "tuple", data := .seq #[v, u] } }) : wpAny (model prog w) A (getItem (.ref t) (.ref sl)) Q E s := by
  have two : sizeOk (.seq #[v, u]) := by
    show 2 ≤ sizeLine
    rw [sizeLine_eq]
    decide
  obtain ⟨os, hos, hcs, hds⟩ := id hs
  have kind : s.TypeIs (.ref sl) "slice" := ⟨os, hos, hcs⟩
  unfold getItem
  try with_reducible refine wpAny_holding ?_
  first
    | refine wpAny_bind (wpAny_pure ?_)
    | skip
  refine wpAny_bind (wpAny_sequenceKey ht.typeIs (by decide) ?_)
  refine wpAny_bind (wpAny_callSpecial?_slot (name := Str.ofString "__getitem__") ht.typeIs slot_tuple_getitem ?_)
  refine wpAny_call_entry slot_tuple_getitem ht.typeIs entry_tuple_getitem ?_ (args_tuple_getitem _ _)
  show wpAny _ _ (Builtin.Tuple.tupleItemsOf (.ref t) >>= _) _ _ s
  refine wpAny_bind (tupleItemsOf_ ht ?_)
  refine wpAny_bind (wpAny_typeOf kind ?_)
  rw [if_pos (by decide)]
  refine wpAny_bind (applied_back2 hs ?_)
  show wpAny _ _ (if ((1 : Int) == 0 && (-1 : Int) == 1 && (2 : Nat) == 2) = true then _ else _) _ _ s
  rw [if_neg (by decide)]
  first
    | exact wpAny_bind (m := Builtin.Tuple.tupleExact _) (wpAny_newObj_type (wpAny_pure ⟨_, rfl, wpAny_pure h⟩) two)
    | exact wpAny_bind (m := Builtin.Tuple.tupleExact _) (wpAny_newObj_type (wpAny_bind (wpAny_pure (wpAny_pure ⟨_, rfl, wpAny_pure h⟩))) two)
    | exact wpAny_bind (wpAny_bind (m := Builtin.Tuple.tupleExact _) (wpAny_newObj_type (wpAny_pure (wpAny_pure ⟨_, rfl, wpAny_pure h⟩)) two))
    | exact wpAny_bind (wpAny_bind (m := Builtin.Tuple.tupleExact _) (wpAny_newObj_type (wpAny_pure ⟨_, rfl, wpAny_pure h⟩) two))
end
/-- t[::-1], t a pair -/
def tTurn (K : PySem.W.Frag) (te : TE) : TE := fun σ H Q => te σ H fun x H1 => ∃ (a : Addr) (y z : V), x = .ref a ∧ SqT K H1 a [y, z] ∧ ∀ p, H1 p = none → Q (.ref p) (upd H1 p (.tup [z, y]))
section
variable {X : Cx}
theorem pe_turn {e : Expr} {te : TE} {k : Nat} {p1 p2 p3 pos : Pos} (he : PE X e te) : PE X (.Subscript e (.Slice none none (some (.UnaryOp .USub (.Constant (.int 1) k p1) p2)) p3) pos) (tTurn X.K te) := by
  refine ⟨fun pins s σ H Q I h => ?_⟩
  refine Subscript_ (thn (he.run pins s σ H _ I h) fun v s1 ⟨x, H1, I1, r1, q1⟩ => ?_)
  obtain ⟨a, y, z, rfl, hx, q⟩ := q1
  cases r1
  have back : PO X (some (.UnaryOp .USub (.Constant (.int 1) k p1) p2)) (tPart (tUn oNeg (tC (.int 1)))) := po_some (pe_un un_neg pe_int)
  refine wpAny_Slice ?_
  refine thn (po_none.run pins s1 σ H1 (fun o G => o = none ∧ G = H1) I1 ⟨rfl, rfl⟩) fun vl s2 ⟨l, H2, I2, pl, el, e2⟩ => ?_
  subst el e2
  refine thn (po_none.run pins s2 σ H2 (fun o G => o = none ∧ G = H2) I2 ⟨rfl, rfl⟩) fun vu s3 ⟨u, H3, I3, pu, eu, e3⟩ => ?_
  subst eu e3
  refine thn (back.run pins s3 σ H3 (fun o G => o = some (-1) ∧ G = H3) I3 ⟨1, rfl, -1, rfl, rfl, rfl⟩) fun vs s4 ⟨o, H4, I4, ps, eo, e4⟩ => ?_
  subst eo e4
  cases pl
  cases pu
  cases ps with
  | int i tk =>
    have I5 : Inv X pins σ H4 { s4 with heap := s4.heap.push { cls := .type "slice", data := .fields #[.none, .none, .int (-1) tk] } } :=
      I4.kept (t' := s4.toks) fun b ob q => Heap.get?_push_of_some _ q
    obtain ⟨its, r, ht, hz⟩ := I5.tuple hx
    obtain ⟨y', z', rfl, ry, rz⟩ : ∃ y' z', its = [y', z'] ∧ RelV y y' ∧ RelV z z' := by
      cases r with
      | cons r1 r2 =>
        cases r2 with
        | cons r3 r4 =>
          cases r4
          exact ⟨_, _, rfl, r1, r3⟩
    show wpAny (model X.prog X.w) X.A (subscriptTail e (.Slice none none (some (.UnaryOp .USub (.Constant (.int 1) k p1) p2)) p3) (.ref a) (.ref s4.heap.objs.size)) (EP X pins σ Q) X.xe { s4 with heap := s4.heap.push { cls := .type "slice", data := .fields #[.none, .none, .int (-1) tk] } }
    refine tail_any (ops := [.ref a, .ref s4.heap.objs.size]) ht.typeIs slot_tuple_getitem.lookup ?_ (by with_unfolding_all rfl)
    refine item_back2 ht (Heap.IsSliceOf.new _ .none .none _) ?_
    refine ⟨.ref _, _, I5.laid (t' := s4.toks) (o := .tup [z, y]) (fun b ob q => Heap.get?_push_of_some _ q) (Nat.le_refl _) ?_, rfl, q _ (I5.hok.fresh (Nat.le_refl _))⟩
    refine ⟨by show 2 ≤ sizeLine; rw [sizeLine_eq]; decide, [z', y'], .cons rz (.cons ry .nil), IsTup.new _ _⟩
end
end Sw

set_option Elab.async false
set_option linter.all false
set_option maxRecDepth 100000
set_option maxHeartbeats 4000000
namespace Sw
open PySem PySem.Spec PyProof.Rows L2
/-! ## Two lists, item by item -/
inductive All2 {α β : Type} (R : α → β → Prop) : List α → List β → Prop
  | nil : All2 R [] []
  | cons {a : α} {b : β} {l : List α} {m : List β} : R a b → All2 R l m → All2 R (a :: l) (b :: m)
namespace All2
variable {α β : Type} {R S : α → β → Prop}
theorem length {l : List α} {m : List β} (h : All2 R l m) : l.length = m.length := by
  induction h with
  | nil => rfl
  | cons _ _ ih => rw [List.length_cons, List.length_cons, ih]
theorem imp {l : List α} {m : List β} (h : All2 R l m) (f : ∀ a b, R a b → S a b) : All2 S l m := by
  induction h with
  | nil => exact .nil
  | cons r _ ih => exact .cons (f _ _ r) ih
theorem append {l l' : List α} {m m' : List β} (h : All2 R l m) (h' : All2 R l' m') : All2 R (l ++ l') (m ++ m') := by
  induction h with
  | nil => exact h'
  | cons r _ ih => exact .cons r ih
theorem one {a : α} {b : β} (h : R a b) : All2 R [a] [b] := .cons h .nil
theorem take {l : List α} {m : List β} (h : All2 R l m) : ∀ n, All2 R (l.take n) (m.take n) := by
  induction h with
  | nil => intro n; rw [List.take_nil, List.take_nil]; exact .nil
  | cons r _ ih =>
    intro n
    cases n with
    | zero => exact .nil
    | succ n => exact .cons r (ih n)
theorem drop {l : List α} {m : List β} (h : All2 R l m) : ∀ n, All2 R (l.drop n) (m.drop n) := by
  induction h with
  | nil => intro n; rw [List.drop_nil, List.drop_nil]; exact .nil
  | cons r h ih =>
    intro n
    cases n with
    | zero => exact .cons r h
    | succ n => exact ih n
theorem set {a : α} {b : β} (r : R a b) {l : List α} {m : List β} (h : All2 R l m) : ∀ n, All2 R (l.set n a) (m.set n b) := by
  induction h with
  | nil => intro n; exact .nil
  | cons q h ih =>
    intro n
    cases n with
    | zero => exact .cons r h
    | succ n => exact .cons q (ih n)
theorem erase {l : List α} {m : List β} (h : All2 R l m) : ∀ n, All2 R (l.eraseIdx n) (m.eraseIdx n) := by
  induction h with
  | nil => intro n; exact .nil
  | cons q h ih =>
    intro n
    cases n with
    | zero => exact h
    | succ n => exact .cons q (ih n)
theorem get {l : List α} {m : List β} (h : All2 R l m) : ∀ {i : Nat} {b : β}, m[i]? = some b → ∃ a, l[i]? = some a ∧ R a b := by
  induction h with
  | nil => intro i b e; simp at e
  | cons q h ih =>
    intro i b e
    cases i with
    | zero =>
      rw [List.getElem?_cons_zero] at e
      cases e
      exact ⟨_, rfl, q⟩
    | succ i => exact ih (by simpa using e)
theorem getL {l : List α} {m : List β} (h : All2 R l m) : ∀ {i : Nat} {a : α}, l[i]? = some a → ∃ b, m[i]? = some b ∧ R a b := by
  induction h with
  | nil => intro i b e; simp at e
  | cons q h ih =>
    intro i b e
    cases i with
    | zero =>
      rw [List.getElem?_cons_zero] at e
      cases e
      exact ⟨_, rfl, q⟩
    | succ i => exact ih (by simpa using e)
theorem snoc {l : List α} {m : List β} {a : α} {b : β} (h : All2 R l m) (r : R a b) : All2 R (l ++ [a]) (m ++ [b]) := h.append (.one r)
end All2
/-! ## Webs on the heap -/
abbrev Cmp := Nat × Nat
def V2 (c : Cmp) : List V := [.int (c.1 : Int), .int (c.2 : Int)]
/-- at each address a pair: the comparer -/
abbrev Prs (K : PySem.W.Frag) (H : Hp) (ps : List Addr) (cs : List Cmp) : Prop := All2 (fun p c => SqT K H p (V2 c)) ps cs
def Rfs (ps : List Addr) : List V := ps.map V.ref
def CmpOk (n : Nat) (c : Cmp) : Prop := c.1 < n ∧ c.2 < n ∧ c.1 ≠ c.2
def CmpsOk (n : Nat) (cs : List Cmp) : Prop := ∀ c ∈ cs, CmpOk n c
def WebOk (n : Nat) (cs : List Cmp) : Prop := cs.length ≤ 60 ∧ CmpsOk n cs
theorem same_new {H : Hp} {p : Addr} {o : HO} (h : H p = none) : Same H (upd H p o) := fun b x e => by
  rw [upd_ne (ne_of_none e h)]
  exact e
theorem Same.sqt {K : PySem.W.Frag} {H H' : Hp} {a : Addr} {xs : List V} (e : Same H H') (h : SqT K H a xs) : SqT K H' a xs := by
  rcases h with (h | ⟨o, h⟩) | h
  · exact .inl (.inl (e _ _ h))
  · exact .inl (.inr ⟨o, e _ _ h⟩)
  · exact .inr h
theorem Same.prs {K : PySem.W.Frag} {H H' : Hp} {ps : List Addr} {cs : List Cmp} (e : Same H H') (h : Prs K H ps cs) : Prs K H' ps cs := h.imp fun _ _ r => Same.sqt e r
/-- a list of ours changes: the tuples stay -/
theorem sqt_upd {K : PySem.W.Frag} {H : Hp} {a l : Addr} {xs ys : List V} {o : HO} (hl : H l = some (.lst ys)) (h : SqT K H a xs) : SqT K (upd H l o) a xs := by
  rcases h with (h | ⟨u, h⟩) | h
  · refine .inl (.inl ?_)
    rw [upd_ne (ne_of h hl (by intro z; cases z))]
    exact h
  · refine .inl (.inr ⟨u, ?_⟩)
    rw [upd_ne (ne_of h hl (by intro z; cases z))]
    exact h
  · exact .inr h
theorem prs_upd {K : PySem.W.Frag} {H : Hp} {l : Addr} {ys : List V} {o : HO} {ps : List Addr} {cs : List Cmp} (hl : H l = some (.lst ys)) (h : Prs K H ps cs) : Prs K (upd H l o) ps cs := h.imp fun _ _ r => sqt_upd hl r
/-- what H knew stays where an object that H did not know changes -/
theorem same_mut {H H' : Hp} {p : Addr} {o : HO} (e : Same H H') (h : H p = none) : Same H (upd H' p o) := fun b x q => by
  rw [upd_ne (ne_of_none q h)]
  exact e b x q
theorem small_line {n : Nat} (h : n ≤ 1000000) : n ≤ sizeLine := Nat.le_trans h (by rw [sizeLine_eq]; decide)
theorem small_lt {n : Nat} (h : n < 1000000) : n < sizeLine := Nat.lt_of_lt_of_le h (by rw [sizeLine_eq]; decide)
end Sw

set_option Elab.async false
set_option linter.all false
set_option maxRecDepth 100000
set_option maxHeartbeats 4000000
namespace Sw
open PySem PySem.Spec PyProof.Rows L2
/-! ## Loops and comprehensions over any walk of n turns -/
theorem it_for {J : It} {n : Nat} {g : TG} {tb : TS} {D : Ends} {σ : L2.St} {H : Hp} (Pv : Nat → L2.St → Hp → Prop) (h0 : Pv 0 σ H)
    (go : ∀ i σ H, i < n → Pv i σ H → J.go i H) (stop : ∀ σ H, Pv n σ H → J.stop n H)
    (turn : ∀ i σ H, i < n → Pv i σ H → ∀ x H', J.yld i H x H' → g x σ H' fun σ2 H2 => tb { D with nx := Pv (i + 1), ct := Pv (i + 1), bk := D.nx } σ2 H2)
    (done : ∀ σ H, Pv n σ H → D.nx σ H) :
    ∃ W : Nat → Nat → L2.St → Hp → Prop, (∃ m, W 0 m σ H) ∧ ∀ i m σ H, W i m σ H →
      (J.stop i H ∧ D.nx σ H) ∨ (J.go i H ∧ ∃ N : L2.St → Hp → Prop, (∀ σ' H', N σ' H' → ∃ m', m' < m ∧ W (i + 1) m' σ' H') ∧ ∀ x H', J.yld i H x H' → g x σ H' fun σ2 H2 => tb { D with nx := N, ct := N, bk := D.nx } σ2 H2) := by
  refine ⟨fun i m σ H => m + i = n ∧ Pv i σ H, ⟨n, rfl, h0⟩, fun i m σ H hW => ?_⟩
  obtain ⟨e, p⟩ := hW
  by_cases h : i < n
  · refine .inr ⟨go i σ H h p, Pv (i + 1), fun σ' H' q => ⟨m - 1, by omega, by omega, q⟩, turn i σ H h p⟩
  · have e' : i = n := by omega
    subst e'
    exact .inl ⟨stop σ H p, done σ H p⟩
theorem it_lc {J : It} {n : Nat} {g : TG} {tt : TT} {te : TE} {vs : List Nat} {σ : L2.St} {H1 : Hp} {D : Addr} {Qd : Hp → Prop} (Pv : Nat → Hp → Prop) (h0 : Pv 0 (upd H1 D (.lst [])))
    (go : ∀ i H, i < n → Pv i H → J.go i H) (stop : ∀ H, Pv n H → J.stop n H)
    (turn : ∀ i H, i < n → Pv i H → ∀ x H', J.yld i H x H' → g x (wipe σ vs) H' fun σ2 H2 => wipe σ2 vs = wipe σ vs ∧ tt σ2 H2 fun b H3 =>
      if b = true then te σ2 H3 fun y H4 => ∃ acc, H4 D = some (.lst acc) ∧ acc.length < sizeLine ∧ Pv (i + 1) (upd H4 D (.lst (acc ++ [y]))) else Pv (i + 1) H3)
    (done : ∀ H, Pv n H → Qd H) :
    ∃ W : Nat → Nat → Hp → Prop, (∃ m, W 0 m (upd H1 D (.lst []))) ∧ ∀ i m H, W i m H →
      (J.stop i H ∧ Qd H) ∨ (J.go i H ∧ ∃ Nx : Hp → Prop, (∀ H', Nx H' → ∃ m', m' < m ∧ W (i + 1) m' H') ∧ ∀ x H', J.yld i H x H' → g x (wipe σ vs) H' fun σ2 H2 => wipe σ2 vs = wipe σ vs ∧ tt σ2 H2 fun b H3 =>
        if b = true then te σ2 H3 fun y H4 => ∃ acc, H4 D = some (.lst acc) ∧ acc.length < sizeLine ∧ Nx (upd H4 D (.lst (acc ++ [y]))) else Nx H3) := by
  refine ⟨fun i m H => m + i = n ∧ Pv i H, ⟨n, rfl, h0⟩, fun i m H hW => ?_⟩
  obtain ⟨e, p⟩ := hW
  by_cases h : i < n
  · refine .inr ⟨go i H h p, Pv (i + 1), fun H' q => ⟨m - 1, by omega, by omega, q⟩, turn i H h p⟩
  · have e' : i = n := by omega
    subst e'
    exact .inl ⟨stop H p, done H p⟩
section
variable {K : PySem.W.Frag} {σ : L2.St} {H : Hp} {D : Ends} {tb : TS} {a b : Addr} {xs ys : List V} {j1 j2 : Nat}
theorem get_of {α : Type} {xs : List α} {i : Nat} (h : i < xs.length) : ∃ x, xs[i]? = some x := ⟨xs[i], List.getElem?_eq_getElem h⟩
theorem g2_run {n1 n2 : Nat} {x y : V} {T : Addr} {σ : L2.St} {H : Hp} {Q : L2.St → Hp → Prop} (hT : SqT K H T [x, y]) (q : Q ((σ.set n1 (some x)).set n2 (some y)) H) :
    gTup K 2 (gCons (gName n1) (gCons (gName n2) gNil)) (.ref T) σ H Q := ⟨T, [x, y], rfl, hT, rfl, x, [y], rfl, y, [], rfl, rfl, q⟩
/-- for j1, j2 in enumerate(x), x at a -/
theorem for_enum2 {k : Nat} (hk : σ[k]? = some (some (.ref a))) (hx : SqL K H a xs) (Pv : Nat → L2.St → Hp → Prop) (h0 : Pv 0 σ H) (hl : ∀ i σ H, i ≤ xs.length → Pv i σ H → SqL K H a xs)
    (turn : ∀ i x σ H H', xs[i]? = some x → i < xs.length → Pv i σ H → Same H H' → tb { D with nx := Pv (i + 1), ct := Pv (i + 1), bk := D.nx } ((σ.set j1 (some (.int (i : Int)))).set j2 (some x)) H')
    (done : ∀ σ H, Pv xs.length σ H → D.nx σ H) : tFor (iEnum K (tCons (tVar k) tNil)) (gTup K 2 (gCons (gName j1) (gCons (gName j2) gNil))) tb D σ H := by
  refine ⟨.ref a, hk, a, xs, rfl, hx, it_for (n := xs.length) Pv h0 (fun i σ H hi p => ?_) (fun σ H p => ?_) (fun i σ H hi p v H' y => ?_) done⟩
  · obtain ⟨x, hx⟩ := get_of hi
    exact ⟨xs, x, hl i σ H (Nat.le_of_lt hi) p, hx⟩
  · exact ⟨xs, hl _ σ H (Nat.le_refl _) p, Nat.le_refl _⟩
  · obtain ⟨T, x, rfl, nT, rfl, f⟩ := y
    exact g2_run (.inl (.inl upd_same)) (turn i x σ H _ (f xs (hl i σ H (Nat.le_of_lt hi) p)) hi p (same_new nT))
/-- for j1, j2 in x, x at a a list of pairs -/
theorem for_pairs {k : Nat} {ps : List Addr} (hk : σ[k]? = some (some (.ref a))) (hx : SqL K H a (Rfs ps)) (u : Nat → V × V) (Pv : Nat → L2.St → Hp → Prop) (h0 : Pv 0 σ H)
    (hl : ∀ i σ H, i ≤ ps.length → Pv i σ H → SqL K H a (Rfs ps)) (hp : ∀ i p σ H, ps[i]? = some p → Pv i σ H → SqT K H p [(u i).1, (u i).2])
    (turn : ∀ i p σ H, ps[i]? = some p → Pv i σ H → tb { D with nx := Pv (i + 1), ct := Pv (i + 1), bk := D.nx } ((σ.set j1 (some (u i).1)).set j2 (some (u i).2)) H)
    (done : ∀ σ H, Pv ps.length σ H → D.nx σ H) : tFor (iList K (tVar k)) (gTup K 2 (gCons (gName j1) (gCons (gName j2) gNil))) tb D σ H := by
  have hn : (Rfs ps).length = ps.length := List.length_map ..
  refine ⟨.ref a, hk, a, rfl, ⟨_, hx⟩, it_for (n := ps.length) Pv h0 (fun i σ H hi p => ?_) (fun σ H p => ?_) (fun i σ H hi p v H' y => ?_) done⟩
  · obtain ⟨x, hx⟩ := get_of (xs := Rfs ps) (by rw [hn]; exact hi)
    exact ⟨_, x, hl i σ H (Nat.le_of_lt hi) p, hx⟩
  · exact ⟨_, hl _ σ H (Nat.le_refl _) p, by rw [hn]; exact Nat.le_refl _⟩
  · obtain ⟨rfl, f⟩ := y
    have e := f _ (hl i σ H' (Nat.le_of_lt hi) p)
    unfold Rfs at e
    rw [List.getElem?_map, List.getElem?_eq_getElem hi] at e
    cases e
    have g : ps[i]? = some ps[i] := List.getElem?_eq_getElem hi
    exact g2_run (hp i _ σ H' g p) (turn i _ σ H' g p)
/-- for x in y, y at a -/
theorem for_each {k : Nat} (hk : σ[k]? = some (some (.ref a))) (hx : SqL K H a xs) (Pv : Nat → L2.St → Hp → Prop) (h0 : Pv 0 σ H) (hl : ∀ i σ H, i ≤ xs.length → Pv i σ H → SqL K H a xs)
    (turn : ∀ i x σ H, xs[i]? = some x → i < xs.length → Pv i σ H → tb { D with nx := Pv (i + 1), ct := Pv (i + 1), bk := D.nx } (σ.set j1 (some x)) H)
    (done : ∀ σ H, Pv xs.length σ H → D.nx σ H) : tFor (iList K (tVar k)) (gName j1) tb D σ H := by
  refine ⟨.ref a, hk, a, rfl, ⟨_, hx⟩, it_for (n := xs.length) Pv h0 (fun i σ H hi p => ?_) (fun σ H p => ?_) (fun i σ H hi p v H' y => ?_) done⟩
  · obtain ⟨x, hx⟩ := get_of hi
    exact ⟨_, x, hl i σ H (Nat.le_of_lt hi) p, hx⟩
  · exact ⟨_, hl _ σ H (Nat.le_refl _) p, Nat.le_refl _⟩
  · obtain ⟨rfl, f⟩ := y
    exact turn i v σ H' (f _ (hl i σ H' (Nat.le_of_lt hi) p)) hi p
/-- for i in range(n) -/
theorem for_rng {ta : TA} {n : Nat} (ht : ∀ Q, Q [V.int (n : Int)] H → ta σ H Q) (hn : n ≤ 1000000) (Pv : Nat → L2.St → Hp → Prop) (h0 : Pv 0 σ H)
    (turn : ∀ (i : Nat) σ H, i < n → Pv i σ H → tb { D with nx := Pv (i + 1), ct := Pv (i + 1), bk := D.nx } (σ.set j1 (some (.int (i : Int)))) H)
    (done : ∀ σ H, Pv n σ H → D.nx σ H) : tFor (iRng1 ta) (gName j1) tb D σ H := by
  refine ht _ ⟨(n : Int), rfl, by omega, by omega, it_for (n := n) Pv h0 (fun i σ H hi p => ?_) (fun σ H p => ?_) (fun i σ H hi p v H' y => ?_) done⟩
  · exact hi
  · exact Nat.le_refl _
  · obtain ⟨rfl, rfl⟩ := y
    have e : (0 : Int) + (i : Int) = (i : Int) := Int.zero_add _
    rw [e]
    exact turn i σ H' hi p
end
/-! ## What a comprehension gives, item by item: G of the turn, the list so far, the heap -/
section
variable {K : PySem.W.Frag} {σ : L2.St} {H : Hp} {te : TE} {a b : Addr} {xs ys : List V} {j1 j2 : Nat} {Q : VK}
/-- the list so far stands at D, and G holds of it -/
def So (D : Addr) (G : Nat → List V → Hp → Prop) (i : Nat) (H' : Hp) : Prop := ∃ acc, H' D = some (.lst acc) ∧ G i acc H'
/-- the wish of a turn: v comes, on it goes -/
def GoOn (D : Addr) (G : Nat → List V → Hp → Prop) (i : Nat) : VK := fun v H' => ∃ acc, H' D = some (.lst acc) ∧ acc.length < sizeLine ∧ So D G (i + 1) (upd H' D (.lst (acc ++ [v])))
theorem GoOn.mk {D : Addr} {G : Nat → List V → Hp → Prop} {i : Nat} {v : V} {H' : Hp} {acc : List V} (h : H' D = some (.lst acc)) (hz : acc.length < 1000000) (g : G (i + 1) (acc ++ [v]) (upd H' D (.lst (acc ++ [v])))) : GoOn D G i v H' :=
  ⟨acc, h, small_lt hz, _, upd_same, g⟩
/-- of a turn that tests -/
def Turn (tt : TT) (te : TE) (D : Addr) (G : Nat → List V → Hp → Prop) (i : Nat) (σ : L2.St) (H : Hp) : Prop := tt σ H fun b H3 => if b = true then te σ H3 (GoOn D G i) else So D G (i + 1) H3
theorem Turn.yes {te : TE} {D : Addr} {G : Nat → List V → Hp → Prop} {i : Nat} (h : te σ H (GoOn D G i)) : Turn tYes te D G i σ H := by
  show (if true = true then te σ H (GoOn D G i) else So D G (i + 1) H)
  rw [if_pos rfl]
  exact h
theorem lc_enum2 {tt : TT} {k : Nat} {vs : List Nat} (hk : σ[k]? = some (some (.ref a))) (hx : SqL K H a xs) (hvs : ∀ v w, wipe (((wipe σ vs).set j1 v).set j2 w) vs = wipe σ vs)
    (G : Addr → Nat → List V → Hp → Prop) (h0 : ∀ D, H D = none → G D 0 [] (upd H D (.lst []))) (hl : ∀ D i acc H', H D = none → G D i acc H' → SqL K H' a xs)
    (turn : ∀ D i x acc H' H2, H D = none → xs[i]? = some x → i < xs.length → H' D = some (.lst acc) → G D i acc H' → Same H' H2 → Turn tt te D (G D) i (((wipe σ vs).set j1 (some (.int (i : Int)))).set j2 (some x)) H2)
    (done : ∀ D acc H', H D = none → H' D = some (.lst acc) → G D xs.length acc H' → Q (.ref D) H') :
    tLc (iEnum K (tCons (tVar k) tNil)) (gTup K 2 (gCons (gName j1) (gCons (gName j2) gNil))) tt te vs σ H Q := by
  refine ⟨.ref a, hk, a, xs, rfl, hx, fun D nD => ?_⟩
  refine it_lc (n := xs.length) (So D (G D)) ⟨[], upd_same, h0 D nD⟩ (fun i H' hi p => ?_) (fun H' p => ?_) (fun i H' hi p v H2 y => ?_) (fun H' p => ?_)
  · obtain ⟨acc, _, g⟩ := p
    obtain ⟨x, hx⟩ := get_of hi
    exact ⟨xs, x, hl D _ _ _ nD g, hx⟩
  · obtain ⟨acc, _, g⟩ := p
    exact ⟨xs, hl D _ _ _ nD g, Nat.le_refl _⟩
  · obtain ⟨acc, hD, g⟩ := p
    obtain ⟨T, x, rfl, nT, rfl, f⟩ := y
    exact g2_run (.inl (.inl upd_same)) ⟨hvs _ _, turn D i x acc H' _ nD (f xs (hl D _ _ _ nD g)) hi hD g (same_new (o := .tup [.int (i : Int), x]) nT)⟩
  · obtain ⟨acc, hD, g⟩ := p
    exact done D acc H' nD hD g
theorem lc_pairs {tt : TT} {k : Nat} {vs : List Nat} {ps : List Addr} (u : Nat → V × V) (hk : σ[k]? = some (some (.ref a))) (hx : SqL K H a (Rfs ps)) (hvs : ∀ v w, wipe (((wipe σ vs).set j1 v).set j2 w) vs = wipe σ vs)
    (G : Addr → Nat → List V → Hp → Prop) (h0 : ∀ D, H D = none → G D 0 [] (upd H D (.lst []))) (hl : ∀ D i acc H', H D = none → G D i acc H' → SqL K H' a (Rfs ps))
    (hp : ∀ D i p acc H', H D = none → ps[i]? = some p → H' D = some (.lst acc) → G D i acc H' → SqT K H' p [(u i).1, (u i).2])
    (turn : ∀ D i acc H', H D = none → i < ps.length → H' D = some (.lst acc) → G D i acc H' → Turn tt te D (G D) i (((wipe σ vs).set j1 (some (u i).1)).set j2 (some (u i).2)) H')
    (done : ∀ D acc H', H D = none → H' D = some (.lst acc) → G D ps.length acc H' → Q (.ref D) H') :
    tLc (iList K (tVar k)) (gTup K 2 (gCons (gName j1) (gCons (gName j2) gNil))) tt te vs σ H Q := by
  have hn : (Rfs ps).length = ps.length := List.length_map ..
  refine ⟨.ref a, hk, a, rfl, ⟨_, hx⟩, fun D nD => ?_⟩
  refine it_lc (n := ps.length) (So D (G D)) ⟨[], upd_same, h0 D nD⟩ (fun i H' hi p => ?_) (fun H' p => ?_) (fun i H' hi p v H2 y => ?_) (fun H' p => ?_)
  · obtain ⟨acc, _, g⟩ := p
    obtain ⟨x, hx⟩ := get_of (xs := Rfs ps) (by rw [hn]; exact hi)
    exact ⟨_, x, hl D _ _ _ nD g, hx⟩
  · obtain ⟨acc, _, g⟩ := p
    exact ⟨_, hl D _ _ _ nD g, by rw [hn]; exact Nat.le_refl _⟩
  · obtain ⟨acc, hD, g⟩ := p
    obtain ⟨rfl, f⟩ := y
    have e := f _ (hl D _ _ _ nD g)
    unfold Rfs at e
    rw [List.getElem?_map, List.getElem?_eq_getElem hi] at e
    cases e
    have gp : ps[i]? = some ps[i] := List.getElem?_eq_getElem hi
    exact g2_run (hp D i _ acc H2 nD gp hD g) ⟨hvs _ _, turn D i acc H2 nD hi hD g⟩
  · obtain ⟨acc, hD, g⟩ := p
    exact done D acc H' nD hD g
/-- [.. for j1 in x], x at a -/
theorem lc_each {tt : TT} {k : Nat} {vs : List Nat} (hk : σ[k]? = some (some (.ref a))) (hx : SqL K H a xs) (hvs : ∀ v, wipe ((wipe σ vs).set j1 v) vs = wipe σ vs)
    (G : Addr → Nat → List V → Hp → Prop) (h0 : ∀ D, H D = none → G D 0 [] (upd H D (.lst []))) (hl : ∀ D i acc H', H D = none → G D i acc H' → SqL K H' a xs)
    (turn : ∀ D i x acc H', H D = none → xs[i]? = some x → i < xs.length → H' D = some (.lst acc) → G D i acc H' → Turn tt te D (G D) i ((wipe σ vs).set j1 (some x)) H')
    (done : ∀ D acc H', H D = none → H' D = some (.lst acc) → G D xs.length acc H' → Q (.ref D) H') :
    tLc (iList K (tVar k)) (gName j1) tt te vs σ H Q := by
  refine ⟨.ref a, hk, a, rfl, ⟨_, hx⟩, fun D nD => ?_⟩
  refine it_lc (n := xs.length) (So D (G D)) ⟨[], upd_same, h0 D nD⟩ (fun i H' hi p => ?_) (fun H' p => ?_) (fun i H' hi p v H2 y => ?_) (fun H' p => ?_)
  · obtain ⟨acc, _, g⟩ := p
    obtain ⟨x, hx⟩ := get_of hi
    exact ⟨_, x, hl D _ _ _ nD g, hx⟩
  · obtain ⟨acc, _, g⟩ := p
    exact ⟨_, hl D _ _ _ nD g, Nat.le_refl _⟩
  · obtain ⟨acc, hD, g⟩ := p
    obtain ⟨rfl, f⟩ := y
    exact ⟨hvs _, turn D i v acc H2 nD (f _ (hl D _ _ _ nD g)) hi hD g⟩
  · obtain ⟨acc, hD, g⟩ := p
    exact done D acc H' nD hD g
/-- [.. for j1 in range(lo, hi, c)]: n turns -/
theorem lc_rng3 {tt : TT} {ta : TA} {vs : List Nat} {lo hi c : Int} {n : Nat} (ht : ∀ Q, Q [V.int lo, V.int hi, V.int c] H → ta σ H Q) (hn : RgC lo hi c n) (hvs : ∀ v, wipe ((wipe σ vs).set j1 v) vs = wipe σ vs)
    (G : Addr → Nat → List V → Hp → Prop) (h0 : ∀ D, H D = none → G D 0 [] (upd H D (.lst [])))
    (turn : ∀ (D : Addr) (i : Nat) (acc : List V) (H' : Hp), H D = none → i < n → H' D = some (.lst acc) → G D i acc H' → Turn tt te D (G D) i ((wipe σ vs).set j1 (some (.int (lo + (i : Int) * c)))) H')
    (done : ∀ D acc H', H D = none → H' D = some (.lst acc) → G D n acc H' → Q (.ref D) H') :
    tLc (iRng3 ta) (gName j1) tt te vs σ H Q := by
  refine ht _ ⟨lo, hi, c, n, rfl, hn, fun D nD => ?_⟩
  refine it_lc (n := n) (So D (G D)) ⟨[], upd_same, h0 D nD⟩ (fun i H' hi p => hi) (fun H' p => Nat.le_refl _) (fun i H' hi p v H2 y => ?_) (fun H' p => ?_)
  · obtain ⟨acc, hD, g⟩ := p
    obtain ⟨rfl, rfl⟩ := y
    exact ⟨hvs _, turn D i acc H2 nD hi hD g⟩
  · obtain ⟨acc, hD, g⟩ := p
    exact done D acc H' nD hD g
/-- [.. for j1 in range(n)] -/
theorem lc_rng {tt : TT} {ta : TA} {vs : List Nat} {n : Nat} (ht : ∀ Q, Q [V.int (n : Int)] H → ta σ H Q) (hn : n ≤ 1000000) (hvs : ∀ v, wipe ((wipe σ vs).set j1 v) vs = wipe σ vs)
    (G : Addr → Nat → List V → Hp → Prop) (h0 : ∀ D, H D = none → G D 0 [] (upd H D (.lst [])))
    (turn : ∀ (D : Addr) (i : Nat) (acc : List V) (H' : Hp), H D = none → i < n → H' D = some (.lst acc) → G D i acc H' → Turn tt te D (G D) i ((wipe σ vs).set j1 (some (.int (i : Int)))) H')
    (done : ∀ D acc H', H D = none → H' D = some (.lst acc) → G D n acc H' → Q (.ref D) H') :
    tLc (iRng1 ta) (gName j1) tt te vs σ H Q := by
  refine ht _ ⟨(n : Int), rfl, by omega, by omega, fun D nD => ?_⟩
  refine it_lc (n := n) (So D (G D)) ⟨[], upd_same, h0 D nD⟩ (fun i H' hi p => hi) (fun H' p => Nat.le_refl _) (fun i H' hi p v H2 y => ?_) (fun H' p => ?_)
  · obtain ⟨acc, hD, g⟩ := p
    obtain ⟨rfl, rfl⟩ := y
    have e : (0 : Int) + (i : Int) = (i : Int) := Int.zero_add _
    rw [e]
    exact ⟨hvs _, turn D i acc H2 nD hi hD g⟩
  · obtain ⟨acc, hD, g⟩ := p
    exact done D acc H' nD hD g
end
/-- how many turns range(lo, hi, c) has, c above 0 -/
def upN (lo hi c : Int) : Nat := if lo < hi then ((hi - lo - 1) / c).toNat + 1 else 0
theorem upN_rgc {lo hi c : Int} (hc : 1 ≤ c ∧ c ≤ 1000000) (hl : -1000000 ≤ lo ∧ lo ≤ 1000000) (hh : -1000000 ≤ hi ∧ hi ≤ 1000000) : RgC lo hi c (upN lo hi c) := by
  have size : Builtin.Range.rangeSize lo hi c = ((upN lo hi c : Nat) : Int) := by
    unfold Builtin.Range.rangeSize upN
    rw [if_pos (by omega)]
    split
    · have := Int.ediv_nonneg (a := hi - lo - 1) (b := c) (by omega) (by omega)
      omega
    · rfl
  have le : ((upN lo hi c : Nat) : Int) ≤ 2000001 := by
    unfold upN
    split
    · have h1 := Int.ediv_nonneg (a := hi - lo - 1) (b := c) (by omega) (by omega)
      have h2 := Int.ediv_le_self (a := hi - lo - 1) (b := c) (by omega)
      omega
    · decide
  refine ⟨by omega, by omega, ?_, size⟩
  unfold Builtin.Range.small
  rw [size]
  simp only [Builtin.Range.rangeFitsLong, Bool.and_eq_true, Bool.or_eq_true, decide_eq_true_eq, beq_iff_eq, show c > 0 by omega, if_true]
  omega
theorem upN_lt {lo hi c : Int} (hc : 1 ≤ c) {i : Nat} (h : i < upN lo hi c) : lo + (i : Int) * c < hi := by
  unfold upN at h
  split at h
  · have h1 := Int.ediv_nonneg (a := hi - lo - 1) (b := c) (by omega) (by omega)
    have h2 := Int.ediv_mul_le (hi - lo - 1) (b := c) (by omega)
    have h3 : (i : Int) ≤ (hi - lo - 1) / c := by omega
    have h4 : (i : Int) * c ≤ (hi - lo - 1) / c * c := Int.mul_le_mul_of_nonneg_right h3 (by omega)
    omega
  · omega
theorem upN_le {lo hi c : Int} (hc : 1 ≤ c) : upN lo hi c ≤ (hi - lo).toNat := by
  unfold upN
  split
  · have h1 := Int.ediv_nonneg (a := hi - lo - 1) (b := c) (by omega) (by omega)
    have h2 := Int.ediv_le_self (a := hi - lo - 1) (b := c) (by omega)
    omega
  · omega
theorem scal_ii (i j : Int) : scal (.int i) (.int j) = true := rfl
theorem scal_ss (i j : Str) : scal (.str i) (.str j) = true := rfl
theorem scal_nn : scal .non .non = true := rfl
theorem scal_bb (i j : Bool) : scal (.bl i) (.bl j) = true := rfl
theorem scal_ni (j : Int) : scal .non (.int j) = true := rfl
theorem scal_in (j : Int) : scal (.int j) .non = true := rfl
theorem cutV_to (xs : List V) (k : Nat) : cutV xs none (some (k : Int)) = xs.take k := by
  unfold cutV
  rw [HT.sIx_none, HT.sIx_nat]
  show (xs.drop 0).take (min k xs.length - 0) = _
  rw [List.drop_zero, Nat.sub_zero]
  by_cases h : k ≤ xs.length
  · rw [Nat.min_eq_left h]
  · rw [Nat.min_eq_right (by omega), List.take_of_length_le (Nat.le_refl _), List.take_of_length_le (by omega)]
theorem cutV_from (xs : List V) (k : Nat) : cutV xs (some (k : Int)) none = xs.drop k := by
  unfold cutV
  rw [HT.sIx_none, HT.sIx_nat]
  by_cases h : k ≤ xs.length
  · rw [Nat.min_eq_left h, List.take_of_length_le (by rw [List.length_drop]; exact Nat.le_refl _)]
  · rw [Nat.min_eq_right (by omega), List.drop_eq_nil_of_le (Nat.le_refl _), List.drop_eq_nil_of_le (by omega), List.take_nil]
theorem cut_ints_to (ns : List Int) (k : Nat) : cutV (ns.map V.int) none (some (k : Int)) = (ns.take k).map V.int := by rw [cutV_to, List.map_take]
theorem ints_get {l : List Int} {i : Nat} {x : V} (h : (l.map V.int)[i]? = some x) : ∃ z, x = .int z ∧ l[i]? = some z := by
  rw [List.getElem?_map] at h
  cases e : l[i]? with
  | none => rw [e] at h; cases h
  | some z => rw [e] at h; exact ⟨z, (Option.some.inj h).symm, rfl⟩
theorem rfs_get {l : List Addr} {i : Nat} {x : V} (h : (Rfs l)[i]? = some x) : ∃ z, x = .ref z ∧ l[i]? = some z := by
  unfold Rfs at h
  rw [List.getElem?_map] at h
  cases e : l[i]? with
  | none => rw [e] at h; cases h
  | some z => rw [e] at h; exact ⟨z, (Option.some.inj h).symm, rfl⟩
theorem rfs_len (l : List Addr) : (Rfs l).length = l.length := List.length_map ..
theorem rfs_at {l : List Addr} {i : Nat} {p : Addr} (h : l[i]? = some p) : (Rfs l)[i]? = some (.ref p) := by
  unfold Rfs
  rw [List.getElem?_map, h] <;> rfl
theorem seqIndex_nat {k n : Nat} (h : k < n) : seqIndex? (k : Int) n = some k := by
  have e := atI_nat (α := Nat) (xs := List.range n) (j := k) (v := k) (by rw [List.getElem?_range h])
  obtain ⟨j, h1, h2, h3, _⟩ := atI_get e
  rw [List.length_range] at h1
  rw [List.getElem?_eq_getElem h3] at h2
  rw [h1]
  have := Option.some.inj h2
  rw [List.getElem_range] at this
  rw [this]
theorem mem_set {α : Type} {l : List α} {n : Nat} {a b : α} (h : b ∈ l.set n a) : b ∈ l ∨ b = a := List.mem_or_eq_of_mem_set h
theorem rfs_erase : ∀ (l : List Addr) (n : Nat), (Rfs l).eraseIdx n = Rfs (l.eraseIdx n)
  | [], _ => rfl
  | _ :: _, 0 => rfl
  | a :: l, n + 1 => by
    show V.ref a :: (Rfs l).eraseIdx n = V.ref a :: Rfs (l.eraseIdx n)
    rw [rfs_erase l n]
end Sw

set_option Elab.async false
set_option linter.all false
set_option maxRecDepth 100000
set_option maxHeartbeats 4000000
namespace Sw
open PySem PySem.Spec PyProof.Rows L2
/-! ## Defs that may raise -/
section
variable {P : Program} {w : World} {K : PySem.W.Frag} {mg : Str → Option Value} {base : Heap} {x : Str} {st : Stmt} {N ps : List Str} {k : Nat} {sp : Sp}
theorem Here.calX {r : XK → TS} (F : Here K mg x st) (S : FnScope N ps (defScope st)) (len : ∀ vs H Q E, sp vs H Q E → vs.length = ps.length)
    (bd : ∀ (kV doc pm : Value) (an : Option Addr) (cdv ct : Value) (us : List Value), us.length = ps.length →
      bindArgs (PySem.W.fnOf x x (defArgs st) (defBody st) (defScope st) .none kV doc pm an cdv ct) ⟨us, []⟩ = pure (ps.zip us))
    (dv : ∀ (f : Addr) (cdv : Value) (A : Around) (outer : List Env) (s : Shared) (H : Hp) (E : XK), RmIn k A x st s f cdv → PSs (BX (L2.CX P w) P w K mg base N x st f cdv A outer s H E) (defBody st) (r E))
    (rd : ∀ (vs : List V) (H : Hp) (Q : VK) (E : XK), sp vs H Q E → r E { nx := fun _ H' => Q .non H', rt := Q } (L2.start N vs) H) :
    Cal P w K mg base (L2.CX P w) (k + 1) x ps sp := by
  obtain ⟨f, fd, D, g⟩ := F.ex
  refine ⟨f, fd, ?_, g, D.kp, D.bindsN bd, fun s us hl => D.bindsA bd s us hl, ?_⟩
  · exact D.ok S len fun cdv A outer s H vs Q E hr h => ⟨r E, dv f cdv A outer s H E hr, rd vs H Q E h⟩
  · obtain ⟨oc, od, _, _, _, _, _, _, _, osl, _, lk, _⟩ := D.ex
    exact ⟨oc, od, osl, lk⟩
/-- the same, where nothing is raised -/
def quiet (sp : Sp) : Sp := fun vs H Q _ => sp vs H Q E0
theorem Cal.quiet (c : Cal P w K mg base (L2.CX P w) k x ps sp) : Cal P w K mg base CX0 k x ps (quiet sp) := by
  obtain ⟨f, fd, F, g, kp, b, ba, lk⟩ := c.ex
  refine ⟨f, fd, ⟨fun vs H Q E h => F.len vs H Q E0 h, fun A outer s H args us vs Q E hr he hb rv h => ?_⟩, g, kp, b, ba, lk⟩
  refine codeAny_mono (F.run A outer s H args us vs Q E0 hr he hb rv h) fun r s' q => ?_
  cases r with
  | ok fl => cases fl <;> exact q
  | error e =>
    obtain ⟨_, _, _, _, _, _, _, _, _, _, _, _, z⟩ := q
    exact z.elim
end
/-- f(e, ..) that may raise, the wish about that W -/
def tCalW (sp : Sp) (W : WX) (t : TA) : TE := fun σ H Q => t σ H fun vs H1 => sp vs H1 Q fun cls d H' => W cls d σ H'
section
variable {X : Cx} {k : Nat} {x : Str} {ps : List Str} {sp : Sp} {t : TA} {e : Expr} {es : List Expr} {p pos : Pos} {W : WX}
theorem pe_calW (c : Cal X.prog X.w X.K X.mg X.base (L2.CX X.prog X.w) k x ps sp) (hr : Room k X.A) (tk : Takes X W) (hg : Gl X x) (ha : PA X (e :: es) t)
    (hdb : (x == ("__debug__" : Str)) = false := by decide) (he : starEach (e :: es) X.env = (false, eval e X.env) :: starEach es X.env := by rfl)
    (hpl : (backTo pos (starEach es X.env)).any (·.1) = false := by rfl) : PE X (.Call (.Name x p) (e :: es) [] pos) (tCalW sp W t) := by
  obtain ⟨f, fd, F, gm, kp, b, _⟩ := c.ex
  exact pe_callS F hr hg gm kp b (fun σ => passAt tk σ) ha hdb he hpl
/-! ## Raising -/
/-- the class x of the text, without an __init__ of its own, over ValueError -/
structure ExK (K : PySem.W.Frag) (mg : Str → Option Value) (x : Str) : Prop where
  g : mg x = some (.ref (He.ga K x))
  m : PySem.W.excIn K (He.ga K x) He.veBase "ValueError.__new__" = true ∧ PySem.W.keepIn K (.ref (He.ga K x)) = true ∧ PySem.W.subIn K (.ref (He.ga K x)) (.type "BaseException") = some true ∧ PySem.W.typeIn K (.ref (He.ga K x)) = some (.type "type")
/-- raise x(e, ..) -/
def tRzA (C : Addr) (W : WX) (t : TA) : TS := fun _ σ H => t σ H fun vs H1 => vs.length ≤ sizeLine ∧ W (.ref C) none σ H1
theorem ps_rzA {pos2 : Pos} (hc : X.calm = true) (tk : Takes X W) (m : ExK X.K X.mg x) (hg : Gl X x) (ha : PA X (e :: es) t)
    (hdb : (x == ("__debug__" : Str)) = false := by decide)
    (he : starEach (e :: es) X.env = (false, eval e X.env) :: starEach es X.env := by rfl) (hpl : (backTo pos (starEach es X.env)).any (·.1) = false := by rfl) :
    PS X (.Raise (some (.Call (.Name x p) (e :: es) [] pos)) none pos2) (tRzA (He.ga X.K x) W t) :=
  ps_raise hc tk (pmk_ownA PySem.F.excBase_ValueError m.m.1 m.g m.m.2.1 (raises_own m.m.2.2.1 m.m.2.2.2) hg ha hdb he hpl)
/-! ## {x} of a whole number or None -/
def tFmtN (te : TE) : TE := fun σ H Q => te σ H fun x H1 => (x = .non ∧ Q (.str "None") H1) ∨ ∃ i : Int, x = .int i ∧ i.natAbs.log2 < 1920 ∧ Q (.str (toString i)) H1
theorem pe_fmtN {te : TE} (he : PE X e te) : PE X (.FormattedValue e (-1) none pos) (tFmtN te) := by
  refine ⟨fun pins s σ H Q I h => ?_⟩
  refine wpAny_FormattedValue_plain (thn (he.run pins s σ H _ I h) fun v s1 hv => ?_)
  obtain ⟨y, H1, I1, r1, q⟩ := hv
  rcases q with ⟨rfl, q⟩ | ⟨i, rfl, hz, q⟩
  · cases r1
    exact wpAny_formatField_none ⟨.str "None", H1, (I1.tok _).tok _, ⟨_, rfl⟩, q⟩
  · obtain ⟨tk, rfl⟩ := r1
    exact wpAny_formatField_int hz ⟨.str (toString i), H1, I1.tok _, ⟨_, rfl⟩, q⟩
/-! ## W.__init__(self, ..), W an own class that has ValueError's -/
structure InK (K : PySem.W.Frag) (mg : Str → Option Value) (x : Str) : Prop where
  g : mg x = some (.ref (He.ga K x))
  sp : PySem.W.specialIn K (.ref (He.ga K x)) "__getattribute__" = some (some (.builtin "type.__getattribute__"))
  rd : PySem.W.readsIn K (He.ga K x) (.type "type") = true
  ty : PySem.W.typeIn K (.ref (He.ga K x)) = some (.type "type")
  fc : PySem.W.findCls K (.ref (He.ga K x)) (.type "type") "__init__" = some (.val (.builtin "ValueError.__init__"))
theorem pe_winit {pl : Sem Bool} {p1 p2 : Pos} (m : InK X.K X.mg x) (hg : Gl X x) (ha : PA X (e :: es) t)
    (hc : eval (.Call (.Attribute (.Name x p1) "__init__" p2) (e :: es) [] pos) X.env = (do
      let ov ← eval (.Name x p1) X.env
      standAt p2.atName
      let (f, first) ← holding [ov] (getMethod ov "__init__" pl)
      callWith pos f first (backTo pos (starEach (e :: es) X.env)) (backToKw pos (keywordEach [] X.env))) := by rfl)
    (hdb : (x == ("__debug__" : Str)) = false := by decide)
    (he : starEach (e :: es) X.env = (false, eval e X.env) :: starEach es X.env := by rfl) (hpl : (backTo pos (starEach es X.env)).any (·.1) = false := by rfl) :
    PE X (.Call (.Attribute (.Name x p1) "__init__" p2) (e :: es) [] pos) (tVeI X.K t) := by
  refine ⟨fun pins s σ H Q I h => ?_⟩
  refine PySem.W.methodCall_KW (ld_glob I hg m.g ?_ hdb) hc
  obtain ⟨mm, fr⟩ := I.fr
  refine PySem.W.method_of_cls fr I.ok.mod.kin m.sp ?_
  refine PySem.W.cls_val fr I.ok.mod.kin m.ty m.rd m.fc (by decide +kernel) ?_
  show wpAny _ _ (callWith pos (Value.builtin "ValueError.__init__") [] (backTo pos (starEach (e :: es) X.env)) []) _ _ _
  refine callWith_method1 (thn (ha.run pos pins _ σ H _ (I.tok _) h) fun us s1 hv => ?_) he hpl
  obtain ⟨vs, H1, I1, r1, a, C, ws, rfl, hl, T, ea, q⟩ := hv
  cases r1 with
  | @cons _ u0 _ ur ra rw' =>
    obtain rfl : u0 = Value.ref a := ra
    have small : ur.length ≤ sizeLine := by
      rw [← Paired.length rw']
      exact small_line (by omega)
    exact oinit_ok T I1 ea small fun s' J => ⟨.non, H1, J, rfl, q⟩
end
end Sw

set_option Elab.async false
set_option linter.all false
set_option maxRecDepth 100000
set_option maxHeartbeats 4000000
namespace Sw
open PySem PySem.Spec PyProof.Rows L2
/-! ## What the head is asked of the classes of errors -/
def oexB (K : PySem.W.Frag) (C : Addr) : Bool :=
  (match K.lookup C with
  | some ⟨.type "type", _, .cls cd, sl⟩ => (match cd.mro, sl.toList with
    | .ref C' :: bm, [_, _, _, _, some (.builtin n), _] => decide (C' = C) && (decide (n = "ValueError.__new__") && (!cd.hasDel && (cd.hasDict && PySem.HandSPX.refsVE bm)))
    | _, _ => false)
  | _ => false) && (He.eqO (PySem.W.findIn K (.ref C) "__setattr__") (some (some (.builtin "object.__setattr__"))) && (decide (PySem.W.subIn K (.ref C) (.type "BaseException") = some true) &&
    (decide (PySem.W.typeIn K (.ref C) = some (.type "type")) && PySem.W.keepIn K (.ref C))))
theorem oexB_ok {K : PySem.W.Frag} {C : Addr} (h : oexB K C = true) : OexC K C := by
  unfold oexB at h
  obtain ⟨h1, h⟩ := He.ba h
  obtain ⟨h2, h⟩ := He.ba h
  obtain ⟨h3, h⟩ := He.ba h
  obtain ⟨h4, h5⟩ := He.ba h
  refine ⟨?_, He.eqO_ok h2, of_decide_eq_true h3, of_decide_eq_true h4, h5⟩
  split at h1
  · rename_i dd cd sl ho
    split at h1
    · rename_i C' bm k0 k1 k2 k3 n k5 hm hs
      obtain ⟨q1, h1⟩ := He.ba h1
      obtain ⟨q2, h1⟩ := He.ba h1
      obtain ⟨q3, h1⟩ := He.ba h1
      obtain ⟨q4, q5⟩ := He.ba h1
      have q1 := of_decide_eq_true q1
      have q2 := of_decide_eq_true q2
      try subst q1
      try subst q2
      obtain ⟨nm, bs, mro, ns, qn, hd, sn, sub, ab, col, del⟩ := cd
      dsimp only at hm q3 q4
      have q3 : del = false := by simpa using q3
      subst hm q3 q4
      have hsl : sl = #[k0, k1, k2, k3, some (.builtin "ValueError.__new__"), k5] := by
        obtain ⟨l⟩ := sl
        simp only at hs
        rw [hs]
      subst hsl
      exact ⟨nm, qn, ns, bs, bm, sn, sub, ab, col, dd, k0, k1, k2, k3, k5, ho, q5⟩
    · cases h1
  · cases h1
def winB (K : PySem.W.Frag) (x : Str) : Bool := He.eqO (PySem.W.nsIn K mainGlobals x) (some (some (.ref (He.ga K x)))) && (He.eqO (PySem.W.specialIn K (.ref (He.ga K x)) "__getattribute__") (some (some (.builtin "type.__getattribute__"))) &&
  (PySem.W.readsIn K (He.ga K x) (.type "type") && (decide (PySem.W.typeIn K (.ref (He.ga K x)) = some (.type "type")) && (match PySem.W.findCls K (.ref (He.ga K x)) (.type "type") "__init__" with
    | some (.val v) => decide (v = .builtin "ValueError.__init__")
    | _ => false))))
theorem winB_ok {K : PySem.W.Frag} {h : Heap} {mg : Str → Option Value} {x : Str} (X : K.In h) (G : h.Ns mainGlobals mg) (e : winB K x = true) : InK K mg x := by
  unfold winB at e
  obtain ⟨h1, e⟩ := He.ba e
  obtain ⟨h2, e⟩ := He.ba e
  obtain ⟨h3, e⟩ := He.ba e
  obtain ⟨h4, h5⟩ := He.ba e
  refine ⟨PySem.W.mg_of X G (He.eqO_ok h1), He.eqO_ok h2, h3, of_decide_eq_true h4, ?_⟩
  split at h5
  · rename_i v hv
    have := of_decide_eq_true h5
    subst this
    exact hv
  · cases h5
/-- an error class with an __init__ of its own (x.__init__ keeps one field f) -/
structure OwK (K : PySem.W.Frag) (mg : Str → Option Value) (x f : Str) : Prop where
  g : mg x = some (.ref (He.ga K x))
  o : OexC K (He.ga K x)
  i : PySem.W.findIn K (.ref (He.ga K x)) "__init__" = some (some (.ref (He.ma K (He.ga K x) "__init__")))
  t : PySem.W.typeIn K (.ref (He.ma K (He.ga K x) "__init__")) = some (.type "function")
  n : PySem.W.findIn K (.ref (He.ga K x)) f = some none
def owB (K : PySem.W.Frag) (x f : Str) : Bool := He.eqO (PySem.W.nsIn K mainGlobals x) (some (some (.ref (He.ga K x)))) && (oexB K (He.ga K x) && (He.eqO (PySem.W.findIn K (.ref (He.ga K x)) "__init__") (some (some (.ref (He.ma K (He.ga K x) "__init__")))) &&
  (decide (PySem.W.typeIn K (.ref (He.ma K (He.ga K x) "__init__")) = some (.type "function")) && He.eqO (PySem.W.findIn K (.ref (He.ga K x)) f) (some none))))
theorem owB_ok {K : PySem.W.Frag} {h : Heap} {mg : Str → Option Value} {x f : Str} (X : K.In h) (G : h.Ns mainGlobals mg) (e : owB K x f = true) : OwK K mg x f := by
  unfold owB at e
  obtain ⟨h1, e⟩ := He.ba e
  obtain ⟨h2, e⟩ := He.ba e
  obtain ⟨h3, e⟩ := He.ba e
  obtain ⟨h4, h5⟩ := He.ba e
  exact ⟨PySem.W.mg_of X G (He.eqO_ok h1), oexB_ok h2, He.eqO_ok h3, of_decide_eq_true h4, He.eqO_ok h5⟩
section
variable {fa : List He.Fa} {fn : List He.DefD} {ex : PySem.W.Frag → Bool} {h : Heap} {K : PySem.W.Frag} {mg : Str → Option Value}
theorem exk_of (c : SaysZ fa fn ex K) (X : K.In h) (G : h.Ns mainGlobals mg) {x : Str} (i j : Nat) (hi : fa[i]? = some (.glo x)) (hj : fa[j]? = some (.exc x)) : ExK K mg x :=
  ⟨He.glo_ok X G (c.d.fact i hi), He.exc_ok (c.d.fact j hj)⟩
theorem exm_of' (c : SaysZ fa fn ex K) {x y : Str} {b : Bool} (j : Nat) (hj : fa[j]? = some (.exm x y b)) : PySem.W.exmOne K (.ref (He.ga K x)) (.ref (He.ga K y)) = some b := He.exm_ok (c.d.fact j hj)
end
/-! ## raise x(e), x with such an __init__: the error's own dict is new and holds the field -/
def spInit (K : PySem.W.Frag) (C : Addr) (f : Str) : Sp := fun vs H Q _ => ∃ (a : Addr) (v : V), vs = [.ref a, v] ∧ H a = some (exo a C none) ∧ (v = .non ∨ ∃ i : Int, v = .int i ∧ 0 ≤ i ∧ i ≤ 1000) ∧
  ∀ dx, H dx = none → dx ≠ a → Q .non (upd (upd H dx (exd dx [(f, v)])) a (exo a C (some dx)))
/-- the error x of that field -/
def EOwn (K : PySem.W.Frag) (x f : Str) (v : V) (σ : L2.St) (H : Hp) (W : WX) : Prop := ∀ d, H d = none → W (.ref (He.ga K x)) (some d) σ (upd H d (.xd [(f, v)]))
/-- what is wished of the field's value ahead of the raise -/
def OwnWish (K : PySem.W.Frag) (x f : Str) (W : WX) (σ : L2.St) : VK := fun v H1 => [v].length ≤ 1000 ∧ ∀ a, H1 a = none → spInit K (He.ga K x) f (.ref a :: ([v] ++ [])) (upd H1 a (exo a (He.ga K x) none))
  (fun u H2 => u = .non ∧ ∃ (d : Addr) (fs : List (Str × V)), H2 a = some (exo a (He.ga K x) (some d)) ∧ H2 d = some (exd d fs) ∧ H1 d = none ∧ W (.ref (He.ga K x)) (some d) σ (upd (L2.del H2 a) d (.xd fs))) (fun _ _ _ => False)
theorem del_upd {H1 : Hp} {a dx : Addr} {o u w : HO} (ha : H1 a = none) (ne : dx ≠ a) : upd (L2.del (upd (upd (upd H1 a o) dx u) a w) a) dx u = upd H1 dx u := by
  funext b
  by_cases hb : b = dx
  · subst hb
    rw [upd_same, upd_same]
  · rw [upd_ne hb, upd_ne hb]
    by_cases h2 : b = a
    · subst h2
      rw [del_same, ha]
    · rw [del_ne h2, upd_ne h2, upd_ne hb, upd_ne h2]
theorem OwnWish.mk {K : PySem.W.Frag} {x f : Str} {W : WX} {σ : L2.St} {v : V} {H1 : Hp} (hv : v = .non ∨ ∃ i : Int, v = .int i ∧ 0 ≤ i ∧ i ≤ 1000) (h : EOwn K x f v σ H1 W) : OwnWish K x f W σ v H1 := by
  refine ⟨by show 1 ≤ 1000; decide, fun a na => ⟨a, v, rfl, upd_same, hv, fun dx ndx ne => ⟨rfl, dx, [(f, v)], upd_same, ?_, ?_, ?_⟩⟩⟩
  · rw [upd_ne ne, upd_same]
  · rw [upd_ne ne] at ndx
    exact ndx
  · have nd : H1 dx = none := by
      rw [upd_ne ne] at ndx
      exact ndx
    have e : upd (L2.del (upd (upd (upd H1 a (exo a (He.ga K x) none)) dx (exd dx [(f, v)])) a (exo a (He.ga K x) (some dx))) a) dx (.xd [(f, v)]) = upd H1 dx (.xd [(f, v)]) := by
      funext b
      by_cases hb : b = dx
      · subst hb
        rw [upd_same, upd_same]
      · rw [upd_ne hb, upd_ne hb]
        by_cases h2 : b = a
        · subst h2
          rw [del_same, na]
        · rw [del_ne h2, upd_ne h2, upd_ne hb, upd_ne h2]
    rw [e]
    exact h dx nd
def tRzO (K : PySem.W.Frag) (x f : Str) (W : WX) (te : TE) : TS := fun _ σ H => te σ H (OwnWish K x f W σ)
section
variable {X : Cx} {k : Nat} {x f : Str} {te : TE} {e : Expr} {p pos : Pos} {W : WX} {fdI : FuncData} {qs : List Str}
theorem ps_rzO {pos2 : Pos} (hc : X.calm = true) (tk : Takes X W) (m : OwK X.K X.mg x f) (F : FnOk X.prog X.w X.K X.mg X.base CX0 k (He.ma X.K (He.ga X.K x) "__init__") fdI qs (spInit X.K (He.ga X.K x) f)) (hb : Binds X.K fdI qs [])
    (hr : Room (k + 1) X.A) (hg : Gl X x) (ha : PA X [e] (tCons te tNil)) (hdb : (x == ("__debug__" : Str)) = false := by decide)
    (hs : starEach [e] X.env = (false, eval e X.env) :: starEach [] X.env := by rfl) (hpl : (backTo pos (starEach [] X.env)).any (·.1) = false := by rfl) :
    PS X (.Raise (some (.Call (.Name x p) [e] [] pos)) none pos2) (tRzO X.K x f W te) :=
  ps_raise (pos := pos2) hc tk (pmk_oex (X := X) (dvs := []) (ds := []) m.o m.i m.t F hr hb .nil pass0 hg m.g ha hdb hs hpl)
end
end Sw

set_option Elab.async false
set_option linter.all false
set_option maxRecDepth 100000
set_option maxHeartbeats 4000000
namespace Sw
open PySem PySem.Spec PyProof.Rows L2
/-! ## A caught error: come down to the ground -/
theorem fly_keep {g B g' : Heap} {l : List Env} {a : Addr} {Z : Obj → Prop} (f : HandSPX.FlyingZ B l a Z g) (k : ∀ b o, g.get? b = some o → g'.get? b = some o) : HandSPX.FlyingZ B l a Z g' := by
  obtain ⟨q1, q2, q3, ob, ws, T, oT, tr, y1, y2, y3, y4, y5, y6, y7, y8, y9⟩ := f
  exact ⟨fun b o e => k b o (q1 b o e), q2, q3.of_keeps fun b o e _ => ⟨o, k b o e, rfl⟩, ob, ws, T, oT, tr, k _ _ y1, y2, y3, y4, y5, y6, k _ _ y7, y8, y9⟩
/-- what holds of the error at a, once it is noted -/
structure Down (X : Cx) (pins : List (Addr × Obj)) (σ : L2.St) (H : Hp) (a : Addr) (Z : Obj → Prop) (s : Shared) : Prop where
  at_ : ∃ ob ws, s.heap.get? a = some ob ∧ Z ob ∧ ob.data = .fields ws
  inv : Inv X pins σ H s
  nl : a ≠ X.env.locals
  nf : a ∉ X.fs
  n0 : X.s_0.heap.get? a = none
  np : ∀ p ∈ X.pn ++ pins, p.1 ≠ a
section
variable {X : Cx} {pins : List (Addr × Obj)} {σ : L2.St} {H : Hp} {a : Addr} {Z : Obj → Prop}
theorem down_of {B g : Heap} {r t : Shared} (hx : X.ex = []) (hf : X.env.frame = some X.env.locals) (hs : X.stack = X.env :: X.outer) (I : Inv X pins σ H r) (nb : ∀ b o, r.heap.get? b = some o → b ∉ frs X.stack → B.get? b = some o)
    (up : r.heap.UpToSlots g) (eo : t.os = r.os) (eg : AllBare t.gens) (fl : HandSPX.FlyingZ B (X.env :: X.outer) a Z g) : Down X pins σ H a Z { t with heap := g } := by
  obtain ⟨ob, ws, e1, e2, e3⟩ := fl.there
  have out : a ∉ frs (X.env :: X.outer) := fun hm => by
    obtain ⟨_, o, e, nd⟩ := (show g.FunFrames B (X.env :: X.outer) from fl.2.2.1).mem hm
    rw [e1] at e
    cases e
    exact nd _ e3
  have gone : ∀ o, r.heap.get? a = some o → False := fun o e => by
    have z := nb a o e (by rw [hs]; exact out)
    rw [fl.2.1] at z
    cases z
  refine ⟨⟨ob, ws, e1, e2, e3⟩, I.landed (s' := { t with heap := g }) nb fl.1 up eo eg, fun z => out ?_, fun z => out ?_, ?_, fun p hp z => ?_⟩
  · exact List.mem_filterMap.mpr ⟨X.env, List.mem_cons_self, by rw [hf, z]⟩
  · obtain ⟨e, he, q⟩ := List.mem_filterMap.mp z
    exact List.mem_filterMap.mpr ⟨e, List.mem_cons_of_mem _ he, q⟩
  · cases e : X.s_0.heap.get? a with
    | none => rfl
    | some o =>
      obtain ⟨o', q⟩ := I.base.there a o e (by rw [hx]; exact fun z => nomatch z)
      exact (gone o' q).elim
  · exact gone p.2 (by rw [← z]; exact (I.pin p hp).1)
/-- an error that stands at a: its class, its dict -/
def ErO (cls : Value) (d : Option Addr) (a : Addr) : HO := .ext fun g => ∃ (ob : Obj) (ws : Array Value), g.get? a = some ob ∧ Zc cls d ob ∧ ob.data = .fields ws
theorem track {s : Shared} {cls : Value} {d : Option Addr} {ob : Obj} {ws : Array Value} (I : Inv X pins σ H s) (e : s.heap.get? a = some ob) (z : Zc cls d ob) (ed : ob.data = .fields ws) (na : H a = none) (nl : a ≠ X.env.locals) (n0 : X.s_0.heap.get? a = none)
    (np : ∀ p ∈ X.pn ++ pins, p.1 ≠ a) : Inv X pins σ (upd H a (ErO cls d a)) s := by
  have ne0 : ∀ b o, X.s_0.heap.get? b = some o → b ≠ a := fun b o q y => by
    rw [y, n0] at q
    cases q
  have neH : ∀ b u, H b = some u → b ≠ a := fun b u q => ne_of_none q na
  refine ⟨I.ok, I.os, I.bare, ⟨I.base.keep, I.base.slot, fun b o q n x => ?_, I.base.there, fun b xs q => ?_, fun b o u q => ?_, fun b ps q => ?_⟩, I.loc, I.cell, ?_, fun x c q => ?_, fun p hp => ?_, ?_, I.len⟩
  · rw [upd_ne (ne0 b o q)]
    exact I.base.free b o q n x
  · have y := I.base.tups b xs q
    rw [upd_ne (neH b _ y)]
    exact y
  · have y := I.base.frzs b o u q
    rw [upd_ne (neH b _ y)]
    exact y
  · obtain ⟨m, y⟩ := I.base.tbls b ps q
    exact ⟨m, by rw [upd_ne (neH b _ y)]; exact y⟩
  · rw [upd_ne nl.symm]
    exact I.free
  · obtain ⟨v, o, ho, hd⟩ := I.cell x c q
    have : c ≠ a := fun y => by
      rw [y, e] at ho
      cases ho
      rw [ed] at hd
      cases hd
    rw [upd_ne this]
    exact I.freeC x c q
  · obtain ⟨y1, y2, y3⟩ := I.pin p hp
    exact ⟨y1, by rw [upd_ne (np p hp)]; exact y2, y3⟩
  · exact I.hok.laidN (fun _ _ q => q) na ⟨⟨ob, ws, e, z, ed⟩, ⟨ob, e⟩, fun _ _ ⟨o, v, q, r⟩ k => ⟨o, v, k o q, r⟩⟩
end
/-! ## try: .. except x as n: .., the error kept behind it -/
/-- what such a try wishes of an error of its body: x names it, the suite goes on, then it stands -/
def wKeep (K : PySem.W.Frag) (c : Value) (i : Nat) (ts : Addr → Value → Option Addr → TS) (D : Ends) : WX := fun cls d σ H => PySem.W.exmOne K cls c = some true ∧ ∀ a, H a = none →
  ts a cls d { nx := fun σ' H' => D.nx (σ'.set i none) (upd H' a (ErO cls d a)), rt := fun v H' => D.rt v (upd H' a (ErO cls d a)), bk := fun σ' H' => D.bk (σ'.set i none) (upd H' a (ErO cls d a)), ct := fun σ' H' => D.ct (σ'.set i none) (upd H' a (ErO cls d a)) } (σ.set i (some (.ref a))) H
section
variable {X : Cx} {x n : Str} {c : Value} {i : Nat} {body suite : List Stmt} {b₀ : Stmt} {np pos pos' : Pos} {tb : WX → TS} {ts : Addr → Value → Option Addr → TS}
theorem ps_try_keep (hs : X.stack = X.env :: X.outer) (hf : X.env.frame = some X.env.locals) (hx : X.ex = []) (hN : X.N.Nodup) (hi : X.N[i]? = some n) (hln : X.env.kindOf n = some .local) (hc : Names X x c)
    (hb : ∀ (W : WX) (pn : List (Addr × Obj)) (xe : Value → Shared → Prop), L2.Takes (X.tr pn xe) W → PassesOwn (model X.prog X.w) X.A X.env xe → PSs (X.tr pn xe) body (tb W))
    (hsu : ∀ (a : Addr) (oe : Obj) (cls : Value) (d : Option Addr) (pn : List (Addr × Obj)), Zc cls d oe → (∃ vs, oe.data = .fields vs) → PSs (X.suite a ((a, oe) :: pn)) (b₀ :: suite) (ts a cls d)) :
    PS X (.Try body [.ExceptHandler (some (.Name x np)) (some n) (b₀ :: suite) pos'] [] [] pos) (fun D σ H => tb (wKeep X.K c i ts D) D σ H) := by
  refine ⟨fun pins s σ H D I h => wpAny_Try_except ?_⟩
  have ok := I.ok
  have frm : X.A.frames = some (X.env :: X.outer) := hs ▸ ok.frames
  refine wpAny_mono ((hb (wKeep X.K c i ts D) (X.pn ++ pins) (fun e t => wpAny (model X.prog X.w) X.A (noteFrame e X.env) (fun _ t2 => wpAny (model X.prog X.w) X.A (setFlight e none) (fun _ t3 =>
    wpAny (model X.prog X.w) X.A (handleBy e X.env [.ExceptHandler (some (.Name x np)) (some n) (b₀ :: suite) pos']) (SP X pins D) X.xe t3) X.xe t2) X.xe t) (fun u t xx => ?_) PassesOwn.looking).run [] s σ H D (I.toTry _) h) (fun f t hsp => ?_) (fun _ _ z => z)
  · obtain ⟨a, B, r, pr, σ1, H1, cls, d, rfl, I1, nb, up, sky, na, eo, eg, hm, hgo⟩ := xx
    have I2 : Inv X pins σ1 H1 r := I1.ofTry ok
    show wpAny (model X.prog X.w) X.A (noteFrame (.ref a) X.env) _ _ _
    refine L2.Sky.land (Z := Zc cls d) (B := B) (L := X.env.locals) Zc.steady frm hf (by rw [← hs]; exact sky) fun g3 fl3 up3 => ?_
    have d3 := down_of (t := t) hx hf hs I2 nb (up.trans up3) eo eg fl3
    obtain ⟨ob3, ws3, e3, z3, dt3⟩ := d3.at_
    have S3 := d3.inv.suite e3 dt3 na d3.nl d3.nf
    refine wpAny_handleBy_cons (codeAny_handlers_test ?_) (fun q => nomatch q)
    have LT : PySem.W.Looks (model X.prog X.w) g3 (typeOf (.ref a)) cls := fun _ _ _ _ k q => wpAny_typeOf_ref (k _ _ e3) (by rw [z3.1]; exact q)
    have LM := PySem.W.exm_one (M := model X.prog X.w) d3.inv.kIn LT hm
    have test : ∀ {Q E : Value → Shared → Prop}, Q c { t with heap := g3 } → wpAny (model X.prog X.w) (X.A.mark (some (.ref a))) (eval (.Name x np) X.env) Q E { t with heap := g3 } := fun {Q E} q => by
      obtain ⟨y1, y2, y3 | ⟨y3, y4, y5⟩⟩ := hc
      · exact ld_glob (X := X.suite a ((a, ob3) :: (X.pn ++ pins))) S3 y1 y3 q y2
      · exact ld_blt (X := X.suite a ((a, ob3) :: (X.pn ++ pins))) S3 y1 y3 y4 q y5 y2
    refine test (LM.here (codeAny_handlers_suite_as ?_))
    refine HandSPX.lands_againZ fl3 fun g4 fl4 up4 => ?_
    have d4 := down_of (t := t) hx hf hs I2 nb ((up.trans up3).trans up4) eo eg fl4
    obtain ⟨ob4, ws4, e4, z4, dt4⟩ := d4.at_
    have S4 := d4.inv.suite e4 dt4 na d4.nl d4.nf
    refine store_ok (X := X.suite a ((a, ob4) :: (X.pn ++ pins))) (v := .ref a) S4 hN hi (.inl hln) rfl (fun s5 S5 => ?_) (.inr hln)
    refine wpAny_mono ((hsu a ob4 cls d (X.pn ++ pins) z4 ⟨_, dt4⟩).run [] s5 _ H1 _ S5 (hgo a na)) (fun f s6 hsp => ?_) (fun _ _ z => z.elim)
    have fin : ∀ {σ6 : L2.St} {H6 : Hp} {Q : Shared → Prop}, Inv (X.suite a ((a, ob4) :: (X.pn ++ pins))) [] σ6 H6 s6 → (∀ s7, Inv X pins (σ6.set i none) (upd H6 a (ErO cls d a)) s7 → Q s7) →
        wpAny (model X.prog X.w) X.A (do bindName X.env n .none; unbindBehindTheSuite X.env n pos') (fun _ s7 => Q s7) X.xe s6 := fun {σ6 H6 Q} S6 hq => by
      obtain ⟨y1, y2, _⟩ := S6.pin (a, ob4) (List.mem_append_left _ List.mem_cons_self)
      exact gone_ok (track (S6.unsuite ok) y1 z4 dt4 y2 d4.nl d4.n0 d4.np) hN hi hln hq
    cases f with
    | next =>
      obtain ⟨σ6, H6, S6, q6⟩ := hsp
      exact fin S6 fun s7 J7 => ⟨_, _, J7, q6⟩
    | brk =>
      obtain ⟨σ6, H6, S6, q6⟩ := hsp
      exact fin S6 fun s7 J7 => ⟨_, _, J7, q6⟩
    | cont =>
      obtain ⟨σ6, H6, S6, q6⟩ := hsp
      exact fin S6 fun s7 J7 => ⟨_, _, J7, q6⟩
    | ret u =>
      obtain ⟨v6, σ6, H6, S6, r6, q6⟩ := hsp
      exact fin S6 fun s7 J7 => ⟨_, _, _, J7, r6, q6⟩
  · cases f with
    | next =>
      obtain ⟨σ1, H1, I1, q⟩ := hsp
      exact wpAny_execs_nil ⟨σ1, H1, I1.ofTry ok, q⟩
    | brk =>
      obtain ⟨σ1, H1, I1, q⟩ := hsp
      exact ⟨σ1, H1, I1.ofTry ok, q⟩
    | cont =>
      obtain ⟨σ1, H1, I1, q⟩ := hsp
      exact ⟨σ1, H1, I1.ofTry ok, q⟩
    | ret u =>
      obtain ⟨v, σ1, H1, I1, r, q⟩ := hsp
      exact ⟨v, σ1, H1, I1.ofTry ok, r, q⟩
end
end Sw

set_option Elab.async false
set_option linter.all false
set_option maxRecDepth 100000
set_option maxHeartbeats 4000000
namespace Sw
open PySem PySem.Spec PyProof.Rows L2
/-! ## What is asked of a kept error -/
/-- the error's dict stands -/
def DicOk (H : Hp) (d : Option Addr) : Prop := d = none ∨ ∃ dd fs, d = some dd ∧ H dd = some (.xd fs)
section
variable {X : Cx} {pins : List (Addr × Obj)} {σ : L2.St} {H : Hp} {s : Shared} {a C : Addr} {d : Option Addr}
theorem inst_at (I : Inv X pins σ H s) (e : H a = some (ErO (.ref C) d a)) (hd : DicOk H d) : ∃ ob od, PySem.W.InstAt s.heap a ob C od ∧ (∀ dd fs, d = some dd → H dd = some (.xd fs) → ∃ o, od = some o ∧ s.heap.get? dd = some o) := by
  obtain ⟨⟨ob, ws, y1, ⟨y2, y3⟩, y4⟩, _, _⟩ := I.hok a _ e
  have nc : PySem.W.notCls ob = true := by
    unfold PySem.W.notCls
    rw [y4] <;> rfl
  rcases hd with rfl | ⟨dd, fs, rfl, hx⟩
  · exact ⟨ob, none, ⟨y1, y2, nc, by rw [y3]; trivial⟩, fun _ _ z => nomatch z⟩
  · obtain ⟨mA, ⟨o, es, ep, e1, _⟩, _⟩ := (show ObjOk X.prog X.w H s.heap dd (.xd fs) from I.hok dd _ hx)
    exact ⟨ob, some o, ⟨y1, y2, nc, by rw [y3]; exact e1⟩, fun d2 f2 z _ => by cases z; exact ⟨o, rfl, e1⟩⟩
end
/-- isinstance(x, c) of what rIsi knows, or of a kept error -/
def rIsK (K : PySem.W.Frag) : List V → Hp → VK → Prop := fun xs H Q => rIsi K xs H Q ∨ ∃ (a C : Addr) (d : Option Addr) (c : V) (u : Value) (b : Bool), xs = [.ref a, c] ∧ H a = some (ErO (.ref C) d a) ∧ DicOk H d ∧ ExcC K C ∧ ClsV c u ∧ PySem.W.kitOne K (.ref C) u = some b ∧ Q (.bl b) H
theorem cl_isk {X : Cx} : CallR X (.builtin "isinstance") (rIsK X.K) := by
  intro pins s σ H xs us Q I r h
  rcases h with h | ⟨a, C, d, c, u, b, rfl, ea, hd, T, k, e, q⟩
  · exact call_isi pins s σ H xs us Q I r h
  · obtain ⟨u1, u2, rfl, r1, r2⟩ := vals2 r
    obtain rfl := k.eq r2
    obtain rfl : u1 = Value.ref a := r1
    obtain ⟨ob, od, J, _⟩ := inst_at I ea hd
    have hcl : (PySem.W.clsIn X.K C).isSome = true := by
      obtain ⟨cd, hc, _⟩ := PySem.W.any_some T.hd
      rw [hc] <;> rfl
    exact PySem.W.kia_one (PySem.W.kitx_exc hcl T.hg T.hk T.hs T.ha T.hn T.ht T.hm) I.kIn J e (fun z => nomatch z) fun tk => ⟨.bl b, H, I.tok tk, rfl, q⟩
/-- x.f of a kept error -/
def tXk (K : PySem.W.Frag) (f : Str) (te : TE) : TE := fun σ H Q => te σ H fun x H1 => ∃ (a C dd : Addr) (fs : List (Str × V)) (v : V), x = .ref a ∧ H1 a = some (ErO (.ref C) (some dd) a) ∧ H1 dd = some (.xd fs) ∧ XfC K C ∧ PySem.W.findIn K (.ref C) f = some none ∧ fs.lookup f = some v ∧ Q v H1
theorem pe_xk {X : Cx} {e : Expr} {te : TE} {pos : Pos} {n : Str} (he : PE X e te) (hb : attributeBase e n X.env (eval e X.env) = eval e X.env := by rfl) : PE X (.Attribute e n pos) (tXk X.K n te) := by
  refine ⟨fun pins s σ H Q I h => attr_of hb (thn (he.run pins s σ H _ I h) fun u s1 hh => ?_)⟩
  obtain ⟨x, H1, I1, rx, a, C, dd, fs, v, rfl, ea, ed, T, hno, l, q⟩ := hh
  obtain rfl : u = Value.ref a := rx
  obtain ⟨ob, od, J, jd⟩ := inst_at I1 ea (.inr ⟨dd, fs, rfl, ed⟩)
  obtain ⟨o, rfl, eo⟩ := jd dd fs rfl ed
  obtain ⟨mA, hns, hr⟩ := (show ObjOk X.prog X.w H1 s1.heap dd (.xd fs) from I1.hok dd _ ed)
  obtain ⟨o2, ho, hl⟩ := lookIn_ns hns
  rw [eo] at ho
  cases ho
  obtain ⟨w, hw, rw'⟩ := RelO.some_of (v := v) (o := mA n) (by rw [← l]; exact hr n)
  exact HandSPX.exc_get I1.kIn J T.ga T.gg T.exC (PySem.W.findObj_own T.hdC hno rfl (by rw [hl, hw])) (handed_of rw') ⟨v, H1, I1.tok _, rw', q⟩
/-! ## Errors raised where nothing is handled: their context is None -/
theorem weak_cx {P : Program} {w : World} {K : PySem.W.Frag} {mg : Str → Option Value} {base : Heap} {k : Nat} {x : Str} {ps : List Str} {sp : Sp} (c : Cal P w K mg base (L2N.CX P w) k x ps sp) : Cal P w K mg base (L2.CX P w) k x ps sp := by
  obtain ⟨f, fd, F, g, kp, b, ba, lk⟩ := c.ex
  refine ⟨f, fd, ⟨F.len, fun A outer s H args us vs Q E hr he hb rv h => codeAny_mono (F.run A outer s H args us vs Q E hr he hb rv h) fun r s' q => ?_⟩, g, kp, b, ba, lk⟩
  cases r with
  | ok fl => cases fl <;> exact q
  | error e =>
    obtain ⟨a, B, H', cls, d, rfl, fl, z⟩ := q
    exact ⟨a, B, H', cls, d, rfl, L2H.flyingZ_imp (fun o y => y.zc) fl, z⟩
section
variable {P : Program} {w : World} {K : PySem.W.Frag} {mg : Str → Option Value} {base : Heap} {x : Str} {st : Stmt} {N ps : List Str} {k : Nat} {sp : Sp}
theorem Here.calN {r : XK → TS} (F : Here K mg x st) (S : FnScope N ps (defScope st)) (len : ∀ vs H Q E, sp vs H Q E → vs.length = ps.length)
    (bd : ∀ (kV doc pm : Value) (an : Option Addr) (cdv ct : Value) (us : List Value), us.length = ps.length →
      bindArgs (PySem.W.fnOf x x (defArgs st) (defBody st) (defScope st) .none kV doc pm an cdv ct) ⟨us, []⟩ = pure (ps.zip us))
    (dv : ∀ (f : Addr) (cdv : Value) (A : Around) (outer : List Env) (s : Shared) (H : Hp) (E : XK), RmIn k A x st s f cdv → PSs (BX (L2N.CX P w) P w K mg base N x st f cdv A outer s H E) (defBody st) (r E))
    (rd : ∀ (vs : List V) (H : Hp) (Q : VK) (E : XK), sp vs H Q E → r E { nx := fun _ H' => Q .non H', rt := Q } (L2.start N vs) H) :
    Cal P w K mg base (L2N.CX P w) (k + 1) x ps sp := by
  obtain ⟨f, fd, D, g⟩ := F.ex
  refine ⟨f, fd, D.ok S len fun cdv A outer s H vs Q E hr h => ⟨r E, dv f cdv A outer s H E hr, rd vs H Q E h⟩, g, D.kp, D.bindsN bd, fun s us hl => D.bindsA bd s us hl, ?_⟩
  obtain ⟨oc, od, _, _, _, _, _, _, _, osl, _, lk, _⟩ := D.ex
  exact ⟨oc, od, osl, lk⟩
end
section
variable {X : Cx} {k : Nat} {x : Str} {ps : List Str} {sp : Sp} {t : TA} {e : Expr} {es : List Expr} {p pos : Pos} {W : WX}
theorem pe_calN (c : Cal X.prog X.w X.K X.mg X.base (L2N.CX X.prog X.w) k x ps sp) (hr : Room k X.A) (tk : L2N.Takes X W) (hg : Gl X x) (ha : PA X (e :: es) t)
    (hdb : (x == ("__debug__" : Str)) = false := by decide) (he : starEach (e :: es) X.env = (false, eval e X.env) :: starEach es X.env := by rfl)
    (hpl : (backTo pos (starEach es X.env)).any (·.1) = false := by rfl) : PE X (.Call (.Name x p) (e :: es) [] pos) (tCalW sp W t) := by
  obtain ⟨f, fd, F, gm, kp, b, _⟩ := c.ex
  exact pe_callS F hr hg gm kp b (fun σ => L2N.passAt tk σ) ha hdb he hpl
/-- x(e, ..), x an error class without an __init__ of its own -/
theorem pmkA_N (m : ExK X.K X.mg x) (hg : Gl X x) (ha : PA X (e :: es) t) (hdb : (x == ("__debug__" : Str)) = false := by decide)
    (he : starEach (e :: es) X.env = (false, eval e X.env) :: starEach es X.env := by rfl) (hpl : (backTo pos (starEach es X.env)).any (·.1) = false := by rfl) :
    L2H.PMk5 X (.Call (.Name x p) (e :: es) [] pos) (fun σ H Q => t σ H fun vs H1 => vs.length ≤ sizeLine ∧ Q (.ref (He.ga X.K x)) none H1) := by
  intro pins s σ H Q I h
  refine wpAny_Call_Name_kw (ld_glob I hg m.g (PySem.W.callWith_K (h₀ := X.base) I.ok.mod.kin m.m.2.1 (thn (ha.run pos pins s σ H _ I h) fun us s1 hv => ?_) he hpl) hdb)
  obtain ⟨vs, H1, I1, rv, small, q⟩ := hv
  refine ⟨I1.kIn, ?_⟩
  show wpAny _ _ (call (.ref (He.ga X.K x)) us) _ _ _
  obtain ⟨y1, y2, y3, y4, y5, y6, y7, y8, y9, y10, y11, y12, y13, z1, z2, z3, z4, u1, u2, u3, T⟩ := exc_obj I1.kIn m.m.1
  exact wpAny_call_exc_subT PySem.F.excBase_ValueError T u1 u2 u3 (fun g1 a mk => L2H.mk_of5 I1 mk (raises_own m.m.2.2.1 m.m.2.2.2) q (I1.hok.gone mk.new)) (by rw [← rv.length]; exact small)
theorem ps_rzAN {pos2 : Pos} (hc : X.calm = true) (tk : L2N.Takes X W) (m : ExK X.K X.mg x) (hg : Gl X x) (ha : PA X (e :: es) t) (hdb : (x == ("__debug__" : Str)) = false := by decide)
    (he : starEach (e :: es) X.env = (false, eval e X.env) :: starEach es X.env := by rfl) (hpl : (backTo pos (starEach es X.env)).any (·.1) = false := by rfl) :
    PS X (.Raise (some (.Call (.Name x p) (e :: es) [] pos)) none pos2) (tRzA (He.ga X.K x) W t) := L2N.ps_raise hc tk (pmkA_N m hg ha hdb he hpl).pmk
/-- raise x(e, ..) from None in an except suite -/
theorem ps_rzAF {pos2 cp : Pos} {j : Nat} (hc : L2H.HotC X) (tk : L2.Takes X W) (m : ExK X.K X.mg x) (hg : Gl X x) (ha : PA X (e :: es) t) (hdb : (x == ("__debug__" : Str)) = false := by decide)
    (he : starEach (e :: es) X.env = (false, eval e X.env) :: starEach es X.env := by rfl) (hpl : (backTo pos (starEach es X.env)).any (·.1) = false := by rfl) :
    PS X (.Raise (some (.Call (.Name x p) (e :: es) [] pos)) (some (.Constant .none j cp)) pos2) (tRzA (He.ga X.K x) W t) := L2H.ps_raiseHN hc tk (pmkA_N m hg ha hdb he hpl)
end
end Sw

set_option Elab.async false
set_option linter.all false
set_option maxRecDepth 100000
set_option maxHeartbeats 4000000
namespace Sw
open PySem PySem.Spec PyProof.Rows L2
section
variable {X : Cx} {k : Nat} {x f : Str} {te : TE} {e : Expr} {p pos : Pos} {W : WX} {fdI : FuncData} {qs : List Str}
/-- x(e), x an error class whose own __init__ keeps one field: its context is None -/
theorem pmkO_N (m : OwK X.K X.mg x f) (F1 : FnOk X.prog X.w X.K X.mg X.base CX0 k (He.ma X.K (He.ga X.K x) "__init__") fdI qs (spInit X.K (He.ga X.K x) f)) (hb : Binds X.K fdI qs [])
    (hr : Room (k + 1) X.A) (hg : Gl X x) (ha : PA X [e] (tCons te tNil)) (hdb : (x == ("__debug__" : Str)) = false := by decide)
    (hs : starEach [e] X.env = (false, eval e X.env) :: starEach [] X.env := by rfl) (hpl : (backTo pos (starEach [] X.env)).any (·.1) = false := by rfl) :
    L2N.PMk X (.Call (.Name x p) [e] [] pos) (tMkO (He.ga X.K x) (spInit X.K (He.ga X.K x) f) [] (tCons te tNil)) := by
  intro pins s σ H Q I h
  have T := m.o
  obtain ⟨y1, y2, y3, y4, bm, y5, y6, y7, y8, y9, y10, y11, y12, y13, y14, cls, tail⟩ := T.cls
  refine wpAny_Call_Name_kw (ld_glob I hg m.g (PySem.W.callWith_K (h₀ := X.base) I.ok.mod.kin T.kC (thn (ha.run pos pins s σ H _ I h) fun us s1 hv => ?_) hs hpl) hdb)
  obtain ⟨vs, H1, I1, rv, small, ask⟩ := hv
  refine ⟨I1.kIn, ?_⟩
  show wpAny _ _ (call (.ref (He.ga X.K x)) us) _ _ _
  obtain ⟨hp, gn, dr, tk, os⟩ := s1
  have up1 : hp.objs.size ≤ hp.objs.size + 1 := Nat.le_succ _
  have kept : ∀ b o, hp.get? b = some o → ((hp.push (PySem.W.kdv_tup us)).push (PySem.HandSPX.excO (He.ga X.K x) hp.objs.size)).get? b = some o := fun b o y => Heap.get?_push_of_some _ (Heap.get?_push_of_some _ y)
  have there : ((hp.push (PySem.W.kdv_tup us)).push (PySem.HandSPX.excO (He.ga X.K x) hp.objs.size)).get? (hp.objs.size + 1) = some (PySem.HandSPX.excO (He.ga X.K x) hp.objs.size) := by heap_get
  have wish := ask (hp.objs.size + 1) (I1.hok.fresh up1)
  have J := I1.laid (t' := tk) (a := hp.objs.size + 1) (o := exo (hp.objs.size + 1) (He.ga X.K x) none) kept up1 (exo_ok there)
  have rel : Vals (V.ref (hp.objs.size + 1) :: vs) (Value.ref (hp.objs.size + 1) :: us) := .cons rfl rv
  rw [List.append_nil] at wish
  have bd := hb _ (Value.ref (hp.objs.size + 1) :: us) J.kIn (by rw [List.append_nil]; exact rel.length.symm.trans (F1.len _ _ _ _ wish))
  rw [List.append_nil] at bd
  have few : us.length ≤ sizeLine := by
    rw [← rv.length, sizeLine_eq]
    omega
  refine wpAny_call (PySem.HandSPX.call_own PySem.F.excBase_ValueError (fun Y => PySem.HandSPX.refsVE_contains Y bm tail) (I1.kIn _ _ cls) (PySem.W.looks_findIn I1.kIn m.i) (fun self => PySem.W.bind_fn I1.kIn self m.t) few
    (codeAny_mono (F1.run _ X.stack _ _ ⟨Value.ref (hp.objs.size + 1) :: us, []⟩ (Value.ref (hp.objs.size + 1) :: us) _ _ (fun _ _ _ => False) (hr.make (He.ga X.K x) us []) (J.env0.make (He.ga X.K x) us []) bd rel wish) fun r s2 hq => ?_))
  cases r with
  | error er => exact (show False from hq).elim
  | ok fl =>
    cases fl with
    | next => exact (show False from hq).elim
    | brk => exact (show False from hq).elim
    | cont => exact (show False from hq).elim
    | ret u =>
      obtain ⟨v, H2, eo, eb, un, hok, ru, rfl, dd, fs, ea, ed, nd, q⟩ := hq
      obtain ⟨h2, g2, d2, t2, o2⟩ := s2
      obtain ⟨t0, G, IG, kG, gone, obj, na⟩ := mk_end0 (d2 := d2) (t2 := t2) I1 up1 kept un hok eo eb ea ed nd
      exact ⟨ru, hp.objs.size + 1, _, _, ⟨G, g2, d2, t2, o2⟩, _, .ref (He.ga X.K x), some dd, rfl, IG, kG, gone, obj, ⟨rfl, rfl, fun ws hw => by cases hw; rfl⟩, rfl, rfl, na, rfl, eb, raises_own T.exC T.tyC, q⟩
theorem ps_rzON {pos2 : Pos} (hc : X.calm = true) (tk : L2N.Takes X W) (m : OwK X.K X.mg x f) (F : FnOk X.prog X.w X.K X.mg X.base CX0 k (He.ma X.K (He.ga X.K x) "__init__") fdI qs (spInit X.K (He.ga X.K x) f)) (hb : Binds X.K fdI qs [])
    (hr : Room (k + 1) X.A) (hg : Gl X x) (ha : PA X [e] (tCons te tNil)) (hdb : (x == ("__debug__" : Str)) = false := by decide)
    (hs : starEach [e] X.env = (false, eval e X.env) :: starEach [] X.env := by rfl) (hpl : (backTo pos (starEach [] X.env)).any (·.1) = false := by rfl) :
    PS X (.Raise (some (.Call (.Name x p) [e] [] pos)) none pos2) (tRzO X.K x f W te) := L2N.ps_raise hc tk (pmkO_N m F hb hr hg ha hdb hs hpl)
end
/-! ## try: .. except (x, y): .., the suite raises out -/
def wTup (K : PySem.W.Frag) (c1 c2 : Value) (ts : Addr → Value → Option Addr → TS) (D : Ends) : WX := fun cls d σ H => PySem.W.exmAny K cls [c1, c2] = some true ∧ ∀ a, H a = none → ts a cls d D σ H
section
variable {X : Cx} {x1 x2 : Str} {c1 c2 : Value} {body suite : List Stmt} {b₀ : Stmt} {np1 np2 tp pos pos' : Pos} {kk : Nat} {tb : WX → TS} {ts : Addr → Value → Option Addr → TS} {Wout : WX}
theorem ps_try_tupX (hs : X.stack = X.env :: X.outer) (hf : X.env.frame = some X.env.locals) (hx : X.ex = []) (n1 : Names X x1 c1) (n2 : Names X x2 c2) (hpa : ∀ hd : Option Value, PassesOwnAt (model X.prog X.w) (X.A.mark hd) X.A X.env X.xe) (tk : L2.Takes X Wout)
    (hb : ∀ (W : WX) (pn : List (Addr × Obj)) (xe : Value → Shared → Prop), L2N.Takes (X.tr pn xe) W → PassesOwn (model X.prog X.w) X.A X.env xe → PSs (X.tr pn xe) body (tb W))
    (hsu : ∀ (a : Addr) (ob : Obj) (cls : Value) (d : Option Addr) (pn : List (Addr × Obj)), L2N.Zn cls d ob → (∃ vs, ob.data = .fields vs) → L2.Takes (L2H.suiteX X a ((a, ob) :: pn)) Wout → L2H.HotC (L2H.suiteX X a ((a, ob) :: pn)) →
      PSs (L2H.suiteX X a ((a, ob) :: pn)) (b₀ :: suite) (ts a cls d)) :
    PS X (.Try body [.ExceptHandler (some (.Tuple [.Name x1 np1, .Name x2 np2] kk tp)) none (b₀ :: suite) pos'] [] [] pos) (fun D σ H => tb (wTup X.K c1 c2 ts D) D σ H) := by
  refine ⟨fun pins s σ H D I h => wpAny_Try_except ?_⟩
  have ok := I.ok
  have frm : X.A.frames = some (X.env :: X.outer) := hs ▸ ok.frames
  refine wpAny_mono ((hb (wTup X.K c1 c2 ts D) (X.pn ++ pins) (fun e t => wpAny (model X.prog X.w) X.A (noteFrame e X.env) (fun _ t2 => wpAny (model X.prog X.w) X.A (setFlight e none) (fun _ t3 =>
    wpAny (model X.prog X.w) X.A (handleBy e X.env [.ExceptHandler (some (.Tuple [.Name x1 np1, .Name x2 np2] kk tp)) none (b₀ :: suite) pos']) (SP X pins D) X.xe t3) X.xe t2) X.xe t) (fun u t xx => ?_) PassesOwn.looking).run [] s σ H D (I.toTry _) h) (fun f t hsp => ?_) (fun _ _ z => z)
  · obtain ⟨a, B, r, pr, σ1, H1, cls, d, rfl, I1, nb, up, sky, na, eo, eg, hm, hgo⟩ := xx
    have I2 : Inv X pins σ1 H1 r := I1.ofTry ok
    show wpAny (model X.prog X.w) X.A (noteFrame (.ref a) X.env) _ _ _
    refine L2N.Sky.land (Z := L2N.Zn cls d) (B := B) (L := X.env.locals) L2N.Zn.steady frm hf (by rw [← hs]; exact sky) fun g3 fl3 up3 => ?_
    have d3 := down_of (t := t) hx hf hs I2 nb (up.trans up3) eo eg fl3
    obtain ⟨ob3, ws3, e3, z3, dt3⟩ := d3.at_
    have S3 := d3.inv.suite e3 dt3 na d3.nl d3.nf
    refine wpAny_handleBy_cons (codeAny_handlers_test ?_) (fun q => nomatch q)
    have name : ∀ {y : Str} {c : Value} {q : Pos} {Q E : Value → Shared → Prop}, Names X y c → Q c { t with heap := g3 } → wpAny (model X.prog X.w) (X.A.mark (some (.ref a))) (eval (.Name y q) X.env) Q E { t with heap := g3 } := fun {y c q Q E} hc hq => by
      obtain ⟨y1, y2, y3 | ⟨y3, y4, y5⟩⟩ := hc
      · exact ld_glob (X := X.suite a ((a, ob3) :: (X.pn ++ pins))) S3 y1 y3 hq y2
      · exact ld_blt (X := X.suite a ((a, ob3) :: (X.pn ++ pins))) S3 y1 y3 y4 hq y5 y2
    refine wpAny_Tuple ?_
    refine wpAny_items_cons (name n1 ?_)
    refine wpAny_items_cons (name n2 ?_)
    refine wpAny_items_nil ⟨by size_fits, ?_⟩
    have kp : ∀ b o, g3.get? b = some o → (g3.push { cls := .type "tuple", data := .seq [c1, c2].toArray }).get? b = some o := fun _ _ z => Heap.get?_push_of_some _ z
    have LT : PySem.W.Looks (model X.prog X.w) (g3.push { cls := .type "tuple", data := .seq [c1, c2].toArray }) (typeOf (.ref a)) cls := fun _ _ _ _ k q => wpAny_typeOf_ref (k _ _ (kp _ _ e3)) (by rw [z3.1]; exact q)
    refine (PySem.W.exm_tup2 (M := model X.prog X.w) (d3.inv.kIn.keeps kp) LT (Heap.get?_push_size g3 rfl) hm).here (codeAny_handlers_suite ?_)
    refine HandSPX.lands_againZ (fly_keep fl3 kp) fun g4 fl4 up4 => ?_
    have d4 := down_of (t := t) hx hf hs I2 nb (((up.trans up3).trans (Heap.UpToSlots.of_keeps kp)).trans up4) eo eg fl4
    obtain ⟨ob4, ws4, e4, z4, dt4⟩ := d4.at_
    have S4 := d4.inv.suite e4 dt4 na d4.nl d4.nf
    have tkS : L2.Takes (L2H.suiteX X a ((a, ob4) :: (X.pn ++ pins))) Wout := fun u2 s2 ⟨a2, B2, r2, pn2, σ2, H2, cls2, dd2, q1, J2, q3⟩ => tk u2 s2 ⟨a2, B2, r2, pins, σ2, H2, cls2, dd2, q1, L2H.unsuiteX J2 ok, q3⟩
    have hot : L2H.HotC (L2H.suiteX X a ((a, ob4) :: (X.pn ++ pins))) := ⟨(a, ob4), ⟨rfl, ws4, dt4, z4.2.2 ws4 dt4⟩, List.mem_cons_self⟩
    refine wpAny_mono ((hsu a ob4 cls d (X.pn ++ pins) z4 ⟨_, dt4⟩ tkS hot).run [] _ _ H1 _ (L2H.suiteX_of S4) (hgo a na)) (fun f s6 hsp => ?_) (fun e6 s6 z => hpa (some (.ref a)) e6 s6 z)
    cases f with
    | next =>
      obtain ⟨σ6, H6, S6, q6⟩ := hsp
      exact ⟨_, _, L2H.unsuiteX S6 ok, q6⟩
    | brk =>
      obtain ⟨σ6, H6, S6, q6⟩ := hsp
      exact ⟨_, _, L2H.unsuiteX S6 ok, q6⟩
    | cont =>
      obtain ⟨σ6, H6, S6, q6⟩ := hsp
      exact ⟨_, _, L2H.unsuiteX S6 ok, q6⟩
    | ret u =>
      obtain ⟨v6, σ6, H6, S6, r6, q6⟩ := hsp
      exact ⟨_, _, _, L2H.unsuiteX S6 ok, r6, q6⟩
  · cases f with
    | next =>
      obtain ⟨σ1, H1, I1, q⟩ := hsp
      exact wpAny_execs_nil ⟨σ1, H1, I1.ofTry ok, q⟩
    | brk =>
      obtain ⟨σ1, H1, I1, q⟩ := hsp
      exact ⟨σ1, H1, I1.ofTry ok, q⟩
    | cont =>
      obtain ⟨σ1, H1, I1, q⟩ := hsp
      exact ⟨σ1, H1, I1.ofTry ok, q⟩
    | ret u =>
      obtain ⟨v, σ1, H1, I1, r, q⟩ := hsp
      exact ⟨v, σ1, H1, I1.ofTry ok, r, q⟩
end
end Sw

set_option Elab.async false
set_option linter.all false
set_option maxRecDepth 100000
set_option maxHeartbeats 4000000
namespace Sw
open PySem PySem.Spec PyProof.Rows L2
/-! ## first, *rest = a list that is not empty -/
section
variable {prog : Program} {w : World} {A : Around} {E : Value → Shared → Prop} {s : Shared}
theorem unpack_head {l : Addr} {u : Value} {us : List Value} {Q : List Value → Shared → Prop} (hl : s.heap.IsList l (u :: us).toArray) (hh : A.handled = none) (hz : us.length < 1000000)
    (h : ∀ (h2 : Heap) (tk : Nat), (∀ b o, s.heap.get? b = some o → h2.get? b = some o) →
      Q [u, .ref h2.objs.size] { s with heap := h2.push { cls := .type "list", data := .seq us.toArray }, toks := tk }) : wpAny (model prog w) A (unpackItems (.ref l) 2 (some 1)) Q E s := by
  have ne : l ≠ s.heap.objs.size := by
    obtain ⟨o, ho, _⟩ := hl
    exact Nat.ne_of_lt (Heap.lt_size ho)
  have size : (u :: us).toArray.size = us.length + 1 := by rw [List.size_toArray, List.length_cons]
  unfold unpackItems notIterableAtAll
  refine wpAny_bind (wpAny_bind ?_)
  refine wpAny_specialOf hl.typeIs slot_list_iter.lookup ?_
  refine wpAny_pure ?_
  simp only [Bool.false_eq_true, if_false]
  refine wpAny_bind (wpAny_holding (wpAny_pyIter_list hl ?_))
  refine wpAny_bind (wpAny_holding ?_)
  refine PySem.W.kun_draw ne 1 0 _ _ ⟨_, Heap.get?_push_size _ rfl, rfl, rfl⟩ (hl.push _) (by rw [size]; omega) fun h1 it1 sb1 => ?_
  have hl1 : h1.IsList l (u :: us).toArray := (hl.push _).extBut sb1.extBut ne
  have itx := it1
  obtain ⟨oi, hoi, _⟩ := itx
  have hlx := hl1
  obtain ⟨ol, hol, _⟩ := hlx
  show wpAny _ _ (if [u].length < 1 then _ else _) _ _ _
  rw [if_neg (show ¬ [u].length < 1 from fun z => absurd z (by show ¬ 1 < 1; omega))]
  refine wpAny_bind (wpAny_holding ?_)
  refine PySem.W.kun_collect (s := { s with heap := h1 }) (T := "list_iterator") (.inr (.inr (.inl rfl))) (Walks.list (A := A.in1) hh s.heap.objs.size l ne (u :: us).toArray) (fun j v st => st.1.typeIs) (k := 1) (by rw [size]; omega)
    ⟨it1, hl1⟩ (Heap.lt_size hoi) (Heap.lt_size hol) (fun h2 tk k2 => ?_) (by rw [size]; exact small_line (by omega))
  show wpAny _ _ (if us.length < 0 then _ else _) _ _ _
  rw [if_neg (Nat.not_lt_zero _)]
  have stay : ∀ b o, s.heap.get? b = some o → h2.get? b = some o := fun b o e => by
    have lt := Heap.lt_size e
    have nb : b ≠ s.heap.objs.size := Nat.ne_of_lt lt
    exact k2 b o nb (sb1.extBut b o nb (Heap.get?_push_of_some _ e))
  show wpAny _ _ (newList (us.take (us.length - 0)) >>= fun d => pure ([u] ++ [d] ++ us.drop (us.length - 0))) _ _ _
  rw [Nat.sub_zero, List.take_length, List.drop_length]
  refine wpAny_bind (wpAny_newObj_type ?_ (by show us.toArray.size ≤ sizeLine; rw [List.size_toArray]; exact small_line (by omega)))
  exact wpAny_pure (h h2 tk stay)
end
/-- first, *rest = a list -/
def gHead (K : PySem.W.Frag) (t : TGs) : TG := fun v σ H Q => ∃ (a : Addr) (x : V) (xs : List V), v = .ref a ∧ SqL K H a (x :: xs) ∧ xs.length < 1000000 ∧ ∀ p, H p = none → t [x, .ref p] σ (upd H p (.lst xs)) Q
section
variable {X : Cx} {pos : Pos}
theorem pg_head {es : List Expr} {k : Nat} {t : TGs} (hc : X.calm = true) (h : PGs X es t) (hn : (assignEach es X.env).length = 2 := by rfl) (hst : (assignEach es X.env).findIdx? (·.1) = some 1 := by rfl) :
    PG X (.Tuple es k pos) (gHead X.K t) := by
  refine ⟨fun pins s σ H v u Q I r hw => ?_⟩
  obtain ⟨a, x, xs, rfl, hq, hz, hw⟩ := hw
  cases r
  obtain ⟨its, rv, pl, _⟩ := I.list hq
  cases rv with
  | @cons _ u0 _ us r0 rs =>
    have hl := rs.length
    rw [PyProof.Rows.assign_Tuple]
    refine wpAny_bind (wpAny_standAt ?_)
    unfold unpack
    rw [hn, hst]
    refine wpAny_bind (wpAny_holding (unpack_head pl.isList (I.ok.hd hc) (by omega) fun h2 tk st => ?_))
    have I1 : Inv X pins σ H { s with heap := h2, toks := tk } := I.kept (t' := tk) st
    have I2 := I1.laid (t' := tk) (a := h2.objs.size) (o := .lst xs) (h' := h2.push { cls := .type "list", data := .seq us.toArray }) (fun b o q => Heap.get?_push_of_some _ q) (Nat.le_refl _)
      ⟨small_line (by omega), us, 0, rs, Heap.get?_push_size _ rfl⟩
    exact h.run pins _ σ _ [x, .ref h2.objs.size] [u0, .ref h2.objs.size] Q I2 (.cons r0 (.cons rfl .nil)) (hw _ (I1.hok.fresh (Nat.le_refl _)))
/-- *words among targets: the name in it -/
theorem pgs_star {e : Expr} {es : List Expr} {p : Pos} {t : TG} {u : TGs} (h1 : PG X e t) (h2 : PGs X es u)
    (hs : (assignEach (.Starred e p :: es) X.env).map (·.2) = assign e X.env :: (assignEach es X.env).map (·.2) := by rfl) : PGs X (.Starred e p :: es) (gCons t u) := by
  refine ⟨fun pins s σ H vs us Q I r h => ?_⟩
  obtain ⟨v, vr, rfl, h⟩ := h
  cases r with
  | cons r rr =>
    rw [hs]
    exact assignInOrder_cons (thn (h1.run pins s σ H _ _ _ I r h) fun _ s1 hq => by
      obtain ⟨σ1, H1, I1, q1⟩ := hq
      exact h2.run pins s1 σ1 H1 _ _ Q I1 rr q1)
end
end Sw

set_option Elab.async false
set_option linter.all false
set_option maxRecDepth 100000
set_option maxHeartbeats 4000000
namespace Sw
open PySem PySem.Spec PyProof.Rows L2
/-! ## Rows through a web -/
abbrev Row := List Int
def vis (r : Row) : List V := r.map V.int
def at0 (r : Row) (k : Nat) : Int := r.getD k 0
/-- one comparer -/
def goC (r : Row) (c : Cmp) : Row := if at0 r c.1 > at0 r c.2 then (r.set c.1 (at0 r c.2)).set c.2 (at0 r c.1) else r
def gone (cs : List Cmp) (r : Row) : Row := cs.foldl goC r
/-- the rows ahead of each comparer, and the last one -/
def trace : List Cmp → Row → List Row
  | [], r => [r]
  | c :: cs, r => r :: trace cs (goC r c)
theorem goC_len (r : Row) (c : Cmp) : (goC r c).length = r.length := by
  unfold goC
  split
  · rw [List.length_set, List.length_set]
  · rfl
theorem gone_len (cs : List Cmp) : ∀ r, (gone cs r).length = r.length := by
  induction cs with
  | nil => intro r; rfl
  | cons c cs ih =>
    intro r
    show (gone cs (goC r c)).length = r.length
    rw [ih, goC_len]
theorem gone_snoc (cs : List Cmp) (c : Cmp) (r : Row) : gone (cs ++ [c]) r = goC (gone cs r) c := by
  unfold gone
  rw [List.foldl_append] <;> rfl
theorem gone_take {cs : List Cmp} {i : Nat} {c : Cmp} (h : cs[i]? = some c) (r : Row) : gone (cs.take (i + 1)) r = goC (gone (cs.take i) r) c := by
  rw [List.take_add_one, h]
  exact gone_snoc _ _ _
theorem trace_len (cs : List Cmp) : ∀ r, (trace cs r).length = cs.length + 1 := by
  induction cs with
  | nil => intro r; rfl
  | cons c cs ih => intro r; show (trace cs (goC r c)).length + 1 = _; rw [ih] <;> rfl
theorem trace_snoc (cs : List Cmp) (c : Cmp) : ∀ r, trace (cs ++ [c]) r = trace cs r ++ [gone (cs ++ [c]) r] := by
  induction cs with
  | nil => intro r; rfl
  | cons d cs ih => intro r; show r :: trace (cs ++ [c]) (goC r d) = _; rw [ih] <;> rfl
theorem trace_take {cs : List Cmp} {i : Nat} {c : Cmp} (h : cs[i]? = some c) (r : Row) : trace (cs.take (i + 1)) r = trace (cs.take i) r ++ [gone (cs.take (i + 1)) r] := by
  rw [List.take_add_one, h]
  exact trace_snoc _ _ _
theorem trace_get (cs : List Cmp) : ∀ (r : Row) (i : Nat), i ≤ cs.length → (trace cs r)[i]? = some (gone (cs.take i) r) := by
  induction cs with
  | nil =>
    intro r i h
    have : i = 0 := by simpa using h
    subst this
    rfl
  | cons c cs ih =>
    intro r i h
    cases i with
    | zero => rfl
    | succ i =>
      show (trace cs (goC r c))[i]? = _
      rw [ih (goC r c) i (by simpa using h)] <;> rfl
theorem trace_last (cs : List Cmp) (r : Row) : (trace cs r)[cs.length]? = some (gone cs r) := by
  rw [trace_get cs r _ (Nat.le_refl _), List.take_length]
/-! ## Data: what == says -/
structure Enc {α : Type} [DecidableEq α] (enc : α → PyData) (k : Nat) : Prop where
  eq : ∀ a b, PyData.eqv (enc a) (enc b) = decide (a = b)
  lay : ∀ a, (enc a).canLay0 = true
  dep : ∀ a, (enc a).depth ≤ k
theorem Enc.shaped {α : Type} [DecidableEq α] {enc : α → PyData} {k : Nat} (h : Enc enc k) (hk : k ≤ 64) (a : α) : SeqAt.shaped (enc a) = true := by
  unfold SeqAt.shaped
  rw [h.lay a, decide_eq_true (Nat.le_trans (h.dep a) hk)] <;> rfl
def dL {α : Type} (enc : α → PyData) (xs : List α) : PyData := .list (xs.map enc)
theorem enc_all {α : Type} [DecidableEq α] {enc : α → PyData} {k : Nat} (h : Enc enc k) : ∀ xs ys : List α, PyData.eqvAll (xs.map enc) (ys.map enc) = decide (xs = ys)
  | [], [] => by simp [PyData.eqvAll]
  | [], _ :: _ => by simp [PyData.eqvAll]
  | _ :: _, [] => by simp [PyData.eqvAll]
  | x :: xs, y :: ys => by
    show (PyData.eqv (enc x) (enc y) && PyData.eqvAll (xs.map enc) (ys.map enc)) = _
    rw [h.eq, enc_all h xs ys, ← Bool.decide_and]
    congr 1
    simp
theorem lay_all {α : Type} {enc : α → PyData} (h : ∀ a, (enc a).canLay0 = true) : ∀ xs : List α, PyData.canLayAll0 (xs.map enc) = true
  | [] => rfl
  | x :: xs => by
    show ((enc x).canLay0 && PyData.canLayAll0 (xs.map enc)) = true
    rw [h x, lay_all h xs] <;> rfl
theorem dep_all {α : Type} {enc : α → PyData} {k : Nat} (h : ∀ a, (enc a).depth ≤ k) : ∀ xs : List α, PyData.depthAll (xs.map enc) ≤ k
  | [] => Nat.zero_le _
  | x :: xs => by
    show max (enc x).depth (PyData.depthAll (xs.map enc)) ≤ k
    have := h x
    have := dep_all h xs
    omega
theorem Enc.list {α : Type} [DecidableEq α] {enc : α → PyData} {k : Nat} (h : Enc enc k) : Enc (dL enc) (k + 1) where
  eq := fun a b => enc_all h a b
  lay := fun a => lay_all h.lay a
  dep := fun a => by
    show PyData.depthAll (a.map enc) + 1 ≤ k + 1
    have := dep_all h.dep a
    omega
theorem enc_int : Enc PyData.int 0 where
  eq := fun a b => by
    show (a == b) = _
    rw [Bool.beq_eq_decide_eq]
  lay := fun _ => rfl
  dep := fun _ => Nat.le_refl _
def dI : Row → PyData := dL PyData.int
theorem enc_row : Enc dI 1 := enc_int.list
def dC (c : Cmp) : PyData := .tuple [.int (c.1 : Int), .int (c.2 : Int)]
theorem enc_cmp : Enc dC 1 where
  eq := fun a b => by
    obtain ⟨a1, a2⟩ := a
    obtain ⟨b1, b2⟩ := b
    show (((a1 : Int) == (b1 : Int)) && (((a2 : Int) == (b2 : Int)) && true)) = _
    rw [Bool.and_true, Bool.beq_eq_decide_eq, Bool.beq_eq_decide_eq, ← Bool.decide_and]
    congr 1
    simp only [Prod.mk.injEq, Int.natCast_inj]
  lay := fun _ => rfl
  dep := fun _ => Nat.le_refl _
def dCs : List Cmp → PyData := dL dC
theorem enc_cmps : Enc dCs 2 := enc_cmp.list
def dRs : List Row → PyData := dL dI
theorem enc_rows : Enc dRs 2 := enc_row.list
section
variable {K : PySem.W.Frag} {H : Hp}
theorem dp_ints : ∀ r : Row, DpAll K H (vis r) (r.map PyData.int)
  | [] => .nil
  | i :: r => .cons (.int i) (dp_ints r)
theorem dp_row {a : Addr} {r : Row} (h : SqL K H a (vis r)) : Dp K H (.ref a) (dI r) := .lst h (dp_ints r)
theorem dp_cmp {p : Addr} {c : Cmp} (h : SqT K H p (V2 c)) : Dp K H (.ref p) (dC c) := .tup h (.cons (.int _) (.cons (.int _) .nil))
theorem dp_prs {ps : List Addr} {cs : List Cmp} (h : Prs K H ps cs) : DpAll K H (Rfs ps) (cs.map dC) := by
  induction h with
  | nil => exact .nil
  | cons r _ ih => exact .cons (dp_cmp r) ih
theorem dp_web {a : Addr} {ps : List Addr} {cs : List Cmp} (h : SqL K H a (Rfs ps)) (hp : Prs K H ps cs) : Dp K H (.ref a) (dCs cs) := .lst h (dp_prs hp)
abbrev Rws (K : PySem.W.Frag) (H : Hp) (qs : List Addr) (rs : List Row) : Prop := All2 (fun q r => SqL K H q (vis r)) qs rs
theorem dp_rws {qs : List Addr} {rs : List Row} (h : Rws K H qs rs) : DpAll K H (Rfs qs) (rs.map dI) := by
  induction h with
  | nil => exact .nil
  | cons r _ ih => exact .cons (dp_row r) ih
theorem dp_rows {a : Addr} {qs : List Addr} {rs : List Row} (h : SqL K H a (Rfs qs)) (hp : Rws K H qs rs) : Dp K H (.ref a) (dRs rs) := .lst h (dp_rws hp)
end
theorem Same.rws {K : PySem.W.Frag} {H H' : Hp} {qs : List Addr} {rs : List Row} (e : Same H H') (h : Rws K H qs rs) : Rws K H' qs rs := h.imp fun _ _ r => Same.seq e r
/-- lists of one's own, new behind H0 -/
abbrev Own (H0 H : Hp) (qs : List Addr) (rs : List Row) : Prop := All2 (fun q r => H0 q = none ∧ H q = some (.lst (vis r))) qs rs
theorem Own.rws {K : PySem.W.Frag} {H0 H : Hp} {qs : List Addr} {rs : List Row} (h : Own H0 H qs rs) : Rws K H qs rs := h.imp fun _ _ r => .inl (.inl r.2)
theorem Own.same {H0 H H' : Hp} {qs : List Addr} {rs : List Row} (e : Same H H') (h : Own H0 H qs rs) : Own H0 H' qs rs := h.imp fun _ _ r => ⟨r.1, e _ _ r.2⟩
theorem Own.back {H0 H1 H : Hp} {qs : List Addr} {rs : List Row} (e : Same H0 H1) (h : Own H1 H qs rs) : Own H0 H qs rs := h.imp fun _ _ r => ⟨e.free r.1, r.2⟩
theorem ints_at {r : Row} {k : Nat} (h : k < r.length) : (vis r)[k]? = some (.int (at0 r k)) := by
  unfold vis at0
  rw [List.getElem?_map, List.getElem?_eq_getElem h, List.getD_eq_getElem?_getD, List.getElem?_eq_getElem h] <;> rfl
theorem ints_set (r : Row) (k : Nat) (z : Int) : (vis r).set k (.int z) = vis (r.set k z) := by
  unfold vis
  rw [List.map_set]
theorem ints_len (r : Row) : (vis r).length = r.length := List.length_map ..
theorem row_ne {H : Hp} {q f : Addr} {r : Row} {qs : List Addr} (h : H q = some (.lst (vis r))) (hf : H f = some (.lst (Rfs qs))) (hr : r ≠ []) : q ≠ f := fun e => by
  subst e
  rw [h] at hf
  cases r with
  | nil => exact hr rfl
  | cons x r =>
    cases qs with
    | nil => cases hf
    | cons y qs => cases hf
theorem Own.upd {H0 H : Hp} {qs qs' : List Addr} {rs : List Row} {f : Addr} {o : HO} (h : Own H0 H qs rs) (hf : H f = some (.lst (Rfs qs'))) (hr : ∀ r ∈ rs, r ≠ []) : Own H0 (L2.upd H f o) qs rs := by
  induction h with
  | nil => exact .nil
  | cons r _ ih =>
    refine .cons ⟨r.1, ?_⟩ (ih fun r hr' => hr r (List.mem_cons_of_mem _ hr'))
    rw [upd_ne (row_ne r.2 hf (hr _ List.mem_cons_self))]
    exact r.2
theorem ne_of_len {r : Row} {n : Nat} (h : r.length = n) (hn : 1 ≤ n) : r ≠ [] := fun e => by
  subst e
  simp at h
  omega
theorem trace_all (cs : List Cmp) : ∀ (r s : Row), s ∈ trace cs r → s.length = r.length := by
  induction cs with
  | nil =>
    intro r s h
    rw [List.mem_singleton.mp h]
  | cons c cs ih =>
    intro r s h
    rcases List.mem_cons.mp h with e | h
    · rw [e]
    · rw [ih (goC r c) s h, goC_len]
section
variable {K : PySem.W.Frag} {σ : L2.St} {H : Hp} {D : Ends} {tb : TS} {j1 : Nat}
/-- for i in range(lo, hi, c): n turns -/
theorem for_rng3 {ta : TA} {lo hi c : Int} {n : Nat} (ht : ∀ Q, Q [V.int lo, V.int hi, V.int c] H → ta σ H Q) (hn : RgC lo hi c n) (Pv : Nat → L2.St → Hp → Prop) (h0 : Pv 0 σ H)
    (turn : ∀ (i : Nat) σ H, i < n → Pv i σ H → tb { D with nx := Pv (i + 1), ct := Pv (i + 1), bk := D.nx } (σ.set j1 (some (.int (lo + (i : Int) * c)))) H)
    (done : ∀ σ H, Pv n σ H → D.nx σ H) : tFor (iRng3 ta) (gName j1) tb D σ H := by
  refine ht _ ⟨lo, hi, c, n, rfl, hn, it_for (n := n) Pv h0 (fun i σ H hi p => hi) (fun σ H p => Nat.le_refl _) (fun i σ H hi p v H' y => ?_) done⟩
  obtain ⟨rfl, rfl⟩ := y
  exact turn i σ H' hi p
end
/-- a drawn item of four -/
theorem pick4 {a b c d : V} {n : Int} (h : 0 ≤ n) : ∃ v, atI [a, b, c, d] (n % 4) = some v ∧ (v = a ∨ v = b ∨ v = c ∨ v = d) := by
  have e : n % 4 = ((0 : Nat) : Int) ∨ n % 4 = ((1 : Nat) : Int) ∨ n % 4 = ((2 : Nat) : Int) ∨ n % 4 = ((3 : Nat) : Int) := by omega
  rcases e with e | e | e | e <;> rw [e]
  · exact ⟨a, rfl, .inl rfl⟩
  · exact ⟨b, rfl, .inr (.inl rfl)⟩
  · exact ⟨c, rfl, .inr (.inr (.inl rfl))⟩
  · exact ⟨d, rfl, .inr (.inr (.inr rfl))⟩
/-- an open place of a list -/
theorem drawn_at {n m : Int} (h : 0 < m) : ∃ k : Nat, n % m = (k : Int) ∧ (k : Int) < m := by
  have a0 := Int.emod_nonneg n (Int.ne_of_gt h)
  have a1 := Int.emod_lt_of_pos n h
  exact ⟨(n % m).toNat, by omega, by omega⟩
section
variable {K : PySem.W.Frag} {σ : L2.St} {H : Hp} {D : Ends} {tb : TS} {te : TE} {a b : Addr} {xs ys : List V} {j1 j2 : Nat} {Q : VK}
/-- for j1, j2 in enumerate(..), the list come to a -/
theorem enum_in (hx : SqL K H a xs) (Pv : Nat → L2.St → Hp → Prop) (h0 : Pv 0 σ H) (hl : ∀ i σ H, i ≤ xs.length → Pv i σ H → SqL K H a xs)
    (turn : ∀ i x σ H H', xs[i]? = some x → i < xs.length → Pv i σ H → Same H H' → tb { D with nx := Pv (i + 1), ct := Pv (i + 1), bk := D.nx } ((σ.set j1 (some (.int (i : Int)))).set j2 (some x)) H')
    (done : ∀ σ H, Pv xs.length σ H → D.nx σ H) :
    ∃ a' xs', [V.ref a] = [V.ref a'] ∧ SqL K H a' xs' ∧ ∃ W : Nat → Nat → L2.St → Hp → Prop, (∃ m, W 0 m σ H) ∧ ∀ i m σ H, W i m σ H → ((Ite K a').stop i H ∧ D.nx σ H) ∨ ((Ite K a').go i H ∧ ∃ N : L2.St → Hp → Prop,
      (∀ σ' H', N σ' H' → ∃ m', m' < m ∧ W (i + 1) m' σ' H') ∧ ∀ x H', (Ite K a').yld i H x H' → gTup K 2 (gCons (gName j1) (gCons (gName j2) gNil)) x σ H' fun σ2 H2 => tb { D with nx := N, ct := N, bk := D.nx } σ2 H2) := by
  refine ⟨a, xs, rfl, hx, it_for (n := xs.length) Pv h0 (fun i σ H hi p => ?_) (fun σ H p => ?_) (fun i σ H hi p v H' y => ?_) done⟩
  · obtain ⟨x, hx⟩ := get_of hi
    exact ⟨xs, x, hl i σ H (Nat.le_of_lt hi) p, hx⟩
  · exact ⟨xs, hl _ σ H (Nat.le_refl _) p, Nat.le_refl _⟩
  · obtain ⟨T, x, rfl, nT, rfl, f⟩ := y
    exact g2_run (.inl (.inl upd_same)) (turn i x σ H _ (f xs (hl i σ H (Nat.le_of_lt hi) p)) hi p (same_new nT))
/-- [.. for j1, j2 in zip(x, y)], lists at a and b of one length -/
theorem lc_zip2 {tt : TT} {k1 k2 : Nat} {vs : List Nat} (h1 : σ[k1]? = some (some (.ref a))) (h2 : σ[k2]? = some (some (.ref b))) (hx : SqL K H a xs) (hy : SqL K H b ys) (hz : xs.length = ys.length)
    (hvs : ∀ v w, wipe (((wipe σ vs).set j1 v).set j2 w) vs = wipe σ vs)
    (G : Addr → Nat → List V → Hp → Prop) (h0 : ∀ D, H D = none → G D 0 [] (upd H D (.lst []))) (hl : ∀ D i acc H', H D = none → G D i acc H' → SqL K H' a xs ∧ SqL K H' b ys)
    (turn : ∀ D i x y acc H' H2, H D = none → xs[i]? = some x → ys[i]? = some y → i < xs.length → H' D = some (.lst acc) → G D i acc H' → Same H' H2 → Turn tt te D (G D) i (((wipe σ vs).set j1 (some x)).set j2 (some y)) H2)
    (done : ∀ D acc H', H D = none → H' D = some (.lst acc) → G D xs.length acc H' → Q (.ref D) H') :
    tLc (iZip K (tCons (tVar k1) (tCons (tVar k2) tNil))) (gTup K 2 (gCons (gName j1) (gCons (gName j2) gNil))) tt te vs σ H Q := by
  refine ⟨.ref a, h1, .ref b, h2, a, b, xs, ys, rfl, hx, hy, fun D nD => ?_⟩
  refine it_lc (n := xs.length) (So D (G D)) ⟨[], upd_same, h0 D nD⟩ (fun i H' hi p => ?_) (fun H' p => ?_) (fun i H' hi p v H2 y => ?_) (fun H' p => ?_)
  · obtain ⟨acc, _, g⟩ := p
    obtain ⟨x, gx⟩ := get_of hi
    obtain ⟨y, gy⟩ := get_of (xs := ys) (i := i) (by omega)
    obtain ⟨q1, q2⟩ := hl D _ _ _ nD g
    exact ⟨xs, ys, x, y, q1, q2, gx, gy⟩
  · obtain ⟨acc, _, g⟩ := p
    obtain ⟨q1, q2⟩ := hl D _ _ _ nD g
    exact ⟨xs, ys, q1, q2, .inl (Nat.le_refl _)⟩
  · obtain ⟨acc, hD, g⟩ := p
    obtain ⟨T, x, y, rfl, nT, rfl, f1, f2⟩ := y
    obtain ⟨q1, q2⟩ := hl D _ _ _ nD g
    exact g2_run (.inl (.inl upd_same)) ⟨hvs _ _, turn D i x y acc H' _ nD (f1 xs q1) (f2 ys q2) hi hD g (same_new (o := .tup [x, y]) nT)⟩
  · obtain ⟨acc, hD, g⟩ := p
    exact done D acc H' nD hD g
end
theorem atI_end {α : Type} {xs : List α} {v : α} {n : Nat} (h : xs[n]? = some v) (hl : xs.length = n + 1) : atI xs (-1) = some v := by
  have lt : n < xs.length := by omega
  have e : xs = xs.take n ++ [v] := by
    have h1 : xs.take (n + 1) = xs := List.take_of_length_le (by omega)
    rw [List.take_add_one, h] at h1
    exact h1.symm
  rw [e]
  exact atI_last _ _
theorem eqv_refl2 {α β : Type} [DecidableEq α] [DecidableEq β] {ea : α → PyData} {eb : β → PyData} {k l : Nat} (h1 : Enc ea k) (h2 : Enc eb l) (x : α) (y : β) : PyData.eqv (.list [ea x, eb y]) (.list [ea x, eb y]) = true := by
  show (PyData.eqv (ea x) (ea x) && (PyData.eqv (eb y) (eb y) && true)) = true
  rw [h1.eq, h2.eq, decide_eq_true rfl, decide_eq_true rfl] <;> rfl
theorem shaped2 {α β : Type} [DecidableEq α] [DecidableEq β] {ea : α → PyData} {eb : β → PyData} {k l : Nat} (h1 : Enc ea k) (h2 : Enc eb l) (hk : k ≤ 63) (hl : l ≤ 63) (x : α) (y : β) : SeqAt.shaped (.list [ea x, eb y]) = true := by
  have e1 := h1.dep x
  have e2 := h2.dep y
  have d : PyData.depth (.list [ea x, eb y]) ≤ 64 := by
    show max (ea x).depth (max (eb y).depth 0) + 1 ≤ 64
    omega
  have l1 : PyData.canLay0 (.list [ea x, eb y]) = true := by
    show ((ea x).canLay0 && ((eb y).canLay0 && true)) = true
    rw [h1.lay, h2.lay] <;> rfl
  unfold SeqAt.shaped
  rw [l1, decide_eq_true d] <;> rfl
/-- isinstance(x, T) of a list of ours -/
theorem isi_lst {K : PySem.W.Frag} {H : Hp} {a : Addr} {xs : List V} {Q : VK} (h : H a = some (.lst xs)) (q : Q (.bl true) H) : rIsi K [.ref a, .ty "list"] H Q :=
  ⟨.ref a, .ty "list", .type "list", .type "list", true, rfl, .ty _, .base (.lst h), kit_ty (by decide +kernel), q⟩
theorem isi_int_bool {K : PySem.W.Frag} {H : Hp} {z : Int} {Q : VK} (q : Q (.bl false) H) : rIsi K [.int z, .ty "bool"] H Q :=
  ⟨.int z, .ty "bool", .type "int", .type "bool", false, rfl, .ty _, .base (.int z), kit_ty (by decide +kernel), q⟩
theorem isi_int_int {K : PySem.W.Frag} {H : Hp} {z : Int} {Q : VK} (q : Q (.bl true) H) : rIsi K [.int z, .ty "int"] H Q :=
  ⟨.int z, .ty "int", .type "int", .type "int", true, rfl, .ty _, .base (.int z), kit_ty (by decide +kernel), q⟩
end Sw

set_option Elab.async false
set_option linter.all false
set_option maxRecDepth 100000
set_option maxHeartbeats 4000000
namespace Sw
open PySem PySem.Spec PyProof.Rows L2
/-! ## Texts as lists of signs -/
def sg (x : Str) : List Nat := x.cps.toList
def tx (l : List Nat) : Str := ⟨l.toArray⟩
theorem sg_tx (l : List Nat) : sg (tx l) = l := rfl
theorem tx_sg (x : Str) : tx (sg x) = x := by
  obtain ⟨⟨l⟩⟩ := x
  rfl
theorem sg_inj {x y : Str} (h : sg x = sg y) : x = y := by rw [← tx_sg x, ← tx_sg y, h]
theorem sg_len (x : Str) : x.length = (sg x).length := by
  obtain ⟨⟨l⟩⟩ := x
  rfl
/-- where the sign c stands in l, counted from k -/
def hits (c : Nat) : List Nat → Nat → List Nat
  | [], _ => []
  | a :: l, k => if a = c then k :: hits c l (k + 1) else hits c l (k + 1)
open Builtin Builtin.Str in
theorem sub_one (x : Str) (c i : Nat) : (i + 1 ≤ x.length ∧ subAt x ⟨#[c]⟩ i = true) ↔ (sg x)[i]? = some c := by
  obtain ⟨⟨l⟩⟩ := x
  show (i + 1 ≤ l.length ∧ _) ↔ l[i]? = some c
  unfold subAt
  have e1 : (⟨#[c]⟩ : Str).length = 1 := rfl
  rw [e1]
  simp only [List.extract_toArray, beq_iff_eq]
  constructor
  · rintro ⟨h1, h2⟩
    have h3 : (List.extract l i (i + 1)) = [c] := by
      have := congrArg Array.toList h2
      simpa using this
    rw [List.extract_eq_drop_take] at h3
    have h4 : i < l.length := by omega
    rw [List.getElem?_eq_getElem h4]
    have h5 : (l.drop i).take (i + 1 - i) = [l[i]] := by
      rw [show i + 1 - i = 1 by omega, List.drop_eq_getElem_cons h4] <;> rfl
    rw [h5] at h3
    rw [List.cons.inj h3 |>.1]
  · intro h
    obtain ⟨h4, h5⟩ := List.getElem?_eq_some_iff.mp h
    refine ⟨by omega, ?_⟩
    have h6 : List.extract l i (i + 1) = [c] := by
      rw [List.extract_eq_drop_take, show i + 1 - i = 1 by omega, List.drop_eq_getElem_cons h4, h5] <;> rfl
    rw [h6]
open Builtin Builtin.Str in
theorem occ_run (x : Str) (c limit : Nat) : ∀ (r : List Nat) (k : Nat) (arr : Array Nat) (free : Nat), (sg x).drop k = r → free ≤ k →
    (forIn (List.range' k (r.length + 1)) (arr, free) (StrLaws.occBody x ⟨#[c]⟩ x.length limit)).run.fst.toList = arr.toList ++ (hits c r k).take (limit - arr.size)
  | [], k, arr, free, e, hf => by
    have hk : (sg x).length ≤ k := List.drop_eq_nil_iff.mp e
    rw [show List.range' k (([] : List Nat).length + 1) = [k] from rfl, List.forIn_cons]
    unfold StrLaws.occBody
    rw [if_neg (fun h => by
      have h2 : k + 1 ≤ x.length := h.1.2
      rw [sg_len] at h2
      omega)]
    show arr.toList = arr.toList ++ (hits c [] k).take (limit - arr.size)
    simp [hits]
  | a :: r, k, arr, free, e, hf => by
    have hk : (sg x)[k]? = some a := by
      have := congrArg (fun l => l[0]?) e
      simpa using this
    have e2 : (sg x).drop (k + 1) = r := by
      rw [← List.drop_drop, e] <;> rfl
    rw [show List.range' k ((a :: r).length + 1) = k :: List.range' (k + 1) (r.length + 1) from rfl, List.forIn_cons]
    unfold hits
    by_cases hc : a = c
    · subst hc
      rw [if_pos rfl]
      have h1 := (sub_one x a k).mpr hk
      by_cases hl : arr.size < limit
      · conv => lhs; unfold StrLaws.occBody
        rw [if_pos ⟨⟨⟨hl, hf⟩, h1.1⟩, h1.2⟩]
        have ih := occ_run x a limit r (k + 1) (arr.push k) (k + 1) e2 (Nat.le_refl _)
        refine Eq.trans ih ?_
        rw [Array.toList_push, Array.size_push, show limit - arr.size = (limit - (arr.size + 1)) + 1 by omega, List.take_succ_cons, List.append_assoc] <;> rfl
      · conv => lhs; unfold StrLaws.occBody
        rw [if_neg (fun h => hl h.1.1.1)]
        have ih := occ_run x a limit r (k + 1) arr free e2 (by omega)
        refine Eq.trans ih ?_
        rw [show limit - arr.size = 0 by omega, List.take_zero, List.take_zero]
    · rw [if_neg hc]
      conv => lhs; unfold StrLaws.occBody
      rw [if_neg (fun h => hc (Option.some.inj (hk.symm.trans ((sub_one x c k).mp ⟨h.1.2, h.2⟩))))]
      exact occ_run x c limit r (k + 1) arr free e2 (by omega)
theorem occ_sign (x : Str) (c limit : Nat) : Builtin.Str.occurrences x ⟨#[c]⟩ 0 x.length limit = (hits c (sg x) 0).take limit := by
  rw [StrLaws.occ_eq, sg_len, Nat.sub_zero]
  have h := occ_run x c limit (sg x) 0 #[] 0 rfl (Nat.le_refl _)
  rw [sg_len] at h
  simpa using h
theorem hits_len (c : Nat) : ∀ (l : List Nat) (k : Nat), (hits c l k).length ≤ l.length
  | [], _ => Nat.le_refl _
  | a :: l, k => by
    unfold hits
    have := hits_len c l (k + 1)
    split
    · rw [List.length_cons, List.length_cons]; omega
    · rw [List.length_cons]; omega
/-- l cut at each sign c -/
def cutOn (c : Nat) : List Nat → List (List Nat)
  | [] => [[]]
  | a :: l => if a = c then [] :: cutOn c l else match cutOn c l with
    | h :: t => (a :: h) :: t
    | [] => [[a]]
theorem cutOn_ne (c : Nat) : ∀ l, cutOn c l ≠ []
  | [] => by simp [cutOn]
  | a :: l => by
    unfold cutOn
    split
    · simp
    · split <;> simp
/-- p ahead of the first part -/
def ahead (p : List Nat) : List (List Nat) → List (List Nat)
  | h :: t => (p ++ h) :: t
  | [] => [p]
theorem extract_sg (x : Str) (i j : Nat) : sg (Builtin.Str.strSub x i j) = ((sg x).drop i).take (j - i) := by
  obtain ⟨⟨l⟩⟩ := x
  show (Array.extract l.toArray i j).toList = _
  rw [List.extract_toArray, List.extract_eq_drop_take] <;> rfl
theorem parts_run (x : Str) (c : Nat) : ∀ (r : List Nat) (s k : Nat), (sg x).drop k = r → s ≤ k →
    (((s :: (hits c r k).map (· + 1)).zip (hits c r k ++ [x.length])).map fun (q : Nat × Nat) => sg (Builtin.Str.strSub x q.1 q.2)) = ahead (((sg x).drop s).take (k - s)) (cutOn c r)
  | [], s, k, e, hs => by
    have hk : (sg x).length ≤ k := List.drop_eq_nil_iff.mp e
    show [sg (Builtin.Str.strSub x s x.length)] = [((sg x).drop s).take (k - s) ++ []]
    rw [extract_sg, sg_len, List.append_nil, List.take_of_length_le (by rw [List.length_drop]; omega), List.take_of_length_le (by rw [List.length_drop]; omega)]
  | a :: r, s, k, e, hs => by
    have hk : (sg x)[k]? = some a := by
      have := congrArg (fun l => l[0]?) e
      simpa using this
    have e2 : (sg x).drop (k + 1) = r := by
      rw [← List.drop_drop, e] <;> rfl
    unfold hits cutOn
    by_cases hc : a = c
    · rw [if_pos hc, if_pos hc]
      have ih := parts_run x c r (k + 1) (k + 1) e2 (Nat.le_refl _)
      show sg (Builtin.Str.strSub x s k) :: ((((k + 1) :: (hits c r (k + 1)).map (· + 1)).zip (hits c r (k + 1) ++ [x.length])).map fun (q : Nat × Nat) => sg (Builtin.Str.strSub x q.1 q.2)) = _
      rw [ih, extract_sg, Nat.sub_self, List.take_zero]
      show _ = (((sg x).drop s).take (k - s) ++ []) :: cutOn c r
      rw [List.append_nil]
      congr 1
      have := cutOn_ne c r
      revert this
      cases cutOn c r with
      | nil => intro h; exact absurd rfl h
      | cons h t => intro _; rfl
    · rw [if_neg hc, if_neg hc]
      have ih := parts_run x c r s (k + 1) e2 (by omega)
      rw [ih]
      have pre : ((sg x).drop s).take (k + 1 - s) = ((sg x).drop s).take (k - s) ++ [a] := by
        rw [show k + 1 - s = (k - s) + 1 by omega, List.take_add_one]
        congr 1
        rw [List.getElem?_drop, show s + (k - s) = k by omega, hk] <;> rfl
      rw [pre]
      have := cutOn_ne c r
      revert this
      cases cutOn c r with
      | nil => intro h; exact absurd rfl h
      | cons h t =>
        intro _
        show ((((sg x).drop s).take (k - s) ++ [a]) ++ h) :: t = (((sg x).drop s).take (k - s) ++ (a :: h)) :: t
        rw [List.append_assoc] <;> rfl
/-- text.split(sign) -/
theorem split_sign (x : Str) (c : Nat) (hc : c < 256) : (Txt.split x ⟨#[c]⟩).map sg = cutOn c (sg x) := by
  have kind : Builtin.Str.strKind (⟨#[c]⟩ : Str) = 1 := by
    unfold Builtin.Str.strKind
    rw [if_pos (by simp [hc])]
  have pos : ∀ y : Str, 1 ≤ Builtin.Str.strKind y := fun y => by
    unfold Builtin.Str.strKind
    split
    · exact Nat.le_refl _
    · split <;> decide
  have many : (hits c (sg x) 0).take (x.length + 1) = hits c (sg x) 0 := List.take_of_length_le (by rw [sg_len]; exact Nat.le_succ_of_le (hits_len c _ 0))
  have run := parts_run x c (sg x) 0 0 rfl (Nat.le_refl _)
  have start : ahead (((sg x).drop 0).take (0 - 0)) (cutOn c (sg x)) = cutOn c (sg x) := by
    rw [Nat.sub_self, List.take_zero]
    have := cutOn_ne c (sg x)
    revert this
    cases cutOn c (sg x) with
    | nil => intro h; exact absurd rfl h
    | cons h t => intro _; rfl
  rw [start] at run
  unfold Txt.split
  rw [occ_sign, many]
  have zero : hits c (sg x) 0 = [] → [x].map sg = cutOn c (sg x) := fun h => by
    rw [h] at run
    rw [← run]
    show [sg x] = [sg (Builtin.Str.strSub x 0 x.length)]
    rw [extract_sg, List.drop_zero, Nat.sub_zero, sg_len, List.take_length]
  split
  · rename_i h
    have h2 : x.length < 1 := by
      have h3 := pos x
      simp only [Bool.or_eq_true, decide_eq_true_eq] at h
      rcases h with h | h
      · exact h
      · rw [kind] at h
        omega
    refine zero ?_
    have := hits_len c (sg x) 0
    rw [← sg_len] at this
    exact List.eq_nil_of_length_eq_zero (by omega)
  · split
    · rename_i h
      refine zero ?_
      simpa using h
    · unfold Builtin.Str.partsBetween
      rw [List.map_map]
      exact run
/-- text.partition(sign) -/
def part1 (c : Nat) : List Nat → List Nat × Bool × List Nat
  | [] => ([], false, [])
  | a :: l => if a = c then ([], true, l) else (a :: (part1 c l).1, (part1 c l).2.1, (part1 c l).2.2)
theorem hits_head (c : Nat) : ∀ (l : List Nat) (k : Nat), (hits c l k = [] → part1 c l = (l, false, [])) ∧ ∀ i t, hits c l k = i :: t → k ≤ i ∧ part1 c l = (l.take (i - k), true, l.drop (i - k + 1))
  | [], k => ⟨fun _ => rfl, fun i t h => nomatch h⟩
  | a :: l, k => by
    have ih := hits_head c l (k + 1)
    unfold hits part1
    by_cases hc : a = c
    · rw [if_pos hc, if_pos hc]
      refine ⟨(fun h => nomatch h), fun i t h => ?_⟩
      obtain ⟨rfl, rfl⟩ := List.cons.inj h
      refine ⟨Nat.le_refl _, ?_⟩
      rw [Nat.sub_self] <;> rfl
    · rw [if_neg hc, if_neg hc]
      refine ⟨fun h => ?_, fun i t h => ?_⟩
      · rw [ih.1 h]
      · obtain ⟨h1, h2⟩ := ih.2 i t h
        refine ⟨by omega, ?_⟩
        rw [h2, show i - k = (i - (k + 1)) + 1 by omega, List.take_succ_cons, List.drop_succ_cons]
theorem partition_sign (x : Str) (c : Nat) : sg (Txt.partition x ⟨#[c]⟩).1 = (part1 c (sg x)).1 ∧ (Txt.partition x ⟨#[c]⟩).2.1 = (if (part1 c (sg x)).2.1 = true then ⟨#[c]⟩ else Str.empty) ∧ sg (Txt.partition x ⟨#[c]⟩).2.2 = (part1 c (sg x)).2.2 := by
  have hh := hits_head c (sg x) 0
  unfold Txt.partition
  rw [occ_sign]
  cases e : hits c (sg x) 0 with
  | nil =>
    rw [List.take_nil, hh.1 e]
    exact ⟨rfl, rfl, rfl⟩
  | cons i t =>
    rw [List.take_succ_cons]
    obtain ⟨_, h2⟩ := hh.2 i t e
    rw [Nat.sub_zero] at h2
    rw [h2]
    refine ⟨?_, rfl, ?_⟩
    · show sg (Builtin.Str.strSub x 0 i) = _
      rw [extract_sg, List.drop_zero, Nat.sub_zero]
    · show sg (Builtin.Str.strSub x (i + 1) x.length) = _
      rw [extract_sg, sg_len, List.take_of_length_le (by rw [List.length_drop]; exact Nat.le_refl _)]
end Sw

set_option Elab.async false
set_option linter.all false
set_option maxRecDepth 100000
set_option maxHeartbeats 4000000
namespace Sw
open PySem PySem.Spec PyProof.Rows L2
/-! ## x * n of a text -/
def repS (z : Str) (k : Nat) : Str := tx (List.replicate k (sg z)).flatten
theorem fold_app (x : Array Nat) : ∀ (k : Nat) (a : Array Nat), ((List.replicate k x).foldl (· ++ ·) a).toList = a.toList ++ (List.replicate k x.toList).flatten
  | 0, a => by simp
  | k + 1, a => by
    rw [List.replicate_succ, List.foldl_cons, fold_app x k (a ++ x), List.replicate_succ, List.flatten_cons, Array.toList_append, List.append_assoc]
theorem len_flat (l : List Nat) : ∀ k : Nat, (List.replicate k l).flatten.length = l.length * k
  | 0 => by simp
  | k + 1 => by
    rw [List.replicate_succ, List.flatten_cons, List.length_append, len_flat l k, Nat.mul_succ]
    omega
def rMulS : R2 := fun x y H Q => ∃ (z : Str) (n : Nat), x = .str z ∧ y = .int (n : Int) ∧ n ≤ 1000 ∧ z.length ≤ 10000 ∧ Q (.str (repS z n)) H
theorem op_mulS {X : Cx} : OpR X (binaryOp .Mult) rMulS := by
  intro pins s σ H x y v u Q I rx ry h
  obtain ⟨z, n, rfl, rfl, hn, hz, q⟩ := h
  obtain ⟨t, rfl⟩ := rx
  obtain ⟨t', rfl⟩ := ry
  have few : z.length * n ≤ 10000000 := Nat.le_trans (Nat.mul_le_mul hz hn) (by decide)
  refine P.mul_str ?_ (fun h1 h2 => ?_) (fun h1 h2 => ?_) ?_
  · rw [decide_eq_false (by omega), decide_eq_false (by omega)] <;> rfl
  · intro h3
    have h4 : ((z.length : Int) + 1) * (n : Int) ≤ 2 ^ 63 - 1 := by
      have h5 : (((z.length + 1) * n : Nat) : Int) ≤ 10001000 := by
        have := Nat.mul_le_mul (show z.length + 1 ≤ 10001 by omega) hn
        omega
      have h6 : ((z.length : Int) + 1) * (n : Int) = (((z.length + 1) * n : Nat) : Int) := by
        rw [Int.natCast_mul] <;> rfl
      rw [h6]
      omega
    have := Int.le_ediv_of_mul_le (by omega) h4
    omega
  · unfold Builtin.Str.tooLong
    rw [Int.toNat_natCast]
    simp only [decide_eq_false_iff_not, gt_iff_lt]
    have := sizeLine_eq
    omega
  · rw [Int.toNat_natCast]
    have e0 : n < 1 → repS z n = Str.empty := fun h => by
      have : n = 0 := by omega
      subst this
      rfl
    split
    · rename_i h
      refine ⟨by decide, ?_⟩
      rw [e0 (by omega)] at q
      exact ⟨.str Str.empty, H, I.tok _, ⟨_, rfl⟩, q⟩
    · split
      · rename_i h1 h2
        have e : repS z n = z := by
          rcases Bool.or_eq_true_iff.mp h2 with h3 | h3
          · have : n = 1 := by
              have := beq_iff_eq.mp h3
              omega
            subst this
            show tx ([sg z].flatten) = z
            rw [List.flatten_singleton, tx_sg]
          · have hl := beq_iff_eq.mp h3
            rw [sg_len] at hl
            have hs : sg z = [] := List.length_eq_zero_iff.mp hl
            apply sg_inj
            unfold repS
            rw [sg_tx, hs]
            simp
        rw [e] at q
        exact ⟨.str z, H, I, ⟨t, rfl⟩, q⟩
      · have e : (⟨(List.replicate n z.cps).foldl (· ++ ·) #[]⟩ : Str) = repS z n := by
          apply sg_inj
          unfold repS
          rw [sg_tx]
          show ((List.replicate n z.cps).foldl (· ++ ·) #[]).toList = _
          rw [fold_app] <;> rfl
        rw [e]
        refine ⟨?_, ?_⟩
        · unfold repS
          rw [sg_len, sg_tx, len_flat, ← sg_len]
          have := sizeLine_eq
          omega
        · exact ⟨.str (repS z n), H, I.tok _, ⟨_, rfl⟩, q⟩
/-! ## names of classes -/
section
variable {X : Cx}
theorem pe_cls {x : Str} {pos : Pos} (h : X.mg x = some (.ref (He.ga X.K x))) (hg : Gl X x) (hd : (x == ("__debug__" : Str)) = false := by decide) : PE X (.Name x pos) (tC (.ref (He.ga X.K x))) := pe_glob hg h rfl hd
theorem nm_cls {x : Str} (h : X.mg x = some (.ref (He.ga X.K x))) (hg : Gl X x) (hd : (x == ("__debug__" : Str)) = false := by decide) : Names X x (.ref (He.ga X.K x)) := ⟨hg, hd, .inl h⟩
end
/-! ## readings of trys -/
def tTryT (K : PySem.W.Frag) (c1 c2 : Value) (tb : WX → TS) (ts : Addr → Value → Option Addr → TS) : TS := fun D σ H => tb (wTup K c1 c2 ts D) D σ H
def tTryK (K : PySem.W.Frag) (c : Value) (i : Nat) (tb : WX → TS) (ts : Addr → Value → Option Addr → TS) : TS := fun D σ H => tb (wKeep K c i ts D) D σ H
def tJoin (ts : List TE) : TE := fun σ H Q => tJs ts Str.empty σ H fun out H1 => Q (.str out) H1
def kStrI : List V → Hp → VK → Prop := fun xs H Q => ∃ i : Int, xs = [.int i] ∧ i.natAbs.log2 < 1920 ∧ Q (.str (toString i)) H
def kIntS : List V → Hp → VK → Prop := fun xs H Q => ∃ (a : Str) (n : Int), xs = [.str a] ∧ PySem.intText? a = some n ∧ a.length ≤ 640 ∧ Q (.int n) H
def kLenS : List V → Hp → VK → Prop := fun xs H Q => ∃ z : Str, xs = [.str z] ∧ z.length ≤ sizeLine ∧ Q (.int z.length) H
def mSplit : V → List V → Hp → VK → Prop := fun x xs H Q => ∃ a b : Str, x = .str a ∧ xs = [.str b] ∧ (b.length == 0) = false ∧ a.length + 2 ≤ sizeLine ∧ rNewStrs (Txt.split a b) H Q
def mPart : V → List V → Hp → VK → Prop := fun x xs H Q => ∃ a b : Str, x = .str a ∧ xs = [.str b] ∧ (b.length == 0) = false ∧ a.length ≤ sizeLine ∧ ∀ p, H p = none → Q (.ref p) (upd H p (.tup [.str (Txt.partition a b).1, .str (Txt.partition a b).2.1, .str (Txt.partition a b).2.2]))
def mJoin (K : PySem.W.Frag) : V → List V → Hp → VK → Prop := fun x xs H Q => ∃ a p, ∃ ys : List Str, x = .str a ∧ xs = [.ref p] ∧ (SqL K H p (ys.map V.str) ∨ SqT K H p (ys.map V.str)) ∧ (ys.map (·.length)).sum + ys.length * a.length ≤ 16777216 ∧ Q (.str (Txt.join a ys)) H
def mIndex : V → List V → Hp → VK → Prop := fun x xs H Q => ∃ (a b : Str) (i : Nat) (rest : List Nat), x = .str a ∧ xs = [.str b] ∧ Builtin.Str.occurrences a b 0 a.length 1 = i :: rest ∧ Q (.int (i : Int)) H
def oNotInC : R2 := fun x y H Q => ∃ (c : Nat) (z : Str), x = .str ⟨#[c]⟩ ∧ y = .str z ∧ Q (.bl (!decide (c ∈ sg z))) H
def oInC : R2 := fun x y H Q => ∃ (c : Nat) (z : Str), x = .str ⟨#[c]⟩ ∧ y = .str z ∧ Q (.bl (decide (c ∈ sg z))) H
section
variable {X : Cx}
theorem op_inC : OpR X (compareOp .In) oInC := op_in_sign
theorem cl_strI : CallR X (.type "str") kStrI := call_str_int
theorem cl_lenS : CallR X (.builtin "len") kLenS := call_len_str
theorem cl_intS : CallR X (.type "int") kIntS := call_int_str
theorem md_split : MtR X "str.split" mSplit := mt_split
theorem md_part : MtR X "str.partition" mPart := mt_partition
theorem md_join : MtR X "str.join" (mJoin X.K) := mt_join
theorem md_index : MtR X "str.index" mIndex := mt_sindex
theorem op_notInC : OpR X (compareOp .NotIn) oNotInC := op_notIn_sign
end
/-! ## an error's __init__ -/
def InitOk (P : Program) (w : World) (K : PySem.W.Frag) (mg : Str → Option Value) (base : Heap) (k : Nat) (x f : Str) : Prop := ∃ fd : FuncData, FnOk P w K mg base CX0 k (He.ma K (He.ga K x) "__init__") fd ["self", f] (spInit K (He.ga K x) f) ∧ Binds K fd ["self", f] []
end Sw

set_option Elab.async false
set_option linter.all false
set_option maxRecDepth 100000
set_option maxHeartbeats 4000000
namespace Sw
open PySem PySem.Spec PyProof.Rows L2 PySem.NumText
/-! ## Numbers as signs -/
def numT (k : Nat) : List Nat := if k < 10 then [48 + k] else [49, 48]
theorem num_str : ∀ k : Nat, k ≤ 10 → sg (Str.ofString (toString (k : Int))) = numT k
  | 0, _ => by decide +kernel
  | 1, _ => by decide +kernel
  | 2, _ => by decide +kernel
  | 3, _ => by decide +kernel
  | 4, _ => by decide +kernel
  | 5, _ => by decide +kernel
  | 6, _ => by decide +kernel
  | 7, _ => by decide +kernel
  | 8, _ => by decide +kernel
  | 9, _ => by decide +kernel
  | 10, _ => by decide +kernel
  | k + 11, h => by omega
theorem num_inj {j k : Nat} (hj : j ≤ 10) (hk : k ≤ 10) (h : numT j = numT k) : j = k := by
  unfold numT at h
  split at h <;> split at h <;> simp at h <;> omega
theorem num_sign {k : Nat} (hk : k ≤ 10) : ∀ c ∈ numT k, 48 ≤ c ∧ c ≤ 57 := by
  unfold numT
  split <;> simp <;> omega
theorem num_ne (k : Nat) : numT k ≠ [] := by
  unfold numT
  split <;> simp
theorem num_len (k : Nat) : (numT k).length ≤ 2 := by
  unfold numT
  split <;> simp
/-- the number from 0 to 10 that the word is the figures of -/
def readN (w : List Nat) : Option Nat := (List.range 11).find? fun k => decide (w = numT k)
theorem readN_some {w : List Nat} {k : Nat} (h : readN w = some k) : k ≤ 10 ∧ w = numT k := by
  have h1 := List.find?_some h
  have h2 := List.mem_of_find?_eq_some h
  exact ⟨by have := List.mem_range.mp h2; omega, of_decide_eq_true h1⟩
theorem readN_none {w : List Nat} (h : readN w = none) (k : Nat) (hk : k ≤ 10) : w ≠ numT k := fun e => by
  have := List.find?_eq_none.mp h k (List.mem_range.mpr (by omega))
  exact this (decide_eq_true e)
theorem readN_of {w : List Nat} {k : Nat} (hk : k ≤ 10) (e : w = numT k) : readN w = some k := by
  cases h : readN w with
  | none => exact absurd e (readN_none h k hk)
  | some j =>
    obtain ⟨h1, h2⟩ := readN_some h
    rw [num_inj h1 hk (h2.symm.trans e)]
theorem readN_num {k : Nat} (hk : k ≤ 10) : readN (numT k) = some k := readN_of hk rfl
/-- the law's own reading -/
def isFig (c : Nat) : Bool := decide (48 ≤ c ∧ c ≤ 57)
def lawN (w : List Nat) : Option Nat := if (1 ≤ w.length ∧ w.length ≤ 2) ∧ w.all isFig = true then (if w.length = 2 ∧ w.head? = some 48 then none else some (digitsVal w)) else none
theorem lawN_one (a : Nat) : lawN [a] = if isFig a = true then some (a - 48) else none := by
  unfold lawN isFig digitsVal
  simp
theorem lawN_two (a b : Nat) : lawN [a, b] = if isFig a = true ∧ isFig b = true ∧ a ≠ 48 then some ((a - 48) * 10 + (b - 48)) else none := by
  unfold lawN isFig digitsVal
  by_cases h1 : 48 ≤ a ∧ a ≤ 57 <;> by_cases h2 : 48 ≤ b ∧ b ≤ 57 <;> by_cases h3 : a = 48 <;> simp [h1, h2, h3]
theorem law_read {w : List Nat} {k : Nat} (h : readN w = some k) : lawN w = some k := by
  obtain ⟨h1, rfl⟩ := readN_some h
  unfold numT
  split
  · rename_i h2
    rw [lawN_one, if_pos (show isFig (48 + k) = true from decide_eq_true (by omega))]
    congr 1
    omega
  · have : k = 10 := by omega
    subst this
    rw [lawN_two, if_pos ⟨by decide, by decide, by decide⟩]
theorem read_law {w : List Nat} {k : Nat} (h : lawN w = some k) (hk : k ≤ 10) : readN w = some k := by
  apply readN_of hk
  match w with
  | [] => unfold lawN at h; simp at h
  | [a] =>
    rw [lawN_one] at h
    split at h
    · rename_i h1
      have h2 := of_decide_eq_true h1
      have h3 := Option.some.inj h
      unfold numT
      rw [if_pos (by omega)]
      congr 1
      omega
    · cases h
  | [a, b] =>
    rw [lawN_two] at h
    split at h
    · rename_i h1
      have h2 := of_decide_eq_true h1.1
      have h4 := of_decide_eq_true h1.2.1
      have h5 := h1.2.2
      have h3 := Option.some.inj h
      have h6 : k = 10 := by omega
      have h7 : a = 49 := by omega
      have h8 : b = 48 := by omega
      rw [h6, h7, h8] <;> rfl
    · cases h
  | _ :: _ :: _ :: l => unfold lawN at h; simp at h
theorem law_none {w : List Nat} (h : readN w = none) : ∀ k, lawN w = some k → 10 < k := fun k e => by
  by_cases hk : k ≤ 10
  · rw [read_law e hk] at h
    cases h
  · omega
/-! ## cutting -/
theorem cut_same (c : Nat) (l : List Nat) : cutOn c (c :: l) = [] :: cutOn c l := by
  show (if c = c then _ else _) = _
  rw [if_pos rfl]
theorem cut_other {c a : Nat} (h : a ≠ c) (l : List Nat) : cutOn c (a :: l) = match cutOn c l with
    | h :: t => (a :: h) :: t
    | [] => [[a]] := by
  show (if a = c then _ else _) = _
  rw [if_neg h] <;> rfl
theorem part_same (c : Nat) (l : List Nat) : part1 c (c :: l) = ([], true, l) := by
  show (if c = c then _ else _) = _
  rw [if_pos rfl]
theorem part_other {c a : Nat} (h : a ≠ c) (l : List Nat) : part1 c (a :: l) = (a :: (part1 c l).1, (part1 c l).2.1, (part1 c l).2.2) := by
  show (if a = c then _ else _) = _
  rw [if_neg h]
theorem cut_part (c : Nat) : ∀ w : List Nat, cutOn c w = if (part1 c w).2.1 = true then (part1 c w).1 :: cutOn c (part1 c w).2.2 else [(part1 c w).1]
  | [] => rfl
  | a :: l => by
    have ih := cut_part c l
    by_cases h : a = c
    · rw [h, cut_same, part_same, if_pos rfl]
    · rw [cut_other h, part_other h, ih]
      cases (part1 c l).2.1 <;> rfl
theorem part_no {c : Nat} : ∀ {w : List Nat}, (∀ a ∈ w, a ≠ c) → part1 c w = (w, false, [])
  | [], _ => rfl
  | a :: l, h => by
    unfold part1
    rw [if_neg (h a List.mem_cons_self), part_no fun b hb => h b (List.mem_cons_of_mem _ hb)]
theorem part_at {c : Nat} {t : List Nat} : ∀ {w : List Nat}, (∀ a ∈ w, a ≠ c) → part1 c (w ++ c :: t) = (w, true, t)
  | [], _ => by
    show (if c = c then _ else _) = _
    rw [if_pos rfl]
  | a :: l, h => by
    rw [List.cons_append, part_other (h a List.mem_cons_self), part_at (w := l) fun b hb => h b (List.mem_cons_of_mem _ hb)]
theorem part_off {c : Nat} : ∀ {w : List Nat}, (part1 c w).2.1 = false → (part1 c w).2.2 = []
  | [], _ => rfl
  | a :: l, h => by
    unfold part1 at h ⊢
    by_cases e : a = c
    · rw [if_pos e] at h
      cases h
    · rw [if_neg e] at h ⊢
      exact part_off (w := l) h
theorem part_in {c : Nat} : ∀ {w : List Nat}, (part1 c w).2.1 = decide (c ∈ w)
  | [] => by simp [part1]
  | a :: l => by
    unfold part1
    by_cases e : a = c
    · rw [if_pos e]
      simp [e]
    · rw [if_neg e, part_in (w := l)]
      simp [Ne.symm e]
theorem part_len (c : Nat) : ∀ w : List Nat, (part1 c w).1.length ≤ w.length ∧ (part1 c w).2.2.length ≤ w.length
  | [] => ⟨Nat.le_refl _, Nat.le_refl _⟩
  | a :: l => by
    have ih := part_len c l
    unfold part1
    split
    · exact ⟨by simp, by simp⟩
    · exact ⟨by simp; omega, by simp; omega⟩
theorem cut_no {c : Nat} {w : List Nat} (h : ∀ a ∈ w, a ≠ c) : cutOn c w = [w] := by
  rw [cut_part, part_no h] <;> rfl
theorem cut_mem (c : Nat) : ∀ (w : List Nat) (u : List Nat), u ∈ cutOn c w → u.length ≤ w.length
  | [], u, h => by
    unfold cutOn at h
    rw [List.mem_singleton.mp h] <;> exact Nat.le_refl _
  | a :: l, u, h => by
    have ih := cut_mem c l
    unfold cutOn at h
    split at h
    · rcases List.mem_cons.mp h with e | h
      · rw [e]; exact Nat.zero_le _
      · exact Nat.le_trans (ih u h) (by simp)
    · cases e : cutOn c l with
      | nil => exact absurd e (cutOn_ne c l)
      | cons x t =>
        rw [e] at h ih
        rcases List.mem_cons.mp h with e2 | h
        · rw [e2]
          have := ih x List.mem_cons_self
          simp
          exact this
        · exact Nat.le_trans (ih u (List.mem_cons_of_mem _ h)) (by simp)
theorem cut_count (c : Nat) : ∀ w : List Nat, (cutOn c w).length ≤ w.length + 1
  | [] => Nat.le_refl _
  | a :: l => by
    have ih := cut_count c l
    unfold cutOn
    split
    · simp; omega
    · cases e : cutOn c l with
      | nil => exact absurd e (cutOn_ne c l)
      | cons x t =>
        rw [e] at ih
        simp at ih ⊢
        omega
/-! ## Comparers and webs as texts -/
def pairOk (n : Nat) : Option Nat → Option Nat → Option Cmp
  | some a, some b => if a < n ∧ b < n ∧ a ≠ b then some (a, b) else none
  | _, _ => none
def readC (n : Nat) (w : List Nat) : Option Cmp := pairOk n (readN (part1 45 w).1) (readN (part1 45 w).2.2)
def lawC (n : Nat) (w : List Nat) : Option Cmp := match cutOn 45 w with
  | [u, v] => pairOk n (lawN u) (lawN v)
  | _ => none
theorem pair_eq {n : Nat} (hn : n ≤ 10) (u v : List Nat) : pairOk n (lawN u) (lawN v) = pairOk n (readN u) (readN v) := by
  have one : ∀ w : List Nat, (∃ k, lawN w = some k ∧ readN w = some k ∧ k ≤ 10) ∨ (readN w = none ∧ (lawN w = none ∨ ∃ k, lawN w = some k ∧ 10 < k)) := fun w => by
    cases e : readN w with
    | some k => exact .inl ⟨k, law_read e, rfl, (readN_some e).1⟩
    | none =>
      refine .inr ⟨rfl, ?_⟩
      cases e2 : lawN w with
      | none => exact .inl rfl
      | some k => exact .inr ⟨k, rfl, law_none e k e2⟩
  rcases one u with ⟨a, h1, h2, _⟩ | ⟨h2, h1 | ⟨a, h1, h3⟩⟩ <;> rcases one v with ⟨b, g1, g2, _⟩ | ⟨g2, g1 | ⟨b, g1, g3⟩⟩ <;> rw [h1, h2, g1, g2]
  all_goals try rfl
  all_goals
    show (if _ then _ else _) = _
    rw [if_neg (by omega)] <;> rfl
theorem law_cmp {n : Nat} (hn : n ≤ 10) (w : List Nat) : lawC n w = readC n w := by
  unfold lawC readC
  rw [cut_part]
  cases e : (part1 45 w).2.1 with
  | false =>
    rw [part_off e]
    have : readN [] = none := by decide
    rw [this, if_neg (by simp)]
    cases readN (part1 45 w).1 <;> rfl
  | true =>
    rw [if_pos rfl, cut_part]
    cases e2 : (part1 45 (part1 45 w).2.2).2.1 with
    | false =>
      rw [if_neg (by simp)]
      have h : part1 45 (part1 45 w).2.2 = ((part1 45 w).2.2, false, []) := by
        have hh : ∀ a ∈ (part1 45 w).2.2, a ≠ 45 := fun a ha z => by
          rw [part_in] at e2
          exact of_decide_eq_false e2 (z ▸ ha)
        exact part_no hh
      rw [h]
      exact pair_eq hn _ _
    | true =>
      rw [if_pos rfl]
      have hne := cutOn_ne 45 (part1 45 (part1 45 w).2.2).2.2
      have none2 : readN (part1 45 w).2.2 = none := by
        cases q : readN (part1 45 w).2.2 with
        | none => rfl
        | some k =>
          obtain ⟨h1, h2⟩ := readN_some q
          have h3 : (45 : Nat) ∈ (part1 45 w).2.2 := by
            rw [part_in] at e2
            exact of_decide_eq_true e2
          rw [h2] at h3
          have := num_sign h1 45 h3
          omega
      rw [none2]
      cases q : cutOn 45 (part1 45 (part1 45 w).2.2).2.2 with
      | nil => exact absurd q hne
      | cons x t => cases readN (part1 45 w).1 <;> rfl
def getAll {α β : Type} (f : α → Option β) : List α → Option (List β)
  | [] => some []
  | a :: l => match f a, getAll f l with
    | some b, some r => some (b :: r)
    | _, _ => none
theorem getAll_some {α β : Type} {f : α → Option β} : ∀ {l : List α} {r : List β}, getAll f l = some r → All2 (fun a b => f a = some b) l r
  | [], r, h => by
    cases h
    exact .nil
  | a :: l, r, h => by
    unfold getAll at h
    split at h
    · rename_i b r' h1 h2
      cases h
      exact .cons h1 (getAll_some h2)
    · cases h
theorem getAll_none {α β : Type} {f : α → Option β} : ∀ {l : List α}, getAll f l = none → ∃ (k : Nat) (a : α), l[k]? = some a ∧ f a = none ∧ ∀ i < k, ∃ (b : α) (c : β), l[i]? = some b ∧ f b = some c
  | [], h => by cases h
  | a :: l, h => by
    unfold getAll at h
    cases e : f a with
    | none => exact ⟨0, a, rfl, e, fun i hi => absurd hi (Nat.not_lt_zero i)⟩
    | some b =>
      rw [e] at h
      cases e2 : getAll f l with
      | some r => rw [e2] at h; cases h
      | none =>
        obtain ⟨k, x, h1, h2, h3⟩ := getAll_none e2
        refine ⟨k + 1, x, h1, h2, fun i hi => ?_⟩
        cases i with
        | zero => exact ⟨a, b, rfl, e⟩
        | succ i => exact h3 i (by omega)
theorem getAll_of {α β : Type} {f : α → Option β} {l : List α} {r : List β} (h : All2 (fun a b => f a = some b) l r) : getAll f l = some r := by
  induction h with
  | nil => rfl
  | cons h1 _ ih =>
    unfold getAll
    rw [h1, ih]
theorem getAll_congr {α β : Type} {f g : α → Option β} (h : ∀ a, f a = g a) (l : List α) : getAll f l = getAll g l := by
  have : f = g := funext h
  rw [this]
/-- the web that a text writes -/
def tailW (n : Nat) (t : List Nat) : Option (List Cmp) := match cutOn 32 t with
  | [] :: ws => if ws.length ≤ 60 then getAll (readC n) ws else none
  | _ => none
def readW (x : List Nat) : Option (Nat × List Cmp) := if (part1 58 x).2.1 = true then match readN (part1 58 x).1 with
  | some n => if 1 ≤ n then (tailW n (part1 58 x).2.2).map fun cs => (n, cs) else none
  | none => none
  else none
def cmpT (c : Cmp) : List Nat := numT c.1 ++ 45 :: numT c.2
def tailT (cs : List Cmp) : List Nat := (cs.map fun c => 32 :: cmpT c).flatten
def webT (n : Nat) (cs : List Cmp) : List Nat := numT n ++ 58 :: tailT cs
def webTx (n : Nat) (cs : List Cmp) : Str := tx (webT n cs)
theorem cmp_sign {c : Cmp} (h1 : c.1 ≤ 10) (h2 : c.2 ≤ 10) : ∀ a ∈ cmpT c, a ≠ 32 ∧ a ≠ 58 := by
  intro a ha
  rcases List.mem_append.mp ha with h | h
  · have := num_sign h1 a h
    omega
  · rcases List.mem_cons.mp h with h | h
    · omega
    · have := num_sign h2 a h
      omega
theorem readC_cmp {n : Nat} {c : Cmp} (hn : n ≤ 10) (h : CmpOk n c) : readC n (cmpT c) = some c := by
  obtain ⟨h1, h2, h3⟩ := h
  have e : part1 45 (cmpT c) = (numT c.1, true, numT c.2) := part_at fun a ha z => by
    have := num_sign (show c.1 ≤ 10 by omega) a ha
    omega
  unfold readC
  rw [e, readN_num (by omega), readN_num (by omega)]
  show (if _ then _ else _) = _
  rw [if_pos ⟨h1, h2, h3⟩]
theorem cut_app {c : Nat} {t : List Nat} : ∀ {w : List Nat}, (∀ a ∈ w, a ≠ c) → cutOn c (w ++ c :: t) = w :: cutOn c t := fun {w} h => by
  rw [cut_part, part_at h] <;> rfl
theorem cut_tail : ∀ cs : List Cmp, (∀ c ∈ cs, c.1 ≤ 10 ∧ c.2 ≤ 10) → cutOn 32 (tailT cs) = [] :: cs.map cmpT
  | [], _ => rfl
  | c :: cs, h => by
    have hc := h c List.mem_cons_self
    have ih := cut_tail cs fun d hd => h d (List.mem_cons_of_mem _ hd)
    have no : ∀ a ∈ cmpT c, a ≠ 32 := fun a ha => (cmp_sign hc.1 hc.2 a ha).1
    show (if (32 : Nat) = 32 then [] :: cutOn 32 (cmpT c ++ tailT cs) else _) = _
    rw [if_pos rfl]
    show [] :: cutOn 32 (cmpT c ++ tailT cs) = [] :: cmpT c :: cs.map cmpT
    congr 1
    cases cs with
    | nil =>
      show cutOn 32 (cmpT c ++ []) = _
      rw [List.append_nil, cut_no no] <;> rfl
    | cons d ds =>
      have e : tailT (d :: ds) = 32 :: (cmpT d ++ tailT ds) := rfl
      rw [e] at ih ⊢
      rw [cut_app no]
      congr 1
      have e2 : cutOn 32 (32 :: (cmpT d ++ tailT ds)) = [] :: cutOn 32 (cmpT d ++ tailT ds) := by
        show (if (32 : Nat) = 32 then _ else _) = _
        rw [if_pos rfl]
      rw [e2] at ih
      exact (List.cons.inj ih).2
theorem readW_web {n : Nat} {cs : List Cmp} (h : WebOk n cs) (n1 : 1 ≤ n) (n10 : n ≤ 10) : readW (webT n cs) = some (n, cs) := by
  have e : part1 58 (webT n cs) = (numT n, true, tailT cs) := part_at fun a ha z => by
    have := num_sign n10 a ha
    omega
  have ok : ∀ c ∈ cs, c.1 ≤ 10 ∧ c.2 ≤ 10 := fun c hc => by
    obtain ⟨h1, h2, _⟩ := h.2 c hc
    exact ⟨by omega, by omega⟩
  have all : All2 (fun a b => readC n a = some b) (cs.map cmpT) cs := by
    have : ∀ l : List Cmp, (∀ c ∈ l, CmpOk n c) → All2 (fun a b => readC n a = some b) (l.map cmpT) l := fun l => by
      induction l with
      | nil => intro _; exact .nil
      | cons c l ih => intro hl; exact .cons (readC_cmp n10 (hl c List.mem_cons_self)) (ih fun d hd => hl d (List.mem_cons_of_mem _ hd))
    exact this cs h.2
  unfold readW
  rw [e, readN_num n10]
  show (if 1 ≤ n then _ else _) = _
  rw [if_pos n1]
  unfold tailW
  rw [cut_tail cs ok]
  show Option.map _ (if (cs.map cmpT).length ≤ 60 then _ else _) = _
  rw [if_pos (by rw [List.length_map]; exact h.1), getAll_of all] <;> rfl
theorem readW_ok {x : List Nat} {n : Nat} {cs : List Cmp} (h : readW x = some (n, cs)) : WebOk n cs ∧ 1 ≤ n ∧ n ≤ 10 := by
  unfold readW at h
  split at h
  · split at h
    · rename_i m hm
      split at h
      · rename_i h1
        cases e : tailW m (part1 58 x).2.2 with
        | none => rw [e] at h; cases h
        | some l =>
          rw [e] at h
          cases h
          refine ⟨?_, h1, (readN_some hm).1⟩
          unfold tailW at e
          split at e
          · rename_i ws _
            split at e
            · rename_i hl
              have a := getAll_some e
              refine ⟨by rw [← a.length]; exact hl, fun c hc => ?_⟩
              obtain ⟨i, hi⟩ := List.mem_iff_getElem?.mp hc
              obtain ⟨w, _, hw⟩ := a.get hi
              unfold readC pairOk at hw
              split at hw
              · split at hw
                · rename_i h3
                  cases hw
                  exact h3
                · cases hw
              · cases hw
            · cases e
          · cases e
      · cases h
    · cases h
  · cases h
end Sw

set_option Elab.async false
set_option linter.all false
set_option maxRecDepth 100000
set_option maxHeartbeats 4000000
namespace Sw
open PySem PySem.Spec PyProof.Rows L2
/-! ## What is handed in, and how it is judged -/
/-- a line of n -/
def lnV (n : Nat) : V → Bool
  | .int i => decide (0 ≤ i ∧ i < (n : Int))
  | _ => false
/-- two lines of n, unlike -/
def twV (n : Nat) : V → V → Bool
  | .int i, .int j => decide (0 ≤ i ∧ i < (n : Int)) && (decide (0 ≤ j ∧ j < (n : Int)) && decide (¬ i = j))
  | _, _ => false
/-- a number of lines -/
def noV : V → Bool
  | .int i => decide (1 ≤ i ∧ i ≤ 10)
  | _ => false
theorem tyb_int {K : PySem.W.Frag} {H : Hp} {v : V} {T : String} (h : TyB K H v T) : (T = "int" ∧ ∃ i, v = .int i) ∨ (T ≠ "int" ∧ ∀ i, v ≠ .int i) := by
  cases h with
  | int i => exact .inl ⟨rfl, i, rfl⟩
  | _ => exact .inr ⟨by decide, fun _ z => nomatch z⟩
/-- an item of comparers, and whether it is one -/
inductive ItOk (K : PySem.W.Frag) (H : Hp) (n : Nat) : V → Bool → Prop
  | other {v : V} {T : String} (h : TyB K H v T) (ne : T ≠ "tuple") : ItOk K H n v false
  | long {p : Addr} {xs : List V} (h : SqT K H p xs) (ne : xs.length ≠ 2) : ItOk K H n (.ref p) false
  | two {p : Addr} {x y : V} {Tx Ty : String} (h : SqT K H p [x, y]) (hx : TyB K H x Tx) (hy : TyB K H y Ty) : ItOk K H n (.ref p) (twV n x y)
/-- what need_web finds -/
inductive Verd where
  | good
  | lines
  | web (at_ : Option Nat)
inductive WebV (K : PySem.W.Frag) (H : Hp) : V → V → Verd → Prop
  | lines {lv cv : V} {T : String} (h : TyB K H lv T) (bad : noV lv = false) : WebV K H lv cv .lines
  | kind {n : Nat} {cv : V} {T : String} (hn : noV (.int (n : Int)) = true) (h : TyB K H cv T) (ne : T ≠ "list") : WebV K H (.int (n : Int)) cv (.web none)
  | many {n : Nat} {a : Addr} {xs : List V} (hn : noV (.int (n : Int)) = true) (h : SqL K H a xs) (hl : 60 < xs.length) : WebV K H (.int (n : Int)) (.ref a) (.web none)
  | item {n k : Nat} {a : Addr} {xs : List V} {y : V} (hn : noV (.int (n : Int)) = true) (h : SqL K H a xs) (hl : xs.length ≤ 60) (ok : ∀ i < k, ∃ x : V, xs[i]? = some x ∧ ItOk K H n x true) (hy : xs[k]? = some y) (bad : ItOk K H n y false) : WebV K H (.int (n : Int)) (.ref a) (.web (some k))
  | good {n : Nat} {a : Addr} {xs : List V} (hn : noV (.int (n : Int)) = true) (h : SqL K H a xs) (hl : xs.length ≤ 60) (ok : ∀ (i : Nat) (x : V), xs[i]? = some x → ItOk K H n x true) : WebV K H (.int (n : Int)) (.ref a) .good
/-- None or a number -/
def onV : Option Nat → V
  | none => .non
  | some k => .int (k : Int)
/-- how a bad web is refused -/
def Refu (K : PySem.W.Frag) (H : Hp) (E : XK) : Verd → Prop
  | .good => False
  | .lines => ∀ H', Same H H' → E (.ref (He.ga K "BadLines")) none H'
  | .web o => ∀ H' d, Same H H' → H' d = none → E (.ref (He.ga K "BadWeb")) (some d) (upd H' d (.xd [("place", onV o)]))
theorem tyb_same {K : PySem.W.Frag} {H H' : Hp} {v : V} {T : String} (s : Same H H') (h : TyB K H v T) : TyB K H' v T := by
  cases h with
  | non => exact .non
  | bl b => exact .bl b
  | int i => exact .int i
  | str x => exact .str x
  | byt b => exact .byt b
  | lst h => exact .lst (s.seq h)
  | tup h => exact .tup (Same.sqt s h)
  | dK h => exact .dK (s _ _ h)
theorem it_same {K : PySem.W.Frag} {H H' : Hp} {n : Nat} {v : V} {b : Bool} (s : Same H H') (h : ItOk K H n v b) : ItOk K H' n v b := by
  cases h with
  | other h ne => exact .other (tyb_same s h) ne
  | long h ne => exact .long (Same.sqt s h) ne
  | two h hx hy => exact .two (Same.sqt s h) (tyb_same s hx) (tyb_same s hy)
theorem it_cmp {K : PySem.W.Frag} {H : Hp} {n : Nat} {p : Addr} {c : Cmp} (h : SqT K H p (V2 c)) (ok : CmpOk n c) : ItOk K H n (.ref p) true := by
  have e : twV n (.int (c.1 : Int)) (.int (c.2 : Int)) = true := by
    obtain ⟨h1, h2, h3⟩ := ok
    show (decide _ && (decide _ && decide _)) = true
    rw [decide_eq_true (by omega), decide_eq_true (by omega), decide_eq_true (by omega)] <;> rfl
  rw [← e]
  exact .two h (.int _) (.int _)
end Sw

set_option Elab.async false
set_option linter.all false
set_option maxRecDepth 100000
set_option maxHeartbeats 4000000
namespace Sw
open PySem PySem.Spec PyProof.Rows L2
/-! ## Methods -/
def memS (st : Stmt) (i : Nat) : Stmt := match st with
  | .ClassDef _ _ _ b _ _ _ _ _ _ _ => b.getD i (.Pass ⟨0, 0, 0, 0⟩)
  | _ => .Pass ⟨0, 0, 0, 0⟩
def metD (x m q : Str) (st : Stmt) : He.DefD := ⟨(x, some m), m, q, defArgs st, defBody st, defScope st, [], []⟩
/-- the method m of the class x is the def st of the text -/
def Met (K : PySem.W.Frag) (x m q : Str) (st : Stmt) : Prop := ∃ fd : FuncData, FunD K m q (defArgs st) (defBody st) (defScope st) [] [] (He.ma K (He.ga K x) m) fd
theorem met_of {fa : List He.Fa} {fn : List He.DefD} {ex : PySem.W.Frag → Bool} {K : PySem.W.Frag} (c : SaysZ fa fn ex K) {x m q : Str} {st : Stmt} (i : Nat) (hi : fn[i]? = some (metD x m q st)) : Met K x m q st := c.d.def_ i hi
/-- the reading of an error's __init__ that keeps one field f, behind a text of it -/
def rInit (K : PySem.W.Frag) (z f : Str) : TS := tSeq (tDrop (tVeI K (tCons (tVar 0) (tCons (tJoin [tC (.str z), tFmtN (tVar 1)]) tNil)))) (tOst K f (tVar 0) (tVar 1))
theorem rd_init {K : PySem.W.Frag} {mg : Str → Option Value} {x z f : Str} (m : OwK K mg x f) (hz : z.length ≤ 1000) (vs : List V) (H : Hp) (Q : VK) (E : XK) (h : spInit K (He.ga K x) f vs H Q E) : rInit K z f { nx := fun _ H' => Q .non H', rt := Q } (L2.start ["self", f] vs) H := by
  obtain ⟨a, v, rfl, ha, hv, q⟩ := h
  have el : (Str.empty ++ z).length ≤ 1000 := by
    have : (Str.empty ++ z).length = z.length := by
      show (#[] ++ z.cps).size = z.cps.size
      simp
    omega
  have el2 : ∀ y : Str, y.length ≤ 400 → (Str.empty ++ z ++ y).length ≤ 1000000 := fun y hy => by
    have : (Str.empty ++ z ++ y).length = (Str.empty ++ z).length + y.length := by
      show ((Str.empty ++ z).cps ++ y.cps).size = _
      rw [Array.size_append] <;> rfl
    omega
  have gen : ∀ y : Str, y.length ≤ 400 → (Str.empty ++ z ++ y).length ≤ sizeLine ∧ (tVeI K (fun _ H Q => Q [.ref a, .str (Str.empty ++ z ++ y)] H)) [some (.ref a), some v] H fun _ H' => tOst K f (tVar 0) (tVar 1) { nx := fun _ H' => Q .non H', rt := Q } [some (.ref a), some v] H' := fun y hy => by
    refine ⟨small_line (el2 y hy), a, He.ga K x, [.str (Str.empty ++ z ++ y)], rfl, by show 1 ≤ 1000; decide, m.o, ha, ?_⟩
    exact ⟨v, rfl, .ref a, rfl, a, He.ga K x, rfl, m.o, m.n, .inl ⟨ha, fun dx h1 h2 => q dx h1 h2⟩⟩
  simp only [rInit, tSeq, tDrop, L2.start, List.map_cons, List.map_nil, List.length_cons, List.length_nil, Nat.reduceAdd, Nat.sub_self, List.replicate_zero, List.append_nil]
  rcases hv with rfl | ⟨i, rfl, i0, i1⟩
  · obtain ⟨g1, g2⟩ := gen "None" (by decide +kernel)
    exact ⟨.ref a, rfl, z, rfl, small_line (by omega), .non, rfl, .inl ⟨rfl, "None", rfl, g1, g2⟩⟩
  · have hi : i.natAbs.log2 < 1920 := by
      have h3 : i.natAbs ≤ 1000 := by omega
      have : i.natAbs.log2 ≤ i.natAbs := Nat.log2_le_self _
      omega
    have len : (toString i : Str).length ≤ 400 := by
      have h3 : ∀ n : Nat, n ≤ 1000 → (Str.ofString (toString (n : Int))).length ≤ 400 := by decide +kernel
      have := h3 i.toNat (by omega)
      rw [Int.toNat_of_nonneg i0] at this
      exact this
    obtain ⟨g1, g2⟩ := gen (toString i) len
    exact ⟨.ref a, rfl, z, rfl, small_line (by omega), .int i, rfl, .inr ⟨i, rfl, hi, toString i, rfl, g1, g2⟩⟩
end Sw

set_option Elab.async false
set_option linter.all false
set_option maxRecDepth 100000
set_option maxHeartbeats 4000000
namespace Sw
open PySem PySem.Spec PyProof.Rows L2
theorem sg_app (x y : Str) : sg (x ++ y) = sg x ++ sg y := by
  show (x.cps ++ y.cps).toList = x.cps.toList ++ y.cps.toList
  rw [Array.toList_append]
theorem sg_nil : sg Str.empty = [] := rfl
theorem sg_nil2 : sg ("" : Str) = [] := by decide +kernel
theorem app_len (x y : Str) : (x ++ y).length = x.length + y.length := by
  rw [sg_len, sg_len, sg_len, sg_app, List.length_append]
theorem tx_len (l : List Nat) : (tx l).length = l.length := by rw [sg_len, sg_tx]
theorem eq_tx {x : Str} {l : List Nat} (h : sg x = l) : x = tx l := by rw [← h, tx_sg]
theorem joinL_nil : ∀ l : List (List Nat), TL.joinL [] l = l.flatten
  | [] => rfl
  | [p] => by simp [TL.joinL]
  | p :: q :: r => by
    show p ++ ([] ++ TL.joinL [] (q :: r)) = _
    rw [joinL_nil (q :: r)] <;> rfl
theorem joinL_one (c : Nat) : ∀ (l : List (List Nat)) (p : List Nat), TL.joinL [c] (p :: l) = p ++ (l.map fun y => c :: y).flatten
  | [], p => by simp [TL.joinL]
  | q :: r, p => by
    show p ++ ([c] ++ TL.joinL [c] (q :: r)) = _
    rw [joinL_one c r q] <;> rfl
theorem sg_join0 (ys : List Str) : sg (Txt.join "" ys) = (ys.map sg).flatten := by
  rw [TL.join_eq]
  show TL.tl (Str.join _ ys) = _
  rw [TL.tl_join]
  have e : TL.tl ("" : Str) = [] := by decide +kernel
  rw [e]
  exact joinL_nil _
theorem sg_join1 (z p : Str) (c : Nat) (hz : sg z = [c]) (ys : List Str) : sg (Txt.join z (p :: ys)) = sg p ++ (ys.map fun y => c :: sg y).flatten := by
  rw [TL.join_eq]
  show TL.tl (Str.join _ (p :: ys)) = _
  rw [TL.tl_join]
  have e : TL.tl z = [c] := hz
  rw [e, List.map_cons, joinL_one, List.map_map] <;> rfl
theorem cutS_to (z : Str) (k : Nat) : sg (cutS z none (some (k : Int))) = (sg z).take k := by
  unfold cutS
  rw [HT.sIx_none, HT.sIx_nat]
  show ((sg z).drop 0).take (min k z.length - 0) = _
  rw [List.drop_zero, Nat.sub_zero, sg_len]
  by_cases h : k ≤ (sg z).length
  · rw [Nat.min_eq_left h]
  · rw [Nat.min_eq_right (by omega), List.take_of_length_le (Nat.le_refl _), List.take_of_length_le (by omega)]
theorem cutS_from (z : Str) (k : Nat) : sg (cutS z (some (k : Int)) none) = (sg z).drop k := by
  unfold cutS
  rw [HT.sIx_none, HT.sIx_nat]
  show ((sg z).drop (min k z.length)).take (z.length - min k z.length) = _
  rw [sg_len]
  by_cases h : k ≤ (sg z).length
  · rw [Nat.min_eq_left h, List.take_of_length_le (by rw [List.length_drop]; exact Nat.le_refl _)]
  · rw [Nat.min_eq_right (by omega), List.drop_eq_nil_of_le (Nat.le_refl _), List.drop_eq_nil_of_le (by omega), List.take_nil]
theorem log_small {i : Int} (h : i.natAbs ≤ 1000) : i.natAbs.log2 < 1920 := by
  have := Nat.log2_le_self i.natAbs
  omega
/-- the word of a comparer, a blank ahead -/
def wordT (c : Cmp) : Str := tx (32 :: cmpT c)
theorem cmp_len (c : Cmp) : (cmpT c).length ≤ 5 := by
  unfold cmpT
  rw [List.length_append, List.length_cons]
  have := num_len c.1
  have := num_len c.2
  omega
theorem tail_len (cs : List Cmp) : (tailT cs).length ≤ 6 * cs.length := by
  unfold tailT
  induction cs with
  | nil => simp
  | cons c cs ih =>
    rw [List.map_cons, List.flatten_cons, List.length_append, List.length_cons, List.length_cons]
    have := cmp_len c
    omega
theorem web_len (n : Nat) (cs : List Cmp) : (webTx n cs).length ≤ 3 + 6 * cs.length := by
  unfold webTx webT
  rw [tx_len, List.length_append, List.length_cons]
  have := num_len n
  have := tail_len cs
  omega
theorem join_words (cs : List Cmp) : sg (Txt.join "" (cs.map wordT)) = tailT cs := by
  rw [sg_join0, List.map_map] <;> rfl
theorem lens_words (cs : List Cmp) : ((cs.map wordT).map (·.length)).sum ≤ 6 * cs.length := by
  induction cs with
  | nil => simp
  | cons c cs ih =>
    rw [List.map_cons, List.map_cons, List.sum_cons, List.length_cons]
    have e : (wordT c).length ≤ 6 := by
      unfold wordT
      rw [tx_len, List.length_cons]
      have := cmp_len c
      omega
    omega
/-- f" {a}-{b}" -/
theorem word_eq {a b : Nat} (ha : a ≤ 10) (hb : b ≤ 10) (s1 s2 : Str) (h1 : sg s1 = [32]) (h2 : sg s2 = [45]) : Str.empty ++ s1 ++ Str.ofString (toString (a : Int)) ++ s2 ++ Str.ofString (toString (b : Int)) = wordT (a, b) := by
  refine eq_tx ?_
  rw [sg_app, sg_app, sg_app, sg_app, sg_nil, h1, h2, num_str a ha, num_str b hb]
  show [] ++ [32] ++ numT a ++ [45] ++ numT b = 32 :: (numT a ++ 45 :: numT b)
  simp
theorem sg_num {a : Nat} (ha : a ≤ 10) : (Str.ofString (toString (a : Int))).length ≤ 2 := by
  rw [sg_len, num_str a ha]
  exact num_len a
end Sw

set_option Elab.async false
set_option linter.all false
set_option maxRecDepth 100000
set_option maxHeartbeats 4000000
namespace Sw
open PySem PySem.Spec PyProof.Rows L2
/-! ## Walks, once what is walked is at hand -/
def LcK (g : TG) (tt : TT) (te : TE) (vs : List Nat) (σ : L2.St) (Q : VK) : It → Hp → Prop := fun J H1 => tLc (fun _ _ R => R J H1) g tt te vs σ H1 Q
theorem lc_def (wi : TI) (g : TG) (tt : TT) (te : TE) (vs : List Nat) (σ : L2.St) (H : Hp) (Q : VK) : tLc wi g tt te vs σ H Q = wi σ H (LcK g tt te vs σ Q) := rfl
def ForK (g : TG) (tb : TS) (D : Ends) (σ : L2.St) : It → Hp → Prop := fun J H1 => tFor (fun _ _ R => R J H1) g tb D σ H1
theorem for_def (wi : TI) (g : TG) (tb : TS) (D : Ends) (σ : L2.St) (H : Hp) : tFor wi g tb D σ H = wi σ H (ForK g tb D σ) := rfl
section
variable {K : PySem.W.Frag} {σ : L2.St} {H : Hp} {te : TE} {tb : TS} {D : Ends} {a : Addr} {xs : List V} {j1 j2 : Nat} {Q : VK}
theorem lck_list {tt : TT} {vs : List Nat} (hx : SqL K H a xs) (hvs : ∀ v, wipe ((wipe σ vs).set j1 v) vs = wipe σ vs)
    (G : Addr → Nat → List V → Hp → Prop) (h0 : ∀ D, H D = none → G D 0 [] (upd H D (.lst []))) (hl : ∀ D i acc H', H D = none → G D i acc H' → SqL K H' a xs)
    (turn : ∀ D i x acc H', H D = none → xs[i]? = some x → i < xs.length → H' D = some (.lst acc) → G D i acc H' → Turn tt te D (G D) i ((wipe σ vs).set j1 (some x)) H')
    (done : ∀ D acc H', H D = none → H' D = some (.lst acc) → G D xs.length acc H' → Q (.ref D) H') : LcK (gName j1) tt te vs σ Q (Itl K a) H := by
  refine fun D nD => it_lc (n := xs.length) (So D (G D)) ⟨[], upd_same, h0 D nD⟩ (fun i H' hi p => ?_) (fun H' p => ?_) (fun i H' hi p v H2 y => ?_) (fun H' p => ?_)
  · obtain ⟨acc, _, g⟩ := p
    obtain ⟨x, hx⟩ := get_of hi
    exact ⟨_, x, hl D _ _ _ nD g, hx⟩
  · obtain ⟨acc, _, g⟩ := p
    exact ⟨_, hl D _ _ _ nD g, Nat.le_refl _⟩
  · obtain ⟨acc, hD, g⟩ := p
    obtain ⟨rfl, f⟩ := y
    exact ⟨hvs _, turn D i v acc H2 nD (f _ (hl D _ _ _ nD g)) hi hD g⟩
  · obtain ⟨acc, hD, g⟩ := p
    exact done D acc H' nD hD g
theorem lck_tup {tt : TT} {vs : List Nat} (hx : SqT K H a xs) (hvs : ∀ v, wipe ((wipe σ vs).set j1 v) vs = wipe σ vs)
    (G : Addr → Nat → List V → Hp → Prop) (h0 : ∀ D, H D = none → G D 0 [] (upd H D (.lst []))) (hl : ∀ D i acc H', H D = none → G D i acc H' → SqT K H' a xs)
    (turn : ∀ D i x acc H', H D = none → xs[i]? = some x → i < xs.length → H' D = some (.lst acc) → G D i acc H' → Turn tt te D (G D) i ((wipe σ vs).set j1 (some x)) H')
    (done : ∀ D acc H', H D = none → H' D = some (.lst acc) → G D xs.length acc H' → Q (.ref D) H') : LcK (gName j1) tt te vs σ Q (Itt K a) H := by
  refine fun D nD => it_lc (n := xs.length) (So D (G D)) ⟨[], upd_same, h0 D nD⟩ (fun i H' hi p => ?_) (fun H' p => ?_) (fun i H' hi p v H2 y => ?_) (fun H' p => ?_)
  · obtain ⟨acc, _, g⟩ := p
    obtain ⟨x, hx⟩ := get_of hi
    exact ⟨_, x, hl D _ _ _ nD g, hx⟩
  · obtain ⟨acc, _, g⟩ := p
    exact ⟨_, hl D _ _ _ nD g, Nat.le_refl _⟩
  · obtain ⟨acc, hD, g⟩ := p
    obtain ⟨rfl, f⟩ := y
    exact ⟨hvs _, turn D i v acc H2 nD (f _ (hl D _ _ _ nD g)) hi hD g⟩
  · obtain ⟨acc, hD, g⟩ := p
    exact done D acc H' nD hD g
theorem lck_str {tt : TT} {vs : List Nat} {z : Str} (hvs : ∀ v, wipe ((wipe σ vs).set j1 v) vs = wipe σ vs)
    (G : Addr → Nat → List V → Hp → Prop) (h0 : ∀ D, H D = none → G D 0 [] (upd H D (.lst [])))
    (turn : ∀ D i c acc H', H D = none → (sg z)[i]? = some c → i < (sg z).length → H' D = some (.lst acc) → G D i acc H' → Turn tt te D (G D) i ((wipe σ vs).set j1 (some (.str ⟨#[c]⟩))) H')
    (done : ∀ D acc H', H D = none → H' D = some (.lst acc) → G D (sg z).length acc H' → Q (.ref D) H') : LcK (gName j1) tt te vs σ Q (Its z) H := by
  have size : z.cps.size = (sg z).length := by
    show _ = z.cps.toList.length
    rw [Array.length_toList]
  refine fun D nD => it_lc (n := (sg z).length) (So D (G D)) ⟨[], upd_same, h0 D nD⟩ (fun i H' hi p => ?_) (fun H' p => ?_) (fun i H' hi p v H2 y => ?_) (fun H' p => ?_)
  · show i < z.cps.size
    rw [size]
    exact hi
  · show z.cps.size ≤ (sg z).length
    rw [size]
    exact Nat.le_refl _
  · obtain ⟨acc, hD, g⟩ := p
    obtain ⟨rfl, c, hc, rfl⟩ := y
    refine ⟨hvs _, turn D i c acc H2 nD ?_ hi hD g⟩
    show z.cps.toList[i]? = some c
    rw [← hc]
    simp
  · obtain ⟨acc, hD, g⟩ := p
    exact done D acc H' nD hD g
theorem fork_list (hx : SqL K H a xs) (Pv : Nat → L2.St → Hp → Prop) (h0 : Pv 0 σ H) (hl : ∀ i σ H, i ≤ xs.length → Pv i σ H → SqL K H a xs)
    (turn : ∀ i x σ H, xs[i]? = some x → i < xs.length → Pv i σ H → tb { D with nx := Pv (i + 1), ct := Pv (i + 1), bk := D.nx } (σ.set j1 (some x)) H)
    (done : ∀ σ H, Pv xs.length σ H → D.nx σ H) : ForK (gName j1) tb D σ (Itl K a) H := by
  refine it_for (n := xs.length) Pv h0 (fun i σ H hi p => ?_) (fun σ H p => ?_) (fun i σ H hi p v H' y => ?_) done
  · obtain ⟨x, hx⟩ := get_of hi
    exact ⟨_, x, hl i σ H (Nat.le_of_lt hi) p, hx⟩
  · exact ⟨_, hl _ σ H (Nat.le_refl _) p, Nat.le_refl _⟩
  · obtain ⟨rfl, f⟩ := y
    exact turn i v σ H' (f _ (hl i σ H' (Nat.le_of_lt hi) p)) hi p
theorem fork_tup (hx : SqT K H a xs) (Pv : Nat → L2.St → Hp → Prop) (h0 : Pv 0 σ H) (hl : ∀ i σ H, i ≤ xs.length → Pv i σ H → SqT K H a xs)
    (turn : ∀ i x σ H, xs[i]? = some x → i < xs.length → Pv i σ H → tb { D with nx := Pv (i + 1), ct := Pv (i + 1), bk := D.nx } (σ.set j1 (some x)) H)
    (done : ∀ σ H, Pv xs.length σ H → D.nx σ H) : ForK (gName j1) tb D σ (Itt K a) H := by
  refine it_for (n := xs.length) Pv h0 (fun i σ H hi p => ?_) (fun σ H p => ?_) (fun i σ H hi p v H' y => ?_) done
  · obtain ⟨x, hx⟩ := get_of hi
    exact ⟨_, x, hl i σ H (Nat.le_of_lt hi) p, hx⟩
  · exact ⟨_, hl _ σ H (Nat.le_refl _) p, Nat.le_refl _⟩
  · obtain ⟨rfl, f⟩ := y
    exact turn i v σ H' (f _ (hl i σ H' (Nat.le_of_lt hi) p)) hi p
end
/-! ## isinstance -/
theorem tyx_tup {K : PySem.W.Frag} {H : Hp} {p : Addr} {xs : List V} (h : SqT K H p xs) : TyX K H (.ref p) (.type "tuple") := by
  rcases h with (h | ⟨o, h⟩) | ⟨o, its, n, h, hc, _⟩
  · exact .base (.tup h)
  · exact .fTuple h
  · exact .kTuple h hc
theorem tyx_lst {K : PySem.W.Frag} {H : Hp} {p : Addr} {xs : List V} (h : SqL K H p xs) : TyX K H (.ref p) (.type "list") := by
  rcases h with (h | ⟨o, h⟩) | ⟨o, its, n, h, hc, _⟩
  · exact .base (.lst h)
  · exact .base (.frz h)
  · exact .kList h hc
/-- isinstance(x, T), T a built-in type -/
theorem isk_ty {K : PySem.W.Frag} {H : Hp} {x : V} {t T : String} {b : Bool} {Q : VK} (h : TyX K H x (.type t)) (e : kitB t T = some b) (q : Q (.bl b) H) : rIsK K [x, .ty T] H Q :=
  .inl ⟨x, .ty T, .type t, .type T, b, rfl, .ty _, h, kit_ty e, q⟩
end Sw

set_option Elab.async false
set_option linter.all false
set_option maxRecDepth 100000
set_option maxHeartbeats 4000000
namespace Sw
open PySem PySem.Spec PyProof.Rows L2
/-! ## What the head is asked of errors that are kept -/
/-- the law's words for errors -/
def errWs : List (Str × Str) := [("BadLines", "lines"), ("BadWeb", "web"), ("BadRow", "row"), ("BadPlace", "place"), ("BadOrder", "order"), ("BadText", "text"), ("NothingPut", "nothing")]
structure ErrF (K : PySem.W.Frag) : Prop where
  e : ∀ C u, (C, u) ∈ errWs → ExcC K (He.ga K C)
  k : ∀ C u D v, (C, u) ∈ errWs → (D, v) ∈ errWs → PySem.W.kitOne K (.ref (He.ga K C)) (.ref (He.ga K D)) = some (decide (C = D))
  n : ∀ D v, (D, v) ∈ errWs → PySem.W.kitOne K (.type "NoneType") (.ref (He.ga K D)) = some false
  v : ∀ C u, (C, u) ∈ errWs → PySem.W.kitOne K (.ref (He.ga K C)) (.type "ValueError") = some true
def excCB (K : PySem.W.Frag) (D : Addr) : Bool := decide (PySem.W.findIn K (.ref D) "__getattribute__" = some (some (.builtin "BaseException.__getattribute__"))) && (decide (PySem.W.findIn K (.ref D) "__getattr__" = some none) &&
  (decide (PySem.W.subIn K (.ref D) (.type "BaseException") = some true) && (PySem.W.hasDictIn K D && (decide (PySem.W.findIn K (.ref D) "__class__" = some (some (.builtin "object.__class__"))) &&
    (decide (PySem.W.specialIn K (.builtin "object.__class__") "__get__" = some (some (.builtin "getset_descriptor.__get__"))) && (decide (PySem.W.takesIn K (.builtin "object.__class__") = some true) && decide (PySem.W.mroIn K D (.type "object") = some true)))))))
theorem excCB_ok {K : PySem.W.Frag} {D : Addr} (h : excCB K D = true) : ExcC K D := by
  unfold excCB at h
  obtain ⟨h1, h⟩ := He.ba h
  obtain ⟨h2, h⟩ := He.ba h
  obtain ⟨h3, h⟩ := He.ba h
  obtain ⟨h4, h⟩ := He.ba h
  obtain ⟨h5, h⟩ := He.ba h
  obtain ⟨h6, h⟩ := He.ba h
  obtain ⟨h7, h8⟩ := He.ba h
  exact ⟨of_decide_eq_true h1, of_decide_eq_true h2, of_decide_eq_true h3, h4, of_decide_eq_true h5, of_decide_eq_true h6, of_decide_eq_true h7, of_decide_eq_true h8⟩
def errFB (K : PySem.W.Frag) : Bool := errWs.all fun p => excCB K (He.ga K p.1) && (decide (PySem.W.kitOne K (.type "NoneType") (.ref (He.ga K p.1)) = some false) && (decide (PySem.W.kitOne K (.ref (He.ga K p.1)) (.type "ValueError") = some true) &&
  errWs.all fun q => decide (PySem.W.kitOne K (.ref (He.ga K p.1)) (.ref (He.ga K q.1)) = some (decide (p.1 = q.1)))))
theorem errFB_ok {K : PySem.W.Frag} (h : errFB K = true) : ErrF K := by
  have each : ∀ C u, (C, u) ∈ errWs → ExcC K (He.ga K C) ∧ PySem.W.kitOne K (.type "NoneType") (.ref (He.ga K C)) = some false ∧ PySem.W.kitOne K (.ref (He.ga K C)) (.type "ValueError") = some true ∧
      ∀ D v, (D, v) ∈ errWs → PySem.W.kitOne K (.ref (He.ga K C)) (.ref (He.ga K D)) = some (decide (C = D)) := fun C u hC => by
    have h0 := List.all_eq_true.mp h (C, u) hC
    obtain ⟨h1, h0⟩ := He.ba h0
    obtain ⟨h2, h0⟩ := He.ba h0
    obtain ⟨h3, h4⟩ := He.ba h0
    exact ⟨excCB_ok h1, of_decide_eq_true h2, of_decide_eq_true h3, fun D v hD => of_decide_eq_true (List.all_eq_true.mp h4 (D, v) hD)⟩
  exact ⟨fun C u h => (each C u h).1, fun C u D v h h2 => (each C u h).2.2.2 D v h2, fun D v h => (each D v h).2.1, fun C u h => (each C u h).2.2.1⟩
theorem cls_of {fa : List He.Fa} {fn : List He.DefD} {ex : PySem.W.Frag → Bool} {h : Heap} {K : PySem.W.Frag} {mg : Str → Option Value} (c : SaysZ fa fn ex K) (X : K.In h) (G : h.Ns mainGlobals mg) {x : Str} (j : Nat) (hj : fa[j]? = some (.glo x)) : mg x = some (.ref (He.ga K x)) := He.glo_ok X G (c.d.fact j hj)
end Sw

set_option Elab.async false
set_option linter.all false
set_option maxRecDepth 100000
set_option maxHeartbeats 4000000
namespace Sw
open PySem PySem.Spec PyProof.Rows L2
/-! ## Noughts and ones stand for all numbers -/
def Mono (f : Int → Int) : Prop := ∀ x y, x ≤ y → f x ≤ f y
theorem at0_map {r : Row} {f : Int → Int} {k : Nat} (h : k < r.length) : at0 (r.map f) k = f (at0 r k) := by
  unfold at0
  rw [List.getD_eq_getElem?_getD, List.getD_eq_getElem?_getD, List.getElem?_map, List.getElem?_eq_getElem h] <;> rfl
theorem at0_get {r : Row} {k : Nat} (h : k < r.length) : r[k]? = some (at0 r k) := by
  unfold at0
  rw [List.getD_eq_getElem?_getD, List.getElem?_eq_getElem h] <;> rfl
theorem set_at0' {r : Row} {k : Nat} : r.set k (at0 r k) = r := by
  by_cases h : k < r.length
  · have e : at0 r k = r[k] := by
      unfold at0
      rw [List.getD_eq_getElem?_getD, List.getElem?_eq_getElem h] <;> rfl
    rw [e, List.set_getElem_self]
  · rw [List.set_eq_of_length_le (by omega)]
theorem goC_map {n : Nat} {r : Row} {c : Cmp} {f : Int → Int} (hf : Mono f) (ok : CmpOk n c) (hr : r.length = n) : goC (r.map f) c = (goC r c).map f := by
  have h1 : at0 (r.map f) c.1 = f (at0 r c.1) := at0_map (by rw [hr]; exact ok.1)
  have h2 : at0 (r.map f) c.2 = f (at0 r c.2) := at0_map (by rw [hr]; exact ok.2.1)
  unfold goC
  rw [h1, h2]
  by_cases g : at0 r c.1 > at0 r c.2
  · rw [if_pos g, List.map_set, List.map_set]
    by_cases g2 : f (at0 r c.1) > f (at0 r c.2)
    · rw [if_pos g2]
    · rw [if_neg g2]
      have e : f (at0 r c.1) = f (at0 r c.2) := by
        have := hf _ _ (show at0 r c.2 ≤ at0 r c.1 by omega)
        omega
      rw [e, ← h2]
      have e1 : (r.map f).set c.1 (at0 (r.map f) c.2) = r.map f := by
        rw [h2, ← e, ← h1, set_at0']
      rw [e1, set_at0']
  · rw [if_neg g]
    have := hf _ _ (show at0 r c.1 ≤ at0 r c.2 by omega)
    rw [if_neg (by omega)]
theorem gone_map {n : Nat} {f : Int → Int} (hf : Mono f) : ∀ (cs : List Cmp) (r : Row), CmpsOk n cs → r.length = n → gone cs (r.map f) = (gone cs r).map f
  | [], _, _, _ => rfl
  | c :: cs, r, ok, hr => by
    show gone cs (goC (r.map f) c) = (gone cs (goC r c)).map f
    rw [goC_map hf (ok c List.mem_cons_self) hr]
    exact gone_map hf cs (goC r c) (fun d hd => ok d (List.mem_cons_of_mem _ hd)) (by rw [goC_len, hr])
/-- one from t on -/
def thr (t x : Int) : Int := if t ≤ x then 1 else 0
theorem thr_mono (t : Int) : Mono (thr t) := fun x y h => by
  unfold thr
  split <;> split <;> omega
theorem thr_bit (t x : Int) : thr t x = 0 ∨ thr t x = 1 := by
  unfold thr
  split
  · exact .inr rfl
  · exact .inl rfl
def bareR (n m : Nat) : Row := (List.range n).map fun k => ((m / 2 ^ k % 2 : Nat) : Int)
def bares (n : Nat) : List Row := (List.range (2 ^ n)).map (bareR n)
def Bits (r : Row) : Prop := ∀ x ∈ r, x = 0 ∨ x = 1
theorem bareR_len (n m : Nat) : (bareR n m).length = n := by
  unfold bareR
  rw [List.length_map, List.length_range]
theorem bareR_succ (n m : Nat) : bareR (n + 1) m = ((m % 2 : Nat) : Int) :: bareR n (m / 2) := by
  unfold bareR
  rw [List.range_succ_eq_map, List.map_cons, List.map_map]
  congr 1
  · rw [Nat.pow_zero, Nat.div_one]
  · apply List.map_congr_left
    intro k _
    show ((m / 2 ^ (k + 1) % 2 : Nat) : Int) = _
    rw [Nat.pow_succ, Nat.mul_comm, ← Nat.div_div_eq_div_mul]
theorem bits_bare : ∀ (r : Row), Bits r → ∃ m, m < 2 ^ r.length ∧ bareR r.length m = r
  | [], _ => ⟨0, by decide, rfl⟩
  | x :: r, h => by
    obtain ⟨m, hm, e⟩ := bits_bare r fun y hy => h y (List.mem_cons_of_mem _ hy)
    have p : 2 ^ (r.length + 1) = 2 * 2 ^ r.length := by rw [Nat.pow_succ, Nat.mul_comm]
    rcases h x List.mem_cons_self with hx | hx
    · refine ⟨2 * m, ?_, ?_⟩
      · rw [List.length_cons, p]
        omega
      · rw [List.length_cons, bareR_succ, show 2 * m / 2 = m by omega, show 2 * m % 2 = 0 by omega, e, hx] <;> rfl
    · refine ⟨2 * m + 1, ?_, ?_⟩
      · rw [List.length_cons, p]
        omega
      · rw [List.length_cons, bareR_succ, show (2 * m + 1) / 2 = m by omega, show (2 * m + 1) % 2 = 1 by omega, e, hx] <;> rfl
theorem bits_mem {r : Row} {n : Nat} (h : Bits r) (hr : r.length = n) : r ∈ bares n := by
  subst hr
  obtain ⟨m, hm, e⟩ := bits_bare r h
  exact List.mem_map.mpr ⟨m, List.mem_range.mpr hm, e⟩
theorem bares_ok {n : Nat} {r : Row} (h : r ∈ bares n) : r.length = n ∧ Bits r := by
  obtain ⟨m, _, rfl⟩ := List.mem_map.mp h
  refine ⟨bareR_len n m, fun x hx => ?_⟩
  obtain ⟨k, _, rfl⟩ := List.mem_map.mp hx
  have : m / 2 ^ k % 2 = 0 ∨ m / 2 ^ k % 2 = 1 := by omega
  rcases this with h | h <;> rw [h]
  · exact .inl rfl
  · exact .inr rfl
theorem thr_bare {r : Row} {n : Nat} (t : Int) (hr : r.length = n) : r.map (thr t) ∈ bares n := by
  refine bits_mem (fun x hx => ?_) (by rw [List.length_map, hr])
  obtain ⟨y, _, rfl⟩ := List.mem_map.mp hx
  exact thr_bit t y
/-- in order -/
abbrev Srt (r : Row) : Prop := r.Pairwise (· ≤ ·)
theorem zero_one {n : Nat} {cs : List Cmp} (ok : CmpsOk n cs) (h : ∀ r ∈ bares n, Srt (gone cs r)) {r : Row} (hr : r.length = n) : Srt (gone cs r) := by
  rw [Srt, List.pairwise_iff_getElem]
  intro i j hi hj hij
  by_cases g : (gone cs r)[i] ≤ (gone cs r)[j]
  · exact g
  · exfalso
    have hb := h _ (thr_bare (gone cs r)[i] hr)
    rw [gone_map (thr_mono _) cs r ok hr, Srt, List.pairwise_iff_getElem] at hb
    have := hb i j (by rw [List.length_map]; exact hi) (by rw [List.length_map]; exact hj) hij
    rw [List.getElem_map, List.getElem_map] at this
    unfold thr at this
    rw [if_pos (Int.le_refl _), if_neg (by omega)] at this
    omega
theorem zero_one_eq {n : Nat} {cs ds : List Cmp} (ok : CmpsOk n cs) (ok2 : CmpsOk n ds) (h : ∀ r ∈ bares n, gone cs r = gone ds r) {r : Row} (hr : r.length = n) : gone cs r = gone ds r := by
  apply List.ext_getElem
  · rw [gone_len, gone_len]
  · intro i hi hj
    have key : ∀ t, thr t (gone cs r)[i] = thr t (gone ds r)[i] := fun t => by
      have hb := h _ (thr_bare t hr)
      rw [gone_map (thr_mono _) cs r ok hr, gone_map (thr_mono _) ds r ok2 hr] at hb
      have := congrArg (fun l => l[i]?) hb
      simp only [List.getElem?_map, List.getElem?_eq_getElem hi, List.getElem?_eq_getElem hj, Option.map_some] at this
      exact Option.some.inj this
    have k1 := key (gone cs r)[i]
    have k2 := key (gone ds r)[i]
    unfold thr at k1 k2
    rw [if_pos (Int.le_refl _)] at k1
    rw [if_pos (Int.le_refl _)] at k2
    split at k1
    · split at k2
      · omega
      · cases k2
    · cases k1
/-- where a comparer exchanges some row, it exchanges one of noughts and ones -/
theorem zero_one_stir {n k : Nat} {cs : List Cmp} {c : Cmp} (ok : CmpsOk n cs) (hc : CmpOk n c) {r : Row} (hr : r.length = n) (g : at0 (gone (cs.take k) r) c.1 > at0 (gone (cs.take k) r) c.2) :
    ∃ b ∈ bares n, at0 (gone (cs.take k) b) c.1 > at0 (gone (cs.take k) b) c.2 := by
  refine ⟨_, thr_bare (at0 (gone (cs.take k) r) c.1) hr, ?_⟩
  have okt : CmpsOk n (cs.take k) := fun d hd => ok d (List.mem_of_mem_take hd)
  have hl : (gone (cs.take k) r).length = n := by rw [gone_len, hr]
  rw [gone_map (thr_mono _) _ r okt hr, at0_map (by rw [hl]; exact hc.1), at0_map (by rw [hl]; exact hc.2.1)]
  unfold thr
  rw [if_pos (Int.le_refl _), if_neg (by omega)]
  decide
/-- numbers laid upon noughts and ones go as these -/
theorem laid_goes {n : Nat} {cs : List Cmp} {t : Int} (ok : CmpsOk n cs) {r b : Row} (hr : r.length = n) (e : r.map (thr t) = b) : gone cs b = (gone cs r).map (thr t) := by
  rw [← e, gone_map (thr_mono _) cs r ok hr]
end Sw

set_option Elab.async false
set_option linter.all false
set_option maxRecDepth 100000
set_option maxHeartbeats 4000000
namespace Sw
open PySem PySem.Spec PyProof.Rows L2
/-! ## Layers -/
/-- two comparers with a line in common -/
def share (c d : Cmp) : Bool := decide (c.1 = d.1 ∨ c.1 = d.2 ∨ c.2 = d.1 ∨ c.2 = d.2)
abbrev Hgt := Nat → Nat
def tierH (h : Hgt) (c : Cmp) : Nat := max (h c.1) (h c.2)
def stepH (h : Hgt) (c : Cmp) : Hgt := fun l => if l = c.1 ∨ l = c.2 then tierH h c + 1 else h l
/-- the layer of each comparer, by heights of lines -/
def tiersH : Hgt → List Cmp → List Nat
  | _, [] => []
  | h, c :: cs => tierH h c :: tiersH (stepH h c) cs
def hgtH : Hgt → List Cmp → Hgt
  | h, [] => h
  | h, c :: cs => hgtH (stepH h c) cs
def tiers (cs : List Cmp) : List Nat := tiersH (fun _ => 0) cs
theorem tiersH_len : ∀ (h : Hgt) (cs : List Cmp), (tiersH h cs).length = cs.length
  | _, [] => rfl
  | h, c :: cs => by
    show (tiersH (stepH h c) cs).length + 1 = _
    rw [tiersH_len] <;> rfl
theorem tiersH_app : ∀ (h : Hgt) (cs ds : List Cmp), tiersH h (cs ++ ds) = tiersH h cs ++ tiersH (hgtH h cs) ds
  | _, [], _ => rfl
  | h, c :: cs, ds => by
    show tierH h c :: tiersH (stepH h c) (cs ++ ds) = _
    rw [tiersH_app (stepH h c) cs ds] <;> rfl
theorem hgtH_app : ∀ (h : Hgt) (cs ds : List Cmp), hgtH h (cs ++ ds) = hgtH (hgtH h cs) ds
  | _, [], _ => rfl
  | h, c :: cs, ds => hgtH_app (stepH h c) cs ds
theorem tiersH_take (h : Hgt) (cs : List Cmp) (i : Nat) : tiersH h (cs.take i) = (tiersH h cs).take i := by
  have e := tiersH_app h (cs.take i) (cs.drop i)
  rw [List.take_append_drop] at e
  by_cases hi : i ≤ cs.length
  · have l1 : (tiersH h (cs.take i)).length = i := by
      rw [tiersH_len, List.length_take]
      omega
    rw [e, List.take_left' l1]
  · rw [List.take_of_length_le (show cs.length ≤ i by omega), List.take_of_length_le (by rw [tiersH_len]; omega)]
theorem snocInd {α : Type} {P : List α → Prop} (h0 : P []) (h1 : ∀ l a, P l → P (l ++ [a])) (l : List α) : P l := by
  rw [← List.reverse_reverse l]
  induction l.reverse with
  | nil => exact h0
  | cons a r ih =>
    rw [List.reverse_cons]
    exact h1 _ _ ih
theorem tiers_get {cs : List Cmp} {i : Nat} {c : Cmp} (h : cs[i]? = some c) : (tiers cs)[i]? = some (tierH (hgtH (fun _ => 0) (cs.take i)) c) := by
  have hi : i < cs.length := (List.getElem?_eq_some_iff.mp h).1
  have e : cs = cs.take i ++ c :: cs.drop (i + 1) := by
    have := List.getElem?_eq_some_iff.mp h
    obtain ⟨_, hc⟩ := this
    rw [← hc, List.getElem_cons_drop, List.take_append_drop]
  have e2 : tiers cs = tiersH (fun _ => 0) (cs.take i) ++ tierH (hgtH (fun _ => 0) (cs.take i)) c :: tiersH (stepH (hgtH (fun _ => 0) (cs.take i)) c) (cs.drop (i + 1)) := by
    unfold tiers
    conv => lhs; rw [e, tiersH_app]
    rfl
  rw [e2, List.getElem?_append_right (by rw [tiersH_len, List.length_take]; omega), tiersH_len, List.length_take, Nat.min_eq_left (by omega), Nat.sub_self] <;> rfl
/-- a line's height: one above the highest of those that touch it -/
theorem hgt_spec : ∀ (cs : List Cmp) (l : Nat), (∀ (i : Nat) (c : Cmp), cs[i]? = some c → (c.1 = l ∨ c.2 = l) → ∀ t, (tiers cs)[i]? = some t → t + 1 ≤ hgtH (fun _ => 0) cs l) ∧
    (hgtH (fun _ => 0) cs l = 0 ∨ ∃ (i : Nat) (c : Cmp) (t : Nat), cs[i]? = some c ∧ (c.1 = l ∨ c.2 = l) ∧ (tiers cs)[i]? = some t ∧ hgtH (fun _ => 0) cs l = t + 1) := by
  intro cs
  induction cs using snocInd with
  | h0 => exact fun l => ⟨(fun i c h => nomatch h), .inl rfl⟩
  | h1 cs d ih =>
    intro l
    obtain ⟨ih1, ih2⟩ := ih l
    have eh : hgtH (fun _ => 0) (cs ++ [d]) = stepH (hgtH (fun _ => 0) cs) d := by rw [hgtH_app] <;> rfl
    have et : tiers (cs ++ [d]) = tiers cs ++ [tierH (hgtH (fun _ => 0) cs) d] := by
      unfold tiers
      rw [tiersH_app] <;> rfl
    have tl : (tiers cs).length = cs.length := tiersH_len _ _
    rw [eh, et]
    have low : hgtH (fun _ => 0) cs l ≤ stepH (hgtH (fun _ => 0) cs) d l := by
      unfold stepH
      split
      · rename_i h
        unfold tierH
        rcases h with h | h <;> rw [h] <;> omega
      · exact Nat.le_refl _
    constructor
    · intro i c hc ht t gt
      by_cases hi : i < cs.length
      · rw [List.getElem?_append_left hi] at hc
        rw [List.getElem?_append_left (by rw [tl]; exact hi)] at gt
        exact Nat.le_trans (ih1 i c hc ht t gt) low
      · have hl := (List.getElem?_eq_some_iff.mp hc).1
        rw [List.length_append, List.length_singleton] at hl
        have ei : i = cs.length := by omega
        subst ei
        rw [List.getElem?_append_right (Nat.le_refl _), Nat.sub_self] at hc
        rw [List.getElem?_append_right (by rw [tl]; exact Nat.le_refl _), tl, Nat.sub_self] at gt
        have e1 : d = c := Option.some.inj hc
        have e2 : tierH (hgtH (fun _ => 0) cs) d = t := Option.some.inj gt
        subst e1
        unfold stepH
        rw [if_pos (by rcases ht with h | h <;> simp [h]), e2]
        exact Nat.le_refl _
    · by_cases hd : l = d.1 ∨ l = d.2
      · refine .inr ⟨cs.length, d, tierH (hgtH (fun _ => 0) cs) d, ?_, ?_, ?_, ?_⟩
        · rw [List.getElem?_append_right (Nat.le_refl _), Nat.sub_self] <;> rfl
        · rcases hd with h | h
          · exact .inl h.symm
          · exact .inr h.symm
        · rw [List.getElem?_append_right (by rw [tl]; exact Nat.le_refl _), tl, Nat.sub_self] <;> rfl
        · unfold stepH
          rw [if_pos hd]
      · have es : stepH (hgtH (fun _ => 0) cs) d l = hgtH (fun _ => 0) cs l := by
          unfold stepH
          rw [if_neg hd]
        rw [es]
        rcases ih2 with h | ⟨i, c, t, h1, h2, h3, h4⟩
        · exact .inl h
        · have hi := (List.getElem?_eq_some_iff.mp h1).1
          exact .inr ⟨i, c, t, by rw [List.getElem?_append_left hi]; exact h1, h2, by rw [List.getElem?_append_left (by rw [tl]; exact hi)]; exact h3, h4⟩
/-- neighbours without a common line -/
theorem stepH_comm {h : Hgt} {c d : Cmp} (s : share c d = false) : tierH (stepH h c) d = tierH h d ∧ stepH (stepH h c) d = stepH (stepH h d) c := by
  unfold share at s
  have n := of_decide_eq_false s
  have n1 : c.1 ≠ d.1 := fun z => n (.inl z)
  have n2 : c.1 ≠ d.2 := fun z => n (.inr (.inl z))
  have n3 : c.2 ≠ d.1 := fun z => n (.inr (.inr (.inl z)))
  have n4 : c.2 ≠ d.2 := fun z => n (.inr (.inr (.inr z)))
  have a1 : tierH (stepH h c) d = tierH h d := by
    unfold tierH stepH
    rw [if_neg (fun z => by rcases z with z | z <;> simp_all), if_neg (fun z => by rcases z with z | z <;> simp_all)]
  have a2 : tierH (stepH h d) c = tierH h c := by
    unfold tierH stepH
    rw [if_neg (fun z => by rcases z with z | z <;> simp_all), if_neg (fun z => by rcases z with z | z <;> simp_all)]
  refine ⟨a1, ?_⟩
  funext l
  show (if l = d.1 ∨ l = d.2 then tierH (stepH h c) d + 1 else stepH h c l) = (if l = c.1 ∨ l = c.2 then tierH (stepH h d) c + 1 else stepH h d l)
  rw [a1, a2]
  unfold stepH
  by_cases h1 : l = d.1 ∨ l = d.2
  · have h2 : ¬ (l = c.1 ∨ l = c.2) := fun z => by
      rcases h1 with h1 | h1 <;> rcases z with z | z <;> simp_all
    rw [if_pos h1, if_neg h2, if_pos h1]
  · rw [if_neg h1, if_neg h1]
/-- the comparers of one layer -/
def layerOf (cs : List Cmp) (ts : List Nat) (t : Nat) : List Cmp := ((cs.zip ts).filter fun p => p.2 == t).map (·.1)
theorem share_comm (c d : Cmp) : share c d = share d c := by
  unfold share
  exact decide_eq_decide.mpr ⟨fun h => by rcases h with h | h | h | h <;> simp [h], fun h => by rcases h with h | h | h | h <;> simp [h]⟩
theorem layer_swap (h : Hgt) (c d : Cmp) (cs : List Cmp) (s : share c d = false) (t : Nat) : (layerOf (c :: d :: cs) (tiersH h (c :: d :: cs)) t).Perm (layerOf (d :: c :: cs) (tiersH h (d :: c :: cs)) t) := by
  obtain ⟨a1, a3⟩ := stepH_comm (h := h) s
  obtain ⟨a2, _⟩ := stepH_comm (h := h) (c := d) (d := c) (by rw [share_comm]; exact s)
  have e1 : tiersH h (c :: d :: cs) = tierH h c :: tierH h d :: tiersH (stepH (stepH h c) d) cs := by
    show tierH h c :: tierH (stepH h c) d :: _ = _
    rw [a1]
  have e2 : tiersH h (d :: c :: cs) = tierH h d :: tierH h c :: tiersH (stepH (stepH h c) d) cs := by
    show tierH h d :: tierH (stepH h d) c :: tiersH (stepH (stepH h d) c) cs = _
    rw [a2, ← a3]
  rw [e1, e2]
  unfold layerOf
  simp only [List.zip_cons_cons, List.filter_cons]
  split <;> split
  · exact List.Perm.swap _ _ _
  · exact List.Perm.refl _
  · exact List.Perm.refl _
  · exact List.Perm.refl _
theorem layer_cons (h : Hgt) (c : Cmp) (cs : List Cmp) (t : Nat) : layerOf (c :: cs) (tiersH h (c :: cs)) t = (if tierH h c = t then [c] else []) ++ layerOf cs (tiersH (stepH h c) cs) t := by
  unfold layerOf
  show List.map _ (List.filter _ ((c, tierH h c) :: cs.zip (tiersH (stepH h c) cs))) = _
  rw [List.filter_cons]
  by_cases e : tierH h c = t
  · rw [if_pos (by simpa using e), if_pos e] <;> rfl
  · rw [if_neg (by simpa using e), if_neg e] <;> rfl
/-- exchanging neighbours without a common line keeps each layer's comparers -/
theorem layer_perm : ∀ (pre : List Cmp) (h : Hgt) (c d : Cmp) (cs : List Cmp) (t : Nat), share c d = false → (layerOf (pre ++ c :: d :: cs) (tiersH h (pre ++ c :: d :: cs)) t).Perm (layerOf (pre ++ d :: c :: cs) (tiersH h (pre ++ d :: c :: cs)) t)
  | [], h, c, d, cs, t, s => layer_swap h c d cs s t
  | p :: pre, h, c, d, cs, t, s => by
    rw [List.cons_append, List.cons_append, layer_cons, layer_cons]
    exact (List.Perm.refl _).append (layer_perm pre (stepH h p) c d cs t s)
end Sw

set_option Elab.async false
set_option linter.all false
set_option maxRecDepth 100000
set_option maxHeartbeats 4000000
namespace Sw
open PySem PySem.Spec PyProof.Rows L2
/-! ## len(set(x)), x a tuple of whole numbers -/
def tLenSetI (K : PySem.W.Frag) (ta : TE) : TE := fun σ H Q => ta σ H fun x H1 => ∃ (l : Addr) (ns : List Int), x = .ref l ∧ SqT K H1 l (ns.map V.int) ∧ ns.length ≤ 1000 ∧ ∀ ks : List Int, ks.Nodup → (∀ k, k ∈ ks ↔ k ∈ ns) → Q (.int ks.length) H1
section
variable {X : Cx}
theorem pe_lenSetI {a : Expr} {ta : TE} {p p2 q pos : Pos} (hc : X.calm = true) (hg : Gl X "len") (hm : X.mg "len" = none) (hg2 : Gl X "set") (hm2 : X.mg "set" = none) (ha : PE X a ta)
    (na : starEach [a] X.env = (false, eval a X.env) :: starEach [] X.env := by rfl) : PE X (.Call (.Name "len" p) [.Call (.Name "set" p2) [a] [] q] [] pos) (tLenSetI X.K ta) := by
  refine ⟨fun pins s σ H Q I h => Call_ (ld_blt I hg hm boot_len (PyProof.Rows.callWith_builtin1 (PyProof.Rows.args_cons ?_ rfl) rfl rfl))⟩
  refine Call_ (ld_blt I hg2 hm2 boot_set (PyProof.Rows.callWith_type1 (PyProof.Rows.args_cons (thn (ha.run pins s σ H _ I h) fun v s1 hv => PyProof.Rows.args_nil ?_) na) na rfl))
  obtain ⟨x, H1, I1, r1, l, ns, rfl, hq, few, q1⟩ := hv
  cases r1
  obtain ⟨its, rv, pt, _⟩ := I1.tuple hq
  refine call_set_tupI ns (I1.ok.hd hc) (show s1.heap.IsTuple l its.toArray from pt) (ints_of_vals rv) (by unfold scanBound; omega) fun g tk c R hcn k => ?_
  obtain ⟨o, es, ep, t, ho, hex, hdt, _, nd, mem, hb, hf, hn, _⟩ := R
  refine PyProof.Rows.args_nil ?_
  have I2 : Inv X pins σ H1 { s1 with heap := g, toks := tk } := I1.kept k
  refine call_len_set ho hex hdt hf (by rw [hn]; have := sizeLine_eq; omega) ⟨.int (es.toList.map keyOf).length, H1, I2.tok _, ⟨_, by rw [List.length_map, Array.length_toList]⟩, q1 _ nd fun j => ?_⟩
  rw [← mem j, decide_eq_true_eq]
theorem md_count : MtR X "list.count" (rCntI X.K) := mt_lcount
end
/-! ## x[::k] of a list, k one or one less than nought -/
theorem pick_one (items : Array Value) : slicePick items none none (some 1) = items := by
  have e : (sliceBounds none none (some 1) items.size) = (((0 : Nat) : Int), ((items.size : Nat) : Int), (1 : Int)) := by
    first
      | rfl
      | simp [sliceBounds]
  unfold slicePick
  rw [e]
  show ((sliceRange ((0 : Nat) : Int) ((items.size : Nat) : Int) 1).filterMap (items[·]?)).toArray = _
  rw [sliceRange_one, Nat.sub_zero]
  have e2 : (List.range items.size).map (0 + ·) = List.range items.size := by
    rw [show ((0 + ·) : Nat → Nat) = id from funext fun k => Nat.zero_add k, List.map_id]
  rw [e2, PySem.W.krv_all]
def tStepL (K : PySem.W.Frag) (te ts : TE) : TE := fun σ H Q => te σ H fun x H1 => tPart ts σ H1 fun o H4 => ∃ k : Int, o = some k ∧ ∃ (a : Addr) (xs : List V), x = .ref a ∧ SqL K H4 a xs ∧ (k = 1 ∨ k = -1) ∧ ∀ p, H4 p = none → Q (.ref p) (upd H4 p (.lst (if k = 1 then xs else xs.reverse)))
section
variable {X : Cx}
theorem pe_stepL {e es : Expr} {te ts : TE} {p3 pos : Pos} (he : PE X e te) (hs : PE X es ts) (hl : ∀ o i, subscripted (.Slice none none (some es) p3) false o i = operate [o, i] (getItem o i) := by intro _ _; with_unfolding_all rfl) :
    PE X (.Subscript e (.Slice none none (some es) p3) pos) (tStepL X.K te ts) := by
  refine ⟨fun pins s σ H Q I h => Subscript_ (thn (he.run pins s σ H _ I h) fun v s1 hv => ?_)⟩
  obtain ⟨x, H1, I1, r1, q1⟩ := hv
  have pst : PO X (some es) (tPart ts) := po_some hs
  refine wpAny_Slice (thn (po_none.run pins s1 σ H1 (fun o H2 => o = none ∧ H2 = H1) I1 ⟨rfl, rfl⟩) fun vl s2 hl2 => ?_)
  obtain ⟨l, H2, I2, pl, rfl, rfl⟩ := hl2
  refine thn (po_none.run pins s2 σ H2 (fun o H3 => o = none ∧ H3 = H2) I2 ⟨rfl, rfl⟩) fun vu s3 hu2 => ?_
  obtain ⟨u, H3, I3, pu, rfl, rfl⟩ := hu2
  refine thn (pst.run pins s3 σ H3 (fun o H4 => ∃ k : Int, o = some k ∧ ∃ (a : Addr) (xs : List V), x = .ref a ∧ SqL X.K H4 a xs ∧ (k = 1 ∨ k = -1) ∧ ∀ p, H4 p = none → Q (.ref p) (upd H4 p (.lst (if k = 1 then xs else xs.reverse)))) I3 q1) fun vs s4 hs4 => ?_
  · obtain ⟨o, H4, I4, ps, k, rfl, a, xs, rfl, hx, hk, q⟩ := hs4
    cases r1
    have I5 : Inv X pins σ H4 { s4 with heap := s4.heap.push { cls := .type "slice", data := .fields #[vl, vu, vs] } } := I4.kept (t' := s4.toks) fun b ob z => Heap.get?_push_of_some _ z
    obtain ⟨its, r, ht, hz⟩ := I5.list hx
    have len := r.length
    show wpAny (model X.prog X.w) X.A (subscriptTail e (.Slice none none (some es) p3) (.ref a) (.ref s4.heap.objs.size)) (EP X pins σ Q) X.xe { s4 with heap := s4.heap.push { cls := .type "slice", data := .fields #[vl, vu, vs] } }
    refine tail_any (ops := [.ref a, .ref s4.heap.objs.size]) ht.isList.typeIs (PySem.slot_list_getitem.lookup) ?_ (hl _ _)
    refine wpAny_getItem_list_slice ht.isList (Heap.IsSliceOf.new _ vl vu vs) pl pu ps (by rcases hk with rfl | rfl <;> decide) ?_ (by rw [List.size_toArray]; omega)
    rcases hk with rfl | rfl
    · rw [pick_one]
      refine ⟨.ref _, _, I5.laid (t' := s4.toks) (o := .lst xs) (fun b ob z => Heap.get?_push_of_some _ z) (Nat.le_refl _) ?_, rfl, q _ (I5.hok.fresh (Nat.le_refl _))⟩
      exact ⟨hz, its, 0, r, Heap.get?_push_size _ rfl⟩
    · rw [PySem.W.krv_pick]
      refine ⟨.ref _, _, I5.laid (t' := s4.toks) (o := .lst xs.reverse) (fun b ob z => Heap.get?_push_of_some _ z) (Nat.le_refl _) ?_, rfl, q _ (I5.hok.fresh (Nat.le_refl _))⟩
      exact ⟨by rw [List.length_reverse]; exact hz, _, 0, r.reverse, Heap.get?_push_size _ rfl⟩
end
/-! ## a comprehension within a comprehension -/
theorem look_map (g : Str → NameKind → NameKind) : ∀ (l : List (Str × NameKind)) (x : Str), (l.map fun p => (p.1, g p.1 p.2)).lookup x = (l.lookup x).map (g x)
  | [], _ => rfl
  | (n, k) :: l, x => by
    rw [List.map_cons, List.lookup_cons, List.lookup_cons]
    cases h : x == n with
    | true =>
      have e : x = n := eq_of_beq h
      rw [e] <;> rfl
    | false => exact look_map g l x
theorem blkOk_in {N : List Str} {sc scope : Scope} {own : List (Str × Nat)} {env : Env} (h : BlkOk N sc scope own) : BlkOk N (relabel sc env) scope own := by
  refine ⟨h.kind, h.uniq, h.ix, fun y hy e => ?_, h.own⟩
  have q := h.free y hy e
  have em : (relabel sc env).names = sc.names.map fun p => (p.1, if (p.2 == NameKind.free && env.scope.kind == .function && env.kindOf p.1 == some .cell) then NameKind.cell else p.2) := by
    unfold relabel
    show List.map _ _ = List.map _ _
    congr 1
    funext p
    obtain ⟨n, k⟩ := p
    show (if _ then _ else _) = _
    split
    · rfl
    · rfl
  rw [em, look_map fun n k => if (k == NameKind.free && env.scope.kind == .function && env.kindOf n == some .cell) then NameKind.cell else k]
  rcases q with q | q
  · rw [q]
    exact .inl (by rfl)
  · rw [q]
    show some (if _ then _ else _) = _ ∨ some (if _ then _ else _) = _
    split
    · exact .inl rfl
    · exact .inr rfl
end Sw

set_option Elab.async false
set_option linter.all false
set_option maxRecDepth 100000
set_option maxHeartbeats 4000000
namespace Sw
open PySem PySem.Spec PyProof.Rows L2 PySem.W
/-! ## max(ns, default=d) -/
theorem ints_reads {h : Heap} : ∀ {vs : List Value} {ns : List Int}, IntsAre vs ns → ReadsAll h vs (ns.map PyData.int) []
  | _, _, .nil => .nil
  | _, _, .cons _ _ r => .cons (as := []) (.int _ _) (ints_reads r)
theorem ints_alike (ns : List Int) : AlikeAll (ns.map PyData.int) := by
  refine ⟨fun x hx y hy => ?_, fun x hx => ?_⟩
  · obtain ⟨a, _, rfl⟩ := List.mem_map.mp hx
    obtain ⟨b, _, rfl⟩ := List.mem_map.mp hy
    rfl
  · obtain ⟨a, _, rfl⟩ := List.mem_map.mp hx
    exact fun z => nomatch z
theorem depth_ints : ∀ ns : List Int, PyData.depthAll (ns.map PyData.int) = 0
  | [] => rfl
  | n :: ns => by
    show max 0 (PyData.depthAll (ns.map PyData.int)) = 0
    rw [depth_ints ns] <;> rfl
theorem fold_max : ∀ (ns : List Int) (n : Int), ns.foldl max n ∈ n :: ns ∧ ∀ y ∈ n :: ns, y ≤ ns.foldl max n
  | [], n => ⟨.head _, fun y hy => by rw [List.mem_singleton.mp hy]; exact Int.le_refl _⟩
  | k :: ns, n => by
    obtain ⟨h1, h2⟩ := fold_max ns (max n k)
    show ns.foldl max (max n k) ∈ n :: k :: ns ∧ _
    constructor
    · rcases List.mem_cons.mp h1 with h | h
      · rw [h]
        have : max n k = n ∨ max n k = k := by omega
        rcases this with e | e <;> rw [e]
        · exact .head _
        · exact .tail _ (.head _)
      · exact .tail _ (.tail _ h)
    · intro y hy
      have h3 := h2 _ (List.mem_cons_self (a := max n k))
      show y ≤ ns.foldl max (max n k)
      rcases List.mem_cons.mp hy with h | h
      · omega
      · rcases List.mem_cons.mp h with h | h
        · omega
        · exact h2 y (.tail _ h)
def rMaxDI (K : PySem.W.Frag) : List V → List V → Hp → VK → Prop := fun vs zs H Q => ∃ (a : Addr) (ns : List Int) (d : Int), vs = [.ref a] ∧ zs = [.int d] ∧ SqL K H a (ns.map V.int) ∧ (ns = [] → Q (.int d) H) ∧ ∀ m, m ∈ ns → (∀ y ∈ ns, y ≤ m) → Q (.int m) H
section
variable {X : Cx}
theorem cl_maxDI (hc : X.calm = true) (hu : X.A.units + 64 < cLine) : CallRK X (.builtin "max") ["default"] (rMaxDI X.K) := by
  intro pins s σ H vs zs us ws Q I r1 r2 h
  obtain ⟨a, ns, d, rfl, rfl, hs, q0, q1⟩ := h
  obtain ⟨its, rv, hl, _⟩ := I.list hs
  rw [Vals.ref1 r1]
  obtain ⟨u, rfl, t, rfl⟩ : ∃ u, ws = [u] ∧ ∃ t, u = .int d t := by
    cases r2 with
    | cons r rs =>
      cases rs
      exact ⟨_, rfl, r⟩
  refine max_list_default (as := []) (I.ok.hd hc) hl.isList (ints_reads rv.ints) (ints_alike ns) (by rw [depth_ints]; omega) (fun e h' tk hk => ?_) (fun y ys i v h' tk bs e hv hrd hk => ?_)
  · exact ⟨.int d, H, I.kept hk, ⟨t, rfl⟩, q0 (List.map_eq_nil_iff.mp e)⟩
  · cases ns with
    | nil => cases e
    | cons n ns =>
      cases e
      rw [maxD_ints] at hrd
      obtain ⟨t2, rfl, _⟩ := reads_int_inv hrd
      obtain ⟨f1, f2⟩ := fold_max ns n
      exact ⟨.int _, H, I.kept hk, ⟨t2, rfl⟩, q1 _ f1 f2⟩
end
end Sw

set_option Elab.async false
set_option linter.all false
set_option maxRecDepth 100000
set_option maxHeartbeats 4000000
namespace Sw
open PySem PySem.Spec PyProof.Rows L2
/-! ## t[::k] of a pair, k one or one less than nought -/
section
variable {prog : Program} {w : World} {A : Around} {E : Value → Shared → Prop} {s : Shared}
theorem applied_one2 {sl : Addr} {tk : Tok} {Q : Int × Int × Nat → Shared → Prop} (hs : s.heap.IsSliceOf sl .none .none (.int 1 tk)) (h : Q (0, 1, 2) s) :
    wpAny (model prog w) A (Builtin.Slice.sliceApplied (.ref sl) (pure (2 : Int))) Q E s := by
  obtain ⟨os, hos, hcs, hds⟩ := id hs
  unfold Builtin.Slice.sliceApplied Builtin.Slice.sliceFields
  refine wpAny_bind (wpAny_bind ?_)
  refine wpAny_field hos hds (x := .none) rfl ?_
  refine wpAny_bind (wpAny_field hos hds (x := .none) rfl ?_)
  refine wpAny_bind (wpAny_field hos hds (x := .int 1 tk) rfl ?_)
  refine wpAny_pure ?_
  refine wpAny_bind (HT.slicePart_ (.int 1 tk) ?_)
  show wpAny _ _ (if ((1 : Int) == 0) = true then _ else _) _ _ s
  rw [if_neg (by decide)]
  refine wpAny_bind (HT.slicePart_ .none ?_)
  refine wpAny_bind (HT.slicePart_ .none ?_)
  refine wpAny_bind (wpAny_pure ?_)
  exact wpAny_pure h
theorem item_one2 {t sl : Addr} {u v : Value} {tk : Tok} {Q : Value → Shared → Prop} (ht : IsTup s.heap t #[u, v]) (hs : s.heap.IsSliceOf sl .none .none (.int 1 tk))
    (h : Q (.ref t) s) : wpAny (model prog w) A (getItem (.ref t) (.ref sl)) Q E s := by
  obtain ⟨os, hos, hcs, hds⟩ := id hs
  have kind : s.TypeIs (.ref sl) "slice" := ⟨os, hos, hcs⟩
  unfold getItem
  try with_reducible refine wpAny_holding ?_
  first
    | refine wpAny_bind (wpAny_pure ?_)
    | skip
  refine wpAny_bind (wpAny_sequenceKey ht.typeIs (by decide) ?_)
  refine wpAny_bind (wpAny_callSpecial?_slot (name := Str.ofString "__getitem__") ht.typeIs slot_tuple_getitem ?_)
  refine wpAny_call_entry slot_tuple_getitem ht.typeIs entry_tuple_getitem ?_ (args_tuple_getitem _ _)
  show wpAny _ _ (Builtin.Tuple.tupleItemsOf (.ref t) >>= _) _ _ s
  refine wpAny_bind (tupleItemsOf_ ht ?_)
  refine wpAny_bind (wpAny_typeOf kind ?_)
  rw [if_pos (by decide)]
  refine wpAny_bind (applied_one2 hs ?_)
  show wpAny _ _ (if ((0 : Int) == 0 && (1 : Int) == 1 && (2 : Nat) == 2) = true then _ else _) _ _ s
  rw [if_pos (by decide)]
  refine wpAny_bind (m := Builtin.Tuple.tupleIsExact _) ?_
  unfold Builtin.Tuple.tupleIsExact
  refine wpAny_bind (wpAny_typeOf ht.typeIs ?_)
  refine wpAny_pure ?_
  rw [if_pos (by decide)]
  refine wpAny_bind (wpAny_rule ?_)
  exact wpAny_pure ⟨_, rfl, wpAny_pure h⟩
end
/-- t[::k], t a pair: itself, or turned -/
def tStepT (K : PySem.W.Frag) (te ts : TE) : TE := fun σ H Q => te σ H fun x H1 => tPart ts σ H1 fun o H4 => ∃ k : Int, o = some k ∧ ∃ (a : Addr) (y z : V), x = .ref a ∧ SqT K H4 a [y, z] ∧ ((k = 1 ∧ Q (.ref a) H4) ∨ (k = -1 ∧ ∀ p, H4 p = none → Q (.ref p) (upd H4 p (.tup [z, y]))))
section
variable {X : Cx}
theorem pe_stepT {e es : Expr} {te ts : TE} {p3 pos : Pos} (he : PE X e te) (hs : PE X es ts) (hl : ∀ o i, subscripted (.Slice none none (some es) p3) false o i = operate [o, i] (getItem o i) := by intro _ _; with_unfolding_all rfl) :
    PE X (.Subscript e (.Slice none none (some es) p3) pos) (tStepT X.K te ts) := by
  refine ⟨fun pins s σ H Q I h => Subscript_ (thn (he.run pins s σ H _ I h) fun v s1 hv => ?_)⟩
  obtain ⟨x, H1, I1, r1, q1⟩ := hv
  have pst : PO X (some es) (tPart ts) := po_some hs
  refine wpAny_Slice (thn (po_none.run pins s1 σ H1 (fun o H2 => o = none ∧ H2 = H1) I1 ⟨rfl, rfl⟩) fun vl s2 hl2 => ?_)
  obtain ⟨l, H2, I2, pl, rfl, rfl⟩ := hl2
  refine thn (po_none.run pins s2 σ H2 (fun o H3 => o = none ∧ H3 = H2) I2 ⟨rfl, rfl⟩) fun vu s3 hu2 => ?_
  obtain ⟨u, H3, I3, pu, rfl, rfl⟩ := hu2
  refine thn (pst.run pins s3 σ H3 (fun o H4 => ∃ k : Int, o = some k ∧ ∃ (a : Addr) (y z : V), x = .ref a ∧ SqT X.K H4 a [y, z] ∧ ((k = 1 ∧ Q (.ref a) H4) ∨ (k = -1 ∧ ∀ p, H4 p = none → Q (.ref p) (upd H4 p (.tup [z, y]))))) I3 q1) fun vs s4 hs4 => ?_
  obtain ⟨o, H4, I4, ps, k, rfl, a, y, z, rfl, hx, hk⟩ := hs4
  cases r1
  cases pl
  cases pu
  cases ps with
  | int i tk =>
    have I5 : Inv X pins σ H4 { s4 with heap := s4.heap.push { cls := .type "slice", data := .fields #[.none, .none, .int k tk] } } := I4.kept (t' := s4.toks) fun b ob z => Heap.get?_push_of_some _ z
    obtain ⟨its, r, ht, hz⟩ := I5.tuple hx
    obtain ⟨y', z', rfl, ry, rz⟩ : ∃ y' z', its = [y', z'] ∧ RelV y y' ∧ RelV z z' := by
      cases r with
      | cons r1 r2 =>
        cases r2 with
        | cons r3 r4 =>
          cases r4
          exact ⟨_, _, rfl, r1, r3⟩
    show wpAny (model X.prog X.w) X.A (subscriptTail e (.Slice none none (some es) p3) (.ref a) (.ref s4.heap.objs.size)) (EP X pins σ Q) X.xe { s4 with heap := s4.heap.push { cls := .type "slice", data := .fields #[.none, .none, .int k tk] } }
    refine tail_any (ops := [.ref a, .ref s4.heap.objs.size]) ht.typeIs slot_tuple_getitem.lookup ?_ (hl _ _)
    rcases hk with ⟨rfl, q⟩ | ⟨rfl, q⟩
    · exact item_one2 ht (Heap.IsSliceOf.new _ .none .none _) ⟨.ref a, H4, I5, rfl, q⟩
    · refine item_back2 ht (Heap.IsSliceOf.new _ .none .none _) ?_
      refine ⟨.ref _, _, I5.laid (t' := s4.toks) (o := .tup [z, y]) (fun b ob q => Heap.get?_push_of_some _ q) (Nat.le_refl _) ?_, rfl, q _ (I5.hok.fresh (Nat.le_refl _))⟩
      refine ⟨by show 2 ≤ sizeLine; rw [sizeLine_eq]; decide, [z', y'], .cons rz (.cons ry .nil), IsTup.new _ _⟩
end
/-! ## xs.extend(t), t a tuple -/
def rExtT (K : PySem.W.Frag) : V → List V → Hp → VK → Prop := fun x vs H Q => ∃ l b xs zs, x = .ref l ∧ vs = [.ref b] ∧ H l = some (.lst xs) ∧ SqT K H b zs ∧ xs.length + zs.length ≤ 1000000 ∧ Q .non (upd H l (.lst (xs ++ zs)))
theorem list_extend_tupG (l : Addr) (items : Array Value) (n : Nat) (b : Addr) (items2 : Array Value) (hs0 : ¬(!items.isEmpty && Builtin.List.listTooLong (items.size + items2.size)) = true) (hs1 : items.size ≤ sizeLine) (hs2 : items.size + items2.size ≤ sizeLine + 1) :
    Meets (Builtin.«list.extend» ⟨[.ref l, .ref b], []⟩) (fun _ R s => s.heap.get? l = some { cls := .type "list", dict := none, data := .seq items n, slots := #[] } ∧ IsTup s.heap b items2 ∧ R (.ok (.ret Value.none)) { s with heap := s.heap.update l (Obj.mapSeq fun x => x ++ items2), toks := s.toks }) :=
  .of_wp fun prog w A R s h => by
    obtain ⟨hp, g, d, tk, os⟩ := s
    obtain ⟨hl, ⟨o, hb, hc, n2, hd⟩, h⟩ := h
    obtain ⟨oc, od, odt, osl⟩ := o
    cases hc
    cases hd
    have f1 := AutoSeq1.idx_int; have f2 := AutoSeq1.sub_tuple_tuple; have f3 := AutoSeq1.sub_list_list; have f4 := AutoSeq1.sub_tuple_list; have f5 := AutoSeq1.sub_list_tuple
    have hz' : (items ++ items2).size ≤ sizeLine + 1 := by rw [Array.size_append]; exact hs2
    wp_walk using (wpAny_updateSeq hl rfl (hz := hs1) (_hz' := hz')), AutoSeq1.wpAny_loadPart' hl, AutoSeq1.wpAny_loadPart' hb; exact ⟨_, rfl, h⟩
section
variable {X : Cx}
theorem md_extT : MtR X "list.extend" (rExtT X.K) := by
  intro pins s σ H x vs v us Q I rx rv h
  obtain ⟨l, b, xs, zs, rfl, rfl, hH, hB, hz, q⟩ := h
  cases rx
  obtain ⟨u, rfl, ru⟩ := rv.one
  cases ru
  obtain ⟨z, its, n, r, hl, e⟩ := I.lstM hH
  obtain ⟨its2, r2, hl2, z2⟩ := I.tuple hB
  have l1 := r.length
  have l2 := r2.length
  have sl := sizeLine_eq
  have hsz : its.toArray.size + its2.toArray.size ≤ sizeLine := by rw [List.size_toArray, List.size_toArray]; omega
  have hlong : ¬ (!its.toArray.isEmpty && Builtin.List.listTooLong (its.toArray.size + its2.toArray.size)) = true := by
    rw [notLongL hsz, Bool.and_false]
    exact Bool.false_ne_true
  refine call_meets PySem.F.slot_list_extend ⟨_, e, rfl⟩ PySem.F.entry_list_extend (PySem.F.args_list_extend_2 _ _)
    (list_extend_tupG l its.toArray n b its2.toArray hlong (by rw [List.size_toArray]; omega) (by omega)) ⟨e, hl2, ?_⟩
  refine ⟨.non, _, I.lset (its' := its ++ its2) hH e (by simp) (r.append r2) ?_, rfl, q⟩
  rw [List.length_append]
  omega
theorem md_indexL : MtR X "list.index" (rIndex X.K) := mt_index
end
/-! ## a < b < c < d -/
def tChain3 (r r' r'' : R2) (ta tb tc td : TE) : TE := fun σ H Q => ta σ H fun x H1 => tb σ H1 fun y H2 => r x y H2 fun z H3 => ∃ k, z = .bl k ∧ (if k = true then tc σ H3 fun w' H4 => r' y w' H4 fun z2 H5 => ∃ k2, z2 = .bl k2 ∧ (if k2 = true then td σ H5 fun u H6 => r'' w' u H6 Q else Q (.bl false) H5) else Q (.bl false) H3)
section
variable {X : Cx} {a b c d : Expr} {ta tb tc td : TE} {pos : Pos}
theorem pt_chain3 {op op' op'' : CmpOp} {r r' r'' : R2} (ho : OpR X (compareOp op) r) (ho' : OpR X (compareOp op') r') (ho'' : OpR X (compareOp op'') r'') (ha : PE X a ta) (hb : PE X b tb) (hc : PE X c tc) (hd : PE X d td)
    (hm : lastMarks [op, op', op''] [b, c, d] = false := by with_unfolding_all rfl) : PT X (.Compare a [op, op', op''] [b, c, d] pos) (tTest (tChain3 r r' r'' ta tb tc td)) := by
  refine ⟨fun pins s σ H Q I h => ?_⟩
  refine isTrue_chain (thn (ha.run pins s σ H _ I h) fun v s1 ⟨x, H1, I1, r1, q1⟩ => test_link (thn (hb.run pins s1 σ H1 _ I1 q1) fun u s2 ⟨y, H2, I2, r2, q2⟩ =>
    thn (ho pins s2 σ H2 x y v u _ I2 r1 r2 q2) fun d s3 ⟨z, H3, I3, r3, k, e, q3⟩ => ?_)) hm
  subst e
  cases r3
  refine wpAny_truthy_bool ?_
  cases k with
  | false =>
    obtain ⟨k', e', q'⟩ := q3
    cases e'
    exact ite_ff ⟨H3, I3, q'⟩
  | true =>
    refine ite_tt (test_link (thn (hc.run pins s3 σ H3 _ I3 q3) fun w' s4 ⟨z', H4, I4, r4, q4⟩ => thn (ho' pins s4 σ H4 y z' u w' _ I4 r2 r4 q4) fun d' s5 ⟨z2, H5, I5, r5, k2, e2, q5⟩ => ?_))
    subst e2
    cases r5
    refine wpAny_truthy_bool ?_
    cases k2 with
    | false =>
      obtain ⟨k', e', q'⟩ := q5
      cases e'
      exact ite_ff ⟨H5, I5, q'⟩
    | true =>
      refine ite_tt (test_last (thn (hd.run pins s5 σ H5 _ I5 q5) fun w2 s6 ⟨z6, H6, I6, r6, q6⟩ => thn (ho'' pins s6 σ H6 z' z6 w' w2 _ I6 r4 r6 q6) fun d2 s7 ⟨z7, H7, I7, r7, k3, e3, q7⟩ => ?_))
      subst e3
      cases r7
      exact wpAny_truthy_bool ⟨H7, I7, q7⟩
end
end Sw

set_option Elab.async false
set_option linter.all false
set_option maxRecDepth 100000
set_option maxHeartbeats 4000000
namespace Sw
open PySem PySem.Spec PyProof.Rows L2
/-! ## try: .. except A: .. except B: .., nothing passed on -/
def wNo : WX := fun _ _ _ _ => False
theorem takes_no {X : Cx} : L2.Takes X wNo := fun _ _ ⟨_, _, _, _, _, _, _, _, _, _, _, _, _, _, _, _, w⟩ => w.elim
def tTryM (K : PySem.W.Frag) (l : List (Value × (Addr → Value → Option Addr → TS))) (tb : WX → TS) : TS := fun D σ H => tb (wMany K wNo D l) D σ H
/-! ## int(b) -/
def kInt1 : List V → Hp → VK → Prop := fun xs H Q => (∃ i, xs = [.int i] ∧ Q (.int i) H) ∨ ∃ k, xs = [.bl k] ∧ Q (.int (if k then 1 else 0)) H
theorem cl_int1 {X : Cx} : CallR X (.type "int") kInt1 := call_int1
end Sw

set_option Elab.async false
set_option linter.all false
set_option maxRecDepth 100000
set_option maxHeartbeats 4000000
namespace Sw
open PySem PySem.Spec PyProof.Rows L2
/-! ## sum(lists, []) -/
section
variable {prog : Program} {w : World} {A : Around} {R : Result → Shared → Prop} {E : Value → Shared → Prop}
def catFrom (its : Nat → Array Value) : Nat → Nat → Array Value → Array Value
  | _, 0, acc => acc
  | i, k + 1, acc => catFrom its (i + 1) k (acc ++ its i)
theorem catFrom_size (its : Nat → Array Value) : ∀ (k i : Nat) (acc : Array Value), acc.size ≤ (catFrom its i k acc).size
  | 0, _, _ => Nat.le_refl _
  | k + 1, i, acc => by
    have := catFrom_size its k (i + 1) (acc ++ its i)
    rw [Array.size_append] at this
    show acc.size ≤ (catFrom its (i + 1) k (acc ++ its i)).size
    omega
theorem codeAny_sum_cat {I ax : Addr} {items : Array Value} (hh : A.in1.handled = none) (hne : ax ≠ I) (hv : Nat → Addr) (its : Nat → Array Value) (hi : ∀ i v, items[i]? = some v → v = Value.ref (hv i)) (S : Addr) (hSI : S ≠ I) (hSa : S ≠ ax) :
    ∀ (k i : Nat) (s : Shared) (p : Addr) (acc : Array Value) (m c : Nat), items.size - i = k → i ≤ items.size → (s.heap.IsListIter I ax i ∧ s.heap.IsList ax items) →
      s.heap.get? S = some { cls := .type "list", dict := none, data := .seq #[.ref p] c, slots := #[] } → IsL s.heap p acc m → p ≠ I → p ≠ S →
      (∀ j, i ≤ j → j < items.size → ∃ m, IsL s.heap (hv j) (its j) m ∧ hv j ≠ I ∧ hv j ≠ S) → (catFrom its i k acc).size ≤ sizeLine →
      (∀ h' tk p' m', (∀ b o, b ≠ I → b ≠ S → s.heap.get? b = some o → h'.get? b = some o) → IsL h' p' (catFrom its i k acc) m' → ((k = 0 ∧ p' = p) ∨ I < p') → R (.ok (.ret (.ref p'))) { s with heap := h', toks := tk }) →
      codeAny (model prog w) A (.builtin "sum.loop" ⟨[.ref I, .ref S, rawInt 2, rawInt 0], []⟩) R s := by
  have W := Walks.list (prog := prog) (w := w) (A := A.in1) hh I ax hne items
  have hSw : S ∉ [I] := by simp [hSI]
  intro k
  induction k with
  | zero =>
    intro i s p acc m c hk hi' hst hS hp hpI hpS hits hsz hR
    have hin : i = items.size := by omega
    subst hin
    refine codeAny_builtin F.entry_sum_loop ?_
    rw [Around.under_plainId F.plain_sum_loop _]
    show wpAny _ A.in1 (seqItems? (.ref S) >>= _) _ _ s
    refine wpAny_bind (wpAny_seqItems hS rfl ?_)
    show wpAny _ A.in1 (tryCatch (pyNext (.ref I)) _ >>= _) _ _ s
    refine wpAny_bind (wpAny_tryCatch (W.done s _ _ hst fun h' tk hk' => ?_))
    exact wpAny_pure (hR h' tk p m (fun b o h1 _ e => hk' b o (by simpa using h1) e) (hk' p _ (by simpa using hpI) hp) (.inl ⟨rfl, rfl⟩))
  | succ k ih =>
    intro i s p acc m c hk hi' hst hS hp hpI hpS hits hsz hR
    have hlt : i < items.size := by omega
    refine codeAny_builtin F.entry_sum_loop ?_
    rw [Around.under_plainId F.plain_sum_loop _]
    show wpAny _ A.in1 (seqItems? (.ref S) >>= _) _ _ s
    refine wpAny_bind (wpAny_seqItems hS rfl ?_)
    show wpAny _ A.in1 (tryCatch (pyNext (.ref I)) _ >>= _) _ _ s
    refine wpAny_bind (wpAny_tryCatch (W.item i s _ _ hlt hst fun v h' tk hP hst' hk' => ?_))
    obtain rfl := hi i v hP
    have hS' := hk' S _ hSw hS
    have hp' := hk' p _ (by simpa using hpI) hp
    obtain ⟨mj, hj, hjI, hjS⟩ := hits i (Nat.le_refl _) hlt
    have hj' := hk' (hv i) _ (by simpa using hjI) hj
    have big := catFrom_size its k (i + 1) (acc ++ its i)
    have big2 : (catFrom its (i + 1) k (acc ++ its i)).size ≤ sizeLine := hsz
    rw [Array.size_append] at big
    have fits : acc.size + (its i).size ≤ sizeLine := Nat.le_trans big big2
    show wpAny _ A.in1 ((holding [Value.ref (hv i)] (binaryOp .Add (.ref p) (.ref (hv i)))).attempt >>= _) _ _ _
    refine wpAny_bind (wpAny_attempt (wpAny_holding (PySem.P.add_list hp' hj' ?_ fits)))
    show wpAny _ A.in1 (updateSeq S (fun _ => #[.ref h'.objs.size]) >>= _) _ _ _
    have hSp := Heap.get?_push_of_some { cls := .type "list", data := .seq (acc ++ its i) } hS'
    have hnew : IsL (h'.push { cls := .type "list", data := .seq (acc ++ its i) }) h'.objs.size (acc ++ its i) 0 := Heap.get?_push_size _ rfl
    refine wpAny_bind ?_
    refine wpAny_updateSeq hSp rfl ?_
    have hS2 := Heap.get?_update_self (Obj.mapSeq fun _ => #[Value.ref h'.objs.size]) hSp rfl
    refine wpAny_bind (wpAny_letGo ?_)
    refine wpAny_bind ?_
    have hSlt : S < h'.objs.size := Heap.lt_size hS'
    have hIlt : I < h'.objs.size := by
      obtain ⟨⟨_, e, _⟩, _⟩ := hst'
      exact Heap.lt_size e
    have keep : ∀ b o, b ≠ S → h'.get? b = some o → (((h'.push { cls := .type "list", data := .seq (acc ++ its i) }).update S (Obj.mapSeq fun _ => #[Value.ref h'.objs.size])).update S (Obj.mapSeq fun _ => #[Value.ref h'.objs.size])).get? b = some o := fun b o hb e =>
      (Heap.get?_update_other _ _ (Ne.symm hb)).trans ((Heap.get?_update_other _ _ (Ne.symm hb)).trans (Heap.get?_push_of_some _ e))
    refine wpAny_updateSeq hS2 rfl (wpAny_pure ⟨plainId_quiet F.plain_sum_loop _, ih (i + 1) _ h'.objs.size (acc ++ its i) 0 _ (by omega) hlt (W.frame _ h' _ hst' fun b hb o e => keep b o ?_ e) (Heap.get?_update_self _ hS2 rfl) ?_ (Nat.ne_of_gt hIlt) (Nat.ne_of_gt hSlt) (fun j h1 h2 => ?_) big2 fun h'' tk'' p'' m'' hk'' hl'' hn'' => ?_⟩)
    · rcases List.mem_cons.mp hb with rfl | hb
      · exact fun z => hSI z.symm
      · rw [List.mem_singleton.mp hb]
        exact fun z => hSa z.symm
    · exact (Heap.get?_update_other _ _ (Nat.ne_of_lt hSlt)).trans ((Heap.get?_update_other _ _ (Nat.ne_of_lt hSlt)).trans hnew)
    · obtain ⟨m2, e2, n1, n2⟩ := hits j (by omega) h2
      exact ⟨m2, keep _ _ n2 (hk' _ _ (by simpa using n1) e2), n1, n2⟩
    · refine hR h'' tk'' p'' m'' (fun b o h1 h2 e => hk'' b o h1 h2 (keep b o h2 (hk' b o (by simpa using h1) e))) hl'' (.inr ?_)
      rcases hn'' with ⟨_, rfl⟩ | h
      · exact hIlt
      · exact h
theorem sub_ls : isSubtype (.type "list") (.type "str") = pure false := by rw [isSubtype_type]; kernel_rfl
theorem sub_lb : isSubtype (.type "list") (.type "bytes") = pure false := by rw [isSubtype_type]; kernel_rfl
theorem sub_la : isSubtype (.type "list") (.type "bytearray") = pure false := by rw [isSubtype_type]; kernel_rfl
theorem call_sum_cat {s : Shared} {l st : Addr} {items : Array Value} {Q : Value → Shared → Prop} {m : Nat} (hh : A.handled = none) (hl : s.heap.IsList l items) (hv : Nat → Addr) (its : Nat → Array Value) (hi : ∀ i v, items[i]? = some v → v = Value.ref (hv i))
    (hs : IsL s.heap st #[] m) (hits : ∀ j, j < items.size → ∃ m, IsL s.heap (hv j) (its j) m) (hsz : (catFrom its 0 items.size #[]).size ≤ sizeLine)
    (h : ∀ h' tk p' m', (∀ b o, s.heap.get? b = some o → h'.get? b = some o) → IsL h' p' (catFrom its 0 items.size #[]) m' → ((items.size = 0 ∧ p' = st) ∨ s.heap.objs.size ≤ p') → Q (.ref p') { s with heap := h', toks := tk }) :
    wpAny (model prog w) A (call (.builtin "sum") [.ref l, .ref st]) Q E s := by
  refine call_function_tree F.kind_sum F.plain_sum F.entry_sum (by unfold argsOk; kernel_rfl) ?_
  unfold Builtin.«sum»
  simp only [List.length_cons, List.length_nil]
  rw [if_neg (by decide)]
  refine wpAny_bind (wpAny_of_eq (show Builtin.Builtins.bindParams "sum" ["start"] 0 ⟨[.ref st], []⟩ = pure [some (.ref st)] from rfl) ?_)
  refine wpAny_bind (wpAny_pyIter_list hl ?_)
  refine wpAny_bind (wpAny_pure ?_)
  have hlt : l < s.heap.objs.size := by obtain ⟨_, e, _⟩ := hl; exact Heap.lt_size e
  have hst1 := Heap.get?_push_of_some { cls := .type "list_iterator", data := .fields #[.ref l, .int 0 0] } hs
  simp only [List.forIn_cons, List.forIn_nil]
  refine wpAny_bind (wpAny_bind (wpAny_bind (wpAny_isInstance (T := "list") (b := false) ⟨_, hst1, rfl⟩ sub_ls ?_)))
  simp only [Bool.false_eq_true, if_false]
  refine wpAny_pure (wpAny_bind (wpAny_bind (wpAny_isInstance (T := "list") (b := false) ⟨_, hst1, rfl⟩ sub_lb ?_)))
  simp only [Bool.false_eq_true, if_false]
  refine wpAny_pure (wpAny_bind (wpAny_bind (wpAny_isInstance (T := "list") (b := false) ⟨_, hst1, rfl⟩ sub_la ?_)))
  simp only [Bool.false_eq_true, if_false]
  refine wpAny_pure (wpAny_pure ?_)
  refine wpAny_bind (wpAny_newObj_type ?_)
  have sz : (s.heap.push { cls := .type "list_iterator", data := .fields #[.ref l, .int 0 0] }).objs.size = s.heap.objs.size + 1 := Heap.size_push ..
  have old : ∀ (o : Obj) {b : Addr} {u : Obj}, s.heap.get? b = some u → ((s.heap.push { cls := .type "list_iterator", data := .fields #[.ref l, .int 0 0] }).push o).get? b = some u := fun o b u e => Heap.get?_push_of_some _ (Heap.get?_push_of_some _ e)
  refine wpAny_pure ⟨plainId_quiet F.plain_sum_loop _, codeAny_sum_cat (A := A) hh (Nat.ne_of_lt hlt) hv its hi _ ?_ ?_ items.size 0 _ st #[] m 0 rfl (Nat.zero_le _) ⟨⟨_, Heap.get?_push_of_some _ (Heap.get?_push_size _ rfl), rfl, rfl⟩, ?_⟩ (Heap.get?_push_size _ rfl) (old _ hs) ?_ ?_ (fun j _ hj => ?_) hsz fun h' tk p' m' hk hl' hn => ?_⟩
  · show (s.heap.push _).objs.size ≠ s.heap.objs.size
    rw [sz]
    exact Nat.succ_ne_self _
  · show (s.heap.push _).objs.size ≠ l
    rw [sz]
    exact Nat.ne_of_gt (Nat.lt_succ_of_lt hlt)
  · exact (hl.push _).push _
  · exact Nat.ne_of_lt (Heap.lt_size hs)
  · rw [sz]
    exact Nat.ne_of_lt (Nat.lt_succ_of_lt (Heap.lt_size hs))
  · obtain ⟨m2, e⟩ := hits j hj
    exact ⟨m2, old _ e, Nat.ne_of_lt (Heap.lt_size e), by rw [sz]; exact Nat.ne_of_lt (Nat.lt_succ_of_lt (Heap.lt_size e))⟩
  · refine h h' tk p' m' (fun b o e => hk b o (Nat.ne_of_lt (Heap.lt_size e)) (by rw [sz]; exact Nat.ne_of_lt (Nat.lt_succ_of_lt (Heap.lt_size e))) (old _ e)) hl' ?_
    rcases hn with h1 | h1
    · exact .inl h1
    · exact .inr (Nat.le_of_lt h1)
end
theorem vals_rfs : ∀ {ls : List Addr} {its : List Value}, Vals (Rfs ls) its → its = ls.map Value.ref
  | [], _, h => by
    cases h
    rfl
  | a :: ls, _, h => by
    cases h with
    | cons r rs =>
      cases r
      rw [vals_rfs rs] <;> rfl
theorem cat_vals {vsOf : Nat → List Value} {yss : List (List V)} (hv : ∀ j ys, yss[j]? = some ys → Vals ys (vsOf j)) : ∀ (k i : Nat) (acc : List Value) (done : List V), i + k = yss.length → Vals done acc →
    ∃ w : List Value, catFrom (fun j => (vsOf j).toArray) i k acc.toArray = w.toArray ∧ Vals (done ++ (yss.drop i).flatten) w
  | 0, i, acc, done, e, h => ⟨acc, rfl, by rw [List.drop_eq_nil_of_le (by omega), List.flatten_nil, List.append_nil]; exact h⟩
  | k + 1, i, acc, done, e, h => by
    have hi : i < yss.length := by omega
    obtain ⟨w, e1, e2⟩ := cat_vals hv k (i + 1) (acc ++ vsOf i) (done ++ yss[i]) (by omega) (h.append (hv i yss[i] (List.getElem?_eq_getElem hi)))
    refine ⟨w, ?_, ?_⟩
    · rw [← e1]
      show catFrom _ (i + 1) k (acc.toArray ++ (vsOf i).toArray) = _
      rw [show acc.toArray ++ (vsOf i).toArray = (acc ++ vsOf i).toArray by simp]
    · rw [List.drop_eq_getElem_cons hi, List.flatten_cons, ← List.append_assoc]
      exact e2
/-- sum(lists, []): a new list of all, or the list handed in where there is none -/
def rSumL (K : PySem.W.Frag) : List V → Hp → VK → Prop := fun vs H Q => ∃ (l st : Addr) (ls : List Addr) (yss : List (List V)), vs = [.ref l, .ref st] ∧ SqL K H l (Rfs ls) ∧ H st = some (.lst []) ∧ All2 (fun a ys => H a = some (.lst ys)) ls yss ∧
  yss.flatten.length ≤ sizeLine ∧ ∀ H' p, Same H H' → H' p = some (.lst yss.flatten) → (H p = none ∨ (yss = [] ∧ p = st)) → Q (.ref p) H'
theorem cr_sumL {X : Cx} (hc : X.calm = true) : CallR X (.builtin "sum") (rSumL X.K) := by
  intro pins s σ H xs us Q I r h
  obtain ⟨l, st, ls, yss, rfl, hl, hs, hys, hsz, q⟩ := h
  obtain ⟨its0, rv, hL, _⟩ := I.list hl
  have e0 := vals_rfs rv
  subst e0
  obtain rfl : us = [Value.ref l, Value.ref st] := by
    cases r with
    | cons r1 rs =>
      cases rs with
      | cons r2 rs =>
        cases rs
        cases r1
        cases r2
        rfl
  obtain ⟨_, e0, n0, r0, _, hst⟩ := I.lstM hs
  cases r0
  have ll := hys.length
  have hval : ∀ j, ∃ a : List Value, ∀ ys, yss[j]? = some ys → Vals ys a ∧ ∃ m, IsL s.heap (ls.getD j 0) a.toArray m := fun j => by
    by_cases hj : j < yss.length
    · have gy := List.getElem?_eq_getElem hj
      obtain ⟨a, ga⟩ := get_of (xs := ls) (i := j) (by omega)
      obtain ⟨ys, gy2, ha⟩ := hys.getL ga
      obtain ⟨_, its, n, rr, _, e⟩ := I.lstM ha
      refine ⟨its, fun ys' gy' => ?_⟩
      rw [gy2] at gy'
      cases gy'
      have ea : ls.getD j 0 = a := by rw [List.getD_eq_getElem?_getD, ga] <;> rfl
      rw [ea]
      exact ⟨rr, n, e⟩
    · exact ⟨[], fun ys gy => absurd (List.getElem?_eq_some_iff.mp gy).1 hj⟩
  have hv : ∀ j ys, yss[j]? = some ys → Vals ys (Classical.choose (hval j)) := fun j ys g => (Classical.choose_spec (hval j) ys g).1
  obtain ⟨w, ew, vw⟩ := cat_vals hv yss.length 0 [] [] (Nat.zero_add _) .nil
  rw [List.drop_zero, List.nil_append] at vw
  have lw := vw.length
  have sz : (ls.map Value.ref).toArray.size = yss.length := by rw [List.size_toArray, List.length_map, ll]
  refine call_sum_cat (m := n0) (I.ok.hd hc) hL.isList (fun j => ls.getD j 0) (fun j => (Classical.choose (hval j)).toArray) (fun i v g => ?_) hst (fun j hj => ?_) ?_ fun h' tk p' m' hk hl' hn => ?_
  · rw [List.getElem?_toArray, List.getElem?_map] at g
    cases g2 : ls[i]? with
    | none =>
      rw [g2] at g
      exact nomatch g
    | some a =>
      rw [g2] at g
      rw [List.getD_eq_getElem?_getD, g2]
      exact (Option.some.inj g).symm
  · rw [sz] at hj
    exact (Classical.choose_spec (hval j) _ (List.getElem?_eq_getElem hj)).2
  · rw [sz, show (#[] : Array Value) = ([] : List Value).toArray from rfl, ew, List.size_toArray]
    omega
  · rw [sz, show (#[] : Array Value) = ([] : List Value).toArray from rfl, ew] at hl'
    rcases hn with ⟨n1, rfl⟩ | big
    · rw [sz] at n1
      have en : yss = [] := List.eq_nil_of_length_eq_zero n1
      refine ⟨.ref p', H, I.kept hk, rfl, q H p' (.refl H) (by rw [en]; exact hs) (.inr ⟨en, rfl⟩)⟩
    · have nf : H p' = none := I.hok.fresh big
      exact ⟨.ref p', upd H p' (.lst yss.flatten), I.laid hk big ⟨hsz, w, m', vw, hl'⟩, rfl, q _ p' (same_new nf) upd_same (.inl nf)⟩
end Sw

set_option Elab.async false
set_option linter.all false
set_option maxRecDepth 100000
set_option maxHeartbeats 4000000
namespace Sw
open PySem PySem.Spec PyProof.Rows L2
abbrev oBOr : R2 := rI0 fun i j => .int (Builtin.bitOr i j)
abbrev oBXor : R2 := rI0 fun i j => .int (Builtin.bitXor i j)
abbrev oShlW : R2 := rI CShl fun i j => .int (i * 2 ^ j.toNat)
abbrev oInv : V → Hp → VK → Prop := rU fun i => .int (Builtin.bitNot i)
/-! ## All rows of noughts and ones at once: a bit for each -/
def maskN {α : Type} (f : α → Bool) : List α → Nat
  | [] => 0
  | x :: l => (f x).toNat + 2 * maskN f l
section
variable {α β : Type}
theorem tb_cons (b : Bool) (m i : Nat) : (b.toNat + 2 * m).testBit i = match i with | 0 => b | i + 1 => m.testBit i := by
  cases i with
  | zero =>
    rw [Nat.testBit_zero]
    cases b
    · show decide ((0 + 2 * m) % 2 = 1) = false
      rw [decide_eq_false (by omega)]
    · show decide ((1 + 2 * m) % 2 = 1) = true
      rw [decide_eq_true (by omega)]
  | succ i =>
    rw [Nat.testBit_succ]
    have : (b.toNat + 2 * m) / 2 = m := by cases b <;> simp <;> omega
    rw [this]
theorem cons_and (a b : Bool) (m k : Nat) : (a.toNat + 2 * m) &&& (b.toNat + 2 * k) = (a && b).toNat + 2 * (m &&& k) := by
  apply Nat.eq_of_testBit_eq
  intro i
  rw [Nat.testBit_and, tb_cons, tb_cons, tb_cons]
  cases i with
  | zero => rfl
  | succ i =>
    show (m.testBit i && k.testBit i) = (m &&& k).testBit i
    rw [Nat.testBit_and]
theorem mask_and (f g : α → Bool) : ∀ l : List α, maskN f l &&& maskN g l = maskN (fun x => f x && g x) l
  | [] => by
    show 0 &&& 0 = 0
    decide
  | x :: l => by
    show ((f x).toNat + 2 * maskN f l) &&& ((g x).toNat + 2 * maskN g l) = _
    rw [cons_and, mask_and f g l] <;> rfl
theorem mask_split (f g : α → Bool) : ∀ l : List α, maskN f l = maskN (fun x => f x && g x) l + maskN (fun x => f x && !g x) l
  | [] => rfl
  | x :: l => by
    show (f x).toNat + 2 * maskN f l = ((f x && g x).toNat + 2 * _) + ((f x && !g x).toNat + 2 * _)
    have e : (f x).toNat = (f x && g x).toNat + (f x && !g x).toNat := by cases f x <;> cases g x <;> rfl
    have := mask_split f g l
    omega
theorem mask_or' (f g : α → Bool) : ∀ l : List α, maskN (fun x => f x || g x) l + maskN (fun x => f x && g x) l = maskN f l + maskN g l
  | [] => rfl
  | x :: l => by
    show ((f x || g x).toNat + 2 * _) + ((f x && g x).toNat + 2 * _) = ((f x).toNat + 2 * _) + ((g x).toNat + 2 * _)
    have e : (f x || g x).toNat + (f x && g x).toNat = (f x).toNat + (g x).toNat := by cases f x <;> cases g x <;> rfl
    have := mask_or' f g l
    omega
theorem mask_xor' (f g : α → Bool) : ∀ l : List α, maskN (fun x => f x != g x) l + 2 * maskN (fun x => f x && g x) l = maskN f l + maskN g l
  | [] => rfl
  | x :: l => by
    show ((f x != g x).toNat + 2 * _) + 2 * ((f x && g x).toNat + 2 * _) = ((f x).toNat + 2 * _) + ((g x).toNat + 2 * _)
    have e : (f x != g x).toNat + 2 * (f x && g x).toNat = (f x).toNat + (g x).toNat := by cases f x <;> cases g x <;> rfl
    have := mask_xor' f g l
    omega
theorem i_and (f g : α → Bool) (l : List α) : Builtin.bitAnd (maskN f l : Int) (maskN g l : Int) = (maskN (fun x => f x && g x) l : Nat) := by
  rw [bitAnd_pp (Int.natCast_nonneg _) (Int.natCast_nonneg _), Int.toNat_natCast, Int.toNat_natCast, mask_and]
theorem i_or (f g : α → Bool) (l : List α) : Builtin.bitOr (maskN f l : Int) (maskN g l : Int) = (maskN (fun x => f x || g x) l : Nat) := by
  rw [bitOr_and, i_and]
  have := mask_or' f g l
  omega
theorem i_xor (f g : α → Bool) (l : List α) : Builtin.bitXor (maskN f l : Int) (maskN g l : Int) = (maskN (fun x => f x != g x) l : Nat) := by
  rw [bitXor_and, i_and]
  have := mask_xor' f g l
  omega
theorem i_andnot (f g : α → Bool) (l : List α) : Builtin.bitAnd (maskN f l : Int) (Builtin.bitNot (maskN g l : Int)) = (maskN (fun x => f x && !g x) l : Nat) := by
  rw [bitAnd_not, i_and]
  have := mask_split f g l
  omega
theorem mask_zero {f : α → Bool} : ∀ {l : List α}, maskN f l = 0 ↔ ∀ x ∈ l, f x = false
  | [] => ⟨fun _ _ h => (nomatch h), fun _ => rfl⟩
  | x :: l => by
    have ih := mask_zero (f := f) (l := l)
    constructor
    · intro h
      have h' : (f x).toNat + 2 * maskN f l = 0 := h
      have h1 : (f x).toNat = 0 := by omega
      have h2 : maskN f l = 0 := by omega
      intro y hy
      cases hy with
      | head => cases e : f x with
        | false => rfl
        | true => rw [e] at h1; cases h1
      | tail _ hy => exact ih.mp h2 y hy
    · intro h
      show (f x).toNat + 2 * maskN f l = 0
      rw [h x (.head _), ih.mpr fun y hy => h y (.tail _ hy)] <;> rfl
theorem mask_congr {f g : α → Bool} : ∀ {l : List α}, (∀ x ∈ l, f x = g x) → maskN f l = maskN g l
  | [], _ => rfl
  | x :: l, h => by
    show (f x).toNat + 2 * maskN f l = (g x).toNat + 2 * maskN g l
    rw [h x (.head _), mask_congr fun y hy => h y (.tail _ hy)]
theorem mask_app (f : α → Bool) : ∀ l m : List α, maskN f (l ++ m) = maskN f l + 2 ^ l.length * maskN f m
  | [], m => by
    show maskN f m = 0 + 2 ^ 0 * maskN f m
    omega
  | x :: l, m => by
    show (f x).toNat + 2 * maskN f (l ++ m) = (f x).toNat + 2 * maskN f l + 2 ^ (l.length + 1) * maskN f m
    rw [mask_app f l m, Nat.pow_succ, Nat.mul_add, Nat.mul_comm (2 ^ l.length) 2, Nat.mul_assoc]
    omega
theorem mask_map (f : β → Bool) (g : α → β) : ∀ l : List α, maskN f (l.map g) = maskN (fun x => f (g x)) l
  | [] => rfl
  | x :: l => by
    show (f (g x)).toNat + 2 * maskN f (l.map g) = _
    rw [mask_map f g l] <;> rfl
theorem mask_lt (f : α → Bool) : ∀ l : List α, maskN f l < 2 ^ l.length
  | [] => by
    show 0 < 2 ^ 0
    decide
  | x :: l => by
    show (f x).toNat + 2 * maskN f l < 2 ^ (l.length + 1)
    have := mask_lt f l
    have : (f x).toNat ≤ 1 := by cases f x <;> decide
    rw [Nat.pow_succ]
    omega
theorem mask_ones (k : Nat) : ∀ n : Nat, maskN (fun _ : Nat => true) (List.replicate n k) = 2 ^ n - 1
  | 0 => rfl
  | n + 1 => by
    show 1 + 2 * maskN _ (List.replicate n k) = _
    rw [mask_ones k n, Nat.pow_succ]
    have := Nat.two_pow_pos n
    omega
theorem mask_true : ∀ l : List α, maskN (fun _ => true) l = 2 ^ l.length - 1
  | [] => rfl
  | x :: l => by
    show 1 + 2 * maskN _ l = 2 ^ (l.length + 1) - 1
    rw [mask_true l, Nat.pow_succ]
    have := Nat.two_pow_pos l.length
    omega
/-- the first one -/
theorem mask_first (f : α → Bool) : ∀ l : List α, maskN f l ≠ 0 → ∃ (t : Nat) (x : α), l[t]? = some x ∧ l.find? f = some x ∧ maskN f l - (maskN f l &&& (maskN f l - 1)) = 2 ^ t
  | [], h => absurd rfl h
  | x :: l, h => by
    cases e : f x with
    | true =>
      refine ⟨0, x, rfl, by rw [List.find?_cons_of_pos (h := e)], ?_⟩
      have em : maskN f (x :: l) = true.toNat + 2 * maskN f l := by
        show (f x).toNat + _ = _
        rw [e]
      have em1 : maskN f (x :: l) - 1 = false.toNat + 2 * maskN f l := by
        rw [em]
        show 1 + 2 * maskN f l - 1 = 0 + 2 * maskN f l
        omega
      rw [em1, em, cons_and]
      show 1 + 2 * maskN f l - (0 + 2 * (maskN f l &&& maskN f l)) = 1
      rw [Nat.and_self]
      omega
    | false =>
      have em : maskN f (x :: l) = false.toNat + 2 * maskN f l := by
        show (f x).toNat + _ = _
        rw [e]
      have h2 : maskN f l ≠ 0 := fun z => h (by rw [em, z] <;> rfl)
      obtain ⟨t, y, h3, h4, h5⟩ := mask_first f l h2
      refine ⟨t + 1, y, h3, by rw [List.find?_cons_of_neg (h := by rw [e]; decide), h4], ?_⟩
      have em1 : maskN f (x :: l) - 1 = true.toNat + 2 * (maskN f l - 1) := by
        rw [em]
        show 0 + 2 * maskN f l - 1 = 1 + 2 * (maskN f l - 1)
        omega
      rw [em1, em, cons_and, Nat.pow_succ, ← h5]
      show 0 + 2 * maskN f l - (0 + 2 * (maskN f l &&& (maskN f l - 1))) = _
      omega
end
theorem low_bit {α : Type} {f : α → Bool} {l : List α} (h : maskN f l ≠ 0) : ∃ (t : Nat) (x : α), l[t]? = some x ∧ l.find? f = some x ∧ Builtin.bitAnd (maskN f l : Int) (-(maskN f l : Int)) = ((2 ^ t : Nat) : Int) := by
  obtain ⟨t, x, h1, h2, h3⟩ := mask_first f l h
  refine ⟨t, x, h1, h2, ?_⟩
  have e : -(maskN f l : Int) = Builtin.bitNot ((maskN f l - 1 : Nat) : Int) := by
    show _ = -((maskN f l - 1 : Nat) : Int) - 1
    omega
  rw [e, bitAnd_not, bitAnd_pp (Int.natCast_nonneg _) (Int.natCast_nonneg _), Int.toNat_natCast, Int.toNat_natCast, ← h3]
  have : maskN f l &&& (maskN f l - 1) ≤ maskN f l := Nat.and_le_left
  omega
theorem bits_pow (t : Nat) : Builtin.Int.intBits ((2 ^ t : Nat) : Int) = t + 1 := by
  have h0 : ((2 ^ t : Nat) : Int) ≠ 0 := by
    have := Nat.two_pow_pos t
    omega
  unfold Builtin.Int.intBits
  rw [if_neg (by simpa using h0), Int.natAbs_natCast, Nat.log2_two_pow]
/-! ## Rows of noughts and ones through a web -/
theorem bits_goC {r : Row} {c : Cmp} (h : Bits r) : Bits (goC r c) := by
  unfold goC
  split
  · intro x hx
    have z : ∀ k, at0 r k = 0 ∨ at0 r k = 1 := fun k => by
      by_cases hk : k < r.length
      · have := at0_get hk
        exact h _ (List.mem_of_getElem? this)
      · left
        unfold at0
        rw [List.getD_eq_getElem?_getD, List.getElem?_eq_none (by omega)] <;> rfl
    cases mem_set hx with
    | inl hx => cases mem_set hx with
      | inl hx => exact h x hx
      | inr e => rw [e]; exact z _
    | inr e => rw [e]; exact z _
  · exact h
theorem bits_gone {cs : List Cmp} : ∀ {r : Row}, Bits r → Bits (gone cs r) := by
  induction cs with
  | nil => intro r h; exact h
  | cons c cs ih => intro r h; exact ih (bits_goC h)
theorem bits_at {r : Row} (h : Bits r) (k : Nat) : at0 r k = 0 ∨ at0 r k = 1 := by
  by_cases hk : k < r.length
  · exact h _ (List.mem_of_getElem? (at0_get hk))
  · left
    unfold at0
    rw [List.getD_eq_getElem?_getD, List.getElem?_eq_none (by omega)] <;> rfl
def one0 (r : Row) (k : Nat) : Bool := at0 r k == 1
def colV (n : Nat) (cs : List Cmp) (k : Nat) : Int := (maskN (fun r => one0 (gone cs r) k) (bares n) : Nat)
def cols (n : Nat) (cs : List Cmp) : Row := (List.range n).map (colV n cs)
theorem cols_len (n : Nat) (cs : List Cmp) : (cols n cs).length = n := by
  unfold cols
  rw [List.length_map, List.length_range]
theorem cols_at {n : Nat} {cs : List Cmp} {k : Nat} (h : k < n) : at0 (cols n cs) k = colV n cs k := by
  unfold at0 cols
  rw [List.getD_eq_getElem?_getD, List.getElem?_map, List.getElem?_range h] <;> rfl
/-- whether the row is exchanged at lines a, b behind cs -/
def gtB (cs : List Cmp) (a b : Nat) (r : Row) : Bool := decide (at0 (gone cs r) a > at0 (gone cs r) b)
theorem col_gt {n : Nat} {cs : List Cmp} {a b : Nat} : Builtin.bitAnd (colV n cs a) (Builtin.bitNot (colV n cs b)) = (maskN (gtB cs a b) (bares n) : Nat) := by
  unfold colV
  rw [i_andnot, mask_congr]
  intro r hr
  have hb := bits_gone (cs := cs) (bares_ok hr).2
  unfold gtB one0
  rcases bits_at hb a with h | h <;> rcases bits_at hb b with h2 | h2 <;> rw [h, h2] <;> rfl
theorem col_behind {n : Nat} {cs : List Cmp} {c : Cmp} (ok : CmpOk n c) : ((cols n cs).set c.1 (Builtin.bitAnd (colV n cs c.1) (colV n cs c.2))).set c.2 (Builtin.bitOr (colV n cs c.1) (colV n cs c.2)) = cols n (cs ++ [c]) := by
  have g : ∀ k, colV n (cs ++ [c]) k = (maskN (fun r => one0 (goC (gone cs r) c) k) (bares n) : Nat) := fun k => by
    unfold colV
    rw [mask_congr]
    intro r _
    rw [gone_snoc]
  apply List.ext_getElem
  · rw [List.length_set, List.length_set, cols_len, cols_len]
  · intro k h1 h2
    have hk : k < n := by rw [cols_len] at h2; exact h2
    have e0 : ∀ (ds : List Cmp) (h : k < (cols n ds).length), (cols n ds)[k] = colV n ds k := fun ds h => by
      have := cols_at (cs := ds) hk
      rw [← this]
      unfold at0
      rw [List.getD_eq_getElem?_getD, List.getElem?_eq_getElem h] <;> rfl
    have e2 := e0 _ h2
    have e1 := e0 cs
    rw [e2, List.getElem_set, List.getElem_set, g, e1]
    have val : ∀ r ∈ bares n, at0 (goC (gone cs r) c) k = if c.2 = k then max (at0 (gone cs r) c.1) (at0 (gone cs r) c.2) else if c.1 = k then min (at0 (gone cs r) c.1) (at0 (gone cs r) c.2) else at0 (gone cs r) k := fun r hr => by
      have hl : (gone cs r).length = n := by rw [gone_len, (bares_ok hr).1]
      have a1 := ok.1
      have a2 := ok.2.1
      have a3 := ok.2.2
      unfold goC
      split
      · rename_i gt
        unfold at0
        rw [List.getD_eq_getElem?_getD, List.getElem?_set, List.length_set]
        by_cases z : c.2 = k
        · rw [if_pos z, if_pos z, if_pos (by omega)]
          show (gone cs r).getD c.1 0 = max _ _
          unfold at0 at gt
          omega
        · rw [if_neg z, if_neg z, List.getElem?_set]
          by_cases y : c.1 = k
          · rw [if_pos y, if_pos y, if_pos (by omega)]
            show (gone cs r).getD c.2 0 = min _ _
            unfold at0 at gt
            omega
          · rw [if_neg y, if_neg y] <;> rfl
      · rename_i gt
        by_cases z : c.2 = k
        · rw [if_pos z, ← z]
          omega
        · rw [if_neg z]
          by_cases y : c.1 = k
          · rw [if_pos y, ← y]
            omega
          · rw [if_neg y]
    have bt : ∀ r ∈ bares n, (at0 (gone cs r) c.1 = 0 ∨ at0 (gone cs r) c.1 = 1) ∧ (at0 (gone cs r) c.2 = 0 ∨ at0 (gone cs r) c.2 = 1) := fun r hr => ⟨bits_at (bits_gone (bares_ok hr).2) _, bits_at (bits_gone (bares_ok hr).2) _⟩
    by_cases z : c.2 = k
    · rw [if_pos z]
      unfold colV
      rw [i_or, mask_congr]
      intro r hr
      unfold one0
      rw [val r hr, if_pos z]
      obtain ⟨h1 | h1, h2 | h2⟩ := bt r hr <;> rw [h1, h2] <;> rfl
    · rw [if_neg z]
      by_cases y : c.1 = k
      · rw [if_pos y]
        unfold colV
        rw [i_and, mask_congr]
        intro r hr
        unfold one0
        rw [val r hr, if_neg z, if_pos y]
        obtain ⟨h1 | h1, h2 | h2⟩ := bt r hr <;> rw [h1, h2] <;> rfl
      · rw [if_neg y]
        unfold colV
        rw [mask_congr]
        intro r hr
        unfold one0
        rw [val r hr, if_neg z, if_neg y]
/-! ### making them -/
def mkC (j k : Nat) : Int := (maskN (fun m : Nat => m.testBit k) (List.range (2 ^ j)) : Nat)
def mkCs (j : Nat) : Row := (List.range j).map (mkC j)
theorem mkC_step {j k : Nat} (h : k < j) : Builtin.bitOr (mkC j k) (mkC j k * 2 ^ (2 ^ j)) = mkC (j + 1) k := by
  unfold mkC
  have e : List.range (2 ^ (j + 1)) = List.range (2 ^ j) ++ (List.range (2 ^ j)).map (2 ^ j + ·) := by rw [Nat.pow_succ, Nat.mul_two, List.range_add]
  have lt := mask_lt (fun m : Nat => m.testBit k) (List.range (2 ^ j))
  rw [List.length_range] at lt
  rw [bitOr_comm, or_low (Int.natCast_nonneg _) (Int.natCast_nonneg _) (by rw [← PySem.W.kbt_cast]; exact Int.ofNat_lt.mpr lt), e, mask_app, mask_map, List.length_range]
  rw [mask_congr (f := fun x => (2 ^ j + x).testBit k) (g := fun m => m.testBit k) fun x _ => Nat.testBit_two_pow_add_gt h x]
  rw [cast_parts, ← Int.natCast_add, Nat.add_comm]
theorem mkC_new (j : Nat) : ((1 : Int) * 2 ^ (2 ^ j) - 1) * 2 ^ (2 ^ j) = mkC (j + 1) j := by
  unfold mkC
  have e : List.range (2 ^ (j + 1)) = List.range (2 ^ j) ++ (List.range (2 ^ j)).map (2 ^ j + ·) := by rw [Nat.pow_succ, Nat.mul_two, List.range_add]
  rw [e, mask_app, mask_map, List.length_range]
  have c1 : maskN (fun x => (2 ^ j + x).testBit j) (List.range (2 ^ j)) = maskN (fun _ => true) (List.range (2 ^ j)) := mask_congr fun x hx => by
    rw [Nat.testBit_two_pow_add_eq, Nat.testBit_lt_two_pow (List.mem_range.mp hx)] <;> rfl
  have c2 : maskN (fun m : Nat => m.testBit j) (List.range (2 ^ j)) = 0 := mask_zero.mpr fun x hx => Nat.testBit_lt_two_pow (List.mem_range.mp hx)
  rw [c1, c2, mask_true, List.length_range, Int.one_mul]
  have hp := Nat.two_pow_pos (2 ^ j)
  have e3 : (2 : Int) ^ (2 ^ j) - 1 = ((2 ^ 2 ^ j - 1 : Nat) : Int) := by
    rw [← PySem.W.kbt_cast]
    omega
  rw [e3, cast_parts, Nat.zero_add]
theorem mkCs_cols (n : Nat) : mkCs n = cols n [] := by
  unfold mkCs cols
  apply List.map_congr_left
  intro k hk
  have hk' := List.mem_range.mp hk
  unfold mkC colV bares
  rw [mask_map, mask_congr]
  intro m _
  unfold one0
  show m.testBit k = (at0 (bareR n m) k == 1)
  have e : at0 (bareR n m) k = ((m / 2 ^ k % 2 : Nat) : Int) := by
    unfold at0 bareR
    rw [List.getD_eq_getElem?_getD, List.getElem?_map, List.getElem?_range hk'] <;> rfl
  rw [e, Nat.testBit_eq_decide_div_mod_eq]
  rw [Bool.eq_iff_iff, decide_eq_true_eq, beq_iff_eq]
  omega
def firstB (n : Nat) (f : Row → Bool) : Option Row := (bares n).find? f
theorem mkC_lt (j k : Nat) : mkC j k < 2 ^ (2 ^ j) ∧ 0 ≤ mkC j k := by
  unfold mkC
  have lt := mask_lt (fun m : Nat => m.testBit k) (List.range (2 ^ j))
  rw [List.length_range] at lt
  rw [← PySem.W.kbt_cast]
  omega
/-- what stands at places that b holds of -/
def pick {α : Type} (b : Nat → Bool) : Nat → List α → List α
  | _, [] => []
  | k, x :: l => (if b k = true then [x] else []) ++ pick b (k + 1) l
theorem pick_snoc {α : Type} (b : Nat → Bool) (x : α) : ∀ (l : List α) (k : Nat), pick b k (l ++ [x]) = pick b k l ++ (if b (k + l.length) = true then [x] else [])
  | [], k => by
    show (if b k = true then [x] else []) ++ [] = [] ++ _
    rw [List.append_nil, List.nil_append, List.length_nil, Nat.add_zero]
  | y :: l, k => by
    show (if b k = true then [y] else []) ++ pick b (k + 1) (l ++ [x]) = (if b k = true then [y] else []) ++ pick b (k + 1) l ++ _
    rw [pick_snoc b x l (k + 1), List.append_assoc, List.length_cons, show k + 1 + l.length = k + (l.length + 1) by omega]
theorem pick_take {α : Type} {b : Nat → Bool} {l : List α} {i : Nat} {x : α} (h : l[i]? = some x) : pick b 0 (l.take (i + 1)) = pick b 0 (l.take i) ++ (if b i = true then [x] else []) := by
  have hi : i < l.length := (List.getElem?_eq_some_iff.mp h).1
  rw [List.take_add_one, h]
  show pick b 0 (l.take i ++ [x]) = _
  rw [pick_snoc, List.length_take, Nat.zero_add, Nat.min_eq_left (by omega)]
theorem pick_len {α : Type} (b : Nat → Bool) : ∀ (l : List α) (k : Nat), (pick b k l).length ≤ l.length
  | [], _ => Nat.le_refl _
  | x :: l, k => by
    show ((if b k = true then [x] else []) ++ pick b (k + 1) l).length ≤ l.length + 1
    have := pick_len b l (k + 1)
    rw [List.length_append]
    split
    · rw [List.length_singleton]
      omega
    · rw [List.length_nil]
      omega
theorem pick_all2 {α β : Type} {R : α → β → Prop} (b : Nat → Bool) {l : List α} {m : List β} (h : All2 R l m) : ∀ k, All2 R (pick b k l) (pick b k m) := by
  induction h with
  | nil => intro k; exact .nil
  | cons r _ ih =>
    intro k
    show All2 R ((if b k = true then [_] else []) ++ _) ((if b k = true then [_] else []) ++ _)
    refine All2.append ?_ (ih (k + 1))
    split
    · exact .one r
    · exact .nil
theorem pick_mem {α : Type} {b : Nat → Bool} {x : α} : ∀ {l : List α} {k : Nat}, x ∈ pick b k l → x ∈ l
  | [], _, h => h
  | y :: l, k, h => by
    have h' : x ∈ (if b k = true then [y] else []) ++ pick b (k + 1) l := h
    rcases List.mem_append.mp h' with h | h
    · split at h
      · rw [List.mem_singleton.mp h]
        exact .head _
      · cases h
    · exact .tail _ (pick_mem h)
def natL (ts : List Nat) : List V := ts.map fun (t : Nat) => V.int (t : Int)
theorem nat_len (l : List Nat) : (natL l).length = l.length := List.length_map ..
def stirsAt (cs : List Cmp) (k : Nat) (r : Row) : Bool := match cs[k]? with
  | some c => decide (at0 (gone (cs.take k) r) c.1 > at0 (gone (cs.take k) r) c.2)
  | none => false
def stirB (cs : List Cmp) (rs : List Row) : List Bool := (List.range cs.length).map fun k => rs.any (stirsAt cs k)
end Sw

set_option Elab.async false
set_option linter.all false
set_option maxRecDepth 100000
set_option maxHeartbeats 4000000
namespace Sw
open PySem PySem.Spec PyProof.Rows L2
/-! ## Layers and chains -/
def manyL (ts : List Nat) : Nat := ts.foldr (fun t m => max (t + 1) m) 0
theorem manyL_lt : ∀ {ts : List Nat} {t : Nat}, t ∈ ts → t < manyL ts
  | [], _, h => nomatch h
  | s :: ts, t, h => by
    show t < max (s + 1) (manyL ts)
    rcases List.mem_cons.mp h with h | h
    · omega
    · have := manyL_lt h
      omega
theorem manyL_mem : ∀ {ts : List Nat} {m : Nat}, manyL ts = m + 1 → m ∈ ts
  | [], m, h => by cases h
  | s :: ts, m, h => by
    have h' : max (s + 1) (manyL ts) = m + 1 := h
    by_cases e : s = m
    · rw [e]
      exact .head _
    · exact .tail _ (manyL_mem (by omega))
theorem manyL_app : ∀ (ts us : List Nat), manyL (ts ++ us) = max (manyL ts) (manyL us)
  | [], us => by
    show manyL us = max 0 (manyL us)
    omega
  | s :: ts, us => by
    show max (s + 1) (manyL (ts ++ us)) = max (max (s + 1) (manyL ts)) (manyL us)
    rw [manyL_app ts us]
    omega
theorem manyL_nil {ts : List Nat} (h : manyL ts = 0) : ts = [] := by
  cases ts with
  | nil => rfl
  | cons s ts =>
    have h' : max (s + 1) (manyL ts) = 0 := h
    omega
def manyT (cs : List Cmp) : Nat := manyL (tiers cs)
theorem tiers_len (cs : List Cmp) : (tiers cs).length = cs.length := tiersH_len _ cs
theorem tiers_take (cs : List Cmp) (i : Nat) : tiers (cs.take i) = (tiers cs).take i := tiersH_take _ cs i
theorem tier_back {cs : List Cmp} {q t : Nat} {c : Cmp} (hc : cs[q]? = some c) (h : (tiers cs)[q]? = some (t + 1)) : ∃ (k : Nat) (d : Cmp), k < q ∧ cs[k]? = some d ∧ (tiers cs)[k]? = some t ∧ share d c = true := by
  have g := tiers_get hc
  rw [h] at g
  have e : t + 1 = max (hgtH (fun _ => 0) (cs.take q) c.1) (hgtH (fun _ => 0) (cs.take q) c.2) := Option.some.inj g
  obtain ⟨l, hl, hh⟩ : ∃ l, (l = c.1 ∨ l = c.2) ∧ hgtH (fun _ => 0) (cs.take q) l = t + 1 := by
    by_cases z : hgtH (fun _ => 0) (cs.take q) c.1 = t + 1
    · exact ⟨_, .inl rfl, z⟩
    · exact ⟨_, .inr rfl, by omega⟩
  rcases (hgt_spec (cs.take q) l).2 with z | ⟨i, d, t', h1, h2, h3, h4⟩
  · omega
  · have hi : i < (cs.take q).length := (List.getElem?_eq_some_iff.mp h1).1
    rw [List.length_take] at hi
    have iq : i < q := by omega
    rw [List.getElem?_take_of_lt iq] at h1
    rw [tiers_take, List.getElem?_take_of_lt iq] at h3
    refine ⟨i, d, iq, h1, by rw [h3]; congr 1; omega, ?_⟩
    unfold share
    rw [decide_eq_true_eq]
    rcases hl with hl | hl <;> rcases h2 with h2 | h2
    · exact .inl (by omega)
    · exact .inr (.inr (.inl (by omega)))
    · exact .inr (.inl (by omega))
    · exact .inr (.inr (.inr (by omega)))
theorem tier_le {cs : List Cmp} {i t : Nat} (h : (tiers cs)[i]? = some t) : t ≤ manyL ((tiers cs).take i) := by
  cases t with
  | zero => exact Nat.zero_le _
  | succ t =>
    have hi : i < cs.length := by
      have := (List.getElem?_eq_some_iff.mp h).1
      rw [tiers_len] at this
      exact this
    obtain ⟨c, hc⟩ := get_of hi
    obtain ⟨k, d, hk, _, ht, _⟩ := tier_back hc h
    have : t ∈ (tiers cs).take i := List.mem_of_getElem? (i := k) (by rw [List.getElem?_take_of_lt hk]; exact ht)
    exact manyL_lt this
/-! ### layers -/
def layI (cs : List Cmp) (i : Nat) (u : Nat) : List Cmp := layerOf (cs.take i) ((tiers cs).take i) u
theorem layI_step {cs : List Cmp} {i t : Nat} {c : Cmp} (hc : cs[i]? = some c) (ht : (tiers cs)[i]? = some t) (u : Nat) : layI cs (i + 1) u = layI cs i u ++ (if t = u then [c] else []) := by
  have hi : i < cs.length := (List.getElem?_eq_some_iff.mp hc).1
  unfold layI layerOf
  rw [List.take_add_one, List.take_add_one (l := tiers cs), hc, ht]
  show List.map _ (List.filter _ ((cs.take i ++ [c]).zip ((tiers cs).take i ++ [t]))) = _
  rw [List.zip_append (by rw [List.length_take, List.length_take, tiers_len]), List.filter_append, List.map_append]
  congr 1
  show List.map _ (List.filter _ [(c, t)]) = _
  by_cases e : t = u
  · rw [List.filter_cons_of_pos (by simpa using e), if_pos e] <;> rfl
  · rw [List.filter_cons_of_neg (by simpa using e), if_neg e] <;> rfl
theorem layI_nil {cs : List Cmp} {i u : Nat} (h : manyL ((tiers cs).take i) ≤ u) : layI cs i u = [] := by
  unfold layI layerOf
  rw [List.map_eq_nil_iff, List.filter_eq_nil_iff]
  rintro ⟨d, t⟩ hd
  have := (List.of_mem_zip hd).2
  have := manyL_lt this
  simp only [beq_iff_eq]
  omega
def layL (cs : List Cmp) (i M : Nat) : List (List Cmp) := (List.range M).map (layI cs i)
def layersOf (cs : List Cmp) : List (List Cmp) := layL cs cs.length (manyT cs)
theorem layL_len (cs : List Cmp) (i M : Nat) : (layL cs i M).length = M := by
  unfold layL
  rw [List.length_map, List.length_range]
theorem layL_get {cs : List Cmp} {i M u : Nat} (h : u < M) : (layL cs i M)[u]? = some (layI cs i u) := by
  unfold layL
  rw [List.getElem?_map, List.getElem?_range h] <;> rfl
theorem layL_set {cs : List Cmp} {i M t : Nat} {c : Cmp} (hc : cs[i]? = some c) (ht : (tiers cs)[i]? = some t) : (layL cs i M).set t (layI cs i t ++ [c]) = layL cs (i + 1) M := by
  apply List.ext_getElem
  · rw [List.length_set, layL_len, layL_len]
  · intro u h1 h2
    have hu : u < M := by rw [layL_len] at h2; exact h2
    have e : ∀ (j : Nat) (h : u < (layL cs j M).length), (layL cs j M)[u] = layI cs j u := fun j h => by
      have := layL_get (cs := cs) (i := j) hu
      rw [List.getElem?_eq_getElem h] at this
      exact Option.some.inj this
    rw [List.getElem_set, e, e, layI_step hc ht]
    by_cases z : t = u
    · rw [if_pos z, if_pos z, z]
    · rw [if_neg z, if_neg z, List.append_nil]
theorem layL_zero (cs : List Cmp) (M : Nat) : layL cs 0 M = (List.range M).map fun _ => [] := by
  unfold layL
  apply List.map_congr_left
  intro u _
  rfl
theorem layL_more (cs : List Cmp) (i : Nat) : layL cs i (manyL ((tiers cs).take i) + 1) = layL cs i (manyL ((tiers cs).take i)) ++ [[]] := by
  unfold layL
  rw [List.range_succ, List.map_append]
  show _ ++ [layI cs i _] = _
  rw [layI_nil (Nat.le_refl _)]
theorem layersOf_eq (cs : List Cmp) : layersOf cs = (List.range (manyT cs)).map (layerOf cs (tiers cs)) := by
  unfold layersOf layL
  apply List.map_congr_left
  intro u _
  unfold layI
  rw [List.take_length, ← tiers_len, List.take_length]
/-! ### a chain, from its end -/
def tAt (cs : List Cmp) (k : Nat) : Int := ((tiers cs).getD k 0 : Nat)
def cAt (cs : List Cmp) (k : Nat) : Cmp := cs.getD k (0, 0)
def topT (cs : List Cmp) : Int := ((manyT cs - 1 : Nat) : Int)
def chOk (cs : List Cmp) (k : Nat) (st : List Nat × Int) : Prop := tAt cs k = st.2 ∧ ∀ q, st.1.getLast? = some q → share (cAt cs k) (cAt cs q) = true
instance (cs : List Cmp) (k : Nat) (st : List Nat × Int) : Decidable (chOk cs k st) := by
  unfold chOk
  cases h : st.1.getLast? with
  | none => exact if e : tAt cs k = st.2 then isTrue ⟨e, fun q z => nomatch z⟩ else isFalse fun z => e z.1
  | some q => exact if e : tAt cs k = st.2 ∧ share (cAt cs k) (cAt cs q) = true then isTrue ⟨e.1, fun q' z => by cases z; exact e.2⟩ else isFalse fun z => e ⟨z.1, z.2 q rfl⟩
def chStep (cs : List Cmp) (k : Nat) (st : List Nat × Int) : List Nat × Int := if chOk cs k st then (st.1 ++ [k], st.2 - 1) else st
def chSt (cs : List Cmp) : Nat → List Nat × Int
  | 0 => ([], topT cs)
  | i + 1 => chStep cs (cs.length - 1 - i) (chSt cs i)
def chainOf (cs : List Cmp) : List Nat := (chSt cs cs.length).1.reverse
structure ChI (cs : List Cmp) (i : Nat) (st : List Nat × Int) : Prop where
  w : st.2 = topT cs - st.1.length
  at' : ∀ (j k : Nat), st.1[j]? = some k → cs.length - i ≤ k ∧ k < cs.length ∧ tAt cs k = topT cs - j
  nb : ∀ (j k k' : Nat), st.1[j]? = some k → st.1[j + 1]? = some k' → k' < k ∧ share (cAt cs k') (cAt cs k) = true
  no : st.1 = [] → ∀ k : Nat, cs.length - i ≤ k → k < cs.length → tAt cs k ≠ topT cs
  la : ∀ q : Nat, st.1.getLast? = some q → ∀ k : Nat, cs.length - i ≤ k → k < q → ¬ (tAt cs k = st.2 ∧ share (cAt cs k) (cAt cs q) = true)
theorem last_at {l : List Nat} {q : Nat} (h : l.getLast? = some q) : l[l.length - 1]? = some q := by rw [← List.getLast?_eq_getElem?]; exact h
theorem ch_inv (cs : List Cmp) : ∀ i, i ≤ cs.length → ChI cs i (chSt cs i)
  | 0, _ => ⟨by show topT cs = topT cs - ((0 : Nat) : Int); omega, fun j k h => (nomatch h), fun j k k' h => (nomatch h), fun _ k h1 h2 => by omega, fun q h => nomatch h⟩
  | i + 1, hi => by
    have I := ch_inv cs i (by omega)
    show ChI cs (i + 1) (chStep cs (cs.length - 1 - i) (chSt cs i))
    generalize chSt cs i = st at I
    obtain ⟨ps, w⟩ := st
    have ek : cs.length - 1 - i = cs.length - (i + 1) := by omega
    rw [ek]
    unfold chStep
    by_cases c : chOk cs (cs.length - (i + 1)) (ps, w)
    · rw [if_pos c]
      obtain ⟨c1, c2⟩ := c
      have iw : w = topT cs - ps.length := I.w
      have c1' : tAt cs (cs.length - (i + 1)) = w := c1
      refine ⟨?_, ?_, ?_, ?_, ?_⟩
      · show w - 1 = topT cs - ((ps ++ [_]).length : Nat)
        rw [List.length_append, List.length_singleton]
        omega
      · intro j k h
        rcases Nat.lt_or_ge j ps.length with hj | hj
        · rw [List.getElem?_append_left hj] at h
          obtain ⟨a1, a2, a3⟩ := I.at' j k h
          exact ⟨by omega, a2, a3⟩
        · rw [List.getElem?_append_right hj] at h
          have hj2 : j - ps.length = 0 := by
            have := (List.getElem?_eq_some_iff.mp h).1
            rw [List.length_singleton] at this
            omega
          rw [hj2] at h
          have e := Option.some.inj h
          subst e
          refine ⟨Nat.le_refl _, by omega, ?_⟩
          rw [c1', iw]
          omega
      · intro j k k' h h'
        have hj1 : j + 1 < ps.length + 1 := by
          have := (List.getElem?_eq_some_iff.mp h').1
          rw [List.length_append, List.length_singleton] at this
          exact this
        have hj0 : j < ps.length := by omega
        rw [List.getElem?_append_left (show j < (ps, w).1.length from hj0)] at h
        rcases Nat.lt_or_ge (j + 1) ps.length with hj | hj
        · rw [List.getElem?_append_left hj] at h'
          exact I.nb j k k' h h'
        · rw [List.getElem?_append_right hj, show j + 1 - ps.length = 0 by omega] at h'
          have e := Option.some.inj h'
          subst e
          have hl : ps.getLast? = some k := by rw [List.getLast?_eq_getElem?, show ps.length - 1 = j by omega]; exact h
          obtain ⟨a1, a2, a3⟩ := I.at' j k h
          refine ⟨by omega, c2 k hl⟩
      · intro z
        exact absurd z (by simp)
      · intro q hq k h1 h2
        have e : cs.length - (i + 1) = q := by
          have hq' : (ps ++ [cs.length - (i + 1)]).getLast? = some q := hq
          rw [List.getLast?_concat] at hq'
          exact Option.some.inj hq'
        omega
    · rw [if_neg c]
      refine ⟨I.w, fun j k h => ?_, I.nb, fun z k h1 h2 => ?_, fun q hq k h1 h2 => ?_⟩
      · obtain ⟨a1, a2, a3⟩ := I.at' j k h
        exact ⟨by omega, a2, a3⟩
      · have z' : ps = [] := z
        rcases Nat.eq_or_lt_of_le h1 with e | e
        · subst e
          intro t
          refine c ⟨?_, fun q hq => ?_⟩
          · have iw : w = topT cs - ps.length := I.w
            rw [z'] at iw
            show _ = w
            rw [t, iw]
            show _ = topT cs - ((0 : Nat) : Int)
            omega
          · have hq' : ps.getLast? = some q := hq
            rw [z'] at hq'
            cases hq'
        · exact I.no z k (by omega) h2
      · rcases Nat.eq_or_lt_of_le h1 with e | e
        · subst e
          rintro ⟨t1, t2⟩
          refine c ⟨t1, fun q' hq' => ?_⟩
          have : q' = q := Option.some.inj (hq'.symm.trans hq)
          rw [this]
          exact t2
        · exact I.la q hq k (by omega) h2
theorem tAt_get {cs : List Cmp} {k t : Nat} (h : (tiers cs)[k]? = some t) : tAt cs k = t := by
  unfold tAt
  rw [List.getD_eq_getElem?_getD, h] <;> rfl
theorem cAt_get {cs : List Cmp} {k : Nat} {c : Cmp} (h : cs[k]? = some c) : cAt cs k = c := by
  unfold cAt
  rw [List.getD_eq_getElem?_getD, h] <;> rfl
theorem chain_len (cs : List Cmp) : (chainOf cs).length = manyT cs := by
  have I := ch_inv cs cs.length (Nat.le_refl _)
  unfold chainOf
  rw [List.length_reverse]
  generalize chSt cs cs.length = st at I
  obtain ⟨ps, w⟩ := st
  have iw : w = topT cs - ps.length := I.w
  show ps.length = manyT cs
  cases hl : ps.getLast? with
  | none =>
    have z : ps = [] := List.getLast?_eq_none_iff.mp hl
    cases hm : manyT cs with
    | zero => rw [z] <;> rfl
    | succ m =>
      exfalso
      obtain ⟨k, hk⟩ := List.getElem?_of_mem (manyL_mem hm)
      have hk2 := (List.getElem?_eq_some_iff.mp hk).1
      rw [tiers_len] at hk2
      refine I.no z k (by omega) hk2 ?_
      rw [tAt_get hk]
      unfold topT
      rw [hm] <;> rfl
  | some q =>
    have hq := last_at hl
    have lp : ps.length ≠ 0 := fun z => by
      rw [List.eq_nil_of_length_eq_zero z] at hl
      cases hl
    obtain ⟨a1, a2, a3⟩ := I.at' _ _ hq
    obtain ⟨t, ht⟩ := get_of (xs := tiers cs) (i := q) (by rw [tiers_len]; exact a2)
    rw [tAt_get ht] at a3
    have mt : t < manyT cs := manyL_lt (List.mem_of_getElem? ht)
    unfold topT at a3
    cases t with
    | zero => omega
    | succ t =>
      exfalso
      obtain ⟨c, hc⟩ := get_of a2
      obtain ⟨k, d, hk, hd, hkt, hs⟩ := tier_back hc ht
      refine I.la q hl k (by omega) hk ⟨?_, ?_⟩
      · rw [tAt_get hkt]
        show (t : Int) = w
        rw [iw]
        unfold topT
        omega
      · rw [cAt_get hd, cAt_get hc]
        exact hs
theorem chain_lt {cs : List Cmp} {k : Nat} (h : k ∈ chainOf cs) : k < cs.length := by
  obtain ⟨j, hj⟩ := List.getElem?_of_mem (List.mem_reverse.mp h)
  exact ((ch_inv cs cs.length (Nat.le_refl _)).at' j k hj).2.1
theorem chain_nb {cs : List Cmp} {j a b : Nat} (h1 : (chainOf cs)[j]? = some a) (h2 : (chainOf cs)[j + 1]? = some b) : a < b ∧ share (cAt cs a) (cAt cs b) = true := by
  have l2 := (List.getElem?_eq_some_iff.mp h2).1
  unfold chainOf at h1 h2 l2
  rw [List.length_reverse] at l2
  rw [List.getElem?_reverse (by omega)] at h1 h2
  refine (ch_inv cs cs.length (Nat.le_refl _)).nb ((chSt cs cs.length).1.length - 1 - (j + 1)) b a h2 ?_
  rw [show (chSt cs cs.length).1.length - 1 - (j + 1) + 1 = (chSt cs cs.length).1.length - 1 - j by omega]
  exact h1
theorem ch_len (cs : List Cmp) : ∀ i, (chSt cs i).1.length ≤ i
  | 0 => Nat.le_refl _
  | i + 1 => by
    have := ch_len cs i
    show (chStep cs _ (chSt cs i)).1.length ≤ i + 1
    unfold chStep
    split
    · show ((chSt cs i).1 ++ [_]).length ≤ i + 1
      rw [List.length_append, List.length_singleton]
      omega
    · omega
end Sw

set_option Elab.async false
set_option linter.all false
set_option maxRecDepth 100000
set_option maxHeartbeats 4000000
namespace Sw
open PySem PySem.Spec PyProof.Rows L2
/-! ## The straight web of a web -/
def spA (sp : List Nat) (k : Nat) : Nat := sp.getD k 0
def strC (st : List Cmp × List Nat) (c : Cmp) : List Cmp × List Nat :=
  if spA st.2 c.1 < spA st.2 c.2 then (st.1 ++ [(spA st.2 c.1, spA st.2 c.2)], st.2)
  else (st.1 ++ [(spA st.2 c.2, spA st.2 c.1)], (st.2.set c.1 (spA st.2 c.2)).set c.2 (spA st.2 c.1))
def strOf (n : Nat) (cs : List Cmp) : List Cmp × List Nat := cs.foldl strC ([], List.range n)
theorem strOf_snoc (n : Nat) (cs : List Cmp) (c : Cmp) : strOf n (cs ++ [c]) = strC (strOf n cs) c := by
  unfold strOf
  rw [List.foldl_append] <;> rfl
theorem spA_get {sp : List Nat} {k : Nat} (h : k < sp.length) : sp[k]? = some (spA sp k) := by
  unfold spA
  rw [List.getD_eq_getElem?_getD, List.getElem?_eq_getElem h] <;> rfl
theorem spA_eq {sp : List Nat} {k : Nat} (h : k < sp.length) : sp[k] = spA sp k := by
  have := spA_get h
  rw [List.getElem?_eq_getElem h] at this
  exact Option.some.inj this
/-- all that holds of it -/
structure StrI (n : Nat) (cs : List Cmp) (st : List Cmp × List Nat) : Prop where
  len : st.1.length = cs.length
  perm : st.2.Perm (List.range n)
  str : ∀ c ∈ st.1, c.1 < c.2 ∧ c.2 < n
  goes : ∀ r : Row, r.length = n → ∀ k, k < n → at0 (gone st.1 r) (spA st.2 k) = at0 (gone cs r) k
theorem StrI.slen {n : Nat} {cs : List Cmp} {st : List Cmp × List Nat} (I : StrI n cs st) : st.2.length = n := by
  rw [I.perm.length_eq, List.length_range]
theorem StrI.lt {n : Nat} {cs : List Cmp} {st : List Cmp × List Nat} (I : StrI n cs st) {k : Nat} (h : k < n) : spA st.2 k < n := by
  have := List.mem_of_getElem? (spA_get (sp := st.2) (k := k) (by rw [I.slen]; exact h))
  exact List.mem_range.mp (I.perm.mem_iff.mp this)
theorem StrI.inj {n : Nat} {cs : List Cmp} {st : List Cmp × List Nat} (I : StrI n cs st) {j k : Nat} (hj : j < n) (hk : k < n) (e : spA st.2 j = spA st.2 k) : j = k := by
  have nd : st.2.Nodup := I.perm.nodup_iff.mpr List.nodup_range
  have z := List.pairwise_iff_getElem.mp nd
  have l := I.slen
  rcases Nat.lt_trichotomy j k with h | h | h
  · exact absurd (by rw [spA_eq, spA_eq]; exact e) (z j k (by omega) (by omega) h)
  · exact h
  · exact absurd (by rw [spA_eq, spA_eq]; exact e.symm) (z k j (by omega) (by omega) h)
theorem at0_set {r : Row} {k j : Nat} {v : Int} (h : k < r.length) : at0 (r.set k v) j = if k = j then v else at0 r j := by
  unfold at0
  rw [List.getD_eq_getElem?_getD, List.getElem?_set]
  by_cases e : k = j
  · rw [if_pos e, if_pos e, if_pos h] <;> rfl
  · rw [if_neg e, if_neg e, List.getD_eq_getElem?_getD]
theorem goC_at {r : Row} {c : Cmp} {n : Nat} (hr : r.length = n) (ok : CmpOk n c) (k : Nat) : at0 (goC r c) k = if c.2 = k then max (at0 r c.1) (at0 r c.2) else if c.1 = k then min (at0 r c.1) (at0 r c.2) else at0 r k := by
  obtain ⟨h1, h2, h3⟩ := ok
  unfold goC
  split
  · rename_i gt
    rw [at0_set (by rw [List.length_set, hr]; exact h2), at0_set (by rw [hr]; exact h1)]
    by_cases z : c.2 = k
    · rw [if_pos z, if_pos z]
      omega
    · rw [if_neg z, if_neg z]
      by_cases y : c.1 = k
      · rw [if_pos y, if_pos y]
        omega
      · rw [if_neg y, if_neg y]
  · rename_i gt
    by_cases z : c.2 = k
    · rw [if_pos z, ← z]
      omega
    · rw [if_neg z]
      by_cases y : c.1 = k
      · rw [if_pos y, ← y]
        omega
      · rw [if_neg y]
theorem spA_set {sp : List Nat} {k j v : Nat} (h : k < sp.length) : spA (sp.set k v) j = if k = j then v else spA sp j := by
  unfold spA
  rw [List.getD_eq_getElem?_getD, List.getElem?_set]
  by_cases e : k = j
  · rw [if_pos e, if_pos e, if_pos h] <;> rfl
  · rw [if_neg e, if_neg e, List.getD_eq_getElem?_getD]
theorem str_step {n : Nat} {cs : List Cmp} {c : Cmp} {st : List Cmp × List Nat} (ok : CmpOk n c) (I : StrI n cs st) : StrI n (cs ++ [c]) (strC st c) := by
  obtain ⟨h1, h2, h3⟩ := id ok
  have l1 := I.lt h1
  have l2 := I.lt h2
  have sl := I.slen
  have ne : spA st.2 c.1 ≠ spA st.2 c.2 := fun e => h3 (I.inj h1 h2 e)
  unfold strC
  split
  · rename_i lt
    refine ⟨?_, I.perm, ?_, ?_⟩
    · show (st.1 ++ [_]).length = _
      rw [List.length_append, List.length_append, I.len] <;> rfl
    · intro d hd
      rcases List.mem_append.mp hd with h | h
      · exact I.str d h
      · rw [List.mem_singleton.mp h]
        exact ⟨lt, l2⟩
    · intro r hr k hk
      show at0 (gone (st.1 ++ [_]) r) (spA st.2 k) = _
      have g := I.goes r hr
      rw [gone_snoc, gone_snoc, goC_at (n := n) (by rw [gone_len, hr]) ⟨l1, l2, ne⟩, goC_at (n := n) (by rw [gone_len, hr]) ok]
      show (if spA st.2 c.2 = spA st.2 k then max (at0 (gone st.1 r) (spA st.2 c.1)) (at0 (gone st.1 r) (spA st.2 c.2)) else if spA st.2 c.1 = spA st.2 k then min (at0 (gone st.1 r) (spA st.2 c.1)) (at0 (gone st.1 r) (spA st.2 c.2)) else at0 (gone st.1 r) (spA st.2 k)) = _
      rw [g _ h1, g _ h2, g _ hk]
      by_cases z : c.2 = k
      · rw [if_pos z, if_pos (by rw [z])]
      · rw [if_neg z, if_neg fun e => z (I.inj h2 hk e)]
        by_cases y : c.1 = k
        · rw [if_pos y, if_pos (by rw [y])]
        · rw [if_neg y, if_neg fun e => y (I.inj h1 hk e)]
  · rename_i lt
    have gt : spA st.2 c.2 < spA st.2 c.1 := by omega
    refine ⟨?_, ?_, ?_, ?_⟩
    · show (st.1 ++ [_]).length = _
      rw [List.length_append, List.length_append, I.len] <;> rfl
    · refine List.Perm.trans ?_ I.perm
      have p := List.set_set_perm (as := st.2) (i := c.1) (j := c.2) (by omega) (by omega)
      rw [spA_eq (by omega), spA_eq (by omega)] at p
      exact p
    · intro d hd
      rcases List.mem_append.mp hd with h | h
      · exact I.str d h
      · rw [List.mem_singleton.mp h]
        exact ⟨gt, l1⟩
    · intro r hr k hk
      show at0 (gone (st.1 ++ [_]) r) (spA ((st.2.set c.1 (spA st.2 c.2)).set c.2 (spA st.2 c.1)) k) = _
      have g := I.goes r hr
      rw [spA_set (by rw [List.length_set]; omega), spA_set (by omega)]
      rw [gone_snoc, gone_snoc, goC_at (n := n) (by rw [gone_len, hr]) ⟨l2, l1, ne.symm⟩, goC_at (n := n) (by rw [gone_len, hr]) ok]
      dsimp only
      rw [g _ h1, g _ h2]
      by_cases z : c.2 = k
      · rw [if_pos z, if_pos z, if_pos rfl]
        omega
      · rw [if_neg z, if_neg z]
        by_cases y : c.1 = k
        · rw [if_pos y, if_pos y, if_neg ne, if_pos rfl]
          omega
        · rw [if_neg y, if_neg y, if_neg fun e => y (I.inj h1 hk e), if_neg fun e => z (I.inj h2 hk e), g _ hk]
theorem str_all {n : Nat} {cs : List Cmp} (ok : CmpsOk n cs) : StrI n cs (strOf n cs) := by
  induction cs using snocInd with
  | h0 =>
    refine ⟨rfl, List.Perm.refl _, (fun c hc => nomatch hc), fun r hr k hk => ?_⟩
    show at0 r (spA (List.range n) k) = at0 r k
    have : spA (List.range n) k = k := by
      unfold spA
      rw [List.getD_eq_getElem?_getD, List.getElem?_range hk] <;> rfl
    rw [this]
  | h1 l c ih =>
    rw [strOf_snoc]
    exact str_step (ok c (List.mem_append.mpr (.inr (List.mem_singleton.mpr rfl)))) (ih fun d hd => ok d (List.mem_append.mpr (.inl hd)))
theorem str_ok {n : Nat} {cs : List Cmp} (ok : CmpsOk n cs) : CmpsOk n (strOf n cs).1 := fun c hc => by
  obtain ⟨h1, h2⟩ := (str_all ok).str c hc
  exact ⟨by omega, h2, by omega⟩
/-- rising numbers stay as they are in a straight web -/
def idR (n : Nat) : Row := (List.range n).map fun (k : Nat) => (k : Int)
theorem idR_at {n k : Nat} (h : k < n) : at0 (idR n) k = k := by
  unfold at0 idR
  rw [List.getD_eq_getElem?_getD, List.getElem?_map, List.getElem?_range h] <;> rfl
theorem idR_len (n : Nat) : (idR n).length = n := by
  unfold idR
  rw [List.length_map, List.length_range]
theorem straight_id {n : Nat} : ∀ {cs : List Cmp}, (∀ c ∈ cs, c.1 < c.2 ∧ c.2 < n) → gone cs (idR n) = idR n
  | [], _ => rfl
  | c :: cs, h => by
    obtain ⟨h1, h2⟩ := h c (.head _)
    have e : goC (idR n) c = idR n := by
      unfold goC
      rw [if_neg (by rw [idR_at (by omega), idR_at h2]; omega)]
    show gone cs (goC (idR n) c) = idR n
    rw [e]
    exact straight_id fun d hd => h d (.tail _ hd)
/-- of a web that sorts, the spots are the lines -/
theorem str_sorts {n : Nat} {cs : List Cmp} (ok : CmpsOk n cs) (s : ∀ r : Row, r.length = n → Srt (gone cs r)) : (strOf n cs).2 = List.range n ∧ ∀ r : Row, r.length = n → gone (strOf n cs).1 r = gone cs r := by
  have I := str_all ok
  have sl := I.slen
  have e1 : (strOf n cs).2 = List.range n := by
    refine List.Perm.eq_of_pairwise (le := fun a b => a ≤ b) (fun a b _ _ h1 h2 => Nat.le_antisymm h1 h2) ?_ ?_ I.perm
    · rw [List.pairwise_iff_getElem]
      intro i j hi hj hij
      have z := s (idR n) (idR_len n)
      rw [Srt, List.pairwise_iff_getElem] at z
      have gl : (gone cs (idR n)).length = n := by rw [gone_len, idR_len]
      have g := I.goes (idR n) (idR_len n)
      rw [straight_id I.str] at g
      have zi := z i j (by omega) (by omega) hij
      have a : ∀ (k : Nat) (hk : k < (gone cs (idR n)).length), (gone cs (idR n))[k] = (spA (strOf n cs).2 k : Int) := fun k hk => by
        have : (gone cs (idR n))[k] = at0 (gone cs (idR n)) k := by
          unfold at0
          rw [List.getD_eq_getElem?_getD, List.getElem?_eq_getElem hk] <;> rfl
        rw [this, ← g k (by omega), idR_at (I.lt (by omega))]
      rw [a, a] at zi
      rw [spA_eq hi, spA_eq hj]
      omega
    · exact List.pairwise_lt_range.imp fun h => Nat.le_of_lt h
  refine ⟨e1, fun r hr => ?_⟩
  apply List.ext_getElem
  · rw [gone_len, gone_len]
  · intro k h1 h2
    have g := I.goes r hr k (by rw [gone_len, hr] at h2; exact h2)
    rw [e1] at g
    have hk : k < n := by rw [gone_len, hr] at h2; exact h2
    have sk : spA (List.range n) k = k := by
      unfold spA
      rw [List.getD_eq_getElem?_getD, List.getElem?_range hk] <;> rfl
    rw [sk] at g
    unfold at0 at g
    rw [List.getD_eq_getElem?_getD, List.getD_eq_getElem?_getD, List.getElem?_eq_getElem h1, List.getElem?_eq_getElem h2] at g
    exact g
end Sw

set_option Elab.async false
set_option linter.all false
set_option maxRecDepth 100000
set_option maxHeartbeats 4000000
namespace Sw
open PySem PySem.Spec PyProof.Rows L2
/-! ## Lines called otherwise, upside down, beside one another -/
def callC (o : List Nat) (c : Cmp) : Cmp := (spA o c.1, spA o c.2)
def upC (n : Nat) (c : Cmp) : Cmp := (n - 1 - c.2, n - 1 - c.1)
def besC (n : Nat) (c : Cmp) : Cmp := (c.1 + n, c.2 + n)
def backOf (n : Nat) (o : List Nat) : List Nat := (List.range n).map fun k => o.idxOf k
def calledR (n : Nat) (o : List Nat) (r : Row) : Row := (List.range n).map fun k => at0 r (spA (backOf n o) k)
def turnR (r : Row) : Row := r.reverse.map fun x => 0 - x
theorem row_ext {n : Nat} {r s : Row} (hr : r.length = n) (hs : s.length = n) (h : ∀ k, k < n → at0 r k = at0 s k) : r = s := by
  apply List.ext_getElem (by omega)
  intro k h1 h2
  have := h k (by omega)
  unfold at0 at this
  rw [List.getD_eq_getElem?_getD, List.getD_eq_getElem?_getD, List.getElem?_eq_getElem h1, List.getElem?_eq_getElem h2] at this
  exact this
theorem perm_len {n : Nat} {o : List Nat} (hp : o.Perm (List.range n)) : o.length = n := by rw [hp.length_eq, List.length_range]
theorem perm_lt {n : Nat} {o : List Nat} (hp : o.Perm (List.range n)) {k : Nat} (h : k < n) : spA o k < n :=
  List.mem_range.mp (hp.mem_iff.mp (List.mem_of_getElem? (spA_get (sp := o) (k := k) (by rw [perm_len hp]; exact h))))
theorem perm_inj {n : Nat} {o : List Nat} (hp : o.Perm (List.range n)) {j k : Nat} (hj : j < n) (hk : k < n) (e : spA o j = spA o k) : j = k := by
  have nd : o.Nodup := hp.nodup_iff.mpr List.nodup_range
  have z := List.pairwise_iff_getElem.mp nd
  have l := perm_len hp
  rcases Nat.lt_trichotomy j k with h | h | h
  · exact absurd (by rw [spA_eq, spA_eq]; exact e) (z j k (by omega) (by omega) h)
  · exact h
  · exact absurd (by rw [spA_eq, spA_eq]; exact e.symm) (z k j (by omega) (by omega) h)
theorem idx_lt {n : Nat} {o : List Nat} (hp : o.Perm (List.range n)) {k : Nat} (h : k < n) : o.idxOf k < n := by
  have := List.idxOf_lt_length_of_mem (hp.mem_iff.mpr (List.mem_range.mpr h))
  rwa [perm_len hp] at this
theorem spA_idx {n : Nat} {o : List Nat} (hp : o.Perm (List.range n)) {k : Nat} (h : k < n) : spA o (o.idxOf k) = k := by
  have l := idx_lt hp h
  have := spA_eq (sp := o) (k := o.idxOf k) (by rw [perm_len hp]; exact l)
  rw [← this]
  exact List.getElem_idxOf _
theorem spA_back {n : Nat} {o : List Nat} {k : Nat} (h : k < n) : spA (backOf n o) k = o.idxOf k := by
  unfold spA backOf
  rw [List.getD_eq_getElem?_getD, List.getElem?_map, List.getElem?_range h] <;> rfl
theorem back_spA {n : Nat} {o : List Nat} (hp : o.Perm (List.range n)) {k : Nat} (h : k < n) : spA (backOf n o) (spA o k) = k := by
  have l := perm_lt hp h
  rw [spA_back l]
  exact perm_inj hp (idx_lt hp l) h (spA_idx hp l)
theorem back_perm {n : Nat} {o : List Nat} (hp : o.Perm (List.range n)) : (backOf n o).Perm (List.range n) := by
  have e : (List.range n).map (fun k => o.idxOf k) = backOf n o := rfl
  have p := hp.map (fun k => o.idxOf k)
  refine (p.symm).trans ?_
  have : o.map (fun k => o.idxOf k) = List.range n := by
    apply List.ext_getElem
    · rw [List.length_map, perm_len hp, List.length_range]
    · intro k h1 h2
      rw [List.length_range] at h2
      rw [List.getElem_map, List.getElem_range]
      have := back_spA hp h2
      rw [spA_back (perm_lt hp h2)] at this
      rw [spA_eq]
      exact this
  rw [this]
theorem call_ok {n : Nat} {o : List Nat} (hp : o.Perm (List.range n)) {c : Cmp} (ok : CmpOk n c) : CmpOk n (callC o c) :=
  ⟨perm_lt hp ok.1, perm_lt hp ok.2.1, fun e => ok.2.2 (perm_inj hp ok.1 ok.2.1 e)⟩
theorem calls_ok {n : Nat} {o : List Nat} (hp : o.Perm (List.range n)) {cs : List Cmp} (ok : WebOk n cs) : WebOk n (cs.map (callC o)) :=
  ⟨by rw [List.length_map]; exact ok.1, fun d hd => by
    obtain ⟨c, hc, rfl⟩ := List.mem_map.mp hd
    exact call_ok hp (ok.2 c hc)⟩
theorem call_back {n : Nat} {o : List Nat} (hp : o.Perm (List.range n)) {cs : List Cmp} (ok : WebOk n cs) : (cs.map (callC o)).map (callC (backOf n o)) = cs := by
  rw [List.map_map]
  conv => rhs; rw [← List.map_id cs]
  apply List.map_congr_left
  intro c hc
  obtain ⟨h1, h2, _⟩ := ok.2 c hc
  show (spA _ (spA o c.1), spA _ (spA o c.2)) = c
  rw [back_spA hp h1, back_spA hp h2]
theorem goes_called {n : Nat} {o : List Nat} (hp : o.Perm (List.range n)) {cs : List Cmp} : CmpsOk n cs → ∀ {r s : Row}, r.length = n → s.length = n → (∀ k, k < n → at0 s (spA o k) = at0 r k) → ∀ k, k < n → at0 (gone (cs.map (callC o)) s) (spA o k) = at0 (gone cs r) k := by
  induction cs with
  | nil => intro _ r s _ _ h; exact h
  | cons c cs ih =>
    intro ok r s hr hs h
    have okc := ok c (List.mem_cons_self ..)
    refine ih (fun d hd => ok d (List.mem_cons_of_mem _ hd)) (r := goC r c) (s := goC s (callC o c)) (by rw [goC_len, hr]) (by rw [goC_len, hs]) fun k hk => ?_
    rw [goC_at hs (call_ok hp okc), goC_at hr okc]
    show (if spA o c.2 = spA o k then max (at0 s (spA o c.1)) (at0 s (spA o c.2)) else if spA o c.1 = spA o k then min (at0 s (spA o c.1)) (at0 s (spA o c.2)) else at0 s (spA o k)) = _
    rw [h _ okc.1, h _ okc.2.1, h _ hk]
    by_cases z : c.2 = k
    · rw [if_pos z, if_pos (by rw [z])]
    · rw [if_neg z, if_neg fun e => z (perm_inj hp okc.2.1 hk e)]
      by_cases y : c.1 = k
      · rw [if_pos y, if_pos (by rw [y])]
      · rw [if_neg y, if_neg fun e => y (perm_inj hp okc.1 hk e)]
theorem at0_rng {n : Nat} {f : Nat → Int} {k : Nat} (h : k < n) : at0 ((List.range n).map f) k = f k := by
  unfold at0
  rw [List.getD_eq_getElem?_getD, List.getElem?_map, List.getElem?_range h] <;> rfl
theorem called_len {n : Nat} {o : List Nat} {r : Row} : (calledR n o r).length = n := by
  unfold calledR
  rw [List.length_map, List.length_range]
theorem gone_called {n : Nat} {o : List Nat} (hp : o.Perm (List.range n)) {cs : List Cmp} (ok : CmpsOk n cs) {r : Row} (hr : r.length = n) : gone (cs.map (callC o)) (calledR n o r) = calledR n o (gone cs r) := by
  refine row_ext (n := n) (by rw [gone_len, called_len]) called_len fun k hk => ?_
  have hj := idx_lt hp hk
  have g := goes_called hp ok hr (s := calledR n o r) called_len (fun j hj => by
    unfold calledR
    rw [at0_rng (perm_lt hp hj), back_spA hp hj]) _ hj
  rw [spA_idx hp hk] at g
  rw [g]
  unfold calledR
  rw [at0_rng hk, spA_back hk]
theorem up_ok {n : Nat} {c : Cmp} (ok : CmpOk n c) : CmpOk n (upC n c) := by
  obtain ⟨h1, h2, h3⟩ := ok
  refine ⟨?_, ?_, ?_⟩ <;> show _ <;> unfold upC <;> dsimp only <;> omega
theorem ups_ok {n : Nat} {cs : List Cmp} (ok : WebOk n cs) : WebOk n (cs.map (upC n)) :=
  ⟨by rw [List.length_map]; exact ok.1, fun d hd => by
    obtain ⟨c, hc, rfl⟩ := List.mem_map.mp hd
    exact up_ok (ok.2 c hc)⟩
theorem up_up {n : Nat} {cs : List Cmp} (ok : WebOk n cs) : (cs.map (upC n)).map (upC n) = cs := by
  rw [List.map_map]
  conv => rhs; rw [← List.map_id cs]
  apply List.map_congr_left
  intro c hc
  obtain ⟨h1, h2, _⟩ := ok.2 c hc
  show (n - 1 - (n - 1 - c.1), n - 1 - (n - 1 - c.2)) = c
  rw [show n - 1 - (n - 1 - c.1) = c.1 by omega, show n - 1 - (n - 1 - c.2) = c.2 by omega]
theorem goes_up {n : Nat} {cs : List Cmp} : CmpsOk n cs → ∀ {r s : Row}, r.length = n → s.length = n → (∀ k, k < n → at0 s (n - 1 - k) = 0 - at0 r k) → ∀ k, k < n → at0 (gone (cs.map (upC n)) s) (n - 1 - k) = 0 - at0 (gone cs r) k := by
  induction cs with
  | nil => intro _ r s _ _ h; exact h
  | cons c cs ih =>
    intro ok r s hr hs h
    have okc := ok c (List.mem_cons_self ..)
    have h1 := okc.1
    have h2 := okc.2.1
    have h3 := okc.2.2
    refine ih (fun d hd => ok d (List.mem_cons_of_mem _ hd)) (r := goC r c) (s := goC s (upC n c)) (by rw [goC_len, hr]) (by rw [goC_len, hs]) fun k hk => ?_
    rw [goC_at hs (up_ok okc), goC_at hr okc]
    show (if n - 1 - c.1 = n - 1 - k then max (at0 s (n - 1 - c.2)) (at0 s (n - 1 - c.1)) else if n - 1 - c.2 = n - 1 - k then min (at0 s (n - 1 - c.2)) (at0 s (n - 1 - c.1)) else at0 s (n - 1 - k)) = _
    rw [h _ h1, h _ h2, h _ hk]
    by_cases z : c.2 = k
    · rw [if_pos z, if_neg (by omega), if_pos (by rw [z])]
      omega
    · rw [if_neg z]
      by_cases y : c.1 = k
      · rw [if_pos y, if_pos (by rw [y])]
        omega
      · rw [if_neg y, if_neg (by omega), if_neg (by omega)]
theorem turn_len {r : Row} : (turnR r).length = r.length := by
  unfold turnR
  rw [List.length_map, List.length_reverse]
theorem at0_turn {n : Nat} {r : Row} (hr : r.length = n) {k : Nat} (h : k < n) : at0 (turnR r) (n - 1 - k) = 0 - at0 r k := by
  unfold at0 turnR
  rw [List.getD_eq_getElem?_getD, List.getD_eq_getElem?_getD, List.getElem?_map, List.getElem?_reverse (by omega), hr, show n - 1 - (n - 1 - k) = k by omega, List.getElem?_eq_getElem (by omega)] <;> rfl
theorem gone_turned {n : Nat} {cs : List Cmp} (ok : CmpsOk n cs) {r : Row} (hr : r.length = n) : gone (cs.map (upC n)) (turnR r) = turnR (gone cs r) := by
  refine row_ext (n := n) (by rw [gone_len, turn_len, hr]) (by rw [turn_len, gone_len, hr]) fun k hk => ?_
  have g := goes_up ok hr (s := turnR r) (by rw [turn_len, hr]) (fun j hj => at0_turn hr hj) (n - 1 - k) (by omega)
  have e := at0_turn (n := n) (r := gone cs r) (by rw [gone_len, hr]) (k := n - 1 - k) (by omega)
  rw [show n - 1 - (n - 1 - k) = k by omega] at g e
  rw [g, e]
theorem bes_ok {n m : Nat} {c : Cmp} (ok : CmpOk m c) : CmpOk (n + m) (besC n c) := by
  obtain ⟨h1, h2, h3⟩ := ok
  refine ⟨?_, ?_, ?_⟩ <;> show _ <;> unfold besC <;> dsimp only <;> omega
theorem cmp_more {n m : Nat} {c : Cmp} (ok : CmpOk n c) : CmpOk (n + m) c := by
  obtain ⟨h1, h2, h3⟩ := ok
  exact ⟨by omega, by omega, h3⟩
theorem bes_all {n m : Nat} {cs ds : List Cmp} (ok : CmpsOk n cs) (od : CmpsOk m ds) : CmpsOk (n + m) (cs ++ ds.map (besC n)) := fun d hd => by
  rcases List.mem_append.mp hd with h | h
  · exact cmp_more (ok d h)
  · obtain ⟨c, hc, rfl⟩ := List.mem_map.mp h
    exact bes_ok (od c hc)
theorem at0_app1 {a b : Row} {k : Nat} (h : k < a.length) : at0 (a ++ b) k = at0 a k := by
  unfold at0
  rw [List.getD_eq_getElem?_getD, List.getD_eq_getElem?_getD, List.getElem?_append_left h]
theorem at0_app2 {a b : Row} {k : Nat} : at0 (a ++ b) (k + a.length) = at0 b k := by
  unfold at0
  rw [List.getD_eq_getElem?_getD, List.getD_eq_getElem?_getD, List.getElem?_append_right (by omega), show k + a.length - a.length = k by omega]
theorem goC_app1 {n : Nat} {a b : Row} {c : Cmp} (ha : a.length = n) (ok : CmpOk n c) : goC (a ++ b) c = goC a c ++ b := by
  obtain ⟨h1, h2, h3⟩ := ok
  unfold goC
  rw [at0_app1 (by omega), at0_app1 (by omega)]
  split
  · rw [List.set_append_left _ _ (by omega), List.set_append_left _ _ (by rw [List.length_set]; omega)]
  · rfl
theorem goC_app2 {n : Nat} {a b : Row} {c : Cmp} (ha : a.length = n) : goC (a ++ b) (besC n c) = a ++ goC b c := by
  subst ha
  unfold goC besC
  dsimp only
  rw [at0_app2, at0_app2]
  split
  · rw [List.set_append_right _ _ (by omega), List.set_append_right _ _ (by omega), Nat.add_sub_cancel, Nat.add_sub_cancel]
  · rfl
theorem gone_app1 {n : Nat} {cs : List Cmp} : ∀ {a b : Row}, a.length = n → CmpsOk n cs → gone cs (a ++ b) = gone cs a ++ b := by
  induction cs with
  | nil => intro a b _ _; rfl
  | cons c cs ih =>
    intro a b ha ok
    show gone cs (goC (a ++ b) c) = gone cs (goC a c) ++ b
    rw [goC_app1 ha (ok c (List.mem_cons_self ..)), ih (by rw [goC_len, ha]) fun d hd => ok d (List.mem_cons_of_mem _ hd)]
theorem gone_app2 {n : Nat} {ds : List Cmp} : ∀ {a b : Row}, a.length = n → gone (ds.map (besC n)) (a ++ b) = a ++ gone ds b := by
  induction ds with
  | nil => intro a b _; rfl
  | cons c cs ih =>
    intro a b ha
    show gone (cs.map (besC n)) (goC (a ++ b) (besC n c)) = a ++ gone cs (goC b c)
    rw [goC_app2 ha, ih ha]
theorem gone_beside {n : Nat} {cs ds : List Cmp} {r : Row} (ok : CmpsOk n cs) (h : n ≤ r.length) : gone (cs ++ ds.map (besC n)) r = gone cs (r.take n) ++ gone ds (r.drop n) := by
  have e : gone (cs ++ ds.map (besC n)) r = gone (ds.map (besC n)) (gone cs r) := by
    unfold gone
    rw [List.foldl_append]
  rw [e]
  conv => lhs; rw [← List.take_append_drop n r]
  have l : (r.take n).length = n := by rw [List.length_take]; omega
  rw [gone_app1 l ok, gone_app2 (by rw [gone_len, l])]
section
variable {K : PySem.W.Frag} {σ : L2.St} {H : Hp} {te : TE} {j1 j2 : Nat} {a : Addr} {Q : VK}
def cmU (cs : List Cmp) (i : Nat) : V × V := match cs[i]? with
  | some c => (.int (c.1 : Int), .int (c.2 : Int))
  | none => (.non, .non)
/-- [(.., ..) for a, b in comparers] -/
theorem lc_cmps {k : Nat} {vs : List Nat} {ps : List Addr} {cs : List Cmp} (f : Cmp → Cmp) (hk : σ[k]? = some (some (.ref a))) (hx : SqL K H a (Rfs ps)) (hp : Prs K H ps cs) (few : cs.length ≤ 1000)
    (hvs : ∀ v w, wipe (((wipe σ vs).set j1 v).set j2 w) vs = wipe σ vs)
    (turn : ∀ (c : Cmp) (H' : Hp) (Q' : VK), c ∈ cs → Same H H' → (∀ T, H' T = none → Q' (.ref T) (upd H' T (.tup (V2 (f c))))) → te (((wipe σ vs).set j1 (some (.int (c.1 : Int)))).set j2 (some (.int (c.2 : Int)))) H' Q')
    (done : ∀ D H' qs, Same H H' → H D = none → H' D = some (.lst (Rfs qs)) → Prs K H' qs (cs.map f) → Q (.ref D) H') :
    tLc (iList K (tVar k)) (gTup K 2 (gCons (gName j1) (gCons (gName j2) gNil))) tYes te vs σ H Q := by
  have lp := hp.length
  refine lc_pairs (a := a) (ps := ps) (cmU cs) hk hx hvs (fun D i acc H' => Same H H' ∧ ∃ qs, acc = Rfs qs ∧ Prs K H' qs ((cs.take i).map f)) (fun D nD => ⟨same_new nD, [], rfl, .nil⟩) (fun D i acc H' nD g => g.1.seq hx) ?_ ?_ ?_
  · intro D i p acc H' nD gp hD g
    obtain ⟨c, gc, hc⟩ := hp.getL gp
    unfold cmU
    rw [gc]
    exact Same.sqt g.1 hc
  · intro D i acc H' nD hi hD g
    obtain ⟨s, qs, rfl, hq⟩ := g
    obtain ⟨c, gc⟩ := get_of (xs := cs) (i := i) (by omega)
    have lq := hq.length
    rw [List.length_map, List.length_take] at lq
    unfold cmU
    rw [gc]
    refine .yes (turn c H' _ (List.mem_of_getElem? gc) s fun T nT => ?_)
    have sT := same_new (o := .tup (V2 (f c))) nT
    refine GoOn.mk (sT _ _ hD) (by rw [rfs_len]; omega) ⟨same_mut (s.trans sT) nD, qs ++ [T], ?_, ?_⟩
    · unfold Rfs
      rw [List.map_append] <;> rfl
    · rw [List.take_add_one, gc, List.map_append]
      exact prs_upd (sT _ _ hD) ((Same.prs sT hq).snoc (.inl (.inl upd_same)))
  · intro D acc H' nD hD g
    obtain ⟨s, qs, rfl, hq⟩ := g
    rw [lp, List.take_length] at hq
    exact done D H' qs s nD hD hq
/-- [.. for k in range(n)], numbers -/
theorem lc_row {ta : TA} {vs : List Nat} {n : Nat} (f : Nat → Int) (ht : ∀ Q, Q [V.int (n : Int)] H → ta σ H Q) (hn : n ≤ 1000) (hvs : ∀ v, wipe ((wipe σ vs).set j1 v) vs = wipe σ vs)
    (turn : ∀ (i : Nat) (H' : Hp) (Q' : VK), i < n → Same H H' → Q' (.int (f i)) H' → te ((wipe σ vs).set j1 (some (.int (i : Int)))) H' Q')
    (done : ∀ D H', Same H H' → H D = none → H' D = some (.lst (vis ((List.range n).map f))) → Q (.ref D) H') :
    tLc (iRng1 ta) (gName j1) tYes te vs σ H Q := by
  refine lc_rng ht (by omega) hvs (fun D i acc H' => Same H H' ∧ acc = vis ((List.range i).map f)) (fun D nD => ⟨same_new nD, rfl⟩) ?_ ?_
  · intro D i acc H' nD hi hD g
    obtain ⟨s, rfl⟩ := g
    refine .yes (turn i H' _ hi s ?_)
    refine GoOn.mk hD (by rw [ints_len, List.length_map, List.length_range]; omega) ⟨same_mut s nD, ?_⟩
    unfold vis
    rw [List.range_succ, List.map_append, List.map_append] <;> rfl
  · intro D acc H' nD hD g
    obtain ⟨s, rfl⟩ := g
    exact done D H' s nD hD
/-- [.. for x in row], numbers -/
theorem lck_row {vs : List Nat} {r : Row} (f : Int → Int) (hx : SqL K H a (vis r)) (few : r.length ≤ 1000) (hvs : ∀ v, wipe ((wipe σ vs).set j1 v) vs = wipe σ vs)
    (turn : ∀ (z : Int) (H' : Hp) (Q' : VK), Same H H' → Q' (.int (f z)) H' → te ((wipe σ vs).set j1 (some (.int z))) H' Q')
    (done : ∀ D H', Same H H' → H D = none → H' D = some (.lst (vis (r.map f))) → Q (.ref D) H') :
    LcK (gName j1) tYes te vs σ Q (Itl K a) H := by
  refine lck_list (xs := vis r) hx hvs (fun D i acc H' => Same H H' ∧ acc = vis ((r.take i).map f)) (fun D nD => ⟨same_new nD, rfl⟩) (fun D i acc H' nD g => g.1.seq hx) ?_ ?_
  · intro D i x acc H' nD hx hi hD g
    obtain ⟨s, rfl⟩ := g
    obtain ⟨z, rfl, hz⟩ := ints_get hx
    refine .yes (turn z H' _ s ?_)
    refine GoOn.mk hD (by rw [ints_len, List.length_map, List.length_take]; omega) ⟨same_mut s nD, ?_⟩
    have e : r[i]? = some z := hz
    unfold vis
    rw [List.take_add_one, e, List.map_append, List.map_append] <;> rfl
  · intro D acc H' nD hD g
    obtain ⟨s, rfl⟩ := g
    rw [show (vis r).length = r.length from ints_len _, List.take_length] at hD
    exact done D H' s nD hD
end
section
variable {K : PySem.W.Frag}
def natI (ts : List Nat) : Row := ts.map fun (t : Nat) => (t : Int)
theorem natL_vis (ts : List Nat) : natL ts = vis (natI ts) := by
  unfold natL natI vis
  rw [List.map_map] <;> rfl
theorem natL_sp {sp : List Nat} {k : Nat} (h : k < sp.length) : (natL sp)[k]? = some (.int (spA sp k : Int)) := by
  unfold natL
  rw [List.getElem?_map, spA_get h] <;> rfl
theorem rgV_nat (m : Nat) : rgV 0 (m : Int) = natL (List.range m) := by
  unfold rgV natL
  rw [show ((m : Int) - 0).toNat = m by omega]
  apply List.map_congr_left
  intro k _
  rw [Int.zero_add]
theorem eq_nats {H : Hp} {a b : Addr} {r s : List Nat} {Q : VK} (h1 : SqL K H a (natL r)) (h2 : SqL K H b (natL s)) (q : Q (.bl (decide (natI r = natI s))) H) : rEqD K (.ref a) (.ref b) H Q := by
  rw [natL_vis] at h1 h2
  exact ⟨dI (natI r), dI (natI s), dp_row h1, dp_row h2, enc_row.shaped (by decide) _, enc_row.shaped (by decide) _, by rw [enc_row.eq]; exact q⟩
theorem ne_rows {H : Hp} {a b : Addr} {r s : Row} {Q : VK} (h1 : SqL K H a (vis r)) (h2 : SqL K H b (vis s)) (q : Q (.bl (!decide (r = s))) H) : rNeD K (.ref a) (.ref b) H Q :=
  ⟨dI r, dI s, dp_row h1, dp_row h2, enc_row.shaped (by decide) _, enc_row.shaped (by decide) _, by rw [enc_row.eq]; exact q⟩
theorem ne_webs {H : Hp} {a b : Addr} {ps qs : List Addr} {cs ds : List Cmp} {Q : VK} (h1 : SqL K H a (Rfs ps)) (h2 : Prs K H ps cs) (h3 : SqL K H b (Rfs qs)) (h4 : Prs K H qs ds) (q : Q (.bl (!decide (cs = ds))) H) : rNeD K (.ref a) (.ref b) H Q :=
  ⟨dCs cs, dCs ds, dp_web h1 h2, dp_web h3 h4, enc_cmps.shaped (by decide) _, enc_cmps.shaped (by decide) _, by rw [enc_cmps.eq]; exact q⟩
theorem eqv_tup2 {α β : Type} [DecidableEq α] [DecidableEq β] {ea : α → PyData} {eb : β → PyData} {k l : Nat} (h1 : Enc ea k) (h2 : Enc eb l) (x : α) (y : β) : PyData.eqv (.tuple [ea x, eb y]) (.tuple [ea x, eb y]) = true := by
  show (PyData.eqv (ea x) (ea x) && (PyData.eqv (eb y) (eb y) && true)) = true
  rw [h1.eq, h2.eq, decide_eq_true rfl, decide_eq_true rfl] <;> rfl
theorem shaped_tup2 {α β : Type} [DecidableEq α] [DecidableEq β] {ea : α → PyData} {eb : β → PyData} {k l : Nat} (h1 : Enc ea k) (h2 : Enc eb l) (hk : k ≤ 63) (hl : l ≤ 63) (x : α) (y : β) : SeqAt.shaped (.tuple [ea x, eb y]) = true := by
  have e1 := h1.dep x
  have e2 := h2.dep y
  have d : PyData.depth (.tuple [ea x, eb y]) ≤ 64 := by
    show max (ea x).depth (max (eb y).depth 0) + 1 ≤ 64
    omega
  have l1 : PyData.canLay0 (.tuple [ea x, eb y]) = true := by
    show ((ea x).canLay0 && ((eb y).canLay0 && true)) = true
    rw [h1.lay, h2.lay] <;> rfl
  unfold SeqAt.shaped
  rw [l1, decide_eq_true d] <;> rfl
theorem sorted_spots {n : Nat} {sp : List Nat} {ns : List Int} (hp : sp.Perm (List.range n)) (h1 : ns.Perm (natI sp)) (h2 : ns.Pairwise (· ≤ ·)) : ns = natI (List.range n) := by
  refine List.Perm.eq_of_pairwise (fun a b _ _ k1 k2 => Int.le_antisymm k1 k2) h2 ?_ (h1.trans (hp.map _))
  unfold natI
  refine List.Pairwise.map _ ?_ List.pairwise_lt_range
  intro a b h
  omega
theorem row_get {r : Row} {k : Nat} (h : k < r.length) : (vis r)[k]? = some (.int (at0 r k)) := by
  unfold vis
  rw [List.getElem?_map, at0_get h] <;> rfl
end
end Sw

set_option Elab.async false
set_option linter.all false
set_option maxRecDepth 100000
set_option maxHeartbeats 4000000
namespace Sw
open PySem PySem.Spec PyProof.Rows L2
/-! ## Made webs: held against all rows of noughts and ones by computing -/
def goB (w : Nat) (c : Cmp) : Nat := if (w.testBit c.1 && !w.testBit c.2) = true then (w ^^^ (1 <<< c.1)) ^^^ (1 <<< c.2) else w
def goneB (cs : List Cmp) (w : Nat) : Nat := cs.foldl goB w
def srtB (n w : Nat) : Bool := (List.range (n - 1)).all fun k => !w.testBit k || w.testBit (k + 1)
theorem at0_bare {n w k : Nat} (h : k < n) : at0 (bareR n w) k = if w.testBit k = true then 1 else 0 := by
  unfold bareR
  rw [at0_rng h, Nat.testBit_eq_decide_div_mod_eq]
  have : w / 2 ^ k % 2 = 0 ∨ w / 2 ^ k % 2 = 1 := by omega
  rcases this with e | e <;> rw [e] <;> rfl
theorem bare_ext {n w w' : Nat} (h : ∀ k, k < n → w.testBit k = w'.testBit k) : bareR n w = bareR n w' :=
  row_ext (n := n) (bareR_len ..) (bareR_len ..) fun k hk => by rw [at0_bare hk, at0_bare hk, h k hk]
theorem bit_one {j k : Nat} : (1 <<< j).testBit k = decide (j = k) := by
  rw [Nat.one_shiftLeft, Nat.testBit_two_pow]
theorem goC_bare {n w : Nat} {c : Cmp} (ok : CmpOk n c) : goC (bareR n w) c = bareR n (goB w c) := by
  obtain ⟨h1, h2, h3⟩ := id ok
  refine row_ext (n := n) (by rw [goC_len, bareR_len]) (bareR_len ..) fun k hk => ?_
  rw [goC_at (bareR_len ..) ok, at0_bare h1, at0_bare h2, at0_bare hk, at0_bare hk]
  unfold goB
  by_cases z : (w.testBit c.1 && !w.testBit c.2) = true
  · rw [if_pos z]
    rw [Bool.and_eq_true, Bool.not_eq_true'] at z
    obtain ⟨z1, z2⟩ := z
    rw [Nat.testBit_xor, Nat.testBit_xor, bit_one, bit_one, z1, z2]
    by_cases e2 : c.2 = k
    · subst e2
      rw [if_pos rfl, z2, decide_eq_false h3, decide_eq_true rfl] <;> decide
    · rw [if_neg e2, decide_eq_false e2]
      by_cases e1 : c.1 = k
      · subst e1
        rw [if_pos rfl, z1, decide_eq_true rfl] <;> decide
      · rw [if_neg e1, decide_eq_false e1, Bool.xor_false, Bool.xor_false]
  · rw [if_neg z]
    by_cases e2 : c.2 = k
    · subst e2
      rw [if_pos rfl]
      cases b1 : w.testBit c.1 <;> cases b2 : w.testBit c.2 <;> simp_all <;> decide
    · rw [if_neg e2]
      by_cases e1 : c.1 = k
      · subst e1
        rw [if_pos rfl]
        cases b1 : w.testBit c.1 <;> cases b2 : w.testBit c.2 <;> simp_all <;> decide
      · rw [if_neg e1]
theorem gone_bare {n : Nat} {cs : List Cmp} : CmpsOk n cs → ∀ w, gone cs (bareR n w) = bareR n (goneB cs w) := by
  induction cs with
  | nil => intro _ w; rfl
  | cons c cs ih =>
    intro ok w
    show gone cs (goC (bareR n w) c) = bareR n (goneB cs (goB w c))
    rw [goC_bare (ok c List.mem_cons_self), ih fun d hd => ok d (List.mem_cons_of_mem _ hd)]
theorem srt_step {r : Row} (h : ∀ k, k + 1 < r.length → at0 r k ≤ at0 r (k + 1)) : Srt r := by
  rw [Srt, List.pairwise_iff_getElem]
  intro i j hi hj hij
  have key : ∀ d, i + d < r.length → at0 r i ≤ at0 r (i + d) := fun d => by
    induction d with
    | zero => intro _; exact Int.le_refl _
    | succ d ih =>
      intro hd
      exact Int.le_trans (ih (by omega)) (h (i + d) (by omega))
  have := key (j - i) (by omega)
  rw [show i + (j - i) = j by omega] at this
  have e1 := at0_get hi
  have e2 := at0_get hj
  rw [List.getElem?_eq_getElem hi] at e1
  rw [List.getElem?_eq_getElem hj] at e2
  rw [Option.some.inj e1, Option.some.inj e2]
  exact this
theorem srt_bare {n w : Nat} (h : srtB n w = true) : Srt (bareR n w) := by
  refine srt_step fun k hk => ?_
  rw [bareR_len] at hk
  unfold srtB at h
  rw [List.all_eq_true] at h
  have := h k (List.mem_range.mpr (by omega))
  rw [at0_bare (by omega), at0_bare hk]
  cases b1 : w.testBit k <;> cases b2 : w.testBit (k + 1) <;> simp_all
/-- a comparer of lines that are there, straight -/
def strB (n : Nat) (c : Cmp) : Bool := decide (c.1 < c.2) && decide (c.2 < n)
theorem strB_ok {n : Nat} {cs : List Cmp} (h : cs.all (strB n) = true) : (∀ c ∈ cs, c.1 < c.2 ∧ c.2 < n) ∧ CmpsOk n cs := by
  rw [List.all_eq_true] at h
  have g : ∀ c ∈ cs, c.1 < c.2 ∧ c.2 < n := fun c hc => by
    have := h c hc
    unfold strB at this
    rw [Bool.and_eq_true, decide_eq_true_eq, decide_eq_true_eq] at this
    exact this
  exact ⟨g, fun c hc => by
    obtain ⟨h1, h2⟩ := g c hc
    exact ⟨by omega, h2, by omega⟩⟩
/-- a web that sorts -/
structure SortOk (n : Nat) (cs : List Cmp) : Prop where
  few : cs.length ≤ 60
  str : ∀ c ∈ cs, c.1 < c.2 ∧ c.2 < n
  ok : CmpsOk n cs
  srt : ∀ r : Row, r.length = n → Srt (gone cs r)
def sortChk (n : Nat) (cs : List Cmp) : Bool := decide (cs.length ≤ 60) && (cs.all (strB n) && (List.range (2 ^ n)).all fun w => srtB n (goneB cs w))
theorem sort_ok {n : Nat} {cs : List Cmp} (h : sortChk n cs = true) : SortOk n cs := by
  unfold sortChk at h
  rw [Bool.and_eq_true, Bool.and_eq_true, decide_eq_true_eq] at h
  obtain ⟨h1, h2, h3⟩ := h
  obtain ⟨g, ok⟩ := strB_ok h2
  refine ⟨h1, g, ok, fun r hr => zero_one ok (fun b hb => ?_) hr⟩
  obtain ⟨w, hw, rfl⟩ := List.mem_map.mp hb
  rw [gone_bare ok]
  exact srt_bare (List.all_eq_true.mp h3 w hw)
/-- a part in order, of noughts and ones -/
def half (m i : Nat) : Row := List.replicate (m - i) 0 ++ List.replicate i 1
theorem half_len {m i : Nat} (h : i ≤ m) : (half m i).length = m := by
  unfold half
  rw [List.length_append, List.length_replicate, List.length_replicate]
  omega
theorem half_of : ∀ (r : Row), Bits r → Srt r → ∃ i, i ≤ r.length ∧ r = half r.length i
  | [], _, _ => ⟨0, Nat.le_refl _, rfl⟩
  | x :: r, hb, hs => by
    rw [Srt, List.pairwise_cons] at hs
    obtain ⟨i, hi, e⟩ := half_of r (fun y hy => hb y (List.mem_cons_of_mem _ hy)) hs.2
    rcases hb x List.mem_cons_self with hx | hx
    · refine ⟨i, by rw [List.length_cons]; omega, ?_⟩
      unfold half at e ⊢
      rw [List.length_cons, show r.length + 1 - i = r.length - i + 1 by omega, List.replicate_succ, List.cons_append, ← e, hx]
    · have all : ∀ y ∈ r, y = 1 := fun y hy => by
        have h1 := hs.1 y hy
        rcases hb y (List.mem_cons_of_mem _ hy) with h | h
        · omega
        · exact h
      refine ⟨r.length + 1, Nat.le_refl _, ?_⟩
      unfold half
      rw [List.length_cons, Nat.sub_self, List.replicate_succ, hx]
      show 1 :: r = [] ++ 1 :: List.replicate r.length 1
      rw [List.nil_append]
      congr 1
      exact List.eq_replicate_iff.mpr ⟨rfl, all⟩
/-- a web that merges -/
structure MergeOk (m k : Nat) (cs : List Cmp) : Prop where
  few : cs.length ≤ 60
  str : ∀ c ∈ cs, c.1 < c.2 ∧ c.2 < m + k
  ok : CmpsOk (m + k) cs
  mer : ∀ a b : Row, a.length = m → b.length = k → Srt a → Srt b → Srt (gone cs (a ++ b))
theorem zero_one_row {n : Nat} {cs : List Cmp} {r : Row} (ok : CmpsOk n cs) (hr : r.length = n) (h : ∀ t, Srt (gone cs (r.map (thr t)))) : Srt (gone cs r) := by
  rw [Srt, List.pairwise_iff_getElem]
  intro i j hi hj hij
  by_cases g : (gone cs r)[i] ≤ (gone cs r)[j]
  · exact g
  · exfalso
    have hb := h (gone cs r)[i]
    rw [gone_map (thr_mono _) cs r ok hr, Srt, List.pairwise_iff_getElem] at hb
    have := hb i j (by rw [List.length_map]; exact hi) (by rw [List.length_map]; exact hj) hij
    rw [List.getElem_map, List.getElem_map] at this
    unfold thr at this
    rw [if_pos (Int.le_refl _), if_neg (by omega)] at this
    omega
theorem half_thr {a : Row} (t : Int) (hs : Srt a) : ∃ i, i ≤ a.length ∧ a.map (thr t) = half a.length i := by
  have hb : Bits (a.map (thr t)) := fun x hx => by
    obtain ⟨y, _, rfl⟩ := List.mem_map.mp hx
    exact thr_bit t y
  have hs2 : Srt (a.map (thr t)) := List.Pairwise.map _ (fun x y h => by
    unfold thr
    split <;> split <;> omega) hs
  obtain ⟨i, hi, e⟩ := half_of _ hb hs2
  rw [List.length_map] at hi e
  exact ⟨i, hi, e⟩
/-- both halves as a number -/
def halfN (m k i j : Nat) : Nat := ((2 ^ i - 1) <<< (m - i)) + ((2 ^ j - 1) <<< (m + k - j))
def mergeChk (m k : Nat) (cs : List Cmp) : Bool := decide (cs.length ≤ 60) && (cs.all (strB (m + k)) &&
  (List.range (m + 1)).all fun i => (List.range (k + 1)).all fun j => decide (half m i ++ half k j = bareR (m + k) (halfN m k i j)) && srtB (m + k) (goneB cs (halfN m k i j)))
theorem merge_ok {m k : Nat} {cs : List Cmp} (h : mergeChk m k cs = true) : MergeOk m k cs := by
  unfold mergeChk at h
  rw [Bool.and_eq_true, Bool.and_eq_true, decide_eq_true_eq] at h
  obtain ⟨h1, h2, h3⟩ := h
  obtain ⟨g, ok⟩ := strB_ok h2
  refine ⟨h1, g, ok, fun a b ha hb sa sb => zero_one_row ok (by rw [List.length_append, ha, hb]) fun t => ?_⟩
  obtain ⟨i, hi, e1⟩ := half_thr t sa
  obtain ⟨j, hj, e2⟩ := half_thr t sb
  rw [List.map_append, e1, e2, ha, hb]
  rw [ha] at hi
  rw [hb] at hj
  rw [List.all_eq_true] at h3
  have h4 := h3 i (List.mem_range.mpr (by omega))
  rw [List.all_eq_true] at h4
  have h5 := h4 j (List.mem_range.mpr (by omega))
  rw [Bool.and_eq_true, decide_eq_true_eq] at h5
  rw [h5.1, gone_bare ok]
  exact srt_bare h5.2
theorem goC_prm {n : Nat} {r : Row} {c : Cmp} (hr : r.length = n) (ok : CmpOk n c) : (goC r c).Perm r := by
  obtain ⟨h1, h2, h3⟩ := ok
  unfold goC
  split
  · have p := List.set_set_perm (as := r) (i := c.1) (j := c.2) (by omega) (by omega)
    have e1 := at0_get (r := r) (k := c.1) (by omega)
    have e2 := at0_get (r := r) (k := c.2) (by omega)
    rw [List.getElem?_eq_getElem (by omega)] at e1 e2
    rw [← Option.some.inj e1, ← Option.some.inj e2]
    exact p
  · exact .refl _
theorem gone_prm {n : Nat} {cs : List Cmp} : CmpsOk n cs → ∀ {r : Row}, r.length = n → (gone cs r).Perm r := by
  induction cs with
  | nil => intro _ r _; exact .refl _
  | cons c cs ih =>
    intro ok r hr
    show (gone cs (goC r c)).Perm r
    exact (ih (fun d hd => ok d (List.mem_cons_of_mem _ hd)) (by rw [goC_len, hr])).trans (goC_prm hr (ok c List.mem_cons_self))
theorem srt_uniq {r s : Row} (hp : r.Perm s) (hr : Srt r) (hs : Srt s) : r = s :=
  List.Perm.eq_of_pairwise (fun a b _ _ k1 k2 => Int.le_antisymm k1 k2) hr hs hp
end Sw

set_option Elab.async false
set_option linter.all false
set_option maxRecDepth 100000
set_option maxHeartbeats 4000000
namespace Sw
open PySem PySem.Spec PyProof.Rows L2
/-! ## x[k::2], k nought or one -/
/-- every second one, the first one ahead -/
def evs {α : Type} : List α → List α
  | [] => []
  | [x] => [x]
  | x :: _ :: r => x :: evs r
theorem evs_pick {α : Type} : ∀ (ys : List α), (List.range ((ys.length + 1) / 2)).filterMap (fun k => ys[2 * k]?) = evs ys
  | [] => by
    have e : (([] : List α).length + 1) / 2 = 0 := by
      rw [List.length_nil]
    rw [e]
    rfl
  | [x] => by
    have e : ([x].length + 1) / 2 = 1 := by
      rw [List.length_singleton]
    rw [e]
    rfl
  | x :: y :: r => by
    have ih := evs_pick r
    have e : ((x :: y :: r).length + 1) / 2 = (r.length + 1) / 2 + 1 := by
      rw [List.length_cons, List.length_cons]
      omega
    rw [e, List.range_succ_eq_map, List.filterMap_cons]
    show (x :: List.filterMap (fun k => (x :: y :: r)[2 * k]?) ((List.range ((r.length + 1) / 2)).map Nat.succ)) = x :: evs r
    rw [List.filterMap_map, ← ih]
    congr 1
theorem evs_len {α : Type} : ∀ (ys : List α), (evs ys).length = (ys.length + 1) / 2
  | [] => by
    show 0 = _
    rw [List.length_nil]
  | [x] => by
    show 1 = _
    rw [List.length_singleton]
  | x :: y :: r => by
    show (evs r).length + 1 = _
    rw [evs_len r, List.length_cons, List.length_cons]
    omega
theorem evs_map {α β : Type} (f : α → β) : ∀ (ys : List α), evs (ys.map f) = (evs ys).map f
  | [] => rfl
  | [x] => rfl
  | x :: y :: r => by
    show f x :: evs (r.map f) = f x :: (evs r).map f
    rw [evs_map f r]
theorem evs_paired {α β : Type} {F : α → β → Prop} : ∀ {xs : List α} {ys : List β}, PySem.Paired F xs ys → PySem.Paired F (evs xs) (evs ys)
  | [], _, h => by cases h; exact .nil
  | [x], _, h => by
    cases h with
    | cons h t => cases t; exact .cons h .nil
  | x :: y :: r, _, h => by
    cases h with
    | cons h t =>
      cases t with
      | cons h2 t2 => exact .cons h (evs_paired t2)
theorem pick_evs (items : Array Value) {lo : Option Int} {d : Nat} (hd : (lo = none ∧ d = 0) ∨ (lo = some (d : Int) ∧ d ≤ 1)) : slicePick items lo none (some 2) = (evs (items.toList.drop d)).toArray := by
  have e : sliceRange (sliceBounds lo none (some 2) items.size).1 (sliceBounds lo none (some 2) items.size).2.1 (sliceBounds lo none (some 2) items.size).2.2 = (List.range (((items.toList.drop d).length + 1) / 2)).map fun k => d + 2 * k := by
    have hl : (items.toList.drop d).length = items.size - d := by rw [List.length_drop, Array.length_toList]
    have b : sliceBounds lo none (some 2) items.size = (((min d items.size : Nat) : Int), (items.size : Int), 2) := by
      rcases hd with ⟨rfl, rfl⟩ | ⟨rfl, h⟩
      · unfold sliceBounds
        simp
      · unfold sliceBounds
        simp
        omega
    rw [b, hl]
    show sliceRange ((min d items.size : Nat) : Int) (items.size : Int) 2 = _
    unfold sliceRange
    by_cases h : d < items.size
    · have m : min d items.size = d := by omega
      rw [m, if_pos (by decide), if_pos (by omega)]
      have c : (((items.size : Int) - (d : Int) + 2 - 1) / 2).toNat = (items.size - d + 1) / 2 := by omega
      show (List.range (((items.size : Int) - (d : Int) + 2 - 1) / 2).toNat).map _ = _
      rw [c]
      refine List.map_congr_left fun k _ => ?_
      omega
    · have m : min d items.size = items.size := by omega
      rw [m, if_pos (by decide), if_neg (by omega)]
      have c : (items.size - d + 1) / 2 = 0 := by omega
      rw [c]
      rfl
  unfold slicePick
  rw [e, List.filterMap_map, ← evs_pick]
  congr 2
  funext k
  show items[d + 2 * k]? = (items.toList.drop d)[2 * k]?
  rw [List.getElem?_drop, Array.getElem?_toList]
def tStepF (K : PySem.W.Frag) (te : TE) (tl : TO) (ts : TE) : TE := fun σ H Q => te σ H fun x H1 => tl σ H1 fun l H2 => tPart ts σ H2 fun o H4 => o = some 2 ∧ ∃ (a : Addr) (xs : List V) (d : Nat), x = .ref a ∧ SqL K H4 a xs ∧ ((l = none ∧ d = 0) ∨ (l = some (d : Int) ∧ d ≤ 1)) ∧ ∀ p, H4 p = none → Q (.ref p) (upd H4 p (.lst (evs (xs.drop d))))
section
variable {X : Cx}
theorem pe_stepF {e es : Expr} {elo : Option Expr} {te ts : TE} {tl : TO} {p3 pos : Pos} (he : PE X e te) (hlo : PO X elo tl) (hs : PE X es ts) (hl : ∀ o i, subscripted (.Slice elo none (some es) p3) false o i = operate [o, i] (getItem o i) := by intro _ _; with_unfolding_all rfl) :
    PE X (.Subscript e (.Slice elo none (some es) p3) pos) (tStepF X.K te tl ts) := by
  refine ⟨fun pins s σ H Q I h => Subscript_ (thn (he.run pins s σ H _ I h) fun v s1 hv => ?_)⟩
  obtain ⟨x, H1, I1, r1, q1⟩ := hv
  have pst : PO X (some es) (tPart ts) := po_some hs
  refine wpAny_Slice (thn (hlo.run pins s1 σ H1 _ I1 q1) fun vl s2 hl2 => ?_)
  obtain ⟨l, H2, I2, pl, q2⟩ := hl2
  refine thn (po_none.run pins s2 σ H2 (fun o H3 => o = none ∧ H3 = H2) I2 ⟨rfl, rfl⟩) fun vu s3 hu2 => ?_
  obtain ⟨u, H3, I3, pu, rfl, rfl⟩ := hu2
  refine thn (pst.run pins s3 σ H3 _ I3 q2) fun vs s4 hs4 => ?_
  obtain ⟨o, H4, I4, ps, rfl, a, xs, d, rfl, hx, hk, q⟩ := hs4
  cases r1
  have I5 : Inv X pins σ H4 { s4 with heap := s4.heap.push { cls := .type "slice", data := .fields #[vl, vu, vs] } } := I4.kept (t' := s4.toks) fun b ob z => Heap.get?_push_of_some _ z
  obtain ⟨its, r, ht, hz⟩ := I5.list hx
  have len := r.length
  show wpAny (model X.prog X.w) X.A (subscriptTail e (.Slice elo none (some es) p3) (.ref a) (.ref s4.heap.objs.size)) (EP X pins σ Q) X.xe { s4 with heap := s4.heap.push { cls := .type "slice", data := .fields #[vl, vu, vs] } }
  refine tail_any (ops := [.ref a, .ref s4.heap.objs.size]) ht.isList.typeIs (PySem.slot_list_getitem.lookup) ?_ (hl _ _)
  refine wpAny_getItem_list_slice ht.isList (Heap.IsSliceOf.new _ vl vu vs) pl pu ps (by decide) ?_ (by rw [List.size_toArray]; omega)
  rw [pick_evs _ hk]
  refine ⟨.ref _, _, I5.laid (t' := s4.toks) (o := .lst (evs (xs.drop d))) (fun b ob z => Heap.get?_push_of_some _ z) (Nat.le_refl _) ?_, rfl, q _ (I5.hok.fresh (Nat.le_refl _))⟩
  refine ⟨?_, evs (its.drop d), 0, evs_paired (r.drop d), Heap.get?_push_size _ rfl⟩
  rw [evs_len, List.length_drop]
  omega
end
/-! ## A def that calls itself: no promise to begin with -/
theorem Here.none {P : Program} {w : World} {K : PySem.W.Frag} {mg : Str → Option Value} {base : Heap} {x : Str} {st : Stmt} {ps : List Str} {k : Nat} (F : Here K mg x st)
    (bd : ∀ (kV doc pm : Value) (an : Option Addr) (cdv ct : Value) (us : List Value), us.length = ps.length →
      bindArgs (PySem.W.fnOf x x (defArgs st) (defBody st) (defScope st) .none kV doc pm an cdv ct) ⟨us, []⟩ = pure (ps.zip us)) :
    Cal P w K mg base CX0 k x ps (fun _ _ _ _ => False) := by
  obtain ⟨f, fd, D, g⟩ := F.ex
  refine ⟨f, fd, ⟨fun _ _ _ _ h => h.elim, fun _ _ _ _ _ _ _ _ _ _ _ _ _ h => h.elim⟩, g, D.kp, D.bindsN bd, fun s us hl => D.bindsA bd s us hl, ?_⟩
  obtain ⟨oc, od, _, _, _, _, _, _, _, osl, _, lk, _⟩ := D.ex
  exact ⟨oc, od, osl, lk⟩
end Sw

set_option Elab.async false
set_option linter.all false
set_option maxRecDepth 100000
namespace Sw
/-! ## The made webs of the landed program -/
/-- neighbours, from the second line on -/
def ups (r : List Nat) : List Cmp := (List.range ((r.length - 1) / 2)).map fun i => (r.getD (1 + 2 * i) 0, r.getD (1 + 2 * i + 1) 0)
def mergeF : Nat → List Nat → List Nat → List Cmp
  | 0, _, _ => []
  | f + 1, a, b => if a = [] ∨ b = [] then [] else if a.length = 1 ∧ b.length = 1 then [(a.headD 0, b.headD 0)] else
      (mergeF f (evs a) (evs b) ++ mergeF f (evs (a.drop 1)) (evs (b.drop 1))) ++ ups (a ++ b)
def sortF : Nat → List Nat → List Cmp
  | 0, _ => []
  | f + 1, r => if r.length < 2 then [] else (sortF f (r.take (r.length / 2)) ++ sortF f (r.drop (r.length / 2))) ++ mergeF 5 (r.take (r.length / 2)) (r.drop (r.length / 2))
def mergeW (m k : Nat) : List Cmp := mergeF 5 (List.range m) ((List.range k).map (m + ·))
def sortW (n : Nat) : List Cmp := sortF 4 (List.range n)
theorem allM : ((List.range 11).all fun m => (List.range 11).all fun k => (decide (m + k = 0) || decide (m + k > 10)) || mergeChk m k (mergeW m k)) = true := by decide +kernel
theorem allS : ((List.range 10).all fun n => sortChk (n + 1) (sortW (n + 1))) = true := by decide +kernel
theorem merge_all {m k : Nat} (h1 : 1 ≤ m + k) (h2 : m + k ≤ 10) : MergeOk m k (mergeW m k) := by
  have h := List.all_eq_true.mp (List.all_eq_true.mp allM m (List.mem_range.mpr (by omega))) k (List.mem_range.mpr (by omega))
  rw [decide_eq_false (by omega), decide_eq_false (by omega)] at h
  exact merge_ok h
theorem sort_all {n : Nat} (h1 : 1 ≤ n) (h2 : n ≤ 10) : SortOk n (sortW n) := by
  have h := List.all_eq_true.mp allS (n - 1) (List.mem_range.mpr (by omega))
  rw [show n - 1 + 1 = n by omega] at h
  exact sort_ok h
/-! ### how many -/
theorem ups_len (r : List Nat) : (ups r).length = (r.length - 1) / 2 := by
  unfold ups
  rw [List.length_map, List.length_range]
theorem mergeF_len : ∀ (f : Nat) (a b : List Nat), (mergeF f a b).length ≤ f * (a.length + b.length)
  | 0, _, _ => by
    show 0 ≤ _
    omega
  | f + 1, a, b => by
    have h1 := mergeF_len f (evs a) (evs b)
    have h2 := mergeF_len f (evs (a.drop 1)) (evs (b.drop 1))
    have e : (f + 1) * (a.length + b.length) = f * (a.length + b.length) + (a.length + b.length) := by rw [Nat.add_mul, Nat.one_mul]
    unfold mergeF
    split
    · show 0 ≤ _
      omega
    · split
      · rename_i z
        show 1 ≤ _
        rw [e]
        omega
      · rw [List.length_append, List.length_append, ups_len, List.length_append, e]
        rw [evs_len, evs_len] at h1 h2
        rw [List.length_drop, List.length_drop] at h2
        have m : f * ((a.length + 1) / 2 + (b.length + 1) / 2) + f * ((a.length - 1 + 1) / 2 + (b.length - 1 + 1) / 2) ≤ f * (a.length + b.length) := by
          rw [← Nat.mul_add]
          by_cases ha : a.length = 0
          · have : a = [] := List.eq_nil_of_length_eq_zero ha
            exact absurd (Or.inl this) (by assumption)
          · by_cases hb : b.length = 0
            · have : b = [] := List.eq_nil_of_length_eq_zero hb
              exact absurd (Or.inr this) (by assumption)
            · exact Nat.mul_le_mul_left _ (by omega)
        omega
theorem sortF_len : ∀ (f : Nat) (r : List Nat), (sortF f r).length ≤ f * (5 * r.length)
  | 0, _ => by
    show 0 ≤ _
    omega
  | f + 1, r => by
    have h1 := sortF_len f (r.take (r.length / 2))
    have h2 := sortF_len f (r.drop (r.length / 2))
    have h3 := mergeF_len 5 (r.take (r.length / 2)) (r.drop (r.length / 2))
    have e : (f + 1) * (5 * r.length) = f * (5 * r.length) + 5 * r.length := by rw [Nat.add_mul, Nat.one_mul]
    unfold sortF
    split
    · show 0 ≤ _
      omega
    · rw [List.length_append, List.length_append, e]
      rw [List.length_take, List.length_drop] at h3
      rw [List.length_take] at h1
      rw [List.length_drop] at h2
      have m : f * (5 * min (r.length / 2) r.length) + f * (5 * (r.length - r.length / 2)) = f * (5 * r.length) := by
        rw [← Nat.mul_add]
        congr 1
        omega
      omega
end Sw

set_option Elab.async false
set_option linter.all false
set_option maxRecDepth 100000
set_option maxHeartbeats 4000000
namespace Sw
open PySem PySem.Spec PyProof.Rows L2
/-! ## Layer by layer, the same with every row -/
theorem goC_comm {n : Nat} {r : Row} {c d : Cmp} (hr : r.length = n) (okc : CmpOk n c) (okd : CmpOk n d) (s : share c d = false) : goC (goC r c) d = goC (goC r d) c := by
  unfold share at s
  rw [decide_eq_false_iff_not] at s
  have a1 : c.1 ≠ d.1 := fun e => s (.inl e)
  have a2 : c.1 ≠ d.2 := fun e => s (.inr (.inl e))
  have a3 : c.2 ≠ d.1 := fun e => s (.inr (.inr (.inl e)))
  have a4 : c.2 ≠ d.2 := fun e => s (.inr (.inr (.inr e)))
  have lc : (goC r c).length = n := by rw [goC_len, hr]
  have ld : (goC r d).length = n := by rw [goC_len, hr]
  refine row_ext (n := n) (by rw [goC_len, lc]) (by rw [goC_len, ld]) fun k hk => ?_
  rw [goC_at lc okd, goC_at ld okc]
  rw [goC_at hr okc, goC_at hr okc, goC_at hr okc, goC_at hr okd, goC_at hr okd, goC_at hr okd]
  rw [if_neg a4, if_neg a2, if_neg a3, if_neg a1, if_neg a4.symm, if_neg a3.symm, if_neg a2.symm, if_neg a1.symm]
  by_cases e1 : d.2 = k
  · rw [if_pos e1, if_neg (fun e => a4 (e.trans e1.symm)), if_neg (fun e => a2 (e.trans e1.symm)), if_pos e1]
  · rw [if_neg e1, if_neg e1]
    by_cases e2 : d.1 = k
    · rw [if_pos e2, if_neg (fun e => a3 (e.trans e2.symm)), if_neg (fun e => a1 (e.trans e2.symm)), if_pos e2]
    · rw [if_neg e2, if_neg e2]
theorem gone_comm {n : Nat} {c : Cmp} (okc : CmpOk n c) {B : List Cmp} : CmpsOk n B → (∀ d ∈ B, share c d = false) → ∀ {r : Row}, r.length = n → gone B (goC r c) = goC (gone B r) c := by
  induction B with
  | nil => intro _ _ r _; rfl
  | cons d B ih =>
    intro ok s r hr
    show gone B (goC (goC r c) d) = goC (gone B (goC r d)) c
    rw [goC_comm hr okc (ok d List.mem_cons_self) (s d List.mem_cons_self), ih (fun e he => ok e (List.mem_cons_of_mem _ he)) (fun e he => s e (List.mem_cons_of_mem _ he)) (by rw [goC_len, hr])]
theorem gone_app (A B : List Cmp) (r : Row) : gone (A ++ B) r = gone B (gone A r) := by
  unfold gone
  rw [List.foldl_append]
theorem flat_set {n t : Nat} {c : Cmp} {x : List Cmp} (okc : CmpOk n c) : ∀ {ls : List (List Cmp)}, ls[t]? = some x → (∀ u y, t < u → ls[u]? = some y → ∀ d ∈ y, share c d = false ∧ CmpOk n d) → (∀ y ∈ ls, CmpsOk n y) → ∀ {r : Row}, r.length = n → gone (ls.set t (x ++ [c])).flatten r = goC (gone ls.flatten r) c := by
  intro ls hx later ok r hr
  have ht : t < ls.length := (List.getElem?_eq_some_iff.mp hx).1
  have e1 : ls = ls.take t ++ x :: ls.drop (t + 1) := by
    obtain ⟨_, hc⟩ := List.getElem?_eq_some_iff.mp hx
    rw [← hc, List.getElem_cons_drop, List.take_append_drop]
  have e2 : ls.set t (x ++ [c]) = ls.take t ++ (x ++ [c]) :: ls.drop (t + 1) := by
    rw [List.set_eq_take_append_cons_drop, if_pos ht]
  have fl : ls.flatten = (ls.take t).flatten ++ (x ++ (ls.drop (t + 1)).flatten) := by
    conv => lhs; rw [e1]
    rw [List.flatten_append, List.flatten_cons]
  rw [e2, fl, List.flatten_append, List.flatten_cons, gone_app, gone_app, gone_app, gone_app, gone_app]
  refine gone_comm okc (fun d hd => ?_) (fun d hd => ?_) (by rw [gone_len, gone_len, hr])
  all_goals
    obtain ⟨y, hy, hd⟩ := List.mem_flatten.mp hd
    obtain ⟨k, hk, e⟩ := List.mem_iff_getElem.mp hy
    rw [List.getElem_drop] at e
    have hk2 : t + 1 + k < ls.length := by
      rw [List.length_drop] at hk
      omega
    have := later (t + 1 + k) y (by omega) (by rw [List.getElem?_eq_getElem hk2, e]) d hd
  · exact this.2
  · exact this.1
theorem lay_in {cs : List Cmp} {i u : Nat} {d : Cmp} (h : d ∈ layI cs i u) : ∃ j, j < i ∧ cs[j]? = some d ∧ (tiers cs)[j]? = some u := by
  unfold layI layerOf at h
  obtain ⟨p, hp, rfl⟩ := List.mem_map.mp h
  rw [List.mem_filter] at hp
  obtain ⟨hp, e⟩ := hp
  obtain ⟨k, hk, ek⟩ := List.mem_iff_getElem.mp hp
  rw [List.getElem_zip] at ek
  rw [List.length_zip, List.length_take, List.length_take] at hk
  have e2 : p.2 = u := by simpa using e
  rw [List.getElem_take, List.getElem_take] at ek
  refine ⟨k, by omega, ?_, ?_⟩
  · rw [List.getElem?_eq_getElem (by omega), ← ek]
  · rw [List.getElem?_eq_getElem (by omega), ← e2, ← ek]
theorem lay_later {n : Nat} {cs : List Cmp} (ok : CmpsOk n cs) {i t u : Nat} {c d : Cmp} (hc : cs[i]? = some c) (ht : (tiers cs)[i]? = some t) (tu : t < u) (hd : d ∈ layI cs i u) : share c d = false ∧ CmpOk n d := by
  obtain ⟨j, hj, gd, gu⟩ := lay_in hd
  refine ⟨?_, ok d (List.mem_of_getElem? gd)⟩
  unfold share
  rw [decide_eq_false_iff_not]
  intro h
  have g := tiers_get hc
  rw [ht] at g
  have et : t = tierH (hgtH (fun _ => 0) (cs.take i)) c := Option.some.inj g
  have gd' : (cs.take i)[j]? = some d := by rw [List.getElem?_take_of_lt hj]; exact gd
  have gu' : (tiers (cs.take i))[j]? = some u := by rw [tiers_take, List.getElem?_take_of_lt hj]; exact gu
  have key : ∀ l, (d.1 = l ∨ d.2 = l) → u + 1 ≤ hgtH (fun _ => 0) (cs.take i) l := fun l hl => (hgt_spec (cs.take i) l).1 j d gd' hl u gu'
  unfold tierH at et
  rcases h with h | h | h | h
  · have := key c.1 (.inl h.symm); omega
  · have := key c.1 (.inr h.symm); omega
  · have := key c.2 (.inl h.symm); omega
  · have := key c.2 (.inr h.symm); omega
theorem lay_goes_i {n : Nat} {cs : List Cmp} (ok : CmpsOk n cs) {M : Nat} (hM : manyT cs ≤ M) {r : Row} (hr : r.length = n) : ∀ i, i ≤ cs.length → gone (layL cs i M).flatten r = gone (cs.take i) r := by
  intro i
  induction i with
  | zero =>
    intro _
    rw [layL_zero]
    have : ∀ l : List Nat, (l.map fun _ => ([] : List Cmp)).flatten = [] := fun l => by
      induction l with
      | nil => rfl
      | cons a l ih => rw [List.map_cons, List.flatten_cons, ih] <;> rfl
    rw [this] <;> rfl
  | succ i ih =>
    intro hi
    obtain ⟨c, hc⟩ := get_of (xs := cs) (i := i) (by omega)
    obtain ⟨t, ht⟩ := get_of (xs := tiers cs) (i := i) (by rw [tiers_len]; omega)
    have tM : t < M := by
      have := manyL_lt (List.mem_of_getElem? ht)
      unfold manyT at hM
      omega
    rw [← layL_set hc ht, List.take_add_one, hc]
    show _ = gone (cs.take i ++ [c]) r
    rw [gone_app, ← ih (by omega)]
    refine flat_set (ok c (List.mem_of_getElem? hc)) (layL_get tM) (fun u y tu hy d hd => ?_) (fun y hy d hd => ?_) hr
    · have uM : u < M := by
        have := (List.getElem?_eq_some_iff.mp hy).1
        rwa [layL_len] at this
      rw [layL_get uM] at hy
      rw [← Option.some.inj hy] at hd
      exact lay_later ok hc ht tu hd
    · unfold layL at hy
      obtain ⟨u, _, rfl⟩ := List.mem_map.mp hy
      obtain ⟨j, _, gd, _⟩ := lay_in hd
      exact ok d (List.mem_of_getElem? gd)
theorem lay_goes {n : Nat} {cs : List Cmp} (ok : CmpsOk n cs) {r : Row} (hr : r.length = n) : gone (layersOf cs).flatten r = gone cs r := by
  have := lay_goes_i ok (Nat.le_refl _) hr cs.length (Nat.le_refl _)
  rw [List.take_length] at this
  exact this
theorem flat_perm {t : Nat} {c : Cmp} {x : List Cmp} {ls : List (List Cmp)} (hx : ls[t]? = some x) : (ls.set t (x ++ [c])).flatten.Perm (ls.flatten ++ [c]) := by
  have ht : t < ls.length := (List.getElem?_eq_some_iff.mp hx).1
  have e1 : ls = ls.take t ++ x :: ls.drop (t + 1) := by
    obtain ⟨_, hc⟩ := List.getElem?_eq_some_iff.mp hx
    rw [← hc, List.getElem_cons_drop, List.take_append_drop]
  have e2 : ls.set t (x ++ [c]) = ls.take t ++ (x ++ [c]) :: ls.drop (t + 1) := by
    rw [List.set_eq_take_append_cons_drop, if_pos ht]
  have fl : ls.flatten = (ls.take t).flatten ++ (x ++ (ls.drop (t + 1)).flatten) := by
    conv => lhs; rw [e1]
    rw [List.flatten_append, List.flatten_cons]
  rw [e2, fl, List.flatten_append, List.flatten_cons, List.append_assoc, List.append_assoc, List.append_assoc]
  exact List.Perm.append_left _ (List.Perm.append_left _ List.perm_append_comm)
theorem lay_perm_i {cs : List Cmp} {M : Nat} (hM : manyT cs ≤ M) : ∀ i, i ≤ cs.length → (layL cs i M).flatten.Perm (cs.take i) := by
  intro i
  induction i with
  | zero =>
    intro _
    rw [layL_zero]
    have : ∀ l : List Nat, (l.map fun _ => ([] : List Cmp)).flatten = [] := fun l => by
      induction l with
      | nil => rfl
      | cons a l ih => rw [List.map_cons, List.flatten_cons, ih] <;> rfl
    rw [this]
    exact .nil
  | succ i ih =>
    intro hi
    obtain ⟨c, hc⟩ := get_of (xs := cs) (i := i) (by omega)
    obtain ⟨t, ht⟩ := get_of (xs := tiers cs) (i := i) (by rw [tiers_len]; omega)
    have tM : t < M := by
      have := manyL_lt (List.mem_of_getElem? ht)
      unfold manyT at hM
      omega
    rw [← layL_set hc ht, List.take_add_one, hc]
    exact (flat_perm (layL_get tM)).trans ((ih (by omega)).append_right _)
theorem lay_perm (cs : List Cmp) : (layersOf cs).flatten.Perm cs := by
  have := lay_perm_i (cs := cs) (Nat.le_refl _) cs.length (Nat.le_refl _)
  rw [List.take_length] at this
  exact this
end Sw

set_option Elab.async false
set_option linter.all false
set_option maxRecDepth 100000
set_option maxHeartbeats 4000000
namespace Sw
open PySem PySem.Spec PyProof.Rows L2
/-! ## {e for x in xs}, whole numbers, and sorted of it, any number of them -/
abbrev noI : Int → Bool := fun _ => false
abbrev moI (S : Int → Bool) (c : Int) : Int → Bool := fun j => S j || decide (j = c)
abbrev moN (S : Int → Bool) (c : Int) (n : Nat) : Nat := if S c = true then n else n + 1
def tSetC (w : World) (wi : TI) (g : TG) (te : TE) (vs : List Nat) : TE := fun σ H Q =>
  wi σ H fun J H1 => ∀ D, H1 D = none → ∃ Z : Nat → Nat → Hp → Prop, (∃ m, Z 0 m (upd H1 D (SetO w D noI 0))) ∧ ∀ i m H2, Z i m H2 →
    (J.stop i H2 ∧ Q (.ref D) H2) ∨ (J.go i H2 ∧ ∃ Y : Hp → Prop, (∀ G, Y G → ∃ k, k < m ∧ Z (i + 1) k G) ∧
      ∀ x H3, J.yld i H2 x H3 → g x (wipe σ vs) H3 fun σ4 H4 => wipe σ4 vs = wipe σ vs ∧
        te σ4 H4 fun y H5 => ∃ (c : Int) (S : Int → Bool) (n : Nat), y = .int c ∧ H5 D = some (SetO w D S n) ∧ n + 1 < scanBound ∧ Y (upd H5 D (SetO w D (moI S c) (moN S c n))))
section
variable {X : Cx}
theorem put_ok {pins : List (Addr × Obj)} {σ : L2.St} {H : Hp} {s : Shared} {E : Value → Shared → Prop} {D : Addr} {S : Int → Bool} {n : Nat} {c : Int} {u : Value} {Q : Value → Shared → Prop}
    (I : Inv X pins σ H s) (ru : RelV (.int c) u) (hD : H D = some (SetO X.w D S n)) (few : n + 1 < scanBound)
    (go : ∀ z, Inv X pins σ (upd H D (SetO X.w D (moI S c) (moN S c n))) z → Q .none z) : wpAny (model X.prog X.w) X.A (call (.builtin "set.add") [.ref D, u]) Q E s := by
  obtain ⟨tk, rfl⟩ := ru
  refine setR_add (setO_get I hD) few fun g2 but new => go _ ?_
  obtain ⟨o, _, _, _, ho, _⟩ := id new
  exact I.write (e := D) (t' := s.toks + 1) (by rw [hD]; exact True.intro) (.inl rfl) (fun b v nb hv => (but.2 b nb).trans hv) ⟨o, ho⟩ (setO_new new)
theorem pe_setC {elt tg iter : Expr} {sc : Scope} {own : List (Str × Nat)} {pos : Pos} {wi : TI} {g : TG} {te : TE} (calm : X.calm = true) (nd : X.N.Nodup) (pi : PI X tg iter wi) (bl : BlkOk X.N X.env.scope sc own)
    (hg : ∀ (z : Shared) (G : Hp) (C : Addr) (l : List (Str × Addr)) (fp : List Addr), PG (X.blk z G sc (compEnvC sc l C X.env) fp) tg g)
    (he : ∀ (z : Shared) (G : Hp) (C : Addr) (l : List (Str × Addr)) (fp : List Addr), PE (X.blk z G sc (compEnvC sc l C X.env) fp) elt te)
    (fo : ∀ x, foldedSetIterable iter X.env x = pure x := by intro _; rfl) : PE X (.SetComp elt [⟨tg, iter, [], 0⟩] sc pos) (tSetC X.w wi g te (own.map (·.2))) := by
  refine ⟨fun pins s σ H Q I h => ?_⟩
  rw [PpSet.eval_SetComp]
  have cl : ∀ y ∈ sc.names, y.2 = .free → ∃ c, X.env.cells.lookup y.1 = some c := fun y m e => (bl.free y m e).elim (fun k => I.ok.has _ (.inl k)) fun k => I.ok.has _ (.inr k)
  refine wpAny_comprehension_free rfl fo (closure_ok cl) bl.kind (fun y m e => by rw [bl.uniq y m, e]) (thn (pi.run pins s σ H _ I h) fun v1 z1 k1 => thn k1 fun v2 z2 k2 => ?_)
  obtain ⟨it, fp, tn, J, H2, rfl, I2, T, t2, f2, q⟩ := k2
  refine PpSet.newSet_ok (newEnv_comp ?_)
  generalize eD : z2.heap.objs.size = D
  have nD : H2 D = none := I2.hok.fresh (Nat.le_of_eq eD)
  obtain ⟨Z, ⟨m0, b0⟩, turn⟩ := q D nD
  generalize e3 : ({ z2 with heap := z2.heap.push { cls := .type "set", dict := none, data := .set #[] 0 (.fresh 0 0 (!X.w.params.followText "set-order")) } } : Shared) = z3
  have p3 : z3.heap = z2.heap.push { cls := .type "set", dict := none, data := .set #[] 0 (.fresh 0 0 (!X.w.params.followText "set-order")) } := congrArg Shared.heap e3.symm
  generalize eG : upd H2 D (SetO X.w D noI 0) = G at b0
  have I3 : Inv X pins σ G z3 := by
    subst e3 eG
    exact I2.laid (t' := z2.toks) (fun _ _ e => Heap.get?_push_of_some _ e) (Nat.le_of_eq eD) (by subst eD; exact setO_new (setR_fresh X.w))
  have f3 : ∀ b ∈ fp, FpOk X pins G b ∧ b < z3.heap.objs.size := fun b m => by
    obtain ⟨_, e, _⟩ := T.obj _ _ t2 b m
    have lt := Heap.lt_size e
    subst eG
    exact ⟨⟨(upd_ne (by rw [← eD]; exact Nat.ne_of_lt lt)).trans (f2 b m).1, (f2 b m).2⟩, by rw [p3, Heap.size_push]; exact Nat.lt_succ_of_lt lt⟩
  have t3 : tn 0 z3.heap := T.keep _ _ _ t2 fun _ _ _ e => by
    rw [p3]
    exact Heap.get?_push_of_some _ e
  have I4 := block_start I3 bl nd f3
  have n0 : ∀ b ∈ fp, G b = none := fun b m => (f3 b m).1.1
  have hgC := hg z3 G z3.heap.objs.size (cellsFrom (z3.heap.objs.size + 1) sc.names (cloFrom X.env.cells sc.names [])) fp
  have heC := he z3 G z3.heap.objs.size (cellsFrom (z3.heap.objs.size + 1) sc.names (cloFrom X.env.cells sc.names [])) fp
  show codeAny _ _ (.compStart (.SetComp elt [⟨tg, iter, [], 0⟩] sc pos) 0 (.ref it) (.ref D) (compEnvC sc (cellsFrom (z3.heap.objs.size + 1) sc.names (cloFrom X.env.cells sc.names [])) z3.heap.objs.size X.env))
    (compPost (model X.prog X.w) X.A X.xe none (EP X pins σ Q) (.ref D) z3.heap.objs.size) { z3 with heap := pushCells (z3.heap.push { cls := .type "dict", data := .dict #[] }) sc.names }
  have cL : (compEnvC sc (cellsFrom (z3.heap.objs.size + 1) sc.names (cloFrom X.env.cells sc.names [])) z3.heap.objs.size X.env).locals = z3.heap.objs.size := rfl
  generalize compEnvC sc (cellsFrom (z3.heap.objs.size + 1) sc.names (cloFrom X.env.cells sc.names [])) z3.heap.objs.size X.env = ce at I4 hgC heC cL ⊢
  generalize e4 : ({ z3 with heap := pushCells (z3.heap.push { cls := .type "dict", data := .dict #[] }) sc.names } : Shared) = z4 at I4 ⊢
  have t4 : tn 0 z4.heap := T.keep _ _ _ t3 fun _ _ _ e => by
    subst e4
    exact pushCells_keeps _ _ _ _ (Heap.get?_push_of_some _ e)
  have own4 : ∀ {σ' : L2.St} {H' : Hp} {z : Shared}, Inv (X.blk z3 G sc ce fp) [] σ' H' z → (∀ b ∈ fp, H' b = none) → ∀ b ∈ fp, FpOk (X.blk z3 G sc ce fp) [] H' b := fun J' nn b m =>
    ⟨nn b m, (J'.ok.exf b m).1, J'.ok.exfs b m, .inl m, fun x c e => (J'.ok.exf b m).2 x c e, fun p k => nomatch (show p ∈ ([] : List (Addr × Obj)) ++ [] from k)⟩
  have loop : codeAny (model X.prog X.w) X.A (.compLoop (.SetComp elt [⟨tg, iter, [], 0⟩] sc pos) 0 (.ref it) (.ref D) ce) (compPost (model X.prog X.w) X.A X.xe none (EP X pins σ Q) (.ref D) z3.heap.objs.size) z4 := by
    refine PpSet.compLoopS_any (fun n z => ∃ i H', Inv (X.blk z3 G sc ce fp) [] (wipe σ (own.map (·.2))) H' z ∧ tn i z.heap ∧ (∀ b ∈ fp, H' b = none) ∧ Z i n H') ?_ m0 ⟨0, G, I4, t4, n0, b0⟩
    rintro n z5 ⟨i, H5, I5, t5, n5, b5⟩
    rcases turn i n H5 b5 with ⟨st, fin⟩ | ⟨go, Y, hY, step⟩
    · refine thnF (T.done (X.blk z3 G sc ce fp) rfl rfl rfl calm i [] z5 _ H5 (fun _ _ => False) I5 (own4 I5 n5) t5 st) fun r z6 ⟨er, I6⟩ => ?_
      subst er
      have I7 : Inv X pins σ H5 z6 := I3.call' (ch := fp) I6.os I6.base I6.hok I6.bare fun b m => ⟨(f3 b m).1.2.2.2.1, (f3 b m).1.2.1, (f3 b m).1.2.2.2.2.1, (f3 b m).1.2.2.2.2.2⟩
      have nC : H5 z3.heap.objs.size = none := by
        rw [← cL]
        exact I6.free
      obtain ⟨mm, hm, _⟩ := I6.loc
      have hm2 : z6.heap.Ns z3.heap.objs.size mm := by
        rw [← cL]
        exact hm
      obtain ⟨a0, a1, _, a3, a4, a5⟩ := I3.fpOk (Nat.le_refl _) nC
      exact ⟨mm, hm2, fun _ but => ⟨.ref D, H5, I7.turned (t' := z6.toks) (fun b _ nb e => (but.2 b nb).trans e) a0 a1 a3 a4 a5, rfl, fin⟩⟩
    · refine thnF (T.item (X.blk z3 G sc ce fp) rfl rfl rfl calm i [] z5 _ H5 (fun _ _ => False) I5 (own4 I5 n5) t5 go) fun r z6 ⟨u, er, k6⟩ => ?_
      subst er
      refine thnF k6 fun _ z7 ⟨x, H7, I7, r7, y7, t7, n7⟩ => ?_
      refine thnF (hgC.run _ z7 _ H7 x u _ (I7.pinned (own4 I7 n7) (T.obj _ _ t7)) r7 (step x H7 y7)) fun _ z8 ⟨σ8, H8, I8, w8, q8⟩ => ?_
      refine wpAny_pure ?_
      rw [if_pos rfl]
      refine thnF (heC.run _ z8 σ8 H8 _ I8 q8) fun v z9 ⟨yv, H9, I9, r9, c, S, k, ey, hD9, few, nx⟩ => ?_
      subst ey
      refine put_ok (X := X.blk z3 G sc ce fp) I9 r9 hD9 few fun zz Iz => ?_
      obtain ⟨m2, lt2, b2⟩ := hY _ nx
      have pin : ∀ b ∈ fp, ∀ o, z7.heap.get? b = some o → zz.heap.get? b = some o ∧ (upd H9 D (SetO X.w D (moI S c) (moN S c k))) b = none := fun b m o e =>
        have p := Iz.pin (b, o) (List.mem_append_right _ (List.mem_append_right _ (mem_pinsAt m e)))
        ⟨p.1, p.2.1⟩
      refine ⟨m2, lt2, i + 1, _, (Iz.unpinned (pins := [])).weak (by rw [← w8, wipe_length]) (fun j v' e => ?_), T.keep _ _ _ t7 fun b m o e => (pin b m o e).1, fun b m => ?_, b2⟩
      · rw [← w8] at e
        exact (wipe_some e).1
      · obtain ⟨o, e, _⟩ := T.obj _ _ t7 b m
        exact (pin b m o e).2
  exact PpSet.codeAny_compStart_set loop (T.self X.A 0 _ _ _ t4 loop)
/-- sorted(s) -/
def rSortS (w : World) : List V → Hp → VK → Prop := fun vs H Q => ∃ (a : Addr) (S : Int → Bool) (n : Nat), vs = [.ref a] ∧ H a = some (SetO w a S n) ∧ n ≤ 1000000 ∧
  ∀ (ns : List Int) (p : Addr), ns.Pairwise (· < ·) → (∀ k : Int, k ∈ ns ↔ S k = true) → H p = none → Q (.ref p) (upd H p (.lst (ns.map V.int)))
theorem cr_sortS (calm : X.calm = true) : CallR X (.builtin "sorted") (rSortS X.w) := by
  intro pins s σ H vs us Q I r h
  obtain ⟨a, S, n, rfl, ha, few, q⟩ := h
  obtain ⟨o, es, ep, t, ho, ex, hd, good, nd, mem, small, fits, size, ris, led⟩ := setO_get I ha
  rw [Vals.ref1 r]
  refine Calls.call_function_entry kind_sorted plain_sorted entry_sorted (args_sorted1 _) ?_
  unfold Builtin.«sorted»
  refine wpAny_bind (m := checkCount "sorted" 1 1 _) (wpAny_pure (wpAny_bind (collect_set (A := X.A.in1) (I.ok.hd calm) ⟨o, ho, ex.1, hd⟩ fits small ris led fun z out keep grow gens os perm => ?_)))
  have lo : out.length ≤ sizeLine := by
    rw [perm.length_eq, List.length_map, Array.length_toList, size, sizeLine_eq]
    omega
  have areI : IntsAre out (out.map Builtin.Re.reRawOf) := ints_of out fun v m => by
    obtain ⟨e, me, rfl⟩ := List.mem_map.mp (perm.mem_iff.mp m)
    obtain ⟨k, tk, h1, _⟩ := good e me
    exact ⟨k, tk, h1⟩
  have keys : (out.map Builtin.Re.reRawOf).Perm (es.toList.map keyOf) := by
    refine (perm.map _).trans ?_
    rw [List.map_map]
    exact .refl _
  refine wpAny_bind (wpAny_newList ?_ lo)
  have at0 : (z.heap.push (seqObj "list" out.toArray 0)).get? z.heap.objs.size = some (seqObj "list" out.toArray 0) := Heap.get?_push_size _ rfl
  refine wpAny_bind (wpAny_holding (wpAny_call_entry slot_list_sort ⟨_, at0, rfl⟩ entry_list_sort
    (SrtO.list_sort_ord SrtO.swo_int at0 lo (fun two => SrtO.ints_sortable areI two) fun fin srt stb => ⟨_, rfl, wpAny_pure ⟨_, rfl, ?_⟩⟩) (args_list_sort _)))
  obtain ⟨fi, fp, fw⟩ := SrtO.ints_out areI srt stb
  obtain ⟨c, hc⟩ := sortedHeap_at (vs := out) (out := fin.toArray) at0
  have fp2 := fp.trans keys
  have old : ∀ b u, s.heap.get? b = some u → (sortedHeap (z.heap.push (seqObj "list" out.toArray 0)) z.heap.objs.size out fin.toArray).get? b = some u := fun b u e => by
    have e2 := keep b u e
    have lt := Heap.lt_size e2
    rw [sortedHeap_old (Nat.ne_of_lt lt) (by rw [size_push']; exact Nat.lt_succ_of_lt lt)]
    exact Heap.get?_push_of_some _ e2
  have len : ((fin.map SrtO.iv).map V.int).length ≤ sizeLine := by
    rw [List.length_map, fp.length_eq, List.length_map]
    exact lo
  have free : H z.heap.objs.size = none := I.hok.fresh grow
  obtain ⟨zh, zg, zd, zt, zo⟩ := z
  obtain rfl : zo = s.os := os
  obtain rfl : zg = s.gens := gens
  have J : Inv X pins σ (upd H zh.objs.size (.lst ((fin.map SrtO.iv).map V.int))) { s with heap := sortedHeap (zh.push (seqObj "list" out.toArray 0)) zh.objs.size out fin.toArray, drawn := zd, toks := zt } :=
    I.call (ch := []) (Un.laid old grow free) (I.hok.laid old grow ⟨len, fin, c, vals_of_ints fi, hc⟩) I.bare fun _ k => nomatch k
  exact ⟨.ref _, _, J, rfl, q _ _ (lt_of_le_nodup _ fw (fp2.nodup_iff.mpr nd)) (fun k => by rw [fp2.mem_iff, ← mem k]) free⟩
end
end Sw

set_option Elab.async false
set_option linter.all false
set_option maxRecDepth 100000
set_option maxHeartbeats 4000000
namespace Sw
open PySem PySem.Spec PyProof.Rows L2
theorem hu65 {k : Nat} {A : Around} (hr : Room k A) : A.units + 65 < cLine := by
  have := hr.un
  omega
/-! ## Methods of a class of the program -/
/-- the method m of the class x keeps sp -/
structure MCal (P : Program) (w : World) (K : PySem.W.Frag) (mg : Str → Option Value) (base : Heap) (CX : CXT) (k : Nat) (x m : Str) (ps : List Str) (sp : Sp) : Prop where
  ex : ∃ fd : FuncData, FnOk P w K mg base CX k (He.ma K (He.ga K x) m) fd ps sp ∧ Binds K fd ps [] ∧ Meth K (He.ga K x) m (He.ma K (He.ga K x) m) ∧ Cls K (He.ga K x)
/-- the class x is made by an __init__ that keeps sp -/
structure MkCal (P : Program) (w : World) (K : PySem.W.Frag) (mg : Str → Option Value) (base : Heap) (CX : CXT) (k : Nat) (x : Str) (ps : List Str) (sp : Sp) : Prop where
  ex : ∃ fd : FuncData, FnOk P w K mg base CX k (He.ma K (He.ga K x) "__init__") fd ps sp ∧ Binds K fd ps [] ∧ Mk K (He.ga K x) (He.ma K (He.ga K x) "__init__") ∧ mg x = some (.ref (He.ga K x))
/-- a def under another name -/
structure HereA (K : PySem.W.Frag) (mg : Str → Option Value) (x nm : Str) (st : Stmt) : Prop where
  ex : ∃ (f : Addr) (fd : FuncData), FunD K nm nm (defArgs st) (defBody st) (defScope st) [] [] f fd ∧ mg x = some (.ref f)
section
variable {P : Program} {w : World} {K : PySem.W.Frag} {mg : Str → Option Value} {base : Heap} {x m q nm : Str} {st : Stmt} {N ps : List Str} {k : Nat} {sp : Sp}
theorem Met.cal {r : TS} (F : Met K x m q st) (M : Meth K (He.ga K x) m (He.ma K (He.ga K x) m)) (T : Cls K (He.ga K x)) (S : FnScope N ps (defScope st)) (len : ∀ vs H Q E, sp vs H Q E → vs.length = ps.length)
    (bd : ∀ (kV doc pm : Value) (an : Option Addr) (cdv ct : Value) (us : List Value), us.length = ps.length → bindArgs (PySem.W.fnOf m q (defArgs st) (defBody st) (defScope st) .none kV doc pm an cdv ct) ⟨us, []⟩ = pure (ps.zip us))
    (dv : ∀ (f : Addr) (cdv : Value) (A : Around) (outer : List Env) (s : Shared) (H : Hp) (E : XK), RmIn k A q st s f cdv → PSs (BX CX0 P w K mg base N q st f cdv A outer s H E).nox (defBody st) r)
    (rd : ∀ (vs : List V) (H : Hp) (Q : VK) (E : XK), sp vs H Q E → r { nx := fun _ H' => Q .non H', rt := Q } (L2.start N vs) H) : MCal P w K mg base CX0 (k + 1) x m ps sp := by
  obtain ⟨fd, D⟩ := F
  exact ⟨fd, D.ok S len fun cdv A outer s H vs Q E hr h => ⟨r, (dv _ cdv A outer s H E hr).nox, rd vs H Q E h⟩, D.bindsN bd, M, T⟩
theorem Met.calX {r : XK → TS} (F : Met K x m q st) (M : Meth K (He.ga K x) m (He.ma K (He.ga K x) m)) (T : Cls K (He.ga K x)) (S : FnScope N ps (defScope st)) (len : ∀ vs H Q E, sp vs H Q E → vs.length = ps.length)
    (bd : ∀ (kV doc pm : Value) (an : Option Addr) (cdv ct : Value) (us : List Value), us.length = ps.length → bindArgs (PySem.W.fnOf m q (defArgs st) (defBody st) (defScope st) .none kV doc pm an cdv ct) ⟨us, []⟩ = pure (ps.zip us))
    (dv : ∀ (f : Addr) (cdv : Value) (A : Around) (outer : List Env) (s : Shared) (H : Hp) (E : XK), RmIn k A q st s f cdv → PSs (BX (L2.CX P w) P w K mg base N q st f cdv A outer s H E) (defBody st) (r E))
    (rd : ∀ (vs : List V) (H : Hp) (Q : VK) (E : XK), sp vs H Q E → r E { nx := fun _ H' => Q .non H', rt := Q } (L2.start N vs) H) : MCal P w K mg base (L2.CX P w) (k + 1) x m ps sp := by
  obtain ⟨fd, D⟩ := F
  exact ⟨fd, D.ok S len fun cdv A outer s H vs Q E hr h => ⟨r E, dv _ cdv A outer s H E hr, rd vs H Q E h⟩, D.bindsN bd, M, T⟩
theorem Met.mk {r : TS} (F : Met K x "__init__" q st) (M : Mk K (He.ga K x) (He.ma K (He.ga K x) "__init__")) (g : mg x = some (.ref (He.ga K x))) (S : FnScope N ps (defScope st)) (len : ∀ vs H Q E, sp vs H Q E → vs.length = ps.length)
    (bd : ∀ (kV doc pm : Value) (an : Option Addr) (cdv ct : Value) (us : List Value), us.length = ps.length → bindArgs (PySem.W.fnOf "__init__" q (defArgs st) (defBody st) (defScope st) .none kV doc pm an cdv ct) ⟨us, []⟩ = pure (ps.zip us))
    (dv : ∀ (f : Addr) (cdv : Value) (A : Around) (outer : List Env) (s : Shared) (H : Hp) (E : XK), RmIn k A q st s f cdv → PSs (BX CX0 P w K mg base N q st f cdv A outer s H E).nox (defBody st) r)
    (rd : ∀ (vs : List V) (H : Hp) (Q : VK) (E : XK), sp vs H Q E → r { nx := fun _ H' => Q .non H', rt := Q } (L2.start N vs) H) : MkCal P w K mg base CX0 (k + 1) x ps sp := by
  obtain ⟨fd, D⟩ := F
  exact ⟨fd, D.ok S len fun cdv A outer s H vs Q E hr h => ⟨r, (dv _ cdv A outer s H E hr).nox, rd vs H Q E h⟩, D.bindsN bd, M, g⟩
theorem Met.mkX {r : XK → TS} (F : Met K x "__init__" q st) (M : Mk K (He.ga K x) (He.ma K (He.ga K x) "__init__")) (g : mg x = some (.ref (He.ga K x))) (S : FnScope N ps (defScope st)) (len : ∀ vs H Q E, sp vs H Q E → vs.length = ps.length)
    (bd : ∀ (kV doc pm : Value) (an : Option Addr) (cdv ct : Value) (us : List Value), us.length = ps.length → bindArgs (PySem.W.fnOf "__init__" q (defArgs st) (defBody st) (defScope st) .none kV doc pm an cdv ct) ⟨us, []⟩ = pure (ps.zip us))
    (dv : ∀ (f : Addr) (cdv : Value) (A : Around) (outer : List Env) (s : Shared) (H : Hp) (E : XK), RmIn k A q st s f cdv → PSs (BX (L2.CX P w) P w K mg base N q st f cdv A outer s H E) (defBody st) (r E))
    (rd : ∀ (vs : List V) (H : Hp) (Q : VK) (E : XK), sp vs H Q E → r E { nx := fun _ H' => Q .non H', rt := Q } (L2.start N vs) H) : MkCal P w K mg base (L2.CX P w) (k + 1) x ps sp := by
  obtain ⟨fd, D⟩ := F
  exact ⟨fd, D.ok S len fun cdv A outer s H vs Q E hr h => ⟨r E, dv _ cdv A outer s H E hr, rd vs H Q E h⟩, D.bindsN bd, M, g⟩
theorem HereA.cal {r : TS} (F : HereA K mg x nm st) (S : FnScope N ps (defScope st)) (len : ∀ vs H Q E, sp vs H Q E → vs.length = ps.length)
    (bd : ∀ (kV doc pm : Value) (an : Option Addr) (cdv ct : Value) (us : List Value), us.length = ps.length → bindArgs (PySem.W.fnOf nm nm (defArgs st) (defBody st) (defScope st) .none kV doc pm an cdv ct) ⟨us, []⟩ = pure (ps.zip us))
    (dv : ∀ (f : Addr) (cdv : Value) (A : Around) (outer : List Env) (s : Shared) (H : Hp) (E : XK), RmIn k A nm st s f cdv → PSs (BX CX0 P w K mg base N nm st f cdv A outer s H E).nox (defBody st) r)
    (rd : ∀ (vs : List V) (H : Hp) (Q : VK) (E : XK), sp vs H Q E → r { nx := fun _ H' => Q .non H', rt := Q } (L2.start N vs) H) : Cal P w K mg base CX0 (k + 1) x ps sp := by
  obtain ⟨f, fd, D, g⟩ := F.ex
  refine ⟨f, fd, D.ok S len fun cdv A outer s H vs Q E hr h => ⟨r, (dv f cdv A outer s H E hr).nox, rd vs H Q E h⟩, g, D.kp, D.bindsN bd, fun s us hl => D.bindsA bd s us hl, ?_⟩
  obtain ⟨oc, od, _, _, _, _, _, _, _, osl, _, lk, _⟩ := D.ex
  exact ⟨oc, od, osl, lk⟩
theorem Cal.imp {CX : CXT} {sp' : Sp} (c : Cal P w K mg base CX k x ps sp) (h : ∀ vs H Q E, sp' vs H Q E → sp vs H Q E) : Cal P w K mg base CX k x ps sp' := by
  obtain ⟨f, fd, F, g⟩ := c.ex
  exact ⟨f, fd, F.imp h, g⟩
theorem MCal.quiet (c : MCal P w K mg base (L2.CX P w) k x m ps sp) : MCal P w K mg base CX0 k x m ps (quiet sp) := by
  obtain ⟨fd, F, b⟩ := c.ex
  refine ⟨fd, ⟨fun vs H Q E h => F.len vs H Q E0 h, fun A outer s H args us vs Q E hr he hb rv h => codeAny_mono (F.run A outer s H args us vs Q E0 hr he hb rv h) fun r s' q => ?_⟩, b⟩
  cases r with
  | ok fl => cases fl <;> exact q
  | error e =>
    obtain ⟨_, _, _, _, _, _, _, _, _, _, _, _, z⟩ := q
    exact z.elim
theorem MkCal.quiet (c : MkCal P w K mg base (L2.CX P w) k x ps sp) : MkCal P w K mg base CX0 k x ps (Sw.quiet sp) := by
  obtain ⟨fd, F, b⟩ := c.ex
  refine ⟨fd, ⟨fun vs H Q E h => F.len vs H Q E0 h, fun A outer s H args us vs Q E hr he hb rv h => codeAny_mono (F.run A outer s H args us vs Q E0 hr he hb rv h) fun r s' q => ?_⟩, b⟩
  cases r with
  | ok fl => cases fl <;> exact q
  | error e =>
    obtain ⟨_, _, _, _, _, _, _, _, _, _, _, _, z⟩ := q
    exact z.elim
end
theorem hereA_of {fa : List He.Fa} {fn : List He.DefD} {ex : PySem.W.Frag → Bool} {h : Heap} {K : PySem.W.Frag} {mg : Str → Option Value} (c : SaysZ fa fn ex K) (X : K.In h) (G : h.Ns mainGlobals mg) {x nm : Str} {st : Stmt} (i j : Nat)
    (hi : fn[i]? = some ⟨(x, none), nm, nm, defArgs st, defBody st, defScope st, [], []⟩) (hj : fa[j]? = some (.glo x)) : HereA K mg x nm st := by
  obtain ⟨fd, F⟩ := c.d.def_ i hi
  exact ⟨_, fd, F, He.glo_ok X G (c.d.fact j hj)⟩
/-- o.m(..) -/
def tMet (K : PySem.W.Frag) (x m : Str) (sp : Sp) (ta : TE) (t : TA) : TE := fun σ H Q => ta σ H fun y H1 => ∃ a dx fs, y = .ref a ∧ H1 a = some (.ins (He.ga K x) dx fs) ∧ fs.lookup m = none ∧ t σ H1 fun vs H2 => sp (y :: vs) H2 Q E0
def tMetW (K : PySem.W.Frag) (x m : Str) (sp : Sp) (W : WX) (ta : TE) (t : TA) : TE := fun σ H Q => ta σ H fun y H1 => ∃ a dx fs, y = .ref a ∧ H1 a = some (.ins (He.ga K x) dx fs) ∧ fs.lookup m = none ∧ t σ H1 fun vs H2 => sp (y :: vs) H2 Q fun cls d H' => W cls d σ H'
/-- x(..), x a class -/
def tMk (K : PySem.W.Frag) (x : Str) (sp : Sp) (t : TA) : TE := fun σ H Q => t σ H fun vs H1 => ∀ y dx, H1 y = none → H1 dx = none → dx ≠ y →
  sp (.ref y :: vs) (upd (upd H1 dx (.own y)) y (.ins (He.ga K x) dx [])) (fun v H2 => v = .non ∧ Q (.ref y) H2) E0
section
variable {X : Cx} {k : Nat} {x m : Str} {ps : List Str} {sp : Sp} {ta : TE} {t : TA} {o e : Expr} {es : List Expr} {p pos apos : Pos} {W : WX}
theorem tMet_of {K : PySem.W.Frag} {C : Addr} : tMeth C m sp [] E0 ta t = fun σ H Q => ta σ H fun y H1 => ∃ a dx fs, y = .ref a ∧ H1 a = some (.ins C dx fs) ∧ fs.lookup m = none ∧ t σ H1 fun vs H2 => sp (y :: vs) H2 Q E0 := by
  unfold tMeth
  funext σ H Q
  congr 1
  funext y H1
  congr 1
  funext a
  congr 1
  funext dx
  congr 1
  funext fs
  congr 3
  congr 1
  funext vs H2
  rw [List.append_nil]
theorem tMk_of {C : Addr} : tMake C sp [] E0 t = fun σ H Q => t σ H fun vs H1 => ∀ y dx, H1 y = none → H1 dx = none → dx ≠ y → sp (.ref y :: vs) (upd (upd H1 dx (.own y)) y (.ins C dx [])) (fun v H2 => v = .non ∧ Q (.ref y) H2) E0 := by
  unfold tMake
  funext σ H Q
  congr 1
  funext vs H1
  rw [List.append_nil]
theorem pe_met {pl : Sem Bool} (c : MCal X.prog X.w X.K X.mg X.base CX0 k x m ps sp) (hr : Room k X.A) (he : PE X o ta) (ha : PA X (e :: es) t)
    (hst : starEach (e :: es) X.env = (false, eval e X.env) :: starEach es X.env := by rfl) (hpl : (backTo pos (starEach es X.env)).any (·.1) = false := by rfl)
    (ht : eval (.Call (.Attribute o m apos) (e :: es) [] pos) X.env = (do
      let ov ← eval o X.env
      standAt apos.atName
      let (f, first) ← holding [ov] (getMethod ov m pl)
      callWith pos f first (backTo pos (starEach (e :: es) X.env)) (backToKw pos (keywordEach [] X.env))) := by rfl) :
    PE X (.Call (.Attribute o m apos) (e :: es) [] pos) (tMet X.K x m sp ta t) := by
  obtain ⟨fd, F, b, M, T⟩ := c.ex
  have h := pe_meth (E := E0) (dvs := []) he T M F hr b .nil pass0 ha hst hpl ht
  rw [tMet_of (K := X.K)] at h
  exact h
theorem pe_met0 {pl : Sem Bool} (c : MCal X.prog X.w X.K X.mg X.base CX0 k x m ps sp) (hr : Room k X.A) (he : PE X o ta)
    (ht : eval (.Call (.Attribute o m apos) [] [] pos) X.env = (do
      let ov ← eval o X.env
      standAt apos.atName
      let (f, first) ← holding [ov] (getMethod ov m pl)
      callWith pos f first (backTo pos (starEach [] X.env)) (backToKw pos (keywordEach [] X.env))) := by rfl) :
    PE X (.Call (.Attribute o m apos) [] [] pos) (tMet X.K x m sp ta tNil) := by
  obtain ⟨fd, F, b, M, T⟩ := c.ex
  have h := pe_meth0 (E := E0) (dvs := []) he T M F hr b .nil pass0 ht
  rw [tMet_of (K := X.K)] at h
  exact h
theorem pe_mk (c : MkCal X.prog X.w X.K X.mg X.base CX0 k x ps sp) (hr : Room (k + 1) X.A) (hg : Gl X x) (ha : PA X (e :: es) t)
    (hdb : (x == ("__debug__" : Str)) = false := by decide) (he : starEach (e :: es) X.env = (false, eval e X.env) :: starEach es X.env := by rfl)
    (hpl : (backTo pos (starEach es X.env)).any (·.1) = false := by rfl) : PE X (.Call (.Name x p) (e :: es) [] pos) (tMk X.K x sp t) := by
  obtain ⟨fd, F, b, M, g⟩ := c.ex
  have h := pe_make (p := p) (E := E0) (dvs := []) M F hr hg g b .nil pass0 ha hdb he hpl
  rw [tMk_of] at h
  exact h
end
end Sw

set_option Elab.async false
set_option linter.all false
set_option maxRecDepth 100000
set_option maxHeartbeats 4000000
namespace Sw
open PySem PySem.Spec PyProof.Rows L2
/-! ## What can come out, by numbers of rows -/
theorem bit_off {n w k : Nat} (hw : w < 2 ^ n) (hk : n ≤ k) : w.testBit k = false := Nat.testBit_lt_two_pow (Nat.lt_of_lt_of_le hw (Nat.pow_le_pow_right (by decide) hk))
theorem goB_lt {n w : Nat} {c : Cmp} (hw : w < 2 ^ n) (ok : CmpOk n c) : goB w c < 2 ^ n := by
  obtain ⟨h1, h2, _⟩ := ok
  unfold goB
  split
  · have p1 : 1 <<< c.1 < 2 ^ n := by rw [Nat.one_shiftLeft]; exact Nat.pow_lt_pow_right (by decide) h1
    have p2 : 1 <<< c.2 < 2 ^ n := by rw [Nat.one_shiftLeft]; exact Nat.pow_lt_pow_right (by decide) h2
    exact Nat.xor_lt_two_pow (Nat.xor_lt_two_pow hw p1) p2
  · exact hw
theorem goneB_lt {n : Nat} {cs : List Cmp} : CmpsOk n cs → ∀ {w : Nat}, w < 2 ^ n → goneB cs w < 2 ^ n := by
  induction cs with
  | nil => intro _ w h; exact h
  | cons c cs ih =>
    intro ok w h
    exact ih (fun d hd => ok d (List.mem_cons_of_mem _ hd)) (goB_lt h (ok c List.mem_cons_self))
theorem goneB_snoc (cs : List Cmp) (c : Cmp) (w : Nat) : goneB (cs ++ [c]) w = goB (goneB cs w) c := by
  unfold goneB
  rw [List.foldl_append] <;> rfl
def outsN (n : Nat) (cs : List Cmp) : List Nat := (List.range (2 ^ n)).filter fun k => (List.range (2 ^ n)).any fun w => decide (goneB cs w = k)
theorem mem_outs {n : Nat} {cs : List Cmp} (ok : CmpsOk n cs) {k : Nat} : k ∈ outsN n cs ↔ ∃ w, w < 2 ^ n ∧ goneB cs w = k := by
  unfold outsN
  rw [List.mem_filter, List.any_eq_true]
  constructor
  · rintro ⟨_, w, hw, e⟩
    exact ⟨w, List.mem_range.mp hw, of_decide_eq_true e⟩
  · rintro ⟨w, hw, e⟩
    exact ⟨List.mem_range.mpr (e ▸ goneB_lt ok hw), w, List.mem_range.mpr hw, decide_eq_true e⟩
theorem outs_rise (n : Nat) (cs : List Cmp) : (outsN n cs).Pairwise (· < ·) := List.Pairwise.filter _ List.pairwise_lt_range
theorem outs_len (n : Nat) (cs : List Cmp) : (outsN n cs).length ≤ 2 ^ n := by
  have := List.length_filter_le (fun k => (List.range (2 ^ n)).any fun w => decide (goneB cs w = k)) (List.range (2 ^ n))
  rw [List.length_range] at this
  exact this
theorem outs_nil (n : Nat) : outsN n [] = List.range (2 ^ n) := by
  unfold outsN
  rw [List.filter_eq_self]
  intro k hk
  rw [List.any_eq_true]
  exact ⟨k, hk, decide_eq_true rfl⟩
theorem rise_uniq {α : Type} {lt : α → α → Prop} (irr : ∀ a, ¬ lt a a) (tr : ∀ a b c, lt a b → lt b c → lt a c) : ∀ {l m : List α}, l.Pairwise lt → m.Pairwise lt → (∀ k, k ∈ l ↔ k ∈ m) → l = m
  | [], [], _, _, _ => rfl
  | [], y :: m, _, _, h => nomatch (h y).mpr List.mem_cons_self
  | x :: l, [], _, _, h => nomatch (h x).mp List.mem_cons_self
  | x :: l, y :: m, h1, h2, h => by
    have e1 := List.pairwise_cons.mp h1
    have e2 := List.pairwise_cons.mp h2
    have e : x = y := by
      rcases List.mem_cons.mp ((h x).mp List.mem_cons_self) with e | a
      · exact e
      · rcases List.mem_cons.mp ((h y).mpr List.mem_cons_self) with e | b
        · exact e.symm
        · exact absurd (tr _ _ _ (e1.1 y b) (e2.1 x a)) (irr x)
    subst e
    refine congrArg (x :: ·) (rise_uniq irr tr e1.2 e2.2 fun k => ⟨fun hk => ?_, fun hk => ?_⟩)
    · rcases List.mem_cons.mp ((h k).mp (List.mem_cons_of_mem _ hk)) with e | a
      · exact absurd (e1.1 k hk) (by rw [e]; exact irr x)
      · exact a
    · rcases List.mem_cons.mp ((h k).mpr (List.mem_cons_of_mem _ hk)) with e | a
      · exact absurd (e2.1 k hk) (by rw [e]; exact irr x)
      · exact a
theorem natI_mem {l : List Nat} {k : Nat} : ((k : Nat) : Int) ∈ natI l ↔ k ∈ l := by
  unfold natI
  rw [List.mem_map]
  constructor
  · rintro ⟨j, hj, e⟩
    rw [show k = j by omega]
    exact hj
  · exact fun h => ⟨k, h, rfl⟩
theorem natI_rise {l : List Nat} (h : l.Pairwise (· < ·)) : (natI l).Pairwise (· < ·) := by
  unfold natI
  exact List.Pairwise.map _ (fun a b k => by omega) h
/-- the rising list of the numbers that come out of one comparer more -/
theorem outs_step {n : Nat} {cs : List Cmp} {c : Cmp} (ok : CmpsOk n cs) (okc : CmpOk n c) {ns : List Int} (h1 : ns.Pairwise (· < ·)) (h2 : ∀ k : Int, k ∈ ns ↔ ∃ v ∈ outsN n cs, ((goB v c : Nat) : Int) = k) : ns = natI (outsN n (cs ++ [c])) := by
  have ok2 : CmpsOk n (cs ++ [c]) := fun d hd => by
    rcases List.mem_append.mp hd with h | h
    · exact ok d h
    · rw [List.mem_singleton.mp h]
      exact okc
  refine rise_uniq (fun a => Int.lt_irrefl a) (fun a b c => Int.lt_trans) h1 (natI_rise (outs_rise n _)) fun k => ?_
  rw [h2]
  constructor
  · rintro ⟨v, hv, rfl⟩
    rw [natI_mem, mem_outs ok2]
    obtain ⟨w, hw, rfl⟩ := (mem_outs ok).mp hv
    exact ⟨w, hw, goneB_snoc cs c w⟩
  · intro hk
    obtain ⟨j, hj, rfl⟩ := List.mem_map.mp hk
    obtain ⟨w, hw, e⟩ := (mem_outs ok2).mp hj
    exact ⟨goneB cs w, (mem_outs ok).mpr ⟨w, hw, rfl⟩, by rw [← goneB_snoc, e]⟩
def exB (w : Nat) (c : Cmp) : Bool := w.testBit c.1 && !w.testBit c.2
theorem goB_same {w : Nat} {c : Cmp} (h : exB w c = false) : goB w c = w := by
  unfold goB
  unfold exB at h
  rw [if_neg (by rw [h]; exact Bool.false_ne_true)]
theorem goB_calm {w : Nat} {c : Cmp} (ne : c.1 ≠ c.2) : exB (goB w c) c = false := by
  by_cases h : exB w c = true
  · unfold exB at h
    unfold goB
    rw [if_pos h]
    rw [Bool.and_eq_true, Bool.not_eq_true'] at h
    unfold exB
    rw [Nat.testBit_xor, Nat.testBit_xor, Nat.testBit_xor, Nat.testBit_xor, bit_one, bit_one, bit_one, bit_one, h.1, h.2, decide_eq_true rfl, decide_eq_false (fun e => ne e.symm)]
    rfl
  · rw [Bool.not_eq_true] at h
    rw [goB_same h, h]
/-- what comes out stays the same just where nothing is exchanged -/
theorem outs_same {n : Nat} {cs : List Cmp} {c : Cmp} (ok : CmpsOk n cs) (okc : CmpOk n c) : outsN n (cs ++ [c]) = outsN n cs ↔ ∀ v ∈ outsN n cs, exB v c = false := by
  have ok2 : CmpsOk n (cs ++ [c]) := fun d hd => by
    rcases List.mem_append.mp hd with h | h
    · exact ok d h
    · rw [List.mem_singleton.mp h]
      exact okc
  constructor
  · intro e v hv
    rw [← e] at hv
    obtain ⟨w, hw, rfl⟩ := (mem_outs ok2).mp hv
    rw [goneB_snoc]
    exact goB_calm okc.2.2
  · intro h
    refine rise_uniq (fun a => Nat.lt_irrefl a) (fun a b c => Nat.lt_trans) (outs_rise n _) (outs_rise n _) fun k => ?_
    rw [mem_outs ok2, mem_outs ok]
    constructor
    · rintro ⟨w, hw, e⟩
      refine ⟨w, hw, ?_⟩
      rw [goneB_snoc, goB_same (h _ ((mem_outs ok).mpr ⟨w, hw, rfl⟩))] at e
      exact e
    · rintro ⟨w, hw, e⟩
      refine ⟨w, hw, ?_⟩
      rw [goneB_snoc, goB_same (h _ ((mem_outs ok).mpr ⟨w, hw, rfl⟩))]
      exact e
theorem at0_bits {n w : Nat} {c : Cmp} (ok : CmpOk n c) : decide (at0 (bareR n w) c.1 > at0 (bareR n w) c.2) = exB w c := by
  rw [at0_bare ok.1, at0_bare ok.2.1]
  unfold exB
  cases w.testBit c.1 <;> cases w.testBit c.2 <;> rfl
theorem outs_stir {n : Nat} {cs : List Cmp} {c : Cmp} (ok : CmpsOk n cs) (okc : CmpOk n c) : (!decide (outsN n (cs ++ [c]) = outsN n cs)) = (bares n).any (gtB cs c.1 c.2) := by
  rw [Bool.eq_iff_iff, Bool.not_eq_true', decide_eq_false_iff_not, outs_same ok okc, List.any_eq_true]
  constructor
  · intro h
    by_cases g : ∃ x ∈ bares n, gtB cs c.1 c.2 x = true
    · exact g
    · exfalso
      refine h fun v hv => ?_
      obtain ⟨w, hw, rfl⟩ := (mem_outs ok).mp hv
      cases e : exB (goneB cs w) c with
      | false => rfl
      | true =>
        exfalso
        refine g ⟨bareR n w, List.mem_map.mpr ⟨w, List.mem_range.mpr hw, rfl⟩, ?_⟩
        unfold gtB
        rw [gone_bare ok, at0_bits okc]
        exact e
  · rintro ⟨x, hx, e⟩ h
    obtain ⟨w, hw, rfl⟩ := List.mem_map.mp hx
    unfold gtB at e
    rw [gone_bare ok, at0_bits okc, h _ ((mem_outs ok).mpr ⟨w, List.mem_range.mp hw, rfl⟩)] at e
    cases e
theorem natI_inj {a b : List Nat} : natI a = natI b ↔ a = b := by
  unfold natI
  exact List.map_inj_right fun x y e => by omega
/-- rows that are in no order, the first one that can come out -/
def inB (r : Row) : Bool := decide (Srt r)
def wildB (n : Nat) (cs : List Cmp) : Option Nat := (outsN n cs).find? fun w => !decide (Srt (bareR n w))
end Sw

set_option Elab.async false
set_option linter.all false
set_option maxRecDepth 100000
set_option maxHeartbeats 4000000
namespace Sw
open PySem PySem.Spec PyProof.Rows L2
def topS (i : Nat) : Stmt := PySem.Challenge.pw_sortweb_k13_whole_one_web_in_many_ways.main.body.getD i (.Pass ⟨0, 0, 0, 0⟩)
/-! ## Promises of the law's own drawing -/
def sp_ldraw (K : PySem.W.Frag) : Sp := fun vs H Q _ => ∃ c k j : Int, vs = [.int c, .int k, .int j] ∧ (0 ≤ k ∧ k ≤ 1000) ∧ (0 ≤ j ∧ j ≤ 1000) ∧ ∀ n : Int, 0 ≤ n → n < 715827877 → Q (.int n) H
def sp_lbricks (K : PySem.W.Frag) : Sp := fun vs H Q _ => ∃ n : Nat, vs = [.int (n : Int)] ∧ n ≤ 7 ∧
  ∀ H' l ps cs, Same H H' → H l = none → H' l = some (.lst (Rfs ps)) → Prs K H' ps cs → CmpsOk n cs → cs.length ≤ 28 → Q (.ref l) H'
def sp_lcomparer (K : PySem.W.Frag) : Sp := fun vs H Q _ => ∃ (m : Int) (n : Nat), vs = [.int m, .int (n : Int)] ∧ 0 ≤ m ∧ 2 ≤ n ∧ n ≤ 10 ∧
  ∀ H' p c, Same H H' → H p = none → H' p = some (.tup (V2 c)) → CmpOk n c → Q (.ref p) H'
def sp_lweb (K : PySem.W.Frag) : Sp := fun vs H Q _ => ∃ (a : Addr) (ns : List Int), vs = [.ref a] ∧ SqL K H a (ns.map V.int) ∧ ns.length ≤ 63 ∧
  ∀ (H' : Hp) (p c : Addr) (ps : List Addr) (n : Nat) (cs : List Cmp), Same H H' → H p = none → H c = none → H' p = some (.tup [.int (n : Int), .ref c]) → H' c = some (.lst (Rfs ps)) → Prs K H' ps cs → WebOk n cs → 1 ≤ n → n ≤ 7 → Q (.ref p) H'
/-! ## Promises of the program -/
def WebAt (K : PySem.W.Frag) (H : Hp) (a : Addr) (n : Nat) (cs : List Cmp) : Prop := ∃ ps : List Addr, SqL K H a (Rfs ps) ∧ Prs K H ps cs ∧ WebOk n cs ∧ 1 ≤ n ∧ n ≤ 10
def sp_iswhole (K : PySem.W.Frag) : Sp := fun vs H Q _ => ∃ (v : V) (T : String), vs = [v] ∧ TyB K H v T ∧ Q (.bl (decide (T = "int"))) H
def sp_isline (K : PySem.W.Frag) : Sp := fun vs H Q _ => ∃ (n : Nat) (v : V) (T : String), vs = [.int (n : Int), v] ∧ TyB K H v T ∧ Q (.bl (lnV n v)) H
def sp_iscomparerV (K : PySem.W.Frag) : Sp := fun vs H Q _ => ∃ (n : Nat) (v : V) (b : Bool), vs = [.int (n : Int), v] ∧ ItOk K H n v b ∧ Q (.bl b) H
def sp_needlinesV (K : PySem.W.Frag) : Sp := fun vs H Q E => ∃ (v : V) (T : String), vs = [v] ∧ TyB K H v T ∧ (noV v = true → Q .non H) ∧ (noV v = false → E (.ref (He.ga K "BadLines")) none H)
def sp_needwebV (K : PySem.W.Frag) : Sp := fun vs H Q E => ∃ (lv cv : V) (d : Verd), vs = [lv, cv] ∧ WebV K H lv cv d ∧ (d = .good → ∀ H', Same H H' → Q .non H') ∧ (d ≠ .good → Refu K H E d)
/-! ## The same, where nothing is refused -/
def sp_iscomparer (K : PySem.W.Frag) : Sp := fun vs H Q _ => ∃ (n : Nat) (p : Addr) (c : Cmp), vs = [.int (n : Int), .ref p] ∧ SqT K H p (V2 c) ∧ CmpOk n c ∧ Q (.bl true) H
def sp_needlines (K : PySem.W.Frag) : Sp := fun vs H Q _ => ∃ n : Nat, vs = [.int (n : Int)] ∧ 1 ≤ n ∧ n ≤ 10 ∧ Q .non H
def sp_needweb (K : PySem.W.Frag) : Sp := fun vs H Q _ => ∃ (n : Nat) (a : Addr) (cs : List Cmp), vs = [.int (n : Int), .ref a] ∧ WebAt K H a n cs ∧ ∀ H', Same H H' → Q .non H'
def sp_needrow (K : PySem.W.Frag) : Sp := fun vs H Q _ => ∃ (n : Nat) (a : Addr) (r : Row), vs = [.int (n : Int), .ref a] ∧ SqL K H a (vis r) ∧ r.length = n ∧ n ≤ 10 ∧ ∀ H', Same H H' → Q .non H'
def sp_run (K : PySem.W.Frag) : Sp := fun vs H Q _ => ∃ (n : Nat) (a b : Addr) (cs : List Cmp) (r : Row), vs = [.int (n : Int), .ref a, .ref b] ∧ WebAt K H a n cs ∧ SqL K H b (vis r) ∧ r.length = n ∧
  ∀ H' p, Same H H' → H p = none → H' p = some (.lst (vis (gone cs r))) → Q (.ref p) H'
def sp_steps (K : PySem.W.Frag) : Sp := fun vs H Q _ => ∃ (n : Nat) (a b : Addr) (cs : List Cmp) (r : Row), vs = [.int (n : Int), .ref a, .ref b] ∧ WebAt K H a n cs ∧ SqL K H b (vis r) ∧ r.length = n ∧
  ∀ H' p qs, Same H H' → H p = none → H' p = some (.lst (Rfs qs)) → Own H H' qs (trace cs r) → Q (.ref p) H'
def sp_rbehind (K : PySem.W.Frag) : Sp := fun vs H Q _ => ∃ (a b : Addr) (n : Nat) (r : Row) (c : Cmp), vs = [.ref a, .ref b] ∧ SqL K H a (vis r) ∧ r.length = n ∧ SqT K H b (V2 c) ∧ CmpOk n c ∧ ∀ H' p, Same H H' → H p = none → H' p = some (.lst (vis (goC r c))) → Q (.ref p) H'
/-! ## Promises of texts -/
def sp_webtext (K : PySem.W.Frag) : Sp := fun vs H Q E => ∃ (lv cv : V) (d : Verd), vs = [lv, cv] ∧ WebV K H lv cv d ∧ (d = .good → ∃ (n : Nat) (a : Addr) (cs : List Cmp), lv = .int (n : Int) ∧ cv = .ref a ∧ WebAt K H a n cs ∧ ∀ H', Same H H' → Q (.str (webTx n cs)) H') ∧ (d ≠ .good → Refu K H E d)
def sp_number (K : PySem.W.Frag) : Sp := fun vs H Q _ => ∃ w : Str, vs = [.str w] ∧ Q (onV (readN (sg w))) H
def sp_pair (K : PySem.W.Frag) : Sp := fun vs H Q _ => ∃ w : Str, vs = [.str w] ∧ w.length ≤ 100000 ∧ ∀ H' p, Same H H' → H p = none → H' p = some (.tup [onV (readN (part1 45 (sg w)).1), onV (readN (part1 45 (sg w)).2.2)]) → Q (.ref p) H'
/-- the web that is told: a new tuple, a new list -/
def Told (K : PySem.W.Frag) (H : Hp) (Q : VK) (n : Nat) (cs : List Cmp) : Prop := ∀ H' p c ps, Same H H' → H p = none → H' p = some (.tup [.int (n : Int), .ref c]) → H c = none → H' c = some (.lst (Rfs ps)) → Prs K H' ps cs → Q (.ref p) H'
def sp_webof (K : PySem.W.Frag) : Sp := fun vs H Q E => ∃ (v : V) (T : String), vs = [v] ∧ TyB K H v T ∧
  (∀ x : Str, v = .str x → x.length ≤ 100000 ∧ (∀ n cs, readW (sg x) = some (n, cs) → Told K H Q n cs) ∧ (readW (sg x) = none → ∀ H', Same H H' → E (.ref (He.ga K "BadText")) none H')) ∧
  (T ≠ "str" → ∀ H', Same H H' → E (.ref (He.ga K "BadText")) none H')
/-! ## Promises of the columns -/
def sp_allcolumns (K : PySem.W.Frag) : Sp := fun vs H Q _ => ∃ n : Nat, vs = [.int (n : Int)] ∧ n ≤ 10 ∧ ∀ H' p, Same H H' → H p = none → H' p = some (.lst (vis (cols n []))) → Q (.ref p) H'
def sp_greater (K : PySem.W.Frag) : Sp := fun vs H Q _ => ∃ (x : Addr) (n a b : Nat) (cs : List Cmp), vs = [.ref x, .int (a : Int), .int (b : Int)] ∧ SqL K H x (vis (cols n cs)) ∧ a < n ∧ b < n ∧ Q (.int (maskN (gtB cs a b) (bares n) : Nat)) H
def sp_behind (K : PySem.W.Frag) : Sp := fun vs H Q _ => ∃ (x y : Addr) (n : Nat) (cs : List Cmp) (c : Cmp), vs = [.ref x, .ref y] ∧ SqL K H x (vis (cols n cs)) ∧ SqT K H y (V2 c) ∧ CmpOk n c ∧ ∀ H' p, Same H H' → H p = none → H' p = some (.lst (vis (cols n (cs ++ [c])))) → Q (.ref p) H'
def sp_columnsout (K : PySem.W.Frag) : Sp := fun vs H Q _ => ∃ (n : Nat) (a : Addr) (cs : List Cmp), vs = [.int (n : Int), .ref a] ∧ WebAt K H a n cs ∧ ∀ H' p, Same H H' → H p = none → H' p = some (.lst (vis (cols n cs))) → Q (.ref p) H'
/-- the row that is told, one and the same each time; None where there is none -/
def TellsB (K : PySem.W.Frag) (H : Hp) (Q : VK) (n : Nat) (f : Row → Bool) : Prop := (firstB n f = none → ∀ H', Same H H' → Q .non H') ∧ ∀ r, firstB n f = some r → ∀ H' p, Same H H' → H p = none → H' p = some (.lst (vis r)) → Q (.ref p) H'
def sp_rowof (K : PySem.W.Frag) : Sp := fun vs H Q _ => ∃ n t : Nat, vs = [.int (n : Int), .int (t : Int)] ∧ n ≤ 10 ∧ ∀ H' p, Same H H' → H p = none → H' p = some (.lst (vis (bareR n t))) → Q (.ref p) H'
def sp_firstrow (K : PySem.W.Frag) : Sp := fun vs H Q _ => ∃ (n : Nat) (f : Row → Bool), vs = [.int (n : Int), .int (maskN f (bares n) : Nat)] ∧ n ≤ 10 ∧ TellsB K H Q n f
def sp_needplace (K : PySem.W.Frag) : Sp := fun vs H Q _ => ∃ (a : Addr) (xs : List V) (k : Nat), vs = [.ref a, .int (k : Int)] ∧ SqL K H a xs ∧ k < xs.length ∧ Q .non H
def sp_stirring (K : PySem.W.Frag) : Sp := fun vs H Q _ => ∃ (n : Nat) (a : Addr) (cs : List Cmp) (k : Nat), vs = [.int (n : Int), .ref a, .int (k : Int)] ∧ WebAt K H a n cs ∧ k < cs.length ∧ TellsB K H Q n (stirsAt cs k)
/-- the places of needless comparers -/
def idle (n : Nat) (cs : List Cmp) : List Nat := (List.range cs.length).filter fun k => !(bares n).any (stirsAt cs k)
def lean (n : Nat) (cs : List Cmp) : List Cmp := pick (fun k => (bares n).any (stirsAt cs k)) 0 cs
def sp_needless (K : PySem.W.Frag) : Sp := fun vs H Q _ => ∃ (n : Nat) (a : Addr) (cs : List Cmp), vs = [.int (n : Int), .ref a] ∧ WebAt K H a n cs ∧ ∀ H' p, Same H H' → H p = none → H' p = some (.lst (natL (idle n cs))) → Q (.ref p) H'
def sp_pruned (K : PySem.W.Frag) : Sp := fun vs H Q _ => ∃ (n : Nat) (a : Addr) (cs : List Cmp), vs = [.int (n : Int), .ref a] ∧ WebAt K H a n cs ∧ ∀ H' p ps, Same H H' → H p = none → H' p = some (.lst (Rfs ps)) → Prs K H' ps (lean n cs) → Q (.ref p) H'
def sortsB (cs : List Cmp) (n : Nat) (r : Row) : Bool := (List.range (n - 1)).any fun k => gtB cs k (k + 1) r
def sp_unsorted (K : PySem.W.Frag) : Sp := fun vs H Q _ => ∃ (n : Nat) (a : Addr) (cs : List Cmp), vs = [.int (n : Int), .ref a] ∧ WebAt K H a n cs ∧ TellsB K H Q n (sortsB cs n)
def diffB (cs ds : List Cmp) (n : Nat) (r : Row) : Bool := (List.range n).any fun k => one0 (gone cs r) k != one0 (gone ds r) k
def sp_differing (K : PySem.W.Frag) : Sp := fun vs H Q _ => ∃ (n : Nat) (a b : Addr) (cs ds : List Cmp), vs = [.int (n : Int), .ref a, .ref b] ∧ WebAt K H a n cs ∧ WebAt K H b n ds ∧ TellsB K H Q n (diffB cs ds n)
theorem TellsB.on {K : PySem.W.Frag} {H H1 : Hp} {Q : VK} {n : Nat} {f : Row → Bool} (s : Same H H1) (t : TellsB K H Q n f) : TellsB K H1 Q n f :=
  ⟨fun z H' s' => t.1 z H' (s.trans s'), fun r z H' p s' np hp => t.2 r z H' p (s.trans s') (s.free np) hp⟩
/-! ## Rows of noughts and ones -/
def sp_lgone (K : PySem.W.Frag) : Sp := fun vs H Q _ => ∃ (a b : Addr) (n : Nat) (cs : List Cmp) (r : Row), vs = [.ref a, .ref b] ∧ WebAt K H a n cs ∧ SqL K H b (vis r) ∧ r.length = n ∧ ∀ H' p, Same H H' → H p = none → H' p = some (.lst (vis (gone cs r))) → Q (.ref p) H'
def sp_lbare (K : PySem.W.Frag) : Sp := fun vs H Q _ => ∃ n : Nat, vs = [.int (n : Int)] ∧ 1 ≤ n ∧ n ≤ 10 ∧ ∀ H' p qs, Same H H' → H p = none → H' p = some (.lst (Rfs qs)) → Own H H' qs (bares n) → Q (.ref p) H'
def sp_lisbare (K : PySem.W.Frag) : Sp := fun vs H Q _ => ∃ (a : Addr) (n : Nat) (r : Row), vs = [.ref a, .int (n : Int)] ∧ SqL K H a (vis r) ∧ r.length = n ∧ n ≤ 10 ∧ Bits r ∧ ∀ H', Same H H' → Q (.bl true) H'
def sp_lrows (K : PySem.W.Frag) : Sp := fun vs H Q _ => ∃ (a : Addr) (ns : List Int) (n : Nat), vs = [.ref a, .int (n : Int)] ∧ SqL K H a (ns.map V.int) ∧ ns.length ≤ 63 ∧ 1 ≤ n ∧ n ≤ 10 ∧
  ∀ H' p qs rs, Same H H' → H p = none → H' p = some (.lst (Rfs qs)) → Own H H' qs rs → (∀ r ∈ rs, r.length = n) → rs.length ≤ 73 → 1 ≤ rs.length → Q (.ref p) H'
/-! ## Promises of layers and chains -/
def sp_depths (K : PySem.W.Frag) : Sp := fun vs H Q _ => ∃ (n : Nat) (a : Addr) (cs : List Cmp), vs = [.int (n : Int), .ref a] ∧ WebAt K H a n cs ∧ ∀ H' p, Same H H' → H p = none → H' p = some (.lst (natL (tiers cs))) → Q (.ref p) H'
def sp_meet (K : PySem.W.Frag) : Sp := fun vs H Q _ => ∃ (a b : Addr) (c d : Cmp), vs = [.ref a, .ref b] ∧ SqT K H a (V2 c) ∧ SqT K H b (V2 d) ∧ Q (.bl (share c d)) H
/-- lists of comparers, each a new one, no two the same -/
def Lays (K : PySem.W.Frag) (H0 H : Hp) (ls : List Addr) (xss : List (List Cmp)) : Prop := All2 (fun l xs => H0 l = none ∧ ∃ ps, H l = some (.lst (Rfs ps)) ∧ Prs K H ps xs) ls xss ∧ ls.Nodup
def sp_layers (K : PySem.W.Frag) : Sp := fun vs H Q _ => ∃ (n : Nat) (a : Addr) (cs : List Cmp), vs = [.int (n : Int), .ref a] ∧ WebAt K H a n cs ∧ ∀ H' p ls, Same H H' → H p = none → H' p = some (.lst (Rfs ls)) → Lays K H H' ls (layersOf cs) → p ∉ ls → Q (.ref p) H'
def sp_chain (K : PySem.W.Frag) : Sp := fun vs H Q _ => ∃ (n : Nat) (a : Addr) (cs : List Cmp), vs = [.int (n : Int), .ref a] ∧ WebAt K H a n cs ∧ ∀ H' p, Same H H' → H p = none → H' p = some (.lst (natL (chainOf cs))) → Q (.ref p) H'
/-- a web whose list may be changed -/
def WebH (K : PySem.W.Frag) (H : Hp) (a : Addr) (n : Nat) (cs : List Cmp) : Prop := ∃ ps : List Addr, H a = some (.lst (Rfs ps)) ∧ Prs K H ps cs ∧ WebOk n cs ∧ 1 ≤ n ∧ n ≤ 10
/-! ## Promises of the defs that make webs -/
def spf_pmerging (f : Nat) (K : PySem.W.Frag) : Sp := fun vs H Q _ => ∃ (a b : Addr) (xs ys : List Nat), vs = [.ref a, .ref b] ∧ H a = some (.lst (natL xs)) ∧ H b = some (.lst (natL ys)) ∧ 2 * xs.length ≤ 2 ^ f ∧ 2 * ys.length ≤ 2 ^ f ∧ f ≤ 5 ∧ ∀ H' p qs, Same H H' → H p = none → H' p = some (.lst (Rfs qs)) → Prs K H' qs (mergeF f xs ys) → Q (.ref p) H'
def sp_pmerging (K : PySem.W.Frag) : Sp := spf_pmerging 5 K
def sp_needpart (K : PySem.W.Frag) : Sp := fun vs H Q _ => ∃ n : Nat, vs = [.int (n : Int)] ∧ n ≤ 10 ∧ Q .non H
def spf_psorting (f : Nat) (K : PySem.W.Frag) : Sp := fun vs H Q _ => ∃ (a : Addr) (xs : List Nat), vs = [.ref a] ∧ H a = some (.lst (natL xs)) ∧ xs.length ≤ 2 ^ f ∧ f ≤ 4 ∧ ∀ H' p qs, Same H H' → H p = none → H' p = some (.lst (Rfs qs)) → Prs K H' qs (sortF f xs) → Q (.ref p) H'
def sp_psorting (K : PySem.W.Frag) : Sp := spf_psorting 4 K
def sp_sorting (K : PySem.W.Frag) : Sp := fun vs H Q _ => ∃ n : Nat, vs = [.int (n : Int)] ∧ 1 ≤ n ∧ n ≤ 10 ∧ ∀ H' p qs, Same H H' → H p = none → H' p = some (.lst (Rfs qs)) → Prs K H' qs (sortW n) → Q (.ref p) H'
/-! ## Promises of turning -/
def sp_needorder (K : PySem.W.Frag) : Sp := fun vs H Q _ => ∃ (n : Nat) (b : Addr) (o : List Nat), vs = [.int (n : Int), .ref b] ∧ SqL K H b (natL o) ∧ o.Perm (List.range n) ∧ n ≤ 10 ∧ ∀ H', Same H H' → Q .non H'
def sp_renamed (K : PySem.W.Frag) : Sp := fun vs H Q _ => ∃ (n : Nat) (a b : Addr) (cs : List Cmp) (o : List Nat), vs = [.int (n : Int), .ref a, .ref b] ∧ WebAt K H a n cs ∧ SqL K H b (natL o) ∧ o.Perm (List.range n) ∧
  ∀ H' p qs, Same H H' → H p = none → H' p = some (.lst (Rfs qs)) → Prs K H' qs (cs.map (callC o)) → Q (.ref p) H'
def sp_upside (K : PySem.W.Frag) : Sp := fun vs H Q _ => ∃ (n : Nat) (a : Addr) (cs : List Cmp), vs = [.int (n : Int), .ref a] ∧ WebAt K H a n cs ∧
  ∀ H' p qs, Same H H' → H p = none → H' p = some (.lst (Rfs qs)) → Prs K H' qs (cs.map (upC n)) → Q (.ref p) H'
/-! ## Promises of turning: straight -/
def sp_straightened (K : PySem.W.Frag) : Sp := fun vs H Q _ => ∃ (n : Nat) (a : Addr) (cs : List Cmp), vs = [.int (n : Int), .ref a] ∧ WebAt K H a n cs ∧
  ∀ H' p c s qs, Same H H' → H p = none → H c = none → H s = none → c ≠ s → H' p = some (.tup [.ref c, .ref s]) → H' c = some (.lst (Rfs qs)) → Prs K H' qs (strOf n cs).1 → H' s = some (.lst (natL (strOf n cs).2)) → Q (.ref p) H'
/-! ## A bench -/
theorem nLC : ¬ (("_lines" : Str) = "_comparers") := by decide +kernel
theorem nLR : ¬ (("_lines" : Str) = "_rows") := by decide +kernel
theorem nCL : ¬ (("_comparers" : Str) = "_lines") := by decide +kernel
theorem nCR : ¬ (("_comparers" : Str) = "_rows") := by decide +kernel
theorem nRL : ¬ (("_rows" : Str) = "_lines") := by decide +kernel
theorem nRC : ¬ (("_rows" : Str) = "_comparers") := by decide +kernel
/-- what a bench keeps: lines, comparers, the rows' numbers -/
def bf (n : Nat) (l R : Addr) : List (Str × V) := putF "_rows" (.ref R) (putF "_comparers" (.ref l) (putF "_lines" (.int (n : Int)) []))
theorem bf_lines (n : Nat) (l R : Addr) : (bf n l R).lookup ("_lines" : Str) = some (.int (n : Int)) := by
  unfold bf
  rw [lookup_putF, if_neg nLR, lookup_putF, if_neg nLC, lookup_putF, if_pos rfl]
theorem bf_comps (n : Nat) (l R : Addr) : (bf n l R).lookup ("_comparers" : Str) = some (.ref l) := by
  unfold bf
  rw [lookup_putF, if_neg nCR, lookup_putF, if_pos rfl]
theorem bf_rows (n : Nat) (l R : Addr) : (bf n l R).lookup ("_rows" : Str) = some (.ref R) := by
  unfold bf
  rw [lookup_putF, if_pos rfl]
theorem bf_no (n : Nat) (l R : Addr) {m : Str} (h1 : ¬ m = "_lines") (h2 : ¬ m = "_comparers") (h3 : ¬ m = "_rows") : (bf n l R).lookup m = none := by
  unfold bf
  rw [lookup_putF, if_neg h3, lookup_putF, if_neg h2, lookup_putF, if_neg h1]
  all_goals rfl
structure BenchT (K : PySem.W.Frag) : Prop where
  cl : Cls K (He.ga K "Bench")
  nL : NoAttr K (He.ga K "Bench") "_lines"
  nC : NoAttr K (He.ga K "Bench") "_comparers"
  nR : NoAttr K (He.ga K "Bench") "_rows"
/-- all stays but what stands at l, R -/
def KeepB (l R : Addr) (H H' : Hp) : Prop := ∀ b o, b ≠ l → b ≠ R → H b = some o → H' b = some o
/-- the numbers of the rows behind each part of the comparers -/
def OutsAt (H : Hp) (n : Nat) (cs : List Cmp) (l R : Addr) (qs : List Addr) : Prop := qs.length = cs.length + 1 ∧ ∀ (i : Nat) (q : Addr), qs[i]? = some q → q ≠ l ∧ q ≠ R ∧ H q = some (.lst (natL (outsN n (cs.take i))))
/-- a bench of n lines at p, cs put; its lists stand at l and R -/
def BenchAt (K : PySem.W.Frag) (H : Hp) (p : Addr) (n : Nat) (cs : List Cmp) (l R : Addr) (qs : List Addr) : Prop :=
  ∃ dx ps, H p = some (.ins (He.ga K "Bench") dx (bf n l R)) ∧ H l = some (.lst (Rfs ps)) ∧ Prs K H ps cs ∧ H R = some (.lst (Rfs qs)) ∧ OutsAt H n cs l R qs ∧ l ≠ R ∧ WebOk n cs ∧ 1 ≤ n ∧ n ≤ 10
def sp_bbehind (K : PySem.W.Frag) : Sp := fun vs H Q _ => ∃ (v a b : Nat), vs = [.int (v : Int), .int (a : Int), .int (b : Int)] ∧ a ≤ 10 ∧ b ≤ 10 ∧ Q (.int ((goB v (a, b) : Nat) : Int)) H
def sp_binit (K : PySem.W.Frag) : Sp := fun vs H Q _ => ∃ (p dx : Addr) (n : Nat), vs = [.ref p, .int (n : Int)] ∧ H p = some (.ins (He.ga K "Bench") dx []) ∧ 1 ≤ n ∧ n ≤ 10 ∧
  ∀ H' l R d, (∀ b o, b ≠ p → H b = some o → H' b = some o) → H l = none → H R = none → H d = none → BenchAt K H' p n [] l R [d] → Q .non H'
def sp_bput (K : PySem.W.Frag) : Sp := fun vs H Q _ => ∃ (p g l R : Addr) (n : Nat) (cs : List Cmp) (c : Cmp) (qs : List Addr), vs = [.ref p, .ref g] ∧ BenchAt K H p n cs l R qs ∧ SqT K H g (V2 c) ∧ CmpOk n c ∧ cs.length < 60 ∧
  ∀ H' u, KeepB l R H H' → H u = none → BenchAt K H' p n (cs ++ [c]) l R (qs ++ [u]) → Q (.bl ((bares n).any (gtB cs c.1 c.2))) H'
def sp_bcomps (K : PySem.W.Frag) : Sp := fun vs H Q _ => ∃ (p l R : Addr) (n : Nat) (cs : List Cmp) (qs : List Addr), vs = [.ref p] ∧ BenchAt K H p n cs l R qs ∧ ∀ H' u ps, Same H H' → H u = none → H' u = some (.lst (Rfs ps)) → Prs K H' ps cs → Q (.ref u) H'
def sp_bwild (K : PySem.W.Frag) : Sp := fun vs H Q _ => ∃ (p l R : Addr) (n : Nat) (cs : List Cmp) (qs : List Addr), vs = [.ref p] ∧ BenchAt K H p n cs l R qs ∧
  (wildB n cs = none → ∀ H', Same H H' → Q .non H') ∧ ∀ v, wildB n cs = some v → ∀ H' u, Same H H' → H u = none → H' u = some (.lst (vis (bareR n v))) → Q (.ref u) H'
/-! ## Promises of the law's own defs -/
def sp_lbenched (K : PySem.W.Frag) : Sp := fun vs H Q _ => ∃ (n : Nat) (a : Addr) (cs : List Cmp), vs = [.int (n : Int), .ref a] ∧ WebAt K H a n cs ∧ ∀ H' t p l R D qs, Same H H' → H' t = some (.tup [.ref p, .ref D]) → BenchAt K H' p n cs l R qs → H' D = some (.lst (natL (idle n cs))) → Q (.ref t) H'
def sp_lwildgood (K : PySem.W.Frag) : Sp := fun vs H Q _ => ∃ (n : Nat) (a p l R : Addr) (cs : List Cmp) (qs : List Addr), vs = [.int (n : Int), .ref a, .ref p] ∧ WebAt K H a n cs ∧ BenchAt K H p n cs l R qs ∧ ∀ H', Same H H' → Q (.bl true) H'
abbrev sp_law := spLaw

/-! ### is_whole(value): slots 0 value -/
abbrev s_iswhole : Stmt := topS 11
abbrev N_iswhole : List Str := ["value"]
abbrev P_iswhole : List Str := ["value"]
theorem sc_iswhole : FnScope N_iswhole P_iswhole (defScope s_iswhole) := ⟨rfl, rfl, rfl, by decide +kernel, rfl, by decide +kernel, by decide +kernel⟩
def r_iswhole (K : PySem.W.Frag) : TS :=
  tRet (tOp rIsTyB (tCB (rTyp K) (tCons (tVar 0) (tNil))) (tC (.ty "int")))
/-! ### is_comparer(lines, value): slots 0 lines, 1 value, 2 a, 3 b -/
abbrev s_iscomparer : Stmt := topS 12
abbrev N_iscomparer : List Str := ["lines", "value", "a", "b"]
abbrev P_iscomparer : List Str := ["lines", "value"]
theorem sc_iscomparer : FnScope N_iscomparer P_iscomparer (defScope s_iscomparer) := ⟨rfl, rfl, rfl, by decide +kernel, rfl, by decide +kernel, by decide +kernel⟩
def r_iscomparer (K : PySem.W.Frag) : TS :=
  tSeq (tIfS (tOr (tTest (tOp rNT (tCB (rTyp K) (tCons (tVar 1) (tNil))) (tC (.ty "tuple")))) (tTest (tOp rNe (tCB (kLen K) (tCons (tVar 1) (tNil))) (tC (.int 2))))) (tRet (tC (.bl false))) (tNext)) (tSeq (tAsg (tVar 1) (gTup K 2 (gCons (gName 2) (gCons (gName 3) (gNil))))) (tRet (tAndV (tCal (sp_isline K) (tCons (tVar 0) (tCons (tVar 2) (tNil)))) (tAndV (tCal (sp_isline K) (tCons (tVar 0) (tCons (tVar 3) (tNil)))) (tOp rNe (tVar 2) (tVar 3))))))
/-! ### _is_line(lines, value): slots 0 lines, 1 value -/
abbrev s_isline : Stmt := topS 13
abbrev N_isline : List Str := ["lines", "value"]
abbrev P_isline : List Str := ["lines", "value"]
theorem sc_isline : FnScope N_isline P_isline (defScope s_isline) := ⟨rfl, rfl, rfl, by decide +kernel, rfl, by decide +kernel, by decide +kernel⟩
def r_isline (K : PySem.W.Frag) : TS :=
  tRet (tAndV (tCal (sp_iswhole K) (tCons (tVar 1) (tNil))) (tChain oLe oLt (tC (.int 0)) (tVar 1) (tVar 0)))
/-! ### need_lines(lines): slots 0 lines -/
abbrev s_needlines : Stmt := topS 14
abbrev N_needlines : List Str := ["lines"]
abbrev P_needlines : List Str := ["lines"]
theorem sc_needlines : FnScope N_needlines P_needlines (defScope s_needlines) := ⟨rfl, rfl, rfl, by decide +kernel, rfl, by decide +kernel, by decide +kernel⟩
def r_needlines (K : PySem.W.Frag) (E : XK) : TS :=
  tIfS (tOr (tNot (tB (tCal (sp_iswhole K) (tCons (tVar 0) (tNil))))) (tNot (tTest (tChain oLe oLe (tC (.int 1)) (tVar 0) (tC (.int 10)))))) (tRzA (He.ga K "BadLines") (fun cls d _ H => E cls d H) (tCons (tJoin [tC (.str "lines are a whole number from 1 to "), tFmt (tC (.int 10))]) (tNil))) (tNext)
/-! ### need_web(lines, comparers): slots 0 lines, 1 comparers, 2 place, 3 comparer -/
abbrev s_needweb : Stmt := topS 15
abbrev N_needweb : List Str := ["lines", "comparers", "place", "comparer"]
abbrev P_needweb : List Str := ["lines", "comparers"]
theorem sc_needweb : FnScope N_needweb P_needweb (defScope s_needweb) := ⟨rfl, rfl, rfl, by decide +kernel, rfl, by decide +kernel, by decide +kernel⟩
def r_needweb_f1 (K : PySem.W.Frag) (E : XK) : TS :=
  tIfS (tNot (tB (tCal (sp_iscomparerV K) (tCons (tVar 0) (tCons (tVar 3) (tNil)))))) (tRzO K "BadWeb" "place" (fun cls d _ H => E cls d H) (tVar 2)) (tNext)
def r_needweb (K : PySem.W.Frag) (E : XK) : TS :=
  tSeq (tDrop (tCalW (sp_needlinesV K) (fun cls d _ H => E cls d H) (tCons (tVar 0) (tNil)))) (tSeq (tIfS (tOr (tTest (tOp rNT (tCB (rTyp K) (tCons (tVar 1) (tNil))) (tC (.ty "list")))) (tTest (tOp oGt (tCB (kLen K) (tCons (tVar 1) (tNil))) (tC (.int 60))))) (tRzO K "BadWeb" "place" (fun cls d _ H => E cls d H) (tC .non)) (tNext)) (tFor (iEnum K (tCons (tVar 1) (tNil))) (gTup K 2 (gCons (gName 2) (gCons (gName 3) (gNil)))) (r_needweb_f1 K E)))
/-! ### need_row(lines, row): slots 0 lines, 1 row, 2 number -/
abbrev s_needrow : Stmt := topS 16
abbrev N_needrow : List Str := ["lines", "row", "number"]
abbrev P_needrow : List Str := ["lines", "row"]
theorem sc_needrow : FnScope N_needrow P_needrow (defScope s_needrow) := ⟨rfl, rfl, rfl, by decide +kernel, rfl, by decide +kernel, by decide +kernel⟩
def r_needrow (K : PySem.W.Frag) : TS :=
  tSeq (tIfS (tOr (tNot (tB (tCal (sp_iswhole K) (tCons (tVar 0) (tNil))))) (tOr (tTest (tOp rNT (tCB (rTyp K) (tCons (tVar 1) (tNil))) (tC (.ty "list")))) (tTest (tOp rNe (tCB (kLen K) (tCons (tVar 1) (tNil))) (tVar 0))))) (tOff) (tNext)) (tIfS (tNot (tB (tCB (rAll K) (tCons (tLc (iList K (tVar 1)) (gName 2) (tYes) (tCal (sp_iswhole K) (tCons (tVar 2) (tNil))) [2]) (tNil))))) (tOff) (tNext))
/-! ### layers(lines, comparers): slots 0 lines, 1 comparers, 2 found, 3 comparer, 4 depth -/
abbrev s_layers : Stmt := topS 18
abbrev N_layers : List Str := ["lines", "comparers", "found", "comparer", "depth"]
abbrev P_layers : List Str := ["lines", "comparers"]
theorem sc_layers : FnScope N_layers P_layers (defScope s_layers) := ⟨rfl, rfl, rfl, by decide +kernel, rfl, by decide +kernel, by decide +kernel⟩
def r_layers_f1 (K : PySem.W.Frag) : TS :=
  tSeq (tIfS (tTest (tOp rEq (tVar 4) (tCB (kLen K) (tCons (tVar 2) (tNil))))) (tDrop (tBM K "list" rAppend (tVar 2) (tCons (tLst (tNil)) (tNil)))) (tNext)) (tDrop (tBM K "list" rAppend (tOp (rIxL K) (tVar 2) (tVar 4)) (tCons (tVar 3) (tNil))))
def r_layers (K : PySem.W.Frag) : TS :=
  tSeq (tDrop (tCal (sp_needweb K) (tCons (tVar 0) (tCons (tVar 1) (tNil))))) (tSeq (tAsg (tLst (tNil)) (gName 2)) (tSeq (tFor (iZip K (tCons (tVar 1) (tCons (tCal (sp_depths K) (tCons (tVar 0) (tCons (tVar 1) (tNil)))) (tNil)))) (gTup K 2 (gCons (gName 3) (gCons (gName 4) (gNil)))) (r_layers_f1 K)) (tRet (tVar 2))))
/-! ### _depths(lines, comparers): slots 0 lines, 1 comparers, 2 depths, 3 on_line, 4 a, 5 b, 6 depth -/
abbrev s_depths : Stmt := topS 19
abbrev N_depths : List Str := ["lines", "comparers", "depths", "on_line", "a", "b", "depth"]
abbrev P_depths : List Str := ["lines", "comparers"]
theorem sc_depths : FnScope N_depths P_depths (defScope s_depths) := ⟨rfl, rfl, rfl, by decide +kernel, rfl, by decide +kernel, by decide +kernel⟩
def r_depths_f1 (K : PySem.W.Frag) : TS :=
  tSeq (tAsg (tCB kMax (tCons (tOp (rIxL K) (tVar 3) (tVar 4)) (tCons (tOp (rIxL K) (tVar 3) (tVar 5)) (tNil)))) (gName 6)) (tSeq (tDrop (tBM K "list" rAppend (tVar 2) (tCons (tVar 6) (tNil)))) (tSeq (tAsg (tOp oAdd (tVar 6) (tC (.int 1))) (gSub (tVar 3) (tVar 4) rSetL)) (tAsg (tOp oAdd (tVar 6) (tC (.int 1))) (gSub (tVar 3) (tVar 5) rSetL))))
def r_depths (K : PySem.W.Frag) : TS :=
  tSeq (tAsg (tLst (tNil)) (gName 2)) (tSeq (tAsg (tOp rRep (tLst (tCons (tC (.int 0)) (tNil))) (tVar 0)) (gName 3)) (tSeq (tFor (iList K (tVar 1)) (gTup K 2 (gCons (gName 4) (gCons (gName 5) (gNil)))) (r_depths_f1 K)) (tRet (tVar 2))))
/-! ### all_columns(lines): slots 0 lines, 1 columns, 2 rows, 3 _, 4 column -/
abbrev s_allcolumns : Stmt := topS 21
abbrev N_allcolumns : List Str := ["lines", "columns", "rows", "_", "column"]
abbrev P_allcolumns : List Str := ["lines"]
theorem sc_allcolumns : FnScope N_allcolumns P_allcolumns (defScope s_allcolumns) := ⟨rfl, rfl, rfl, by decide +kernel, rfl, by decide +kernel, by decide +kernel⟩
def r_allcolumns_f1 (K : PySem.W.Frag) : TS :=
  tSeq (tAsg (tLc (iList K (tVar 1)) (gName 4) (tYes) (tOp oBOr (tVar 4) (tOp oShlW (tVar 4) (tVar 2))) [4]) (gName 1)) (tSeq (tDrop (tBM K "list" rAppend (tVar 1) (tCons (tOp oShlW (tOp oSub (tOp oShlW (tC (.int 1)) (tVar 2)) (tC (.int 1))) (tVar 2)) (tNil)))) (tAsg (tOp oMul (tC (.int 2)) (tVar 2)) (gName 2)))
def r_allcolumns (K : PySem.W.Frag) : TS :=
  tSeq (tAsg (tLst (tNil)) (gName 1)) (tSeq (tAsg (tC (.int 1)) (gName 2)) (tSeq (tFor (iRng1 (tCons (tVar 0) (tNil))) (gName 3) (r_allcolumns_f1 K)) (tRet (tVar 1))))
/-! ### greater(columns, a, b): slots 0 columns, 1 a, 2 b -/
abbrev s_greater : Stmt := topS 22
abbrev N_greater : List Str := ["columns", "a", "b"]
abbrev P_greater : List Str := ["columns", "a", "b"]
theorem sc_greater : FnScope N_greater P_greater (defScope s_greater) := ⟨rfl, rfl, rfl, by decide +kernel, rfl, by decide +kernel, by decide +kernel⟩
def r_greater (K : PySem.W.Frag) : TS :=
  tRet (tOp oBAnd (tOp (rIxL K) (tVar 0) (tVar 1)) (tUn oInv (tOp (rIxL K) (tVar 0) (tVar 2))))
/-! ### behind(columns, comparer): slots 0 columns, 1 comparer, 2 a, 3 b, 4 out -/
abbrev s_behind : Stmt := topS 23
abbrev N_behind : List Str := ["columns", "comparer", "a", "b", "out"]
abbrev P_behind : List Str := ["columns", "comparer"]
theorem sc_behind : FnScope N_behind P_behind (defScope s_behind) := ⟨rfl, rfl, rfl, by decide +kernel, rfl, by decide +kernel, by decide +kernel⟩
def r_behind (K : PySem.W.Frag) : TS :=
  tSeq (tAsg (tVar 1) (gTup K 2 (gCons (gName 2) (gCons (gName 3) (gNil))))) (tSeq (tAsg (tCB (kList K) (tCons (tVar 0) (tNil))) (gName 4)) (tSeq (tAsg (tOp oBAnd (tOp (rIxL K) (tVar 0) (tVar 2)) (tOp (rIxL K) (tVar 0) (tVar 3))) (gSub (tVar 4) (tVar 2) rSetL)) (tSeq (tAsg (tOp oBOr (tOp (rIxL K) (tVar 0) (tVar 2)) (tOp (rIxL K) (tVar 0) (tVar 3))) (gSub (tVar 4) (tVar 3) rSetL)) (tRet (tVar 4)))))
/-! ### columns_out(lines, comparers): slots 0 lines, 1 comparers, 2 columns, 3 comparer -/
abbrev s_columnsout : Stmt := topS 24
abbrev N_columnsout : List Str := ["lines", "comparers", "columns", "comparer"]
abbrev P_columnsout : List Str := ["lines", "comparers"]
theorem sc_columnsout : FnScope N_columnsout P_columnsout (defScope s_columnsout) := ⟨rfl, rfl, rfl, by decide +kernel, rfl, by decide +kernel, by decide +kernel⟩
def r_columnsout_f1 (K : PySem.W.Frag) : TS :=
  tAsg (tCal (sp_behind K) (tCons (tVar 2) (tCons (tVar 3) (tNil)))) (gName 2)
def r_columnsout (K : PySem.W.Frag) : TS :=
  tSeq (tAsg (tCal (sp_allcolumns K) (tCons (tVar 0) (tNil))) (gName 2)) (tSeq (tFor (iList K (tVar 1)) (gName 3) (r_columnsout_f1 K)) (tRet (tVar 2)))
/-! ### first_row(lines, rows): slots 0 lines, 1 rows -/
abbrev s_firstrow : Stmt := topS 25
abbrev N_firstrow : List Str := ["lines", "rows"]
abbrev P_firstrow : List Str := ["lines", "rows"]
theorem sc_firstrow : FnScope N_firstrow P_firstrow (defScope s_firstrow) := ⟨rfl, rfl, rfl, by decide +kernel, rfl, by decide +kernel, by decide +kernel⟩
def r_firstrow (K : PySem.W.Frag) : TS :=
  tSeq (tIfS (tTest (tOp rEq (tVar 1) (tC (.int 0)))) (tRet (tC .non)) (tNext)) (tRet (tCal (sp_rowof K) (tCons (tVar 0) (tCons (tOp oSub (tBits (tOp oBAnd (tVar 1) (tUn oNeg (tVar 1)))) (tC (.int 1))) (tNil)))))
/-! ### row_of(lines, number): slots 0 lines, 1 number, 2 line -/
abbrev s_rowof : Stmt := topS 26
abbrev N_rowof : List Str := ["lines", "number", "line"]
abbrev P_rowof : List Str := ["lines", "number"]
theorem sc_rowof : FnScope N_rowof P_rowof (defScope s_rowof) := ⟨rfl, rfl, rfl, by decide +kernel, rfl, by decide +kernel, by decide +kernel⟩
def r_rowof (K : PySem.W.Frag) : TS :=
  tRet (tLc (iRng1 (tCons (tVar 0) (tNil))) (gName 2) (tYes) (tOp oBAnd (tOp oShr (tVar 1) (tVar 2)) (tC (.int 1))) [2])
/-! ### Bench.__init__(self, lines): slots 0 self, 1 lines -/
abbrev s_binit : Stmt := memS (topS 28) 0
abbrev N_binit : List Str := ["self", "lines"]
abbrev P_binit : List Str := ["self", "lines"]
theorem sc_binit : FnScope N_binit P_binit (defScope s_binit) := ⟨rfl, rfl, rfl, by decide +kernel, rfl, by decide +kernel, by decide +kernel⟩
def r_binit (K : PySem.W.Frag) : TS :=
  tSeq (tDrop (tCal (sp_needlines K) (tCons (tVar 1) (tNil)))) (tSeq (sFld K (tVar 0) (tVar 1) "_lines") (tSeq (sFld K (tVar 0) (tLst (tNil)) "_comparers") (sFld K (tVar 0) (tLst (tCons (tLstRg (tRg1 (tOp oShl (tC (.int 1)) (tVar 1)))) (tNil))) "_rows")))
/-! ### Bench.put(self, comparer): slots 0 self, 1 comparer, 2 a, 3 b, 4 ahead, 5 out, 6 number -/
abbrev s_bput : Stmt := memS (topS 28) 1
abbrev N_bput : List Str := ["self", "comparer", "a", "b", "ahead", "out", "number"]
abbrev P_bput : List Str := ["self", "comparer"]
theorem sc_bput : FnScope N_bput P_bput (defScope s_bput) := ⟨rfl, rfl, rfl, by decide +kernel, rfl, by decide +kernel, by decide +kernel⟩
def r_bput (K : PySem.W.Frag) (w : World) : TS :=
  tSeq (tIfS (tOr (tTest (tOp oGe (tCB (kLen K) (tCons (tFld K (tVar 0) "_comparers") (tNil))) (tC (.int 60)))) (tNot (tB (tCal (sp_iscomparer K) (tCons (tFld K (tVar 0) "_lines") (tCons (tVar 1) (tNil))))))) (tOff) (tNext)) (tSeq (tAsg (tVar 1) (gTup K 2 (gCons (gName 2) (gCons (gName 3) (gNil))))) (tSeq (tAsg (tOp (rIxL K) (tFld K (tVar 0) "_rows") (tUn oNeg (tC (.int 1)))) (gName 4)) (tSeq (tAsg (tCB (rSortS w) (tCons (tSetC w (iList K (tVar 4)) (gName 6) (tCal (sp_bbehind K) (tCons (tVar 6) (tCons (tVar 2) (tCons (tVar 3) (tNil))))) [6]) (tNil))) (gName 5)) (tSeq (tDrop (tBM K "list" rAppend (tFld K (tVar 0) "_comparers") (tCons (tTup (tCons (tVar 2) (tCons (tVar 3) (tNil)))) (tNil)))) (tSeq (tDrop (tBM K "list" rAppend (tFld K (tVar 0) "_rows") (tCons (tVar 5) (tNil)))) (tRet (tOp (rNeD K) (tVar 5) (tVar 4))))))))
/-! ### Bench.comparers(self): slots 0 self -/
abbrev s_bcomps : Stmt := memS (topS 28) 3
abbrev N_bcomps : List Str := ["self"]
abbrev P_bcomps : List Str := ["self"]
theorem sc_bcomps : FnScope N_bcomps P_bcomps (defScope s_bcomps) := ⟨rfl, rfl, rfl, by decide +kernel, rfl, by decide +kernel, by decide +kernel⟩
def r_bcomps (K : PySem.W.Frag) : TS :=
  tRet (tCB (kList K) (tCons (tFld K (tVar 0) "_comparers") (tNil)))
/-! ### Bench.wild(self): slots 0 self, 1 number, 2 row -/
abbrev s_bwild : Stmt := memS (topS 28) 5
abbrev N_bwild : List Str := ["self", "number", "row"]
abbrev P_bwild : List Str := ["self"]
theorem sc_bwild : FnScope N_bwild P_bwild (defScope s_bwild) := ⟨rfl, rfl, rfl, by decide +kernel, rfl, by decide +kernel, by decide +kernel⟩
def r_bwild_f1 (K : PySem.W.Frag) : TS :=
  tSeq (tAsg (tCal (sp_rowof K) (tCons (tFld K (tVar 0) "_lines") (tCons (tVar 1) (tNil)))) (gName 2)) (tIfS (tTest (tOp (rNeD K) (tVar 2) (tCB (rSortedI K) (tCons (tVar 2) (tNil))))) (tRet (tVar 2)) (tNext))
def r_bwild (K : PySem.W.Frag) : TS :=
  tSeq (tFor (iList K (tOp (rIxL K) (tFld K (tVar 0) "_rows") (tUn oNeg (tC (.int 1))))) (gName 1) (r_bwild_f1 K)) (tRet (tC .non))
/-! ### behind_bench(number, a, b): slots 0 number, 1 a, 2 b -/
abbrev s_bbehind : Stmt := topS 29
abbrev N_bbehind : List Str := ["number", "a", "b"]
abbrev P_bbehind : List Str := ["number", "a", "b"]
theorem sc_bbehind : FnScope N_bbehind P_bbehind (defScope s_bbehind) := ⟨rfl, rfl, rfl, by decide +kernel, rfl, by decide +kernel, by decide +kernel⟩
def r_bbehind (K : PySem.W.Frag) : TS :=
  tSeq (tIfS (tTest (tOp oGt (tOp oBAnd (tOp oShr (tVar 0) (tVar 1)) (tC (.int 1))) (tOp oBAnd (tOp oShr (tVar 0) (tVar 2)) (tC (.int 1))))) (tRet (tOp oBXor (tOp oBXor (tVar 0) (tOp oShl (tC (.int 1)) (tVar 1))) (tOp oShl (tC (.int 1)) (tVar 2)))) (tNext)) (tRet (tVar 0))
/-! ### unsorted(lines, comparers): slots 0 lines, 1 comparers, 2 columns, 3 rows, 4 line -/
abbrev s_unsorted : Stmt := topS 32
abbrev N_unsorted : List Str := ["lines", "comparers", "columns", "rows", "line"]
abbrev P_unsorted : List Str := ["lines", "comparers"]
theorem sc_unsorted : FnScope N_unsorted P_unsorted (defScope s_unsorted) := ⟨rfl, rfl, rfl, by decide +kernel, rfl, by decide +kernel, by decide +kernel⟩
def r_unsorted_f1 (K : PySem.W.Frag) : TS :=
  tAsg (tOp oBOr (tVar 3) (tCal (sp_greater K) (tCons (tVar 2) (tCons (tVar 4) (tCons (tOp oAdd (tVar 4) (tC (.int 1))) (tNil)))))) (gName 3)
def r_unsorted (K : PySem.W.Frag) : TS :=
  tSeq (tDrop (tCal (sp_needweb K) (tCons (tVar 0) (tCons (tVar 1) (tNil))))) (tSeq (tAsg (tCal (sp_columnsout K) (tCons (tVar 0) (tCons (tVar 1) (tNil)))) (gName 2)) (tSeq (tAsg (tC (.int 0)) (gName 3)) (tSeq (tFor (iRng1 (tCons (tOp oSub (tVar 0) (tC (.int 1))) (tNil))) (gName 4) (r_unsorted_f1 K)) (tRet (tCal (sp_firstrow K) (tCons (tVar 0) (tCons (tVar 3) (tNil))))))))
/-! ### needless(lines, comparers): slots 0 lines, 1 comparers, 2 places, 3 columns, 4 place, 5 comparer, 6 a, 7 b -/
abbrev s_needless : Stmt := topS 33
abbrev N_needless : List Str := ["lines", "comparers", "places", "columns", "place", "comparer", "a", "b"]
abbrev P_needless : List Str := ["lines", "comparers"]
theorem sc_needless : FnScope N_needless P_needless (defScope s_needless) := ⟨rfl, rfl, rfl, by decide +kernel, rfl, by decide +kernel, by decide +kernel⟩
def r_needless_f1 (K : PySem.W.Frag) : TS :=
  tSeq (tAsg (tVar 5) (gTup K 2 (gCons (gName 6) (gCons (gName 7) (gNil))))) (tSeq (tIfS (tTest (tOp rEq (tCal (sp_greater K) (tCons (tVar 3) (tCons (tVar 6) (tCons (tVar 7) (tNil))))) (tC (.int 0)))) (tDrop (tBM K "list" rAppend (tVar 2) (tCons (tVar 4) (tNil)))) (tNext)) (tAsg (tCal (sp_behind K) (tCons (tVar 3) (tCons (tVar 5) (tNil)))) (gName 3)))
def r_needless (K : PySem.W.Frag) : TS :=
  tSeq (tDrop (tCal (sp_needweb K) (tCons (tVar 0) (tCons (tVar 1) (tNil))))) (tSeq (tAsg (tLst (tNil)) (gName 2)) (tSeq (tAsg (tCal (sp_allcolumns K) (tCons (tVar 0) (tNil))) (gName 3)) (tSeq (tFor (iEnum K (tCons (tVar 1) (tNil))) (gTup K 2 (gCons (gName 4) (gCons (gName 5) (gNil)))) (r_needless_f1 K)) (tRet (tVar 2)))))
/-! ### pruned(lines, comparers): slots 0 lines, 1 comparers, 2 places, 3 place, 4 comparer -/
abbrev s_pruned : Stmt := topS 34
abbrev N_pruned : List Str := ["lines", "comparers", "places", "place", "comparer"]
abbrev P_pruned : List Str := ["lines", "comparers"]
theorem sc_pruned : FnScope N_pruned P_pruned (defScope s_pruned) := ⟨rfl, rfl, rfl, by decide +kernel, rfl, by decide +kernel, by decide +kernel⟩
def r_pruned (K : PySem.W.Frag) : TS :=
  tSeq (tAsg (tCal (sp_needless K) (tCons (tVar 0) (tCons (tVar 1) (tNil)))) (gName 2)) (tRet (tLc (iEnum K (tCons (tVar 1) (tNil))) (gTup K 2 (gCons (gName 3) (gCons (gName 4) (gNil)))) (tTest (tOp (rIn K true) (tVar 3) (tVar 2))) (tVar 4) [3, 4]))
/-! ### sorting(lines): slots 0 lines -/
abbrev s_sorting : Stmt := topS 36
abbrev N_sorting : List Str := ["lines"]
abbrev P_sorting : List Str := ["lines"]
theorem sc_sorting : FnScope N_sorting P_sorting (defScope s_sorting) := ⟨rfl, rfl, rfl, by decide +kernel, rfl, by decide +kernel, by decide +kernel⟩
def r_sorting (K : PySem.W.Frag) : TS :=
  tSeq (tDrop (tCal (sp_needlines K) (tCons (tVar 0) (tNil)))) (tRet (tCal (sp_psorting K) (tCons (tLstRg (tRg1 (tVar 0))) (tNil))))
/-! ### _merging(ones, others): slots 0 ones, 1 others, 2 comparers, 3 rising, 4 place -/
abbrev s_pmerging : Stmt := topS 37
abbrev N_pmerging : List Str := ["ones", "others", "comparers", "rising", "place"]
abbrev P_pmerging : List Str := ["ones", "others"]
theorem sc_pmerging : FnScope N_pmerging P_pmerging (defScope s_pmerging) := ⟨rfl, rfl, rfl, by decide +kernel, rfl, by decide +kernel, by decide +kernel⟩
def r_pmerging_f1 (K : PySem.W.Frag) (spR : Sp) : TS :=
  tDrop (tBM K "list" rAppend (tVar 2) (tCons (tTup (tCons (tOp (rIxL K) (tVar 3) (tVar 4)) (tCons (tOp (rIxL K) (tVar 3) (tOp oAdd (tVar 4) (tC (.int 1)))) (tNil)))) (tNil)))
def r_pmerging (K : PySem.W.Frag) (spR : Sp) : TS :=
  tSeq (tIfS (tOr (tTest (tOp (rEqD K) (tVar 0) (tLst (tNil)))) (tTest (tOp (rEqD K) (tVar 1) (tLst (tNil))))) (tRet (tLst (tNil))) (tNext)) (tSeq (tIfS (tAnd (tTest (tOp rEq (tCB (kLen K) (tCons (tVar 0) (tNil))) (tC (.int 1)))) (tTest (tOp rEq (tCB (kLen K) (tCons (tVar 1) (tNil))) (tC (.int 1))))) (tRet (tLst (tCons (tTup (tCons (tOp (rIxL K) (tVar 0) (tC (.int 0))) (tCons (tOp (rIxL K) (tVar 1) (tC (.int 0))) (tNil)))) (tNil)))) (tNext)) (tSeq (tAsg (tOp rCat (tCal spR (tCons (tStepF K (tVar 0) (tNoPart) (tC (.int 2))) (tCons (tStepF K (tVar 1) (tNoPart) (tC (.int 2))) (tNil)))) (tCal spR (tCons (tStepF K (tVar 0) (tPart (tC (.int 1))) (tC (.int 2))) (tCons (tStepF K (tVar 1) (tPart (tC (.int 1))) (tC (.int 2))) (tNil))))) (gName 2)) (tSeq (tAsg (tOp rCat (tVar 0) (tVar 1)) (gName 3)) (tSeq (tFor (iRng3 (tCons (tC (.int 1)) (tCons (tOp oSub (tCB (kLen K) (tCons (tVar 3) (tNil))) (tC (.int 1))) (tCons (tC (.int 2)) (tNil))))) (gName 4) (r_pmerging_f1 K spR)) (tRet (tVar 2))))))
/-! ### _sorting(rising): slots 0 rising, 1 half, 2 ones, 3 others -/
abbrev s_psorting : Stmt := topS 38
abbrev N_psorting : List Str := ["rising", "half", "ones", "others"]
abbrev P_psorting : List Str := ["rising"]
theorem sc_psorting : FnScope N_psorting P_psorting (defScope s_psorting) := ⟨rfl, rfl, rfl, by decide +kernel, rfl, by decide +kernel, by decide +kernel⟩
def r_psorting (K : PySem.W.Frag) (spR : Sp) : TS :=
  tSeq (tIfS (tTest (tOp oLt (tCB (kLen K) (tCons (tVar 0) (tNil))) (tC (.int 2)))) (tRet (tLst (tNil))) (tNext)) (tSeq (tAsg (tOp oDiv (tCB (kLen K) (tCons (tVar 0) (tNil))) (tC (.int 2))) (gName 1)) (tSeq (tAsg (tSl (rSlL K) (tVar 0) (tNoPart) (tPart (tVar 1))) (gName 2)) (tSeq (tAsg (tSl (rSlL K) (tVar 0) (tPart (tVar 1)) (tNoPart)) (gName 3)) (tRet (tOp rCat (tOp rCat (tCal spR (tCons (tVar 2) (tNil))) (tCal spR (tCons (tVar 3) (tNil)))) (tCal (sp_pmerging K) (tCons (tVar 2) (tCons (tVar 3) (tNil)))))))))
/-! ### run(lines, comparers, row): slots 0 lines, 1 comparers, 2 row -/
abbrev s_run : Stmt := topS 40
abbrev N_run : List Str := ["lines", "comparers", "row"]
abbrev P_run : List Str := ["lines", "comparers", "row"]
theorem sc_run : FnScope N_run P_run (defScope s_run) := ⟨rfl, rfl, rfl, by decide +kernel, rfl, by decide +kernel, by decide +kernel⟩
def r_run (K : PySem.W.Frag) : TS :=
  tRet (tOp (rIxL K) (tCal (sp_steps K) (tCons (tVar 0) (tCons (tVar 1) (tCons (tVar 2) (tNil))))) (tUn oNeg (tC (.int 1))))
/-! ### steps(lines, comparers, row): slots 0 lines, 1 comparers, 2 row, 3 rows, 4 comparer -/
abbrev s_steps : Stmt := topS 41
abbrev N_steps : List Str := ["lines", "comparers", "row", "rows", "comparer"]
abbrev P_steps : List Str := ["lines", "comparers", "row"]
theorem sc_steps : FnScope N_steps P_steps (defScope s_steps) := ⟨rfl, rfl, rfl, by decide +kernel, rfl, by decide +kernel, by decide +kernel⟩
def r_steps_f1 (K : PySem.W.Frag) : TS :=
  tDrop (tBM K "list" rAppend (tVar 3) (tCons (tCal (sp_rbehind K) (tCons (tOp (rIxL K) (tVar 3) (tUn oNeg (tC (.int 1)))) (tCons (tVar 4) (tNil)))) (tNil)))
def r_steps (K : PySem.W.Frag) : TS :=
  tSeq (tDrop (tCal (sp_needweb K) (tCons (tVar 0) (tCons (tVar 1) (tNil))))) (tSeq (tDrop (tCal (sp_needrow K) (tCons (tVar 0) (tCons (tVar 2) (tNil))))) (tSeq (tAsg (tLst (tCons (tCB (kList K) (tCons (tVar 2) (tNil))) (tNil))) (gName 3)) (tSeq (tFor (iList K (tVar 1)) (gName 4) (r_steps_f1 K)) (tRet (tVar 3)))))
/-! ### behind_running(row, comparer): slots 0 row, 1 comparer, 2 a, 3 b, 4 out -/
abbrev s_rbehind : Stmt := topS 42
abbrev N_rbehind : List Str := ["row", "comparer", "a", "b", "out"]
abbrev P_rbehind : List Str := ["row", "comparer"]
theorem sc_rbehind : FnScope N_rbehind P_rbehind (defScope s_rbehind) := ⟨rfl, rfl, rfl, by decide +kernel, rfl, by decide +kernel, by decide +kernel⟩
def r_rbehind (K : PySem.W.Frag) : TS :=
  tSeq (tAsg (tVar 1) (gTup K 2 (gCons (gName 2) (gCons (gName 3) (gNil))))) (tSeq (tAsg (tCB (kList K) (tCons (tVar 0) (tNil))) (gName 4)) (tSeq (tIfS (tTest (tOp oGt (tOp (rIxL K) (tVar 0) (tVar 2)) (tOp (rIxL K) (tVar 0) (tVar 3)))) (tSeq (tAsg (tOp (rIxL K) (tVar 0) (tVar 3)) (gSub (tVar 4) (tVar 2) rSetL)) (tAsg (tOp (rIxL K) (tVar 0) (tVar 2)) (gSub (tVar 4) (tVar 3) rSetL))) (tNext)) (tRet (tVar 4))))
/-! ### web_text(lines, comparers): slots 0 lines, 1 comparers, 2 words, 3 a, 4 b -/
abbrev s_webtext : Stmt := topS 45
abbrev N_webtext : List Str := ["lines", "comparers", "words", "a", "b"]
abbrev P_webtext : List Str := ["lines", "comparers"]
theorem sc_webtext : FnScope N_webtext P_webtext (defScope s_webtext) := ⟨rfl, rfl, rfl, by decide +kernel, rfl, by decide +kernel, by decide +kernel⟩
def r_webtext (K : PySem.W.Frag) (E : XK) : TS :=
  tSeq (tDrop (tCalW (sp_needwebV K) (fun cls d _ H => E cls d H) (tCons (tVar 0) (tCons (tVar 1) (tNil))))) (tSeq (tAsg (tLc (iList K (tVar 1)) (gTup K 2 (gCons (gName 3) (gCons (gName 4) (gNil)))) (tYes) (tJoin [tC (.str " "), tFmt (tVar 3), tC (.str "-"), tFmt (tVar 4)]) [3, 4]) (gName 2)) (tRet (tOp oAddS (tJoin [tFmt (tVar 0), tC (.str ":")]) (tBM K "str" (mJoin K) (tC (.str "")) (tCons (tVar 2) (tNil))))))
/-! ### web_of(text): slots 0 text, 1 head, 2 colon, 3 tail, 4 first, 5 words, 6 lines, 7 comparers, 8 word -/
abbrev s_webof : Stmt := topS 46
abbrev N_webof : List Str := ["text", "head", "colon", "tail", "first", "words", "lines", "comparers", "word"]
abbrev P_webof : List Str := ["text"]
theorem sc_webof : FnScope N_webof P_webof (defScope s_webof) := ⟨rfl, rfl, rfl, by decide +kernel, rfl, by decide +kernel, by decide +kernel⟩
def r_webof (K : PySem.W.Frag) (E : XK) : TS :=
  tSeq (tIfS (tTest (tOp rNT (tCB (rTyp K) (tCons (tVar 0) (tNil))) (tC (.ty "str")))) (tRzA (He.ga K "BadText") (fun cls d _ H => E cls d H) (tCons (tC (.str "what is read is no text")) (tNil))) (tNext)) (tSeq (tAsg (tBM K "str" mPart (tVar 0) (tCons (tC (.str ":")) (tNil))) (gTup K 3 (gCons (gName 1) (gCons (gName 2) (gCons (gName 3) (gNil)))))) (tSeq (tAsg (tBM K "str" mSplit (tVar 3) (tCons (tC (.str " ")) (tNil))) (gHead K (gCons (gName 4) (gCons (gName 5) gNil)))) (tSeq (tIfS (tOr (tTest (tOp rNe (tVar 2) (tC (.str ":")))) (tTest (tOp rNe (tVar 4) (tC (.str ""))))) (tRzA (He.ga K "BadText") (fun cls d _ H => E cls d H) (tCons (tC (.str "lines, a colon and a blank ahead of each comparer make a web's text")) (tNil))) (tNext)) (tSeq (tAsg (tCal (sp_number K) (tCons (tVar 1) (tNil))) (gName 6)) (tSeq (tAsg (tLc (iList K (tVar 5)) (gName 8) (tYes) (tCal (sp_pair K) (tCons (tVar 8) (tNil))) [8]) (gName 7)) (tSeq (tTryT K (.ref (He.ga K "BadLines")) (.ref (He.ga K "BadWeb")) (fun W => tDrop (tCalW (sp_needwebV K) W (tCons (tVar 6) (tCons (tVar 7) (tNil))))) (fun a cls d => tRzA (He.ga K "BadText") (fun cls d _ H => E cls d H) (tCons (tC (.str "the text tells no web")) (tNil)))) (tRet (tTup (tCons (tVar 6) (tCons (tVar 7) (tNil)))))))))))
/-! ### _pair(word): slots 0 word, 1 first, 2 _, 3 second -/
abbrev s_pair : Stmt := topS 47
abbrev N_pair : List Str := ["word", "first", "_", "second"]
abbrev P_pair : List Str := ["word"]
theorem sc_pair : FnScope N_pair P_pair (defScope s_pair) := ⟨rfl, rfl, rfl, by decide +kernel, rfl, by decide +kernel, by decide +kernel⟩
def r_pair (K : PySem.W.Frag) : TS :=
  tSeq (tAsg (tBM K "str" mPart (tVar 0) (tCons (tC (.str "-")) (tNil))) (gTup K 3 (gCons (gName 1) (gCons (gName 2) (gCons (gName 3) (gNil)))))) (tRet (tTup (tCons (tCal (sp_number K) (tCons (tVar 1) (tNil))) (tCons (tCal (sp_number K) (tCons (tVar 3) (tNil))) (tNil)))))
/-! ### _number(word): slots 0 word, 1 number -/
abbrev s_number : Stmt := topS 48
abbrev N_number : List Str := ["word", "number"]
abbrev P_number : List Str := ["word"]
theorem sc_number : FnScope N_number P_number (defScope s_number) := ⟨rfl, rfl, rfl, by decide +kernel, rfl, by decide +kernel, by decide +kernel⟩
def r_number_f1 (K : PySem.W.Frag) : TS :=
  tIfS (tTest (tOp rEq (tVar 0) (tCB kStrI (tCons (tVar 1) (tNil))))) (tRet (tVar 1)) (tNext)
def r_number (K : PySem.W.Frag) : TS :=
  tSeq (tFor (iRng1 (tCons (tOp oAdd (tC (.int 10)) (tC (.int 1))) (tNil))) (gName 1) (r_number_f1 K)) (tRet (tC .non))
/-! ### renamed(lines, comparers, order): slots 0 lines, 1 comparers, 2 order, 3 a, 4 b -/
abbrev s_renamed : Stmt := topS 50
abbrev N_renamed : List Str := ["lines", "comparers", "order", "a", "b"]
abbrev P_renamed : List Str := ["lines", "comparers", "order"]
theorem sc_renamed : FnScope N_renamed P_renamed (defScope s_renamed) := ⟨rfl, rfl, rfl, by decide +kernel, rfl, by decide +kernel, by decide +kernel⟩
def r_renamed (K : PySem.W.Frag) : TS :=
  tSeq (tDrop (tCal (sp_needweb K) (tCons (tVar 0) (tCons (tVar 1) (tNil))))) (tSeq (tDrop (tCal (sp_needorder K) (tCons (tVar 0) (tCons (tVar 2) (tNil))))) (tRet (tLc (iList K (tVar 1)) (gTup K 2 (gCons (gName 3) (gCons (gName 4) (gNil)))) (tYes) (tTup (tCons (tOp (rIxL K) (tVar 2) (tVar 3)) (tCons (tOp (rIxL K) (tVar 2) (tVar 4)) (tNil)))) [3, 4])))
/-! ### upside(lines, comparers): slots 0 lines, 1 comparers, 2 a, 3 b -/
abbrev s_upside : Stmt := topS 51
abbrev N_upside : List Str := ["lines", "comparers", "a", "b"]
abbrev P_upside : List Str := ["lines", "comparers"]
theorem sc_upside : FnScope N_upside P_upside (defScope s_upside) := ⟨rfl, rfl, rfl, by decide +kernel, rfl, by decide +kernel, by decide +kernel⟩
def r_upside (K : PySem.W.Frag) : TS :=
  tSeq (tDrop (tCal (sp_needweb K) (tCons (tVar 0) (tCons (tVar 1) (tNil))))) (tRet (tLc (iList K (tVar 1)) (gTup K 2 (gCons (gName 2) (gCons (gName 3) (gNil)))) (tYes) (tTup (tCons (tOp oSub (tOp oSub (tVar 0) (tC (.int 1))) (tVar 3)) (tCons (tOp oSub (tOp oSub (tVar 0) (tC (.int 1))) (tVar 2)) (tNil)))) [2, 3]))
/-! ### straightened(lines, comparers): slots 0 lines, 1 comparers, 2 straight, 3 spots, 4 a, 5 b, 6 low, 7 high -/
abbrev s_straightened : Stmt := topS 52
abbrev N_straightened : List Str := ["lines", "comparers", "straight", "spots", "a", "b", "low", "high"]
abbrev P_straightened : List Str := ["lines", "comparers"]
theorem sc_straightened : FnScope N_straightened P_straightened (defScope s_straightened) := ⟨rfl, rfl, rfl, by decide +kernel, rfl, by decide +kernel, by decide +kernel⟩
def r_straightened_f1 (K : PySem.W.Frag) : TS :=
  tSeq (tAsg (tCB kMin (tCons (tOp (rIxL K) (tVar 3) (tVar 4)) (tCons (tOp (rIxL K) (tVar 3) (tVar 5)) (tNil)))) (gName 6)) (tSeq (tAsg (tCB kMax (tCons (tOp (rIxL K) (tVar 3) (tVar 4)) (tCons (tOp (rIxL K) (tVar 3) (tVar 5)) (tNil)))) (gName 7)) (tSeq (tDrop (tBM K "list" rAppend (tVar 2) (tCons (tTup (tCons (tVar 6) (tCons (tVar 7) (tNil)))) (tNil)))) (tSeq (tAsg (tVar 6) (gSub (tVar 3) (tVar 4) rSetL)) (tAsg (tVar 7) (gSub (tVar 3) (tVar 5) rSetL)))))
def r_straightened (K : PySem.W.Frag) : TS :=
  tSeq (tDrop (tCal (sp_needweb K) (tCons (tVar 0) (tCons (tVar 1) (tNil))))) (tSeq (tAsg (tLst (tNil)) (gName 2)) (tSeq (tAsg (tLstRg (tRg1 (tVar 0))) (gName 3)) (tSeq (tFor (iList K (tVar 1)) (gTup K 2 (gCons (gName 4) (gCons (gName 5) (gNil)))) (r_straightened_f1 K)) (tRet (tTup (tCons (tVar 2) (tCons (tVar 3) (tNil))))))))
/-! ### _need_order(lines, order): slots 0 lines, 1 order, 2 whole, 3 line -/
abbrev s_needorder : Stmt := topS 53
abbrev N_needorder : List Str := ["lines", "order", "whole", "line"]
abbrev P_needorder : List Str := ["lines", "order"]
theorem sc_needorder : FnScope N_needorder P_needorder (defScope s_needorder) := ⟨rfl, rfl, rfl, by decide +kernel, rfl, by decide +kernel, by decide +kernel⟩
def r_needorder (K : PySem.W.Frag) : TS :=
  tSeq (tAsg (tAndV (tOp rIsTyB (tCB (rTyp K) (tCons (tVar 1) (tNil))) (tC (.ty "list"))) (tCB (rAll K) (tCons (tLc (iList K (tVar 1)) (gName 3) (tYes) (tCal (sp_iswhole K) (tCons (tVar 3) (tNil))) [3]) (tNil)))) (gName 2)) (tIfS (tOr (tNot (tB (tVar 2))) (tTest (tOp (rNeD K) (tCB (rSortedI K) (tCons (tVar 1) (tNil))) (tLstRg (tRg1 (tVar 0)))))) (tOff) (tNext))
/-! ### _law_draw(_law_cell, _law_k, _law_j): slots 0 _law_cell, 1 _law_k, 2 _law_j, 3 _law_more -/
abbrev s_ldraw : Stmt := topS 55
abbrev N_ldraw : List Str := ["_law_cell", "_law_k", "_law_j", "_law_more"]
abbrev P_ldraw : List Str := ["_law_cell", "_law_k", "_law_j"]
theorem sc_ldraw : FnScope N_ldraw P_ldraw (defScope s_ldraw) := ⟨rfl, rfl, rfl, by decide +kernel, rfl, by decide +kernel, by decide +kernel⟩
def r_ldraw (K : PySem.W.Frag) : TS :=
  tSeq (tAsg (tOp oAdd (tOp oMul (tOp oMul (tOp oAdd (tVar 1) (tC (.int 3))) (tOp oAdd (tVar 1) (tC (.int 3)))) (tC (.int 40692))) (tOp oMul (tOp oMul (tOp oAdd (tVar 2) (tC (.int 7))) (tOp oAdd (tVar 2) (tC (.int 7)))) (tC (.int 69621)))) (gName 3)) (tRet (tOp oDiv (tOp oMod (tOp oMul (tOp oMod (tOp oAdd (tOp oMul (tOp oMod (tVar 0) (tC (.int 2147483629))) (tC (.int 48271))) (tVar 3)) (tC (.int 2147483647))) (tC (.int 16807))) (tC (.int 2147483629))) (tC (.int 3))))
/-! ### _law_bricks(_law_lines): slots 0 _law_lines, 1 _law_found, 2 _law_turn, 3 _law_k -/
abbrev s_lbricks : Stmt := topS 56
abbrev N_lbricks : List Str := ["_law_lines", "_law_found", "_law_turn", "_law_k"]
abbrev P_lbricks : List Str := ["_law_lines"]
theorem sc_lbricks : FnScope N_lbricks P_lbricks (defScope s_lbricks) := ⟨rfl, rfl, rfl, by decide +kernel, rfl, by decide +kernel, by decide +kernel⟩
def r_lbricks_f1 (K : PySem.W.Frag) : TS :=
  tAsg (tOp rCat (tVar 1) (tLc (iRng3 (tCons (tOp oMod (tVar 2) (tC (.int 2))) (tCons (tOp oSub (tVar 0) (tC (.int 1))) (tCons (tC (.int 2)) (tNil))))) (gName 3) (tYes) (tTup (tCons (tVar 3) (tCons (tOp oAdd (tVar 3) (tC (.int 1))) (tNil)))) [3])) (gName 1)
def r_lbricks (K : PySem.W.Frag) : TS :=
  tSeq (tAsg (tLst (tNil)) (gName 1)) (tSeq (tFor (iRng1 (tCons (tVar 0) (tNil))) (gName 2) (r_lbricks_f1 K)) (tRet (tVar 1)))
/-! ### _law_comparer(_law_n, _law_lines): slots 0 _law_n, 1 _law_lines, 2 _law_a, 3 _law_b -/
abbrev s_lcomparer : Stmt := topS 57
abbrev N_lcomparer : List Str := ["_law_n", "_law_lines", "_law_a", "_law_b"]
abbrev P_lcomparer : List Str := ["_law_n", "_law_lines"]
theorem sc_lcomparer : FnScope N_lcomparer P_lcomparer (defScope s_lcomparer) := ⟨rfl, rfl, rfl, by decide +kernel, rfl, by decide +kernel, by decide +kernel⟩
def r_lcomparer (K : PySem.W.Frag) : TS :=
  tSeq (tAsg (tOp oMod (tVar 0) (tVar 1)) (gName 2)) (tSeq (tAsg (tOp oMod (tOp oAdd (tOp oAdd (tVar 2) (tC (.int 1))) (tOp oMod (tOp oDiv (tVar 0) (tC (.int 10))) (tOp oSub (tVar 1) (tC (.int 1))))) (tVar 1)) (gName 3)) (tRet (tIf (tTest (tOp oGt (tOp oMod (tOp oDiv (tVar 0) (tC (.int 100))) (tC (.int 3))) (tC (.int 0)))) (tTup (tCons (tCB kMin (tCons (tVar 2) (tCons (tVar 3) (tNil)))) (tCons (tCB kMax (tCons (tVar 2) (tCons (tVar 3) (tNil)))) (tNil)))) (tTup (tCons (tVar 2) (tCons (tVar 3) (tNil)))))))
/-! ### _law_web(_law_script): slots 0 _law_script, 1 _law_cells, 2 _law_n, 3 _law_lines, 4 _law_k, 5 _law_cell, 6 _law_found, 7 _law_more, 8 _law_at -/
abbrev s_lweb : Stmt := topS 58
abbrev N_lweb : List Str := ["_law_script", "_law_cells", "_law_n", "_law_lines", "_law_k", "_law_cell", "_law_found", "_law_more", "_law_at"]
abbrev P_lweb : List Str := ["_law_script"]
theorem sc_lweb : FnScope N_lweb P_lweb (defScope s_lweb) := ⟨rfl, rfl, rfl, by decide +kernel, rfl, by decide +kernel, by decide +kernel⟩
def r_lweb_e1 (K : PySem.W.Frag) : TS :=
  tIfS (tAnd (tTest (tOp rEq (tOp oMod (tVar 7) (tC (.int 12))) (tC (.int 4)))) (tTest (tOp oLt (tVar 8) (tCB (kLen K) (tCons (tVar 6) (tNil)))))) (tAsg (tTurn K (tOp (rIxL K) (tVar 6) (tVar 8))) (gSub (tVar 6) (tVar 8) rSetL)) (tNext)
def r_lweb_e2 (K : PySem.W.Frag) : TS :=
  tIfS (tAnd (tTest (tOp oLt (tOp oMod (tVar 7) (tC (.int 12))) (tC (.int 4)))) (tTest (tOp oLt (tCB (kLen K) (tCons (tVar 6) (tNil))) (tC (.int 60))))) (tDrop (tBM K "list" rInsert (tVar 6) (tCons (tVar 8) (tCons (tCal (sp_lcomparer K) (tCons (tOp oDiv (tVar 7) (tC (.int 1000))) (tCons (tVar 3) (tNil)))) (tNil))))) (r_lweb_e1 K)
def r_lweb_f1 (K : PySem.W.Frag) : TS :=
  tSeq (tAsg (tCal (sp_ldraw K) (tCons (tVar 5) (tCons (tVar 4) (tCons (tC (.int 3)) (tNil))))) (gName 7)) (tSeq (tAsg (tOp oMod (tOp oDiv (tVar 7) (tC (.int 12))) (tOp oAdd (tCB (kLen K) (tCons (tVar 6) (tNil))) (tC (.int 1)))) (gName 8)) (tIfS (tAnd (tTest (tOp oLt (tOp oMod (tVar 7) (tC (.int 12))) (tC (.int 2)))) (tTest (tOp oLt (tVar 8) (tCB (kLen K) (tCons (tVar 6) (tNil)))))) (tDrop (tBM K "list" rPopAt (tVar 6) (tCons (tVar 8) (tNil)))) (r_lweb_e2 K)))
def r_lweb (K : PySem.W.Frag) : TS :=
  tSeq (tAsg (tSl (rSlL K) (tVar 0) (tNoPart) (tPart (tC (.int 40)))) (gName 1)) (tSeq (tAsg (tCal (sp_ldraw K) (tCons (tCB (rSum K) (tCons (tSl (rSlL K) (tVar 1) (tNoPart) (tPart (tC (.int 3)))) (tNil))) (tCons (tCB (kLen K) (tCons (tVar 1) (tNil))) (tCons (tC (.int 1)) (tNil))))) (gName 2)) (tSeq (tAsg (tOp (rIxL K) (tLst (tCons (tOp oAdd (tC (.int 2)) (tOp oMod (tOp oDiv (tVar 2) (tC (.int 8))) (tC (.int 5)))) (tCons (tOp oAdd (tC (.int 3)) (tOp oMod (tOp oDiv (tVar 2) (tC (.int 8))) (tC (.int 3)))) (tCons (tOp oAdd (tC (.int 1)) (tOp oMod (tOp oDiv (tVar 2) (tC (.int 8))) (tC (.int 7)))) (tCons (tC (.int 4)) (tNil)))))) (tOp oMod (tVar 2) (tC (.int 4)))) (gName 3)) (tSeq (tIfS (tTest (tOp rEq (tVar 3) (tC (.int 1)))) (tRet (tTup (tCons (tC (.int 1)) (tCons (tLst (tNil)) (tNil))))) (tNext)) (tSeq (tIfS (tTest (tOp rEq (tOp oMod (tOp oDiv (tVar 2) (tC (.int 64))) (tC (.int 2))) (tC (.int 0)))) (tRet (tTup (tCons (tVar 3) (tCons (tLc (iEnum K (tCons (tVar 1) (tNil))) (gTup K 2 (gCons (gName 4) (gCons (gName 5) (gNil)))) (tYes) (tCal (sp_lcomparer K) (tCons (tCal (sp_ldraw K) (tCons (tVar 5) (tCons (tVar 4) (tCons (tC (.int 2)) (tNil))))) (tCons (tVar 3) (tNil)))) [4, 5]) (tNil))))) (tNext)) (tSeq (tAsg (tCal (sp_lbricks K) (tCons (tVar 3) (tNil))) (gName 6)) (tSeq (tFor (iEnum K (tCons (tVar 1) (tNil))) (gTup K 2 (gCons (gName 4) (gCons (gName 5) (gNil)))) (r_lweb_f1 K)) (tRet (tTup (tCons (tVar 3) (tCons (tVar 6) (tNil)))))))))))
/-! ### _law_gone(_law_comparers, _law_row): slots 0 _law_comparers, 1 _law_row, 2 _law_found, 3 _law_a, 4 _law_b -/
abbrev s_lgone : Stmt := topS 59
abbrev N_lgone : List Str := ["_law_comparers", "_law_row", "_law_found", "_law_a", "_law_b"]
abbrev P_lgone : List Str := ["_law_comparers", "_law_row"]
theorem sc_lgone : FnScope N_lgone P_lgone (defScope s_lgone) := ⟨rfl, rfl, rfl, by decide +kernel, rfl, by decide +kernel, by decide +kernel⟩
def r_lgone_f1 (K : PySem.W.Frag) : TS :=
  tAsg (tTup (tCons (tCB kMin (tCons (tOp (rIxL K) (tVar 2) (tVar 3)) (tCons (tOp (rIxL K) (tVar 2) (tVar 4)) (tNil)))) (tCons (tCB kMax (tCons (tOp (rIxL K) (tVar 2) (tVar 3)) (tCons (tOp (rIxL K) (tVar 2) (tVar 4)) (tNil)))) (tNil)))) (gTup K 2 (gCons (gSub (tVar 2) (tVar 3) rSetL) (gCons (gSub (tVar 2) (tVar 4) rSetL) (gNil))))
def r_lgone (K : PySem.W.Frag) : TS :=
  tSeq (tAsg (tCB (kList K) (tCons (tVar 1) (tNil))) (gName 2)) (tSeq (tFor (iList K (tVar 0)) (gTup K 2 (gCons (gName 3) (gCons (gName 4) (gNil)))) (r_lgone_f1 K)) (tRet (tVar 2)))
/-! ### _law_bare(_law_lines): slots 0 _law_lines, 1 _law_n, 2 _law_k -/
abbrev s_lbare : Stmt := topS 60
abbrev N_lbare : List Str := ["_law_lines", "_law_n", "_law_k"]
abbrev P_lbare : List Str := ["_law_lines"]
theorem sc_lbare : FnScope N_lbare P_lbare (defScope s_lbare) := ⟨rfl, rfl, rfl, by decide +kernel, rfl, by decide +kernel, by decide +kernel⟩
def r_lbare (K : PySem.W.Frag) : TS :=
  tRet (tLc (iRng1 (tCons (tOp oShl (tC (.int 1)) (tVar 0)) (tNil))) (gName 1) (tYes) (tLc (iRng1 (tCons (tVar 0) (tNil))) (gName 2) (tYes) (tOp oBAnd (tOp oShr (tVar 1) (tVar 2)) (tC (.int 1))) [2]) [1])
/-! ### _law_is_bare(_law_row, _law_lines): slots 0 _law_row, 1 _law_lines, 2 _law_odd, 3 _law_bit -/
abbrev s_lisbare : Stmt := topS 61
abbrev N_lisbare : List Str := ["_law_row", "_law_lines", "_law_odd", "_law_bit"]
abbrev P_lisbare : List Str := ["_law_row", "_law_lines"]
theorem sc_lisbare : FnScope N_lisbare P_lisbare (defScope s_lisbare) := ⟨rfl, rfl, rfl, by decide +kernel, rfl, by decide +kernel, by decide +kernel⟩
def r_lisbare (K : PySem.W.Frag) : TS :=
  tSeq (tIfS (tOr (tNot (tB (tCB (rIsK K) (tCons (tVar 0) (tCons (tC (.ty "list")) (tNil)))))) (tTest (tOp rNe (tCB (kLen K) (tCons (tVar 0) (tNil))) (tVar 1)))) (tRet (tC (.bl false))) (tNext)) (tSeq (tAsg (tLc (iList K (tVar 0)) (gName 3) (tOr (tB (tCB (rIsK K) (tCons (tVar 3) (tCons (tC (.ty "bool")) (tNil))))) (tNot (tB (tCB (rIsK K) (tCons (tVar 3) (tCons (tC (.ty "int")) (tNil))))))) (tVar 3) [3]) (gName 2)) (tRet (tAndV (tOp (rEqD K) (tVar 2) (tLst (tNil))) (tOp (rEqD K) (tLc (iList K (tVar 0)) (gName 3) (tTest (tOp (rIn K true) (tVar 3) (tTup (tCons (tC (.int 0)) (tCons (tC (.int 1)) (tNil)))))) (tVar 3) [3]) (tLst (tNil))))))
/-! ### _law_rows(_law_script, _law_lines): slots 0 _law_script, 1 _law_lines, 2 _law_cells, 3 _law_found, 4 _law_at, 5 _law_row, 6 _law_k, 7 _law_cell, 8 _law_n -/
abbrev s_lrows : Stmt := topS 62
abbrev N_lrows : List Str := ["_law_script", "_law_lines", "_law_cells", "_law_found", "_law_at", "_law_row", "_law_k", "_law_cell", "_law_n"]
abbrev P_lrows : List Str := ["_law_script", "_law_lines"]
theorem sc_lrows : FnScope N_lrows P_lrows (defScope s_lrows) := ⟨rfl, rfl, rfl, by decide +kernel, rfl, by decide +kernel, by decide +kernel⟩
def r_lrows_f2 (K : PySem.W.Frag) : TS :=
  tSeq (tAsg (tIf (tTest (tOp (rNeD K) (tVar 2) (tLst (tNil)))) (tOp (rIxL K) (tVar 2) (tOp oMod (tOp oAdd (tVar 4) (tVar 6)) (tCB (kLen K) (tCons (tVar 2) (tNil))))) (tVar 6)) (gName 7)) (tSeq (tAsg (tCal (sp_ldraw K) (tCons (tVar 7) (tCons (tOp oAdd (tVar 4) (tVar 6)) (tCons (tC (.int 9)) (tNil))))) (gName 8)) (tDrop (tBM K "list" rAppend (tVar 5) (tCons (tOp (rIxL K) (tLst (tCons (tOp oMod (tVar 7) (tOp oPow (tC (.int 10)) (tC (.int 60)))) (tCons (tOp oSub (tC (.int 0)) (tOp oMod (tVar 7) (tOp oPow (tC (.int 10)) (tC (.int 60))))) (tCons (tOp oMod (tVar 8) (tC (.int 4))) (tCons (tOp oSub (tOp oMod (tVar 7) (tC (.int 1000))) (tC (.int 500))) (tNil)))))) (tOp oMod (tOp oDiv (tVar 8) (tC (.int 8))) (tC (.int 4)))) (tNil)))))
def r_lrows_f1 (K : PySem.W.Frag) : TS :=
  tSeq (tAsg (tLst (tNil)) (gName 5)) (tSeq (tFor (iRng1 (tCons (tVar 1) (tNil))) (gName 6) (r_lrows_f2 K)) (tDrop (tBM K "list" rAppend (tVar 3) (tCons (tVar 5) (tNil)))))
def r_lrows (K : PySem.W.Frag) : TS :=
  tSeq (tAsg (tSl (rSlL K) (tVar 0) (tNoPart) (tPart (tC (.int 63)))) (gName 2)) (tSeq (tAsg (tLst (tNil)) (gName 3)) (tSeq (tFor (iRng3 (tCons (tC (.int 0)) (tCons (tOp oAdd (tCB (kLen K) (tCons (tVar 2) (tNil))) (tVar 1)) (tCons (tVar 1) (tNil))))) (gName 4) (r_lrows_f1 K)) (tRet (tVar 3))))
/-! ### _law_benched(_law_lines, _law_comparers): slots 0 _law_lines, 1 _law_comparers, 2 _law_bench, 3 _law_idle, 4 _law_place, 5 _law_comparer_here -/
abbrev s_lbenched : Stmt := topS 63
abbrev N_lbenched : List Str := ["_law_lines", "_law_comparers", "_law_bench", "_law_idle", "_law_place", "_law_comparer_here"]
abbrev P_lbenched : List Str := ["_law_lines", "_law_comparers"]
theorem sc_lbenched : FnScope N_lbenched P_lbenched (defScope s_lbenched) := ⟨rfl, rfl, rfl, by decide +kernel, rfl, by decide +kernel, by decide +kernel⟩
def r_lbenched_f1 (K : PySem.W.Frag) : TS :=
  tIfS (tNot (tB (tMet K "Bench" "put" (sp_bput K) (tVar 2) (tCons (tVar 5) (tNil))))) (tDrop (tBM K "list" rAppend (tVar 3) (tCons (tVar 4) (tNil)))) (tNext)
def r_lbenched (K : PySem.W.Frag) : TS :=
  tSeq (tAsg (tMk K "Bench" (sp_binit K) (tCons (tVar 0) (tNil))) (gName 2)) (tSeq (tAsg (tLst (tNil)) (gName 3)) (tSeq (tFor (iEnum K (tCons (tVar 1) (tNil))) (gTup K 2 (gCons (gName 4) (gCons (gName 5) (gNil)))) (r_lbenched_f1 K)) (tRet (tTup (tCons (tVar 2) (tCons (tVar 3) (tNil)))))))
/-! ### _law_wild_good(_law_lines, _law_comparers, _law_bench): slots 0 _law_lines, 1 _law_comparers, 2 _law_bench, 3 _law_row, 4 _law_ends, 5 _law_one -/
abbrev s_lwildgood : Stmt := topS 64
abbrev N_lwildgood : List Str := ["_law_lines", "_law_comparers", "_law_bench", "_law_row", "_law_ends", "_law_one"]
abbrev P_lwildgood : List Str := ["_law_lines", "_law_comparers", "_law_bench"]
theorem sc_lwildgood : FnScope N_lwildgood P_lwildgood (defScope s_lwildgood) := ⟨rfl, rfl, rfl, by decide +kernel, rfl, by decide +kernel, by decide +kernel⟩
def r_lwildgood (K : PySem.W.Frag) : TS :=
  tSeq (tAsg (tMet K "Bench" "wild" (sp_bwild K) (tVar 2) (tNil)) (gName 3)) (tSeq (tIfS (tTest (tOp rIsN (tVar 3) (tC .non))) (tRet (tOp rIsN (tCal (sp_unsorted K) (tCons (tVar 0) (tCons (tVar 1) (tNil)))) (tC .non))) (tNext)) (tSeq (tAsg (tLc (iList K (tCal (sp_lbare K) (tCons (tVar 0) (tNil)))) (gName 5) (tYes) (tCal (sp_lgone K) (tCons (tVar 1) (tCons (tVar 5) (tNil)))) [5]) (gName 4)) (tRet (tAndV (tOp rNotN (tCal (sp_unsorted K) (tCons (tVar 0) (tCons (tVar 1) (tNil)))) (tC .non)) (tAndV (tOp (rInD K) (tVar 3) (tVar 4)) (tOp (rNeD K) (tVar 3) (tCB (rSortedI K) (tCons (tVar 3) (tNil)))))))))
/-! ### law(_law_script): slots 0 _law_script, 1 _law_lines, 2 _law_comparers, 3 _law_rows_here, 4 _law_n, 5 _law_order, 6 _law_back, 7 _law_bench, 8 _law_idle, 9 _law_webs, 10 _law_straight, 11 _law_spots, 12 _law_at, 13 _law_row, 14 _law_end, 15 _law_other, 16 _law_k, 17 _law_web_here -/
abbrev s_law : Stmt := topS 65
abbrev N_law : List Str := ["_law_script", "_law_lines", "_law_comparers", "_law_rows_here", "_law_n", "_law_order", "_law_back", "_law_bench", "_law_idle", "_law_webs", "_law_straight", "_law_spots", "_law_at", "_law_row", "_law_end", "_law_other", "_law_k", "_law_web_here"]
abbrev P_law : List Str := ["_law_script"]
theorem sc_law : FnScope N_law P_law (defScope s_law) := ⟨rfl, rfl, rfl, by decide +kernel, rfl, by decide +kernel, by decide +kernel⟩
def r_law_f1 (K : PySem.W.Frag) : TS :=
  tSeq (tAsg (tCal (sp_run K) (tCons (tVar 1) (tCons (tVar 2) (tCons (tVar 13) (tNil))))) (gName 14)) (tSeq (tIfS (tTest (tOp (rNeD K) (tLc (iList K (tVar 9)) (gName 17) (tTest (tOp (rNeD K) (tCal (sp_run K) (tCons (tVar 1) (tCons (tVar 17) (tCons (tVar 13) (tNil))))) (tVar 14))) (tVar 17) [17]) (tLst (tNil)))) (tRet (tC (.bl false))) (tNext)) (tSeq (tAsg (tCal (sp_run K) (tCons (tVar 1) (tCons (tVar 10) (tCons (tVar 13) (tNil))))) (gName 15)) (tSeq (tIfS (tTest (tOp (rNeD K) (tLc (iRng1 (tCons (tVar 1) (tNil))) (gName 16) (tYes) (tOp (rIxL K) (tVar 15) (tOp (rIxL K) (tVar 11) (tVar 16))) [16]) (tVar 14))) (tRet (tC (.bl false))) (tNext)) (tSeq (tIfS (tTest (tOp (rNeD K) (tCal (sp_run K) (tCons (tVar 1) (tCons (tSl (rSlL K) (tVar 2) (tPart (tVar 12)) (tNoPart)) (tCons (tCal (sp_run K) (tCons (tVar 1) (tCons (tSl (rSlL K) (tVar 2) (tNoPart) (tPart (tVar 12))) (tCons (tVar 13) (tNil))))) (tNil))))) (tVar 14))) (tRet (tC (.bl false))) (tNext)) (tIfS (tTest (tOp (rNeD K) (tCal (sp_run K) (tCons (tVar 1) (tCons (tCal (sp_sorting K) (tCons (tVar 1) (tNil))) (tCons (tVar 14) (tNil))))) (tCB (rSortedI K) (tCons (tVar 13) (tNil))))) (tRet (tC (.bl false))) (tNext))))))
def r_law (K : PySem.W.Frag) : TS :=
  tSeq (tAsg (tCal (sp_lweb K) (tCons (tVar 0) (tNil))) (gTup K 2 (gCons (gName 1) (gCons (gName 2) (gNil))))) (tSeq (tAsg (tCal (sp_lrows K) (tCons (tVar 0) (tCons (tVar 1) (tNil)))) (gName 3)) (tSeq (tAsg (tCal (sp_ldraw K) (tCons (tCB (rSum K) (tCons (tSl (rSlL K) (tVar 0) (tNoPart) (tPart (tC (.int 9)))) (tNil))) (tCons (tC (.int 6)) (tCons (tC (.int 120)) (tNil))))) (gName 4)) (tSeq (tAsg (tOp rCat (tSl (rSlL K) (tLstRg (tRg1 (tVar 1))) (tPart (tOp oMod (tVar 4) (tVar 1))) (tNoPart)) (tSl (rSlL K) (tLstRg (tRg1 (tVar 1))) (tNoPart) (tPart (tOp oMod (tVar 4) (tVar 1))))) (gName 5)) (tSeq (tAsg (tLc (iRng1 (tCons (tVar 1) (tNil))) (gName 16) (tYes) (tBM K "list" (rIndex K) (tVar 5) (tCons (tVar 16) (tNil))) [16]) (gName 6)) (tSeq (tAsg (tCal (sp_lbenched K) (tCons (tVar 1) (tCons (tVar 2) (tNil)))) (gTup K 2 (gCons (gName 7) (gCons (gName 8) (gNil))))) (tSeq (tIfS (tOr (tTest (tOp (rNeD K) (tVar 8) (tCal (sp_needless K) (tCons (tVar 1) (tCons (tVar 2) (tNil)))))) (tTest (tOp (rNeD K) (tMet K "Bench" "comparers" (sp_bcomps K) (tVar 7) (tNil)) (tVar 2)))) (tRet (tC (.bl false))) (tNext)) (tSeq (tIfS (tNot (tB (tCal (sp_lwildgood K) (tCons (tVar 1) (tCons (tVar 2) (tCons (tVar 7) (tNil))))))) (tRet (tC (.bl false))) (tNext)) (tSeq (tAsg (tLst (tCons (tOp (rIxT K) (tCal (quiet (sp_webof K)) (tCons (tCal (quiet (sp_webtext K)) (tCons (tVar 1) (tCons (tVar 2) (tNil)))) (tNil))) (tC (.int 1))) (tCons (tCB (rSumL K) (tCons (tCal (sp_layers K) (tCons (tVar 1) (tCons (tVar 2) (tNil)))) (tCons (tLst (tNil)) (tNil)))) (tNil)))) (gName 9)) (tSeq (tAsg (tOp rCat (tVar 9) (tLst (tCons (tCal (sp_pruned K) (tCons (tVar 1) (tCons (tVar 2) (tNil)))) (tCons (tCal (sp_upside K) (tCons (tVar 1) (tCons (tCal (sp_upside K) (tCons (tVar 1) (tCons (tVar 2) (tNil)))) (tNil)))) (tNil))))) (gName 9)) (tSeq (tDrop (tBM K "list" rAppend (tVar 9) (tCons (tMet K "Bench" "comparers" (sp_bcomps K) (tVar 7) (tNil)) (tNil)))) (tSeq (tDrop (tBM K "list" rAppend (tVar 9) (tCons (tCal (sp_renamed K) (tCons (tVar 1) (tCons (tCal (sp_renamed K) (tCons (tVar 1) (tCons (tVar 2) (tCons (tVar 5) (tNil))))) (tCons (tVar 6) (tNil))))) (tNil)))) (tSeq (tAsg (tCal (sp_straightened K) (tCons (tVar 1) (tCons (tVar 2) (tNil)))) (gTup K 2 (gCons (gName 10) (gCons (gName 11) (gNil))))) (tSeq (tAsg (tOp oMod (tOp oDiv (tVar 4) (tC (.int 20))) (tOp oAdd (tCB (kLen K) (tCons (tVar 2) (tNil))) (tC (.int 1)))) (gName 12)) (tSeq (tFor (iList K (tVar 3)) (gName 13) (r_law_f1 K)) (tRet (tC (.bl true)))))))))))))))))
/-! ### BadWeb.__init__ -/
abbrev s_initBadWeb : Stmt := memS (topS 7) 0
abbrev N_initBadWeb : List Str := ["self", "place"]
theorem sc_initBadWeb : FnScope N_initBadWeb N_initBadWeb (defScope s_initBadWeb) := ⟨rfl, rfl, rfl, by decide +kernel, rfl, by decide +kernel, by decide +kernel⟩
section
variable {P : Program} {w : World} {K : PySem.W.Frag} {mg : Str → Option Value} {base : Heap}
theorem ok_iswhole (h : Here K mg "is_whole" s_iswhole) (b_int : mg "int" = none) (b_type : mg "type" = none)
    (len : ∀ vs H Q E, sp_iswhole K vs H Q E → vs.length = P_iswhole.length)
    (rd : ∀ (vs : List V) (H : Hp) (Q : VK) (E : XK), sp_iswhole K vs H Q E → r_iswhole K { nx := fun _ H' => Q .non H', rt := Q } (start N_iswhole vs) H) :
    Cal P w K mg base CX0 1 "is_whole" P_iswhole (sp_iswhole K) := by
  exact h.cal sc_iswhole len (fun _ _ _ _ _ _ us hl => match us, hl with | [_], _ => rfl)
    (fun f cdv A outer s H E hr => (show PSs _ _ _ from (pss_one (ps_ret (pe_cmpR op_isTyB (pe_callTy call_type1 (by rfl) b_type (by decide +kernel) (pa_cons (pv 0) pa_nil)) (pe_bltn (v := .ty "int") (by rfl) b_int (by decide +kernel) rfl) (nomark _)))))) rd
theorem ok_iscomparer (h : Here K mg "is_comparer" s_iscomparer) (C_isline : Cal P w K mg base CX0 2 "_is_line" ["lines", "value"] (sp_isline K)) (b_len : mg "len" = none) (b_tuple : mg "tuple" = none) (b_type : mg "type" = none)
    (len : ∀ vs H Q E, sp_iscomparerV K vs H Q E → vs.length = P_iscomparer.length)
    (rd : ∀ (vs : List V) (H : Hp) (Q : VK) (E : XK), sp_iscomparerV K vs H Q E → r_iscomparer K { nx := fun _ H' => Q .non H', rt := Q } (start N_iscomparer vs) H) :
    Cal P w K mg base CX0 3 "is_comparer" P_iscomparer (sp_iscomparerV K) := by
  exact h.cal sc_iscomparer len (fun _ _ _ _ _ _ us hl => match us, hl with | [_, _], _ => rfl)
    (fun f cdv A outer s H E hr => (show PSs _ _ _ from (pss_cons (ps_if (pw_or (pt_cmpR op_notTyB (pe_callTy call_type1 (by rfl) b_type (by decide +kernel) (pa_cons (pv 1) pa_nil)) (pe_bltn (v := .ty "tuple") (by rfl) b_tuple (by decide +kernel) rfl) (nomark _)) (pw_or1 (pt_cmpR op_ne (pe_callB cl_len (by rfl) b_len PySem.boot_len (pa_cons (pv 1) pa_nil)) pe_int (nomark _)))).pt (pss_one (ps_ret pe_bl)) pss_nil) (pss_cons (ps_asg (pv 1) (pg_tup rfl (pgs_cons (pg_name (i := 2) sc_iscomparer.nd rfl (Or.inl rfl)) (pgs_cons (pg_name (i := 3) sc_iscomparer.nd rfl (Or.inl rfl)) pgs_nil)))) (pss_one (ps_ret (pe_and (pe_cal C_isline (hr.mono (by decide)) (by rfl) (pa_cons (pv 0) (pa_cons (pv 2) pa_nil))) (pe_and (pe_cal C_isline (hr.mono (by decide)) (by rfl) (pa_cons (pv 0) (pa_cons (pv 3) pa_nil))) (pe_one (pe_cmpR op_ne (pv 2) (pv 3) (nomark _))))))))))) rd
theorem ok_isline (h : Here K mg "_is_line" s_isline) (C_iswhole : Cal P w K mg base CX0 1 "is_whole" ["value"] (sp_iswhole K))
    (len : ∀ vs H Q E, sp_isline K vs H Q E → vs.length = P_isline.length)
    (rd : ∀ (vs : List V) (H : Hp) (Q : VK) (E : XK), sp_isline K vs H Q E → r_isline K { nx := fun _ H' => Q .non H', rt := Q } (start N_isline vs) H) :
    Cal P w K mg base CX0 2 "_is_line" P_isline (sp_isline K) := by
  exact h.cal sc_isline len (fun _ _ _ _ _ _ us hl => match us, hl with | [_, _], _ => rfl)
    (fun f cdv A outer s H E hr => (show PSs _ _ _ from (pss_one (ps_ret (pe_and (pe_cal C_iswhole (hr.mono (by decide)) (by rfl) (pa_cons (pv 1) pa_nil)) (pe_one (pe_chain op_le op_lt pe_int (pv 1) (pv 0)))))))) rd
theorem ok_needlines (h : Here K mg "need_lines" s_needlines) (C_iswhole : Cal P w K mg base CX0 1 "is_whole" ["value"] (sp_iswhole K)) (c_MOST_LINES : ∃ t, mg "MOST_LINES" = some (.int 10 t)) (X_BadLines : ExK K mg "BadLines")
    (len : ∀ vs H Q E, sp_needlinesV K vs H Q E → vs.length = P_needlines.length)
    (rd : ∀ (vs : List V) (H : Hp) (Q : VK) (E : XK), sp_needlinesV K vs H Q E → r_needlines K E { nx := fun _ H' => Q .non H', rt := Q } (start N_needlines vs) H) :
    Cal P w K mg base (L2N.CX P w) 2 "need_lines" P_needlines (sp_needlinesV K) := by
  exact h.calN (r := fun E => r_needlines K E) sc_needlines len (fun _ _ _ _ _ _ us hl => match us, hl with | [_], _ => rfl)
    (fun f cdv A outer s H E hr => (show PSs _ _ _ from (pss_one (ps_if (pw_or (pt_not (pt_val (pe_cal C_iswhole (hr.mono (by decide)) (by rfl) (pa_cons (pv 0) pa_nil)))) (pw_or1 (pt_not (pt_chain op_le op_le pe_int (pv 0) (pe_gi c_MOST_LINES (by rfl)))))).pt (pss_one (ps_rzAN rfl (L2N.takes_of rfl rfl rfl rfl) X_BadLines (by rfl) (pa_cons (pe_joined (.cons pe_str (.cons (pe_fmt (pe_gi c_MOST_LINES (by rfl))) .nil))) pa_nil))) pss_nil)))) rd
theorem ok_needweb (h : Here K mg "need_web" s_needweb) (C_iscomparerV : Cal P w K mg base CX0 3 "is_comparer" ["lines", "value"] (sp_iscomparerV K)) (C_needlinesV : Cal P w K mg base (L2N.CX P w) 2 "need_lines" ["lines"] (sp_needlinesV K)) (b_enumerate : mg "enumerate" = none) (b_len : mg "len" = none) (b_list : mg "list" = none) (b_type : mg "type" = none) (c_MOST_COMPARERS : ∃ t, mg "MOST_COMPARERS" = some (.int 60 t)) (O_BadWeb : OwK K mg "BadWeb" "place") (I_BadWeb : InitOk P w K mg base 1 "BadWeb" "place")
    (len : ∀ vs H Q E, sp_needwebV K vs H Q E → vs.length = P_needweb.length)
    (rd : ∀ (vs : List V) (H : Hp) (Q : VK) (E : XK), sp_needwebV K vs H Q E → r_needweb K E { nx := fun _ H' => Q .non H', rt := Q } (start N_needweb vs) H) :
    Cal P w K mg base (L2N.CX P w) 4 "need_web" P_needweb (sp_needwebV K) := by
  obtain ⟨fd_BadWeb, F_BadWeb, B_BadWeb⟩ := I_BadWeb
  exact h.calN (r := fun E => r_needweb K E) sc_needweb len (fun _ _ _ _ _ _ us hl => match us, hl with | [_, _], _ => rfl)
    (fun f cdv A outer s H E hr => (show PSs _ _ _ from (pss_cons (ps_expr (pe_calN C_needlinesV (hr.mono (by decide)) (L2N.takes_of rfl rfl rfl rfl) (by rfl) (pa_cons (pv 0) pa_nil))) (pss_cons (ps_if (pw_or (pt_cmpR op_notTyB (pe_callTy call_type1 (by rfl) b_type (by decide +kernel) (pa_cons (pv 1) pa_nil)) (pe_bltn (v := .ty "list") (by rfl) b_list (by decide +kernel) rfl) (nomark _)) (pw_or1 (pt_cmpR op_gt (pe_callB cl_len (by rfl) b_len PySem.boot_len (pa_cons (pv 1) pa_nil)) (pe_gi c_MOST_COMPARERS (by rfl)) (nomark _)))).pt (pss_one (ps_rzON rfl (L2N.takes_of rfl rfl rfl rfl) O_BadWeb F_BadWeb B_BadWeb (hr.mono (by decide)) (by rfl) (pa_cons pe_non pa_nil))) pss_nil) (pss_one (ps_for (passes_of rfl) rfl (pi_enum (by rfl) b_enumerate (pa_cons (pv 1) pa_nil)) (pg_tup rfl (pgs_cons (pg_name (i := 2) sc_needweb.nd rfl (Or.inl rfl)) (pgs_cons (pg_name (i := 3) sc_needweb.nd rfl (Or.inl rfl)) pgs_nil))) (pss_one (ps_if (pt_not (pt_val (pe_cal C_iscomparerV (hr.mono (by decide)) (by rfl) (pa_cons (pv 0) (pa_cons (pv 3) pa_nil))))) (pss_one (ps_rzON rfl (L2N.takes_of rfl rfl rfl rfl) O_BadWeb F_BadWeb B_BadWeb (hr.mono (by decide)) (by rfl) (pa_cons (pv 2) pa_nil))) pss_nil)))))))) rd
theorem ok_needrow (h : Here K mg "need_row" s_needrow) (C_iswhole : Cal P w K mg base CX0 1 "is_whole" ["value"] (sp_iswhole K)) (b_all : mg "all" = none) (b_len : mg "len" = none) (b_list : mg "list" = none) (b_type : mg "type" = none)
    (len : ∀ vs H Q E, sp_needrow K vs H Q E → vs.length = P_needrow.length)
    (rd : ∀ (vs : List V) (H : Hp) (Q : VK) (E : XK), sp_needrow K vs H Q E → r_needrow K { nx := fun _ H' => Q .non H', rt := Q } (start N_needrow vs) H) :
    Cal P w K mg base CX0 2 "need_row" P_needrow (sp_needrow K) := by
  exact h.cal sc_needrow len (fun _ _ _ _ _ _ us hl => match us, hl with | [_, _], _ => rfl)
    (fun f cdv A outer s H E hr => (show PSs _ _ _ from (pss_cons (ps_if (pw_or (pt_not (pt_val (pe_cal C_iswhole (hr.mono (by decide)) (by rfl) (pa_cons (pv 0) pa_nil)))) (pw_or (pt_cmpR op_notTyB (pe_callTy call_type1 (by rfl) b_type (by decide +kernel) (pa_cons (pv 1) pa_nil)) (pe_bltn (v := .ty "list") (by rfl) b_list (by decide +kernel) rfl) (nomark _)) (pw_or1 (pt_cmpR op_ne (pe_callB cl_len (by rfl) b_len PySem.boot_len (pa_cons (pv 1) pa_nil)) (pv 0) (nomark _))))).pt (pss_one ps_off) pss_nil) (pss_one (ps_if (pt_not (pt_val (pe_callB (cr_all rfl) (by rfl) b_all (by decide +kernel) (pa_cons (pe_lc (own := [("number", 2)]) rfl sc_needrow.nd (pi_list (pv 1)) (blkOk_by (N := N_needrow) (sc := defScope s_needrow) (by decide +kernel)) (fun _ _ _ _ _ => (pg_name (i := 2) sc_needrow.nd rfl (Or.inl rfl))) (fun _ _ _ _ _ => pts_nil) (fun _ _ _ _ _ => (pe_cal C_iswhole (hr.mono (by decide)) (by rfl) (pa_cons (pv 2) pa_nil)))) pa_nil)))) (pss_one ps_off) pss_nil))))) rd
theorem ok_layers (h : Here K mg "layers" s_layers) (C_depths : Cal P w K mg base CX0 1 "_depths" ["lines", "comparers"] (sp_depths K)) (C_needweb : Cal P w K mg base CX0 4 "need_web" ["lines", "comparers"] (sp_needweb K)) (b_len : mg "len" = none) (b_zip : mg "zip" = none)
    (len : ∀ vs H Q E, sp_layers K vs H Q E → vs.length = P_layers.length)
    (rd : ∀ (vs : List V) (H : Hp) (Q : VK) (E : XK), sp_layers K vs H Q E → r_layers K { nx := fun _ H' => Q .non H', rt := Q } (start N_layers vs) H) :
    Cal P w K mg base CX0 5 "layers" P_layers (sp_layers K) := by
  exact h.cal sc_layers len (fun _ _ _ _ _ _ us hl => match us, hl with | [_, _], _ => rfl)
    (fun f cdv A outer s H E hr => (show PSs _ _ _ from (pss_cons (ps_expr (pe_cal C_needweb (hr.mono (by decide)) (by rfl) (pa_cons (pv 0) (pa_cons (pv 1) pa_nil)))) (pss_cons (ps_set (i := 2) sc_layers.nd rfl (Or.inl rfl) (pe_lst pa_nil)) (pss_cons (ps_for PassesOwn.never rfl (pi_zip (by rfl) b_zip (pa_cons (pv 1) (pa_cons (pe_cal C_depths (hr.mono (by decide)) (by rfl) (pa_cons (pv 0) (pa_cons (pv 1) pa_nil))) pa_nil))) (pg_tup rfl (pgs_cons (pg_name (i := 3) sc_layers.nd rfl (Or.inl rfl)) (pgs_cons (pg_name (i := 4) sc_layers.nd rfl (Or.inl rfl)) pgs_nil))) (pss_cons (ps_if (pt_cmpR op_eq (pv 4) (pe_callB cl_len (by rfl) b_len PySem.boot_len (pa_cons (pv 2) pa_nil)) (nomark _)) (pss_one (ps_expr (pe_bm PySem.F.plainAttrs_list PySem.F.slot_list_append PySem.F.type_list_append md_append (pv 2) (pa_cons (pe_lst pa_nil) pa_nil)))) pss_nil) (pss_one (ps_expr (pe_bm PySem.F.plainAttrs_list PySem.F.slot_list_append PySem.F.type_list_append md_append (pe_ix ix_list (pv 2) (pv 4) (fun _ _ => rfl)) (pa_cons (pv 3) pa_nil)))))) (pss_one (ps_ret (pv 2)))))))) rd
theorem ok_depths (h : Here K mg "_depths" s_depths) (b_max : mg "max" = none)
    (len : ∀ vs H Q E, sp_depths K vs H Q E → vs.length = P_depths.length)
    (rd : ∀ (vs : List V) (H : Hp) (Q : VK) (E : XK), sp_depths K vs H Q E → r_depths K { nx := fun _ H' => Q .non H', rt := Q } (start N_depths vs) H) :
    Cal P w K mg base CX0 1 "_depths" P_depths (sp_depths K) := by
  exact h.cal sc_depths len (fun _ _ _ _ _ _ us hl => match us, hl with | [_, _], _ => rfl)
    (fun f cdv A outer s H E hr => (show PSs _ _ _ from (pss_cons (ps_set (i := 2) sc_depths.nd rfl (Or.inl rfl) (pe_lst pa_nil)) (pss_cons (ps_set (i := 3) sc_depths.nd rfl (Or.inl rfl) (pe_op op_rep (pe_lst (pa_cons pe_int pa_nil)) (pv 0))) (pss_cons (ps_for PassesOwn.never rfl (pi_list (pv 1)) (pg_tup rfl (pgs_cons (pg_name (i := 4) sc_depths.nd rfl (Or.inl rfl)) (pgs_cons (pg_name (i := 5) sc_depths.nd rfl (Or.inl rfl)) pgs_nil))) (pss_cons (ps_set (i := 6) sc_depths.nd rfl (Or.inl rfl) (pe_callB (cl_max rfl) (by rfl) b_max (by decide +kernel) (pa_cons (pe_ix ix_list (pv 3) (pv 4) (fun _ _ => rfl)) (pa_cons (pe_ix ix_list (pv 3) (pv 5) (fun _ _ => rfl)) pa_nil)))) (pss_cons (ps_expr (pe_bm PySem.F.plainAttrs_list PySem.F.slot_list_append PySem.F.type_list_append md_append (pv 2) (pa_cons (pv 6) pa_nil))) (pss_cons (ps_asg (pe_op op_add (pv 6) pe_int) (pg_sub (pv 3) (pv 4) set_list)) (pss_one (ps_asg (pe_op op_add (pv 6) pe_int) (pg_sub (pv 3) (pv 5) set_list))))))) (pss_one (ps_ret (pv 2)))))))) rd
theorem ok_allcolumns (h : Here K mg "all_columns" s_allcolumns) (b_range : mg "range" = none)
    (len : ∀ vs H Q E, sp_allcolumns K vs H Q E → vs.length = P_allcolumns.length)
    (rd : ∀ (vs : List V) (H : Hp) (Q : VK) (E : XK), sp_allcolumns K vs H Q E → r_allcolumns K { nx := fun _ H' => Q .non H', rt := Q } (start N_allcolumns vs) H) :
    Cal P w K mg base CX0 1 "all_columns" P_allcolumns (sp_allcolumns K) := by
  exact h.cal sc_allcolumns len (fun _ _ _ _ _ _ us hl => match us, hl with | [_], _ => rfl)
    (fun f cdv A outer s H E hr => (show PSs _ _ _ from (pss_cons (ps_set (i := 1) sc_allcolumns.nd rfl (Or.inl rfl) (pe_lst pa_nil)) (pss_cons (ps_set (i := 2) sc_allcolumns.nd rfl (Or.inr rfl) pe_int) (pss_cons (ps_for PassesOwn.never rfl (pi_range1 (by rfl) b_range (pa_cons (pv 0) pa_nil)) (pg_name (i := 3) sc_allcolumns.nd rfl (Or.inl rfl)) (pss_cons (ps_setLc (i := 1) (own := [("column", 4)]) rfl sc_allcolumns.nd rfl rfl (sw_true rfl rfl rfl (by decide +kernel)) (pi_list (pv 1)) (blkOk_by (N := N_allcolumns) (sc := defScope s_allcolumns) (by decide +kernel)) (fun _ _ _ _ _ => (pg_name (i := 4) sc_allcolumns.nd rfl (Or.inl rfl))) (fun _ _ _ _ _ => pts_nil) (fun _ _ _ _ _ => (pe_op op_or (pv 4) (pe_op op_shlW (pv 4) (pv 2))))) (pss_cons (ps_expr (pe_bm PySem.F.plainAttrs_list PySem.F.slot_list_append PySem.F.type_list_append md_append (pv 1) (pa_cons (pe_op op_shlW (pe_op op_sub (pe_op op_shlW pe_int (pv 2)) pe_int) (pv 2)) pa_nil))) (pss_one (ps_set (i := 2) sc_allcolumns.nd rfl (Or.inr rfl) (pe_op op_mul pe_int (pv 2))))))) (pss_one (ps_ret (pv 1)))))))) rd
theorem ok_greater (h : Here K mg "greater" s_greater) 
    (len : ∀ vs H Q E, sp_greater K vs H Q E → vs.length = P_greater.length)
    (rd : ∀ (vs : List V) (H : Hp) (Q : VK) (E : XK), sp_greater K vs H Q E → r_greater K { nx := fun _ H' => Q .non H', rt := Q } (start N_greater vs) H) :
    Cal P w K mg base CX0 1 "greater" P_greater (sp_greater K) := by
  exact h.cal sc_greater len (fun _ _ _ _ _ _ us hl => match us, hl with | [_, _, _], _ => rfl)
    (fun f cdv A outer s H E hr => (show PSs _ _ _ from (pss_one (ps_ret (pe_op op_and (pe_ix ix_list (pv 0) (pv 1) (fun _ _ => rfl)) (pe_un un_inv (pe_ix ix_list (pv 0) (pv 2) (fun _ _ => rfl)))))))) rd
theorem ok_behind (h : Here K mg "behind" s_behind) (b_list : mg "list" = none)
    (len : ∀ vs H Q E, sp_behind K vs H Q E → vs.length = P_behind.length)
    (rd : ∀ (vs : List V) (H : Hp) (Q : VK) (E : XK), sp_behind K vs H Q E → r_behind K { nx := fun _ H' => Q .non H', rt := Q } (start N_behind vs) H) :
    Cal P w K mg base CX0 1 "behind" P_behind (sp_behind K) := by
  exact h.cal sc_behind len (fun _ _ _ _ _ _ us hl => match us, hl with | [_, _], _ => rfl)
    (fun f cdv A outer s H E hr => (show PSs _ _ _ from (pss_cons (ps_asg (pv 1) (pg_tup rfl (pgs_cons (pg_name (i := 2) sc_behind.nd rfl (Or.inl rfl)) (pgs_cons (pg_name (i := 3) sc_behind.nd rfl (Or.inl rfl)) pgs_nil)))) (pss_cons (ps_set (i := 4) sc_behind.nd rfl (Or.inl rfl) (pe_callTy cl_list (by rfl) b_list (by decide +kernel) (pa_cons (pv 0) pa_nil))) (pss_cons (ps_asg (pe_op op_and (pe_ix ix_list (pv 0) (pv 2) (fun _ _ => rfl)) (pe_ix ix_list (pv 0) (pv 3) (fun _ _ => rfl))) (pg_sub (pv 4) (pv 2) set_list)) (pss_cons (ps_asg (pe_op op_or (pe_ix ix_list (pv 0) (pv 2) (fun _ _ => rfl)) (pe_ix ix_list (pv 0) (pv 3) (fun _ _ => rfl))) (pg_sub (pv 4) (pv 3) set_list)) (pss_one (ps_ret (pv 4))))))))) rd
theorem ok_columnsout (h : Here K mg "columns_out" s_columnsout) (C_allcolumns : Cal P w K mg base CX0 1 "all_columns" ["lines"] (sp_allcolumns K)) (C_behind : Cal P w K mg base CX0 1 "behind" ["columns", "comparer"] (sp_behind K))
    (len : ∀ vs H Q E, sp_columnsout K vs H Q E → vs.length = P_columnsout.length)
    (rd : ∀ (vs : List V) (H : Hp) (Q : VK) (E : XK), sp_columnsout K vs H Q E → r_columnsout K { nx := fun _ H' => Q .non H', rt := Q } (start N_columnsout vs) H) :
    Cal P w K mg base CX0 2 "columns_out" P_columnsout (sp_columnsout K) := by
  exact h.cal sc_columnsout len (fun _ _ _ _ _ _ us hl => match us, hl with | [_, _], _ => rfl)
    (fun f cdv A outer s H E hr => (show PSs _ _ _ from (pss_cons (ps_set (i := 2) sc_columnsout.nd rfl (Or.inl rfl) (pe_cal C_allcolumns (hr.mono (by decide)) (by rfl) (pa_cons (pv 0) pa_nil))) (pss_cons (ps_for PassesOwn.never rfl (pi_list (pv 1)) (pg_name (i := 3) sc_columnsout.nd rfl (Or.inl rfl)) (pss_one (ps_set (i := 2) sc_columnsout.nd rfl (Or.inl rfl) (pe_cal C_behind (hr.mono (by decide)) (by rfl) (pa_cons (pv 2) (pa_cons (pv 3) pa_nil)))))) (pss_one (ps_ret (pv 2))))))) rd
theorem ok_firstrow (h : Here K mg "first_row" s_firstrow) (C_rowof : Cal P w K mg base CX0 1 "row_of" ["lines", "number"] (sp_rowof K))
    (len : ∀ vs H Q E, sp_firstrow K vs H Q E → vs.length = P_firstrow.length)
    (rd : ∀ (vs : List V) (H : Hp) (Q : VK) (E : XK), sp_firstrow K vs H Q E → r_firstrow K { nx := fun _ H' => Q .non H', rt := Q } (start N_firstrow vs) H) :
    Cal P w K mg base CX0 2 "first_row" P_firstrow (sp_firstrow K) := by
  exact h.cal sc_firstrow len (fun _ _ _ _ _ _ us hl => match us, hl with | [_, _], _ => rfl)
    (fun f cdv A outer s H E hr => (show PSs _ _ _ from (pss_cons (ps_if (pt_cmpR op_eq (pv 1) pe_int (nomark _)) (pss_one (ps_ret pe_non)) pss_nil) (pss_one (ps_ret (pe_cal C_rowof (hr.mono (by decide)) (by rfl) (pa_cons (pv 0) (pa_cons (pe_op op_sub (pe_bits (pe_op op_and (pv 1) (pe_un un_neg (pv 1)))) pe_int) pa_nil)))))))) rd
theorem ok_rowof (h : Here K mg "row_of" s_rowof) (b_range : mg "range" = none)
    (len : ∀ vs H Q E, sp_rowof K vs H Q E → vs.length = P_rowof.length)
    (rd : ∀ (vs : List V) (H : Hp) (Q : VK) (E : XK), sp_rowof K vs H Q E → r_rowof K { nx := fun _ H' => Q .non H', rt := Q } (start N_rowof vs) H) :
    Cal P w K mg base CX0 1 "row_of" P_rowof (sp_rowof K) := by
  exact h.cal sc_rowof len (fun _ _ _ _ _ _ us hl => match us, hl with | [_, _], _ => rfl)
    (fun f cdv A outer s H E hr => (show PSs _ _ _ from (pss_one (ps_ret (pe_lc (own := [("line", 2)]) rfl sc_rowof.nd (pi_range1 (by rfl) b_range (pa_cons (pv 0) pa_nil)) (blkOk_by (N := N_rowof) (sc := defScope s_rowof) (by decide +kernel)) (fun _ _ _ _ _ => (pg_name (i := 2) sc_rowof.nd rfl (Or.inl rfl))) (fun _ _ _ _ _ => pts_nil) (fun _ _ _ _ _ => (pe_op op_and (pe_op op_shr (pv 1) (pv 2)) pe_int))))))) rd
theorem ok_binit (h : Met K "Bench" "__init__" "Bench.__init__" s_binit) (hM : Mk K (He.ga K "Bench") (He.ma K (He.ga K "Bench") "__init__")) (g : mg "Bench" = some (.ref (He.ga K "Bench"))) (C_needlines : Cal P w K mg base CX0 2 "need_lines" ["lines"] (sp_needlines K)) (b_list : mg "list" = none) (b_range : mg "range" = none)
    (len : ∀ vs H Q E, sp_binit K vs H Q E → vs.length = P_binit.length)
    (rd : ∀ (vs : List V) (H : Hp) (Q : VK) (E : XK), sp_binit K vs H Q E → r_binit K { nx := fun _ H' => Q .non H', rt := Q } (start N_binit vs) H) :
    MkCal P w K mg base CX0 3 "Bench" P_binit (sp_binit K) := by
  exact h.mk hM g sc_binit len (fun _ _ _ _ _ _ us hl => match us, hl with | [_, _], _ => rfl)
    (fun f cdv A outer s H E hr => (show PSs _ _ _ from (pss_cons (ps_expr (pe_cal C_needlines (hr.mono (by decide)) (by rfl) (pa_cons (pv 1) pa_nil))) (pss_cons (ps_fld (pv 0) (pv 1) rfl) (pss_cons (ps_fld (pv 0) (pe_lst pa_nil) rfl) (pss_one (ps_fld (pv 0) (pe_lst (pa_cons (pe_listRg rfl (by rfl) b_list (prg_1 (by rfl) b_range (pe_op op_shl pe_int (pv 1)))) pa_nil)) rfl))))))) rd
theorem ok_bput (h : Met K "Bench" "put" "Bench.put" s_bput) (hM : Meth K (He.ga K "Bench") "put" (He.ma K (He.ga K "Bench") "put")) (T : Cls K (He.ga K "Bench")) (C_bbehind : Cal P w K mg base CX0 1 "behind_bench" ["number", "a", "b"] (sp_bbehind K)) (C_iscomparer : Cal P w K mg base CX0 3 "is_comparer" ["lines", "value"] (sp_iscomparer K)) (b_len : mg "len" = none) (b_sorted : mg "sorted" = none) (c_MOST_COMPARERS : ∃ t, mg "MOST_COMPARERS" = some (.int 60 t))
    (len : ∀ vs H Q E, sp_bput K vs H Q E → vs.length = P_bput.length)
    (rd : ∀ (vs : List V) (H : Hp) (Q : VK) (E : XK), sp_bput K vs H Q E → r_bput K w { nx := fun _ H' => Q .non H', rt := Q } (start N_bput vs) H) :
    MCal P w K mg base CX0 4 "Bench" "put" P_bput (sp_bput K) := by
  exact h.cal hM T sc_bput len (fun _ _ _ _ _ _ us hl => match us, hl with | [_, _], _ => rfl)
    (fun f cdv A outer s H E hr => (show PSs _ _ _ from (pss_cons (ps_if (pw_or (pt_cmpR op_ge (pe_callB cl_len (by rfl) b_len PySem.boot_len (pa_cons (pe_fld (pv 0) rfl) pa_nil)) (pe_gi c_MOST_COMPARERS (by rfl)) (nomark _)) (pw_or1 (pt_not (pt_val (pe_cal C_iscomparer (hr.mono (by decide)) (by rfl) (pa_cons (pe_fld (pv 0) rfl) (pa_cons (pv 1) pa_nil))))))).pt (pss_one ps_off) pss_nil) (pss_cons (ps_asg (pv 1) (pg_tup rfl (pgs_cons (pg_name (i := 2) sc_bput.nd rfl (Or.inr rfl)) (pgs_cons (pg_name (i := 3) sc_bput.nd rfl (Or.inr rfl)) pgs_nil)))) (pss_cons (ps_set (i := 4) sc_bput.nd rfl (Or.inl rfl) (pe_ix ix_list (pe_fld (pv 0) rfl) (pe_un un_neg pe_int) (fun _ _ => rfl))) (pss_cons (ps_set (i := 5) sc_bput.nd rfl (Or.inl rfl) (pe_callB (cr_sortS rfl) (by rfl) b_sorted (by decide +kernel) (pa_cons (pe_setC (own := [("number", 6)]) rfl sc_bput.nd (pi_list (pv 4)) (blkOk_by (N := N_bput) (sc := defScope s_bput) (by decide +kernel)) (fun _ _ _ _ _ => (pg_name (i := 6) sc_bput.nd rfl (Or.inl rfl))) (fun _ _ _ _ _ => (pe_cal C_bbehind (hr.mono (by decide)) (by rfl) (pa_cons (pv 6) (pa_cons (pv 2) (pa_cons (pv 3) pa_nil)))))) pa_nil))) (pss_cons (ps_expr (pe_bm PySem.F.plainAttrs_list PySem.F.slot_list_append PySem.F.type_list_append md_append (pe_fld (pv 0) rfl) (pa_cons (pe_tup (pa_cons (pv 2) (pa_cons (pv 3) pa_nil))) pa_nil))) (pss_cons (ps_expr (pe_bm PySem.F.plainAttrs_list PySem.F.slot_list_append PySem.F.type_list_append md_append (pe_fld (pv 0) rfl) (pa_cons (pv 5) pa_nil))) (pss_one (ps_ret (pe_cmpR (op_neD (hu64 hr)) (pv 5) (pv 4) (nomark _)))))))))))) rd
theorem ok_bcomps (h : Met K "Bench" "comparers" "Bench.comparers" s_bcomps) (hM : Meth K (He.ga K "Bench") "comparers" (He.ma K (He.ga K "Bench") "comparers")) (T : Cls K (He.ga K "Bench")) (b_list : mg "list" = none)
    (len : ∀ vs H Q E, sp_bcomps K vs H Q E → vs.length = P_bcomps.length)
    (rd : ∀ (vs : List V) (H : Hp) (Q : VK) (E : XK), sp_bcomps K vs H Q E → r_bcomps K { nx := fun _ H' => Q .non H', rt := Q } (start N_bcomps vs) H) :
    MCal P w K mg base CX0 1 "Bench" "comparers" P_bcomps (sp_bcomps K) := by
  exact h.cal hM T sc_bcomps len (fun _ _ _ _ _ _ us hl => match us, hl with | [_], _ => rfl)
    (fun f cdv A outer s H E hr => (show PSs _ _ _ from (pss_one (ps_ret (pe_callTy cl_list (by rfl) b_list (by decide +kernel) (pa_cons (pe_fld (pv 0) rfl) pa_nil)))))) rd
theorem ok_bwild (h : Met K "Bench" "wild" "Bench.wild" s_bwild) (hM : Meth K (He.ga K "Bench") "wild" (He.ma K (He.ga K "Bench") "wild")) (T : Cls K (He.ga K "Bench")) (C_rowof : Cal P w K mg base CX0 1 "row_of" ["lines", "number"] (sp_rowof K)) (b_sorted : mg "sorted" = none)
    (len : ∀ vs H Q E, sp_bwild K vs H Q E → vs.length = P_bwild.length)
    (rd : ∀ (vs : List V) (H : Hp) (Q : VK) (E : XK), sp_bwild K vs H Q E → r_bwild K { nx := fun _ H' => Q .non H', rt := Q } (start N_bwild vs) H) :
    MCal P w K mg base CX0 2 "Bench" "wild" P_bwild (sp_bwild K) := by
  exact h.cal hM T sc_bwild len (fun _ _ _ _ _ _ us hl => match us, hl with | [_], _ => rfl)
    (fun f cdv A outer s H E hr => (show PSs _ _ _ from (pss_cons (ps_for PassesOwn.never rfl (pi_list (pe_ix ix_list (pe_fld (pv 0) rfl) (pe_un un_neg pe_int) (fun _ _ => rfl))) (pg_name (i := 1) sc_bwild.nd rfl (Or.inl rfl)) (pss_cons (ps_set (i := 2) sc_bwild.nd rfl (Or.inl rfl) (pe_cal C_rowof (hr.mono (by decide)) (by rfl) (pa_cons (pe_fld (pv 0) rfl) (pa_cons (pv 1) pa_nil)))) (pss_one (ps_if (pt_cmpR (op_neD (hu64 hr)) (pv 2) (pe_callB cr_sortedI (by rfl) b_sorted (by decide +kernel) (pa_cons (pv 2) pa_nil)) (nomark _)) (pss_one (ps_ret (pv 2))) pss_nil)))) (pss_one (ps_ret pe_non))))) rd
theorem ok_bbehind (h : HereA K mg "behind_bench" "_behind" s_bbehind) 
    (len : ∀ vs H Q E, sp_bbehind K vs H Q E → vs.length = P_bbehind.length)
    (rd : ∀ (vs : List V) (H : Hp) (Q : VK) (E : XK), sp_bbehind K vs H Q E → r_bbehind K { nx := fun _ H' => Q .non H', rt := Q } (start N_bbehind vs) H) :
    Cal P w K mg base CX0 1 "behind_bench" P_bbehind (sp_bbehind K) := by
  exact h.cal sc_bbehind len (fun _ _ _ _ _ _ us hl => match us, hl with | [_, _, _], _ => rfl)
    (fun f cdv A outer s H E hr => (show PSs _ _ _ from (pss_cons (ps_if (pt_cmpR op_gt (pe_op op_and (pe_op op_shr (pv 0) (pv 1)) pe_int) (pe_op op_and (pe_op op_shr (pv 0) (pv 2)) pe_int) (nomark _)) (pss_one (ps_ret (pe_op op_xor (pe_op op_xor (pv 0) (pe_op op_shl pe_int (pv 1))) (pe_op op_shl pe_int (pv 2))))) pss_nil) (pss_one (ps_ret (pv 0)))))) rd
theorem ok_unsorted (h : Here K mg "unsorted" s_unsorted) (C_greater : Cal P w K mg base CX0 1 "greater" ["columns", "a", "b"] (sp_greater K)) (C_columnsout : Cal P w K mg base CX0 2 "columns_out" ["lines", "comparers"] (sp_columnsout K)) (C_firstrow : Cal P w K mg base CX0 2 "first_row" ["lines", "rows"] (sp_firstrow K)) (C_needweb : Cal P w K mg base CX0 4 "need_web" ["lines", "comparers"] (sp_needweb K)) (b_range : mg "range" = none)
    (len : ∀ vs H Q E, sp_unsorted K vs H Q E → vs.length = P_unsorted.length)
    (rd : ∀ (vs : List V) (H : Hp) (Q : VK) (E : XK), sp_unsorted K vs H Q E → r_unsorted K { nx := fun _ H' => Q .non H', rt := Q } (start N_unsorted vs) H) :
    Cal P w K mg base CX0 5 "unsorted" P_unsorted (sp_unsorted K) := by
  exact h.cal sc_unsorted len (fun _ _ _ _ _ _ us hl => match us, hl with | [_, _], _ => rfl)
    (fun f cdv A outer s H E hr => (show PSs _ _ _ from (pss_cons (ps_expr (pe_cal C_needweb (hr.mono (by decide)) (by rfl) (pa_cons (pv 0) (pa_cons (pv 1) pa_nil)))) (pss_cons (ps_set (i := 2) sc_unsorted.nd rfl (Or.inl rfl) (pe_cal C_columnsout (hr.mono (by decide)) (by rfl) (pa_cons (pv 0) (pa_cons (pv 1) pa_nil)))) (pss_cons (ps_set (i := 3) sc_unsorted.nd rfl (Or.inl rfl) pe_int) (pss_cons (ps_for PassesOwn.never rfl (pi_range1 (by rfl) b_range (pa_cons (pe_op op_sub (pv 0) pe_int) pa_nil)) (pg_name (i := 4) sc_unsorted.nd rfl (Or.inl rfl)) (pss_one (ps_set (i := 3) sc_unsorted.nd rfl (Or.inl rfl) (pe_op op_or (pv 3) (pe_cal C_greater (hr.mono (by decide)) (by rfl) (pa_cons (pv 2) (pa_cons (pv 4) (pa_cons (pe_op op_add (pv 4) pe_int) pa_nil)))))))) (pss_one (ps_ret (pe_cal C_firstrow (hr.mono (by decide)) (by rfl) (pa_cons (pv 0) (pa_cons (pv 3) pa_nil))))))))))) rd
theorem ok_needless (h : Here K mg "needless" s_needless) (C_allcolumns : Cal P w K mg base CX0 1 "all_columns" ["lines"] (sp_allcolumns K)) (C_greater : Cal P w K mg base CX0 1 "greater" ["columns", "a", "b"] (sp_greater K)) (C_behind : Cal P w K mg base CX0 1 "behind" ["columns", "comparer"] (sp_behind K)) (C_needweb : Cal P w K mg base CX0 4 "need_web" ["lines", "comparers"] (sp_needweb K)) (b_enumerate : mg "enumerate" = none)
    (len : ∀ vs H Q E, sp_needless K vs H Q E → vs.length = P_needless.length)
    (rd : ∀ (vs : List V) (H : Hp) (Q : VK) (E : XK), sp_needless K vs H Q E → r_needless K { nx := fun _ H' => Q .non H', rt := Q } (start N_needless vs) H) :
    Cal P w K mg base CX0 5 "needless" P_needless (sp_needless K) := by
  exact h.cal sc_needless len (fun _ _ _ _ _ _ us hl => match us, hl with | [_, _], _ => rfl)
    (fun f cdv A outer s H E hr => (show PSs _ _ _ from (pss_cons (ps_expr (pe_cal C_needweb (hr.mono (by decide)) (by rfl) (pa_cons (pv 0) (pa_cons (pv 1) pa_nil)))) (pss_cons (ps_set (i := 2) sc_needless.nd rfl (Or.inl rfl) (pe_lst pa_nil)) (pss_cons (ps_set (i := 3) sc_needless.nd rfl (Or.inl rfl) (pe_cal C_allcolumns (hr.mono (by decide)) (by rfl) (pa_cons (pv 0) pa_nil))) (pss_cons (ps_for PassesOwn.never rfl (pi_enum (by rfl) b_enumerate (pa_cons (pv 1) pa_nil)) (pg_tup rfl (pgs_cons (pg_name (i := 4) sc_needless.nd rfl (Or.inl rfl)) (pgs_cons (pg_name (i := 5) sc_needless.nd rfl (Or.inl rfl)) pgs_nil))) (pss_cons (ps_asg (pv 5) (pg_tup rfl (pgs_cons (pg_name (i := 6) sc_needless.nd rfl (Or.inl rfl)) (pgs_cons (pg_name (i := 7) sc_needless.nd rfl (Or.inl rfl)) pgs_nil)))) (pss_cons (ps_if (pt_cmpR op_eq (pe_cal C_greater (hr.mono (by decide)) (by rfl) (pa_cons (pv 3) (pa_cons (pv 6) (pa_cons (pv 7) pa_nil)))) pe_int (nomark _)) (pss_one (ps_expr (pe_bm PySem.F.plainAttrs_list PySem.F.slot_list_append PySem.F.type_list_append md_append (pv 2) (pa_cons (pv 4) pa_nil)))) pss_nil) (pss_one (ps_set (i := 3) sc_needless.nd rfl (Or.inl rfl) (pe_cal C_behind (hr.mono (by decide)) (by rfl) (pa_cons (pv 3) (pa_cons (pv 5) pa_nil)))))))) (pss_one (ps_ret (pv 2))))))))) rd
theorem ok_pruned (h : Here K mg "pruned" s_pruned) (C_needless : Cal P w K mg base CX0 5 "needless" ["lines", "comparers"] (sp_needless K)) (b_enumerate : mg "enumerate" = none)
    (len : ∀ vs H Q E, sp_pruned K vs H Q E → vs.length = P_pruned.length)
    (rd : ∀ (vs : List V) (H : Hp) (Q : VK) (E : XK), sp_pruned K vs H Q E → r_pruned K { nx := fun _ H' => Q .non H', rt := Q } (start N_pruned vs) H) :
    Cal P w K mg base CX0 6 "pruned" P_pruned (sp_pruned K) := by
  exact h.cal sc_pruned len (fun _ _ _ _ _ _ us hl => match us, hl with | [_, _], _ => rfl)
    (fun f cdv A outer s H E hr => (show PSs _ _ _ from (pss_cons (ps_set (i := 2) sc_pruned.nd rfl (Or.inr rfl) (pe_cal C_needless (hr.mono (by decide)) (by rfl) (pa_cons (pv 0) (pa_cons (pv 1) pa_nil)))) (pss_one (ps_ret (pe_lc (own := [("place", 3), ("comparer", 4)]) rfl sc_pruned.nd (pi_enum (by rfl) b_enumerate (pa_cons (pv 1) pa_nil)) (blkOk_by (N := N_pruned) (sc := defScope s_pruned) (by decide +kernel)) (fun _ _ _ _ _ => (pg_tup rfl (pgs_cons (pg_name (i := 3) sc_pruned.nd rfl (Or.inl rfl)) (pgs_cons (pg_name (i := 4) sc_pruned.nd rfl (Or.inl rfl)) pgs_nil)))) (fun _ _ _ _ _ => (pts_one (pt_cmpR op_notIn_seq (pv 3) (pv 2) (by with_unfolding_all rfl)))) (fun _ _ _ _ _ => (pv 4)))))))) rd
theorem ok_sorting (h : Here K mg "sorting" s_sorting) (C_psorting : Cal P w K mg base CX0 11 "_sorting" ["rising"] (sp_psorting K)) (C_needlines : Cal P w K mg base CX0 2 "need_lines" ["lines"] (sp_needlines K)) (b_list : mg "list" = none) (b_range : mg "range" = none)
    (len : ∀ vs H Q E, sp_sorting K vs H Q E → vs.length = P_sorting.length)
    (rd : ∀ (vs : List V) (H : Hp) (Q : VK) (E : XK), sp_sorting K vs H Q E → r_sorting K { nx := fun _ H' => Q .non H', rt := Q } (start N_sorting vs) H) :
    Cal P w K mg base CX0 12 "sorting" P_sorting (sp_sorting K) := by
  exact h.cal sc_sorting len (fun _ _ _ _ _ _ us hl => match us, hl with | [_], _ => rfl)
    (fun f cdv A outer s H E hr => (show PSs _ _ _ from (pss_cons (ps_expr (pe_cal C_needlines (hr.mono (by decide)) (by rfl) (pa_cons (pv 0) pa_nil))) (pss_one (ps_ret (pe_cal C_psorting (hr.mono (by decide)) (by rfl) (pa_cons (pe_listRg rfl (by rfl) b_list (prg_1 (by rfl) b_range (pv 0))) pa_nil))))))) rd
theorem okr_pmerging {k : Nat} {spR spS : Sp} (h : Here K mg "_merging" s_pmerging) (C_pmerging : Cal P w K mg base CX0 k "_merging" P_pmerging spR) (b_len : mg "len" = none) (b_range : mg "range" = none) (hk : 0 ≤ k)
    (len : ∀ vs H Q E, spS vs H Q E → vs.length = P_pmerging.length)
    (rd : ∀ (vs : List V) (H : Hp) (Q : VK) (E : XK), spS vs H Q E → r_pmerging K spR { nx := fun _ H' => Q .non H', rt := Q } (start N_pmerging vs) H) :
    Cal P w K mg base CX0 (k + 1) "_merging" P_pmerging spS := by
  exact h.cal sc_pmerging len (fun _ _ _ _ _ _ us hl => match us, hl with | [_, _], _ => rfl)
    (fun f cdv A outer s H E hr => (show PSs _ _ _ from (pss_cons (ps_if (pw_or (pt_cmpR (op_eqD (hu64 hr)) (pv 0) (pe_lst pa_nil) (nomark _)) (pw_or1 (pt_cmpR (op_eqD (hu64 hr)) (pv 1) (pe_lst pa_nil) (nomark _)))).pt (pss_one (ps_ret (pe_lst pa_nil))) pss_nil) (pss_cons (ps_if (pw_and (pt_cmpR op_eq (pe_callB cl_len (by rfl) b_len PySem.boot_len (pa_cons (pv 0) pa_nil)) pe_int (nomark _)) (pw_and1 (pt_cmpR op_eq (pe_callB cl_len (by rfl) b_len PySem.boot_len (pa_cons (pv 1) pa_nil)) pe_int (nomark _)))).pt (pss_one (ps_ret (pe_lst (pa_cons (pe_tup (pa_cons (pe_ix ix_list (pv 0) pe_int (fun _ _ => rfl)) (pa_cons (pe_ix ix_list (pv 1) pe_int (fun _ _ => rfl)) pa_nil))) pa_nil)))) pss_nil) (pss_cons (ps_set (i := 2) sc_pmerging.nd rfl (Or.inl rfl) (pe_op op_cat (pe_cal C_pmerging hr (by rfl) (pa_cons (pe_stepF (pv 0) po_none pe_int) (pa_cons (pe_stepF (pv 1) po_none pe_int) pa_nil))) (pe_cal C_pmerging hr (by rfl) (pa_cons (pe_stepF (pv 0) (po_some pe_int) pe_int) (pa_cons (pe_stepF (pv 1) (po_some pe_int) pe_int) pa_nil))))) (pss_cons (ps_set (i := 3) sc_pmerging.nd rfl (Or.inl rfl) (pe_op op_cat (pv 0) (pv 1))) (pss_cons (ps_for PassesOwn.never rfl (pi_range3 (by rfl) b_range (pa_cons pe_int (pa_cons (pe_op op_sub (pe_callB cl_len (by rfl) b_len PySem.boot_len (pa_cons (pv 3) pa_nil)) pe_int) (pa_cons pe_int pa_nil)))) (pg_name (i := 4) sc_pmerging.nd rfl (Or.inl rfl)) (pss_one (ps_expr (pe_bm PySem.F.plainAttrs_list PySem.F.slot_list_append PySem.F.type_list_append md_append (pv 2) (pa_cons (pe_tup (pa_cons (pe_ix ix_list (pv 3) (pv 4) (fun _ _ => rfl)) (pa_cons (pe_ix ix_list (pv 3) (pe_op op_add (pv 4) pe_int) (fun _ _ => rfl)) pa_nil))) pa_nil))))) (pss_one (ps_ret (pv 2)))))))))) rd
theorem ok_pmerging (h : Here K mg "_merging" s_pmerging) (b_len : mg "len" = none) (b_range : mg "range" = none)
    (len : ∀ f vs H Q E, spf_pmerging f K vs H Q E → vs.length = P_pmerging.length)
    (rd0 : ∀ (vs : List V) (H : Hp) (Q : VK) (E : XK), spf_pmerging 0 K vs H Q E → r_pmerging K (fun _ _ _ _ => False) { nx := fun _ H' => Q .non H', rt := Q } (start N_pmerging vs) H)
    (rd : ∀ (f : Nat) (vs : List V) (H : Hp) (Q : VK) (E : XK), spf_pmerging (f + 1) K vs H Q E → r_pmerging K (spf_pmerging f K) { nx := fun _ H' => Q .non H', rt := Q } (start N_pmerging vs) H) :
    Cal P w K mg base CX0 6 "_merging" P_pmerging (sp_pmerging K) := by
  have key : ∀ f, Cal P w K mg base CX0 (0 + f + 1) "_merging" P_pmerging (spf_pmerging f K) := fun f => by
    induction f with
    | zero => exact okr_pmerging h (h.none (k := 0) (fun _ _ _ _ _ _ us hl => match us, hl with | [_, _], _ => rfl)) b_len b_range (Nat.le_refl _) (len 0) rd0
    | succ f ih => exact okr_pmerging (k := 0 + f + 1) h ih b_len b_range (by omega) (len (f + 1)) (rd f)
  exact key 5
theorem okr_psorting {k : Nat} {spR spS : Sp} (h : Here K mg "_sorting" s_psorting) (C_psorting : Cal P w K mg base CX0 k "_sorting" P_psorting spR) (C_pmerging : Cal P w K mg base CX0 6 "_merging" ["ones", "others"] (sp_pmerging K)) (b_len : mg "len" = none) (hk : 6 ≤ k)
    (len : ∀ vs H Q E, spS vs H Q E → vs.length = P_psorting.length)
    (rd : ∀ (vs : List V) (H : Hp) (Q : VK) (E : XK), spS vs H Q E → r_psorting K spR { nx := fun _ H' => Q .non H', rt := Q } (start N_psorting vs) H) :
    Cal P w K mg base CX0 (k + 1) "_sorting" P_psorting spS := by
  exact h.cal sc_psorting len (fun _ _ _ _ _ _ us hl => match us, hl with | [_], _ => rfl)
    (fun f cdv A outer s H E hr => (show PSs _ _ _ from (pss_cons (ps_if (pt_cmpR op_lt (pe_callB cl_len (by rfl) b_len PySem.boot_len (pa_cons (pv 0) pa_nil)) pe_int (nomark _)) (pss_one (ps_ret (pe_lst pa_nil))) pss_nil) (pss_cons (ps_set (i := 1) sc_psorting.nd rfl (Or.inl rfl) (pe_op op_fdiv (pe_callB cl_len (by rfl) b_len PySem.boot_len (pa_cons (pv 0) pa_nil)) pe_int)) (pss_cons (ps_set (i := 2) sc_psorting.nd rfl (Or.inl rfl) (pe_slice sl_list (pv 0) po_none (po_some (pv 1)))) (pss_cons (ps_set (i := 3) sc_psorting.nd rfl (Or.inl rfl) (pe_slice sl_list (pv 0) (po_some (pv 1)) po_none)) (pss_one (ps_ret (pe_op op_cat (pe_op op_cat (pe_cal C_psorting hr (by rfl) (pa_cons (pv 2) pa_nil)) (pe_cal C_psorting hr (by rfl) (pa_cons (pv 3) pa_nil))) (pe_cal C_pmerging (hr.mono (Nat.le_trans (by decide) hk)) (by rfl) (pa_cons (pv 2) (pa_cons (pv 3) pa_nil)))))))))))) rd
theorem ok_psorting (h : Here K mg "_sorting" s_psorting) (C_pmerging : Cal P w K mg base CX0 6 "_merging" ["ones", "others"] (sp_pmerging K)) (b_len : mg "len" = none)
    (len : ∀ f vs H Q E, spf_psorting f K vs H Q E → vs.length = P_psorting.length)
    (rd0 : ∀ (vs : List V) (H : Hp) (Q : VK) (E : XK), spf_psorting 0 K vs H Q E → r_psorting K (fun _ _ _ _ => False) { nx := fun _ H' => Q .non H', rt := Q } (start N_psorting vs) H)
    (rd : ∀ (f : Nat) (vs : List V) (H : Hp) (Q : VK) (E : XK), spf_psorting (f + 1) K vs H Q E → r_psorting K (spf_psorting f K) { nx := fun _ H' => Q .non H', rt := Q } (start N_psorting vs) H) :
    Cal P w K mg base CX0 11 "_sorting" P_psorting (sp_psorting K) := by
  have key : ∀ f, Cal P w K mg base CX0 (6 + f + 1) "_sorting" P_psorting (spf_psorting f K) := fun f => by
    induction f with
    | zero => exact okr_psorting h (h.none (k := 6) (fun _ _ _ _ _ _ us hl => match us, hl with | [_], _ => rfl)) C_pmerging b_len (Nat.le_refl _) (len 0) rd0
    | succ f ih => exact okr_psorting (k := 6 + f + 1) h ih C_pmerging b_len (by omega) (len (f + 1)) (rd f)
  exact key 4
theorem ok_run (h : Here K mg "run" s_run) (C_steps : Cal P w K mg base CX0 5 "steps" ["lines", "comparers", "row"] (sp_steps K))
    (len : ∀ vs H Q E, sp_run K vs H Q E → vs.length = P_run.length)
    (rd : ∀ (vs : List V) (H : Hp) (Q : VK) (E : XK), sp_run K vs H Q E → r_run K { nx := fun _ H' => Q .non H', rt := Q } (start N_run vs) H) :
    Cal P w K mg base CX0 6 "run" P_run (sp_run K) := by
  exact h.cal sc_run len (fun _ _ _ _ _ _ us hl => match us, hl with | [_, _, _], _ => rfl)
    (fun f cdv A outer s H E hr => (show PSs _ _ _ from (pss_one (ps_ret (pe_ix ix_list (pe_cal C_steps (hr.mono (by decide)) (by rfl) (pa_cons (pv 0) (pa_cons (pv 1) (pa_cons (pv 2) pa_nil)))) (pe_un un_neg pe_int) (fun _ _ => rfl)))))) rd
theorem ok_steps (h : Here K mg "steps" s_steps) (C_needrow : Cal P w K mg base CX0 2 "need_row" ["lines", "row"] (sp_needrow K)) (C_rbehind : Cal P w K mg base CX0 1 "behind_running" ["row", "comparer"] (sp_rbehind K)) (C_needweb : Cal P w K mg base CX0 4 "need_web" ["lines", "comparers"] (sp_needweb K)) (b_list : mg "list" = none)
    (len : ∀ vs H Q E, sp_steps K vs H Q E → vs.length = P_steps.length)
    (rd : ∀ (vs : List V) (H : Hp) (Q : VK) (E : XK), sp_steps K vs H Q E → r_steps K { nx := fun _ H' => Q .non H', rt := Q } (start N_steps vs) H) :
    Cal P w K mg base CX0 5 "steps" P_steps (sp_steps K) := by
  exact h.cal sc_steps len (fun _ _ _ _ _ _ us hl => match us, hl with | [_, _, _], _ => rfl)
    (fun f cdv A outer s H E hr => (show PSs _ _ _ from (pss_cons (ps_expr (pe_cal C_needweb (hr.mono (by decide)) (by rfl) (pa_cons (pv 0) (pa_cons (pv 1) pa_nil)))) (pss_cons (ps_expr (pe_cal C_needrow (hr.mono (by decide)) (by rfl) (pa_cons (pv 0) (pa_cons (pv 2) pa_nil)))) (pss_cons (ps_set (i := 3) sc_steps.nd rfl (Or.inl rfl) (pe_lst (pa_cons (pe_callTy cl_list (by rfl) b_list (by decide +kernel) (pa_cons (pv 2) pa_nil)) pa_nil))) (pss_cons (ps_for PassesOwn.never rfl (pi_list (pv 1)) (pg_name (i := 4) sc_steps.nd rfl (Or.inl rfl)) (pss_one (ps_expr (pe_bm PySem.F.plainAttrs_list PySem.F.slot_list_append PySem.F.type_list_append md_append (pv 3) (pa_cons (pe_cal C_rbehind (hr.mono (by decide)) (by rfl) (pa_cons (pe_ix ix_list (pv 3) (pe_un un_neg pe_int) (fun _ _ => rfl)) (pa_cons (pv 4) pa_nil))) pa_nil))))) (pss_one (ps_ret (pv 3))))))))) rd
theorem ok_rbehind (h : HereA K mg "behind_running" "_behind" s_rbehind) (b_list : mg "list" = none)
    (len : ∀ vs H Q E, sp_rbehind K vs H Q E → vs.length = P_rbehind.length)
    (rd : ∀ (vs : List V) (H : Hp) (Q : VK) (E : XK), sp_rbehind K vs H Q E → r_rbehind K { nx := fun _ H' => Q .non H', rt := Q } (start N_rbehind vs) H) :
    Cal P w K mg base CX0 1 "behind_running" P_rbehind (sp_rbehind K) := by
  exact h.cal sc_rbehind len (fun _ _ _ _ _ _ us hl => match us, hl with | [_, _], _ => rfl)
    (fun f cdv A outer s H E hr => (show PSs _ _ _ from (pss_cons (ps_asg (pv 1) (pg_tup rfl (pgs_cons (pg_name (i := 2) sc_rbehind.nd rfl (Or.inl rfl)) (pgs_cons (pg_name (i := 3) sc_rbehind.nd rfl (Or.inl rfl)) pgs_nil)))) (pss_cons (ps_set (i := 4) sc_rbehind.nd rfl (Or.inl rfl) (pe_callTy cl_list (by rfl) b_list (by decide +kernel) (pa_cons (pv 0) pa_nil))) (pss_cons (ps_if (pt_cmpR op_gt (pe_ix ix_list (pv 0) (pv 2) (fun _ _ => rfl)) (pe_ix ix_list (pv 0) (pv 3) (fun _ _ => rfl)) (nomark _)) (pss_cons (ps_asg (pe_ix ix_list (pv 0) (pv 3) (fun _ _ => rfl)) (pg_sub (pv 4) (pv 2) set_list)) (pss_one (ps_asg (pe_ix ix_list (pv 0) (pv 2) (fun _ _ => rfl)) (pg_sub (pv 4) (pv 3) set_list)))) pss_nil) (pss_one (ps_ret (pv 4)))))))) rd
theorem ok_webtext (h : Here K mg "web_text" s_webtext) (C_needwebV : Cal P w K mg base (L2N.CX P w) 4 "need_web" ["lines", "comparers"] (sp_needwebV K))
    (len : ∀ vs H Q E, sp_webtext K vs H Q E → vs.length = P_webtext.length)
    (rd : ∀ (vs : List V) (H : Hp) (Q : VK) (E : XK), sp_webtext K vs H Q E → r_webtext K E { nx := fun _ H' => Q .non H', rt := Q } (start N_webtext vs) H) :
    Cal P w K mg base (L2.CX P w) 5 "web_text" P_webtext (sp_webtext K) := by
  exact h.calX (r := fun E => r_webtext K E) sc_webtext len (fun _ _ _ _ _ _ us hl => match us, hl with | [_, _], _ => rfl)
    (fun f cdv A outer s H E hr => (show PSs _ _ _ from (pss_cons (ps_expr (pe_calW (weak_cx C_needwebV) (hr.mono (by decide)) (L2.takes_of rfl rfl rfl rfl) (by rfl) (pa_cons (pv 0) (pa_cons (pv 1) pa_nil)))) (pss_cons (ps_setLc (i := 2) (own := [("a", 3), ("b", 4)]) rfl sc_webtext.nd rfl rfl (sw_true rfl rfl rfl (by decide +kernel)) (pi_list (pv 1)) (blkOk_by (N := N_webtext) (sc := defScope s_webtext) (by decide +kernel)) (fun _ _ _ _ _ => (pg_tup rfl (pgs_cons (pg_name (i := 3) sc_webtext.nd rfl (Or.inl rfl)) (pgs_cons (pg_name (i := 4) sc_webtext.nd rfl (Or.inl rfl)) pgs_nil)))) (fun _ _ _ _ _ => pts_nil) (fun _ _ _ _ _ => (pe_joined (.cons pe_str (.cons (pe_fmt (pv 3)) (.cons pe_str (.cons (pe_fmt (pv 4)) .nil))))))) (pss_one (ps_ret (pe_op op_add_str (pe_joined (.cons (pe_fmt (pv 0)) (.cons pe_str .nil))) (pe_bm PySem.F.plainAttrs_str PySem.F.slot_str_join PySem.F.type_str_join md_join pe_str (pa_cons (pv 2) pa_nil))))))))) rd
theorem ok_webof (h : Here K mg "web_of" s_webof) (C_pair : Cal P w K mg base CX0 2 "_pair" ["word"] (sp_pair K)) (C_number : Cal P w K mg base CX0 1 "_number" ["word"] (sp_number K)) (C_needwebV : Cal P w K mg base (L2N.CX P w) 4 "need_web" ["lines", "comparers"] (sp_needwebV K)) (b_str : mg "str" = none) (b_type : mg "type" = none) (G_BadLines : mg "BadLines" = some (.ref (He.ga K "BadLines"))) (G_BadWeb : mg "BadWeb" = some (.ref (He.ga K "BadWeb"))) (X_BadText : ExK K mg "BadText")
    (len : ∀ vs H Q E, sp_webof K vs H Q E → vs.length = P_webof.length)
    (rd : ∀ (vs : List V) (H : Hp) (Q : VK) (E : XK), sp_webof K vs H Q E → r_webof K E { nx := fun _ H' => Q .non H', rt := Q } (start N_webof vs) H) :
    Cal P w K mg base (L2.CX P w) 5 "web_of" P_webof (sp_webof K) := by
  exact h.calX (r := fun E => r_webof K E) sc_webof len (fun _ _ _ _ _ _ us hl => match us, hl with | [_], _ => rfl)
    (fun f cdv A outer s H E hr => (show PSs _ _ _ from (pss_cons (ps_if (pt_cmpR op_notTyB (pe_callTy call_type1 (by rfl) b_type (by decide +kernel) (pa_cons (pv 0) pa_nil)) (pe_bltn (v := .ty "str") (by rfl) b_str (by decide +kernel) rfl) (nomark _)) (pss_one (ps_rzA rfl (L2.takes_of rfl rfl rfl rfl) X_BadText (by rfl) (pa_cons pe_str pa_nil))) pss_nil) (pss_cons (ps_asg (pe_bm PySem.F.plainAttrs_str PySem.F.slot_str_partition PySem.F.type_str_partition md_part (pv 0) (pa_cons pe_str pa_nil)) (pg_tup rfl (pgs_cons (pg_name (i := 1) sc_webof.nd rfl (Or.inl rfl)) (pgs_cons (pg_name (i := 2) sc_webof.nd rfl (Or.inl rfl)) (pgs_cons (pg_name (i := 3) sc_webof.nd rfl (Or.inl rfl)) pgs_nil))))) (pss_cons (ps_asg (pe_bm PySem.F.plainAttrs_str PySem.F.slot_str_split PySem.F.type_str_split md_split (pv 3) (pa_cons pe_str pa_nil)) (pg_head rfl (pgs_cons (pg_name (i := 4) sc_webof.nd rfl (Or.inl rfl)) (pgs_star (pg_name (i := 5) sc_webof.nd rfl (Or.inl rfl)) pgs_nil)))) (pss_cons (ps_if (pw_or (pt_cmpR op_ne (pv 2) pe_str (nomark _)) (pw_or1 (pt_cmpR op_ne (pv 4) pe_str (nomark _)))).pt (pss_one (ps_rzA rfl (L2.takes_of rfl rfl rfl rfl) X_BadText (by rfl) (pa_cons pe_str pa_nil))) pss_nil) (pss_cons (ps_set (i := 6) sc_webof.nd rfl (Or.inl rfl) (pe_cal C_number (hr.mono (by decide)) (by rfl) (pa_cons (pv 1) pa_nil))) (pss_cons (ps_setLc (i := 7) (own := [("word", 8)]) rfl sc_webof.nd rfl rfl (sw_true rfl rfl rfl (by decide +kernel)) (pi_list (pv 5)) (blkOk_by (N := N_webof) (sc := defScope s_webof) (by decide +kernel)) (fun _ _ _ _ _ => (pg_name (i := 8) sc_webof.nd rfl (Or.inl rfl))) (fun _ _ _ _ _ => pts_nil) (fun _ _ _ _ _ => (pe_cal C_pair (hr.mono (by decide)) (by rfl) (pa_cons (pv 8) pa_nil)))) (pss_cons (ps_try_tupX rfl rfl rfl (nm_cls G_BadLines (by rfl)) (nm_cls G_BadWeb (by rfl)) (L2H.passesAt_of rfl) (L2.takes_of rfl rfl rfl rfl) (fun W pn xe tk pa => (show PSs _ _ _ from (pss_one (ps_expr (pe_calN C_needwebV (hr.mono (by decide)) tk (by rfl) (pa_cons (pv 6) (pa_cons (pv 7) pa_nil))))))) (fun a ob cls d pn zn hd tkS hot => (show PSs _ _ _ from (pss_one (ps_rzAF hot tkS X_BadText (by rfl) (pa_cons pe_str pa_nil)))))) (pss_one (ps_ret (pe_tup (pa_cons (pv 6) (pa_cons (pv 7) pa_nil)))))))))))))) rd
theorem ok_pair (h : Here K mg "_pair" s_pair) (C_number : Cal P w K mg base CX0 1 "_number" ["word"] (sp_number K))
    (len : ∀ vs H Q E, sp_pair K vs H Q E → vs.length = P_pair.length)
    (rd : ∀ (vs : List V) (H : Hp) (Q : VK) (E : XK), sp_pair K vs H Q E → r_pair K { nx := fun _ H' => Q .non H', rt := Q } (start N_pair vs) H) :
    Cal P w K mg base CX0 2 "_pair" P_pair (sp_pair K) := by
  exact h.cal sc_pair len (fun _ _ _ _ _ _ us hl => match us, hl with | [_], _ => rfl)
    (fun f cdv A outer s H E hr => (show PSs _ _ _ from (pss_cons (ps_asg (pe_bm PySem.F.plainAttrs_str PySem.F.slot_str_partition PySem.F.type_str_partition md_part (pv 0) (pa_cons pe_str pa_nil)) (pg_tup rfl (pgs_cons (pg_name (i := 1) sc_pair.nd rfl (Or.inl rfl)) (pgs_cons (pg_name (i := 2) sc_pair.nd rfl (Or.inl rfl)) (pgs_cons (pg_name (i := 3) sc_pair.nd rfl (Or.inl rfl)) pgs_nil))))) (pss_one (ps_ret (pe_tup (pa_cons (pe_cal C_number (hr.mono (by decide)) (by rfl) (pa_cons (pv 1) pa_nil)) (pa_cons (pe_cal C_number (hr.mono (by decide)) (by rfl) (pa_cons (pv 3) pa_nil)) pa_nil)))))))) rd
theorem ok_number (h : Here K mg "_number" s_number) (b_range : mg "range" = none) (b_str : mg "str" = none) (c_MOST_LINES : ∃ t, mg "MOST_LINES" = some (.int 10 t))
    (len : ∀ vs H Q E, sp_number K vs H Q E → vs.length = P_number.length)
    (rd : ∀ (vs : List V) (H : Hp) (Q : VK) (E : XK), sp_number K vs H Q E → r_number K { nx := fun _ H' => Q .non H', rt := Q } (start N_number vs) H) :
    Cal P w K mg base CX0 1 "_number" P_number (sp_number K) := by
  exact h.cal sc_number len (fun _ _ _ _ _ _ us hl => match us, hl with | [_], _ => rfl)
    (fun f cdv A outer s H E hr => (show PSs _ _ _ from (pss_cons (ps_for PassesOwn.never rfl (pi_range1 (by rfl) b_range (pa_cons (pe_op op_add (pe_gi c_MOST_LINES (by rfl)) pe_int) pa_nil)) (pg_name (i := 1) sc_number.nd rfl (Or.inl rfl)) (pss_one (ps_if (pt_cmpR op_eq (pv 0) (pe_callTy cl_strI (by rfl) b_str (by decide +kernel) (pa_cons (pv 1) pa_nil)) (nomark _)) (pss_one (ps_ret (pv 1))) pss_nil))) (pss_one (ps_ret pe_non))))) rd
theorem ok_renamed (h : Here K mg "renamed" s_renamed) (C_needorder : Cal P w K mg base CX0 2 "_need_order" ["lines", "order"] (sp_needorder K)) (C_needweb : Cal P w K mg base CX0 4 "need_web" ["lines", "comparers"] (sp_needweb K))
    (len : ∀ vs H Q E, sp_renamed K vs H Q E → vs.length = P_renamed.length)
    (rd : ∀ (vs : List V) (H : Hp) (Q : VK) (E : XK), sp_renamed K vs H Q E → r_renamed K { nx := fun _ H' => Q .non H', rt := Q } (start N_renamed vs) H) :
    Cal P w K mg base CX0 5 "renamed" P_renamed (sp_renamed K) := by
  exact h.cal sc_renamed len (fun _ _ _ _ _ _ us hl => match us, hl with | [_, _, _], _ => rfl)
    (fun f cdv A outer s H E hr => (show PSs _ _ _ from (pss_cons (ps_expr (pe_cal C_needweb (hr.mono (by decide)) (by rfl) (pa_cons (pv 0) (pa_cons (pv 1) pa_nil)))) (pss_cons (ps_expr (pe_cal C_needorder (hr.mono (by decide)) (by rfl) (pa_cons (pv 0) (pa_cons (pv 2) pa_nil)))) (pss_one (ps_ret (pe_lc (own := [("a", 3), ("b", 4)]) rfl sc_renamed.nd (pi_list (pv 1)) (blkOk_by (N := N_renamed) (sc := defScope s_renamed) (by decide +kernel)) (fun _ _ _ _ _ => (pg_tup rfl (pgs_cons (pg_name (i := 3) sc_renamed.nd rfl (Or.inl rfl)) (pgs_cons (pg_name (i := 4) sc_renamed.nd rfl (Or.inl rfl)) pgs_nil)))) (fun _ _ _ _ _ => pts_nil) (fun _ _ _ _ _ => (pe_tup (pa_cons (pe_ix ix_list (pv 2) (pv 3) (fun _ _ => rfl)) (pa_cons (pe_ix ix_list (pv 2) (pv 4) (fun _ _ => rfl)) pa_nil))))))))))) rd
theorem ok_upside (h : Here K mg "upside" s_upside) (C_needweb : Cal P w K mg base CX0 4 "need_web" ["lines", "comparers"] (sp_needweb K))
    (len : ∀ vs H Q E, sp_upside K vs H Q E → vs.length = P_upside.length)
    (rd : ∀ (vs : List V) (H : Hp) (Q : VK) (E : XK), sp_upside K vs H Q E → r_upside K { nx := fun _ H' => Q .non H', rt := Q } (start N_upside vs) H) :
    Cal P w K mg base CX0 5 "upside" P_upside (sp_upside K) := by
  exact h.cal sc_upside len (fun _ _ _ _ _ _ us hl => match us, hl with | [_, _], _ => rfl)
    (fun f cdv A outer s H E hr => (show PSs _ _ _ from (pss_cons (ps_expr (pe_cal C_needweb (hr.mono (by decide)) (by rfl) (pa_cons (pv 0) (pa_cons (pv 1) pa_nil)))) (pss_one (ps_ret (pe_lc (own := [("a", 2), ("b", 3)]) rfl sc_upside.nd (pi_list (pv 1)) (blkOk_by (N := N_upside) (sc := defScope s_upside) (by decide +kernel)) (fun _ _ _ _ _ => (pg_tup rfl (pgs_cons (pg_name (i := 2) sc_upside.nd rfl (Or.inl rfl)) (pgs_cons (pg_name (i := 3) sc_upside.nd rfl (Or.inl rfl)) pgs_nil)))) (fun _ _ _ _ _ => pts_nil) (fun _ _ _ _ _ => (pe_tup (pa_cons (pe_op op_sub (pe_op op_sub (pv 0) pe_int) (pv 3)) (pa_cons (pe_op op_sub (pe_op op_sub (pv 0) pe_int) (pv 2)) pa_nil)))))))))) rd
theorem ok_straightened (h : Here K mg "straightened" s_straightened) (C_needweb : Cal P w K mg base CX0 4 "need_web" ["lines", "comparers"] (sp_needweb K)) (b_list : mg "list" = none) (b_max : mg "max" = none) (b_min : mg "min" = none) (b_range : mg "range" = none)
    (len : ∀ vs H Q E, sp_straightened K vs H Q E → vs.length = P_straightened.length)
    (rd : ∀ (vs : List V) (H : Hp) (Q : VK) (E : XK), sp_straightened K vs H Q E → r_straightened K { nx := fun _ H' => Q .non H', rt := Q } (start N_straightened vs) H) :
    Cal P w K mg base CX0 5 "straightened" P_straightened (sp_straightened K) := by
  exact h.cal sc_straightened len (fun _ _ _ _ _ _ us hl => match us, hl with | [_, _], _ => rfl)
    (fun f cdv A outer s H E hr => (show PSs _ _ _ from (pss_cons (ps_expr (pe_cal C_needweb (hr.mono (by decide)) (by rfl) (pa_cons (pv 0) (pa_cons (pv 1) pa_nil)))) (pss_cons (ps_set (i := 2) sc_straightened.nd rfl (Or.inl rfl) (pe_lst pa_nil)) (pss_cons (ps_set (i := 3) sc_straightened.nd rfl (Or.inl rfl) (pe_listRg rfl (by rfl) b_list (prg_1 (by rfl) b_range (pv 0)))) (pss_cons (ps_for PassesOwn.never rfl (pi_list (pv 1)) (pg_tup rfl (pgs_cons (pg_name (i := 4) sc_straightened.nd rfl (Or.inl rfl)) (pgs_cons (pg_name (i := 5) sc_straightened.nd rfl (Or.inl rfl)) pgs_nil))) (pss_cons (ps_set (i := 6) sc_straightened.nd rfl (Or.inl rfl) (pe_callB (cl_min rfl) (by rfl) b_min (by decide +kernel) (pa_cons (pe_ix ix_list (pv 3) (pv 4) (fun _ _ => rfl)) (pa_cons (pe_ix ix_list (pv 3) (pv 5) (fun _ _ => rfl)) pa_nil)))) (pss_cons (ps_set (i := 7) sc_straightened.nd rfl (Or.inl rfl) (pe_callB (cl_max rfl) (by rfl) b_max (by decide +kernel) (pa_cons (pe_ix ix_list (pv 3) (pv 4) (fun _ _ => rfl)) (pa_cons (pe_ix ix_list (pv 3) (pv 5) (fun _ _ => rfl)) pa_nil)))) (pss_cons (ps_expr (pe_bm PySem.F.plainAttrs_list PySem.F.slot_list_append PySem.F.type_list_append md_append (pv 2) (pa_cons (pe_tup (pa_cons (pv 6) (pa_cons (pv 7) pa_nil))) pa_nil))) (pss_cons (ps_asg (pv 6) (pg_sub (pv 3) (pv 4) set_list)) (pss_one (ps_asg (pv 7) (pg_sub (pv 3) (pv 5) set_list)))))))) (pss_one (ps_ret (pe_tup (pa_cons (pv 2) (pa_cons (pv 3) pa_nil))))))))))) rd
theorem ok_needorder (h : Here K mg "_need_order" s_needorder) (C_iswhole : Cal P w K mg base CX0 1 "is_whole" ["value"] (sp_iswhole K)) (b_all : mg "all" = none) (b_list : mg "list" = none) (b_range : mg "range" = none) (b_sorted : mg "sorted" = none) (b_type : mg "type" = none)
    (len : ∀ vs H Q E, sp_needorder K vs H Q E → vs.length = P_needorder.length)
    (rd : ∀ (vs : List V) (H : Hp) (Q : VK) (E : XK), sp_needorder K vs H Q E → r_needorder K { nx := fun _ H' => Q .non H', rt := Q } (start N_needorder vs) H) :
    Cal P w K mg base CX0 2 "_need_order" P_needorder (sp_needorder K) := by
  exact h.cal sc_needorder len (fun _ _ _ _ _ _ us hl => match us, hl with | [_, _], _ => rfl)
    (fun f cdv A outer s H E hr => (show PSs _ _ _ from (pss_cons (ps_set (i := 2) sc_needorder.nd rfl (Or.inl rfl) (pe_and (pe_cmpR op_isTyB (pe_callTy call_type1 (by rfl) b_type (by decide +kernel) (pa_cons (pv 1) pa_nil)) (pe_bltn (v := .ty "list") (by rfl) b_list (by decide +kernel) rfl) (nomark _)) (pe_one (pe_callB (cr_all rfl) (by rfl) b_all (by decide +kernel) (pa_cons (pe_lc (own := [("line", 3)]) rfl sc_needorder.nd (pi_list (pv 1)) (blkOk_by (N := N_needorder) (sc := defScope s_needorder) (by decide +kernel)) (fun _ _ _ _ _ => (pg_name (i := 3) sc_needorder.nd rfl (Or.inl rfl))) (fun _ _ _ _ _ => pts_nil) (fun _ _ _ _ _ => (pe_cal C_iswhole (hr.mono (by decide)) (by rfl) (pa_cons (pv 3) pa_nil)))) pa_nil))))) (pss_one (ps_if (pw_or (pt_not (pt_val (pv 2))) (pw_or1 (pt_cmpR (op_neD (hu64 hr)) (pe_callB cr_sortedI (by rfl) b_sorted (by decide +kernel) (pa_cons (pv 1) pa_nil)) (pe_listRg rfl (by rfl) b_list (prg_1 (by rfl) b_range (pv 0))) (nomark _)))).pt (pss_one ps_off) pss_nil))))) rd
theorem ok_ldraw (h : Here K mg "_law_draw" s_ldraw) 
    (len : ∀ vs H Q E, sp_ldraw K vs H Q E → vs.length = P_ldraw.length)
    (rd : ∀ (vs : List V) (H : Hp) (Q : VK) (E : XK), sp_ldraw K vs H Q E → r_ldraw K { nx := fun _ H' => Q .non H', rt := Q } (start N_ldraw vs) H) :
    Cal P w K mg base CX0 1 "_law_draw" P_ldraw (sp_ldraw K) := by
  exact h.cal sc_ldraw len (fun _ _ _ _ _ _ us hl => match us, hl with | [_, _, _], _ => rfl)
    (fun f cdv A outer s H E hr => (show PSs _ _ _ from (pss_cons (ps_set (i := 3) sc_ldraw.nd rfl (Or.inl rfl) (pe_op op_add (pe_op op_mul (pe_op op_mul (pe_op op_add (pv 1) pe_int) (pe_op op_add (pv 1) pe_int)) pe_int) (pe_op op_mul (pe_op op_mul (pe_op op_add (pv 2) pe_int) (pe_op op_add (pv 2) pe_int)) pe_int))) (pss_one (ps_ret (pe_op op_fdiv (pe_op op_mod (pe_op op_mul (pe_op op_mod (pe_op op_add (pe_op op_mul (pe_op op_mod (pv 0) pe_int) pe_int) (pv 3)) pe_int) pe_int) pe_int) pe_int)))))) rd
theorem ok_lbricks (h : Here K mg "_law_bricks" s_lbricks) (b_range : mg "range" = none)
    (len : ∀ vs H Q E, sp_lbricks K vs H Q E → vs.length = P_lbricks.length)
    (rd : ∀ (vs : List V) (H : Hp) (Q : VK) (E : XK), sp_lbricks K vs H Q E → r_lbricks K { nx := fun _ H' => Q .non H', rt := Q } (start N_lbricks vs) H) :
    Cal P w K mg base CX0 1 "_law_bricks" P_lbricks (sp_lbricks K) := by
  exact h.cal sc_lbricks len (fun _ _ _ _ _ _ us hl => match us, hl with | [_], _ => rfl)
    (fun f cdv A outer s H E hr => (show PSs _ _ _ from (pss_cons (ps_set (i := 1) sc_lbricks.nd rfl (Or.inl rfl) (pe_lst pa_nil)) (pss_cons (ps_for PassesOwn.never rfl (pi_range1 (by rfl) b_range (pa_cons (pv 0) pa_nil)) (pg_name (i := 2) sc_lbricks.nd rfl (Or.inl rfl)) (pss_one (ps_set (i := 1) sc_lbricks.nd rfl (Or.inl rfl) (pe_op op_cat (pv 1) (pe_lc (own := [("_law_k", 3)]) rfl sc_lbricks.nd (pi_range3 (by rfl) b_range (pa_cons (pe_op op_mod (pv 2) pe_int) (pa_cons (pe_op op_sub (pv 0) pe_int) (pa_cons pe_int pa_nil)))) (blkOk_by (N := N_lbricks) (sc := defScope s_lbricks) (by decide +kernel)) (fun _ _ _ _ _ => (pg_name (i := 3) sc_lbricks.nd rfl (Or.inl rfl))) (fun _ _ _ _ _ => pts_nil) (fun _ _ _ _ _ => (pe_tup (pa_cons (pv 3) (pa_cons (pe_op op_add (pv 3) pe_int) pa_nil))))))))) (pss_one (ps_ret (pv 1))))))) rd
theorem ok_lcomparer (h : Here K mg "_law_comparer" s_lcomparer) (b_max : mg "max" = none) (b_min : mg "min" = none)
    (len : ∀ vs H Q E, sp_lcomparer K vs H Q E → vs.length = P_lcomparer.length)
    (rd : ∀ (vs : List V) (H : Hp) (Q : VK) (E : XK), sp_lcomparer K vs H Q E → r_lcomparer K { nx := fun _ H' => Q .non H', rt := Q } (start N_lcomparer vs) H) :
    Cal P w K mg base CX0 1 "_law_comparer" P_lcomparer (sp_lcomparer K) := by
  exact h.cal sc_lcomparer len (fun _ _ _ _ _ _ us hl => match us, hl with | [_, _], _ => rfl)
    (fun f cdv A outer s H E hr => (show PSs _ _ _ from (pss_cons (ps_set (i := 2) sc_lcomparer.nd rfl (Or.inl rfl) (pe_op op_mod (pv 0) (pv 1))) (pss_cons (ps_set (i := 3) sc_lcomparer.nd rfl (Or.inl rfl) (pe_op op_mod (pe_op op_add (pe_op op_add (pv 2) pe_int) (pe_op op_mod (pe_op op_fdiv (pv 0) pe_int) (pe_op op_sub (pv 1) pe_int))) (pv 1))) (pss_one (ps_ret (pe_ifExp (pt_cmpR op_gt (pe_op op_mod (pe_op op_fdiv (pv 0) pe_int) pe_int) pe_int (nomark _)) (pe_tup (pa_cons (pe_callB (cl_min rfl) (by rfl) b_min (by decide +kernel) (pa_cons (pv 2) (pa_cons (pv 3) pa_nil))) (pa_cons (pe_callB (cl_max rfl) (by rfl) b_max (by decide +kernel) (pa_cons (pv 2) (pa_cons (pv 3) pa_nil))) pa_nil))) (pe_tup (pa_cons (pv 2) (pa_cons (pv 3) pa_nil)))))))))) rd
theorem ok_lweb (h : Here K mg "_law_web" s_lweb) (C_ldraw : Cal P w K mg base CX0 1 "_law_draw" ["_law_cell", "_law_k", "_law_j"] (sp_ldraw K)) (C_lbricks : Cal P w K mg base CX0 1 "_law_bricks" ["_law_lines"] (sp_lbricks K)) (C_lcomparer : Cal P w K mg base CX0 1 "_law_comparer" ["_law_n", "_law_lines"] (sp_lcomparer K)) (b_enumerate : mg "enumerate" = none) (b_len : mg "len" = none) (b_sum : mg "sum" = none)
    (len : ∀ vs H Q E, sp_lweb K vs H Q E → vs.length = P_lweb.length)
    (rd : ∀ (vs : List V) (H : Hp) (Q : VK) (E : XK), sp_lweb K vs H Q E → r_lweb K { nx := fun _ H' => Q .non H', rt := Q } (start N_lweb vs) H) :
    Cal P w K mg base CX0 2 "_law_web" P_lweb (sp_lweb K) := by
  exact h.cal sc_lweb len (fun _ _ _ _ _ _ us hl => match us, hl with | [_], _ => rfl)
    (fun f cdv A outer s H E hr => (show PSs _ _ _ from (pss_cons (ps_set (i := 1) sc_lweb.nd rfl (Or.inl rfl) (pe_slice sl_list (pv 0) po_none (po_some pe_int))) (pss_cons (ps_set (i := 2) sc_lweb.nd rfl (Or.inl rfl) (pe_cal C_ldraw (hr.mono (by decide)) (by rfl) (pa_cons (pe_callB (cr_sum rfl) (by rfl) b_sum (by decide +kernel) (pa_cons (pe_slice sl_list (pv 1) po_none (po_some pe_int)) pa_nil)) (pa_cons (pe_callB cl_len (by rfl) b_len PySem.boot_len (pa_cons (pv 1) pa_nil)) (pa_cons pe_int pa_nil))))) (pss_cons (ps_set (i := 3) sc_lweb.nd rfl (Or.inr rfl) (pe_ix ix_list (pe_lst (pa_cons (pe_op op_add pe_int (pe_op op_mod (pe_op op_fdiv (pv 2) pe_int) pe_int)) (pa_cons (pe_op op_add pe_int (pe_op op_mod (pe_op op_fdiv (pv 2) pe_int) pe_int)) (pa_cons (pe_op op_add pe_int (pe_op op_mod (pe_op op_fdiv (pv 2) pe_int) pe_int)) (pa_cons pe_int pa_nil))))) (pe_op op_mod (pv 2) pe_int) (fun _ _ => rfl))) (pss_cons (ps_if (pt_cmpR op_eq (pv 3) pe_int (nomark _)) (pss_one (ps_ret (pe_tup (pa_cons pe_int (pa_cons (pe_lst pa_nil) pa_nil))))) pss_nil) (pss_cons (ps_if (pt_cmpR op_eq (pe_op op_mod (pe_op op_fdiv (pv 2) pe_int) pe_int) pe_int (nomark _)) (pss_one (ps_ret (pe_tup (pa_cons (pv 3) (pa_cons (pe_lc (own := [("_law_k", 4), ("_law_cell", 5)]) rfl sc_lweb.nd (pi_enum (by rfl) b_enumerate (pa_cons (pv 1) pa_nil)) (blkOk_by (N := N_lweb) (sc := defScope s_lweb) (by decide +kernel)) (fun _ _ _ _ _ => (pg_tup rfl (pgs_cons (pg_name (i := 4) sc_lweb.nd rfl (Or.inl rfl)) (pgs_cons (pg_name (i := 5) sc_lweb.nd rfl (Or.inl rfl)) pgs_nil)))) (fun _ _ _ _ _ => pts_nil) (fun _ _ _ _ _ => (pe_cal C_lcomparer (hr.mono (by decide)) (by rfl) (pa_cons (pe_cal C_ldraw (hr.mono (by decide)) (by rfl) (pa_cons (pv 5) (pa_cons (pv 4) (pa_cons pe_int pa_nil)))) (pa_cons (pv 3) pa_nil))))) pa_nil))))) pss_nil) (pss_cons (ps_set (i := 6) sc_lweb.nd rfl (Or.inl rfl) (pe_cal C_lbricks (hr.mono (by decide)) (by rfl) (pa_cons (pv 3) pa_nil))) (pss_cons (ps_for PassesOwn.never rfl (pi_enum (by rfl) b_enumerate (pa_cons (pv 1) pa_nil)) (pg_tup rfl (pgs_cons (pg_name (i := 4) sc_lweb.nd rfl (Or.inl rfl)) (pgs_cons (pg_name (i := 5) sc_lweb.nd rfl (Or.inl rfl)) pgs_nil))) (pss_cons (ps_set (i := 7) sc_lweb.nd rfl (Or.inl rfl) (pe_cal C_ldraw (hr.mono (by decide)) (by rfl) (pa_cons (pv 5) (pa_cons (pv 4) (pa_cons pe_int pa_nil))))) (pss_cons (ps_set (i := 8) sc_lweb.nd rfl (Or.inl rfl) (pe_op op_mod (pe_op op_fdiv (pv 7) pe_int) (pe_op op_add (pe_callB cl_len (by rfl) b_len PySem.boot_len (pa_cons (pv 6) pa_nil)) pe_int))) (pss_one (ps_if (pw_and (pt_cmpR op_lt (pe_op op_mod (pv 7) pe_int) pe_int (nomark _)) (pw_and1 (pt_cmpR op_lt (pv 8) (pe_callB cl_len (by rfl) b_len PySem.boot_len (pa_cons (pv 6) pa_nil)) (nomark _)))).pt (pss_one (ps_expr (pe_bm PySem.F.plainAttrs_list PySem.F.slot_list_pop PySem.F.type_list_pop md_popAt (pv 6) (pa_cons (pv 8) pa_nil)))) (pss_one (ps_if (pw_and (pt_cmpR op_lt (pe_op op_mod (pv 7) pe_int) pe_int (nomark _)) (pw_and1 (pt_cmpR op_lt (pe_callB cl_len (by rfl) b_len PySem.boot_len (pa_cons (pv 6) pa_nil)) pe_int (nomark _)))).pt (pss_one (ps_expr (pe_bm PySem.F.plainAttrs_list PySem.F.slot_list_insert PySem.F.type_list_insert md_insert (pv 6) (pa_cons (pv 8) (pa_cons (pe_cal C_lcomparer (hr.mono (by decide)) (by rfl) (pa_cons (pe_op op_fdiv (pv 7) pe_int) (pa_cons (pv 3) pa_nil))) pa_nil))))) (pss_one (ps_if (pw_and (pt_cmpR op_eq (pe_op op_mod (pv 7) pe_int) pe_int (nomark _)) (pw_and1 (pt_cmpR op_lt (pv 8) (pe_callB cl_len (by rfl) b_len PySem.boot_len (pa_cons (pv 6) pa_nil)) (nomark _)))).pt (pss_one (ps_asg (pe_turn (pe_ix ix_list (pv 6) (pv 8) (fun _ _ => rfl))) (pg_sub (pv 6) (pv 8) set_list))) pss_nil))))))))) (pss_one (ps_ret (pe_tup (pa_cons (pv 3) (pa_cons (pv 6) pa_nil)))))))))))))) rd
theorem ok_lgone (h : Here K mg "_law_gone" s_lgone) (b_list : mg "list" = none) (b_max : mg "max" = none) (b_min : mg "min" = none)
    (len : ∀ vs H Q E, sp_lgone K vs H Q E → vs.length = P_lgone.length)
    (rd : ∀ (vs : List V) (H : Hp) (Q : VK) (E : XK), sp_lgone K vs H Q E → r_lgone K { nx := fun _ H' => Q .non H', rt := Q } (start N_lgone vs) H) :
    Cal P w K mg base CX0 1 "_law_gone" P_lgone (sp_lgone K) := by
  exact h.cal sc_lgone len (fun _ _ _ _ _ _ us hl => match us, hl with | [_, _], _ => rfl)
    (fun f cdv A outer s H E hr => (show PSs _ _ _ from (pss_cons (ps_set (i := 2) sc_lgone.nd rfl (Or.inl rfl) (pe_callTy cl_list (by rfl) b_list (by decide +kernel) (pa_cons (pv 1) pa_nil))) (pss_cons (ps_for PassesOwn.never rfl (pi_list (pv 0)) (pg_tup rfl (pgs_cons (pg_name (i := 3) sc_lgone.nd rfl (Or.inl rfl)) (pgs_cons (pg_name (i := 4) sc_lgone.nd rfl (Or.inl rfl)) pgs_nil))) (pss_one (ps_asg (pe_tup (pa_cons (pe_callB (cl_min rfl) (by rfl) b_min (by decide +kernel) (pa_cons (pe_ix ix_list (pv 2) (pv 3) (fun _ _ => rfl)) (pa_cons (pe_ix ix_list (pv 2) (pv 4) (fun _ _ => rfl)) pa_nil))) (pa_cons (pe_callB (cl_max rfl) (by rfl) b_max (by decide +kernel) (pa_cons (pe_ix ix_list (pv 2) (pv 3) (fun _ _ => rfl)) (pa_cons (pe_ix ix_list (pv 2) (pv 4) (fun _ _ => rfl)) pa_nil))) pa_nil))) (pg_tup rfl (pgs_cons (pg_sub (pv 2) (pv 3) set_list) (pgs_cons (pg_sub (pv 2) (pv 4) set_list) pgs_nil)))))) (pss_one (ps_ret (pv 2))))))) rd
theorem ok_lbare (h : Here K mg "_law_bare" s_lbare) (b_range : mg "range" = none)
    (len : ∀ vs H Q E, sp_lbare K vs H Q E → vs.length = P_lbare.length)
    (rd : ∀ (vs : List V) (H : Hp) (Q : VK) (E : XK), sp_lbare K vs H Q E → r_lbare K { nx := fun _ H' => Q .non H', rt := Q } (start N_lbare vs) H) :
    Cal P w K mg base CX0 1 "_law_bare" P_lbare (sp_lbare K) := by
  exact h.cal sc_lbare len (fun _ _ _ _ _ _ us hl => match us, hl with | [_], _ => rfl)
    (fun f cdv A outer s H E hr => (show PSs _ _ _ from (pss_one (ps_ret (pe_lc (own := [("_law_n", 1)]) rfl sc_lbare.nd (pi_range1 (by rfl) b_range (pa_cons (pe_op op_shl pe_int (pv 0)) pa_nil)) (blkOk_by (N := N_lbare) (sc := defScope s_lbare) (by decide +kernel)) (fun _ _ _ _ _ => (pg_name (i := 1) sc_lbare.nd rfl (Or.inr rfl))) (fun _ _ _ _ _ => pts_nil) (fun _ _ _ _ _ => (pe_lc (own := [("_law_k", 2)]) rfl sc_lbare.nd (pi_range1 (by rfl) b_range (pa_cons (pv 0) pa_nil)) (blkOk_in (blkOk_by (N := N_lbare) (sc := ({
                      kind := PySem.ScopeKind.function,
                      names := [
                        (PySem.Str.ofString ".0", PySem.NameKind.local),
                        (PySem.Str.ofString "_law_n", PySem.NameKind.cell),
                        (PySem.Str.ofString "range", PySem.NameKind.globalImplicit),
                        (PySem.Str.ofString "_law_lines", PySem.NameKind.free)],
                      isGenerator := false,
                      isCoroutine := false,
                      more := [] : PySem.Scope})) (by decide +kernel))) (fun _ _ _ _ _ => (pg_name (i := 2) sc_lbare.nd rfl (Or.inl rfl))) (fun _ _ _ _ _ => pts_nil) (fun _ _ _ _ _ => (pe_op op_and (pe_op op_shr (pv 1) (pv 2)) pe_int))))))))) rd
theorem ok_lisbare (h : Here K mg "_law_is_bare" s_lisbare) (b_bool : mg "bool" = none) (b_int : mg "int" = none) (b_isinstance : mg "isinstance" = none) (b_len : mg "len" = none) (b_list : mg "list" = none)
    (len : ∀ vs H Q E, sp_lisbare K vs H Q E → vs.length = P_lisbare.length)
    (rd : ∀ (vs : List V) (H : Hp) (Q : VK) (E : XK), sp_lisbare K vs H Q E → r_lisbare K { nx := fun _ H' => Q .non H', rt := Q } (start N_lisbare vs) H) :
    Cal P w K mg base CX0 1 "_law_is_bare" P_lisbare (sp_lisbare K) := by
  exact h.cal sc_lisbare len (fun _ _ _ _ _ _ us hl => match us, hl with | [_, _], _ => rfl)
    (fun f cdv A outer s H E hr => (show PSs _ _ _ from (pss_cons (ps_if (pw_or (pt_not (pt_val (pe_callB cl_isk (by rfl) b_isinstance (by decide +kernel) (pa_cons (pv 0) (pa_cons (pe_bltn (v := .ty "list") (by rfl) b_list (by decide +kernel) rfl) pa_nil))))) (pw_or1 (pt_cmpR op_ne (pe_callB cl_len (by rfl) b_len PySem.boot_len (pa_cons (pv 0) pa_nil)) (pv 1) (nomark _)))).pt (pss_one (ps_ret pe_bl)) pss_nil) (pss_cons (ps_setLc (i := 2) (own := [("_law_bit", 3)]) rfl sc_lisbare.nd rfl rfl (sw_true rfl rfl rfl (by decide +kernel)) (pi_list (pv 0)) (blkOk_by (N := N_lisbare) (sc := defScope s_lisbare) (by decide +kernel)) (fun _ _ _ _ _ => (pg_name (i := 3) sc_lisbare.nd rfl (Or.inl rfl))) (fun _ _ _ _ _ => (pts_one (pw_or (pt_val (pe_callB cl_isk (by rfl) b_isinstance (by decide +kernel) (pa_cons (pv 3) (pa_cons (pe_bltn (v := .ty "bool") (by rfl) b_bool (by decide +kernel) rfl) pa_nil)))) (pw_or1 (pt_not (pt_val (pe_callB cl_isk (by rfl) b_isinstance (by decide +kernel) (pa_cons (pv 3) (pa_cons (pe_bltn (v := .ty "int") (by rfl) b_int (by decide +kernel) rfl) pa_nil))))))).pt)) (fun _ _ _ _ _ => (pv 3))) (pss_one (ps_ret (pe_and (pe_cmpR (op_eqD (hu64 hr)) (pv 2) (pe_lst pa_nil) (nomark _)) (pe_one (pe_cmpR (op_eqD (hu64 hr)) (pe_lc (own := [("_law_bit", 3)]) rfl sc_lisbare.nd (pi_list (pv 0)) (blkOk_by (N := N_lisbare) (sc := defScope s_lisbare) (by decide +kernel)) (fun _ _ _ _ _ => (pg_name (i := 3) sc_lisbare.nd rfl (Or.inl rfl))) (fun _ _ _ _ _ => (pts_one (pt_cmpR op_notIn_seq (pv 3) (pe_tup (pa_cons pe_int (pa_cons pe_int pa_nil))) (by with_unfolding_all rfl)))) (fun _ _ _ _ _ => (pv 3))) (pe_lst pa_nil) (nomark _)))))))))) rd
theorem ok_lrows (h : Here K mg "_law_rows" s_lrows) (C_ldraw : Cal P w K mg base CX0 1 "_law_draw" ["_law_cell", "_law_k", "_law_j"] (sp_ldraw K)) (b_len : mg "len" = none) (b_range : mg "range" = none)
    (len : ∀ vs H Q E, sp_lrows K vs H Q E → vs.length = P_lrows.length)
    (rd : ∀ (vs : List V) (H : Hp) (Q : VK) (E : XK), sp_lrows K vs H Q E → r_lrows K { nx := fun _ H' => Q .non H', rt := Q } (start N_lrows vs) H) :
    Cal P w K mg base CX0 2 "_law_rows" P_lrows (sp_lrows K) := by
  exact h.cal sc_lrows len (fun _ _ _ _ _ _ us hl => match us, hl with | [_, _], _ => rfl)
    (fun f cdv A outer s H E hr => (show PSs _ _ _ from (pss_cons (ps_set (i := 2) sc_lrows.nd rfl (Or.inl rfl) (pe_slice sl_list (pv 0) po_none (po_some pe_int))) (pss_cons (ps_set (i := 3) sc_lrows.nd rfl (Or.inl rfl) (pe_lst pa_nil)) (pss_cons (ps_for PassesOwn.never rfl (pi_range3 (by rfl) b_range (pa_cons pe_int (pa_cons (pe_op op_add (pe_callB cl_len (by rfl) b_len PySem.boot_len (pa_cons (pv 2) pa_nil)) (pv 1)) (pa_cons (pv 1) pa_nil)))) (pg_name (i := 4) sc_lrows.nd rfl (Or.inl rfl)) (pss_cons (ps_set (i := 5) sc_lrows.nd rfl (Or.inl rfl) (pe_lst pa_nil)) (pss_cons (ps_for PassesOwn.never rfl (pi_range1 (by rfl) b_range (pa_cons (pv 1) pa_nil)) (pg_name (i := 6) sc_lrows.nd rfl (Or.inl rfl)) (pss_cons (ps_set (i := 7) sc_lrows.nd rfl (Or.inl rfl) (pe_ifExp (pt_cmpR (op_neD (hu64 hr)) (pv 2) (pe_lst pa_nil) (nomark _)) (pe_ix ix_list (pv 2) (pe_op op_mod (pe_op op_add (pv 4) (pv 6)) (pe_callB cl_len (by rfl) b_len PySem.boot_len (pa_cons (pv 2) pa_nil))) (fun _ _ => rfl)) (pv 6))) (pss_cons (ps_set (i := 8) sc_lrows.nd rfl (Or.inl rfl) (pe_cal C_ldraw (hr.mono (by decide)) (by rfl) (pa_cons (pv 7) (pa_cons (pe_op op_add (pv 4) (pv 6)) (pa_cons pe_int pa_nil))))) (pss_one (ps_expr (pe_bm PySem.F.plainAttrs_list PySem.F.slot_list_append PySem.F.type_list_append md_append (pv 5) (pa_cons (pe_ix ix_list (pe_lst (pa_cons (pe_op op_mod (pv 7) (pe_op op_pow pe_int pe_int)) (pa_cons (pe_op op_sub pe_int (pe_op op_mod (pv 7) (pe_op op_pow pe_int pe_int))) (pa_cons (pe_op op_mod (pv 8) pe_int) (pa_cons (pe_op op_sub (pe_op op_mod (pv 7) pe_int) pe_int) pa_nil))))) (pe_op op_mod (pe_op op_fdiv (pv 8) pe_int) pe_int) (fun _ _ => rfl)) pa_nil))))))) (pss_one (ps_expr (pe_bm PySem.F.plainAttrs_list PySem.F.slot_list_append PySem.F.type_list_append md_append (pv 3) (pa_cons (pv 5) pa_nil))))))) (pss_one (ps_ret (pv 3)))))))) rd
theorem ok_lbenched (h : Here K mg "_law_benched" s_lbenched) (M_binit : MkCal P w K mg base CX0 3 "Bench" ["self", "lines"] (sp_binit K)) (M_bput : MCal P w K mg base CX0 4 "Bench" "put" ["self", "comparer"] (sp_bput K)) (b_enumerate : mg "enumerate" = none)
    (len : ∀ vs H Q E, sp_lbenched K vs H Q E → vs.length = P_lbenched.length)
    (rd : ∀ (vs : List V) (H : Hp) (Q : VK) (E : XK), sp_lbenched K vs H Q E → r_lbenched K { nx := fun _ H' => Q .non H', rt := Q } (start N_lbenched vs) H) :
    Cal P w K mg base CX0 5 "_law_benched" P_lbenched (sp_lbenched K) := by
  exact h.cal sc_lbenched len (fun _ _ _ _ _ _ us hl => match us, hl with | [_, _], _ => rfl)
    (fun f cdv A outer s H E hr => (show PSs _ _ _ from (pss_cons (ps_set (i := 2) sc_lbenched.nd rfl (Or.inl rfl) (pe_mk M_binit (hr.mono (by decide)) (by rfl) (pa_cons (pv 0) pa_nil))) (pss_cons (ps_set (i := 3) sc_lbenched.nd rfl (Or.inl rfl) (pe_lst pa_nil)) (pss_cons (ps_for PassesOwn.never rfl (pi_enum (by rfl) b_enumerate (pa_cons (pv 1) pa_nil)) (pg_tup rfl (pgs_cons (pg_name (i := 4) sc_lbenched.nd rfl (Or.inl rfl)) (pgs_cons (pg_name (i := 5) sc_lbenched.nd rfl (Or.inl rfl)) pgs_nil))) (pss_one (ps_if (pt_not (pt_val (pe_met M_bput (hr.mono (by decide)) (pv 2) (pa_cons (pv 5) pa_nil)))) (pss_one (ps_expr (pe_bm PySem.F.plainAttrs_list PySem.F.slot_list_append PySem.F.type_list_append md_append (pv 3) (pa_cons (pv 4) pa_nil)))) pss_nil))) (pss_one (ps_ret (pe_tup (pa_cons (pv 2) (pa_cons (pv 3) pa_nil)))))))))) rd
theorem ok_lwildgood (h : Here K mg "_law_wild_good" s_lwildgood) (C_unsorted : Cal P w K mg base CX0 5 "unsorted" ["lines", "comparers"] (sp_unsorted K)) (C_lgone : Cal P w K mg base CX0 1 "_law_gone" ["_law_comparers", "_law_row"] (sp_lgone K)) (C_lbare : Cal P w K mg base CX0 1 "_law_bare" ["_law_lines"] (sp_lbare K)) (M_bwild : MCal P w K mg base CX0 2 "Bench" "wild" ["self"] (sp_bwild K)) (b_sorted : mg "sorted" = none)
    (len : ∀ vs H Q E, sp_lwildgood K vs H Q E → vs.length = P_lwildgood.length)
    (rd : ∀ (vs : List V) (H : Hp) (Q : VK) (E : XK), sp_lwildgood K vs H Q E → r_lwildgood K { nx := fun _ H' => Q .non H', rt := Q } (start N_lwildgood vs) H) :
    Cal P w K mg base CX0 6 "_law_wild_good" P_lwildgood (sp_lwildgood K) := by
  exact h.cal sc_lwildgood len (fun _ _ _ _ _ _ us hl => match us, hl with | [_, _, _], _ => rfl)
    (fun f cdv A outer s H E hr => (show PSs _ _ _ from (pss_cons (ps_set (i := 3) sc_lwildgood.nd rfl (Or.inl rfl) (pe_met0 M_bwild (hr.mono (by decide)) (pv 2))) (pss_cons (ps_if (pt_cmpR op_isN1 (pv 3) pe_non (nomark _)) (pss_one (ps_ret (pe_cmpR op_isN1 (pe_cal C_unsorted (hr.mono (by decide)) (by rfl) (pa_cons (pv 0) (pa_cons (pv 1) pa_nil))) pe_non (nomark _)))) pss_nil) (pss_cons (ps_setLc (i := 4) (own := [("_law_one", 5)]) rfl sc_lwildgood.nd rfl rfl (sw_true rfl rfl rfl (by decide +kernel)) (pi_list (pe_cal C_lbare (hr.mono (by decide)) (by rfl) (pa_cons (pv 0) pa_nil))) (blkOk_by (N := N_lwildgood) (sc := defScope s_lwildgood) (by decide +kernel)) (fun _ _ _ _ _ => (pg_name (i := 5) sc_lwildgood.nd rfl (Or.inl rfl))) (fun _ _ _ _ _ => pts_nil) (fun _ _ _ _ _ => (pe_cal C_lgone (hr.mono (by decide)) (by rfl) (pa_cons (pv 1) (pa_cons (pv 5) pa_nil))))) (pss_one (ps_ret (pe_and (pe_cmpR op_notN1 (pe_cal C_unsorted (hr.mono (by decide)) (by rfl) (pa_cons (pv 0) (pa_cons (pv 1) pa_nil))) pe_non (nomark _)) (pe_and (pe_cmpR (op_inD (hu65 hr)) (pv 3) (pv 4) (by with_unfolding_all rfl)) (pe_one (pe_cmpR (op_neD (hu64 hr)) (pv 3) (pe_callB cr_sortedI (by rfl) b_sorted (by decide +kernel) (pa_cons (pv 3) pa_nil)) (nomark _)))))))))))) rd
theorem ok_law (h : Here K mg "law" s_law) (C_layers : Cal P w K mg base CX0 5 "layers" ["lines", "comparers"] (sp_layers K)) (C_needless : Cal P w K mg base CX0 5 "needless" ["lines", "comparers"] (sp_needless K)) (C_pruned : Cal P w K mg base CX0 6 "pruned" ["lines", "comparers"] (sp_pruned K)) (C_sorting : Cal P w K mg base CX0 12 "sorting" ["lines"] (sp_sorting K)) (C_run : Cal P w K mg base CX0 6 "run" ["lines", "comparers", "row"] (sp_run K)) (C_webtext : Cal P w K mg base (L2.CX P w) 5 "web_text" ["lines", "comparers"] (sp_webtext K)) (C_webof : Cal P w K mg base (L2.CX P w) 5 "web_of" ["text"] (sp_webof K)) (C_renamed : Cal P w K mg base CX0 5 "renamed" ["lines", "comparers", "order"] (sp_renamed K)) (C_upside : Cal P w K mg base CX0 5 "upside" ["lines", "comparers"] (sp_upside K)) (C_straightened : Cal P w K mg base CX0 5 "straightened" ["lines", "comparers"] (sp_straightened K)) (C_ldraw : Cal P w K mg base CX0 1 "_law_draw" ["_law_cell", "_law_k", "_law_j"] (sp_ldraw K)) (C_lweb : Cal P w K mg base CX0 2 "_law_web" ["_law_script"] (sp_lweb K)) (C_lrows : Cal P w K mg base CX0 2 "_law_rows" ["_law_script", "_law_lines"] (sp_lrows K)) (C_lbenched : Cal P w K mg base CX0 5 "_law_benched" ["_law_lines", "_law_comparers"] (sp_lbenched K)) (C_lwildgood : Cal P w K mg base CX0 6 "_law_wild_good" ["_law_lines", "_law_comparers", "_law_bench"] (sp_lwildgood K)) (M_bcomps : MCal P w K mg base CX0 1 "Bench" "comparers" ["self"] (sp_bcomps K)) (b_len : mg "len" = none) (b_list : mg "list" = none) (b_range : mg "range" = none) (b_sorted : mg "sorted" = none) (b_sum : mg "sum" = none)
    (len : ∀ vs H Q E, sp_law K vs H Q E → vs.length = P_law.length)
    (rd : ∀ (vs : List V) (H : Hp) (Q : VK) (E : XK), sp_law K vs H Q E → r_law K { nx := fun _ H' => Q .non H', rt := Q } (start N_law vs) H) :
    Cal P w K mg base CX0 13 "law" P_law (sp_law K) := by
  exact h.cal sc_law len (fun _ _ _ _ _ _ us hl => match us, hl with | [_], _ => rfl)
    (fun f cdv A outer s H E hr => (show PSs _ _ _ from (pss_cons (ps_asg (pe_cal C_lweb (hr.mono (by decide)) (by rfl) (pa_cons (pv 0) pa_nil)) (pg_tup rfl (pgs_cons (pg_name (i := 1) sc_law.nd rfl (Or.inr rfl)) (pgs_cons (pg_name (i := 2) sc_law.nd rfl (Or.inl rfl)) pgs_nil)))) (pss_cons (ps_set (i := 3) sc_law.nd rfl (Or.inl rfl) (pe_cal C_lrows (hr.mono (by decide)) (by rfl) (pa_cons (pv 0) (pa_cons (pv 1) pa_nil)))) (pss_cons (ps_set (i := 4) sc_law.nd rfl (Or.inl rfl) (pe_cal C_ldraw (hr.mono (by decide)) (by rfl) (pa_cons (pe_callB (cr_sum rfl) (by rfl) b_sum (by decide +kernel) (pa_cons (pe_slice sl_list (pv 0) po_none (po_some pe_int)) pa_nil)) (pa_cons pe_int (pa_cons pe_int pa_nil))))) (pss_cons (ps_set (i := 5) sc_law.nd rfl (Or.inr rfl) (pe_op op_cat (pe_slice sl_list (pe_listRg rfl (by rfl) b_list (prg_1 (by rfl) b_range (pv 1))) (po_some (pe_op op_mod (pv 4) (pv 1))) po_none) (pe_slice sl_list (pe_listRg rfl (by rfl) b_list (prg_1 (by rfl) b_range (pv 1))) po_none (po_some (pe_op op_mod (pv 4) (pv 1)))))) (pss_cons (ps_setLc (i := 6) (own := [("_law_k", 16)]) rfl sc_law.nd rfl rfl (sw_true rfl rfl rfl (by decide +kernel)) (pi_range1 (by rfl) b_range (pa_cons (pv 1) pa_nil)) (blkOk_by (N := N_law) (sc := defScope s_law) (by decide +kernel)) (fun _ _ _ _ _ => (pg_name (i := 16) sc_law.nd rfl (Or.inl rfl))) (fun _ _ _ _ _ => pts_nil) (fun _ _ _ _ _ => (pe_bm PySem.F.plainAttrs_list PySem.F.slot_list_index PySem.F.type_list_index md_indexL (pv 5) (pa_cons (pv 16) pa_nil)))) (pss_cons (ps_asg (pe_cal C_lbenched (hr.mono (by decide)) (by rfl) (pa_cons (pv 1) (pa_cons (pv 2) pa_nil))) (pg_tup rfl (pgs_cons (pg_name (i := 7) sc_law.nd rfl (Or.inl rfl)) (pgs_cons (pg_name (i := 8) sc_law.nd rfl (Or.inl rfl)) pgs_nil)))) (pss_cons (ps_if (pw_or (pt_cmpR (op_neD (hu64 hr)) (pv 8) (pe_cal C_needless (hr.mono (by decide)) (by rfl) (pa_cons (pv 1) (pa_cons (pv 2) pa_nil))) (nomark _)) (pw_or1 (pt_cmpR (op_neD (hu64 hr)) (pe_met0 M_bcomps (hr.mono (by decide)) (pv 7)) (pv 2) (nomark _)))).pt (pss_one (ps_ret pe_bl)) pss_nil) (pss_cons (ps_if (pt_not (pt_val (pe_cal C_lwildgood (hr.mono (by decide)) (by rfl) (pa_cons (pv 1) (pa_cons (pv 2) (pa_cons (pv 7) pa_nil)))))) (pss_one (ps_ret pe_bl)) pss_nil) (pss_cons (ps_set (i := 9) sc_law.nd rfl (Or.inl rfl) (pe_lst (pa_cons (pe_ix ix_tup (pe_cal C_webof.quiet (hr.mono (by decide)) (by rfl) (pa_cons (pe_cal C_webtext.quiet (hr.mono (by decide)) (by rfl) (pa_cons (pv 1) (pa_cons (pv 2) pa_nil))) pa_nil)) pe_int (fun _ _ => rfl)) (pa_cons (pe_callB (cr_sumL rfl) (by rfl) b_sum (by decide +kernel) (pa_cons (pe_cal C_layers (hr.mono (by decide)) (by rfl) (pa_cons (pv 1) (pa_cons (pv 2) pa_nil))) (pa_cons (pe_lst pa_nil) pa_nil))) pa_nil)))) (pss_cons (ps_set (i := 9) sc_law.nd rfl (Or.inl rfl) (pe_op op_cat (pv 9) (pe_lst (pa_cons (pe_cal C_pruned (hr.mono (by decide)) (by rfl) (pa_cons (pv 1) (pa_cons (pv 2) pa_nil))) (pa_cons (pe_cal C_upside (hr.mono (by decide)) (by rfl) (pa_cons (pv 1) (pa_cons (pe_cal C_upside (hr.mono (by decide)) (by rfl) (pa_cons (pv 1) (pa_cons (pv 2) pa_nil))) pa_nil))) pa_nil))))) (pss_cons (ps_expr (pe_bm PySem.F.plainAttrs_list PySem.F.slot_list_append PySem.F.type_list_append md_append (pv 9) (pa_cons (pe_met0 M_bcomps (hr.mono (by decide)) (pv 7)) pa_nil))) (pss_cons (ps_expr (pe_bm PySem.F.plainAttrs_list PySem.F.slot_list_append PySem.F.type_list_append md_append (pv 9) (pa_cons (pe_cal C_renamed (hr.mono (by decide)) (by rfl) (pa_cons (pv 1) (pa_cons (pe_cal C_renamed (hr.mono (by decide)) (by rfl) (pa_cons (pv 1) (pa_cons (pv 2) (pa_cons (pv 5) pa_nil)))) (pa_cons (pv 6) pa_nil)))) pa_nil))) (pss_cons (ps_asg (pe_cal C_straightened (hr.mono (by decide)) (by rfl) (pa_cons (pv 1) (pa_cons (pv 2) pa_nil))) (pg_tup rfl (pgs_cons (pg_name (i := 10) sc_law.nd rfl (Or.inl rfl)) (pgs_cons (pg_name (i := 11) sc_law.nd rfl (Or.inr rfl)) pgs_nil)))) (pss_cons (ps_set (i := 12) sc_law.nd rfl (Or.inl rfl) (pe_op op_mod (pe_op op_fdiv (pv 4) pe_int) (pe_op op_add (pe_callB cl_len (by rfl) b_len PySem.boot_len (pa_cons (pv 2) pa_nil)) pe_int))) (pss_cons (ps_for PassesOwn.never rfl (pi_list (pv 3)) (pg_name (i := 13) sc_law.nd rfl (Or.inr rfl)) (pss_cons (ps_set (i := 14) sc_law.nd rfl (Or.inr rfl) (pe_cal C_run (hr.mono (by decide)) (by rfl) (pa_cons (pv 1) (pa_cons (pv 2) (pa_cons (pv 13) pa_nil))))) (pss_cons (ps_if (pt_cmpR (op_neD (hu64 hr)) (pe_lc (own := [("_law_web_here", 17)]) rfl sc_law.nd (pi_list (pv 9)) (blkOk_by (N := N_law) (sc := defScope s_law) (by decide +kernel)) (fun _ _ _ _ _ => (pg_name (i := 17) sc_law.nd rfl (Or.inl rfl))) (fun _ _ _ _ _ => (pts_one (pt_cmpR (op_neD (hu64 hr)) (pe_cal C_run (hr.mono (by decide)) (by rfl) (pa_cons (pv 1) (pa_cons (pv 17) (pa_cons (pv 13) pa_nil)))) (pv 14) (nomark _)))) (fun _ _ _ _ _ => (pv 17))) (pe_lst pa_nil) (nomark _)) (pss_one (ps_ret pe_bl)) pss_nil) (pss_cons (ps_set (i := 15) sc_law.nd rfl (Or.inr rfl) (pe_cal C_run (hr.mono (by decide)) (by rfl) (pa_cons (pv 1) (pa_cons (pv 10) (pa_cons (pv 13) pa_nil))))) (pss_cons (ps_if (pt_cmpR (op_neD (hu64 hr)) (pe_lc (own := [("_law_k", 16)]) rfl sc_law.nd (pi_range1 (by rfl) b_range (pa_cons (pv 1) pa_nil)) (blkOk_by (N := N_law) (sc := defScope s_law) (by decide +kernel)) (fun _ _ _ _ _ => (pg_name (i := 16) sc_law.nd rfl (Or.inl rfl))) (fun _ _ _ _ _ => pts_nil) (fun _ _ _ _ _ => (pe_ix ix_list (pv 15) (pe_ix ix_list (pv 11) (pv 16) (fun _ _ => rfl)) (fun _ _ => rfl)))) (pv 14) (nomark _)) (pss_one (ps_ret pe_bl)) pss_nil) (pss_cons (ps_if (pt_cmpR (op_neD (hu64 hr)) (pe_cal C_run (hr.mono (by decide)) (by rfl) (pa_cons (pv 1) (pa_cons (pe_slice sl_list (pv 2) (po_some (pv 12)) po_none) (pa_cons (pe_cal C_run (hr.mono (by decide)) (by rfl) (pa_cons (pv 1) (pa_cons (pe_slice sl_list (pv 2) po_none (po_some (pv 12))) (pa_cons (pv 13) pa_nil)))) pa_nil)))) (pv 14) (nomark _)) (pss_one (ps_ret pe_bl)) pss_nil) (pss_one (ps_if (pt_cmpR (op_neD (hu64 hr)) (pe_cal C_run (hr.mono (by decide)) (by rfl) (pa_cons (pv 1) (pa_cons (pe_cal C_sorting (hr.mono (by decide)) (by rfl) (pa_cons (pv 1) pa_nil)) (pa_cons (pv 14) pa_nil)))) (pe_callB cr_sortedI (by rfl) b_sorted (by decide +kernel) (pa_cons (pv 13) pa_nil)) (nomark _)) (pss_one (ps_ret pe_bl)) pss_nil)))))))) (pss_one (ps_ret pe_bl))))))))))))))))))) rd
theorem ok_initBadWeb (h : Met K "BadWeb" "__init__" "BadWeb.__init__" s_initBadWeb) (W_WebError : InK K mg "WebError") (O_BadWeb : OwK K mg "BadWeb" "place") : InitOk P w K mg base 1 "BadWeb" "place" := by
  obtain ⟨fd, D⟩ := h
  refine ⟨fd, D.ok sc_initBadWeb (fun vs H Q E h => by obtain ⟨_, _, rfl, _⟩ := h; rfl) fun cdv A outer s H vs Q E hr h => ⟨rInit K "no web, place " "place", ?_, rd_init O_BadWeb (by decide) vs H Q E h⟩, D.bindsN fun _ _ _ _ _ _ us hl => match us, hl with | [_, _], _ => rfl⟩
  exact (show PSs _ _ _ from (pss_cons (ps_expr (pe_winit W_WebError (by rfl) (pa_cons (pv 0) (pa_cons (pe_joined (.cons pe_str (.cons (pe_fmtN (pv 1)) .nil))) pa_nil)))) (pss_one (ps_ost (pv 0) (pv 1)))))
end
end Sw

set_option Elab.async false
set_option linter.all false
set_option maxRecDepth 100000
set_option maxHeartbeats 4000000
namespace Sw
open PySem PySem.Spec PyProof.Rows L2
local macro_rules | `(tactic| walk_at "ev") => `(tactic| simp only [tSeq, tAsg, tRet, tRetN, tOp, tUn, tVar, tC, tNil, tCons, tCB, tDrop, tNext, tCont, tBreak, tIfS, tIf, tTest, tChain, tB, tTup, tLst, tAnd, tOr, tNot, tAndV, tOrV, tNotV, tPart, tNoPart, tSl, tCal, tAug, ipI, rI0, rI, rU, rEq, rNe, kMin, kMax, gName, gCons, gNil, L2.start, wipe, List.map_cons, List.map_nil, List.length_cons, List.length_nil, List.cons_append, List.nil_append, List.append_nil, Nat.reduceAdd, Nat.reduceSub, List.replicate_succ, List.replicate_zero, List.getElem?_cons_zero, List.getElem?_cons_succ, List.set_cons_succ, List.set_cons_zero, Option.some.injEq, exists_eq_left', exists_eq_left, V.int.injEq, V.bl.injEq, V.str.injEq, V.ref.injEq, List.cons.injEq, exists_and_left, and_assoc, and_true, true_and, scal_ii, scal_ss, scal_nn, scal_bb, scal_ni, scal_in, decide_eq_true_eq, Bool.not_true, Bool.not_false, Bool.not_eq_true', decide_eq_false_iff_not, ite_not, reduceCtorEq, if_true, if_false, Bool.false_eq_true, ne_eq, not_true_eq_false, not_false_eq_true, Int.reduceLT, Int.reduceLE, Int.reduceNeg])
local macro_rules | `(tactic| walk_at "cm") => `(tactic| first | exact Or.inr ⟨by decide, by decide⟩ | exact Or.inl ⟨by decide, by decide⟩ | exact Or.inl ⟨by omega, by omega⟩ | exact Or.inr ⟨by omega, by omega⟩)
variable {K : PySem.W.Frag}

theorem rd_ldraw (vs : List V) (H : Hp) (Q : VK) (E : XK) (h : sp_ldraw K vs H Q E) : r_ldraw K { nx := fun _ H' => Q .non H', rt := Q } (L2.start N_ldraw vs) H := by
  obtain ⟨c, k, j, rfl, hk, hj, q⟩ := h
  unfold r_ldraw N_ldraw
  walk_at "ev"
  refine ⟨by walk_at "cm", by walk_at "cm", by walk_at "cm", by walk_at "cm", by walk_at "cm", by walk_at "cm", ⟨by decide, by decide⟩, ?_⟩
  refine q _ ?_ ?_ <;> omega
/-- a drawn pair of lines -/
theorem drawn_pair {m : Int} {n : Nat} (h2 : 2 ≤ n) : ∃ a b : Nat, m % (n : Int) = (a : Int) ∧ (m % (n : Int) + 1 + m / 10 % ((n : Int) - 1)) % (n : Int) = (b : Int) ∧ a < n ∧ b < n ∧ a ≠ b := by
  have p : (0 : Int) < n := by omega
  have p1 : (0 : Int) < (n : Int) - 1 := by omega
  have a0 := Int.emod_nonneg m (Int.ne_of_gt p)
  have a1 := Int.emod_lt_of_pos m p
  have r0 := Int.emod_nonneg (m / 10) (Int.ne_of_gt p1)
  have r1 := Int.emod_lt_of_pos (m / 10) p1
  generalize m % (n : Int) = a at a0 a1 ⊢
  generalize m / 10 % ((n : Int) - 1) = r at r0 r1 ⊢
  have b : (a + 1 + r) % (n : Int) = if a + 1 + r < n then a + 1 + r else a + 1 + r - n := by
    by_cases h : a + 1 + r < n
    · rw [if_pos h, Int.emod_eq_of_lt (by omega) h]
    · rw [if_neg h, ← Int.sub_emod_right, Int.emod_eq_of_lt (by omega) (by omega)]
  rw [b]
  refine ⟨a.toNat, (if a + 1 + r < n then a + 1 + r else a + 1 + r - n).toNat, by omega, by split <;> omega, by omega, by split <;> omega, by split <;> omega⟩
theorem rd_lcomparer (vs : List V) (H : Hp) (Q : VK) (E : XK) (h : sp_lcomparer K vs H Q E) : r_lcomparer K { nx := fun _ H' => Q .non H', rt := Q } (L2.start N_lcomparer vs) H := by
  obtain ⟨m, n, rfl, hm, h2, h10, q⟩ := h
  unfold r_lcomparer N_lcomparer
  obtain ⟨a, b, ea, eb, la, lb, ne⟩ := drawn_pair (m := m) h2
  walk_at "ev"
  refine ⟨by omega, ⟨by decide, by decide⟩, by omega, by omega, ⟨by decide, by decide⟩, ?_⟩
  rw [eb, ea]
  split
  · refine ⟨small_line (by decide), fun p hp => ?_⟩
    rcases Nat.lt_or_gt_of_ne ne with h | h
    · refine q _ p (a, b) (same_new hp) hp ?_ ⟨la, lb, ne⟩
      rw [upd_same, if_neg (by omega), if_pos (by omega)] <;> rfl
    · refine q _ p (b, a) (same_new hp) hp ?_ ⟨lb, la, ne.symm⟩
      rw [upd_same, if_pos (by omega), if_neg (by omega)] <;> rfl
  · exact ⟨small_line (by decide), fun p hp => q _ p (a, b) (same_new hp) hp upd_same ⟨la, lb, ne⟩⟩
theorem brick_count {n t : Nat} (hn : n ≤ 7) : upN (t : Int) ((n : Int) - 1) 2 ≤ 4 := by
  unfold upN
  split <;> omega
/-- the list so far: pairs, comparers of n lines, as many as cs -/
def Gcs (K : PySem.W.Frag) (n : Nat) (H0 : Hp) (k : Nat) (acc : List V) (H' : Hp) : Prop := ∃ ps cs, acc = Rfs ps ∧ Same H0 H' ∧ Prs K H' ps cs ∧ CmpsOk n cs ∧ cs.length = k
theorem Gcs.nil {n : Nat} {H0 : Hp} {D : Addr} (h : H0 D = none) : Gcs K n H0 0 [] (upd H0 D (.lst [])) := ⟨[], [], rfl, same_new h, .nil, (fun _ h => by cases h), rfl⟩
theorem Gcs.snoc {n k : Nat} {H0 H' H2 : Hp} {D p : Addr} {acc : List V} {c : Cmp} (g : Gcs K n H0 k acc H') (nD : H0 D = none) (s : Same H' H2) (hD : H2 D = some (.lst acc)) (hp : SqT K H2 p (V2 c)) (ok : CmpOk n c) :
    Gcs K n H0 (k + 1) (acc ++ [.ref p]) (upd H2 D (.lst (acc ++ [.ref p]))) := by
  obtain ⟨ps, cs, rfl, s0, h, oks, z⟩ := g
  refine ⟨ps ++ [p], cs ++ [c], ?_, same_mut (s0.trans s) nD, prs_upd hD ((Same.prs s h).snoc hp), ?_, ?_⟩
  · unfold Rfs
    rw [List.map_append] <;> rfl
  · intro d hd
    rcases List.mem_append.mp hd with h | h
    · exact oks d h
    · rw [List.mem_singleton] at h
      rw [h]
      exact ok
  · rw [List.length_append, z] <;> rfl
theorem Gcs.len {n k : Nat} {H0 H' : Hp} {acc : List V} (g : Gcs K n H0 k acc H') : acc.length = k := by
  obtain ⟨ps, cs, rfl, _, h, _, z⟩ := g
  show (ps.map V.ref).length = k
  rw [List.length_map, h.length, z]
def Wbricks (K : PySem.W.Frag) (n : Nat) (H : Hp) (i : Nat) (σ : L2.St) (H' : Hp) : Prop := ∃ y l ps cs, σ = [some (.int (n : Int)), some (.ref l), y, none] ∧ Same H H' ∧ H l = none ∧ H' l = some (.lst (Rfs ps)) ∧ Prs K H' ps cs ∧ CmpsOk n cs ∧ cs.length ≤ 4 * i
theorem rd_lbricks (vs : List V) (H : Hp) (Q : VK) (E : XK) (h : sp_lbricks K vs H Q E) : r_lbricks K { nx := fun _ H' => Q .non H', rt := Q } (L2.start N_lbricks vs) H := by
  obtain ⟨n, rfl, h7, q⟩ := h
  unfold r_lbricks N_lbricks
  walk_at "ev"
  refine ⟨Nat.zero_le _, fun l0 n0 => ?_⟩
  refine for_rng (n := n) (fun Q q => ?_) (by omega) (Wbricks K n H)
    ⟨none, l0, [], [], rfl, same_new n0, n0, upd_same, .nil, (fun _ h => by cases h), Nat.zero_le _⟩ (fun i σ H' hi hW => ?_) (fun σ H' hW => ?_)
  · walk_at "ev"
    exact q
  · obtain ⟨y, l, ps, cs, rfl, sm, nl, hl, hp, hc, hz⟩ := hW
    unfold r_lbricks_f1
    walk_at "ev"
    have e2 : (i : Int) % 2 = ((i % 2 : Nat) : Int) := by omega
    have hz' := brick_count (n := n) (t := i % 2) h7
    refine lc_rng3 (lo := ((i % 2 : Nat) : Int)) (hi := (n : Int) - 1) (c := 2) (n := upN ((i % 2 : Nat) : Int) ((n : Int) - 1) 2) (fun Q q => ?_) (upN_rgc (by omega) (by omega) (by omega)) (fun v => rfl)
      (fun D => Gcs K n H') (fun D nD => .nil nD) ?_ ?_
    · walk_at "ev"
      rw [e2]
      exact q
    · intro D k acc H3 nD hk hD g
      refine .yes ?_
      walk_at "ev"
      refine ⟨small_line (by decide), fun p np => ?_⟩
      have lt := upN_lt (by decide) hk
      have hDp : D ≠ p := ne_of_none hD np
      refine GoOn.mk (acc := acc) (by rw [upd_ne hDp]; exact hD) (by have := g.len; omega) ?_
      refine g.snoc (c := ((i % 2 + k * 2), (i % 2 + k * 2 + 1))) nD (same_new np) (by rw [upd_ne hDp]; exact hD) (.inl (.inl ?_)) ⟨by show i % 2 + k * 2 < n; omega, by show i % 2 + k * 2 + 1 < n; omega, by show i % 2 + k * 2 ≠ i % 2 + k * 2 + 1; omega⟩
      rw [upd_same] <;> rfl
    · intro D acc H3 nD hD g
      obtain ⟨ps', cs', rfl, s3, p3, c3, z3⟩ := g
      have hl3 := s3 _ _ hl
      have := p3.length
      have := hp.length
      refine ⟨l, D, Rfs ps, Rfs ps', rfl, rfl, hl3, hD, ?_, fun p np => ?_⟩
      · unfold Rfs
        rw [List.length_map, List.length_map]
        exact small_line (by omega)
      · have s4 := (same_new (o := .lst (Rfs ps ++ Rfs ps')) np)
        refine ⟨some (.int (i : Int)), p, ps ++ ps', cs ++ cs', rfl, (sm.trans s3).trans s4, (sm.trans s3).free np, ?_, (Same.prs s4 (Same.prs s3 hp)).append (Same.prs s4 p3), ?_, ?_⟩
        · rw [upd_same]
          unfold Rfs
          rw [List.map_append]
        · intro c hc'
          rcases List.mem_append.mp hc' with h | h
          · exact hc c h
          · exact c3 c h
        · rw [List.length_append]
          omega
  · obtain ⟨y, l, ps, cs, rfl, sm, nl, hl, hp, hc, hz⟩ := hW
    walk_at "ev"
    exact q H' l ps cs sm nl hl hp hc (by omega)

theorem lines_pick {n : Int} (h : 0 ≤ n) : ∃ L : Nat, 1 ≤ L ∧ L ≤ 7 ∧ atI [V.int (2 + n / 8 % 5), V.int (3 + n / 8 % 3), V.int (1 + n / 8 % 7), V.int 4] (n % 4) = some (.int (L : Int)) := by
  have c : n % 4 = ((0 : Nat) : Int) ∨ n % 4 = ((1 : Nat) : Int) ∨ n % 4 = ((2 : Nat) : Int) ∨ n % 4 = ((3 : Nat) : Int) := by omega
  rcases c with c | c | c | c <;> rw [c]
  · refine ⟨(2 + n / 8 % 5).toNat, by omega, by omega, ?_⟩
    rw [Int.toNat_of_nonneg (by omega)] <;> rfl
  · refine ⟨(3 + n / 8 % 3).toNat, by omega, by omega, ?_⟩
    rw [Int.toNat_of_nonneg (by omega)] <;> rfl
  · refine ⟨(1 + n / 8 % 7).toNat, by omega, by omega, ?_⟩
    rw [Int.toNat_of_nonneg (by omega)] <;> rfl
  · exact ⟨4, by decide, by decide, rfl⟩
def Wweb (K : PySem.W.Frag) (a c : Addr) (n : Int) (L : Nat) (H : Hp) (xs : List V) (i : Nat) (σ : L2.St) (H' : Hp) : Prop :=
  ∃ y4 y5 y7 y8 l ps cs, σ = [some (.ref a), some (.ref c), some (.int n), some (.int (L : Int)), y4, y5, some (.ref l), y7, y8] ∧ Same H H' ∧ H l = none ∧ H' l = some (.lst (Rfs ps)) ∧ Prs K H' ps cs ∧ WebOk L cs ∧ H' c = some (.lst xs) ∧ c ≠ l
theorem rd_lweb (vs : List V) (H : Hp) (Q : VK) (E : XK) (h : sp_lweb K vs H Q E) : r_lweb K { nx := fun _ H' => Q .non H', rt := Q } (L2.start N_lweb vs) H := by
  obtain ⟨a, ns, rfl, ha, hn, q⟩ := h
  unfold r_lweb N_lweb
  walk_at "ev"
  refine ⟨a, _, rfl, ha, fun c nc => ?_⟩
  have e40 : cutV (ns.map V.int) none (some 40) = (ns.take 40).map V.int := cut_ints_to ns 40
  rw [e40]
  have s1 : Same H (upd H c (.lst ((ns.take 40).map V.int))) := same_new nc
  walk_at "ev"
  refine ⟨c, _, rfl, .inl (.inl upd_same), fun d nd => ?_⟩
  have e3 : cutV ((ns.take 40).map V.int) none (some 3) = ((ns.take 40).take 3).map V.int := cut_ints_to _ 3
  rw [e3]
  have ncd : c ≠ d := ne_of_none upd_same nd
  have s2 := s1.trans (same_new (o := .lst (((ns.take 40).take 3).map V.int)) nd)
  generalize hH2 : upd (upd H c (.lst ((ns.take 40).map V.int))) d (.lst (((ns.take 40).take 3).map V.int)) = H2 at s2
  have hc2 : H2 c = some (.lst ((ns.take 40).map V.int)) := by rw [← hH2, upd_ne ncd, upd_same]
  have hd2 : H2 d = some (.lst (((ns.take 40).take 3).map V.int)) := by rw [← hH2, upd_same]
  clear hH2
  have hcl : ((ns.take 40).map V.int).length ≤ 40 := by rw [List.length_map, List.length_take]; omega
  refine ⟨d, (ns.take 40).take 3, rfl, .inl (.inl hd2), ?_⟩
  refine ⟨c, _, rfl, .inl (.inl (.inl hc2)), ?_⟩
  refine ⟨_, _, _, rfl, by omega, by decide, fun n n0 n1 => ?_⟩
  walk_at "ev"
  obtain ⟨L, L1, L7, eL⟩ := lines_pick n0
  refine ⟨⟨by decide, by decide⟩, ⟨by decide, by decide⟩, ⟨by decide, by decide⟩, small_line (by decide), fun e ne => ?_⟩
  refine ⟨e, _, _, _, rfl, rfl, .inl (.inl upd_same), eL, ?_⟩
  have s3 := s2.trans (same_new (o := .lst [V.int (2 + n / 8 % 5), V.int (3 + n / 8 % 3), V.int (1 + n / 8 % 7), V.int 4]) ne)
  have hce : c ≠ e := ne_of_none hc2 ne
  generalize hH3 : upd H2 e (.lst [V.int (2 + n / 8 % 5), V.int (3 + n / 8 % 3), V.int (1 + n / 8 % 7), V.int 4]) = H3 at s3
  have hc3 : H3 c = some (.lst ((ns.take 40).map V.int)) := by rw [← hH3, upd_ne hce, hc2]
  clear hH3
  walk_at "ev"
  split
  · -- one line
    rename_i e1
    refine ⟨Nat.zero_le _, fun l nl => ⟨small_line (by decide), fun p np => ?_⟩⟩
    have hlp : l ≠ p := ne_of_none upd_same np
    have s4 := s3.trans (same_new (o := .lst []) nl)
    refine q _ p l [] 1 [] (s4.trans (same_new np)) (s4.free np) (s3.free nl) (by rw [upd_same] <;> rfl) (by rw [upd_ne hlp, upd_same] <;> rfl) .nil ⟨Nat.zero_le _, fun _ h => by cases h⟩ (by decide) (by decide)
  · rename_i e1
    have L2' : 2 ≤ L := by omega
    refine ⟨⟨by decide, by decide⟩, ?_⟩
    split
    · -- each cell a comparer
      refine lc_enum2 (a := c) (xs := (ns.take 40).map V.int) rfl (.inl (.inl hc3)) (fun v w => rfl) (fun D i acc H' => Gcs K L H3 i acc H') (fun D nD => .nil nD) (fun D i acc H' nD g => ?_) ?_ ?_
      · obtain ⟨_, _, _, s, _⟩ := g
        exact .inl (.inl (s _ _ hc3))
      · intro D i x acc H4 H5 nD hx hi hD g s5
        obtain ⟨z, hz⟩ : ∃ z : Int, x = .int z := by
          rw [List.getElem?_map] at hx
          cases e : (ns.take 40)[i]? with
          | none => rw [e] at hx; cases hx
          | some z => rw [e] at hx; exact ⟨z, (Option.some.inj hx).symm⟩
        subst hz
        refine .yes ?_
        walk_at "ev"
        refine ⟨z, (i : Int), 2, rfl, by omega, by decide, fun m m0 m1 => ?_⟩
        refine ⟨m, L, rfl, m0, L2', by omega, fun H6 p cc s6 np hp ok => ?_⟩
        have hD5 := s5 _ _ hD
        have hD6 := s6 _ _ hD5
        exact GoOn.mk hD6 (by have := g.len; omega) (g.snoc nD (s5.trans s6) hD6 (.inl (.inl hp)) ok)
      · intro D acc H4 nD hD g
        obtain ⟨ps, cs, rfl, s4, hp, ok, z⟩ := g
        refine ⟨small_line (by decide), fun p np => ?_⟩
        have hDp : D ≠ p := ne_of_none hD np
        have s5 := same_new (o := .tup [.int (L : Int), .ref D]) np
        exact q _ p D ps L cs ((s3.trans s4).trans s5) ((s3.trans s4).free np) (s3.free nD) upd_same (s5 _ _ hD) (Same.prs s5 hp) ⟨by omega, ok⟩ L1 L7
    · -- bricks, changed
      refine ⟨L, rfl, L7, fun H4 l ps cs s4 nl hl hp ok hz => ?_⟩
      walk_at "ev"
      have cl0 : c ≠ l := ne_of_none hc3 nl
      refine for_enum2 (a := c) (xs := (ns.take 40).map V.int) rfl (.inl (.inl (s4 _ _ hc3))) (Wweb K a c n L H ((ns.take 40).map V.int))
        ⟨none, none, none, none, l, ps, cs, rfl, s3.trans s4, s3.free nl, hl, hp, ⟨by omega, ok⟩, s4 _ _ hc3, cl0⟩ (fun i σ H' hi hW => ?_) (fun i x σ H5 H6 hx hi hW s6 => ?_) (fun σ H' hW => ?_)
      · obtain ⟨_, _, _, _, _, _, _, _, _, _, _, _, _, hc, _⟩ := hW
        exact .inl (.inl hc)
      · obtain ⟨y4, y5, y7, y8, l, ps, cs, rfl, s, nl, hl, hp, ok, hc, ncl⟩ := hW
        obtain ⟨z, rfl, hz⟩ := ints_get hx
        have hl6 := s6 _ _ hl
        have hp6 := Same.prs s6 hp
        have nc6 := s6 _ _ hc
        have hlen := hp.length
        have lenok := ok.1
        unfold r_lweb_f1
        walk_at "ev"
        refine ⟨z, (i : Int), 3, rfl, by omega, by decide, fun m m0 m1 => ?_⟩
        walk_at "ev"
        refine ⟨⟨by decide, by decide⟩, l, _, rfl, .inl (.inl (.inl hl6)), ?_⟩
        walk_at "ev"
        rw [rfs_len]
        refine ⟨by omega, ?_⟩
        have p1 : (0 : Int) < (ps.length : Int) + 1 := by omega
        obtain ⟨at', ea, la⟩ : ∃ at' : Nat, m / 12 % ((ps.length : Int) + 1) = (at' : Int) ∧ at' ≤ ps.length := by
          have a0 := Int.emod_nonneg (m / 12) (Int.ne_of_gt p1)
          have a1 := Int.emod_lt_of_pos (m / 12) p1
          exact ⟨(m / 12 % ((ps.length : Int) + 1)).toNat, by omega, by omega⟩
        rw [ea]
        have fin : ∀ (H' : Hp) (ps' : List Addr) (cs' : List Cmp), (∀ b o, H6 b = some o → b ≠ l → H' b = some o) → H' l = some (.lst (Rfs ps')) → Prs K H' ps' cs' → WebOk L cs' →
            Wweb K a c n L H ((ns.take 40).map V.int) (i + 1) [some (.ref a), some (.ref c), some (.int n), some (.int (L : Int)), some (.int (i : Int)), some (.int z), some (.ref l), some (.int m), some (.int (at' : Int))] H' := fun H' ps' cs' st hl' hp' ok' =>
          ⟨_, _, _, _, l, ps', cs', rfl, fun b o e => st b o (s6 _ _ (s _ _ e)) (ne_of_none e nl), nl, hl', hp', ok', st _ _ nc6 ncl, ncl⟩
        have okc : ∀ {j : Nat} {cc : Cmp}, cs[j]? = some cc → CmpOk L cc := fun {j cc} e => ok.2 _ (List.mem_of_getElem? e)
        have third : ∀ D : Ends, D.nx = Wweb K a c n L H ((ns.take 40).map V.int) (i + 1) → r_lweb_e1 K D
            [some (.ref a), some (.ref c), some (.int n), some (.int (L : Int)), some (.int (i : Int)), some (.int z), some (.ref l), some (.int m), some (.int (at' : Int))] H6 := fun D eD => by
          unfold r_lweb_e1
          walk_at "ev"
          rw [eD]
          split
          · refine ⟨l, _, rfl, .inl (.inl (.inl hl6)), ?_⟩
            walk_at "ev"
            rw [rfs_len]
            split
            · rename_i q2
              obtain ⟨p, hpa⟩ := get_of (xs := ps) (i := at') (by omega)
              obtain ⟨cc, hcc, hpt⟩ := hp6.getL hpa
              refine ⟨.ref l, rfl, .int (at' : Int), rfl, l, _, _, _, rfl, rfl, .inl (.inl hl6), atI_nat (rfs_at hpa), p, _, _, rfl, hpt, fun r nr => ?_⟩
              have nlr : l ≠ r := ne_of_none hl6 nr
              have s7 := same_new (o := .tup [V.int (cc.2 : Int), V.int (cc.1 : Int)]) nr
              refine ⟨.ref l, rfl, .int (at' : Int), rfl, l, _, _, at', rfl, rfl, s7 _ _ hl6, Evl.ixN_nat (by rw [rfs_len]; omega), ?_⟩
              refine fin _ (ps.set at' r) (cs.set at' (cc.2, cc.1)) (fun b o e nb => by rw [upd_ne nb]; exact s7 _ _ e) ?_ ?_ ?_
              · rw [upd_same]
                unfold Rfs
                rw [List.map_set]
              · exact prs_upd (s7 _ _ hl6) ((Same.prs s7 hp6).set (.inl (.inl (by rw [upd_same] <;> rfl))) at')
              · refine ⟨by rw [List.length_set]; exact ok.1, fun d hd => ?_⟩
                rcases mem_set hd with h | h
                · exact ok.2 d h
                · have := okc hcc
                  rw [h]
                  exact ⟨this.2.1, this.1, this.2.2.symm⟩
            · exact fin H6 ps cs (fun b o e _ => e) hl6 hp6 ok
          · exact fin H6 ps cs (fun b o e _ => e) hl6 hp6 ok
        have second : ∀ D : Ends, D.nx = Wweb K a c n L H ((ns.take 40).map V.int) (i + 1) → r_lweb_e2 K D
            [some (.ref a), some (.ref c), some (.int n), some (.int (L : Int)), some (.int (i : Int)), some (.int z), some (.ref l), some (.int m), some (.int (at' : Int))] H6 := fun D eD => by
          unfold r_lweb_e2
          walk_at "ev"
          split
          · refine ⟨l, _, rfl, .inl (.inl (.inl hl6)), ?_⟩
            walk_at "ev"
            rw [rfs_len]
            split
            · rename_i q2
              refine ⟨.ref l, rfl, .inl ⟨rfl, _, .inl (.inl hl6)⟩, ?_⟩
              walk_at "ev"
              refine ⟨⟨by decide, by decide⟩, m / 1000, L, rfl, by omega, L2', by omega, fun H7 p cc s7 np hpt okp => ?_⟩
              rw [eD]
              refine ⟨l, Rfs ps, (at' : Int), .ref p, rfl, rfl, s7 _ _ hl6, by rw [rfs_len]; exact small_lt (by omega), by omega, by omega, ?_⟩
              refine fin _ (ps.take at' ++ [p] ++ ps.drop at') (cs.take at' ++ [cc] ++ cs.drop at') (fun b o e nb => by rw [upd_ne nb]; exact s7 _ _ e) ?_ ?_ ?_
              · rw [upd_same, Int.toNat_natCast]
                unfold Rfs
                rw [List.map_append, List.map_append, List.map_take, List.map_drop] <;> rfl
              · have h7 := Same.prs s7 hp6
                exact prs_upd (s7 _ _ hl6) (((h7.take at').snoc (.inl (.inl hpt))).append (h7.drop at'))
              · refine ⟨?_, fun d hd => ?_⟩
                · rw [List.length_append, List.length_append, List.length_take, List.length_drop]
                  show min at' cs.length + 1 + (cs.length - at') ≤ 60
                  omega
                · rcases List.mem_append.mp hd with h | h
                  · rcases List.mem_append.mp h with h | h
                    · exact ok.2 d (List.mem_of_mem_take h)
                    · rw [List.mem_singleton.mp h]
                      exact okp
                  · exact ok.2 d (List.mem_of_mem_drop h)
            · exact third D eD
          · exact third D eD
        split
        · refine ⟨l, _, rfl, .inl (.inl (.inl hl6)), ?_⟩
          walk_at "ev"
          rw [rfs_len]
          split
          · rename_i q2
            obtain ⟨p, hpa⟩ := get_of (xs := ps) (i := at') (by omega)
            refine ⟨.ref l, rfl, .inl ⟨rfl, _, .inl (.inl hl6)⟩, .int (at' : Int), rfl, l, _, _, at', _, rfl, rfl, hl6, by omega, by omega, seqIndex_nat (by rw [rfs_len]; omega), rfs_at hpa, ?_⟩
            refine fin _ (ps.eraseIdx at') (cs.eraseIdx at') (fun b o e nb => by rw [upd_ne nb]; exact e) ?_ (prs_upd hl6 (hp6.erase at')) ⟨?_, fun d hd => ok.2 d (List.mem_of_mem_eraseIdx hd)⟩
            · rw [upd_same, rfs_erase]
            · have := List.length_eraseIdx_le cs at'
              have := ok.1
              omega
          · exact second _ rfl
        · exact second _ rfl
      · obtain ⟨y4, y5, y7, y8, l, ps, cs, rfl, s, nl, hl, hp, ok, hc, ncl⟩ := hW
        walk_at "ev"
        refine ⟨small_line (by decide), fun p np => ?_⟩
        have s5 := same_new (o := .tup [.int (L : Int), .ref l]) np
        exact q _ p l ps L cs (s.trans s5) (s.free np) nl upd_same (s5 _ _ hl) (Same.prs s5 hp) ok L1 L7
/-- what the two places of a comparer hold -/
theorem cmp_at {n : Nat} {c : Cmp} {r : Row} (h : CmpOk n c) (hr : r.length = n) : (vis r)[c.1]? = some (.int (at0 r c.1)) ∧ (vis r)[c.2]? = some (.int (at0 r c.2)) := ⟨ints_at (by rw [hr]; exact h.1), ints_at (by rw [hr]; exact h.2.1)⟩
theorem ixN_cmp {n k : Nat} {r : Row} (h : k < n) (hr : r.length = n) : ixN (vis r).length (k : Int) = some k := Evl.ixN_nat (by rw [ints_len, hr]; exact h)
/-- xs[a], xs[b] = v, u, the pair at hand -/
theorem swap_run {σ : L2.St} {H : Hp} {p T : Addr} {k i j : Nat} {a b : Nat} {r : Row} {u v : Int} {Q : L2.St → Hp → Prop} (hk : σ[k]? = some (some (.ref p))) (hi : σ[i]? = some (some (.int (a : Int)))) (hj : σ[j]? = some (some (.int (b : Int))))
    (hp : H p = some (.lst (vis r))) (hT : SqT K H T [.int u, .int v]) (ha : a < r.length) (hb : b < r.length) (q : Q σ (upd H p (.lst (vis ((r.set a u).set b v))))) :
    gTup K 2 (gCons (gSub (tVar k) (tVar i) rSetL) (gCons (gSub (tVar k) (tVar j) rSetL) gNil)) (.ref T) σ H Q := by
  refine ⟨T, _, rfl, hT, rfl, .int u, _, rfl, .ref p, hk, .int (a : Int), hi, p, _, (a : Int), a, rfl, rfl, hp, Evl.ixN_nat (by rw [ints_len]; exact ha), ?_⟩
  rw [ints_set]
  refine ⟨.int v, _, rfl, .ref p, hk, .int (b : Int), hj, p, _, (b : Int), b, rfl, rfl, upd_same, Evl.ixN_nat (by rw [ints_len, List.length_set]; exact hb), rfl, ?_⟩
  rw [ints_set, upd_upd]
  exact q

theorem set_run {σ : L2.St} {H : Hp} {p : Addr} {k i a : Nat} {v : V} {xs : List V} {Q : L2.St → Hp → Prop} (hk : σ[k]? = some (some (.ref p))) (hi : σ[i]? = some (some (.int (a : Int)))) (hp : H p = some (.lst xs)) (ha : a < xs.length)
    (q : Q σ (upd H p (.lst (xs.set a v)))) : gSub (tVar k) (tVar i) rSetL v σ H Q :=
  ⟨.ref p, hk, .int (a : Int), hi, p, _, (a : Int), a, rfl, rfl, hp, Evl.ixN_nat ha, q⟩
theorem stirs_eq {cs : List Cmp} {k : Nat} {c : Cmp} (h : cs[k]? = some c) : stirsAt cs k = gtB (cs.take k) c.1 c.2 := by
  funext r
  unfold stirsAt gtB
  rw [h]
theorem webAt_take {H : Hp} {a : Addr} {n k : Nat} {ps : List Addr} {cs : List Cmp} (ha : SqL K H a (Rfs (ps.take k))) (hp : Prs K H ps cs) (ok : WebOk n cs) (n1 : 1 ≤ n) (n10 : n ≤ 10) : WebAt K H a n (cs.take k) :=
  ⟨ps.take k, ha, hp.take k, ⟨by rw [List.length_take]; have := ok.1; omega, fun c hc => ok.2 c (List.mem_of_mem_take hc)⟩, n1, n10⟩
theorem rfs_take (ps : List Addr) (k : Nat) : cutV (Rfs ps) none (some (k : Int)) = Rfs (ps.take k) := by
  rw [cutV_to]
  unfold Rfs
  rw [List.map_take]
theorem any_first {n : Nat} {f : Row → Bool} : (bares n).any f = (firstB n f).isSome := by
  unfold firstB
  rw [Bool.eq_iff_iff, List.any_eq_true, List.find?_isSome]
theorem first_get {n : Nat} {f : Row → Bool} {r : Row} (h : firstB n f = some r) : r ∈ bares n ∧ f r = true := ⟨List.mem_of_find?_eq_some h, List.find?_some h⟩
theorem eq_rows {H : Hp} {a b : Addr} {r : Row} {Q : VK} (h1 : SqL K H a (vis r)) (h2 : SqL K H b (vis r)) (q : Q (.bl true) H) : rEqD K (.ref a) (.ref b) H Q :=
  ⟨dI r, dI r, dp_row h1, dp_row h2, enc_row.shaped (by decide) _, enc_row.shaped (by decide) _, by rw [enc_row.eq, decide_eq_true rfl]; exact q⟩
theorem webAt_same {H H' : Hp} {a : Addr} {n : Nat} {cs : List Cmp} (s : Same H H') (w : WebAt K H a n cs) : WebAt K H' a n cs := by
  obtain ⟨ps, ha, hp, r⟩ := w
  exact ⟨ps, s.seq ha, Same.prs s hp, r⟩
end Sw

set_option Elab.async false
set_option linter.all false
set_option maxRecDepth 100000
set_option maxHeartbeats 4000000
namespace Sw
open PySem PySem.Spec PyProof.Rows L2
local macro_rules | `(tactic| walk_at "ev") => `(tactic| simp only [tSeq, tCalW, quiet, tRzA, tRzO, tTryT, tTryK, tJoin, tJs, tBM, tBits, kStrI, kIntS, kLenS, mSplit, mPart, mIndex, tAsg, tRet, tRetN, tOp, tUn, tVar, tC, tNil, tCons, tCB, tDrop, tNext, tCont, tBreak, tIfS, tIf, tTest, tChain, tChain3, tB, tTup, tLst, tAnd, tOr, tNot, tAndV, tOrV, tNotV, tPart, tNoPart, tSl, tCal, tAug, ipI, rI0, rI, rU, rEq, rNe, kMin, kMax, gName, gCons, gNil, L2.start, wipe, List.map_cons, List.map_nil, List.length_cons, List.length_nil, List.cons_append, List.nil_append, List.append_nil, Nat.reduceAdd, Nat.reduceSub, List.replicate_succ, List.replicate_zero, List.getElem?_cons_zero, List.getElem?_cons_succ, List.set_cons_succ, List.set_cons_zero, Option.some.injEq, exists_eq_left', exists_eq_left, V.int.injEq, V.bl.injEq, V.str.injEq, V.ref.injEq, List.cons.injEq, exists_and_left, and_assoc, and_true, true_and, scal_ii, scal_ss, scal_nn, scal_bb, scal_ni, scal_in, decide_eq_true_eq, Bool.not_true, Bool.not_false, Bool.not_eq_true', decide_eq_false_iff_not, ite_not, reduceCtorEq, if_true, if_false, Bool.false_eq_true, ne_eq, not_true_eq_false, not_false_eq_true, Int.reduceLT, Int.reduceLE, Int.reduceNeg])
local macro_rules | `(tactic| walk_at "cm") => `(tactic| first | exact Or.inr ⟨by decide, by decide⟩ | exact Or.inl ⟨by decide, by decide⟩ | exact Or.inl ⟨by omega, by omega⟩ | exact Or.inr ⟨by omega, by omega⟩)
variable {K : PySem.W.Frag}
theorem rd_iswhole (vs : List V) (H : Hp) (Q : VK) (E : XK) (h : sp_iswhole K vs H Q E) : r_iswhole K { nx := fun _ H' => Q .non H', rt := Q } (L2.start N_iswhole vs) H := by
  obtain ⟨v, T, rfl, ht, q⟩ := h
  unfold r_iswhole N_iswhole
  walk_at "ev"
  exact ⟨v, T, rfl, ht, _, _, rfl, rfl, q⟩
theorem rd_isline (vs : List V) (H : Hp) (Q : VK) (E : XK) (h : sp_isline K vs H Q E) : r_isline K { nx := fun _ H' => Q .non H', rt := Q } (L2.start N_isline vs) H := by
  obtain ⟨n, v, T, rfl, ht, q⟩ := h
  unfold r_isline N_isline
  walk_at "ev"
  refine ⟨v, T, rfl, ht, ?_⟩
  rcases tyb_int ht with ⟨rfl, i, rfl⟩ | ⟨ne, nv⟩
  · rw [decide_eq_true rfl]
    refine ⟨true, rfl, ?_⟩
    walk_at "ev"
    have e : lnV n (.int i) = decide (0 ≤ i ∧ i < (n : Int)) := rfl
    rw [e] at q
    split
    · rename_i h
      have e2 : decide (0 ≤ i ∧ i < (n : Int)) = decide (i < (n : Int)) := decide_eq_decide.mpr ⟨fun z => z.2, fun z => ⟨h, z⟩⟩
      rw [← e2]
      exact q
    · rename_i h
      rw [decide_eq_false fun z => h z.1] at q
      exact q
  · rw [decide_eq_false ne]
    refine ⟨false, rfl, ?_⟩
    have e : lnV n v = false := by
      cases v with
      | int i => exact absurd rfl (nv i)
      | _ => rfl
    rw [e] at q
    exact q
theorem tw_ne {n : Nat} {x y : V} (h : ∀ i, x ≠ .int i) : twV n x y = false := by
  cases x with
  | int i => exact absurd rfl (h i)
  | _ => rfl
theorem tw_ne2 {n : Nat} {x y : V} (h : ∀ i, y ≠ .int i) : twV n x y = false := by
  cases y with
  | int i => exact absurd rfl (h i)
  | _ => cases x <;> rfl
theorem ln_ne {n : Nat} {x : V} (h : ∀ i, x ≠ .int i) : lnV n x = false := by
  cases x with
  | int i => exact absurd rfl (h i)
  | _ => rfl
theorem rd_iscomparer (vs : List V) (H : Hp) (Q : VK) (E : XK) (h : sp_iscomparerV K vs H Q E) : r_iscomparer K { nx := fun _ H' => Q .non H', rt := Q } (L2.start N_iscomparer vs) H := by
  obtain ⟨n, v, b, rfl, hv, q⟩ := h
  unfold r_iscomparer N_iscomparer
  walk_at "ev"
  cases hv with
  | @other _ T ht ne =>
    refine ⟨v, T, rfl, ht, _, _, rfl, rfl, ?_⟩
    walk_at "ev"
    rw [if_neg ne]
    exact q
  | @long p xs hp ne =>
    refine ⟨.ref p, "tuple", rfl, .tup hp, _, _, rfl, rfl, ?_⟩
    walk_at "ev"
    refine ⟨p, _, rfl, .inr hp, ?_⟩
    walk_at "ev"
    rw [if_neg (by omega)]
    exact q
  | @two p x y Tx Ty hp hx hy =>
    refine ⟨.ref p, "tuple", rfl, .tup hp, _, _, rfl, rfl, ?_⟩
    walk_at "ev"
    refine ⟨p, _, rfl, .inr hp, ?_⟩
    walk_at "ev"
    refine g2_run hp ?_
    walk_at "ev"
    refine ⟨n, x, Tx, rfl, hx, lnV n x, rfl, ?_⟩
    rcases tyb_int hx with ⟨_, i, rfl⟩ | ⟨_, nx⟩
    · cases e1 : lnV n (.int i) with
      | false =>
        have : twV n (.int i) y = false := by
          cases y with
          | int j =>
            show (decide _ && (decide _ && decide _)) = false
            rw [show decide (0 ≤ i ∧ i < (n : Int)) = false from e1] <;> rfl
          | _ => rfl
        rw [this] at q
        exact q
      | true =>
        walk_at "ev"
        refine ⟨n, y, Ty, rfl, hy, lnV n y, rfl, ?_⟩
        rcases tyb_int hy with ⟨_, j, rfl⟩ | ⟨_, ny⟩
        · have e3 : twV n (.int i) (.int j) = (lnV n (.int i) && (lnV n (.int j) && decide (¬ i = j))) := rfl
          rw [e3, e1, Bool.true_and] at q
          cases e2 : lnV n (.int j) with
          | false =>
            rw [e2] at q
            exact q
          | true =>
            rw [e2, Bool.true_and] at q
            walk_at "ev"
            first
              | exact q
              | (rw [decide_not] at q; exact q)
        · rw [ln_ne ny]
          rw [tw_ne2 ny] at q
          exact q
    · rw [ln_ne nx]
      rw [tw_ne nx] at q
      exact q
theorem rd_needlines (vs : List V) (H : Hp) (Q : VK) (E : XK) (h : sp_needlinesV K vs H Q E) : r_needlines K E { nx := fun _ H' => Q .non H', rt := Q } (L2.start N_needlines vs) H := by
  obtain ⟨v, T, rfl, ht, q1, q2⟩ := h
  unfold r_needlines N_needlines
  walk_at "ev"
  refine ⟨v, T, rfl, ht, ?_⟩
  rcases tyb_int ht with ⟨rfl, i, rfl⟩ | ⟨ne, nv⟩
  · have e : noV (.int i) = decide (1 ≤ i ∧ i ≤ 10) := rfl
    refine ⟨true, by rw [decide_eq_true rfl], ?_⟩
    walk_at "ev"
    split
    · rename_i h
      split
      · rename_i h2
        exact q1 (by rw [e]; exact decide_eq_true ⟨h, h2⟩)
      · rename_i h2
        refine ⟨small_line (by decide +kernel), .inr ⟨10, rfl, by decide, _, rfl, small_line (by decide +kernel), small_line (by decide), q2 ?_⟩⟩
        rw [e]
        exact decide_eq_false fun z => h2 z.2
    · rename_i h
      refine ⟨small_line (by decide +kernel), .inr ⟨10, rfl, by decide, _, rfl, small_line (by decide +kernel), small_line (by decide), q2 ?_⟩⟩
      rw [e]
      exact decide_eq_false fun z => h z.1
  · refine ⟨false, by rw [decide_eq_false ne], ?_⟩
    walk_at "ev"
    refine ⟨small_line (by decide +kernel), .inr ⟨10, rfl, by decide, _, rfl, small_line (by decide +kernel), small_line (by decide), q2 ?_⟩⟩
    cases v with
    | int i => exact absurd rfl (nv i)
    | _ => rfl
theorem own_web {H H' : Hp} {E : XK} {o : Option Nat} {σ : L2.St} (q : Refu K H E (.web o)) (s : Same H H') (ho : ∀ k, o = some k → k ≤ 1000) : OwnWish K "BadWeb" "place" (fun cls d _ H => E cls d H) σ (onV o) H' := by
  refine OwnWish.mk ?_ fun d nd => q H' d s nd
  cases o with
  | none => exact .inl rfl
  | some k => exact .inr ⟨(k : Int), rfl, by omega, by have := ho k rfl; omega⟩
def Wneedweb (n : Nat) (a : Addr) (H : Hp) (σ : L2.St) (H' : Hp) : Prop := ∃ y z, σ = [some (.int (n : Int)), some (.ref a), y, z] ∧ Same H H'
theorem rd_needweb (vs : List V) (H : Hp) (Q : VK) (E : XK) (h : sp_needwebV K vs H Q E) : r_needweb K E { nx := fun _ H' => Q .non H', rt := Q } (L2.start N_needweb vs) H := by
  obtain ⟨lv, cv, d, rfl, hv, q1, q2⟩ := h
  unfold r_needweb N_needweb
  walk_at "ev"
  cases hv with
  | @lines lv cv T ht bad =>
    refine ⟨lv, T, rfl, ht, (fun z => by rw [bad] at z; cases z), fun _ => ?_⟩
    exact q2 (fun z => nomatch z) H (.refl H)
  | @kind n cv T hn ht ne =>
    refine ⟨_, "int", rfl, .int _, (fun _ => ?_), fun z => by rw [hn] at z; cases z⟩
    refine ⟨cv, T, rfl, ht, _, _, rfl, rfl, ?_⟩
    walk_at "ev"
    rw [if_neg ne]
    exact own_web (q2 fun z => nomatch z) (.refl H) fun k z => nomatch z
  | @many n a xs hn ha hl =>
    refine ⟨_, "int", rfl, .int _, (fun _ => ?_), fun z => by rw [hn] at z; cases z⟩
    refine ⟨.ref a, "list", rfl, .lst ha, _, _, rfl, rfl, ?_⟩
    walk_at "ev"
    refine ⟨a, _, rfl, .inl ha, ?_⟩
    walk_at "ev"
    rw [if_pos (by omega)]
    exact own_web (q2 fun z => nomatch z) (.refl H) fun k z => nomatch z
  | @item n k a xs y hn ha hl ok hy bad =>
    refine ⟨_, "int", rfl, .int _, (fun _ => ?_), fun z => by rw [hn] at z; cases z⟩
    refine ⟨.ref a, "list", rfl, .lst ha, _, _, rfl, rfl, ?_⟩
    walk_at "ev"
    refine ⟨a, _, rfl, .inl ha, ?_⟩
    walk_at "ev"
    rw [if_neg (by omega)]
    have kl : k < xs.length := (List.getElem?_eq_some_iff.mp hy).1
    refine for_enum2 (a := a) (xs := xs) rfl ha (fun i σ H' => i ≤ k ∧ Wneedweb n a H σ H') ⟨Nat.zero_le _, none, none, rfl, .refl H⟩ (fun i σ H' _ hW => ?_) (fun i x σ H1 H2 hx hi hW s2 => ?_) (fun σ H' hW => ?_)
    · obtain ⟨_, _, _, _, s⟩ := hW
      exact s.seq ha
    · obtain ⟨hk, y1, z1, rfl, s⟩ := hW
      have s12 := s.trans s2
      unfold r_needweb_f1
      walk_at "ev"
      by_cases e : i = k
      · subst e
        rw [hy] at hx
        cases hx
        refine ⟨n, y, false, rfl, it_same s12 bad, false, rfl, ?_⟩
        exact own_web (σ := []) (q2 fun z => nomatch z) s12 fun k z => by cases z; omega
      · obtain ⟨x', hx', okx⟩ := ok i (by omega)
        rw [hx'] at hx
        cases hx
        refine ⟨n, x, true, rfl, it_same s12 okx, true, rfl, ?_⟩
        exact ⟨by omega, _, _, rfl, s12⟩
    · obtain ⟨hk, _⟩ := hW
      omega
  | @good n a xs hn ha hl ok =>
    refine ⟨_, "int", rfl, .int _, (fun _ => ?_), fun z => by rw [hn] at z; cases z⟩
    refine ⟨.ref a, "list", rfl, .lst ha, _, _, rfl, rfl, ?_⟩
    walk_at "ev"
    refine ⟨a, _, rfl, .inl ha, ?_⟩
    walk_at "ev"
    rw [if_neg (by omega)]
    refine for_enum2 (a := a) (xs := xs) rfl ha (fun i σ H' => Wneedweb n a H σ H') ⟨none, none, rfl, .refl H⟩ (fun i σ H' _ hW => ?_) (fun i x σ H1 H2 hx hi hW s2 => ?_) (fun σ H' hW => ?_)
    · obtain ⟨_, _, _, s⟩ := hW
      exact s.seq ha
    · obtain ⟨y1, z1, rfl, s⟩ := hW
      have s12 := s.trans s2
      unfold r_needweb_f1
      walk_at "ev"
      refine ⟨n, x, true, rfl, it_same s12 (ok i x hx), true, rfl, ?_⟩
      exact ⟨_, _, rfl, s12⟩
    · obtain ⟨y1, z1, rfl, s⟩ := hW
      exact q1 rfl H' s
end Sw

set_option Elab.async false
set_option linter.all false
set_option maxRecDepth 100000
set_option maxHeartbeats 4000000
namespace Sw
open PySem PySem.Spec PyProof.Rows L2
local macro_rules | `(tactic| walk_at "ev") => `(tactic| simp only [tSeq, tCalW, quiet, tRzA, tRzO, tTryT, tTryK, tJoin, tJs, tBM, tBits, kStrI, kIntS, kLenS, mSplit, mPart, mIndex, tAsg, tRet, tRetN, tOp, tUn, tVar, tC, tNil, tCons, tCB, tDrop, tNext, tCont, tBreak, tIfS, tIf, tTest, tChain, tChain3, tB, tTup, tLst, tAnd, tOr, tNot, tAndV, tOrV, tNotV, tPart, tNoPart, tSl, tCal, tAug, ipI, rI0, rI, rU, rEq, rNe, kMin, kMax, gName, gCons, gNil, L2.start, wipe, List.map_cons, List.map_nil, List.length_cons, List.length_nil, List.cons_append, List.nil_append, List.append_nil, Nat.reduceAdd, Nat.reduceSub, List.replicate_succ, List.replicate_zero, List.getElem?_cons_zero, List.getElem?_cons_succ, List.set_cons_succ, List.set_cons_zero, Option.some.injEq, exists_eq_left', exists_eq_left, V.int.injEq, V.bl.injEq, V.str.injEq, V.ref.injEq, List.cons.injEq, exists_and_left, and_assoc, and_true, true_and, scal_ii, scal_ss, scal_nn, scal_bb, scal_ni, scal_in, decide_eq_true_eq, Bool.not_true, Bool.not_false, Bool.not_eq_true', decide_eq_false_iff_not, ite_not, reduceCtorEq, if_true, if_false, Bool.false_eq_true, ne_eq, not_true_eq_false, not_false_eq_true, Int.reduceLT, Int.reduceLE, Int.reduceNeg])
local macro_rules | `(tactic| walk_at "cm") => `(tactic| first | exact Or.inr ⟨by decide, by decide⟩ | exact Or.inl ⟨by decide, by decide⟩ | exact Or.inl ⟨by omega, by omega⟩ | exact Or.inr ⟨by omega, by omega⟩)
variable {K : PySem.W.Frag}
def cmpUt (cs : List Cmp) (i : Nat) : V × V := match cs[i]? with
  | some c => (.int (c.1 : Int), .int (c.2 : Int))
  | none => (.non, .non)
theorem web_good {H : Hp} {a : Addr} {n : Nat} {cs : List Cmp} (h : WebAt K H a n cs) : WebV K H (.int (n : Int)) (.ref a) .good := by
  obtain ⟨ps, ha, hp, ok, n1, n10⟩ := h
  have hl := hp.length
  have h60 := ok.1
  refine .good (decide_eq_true (by omega)) ha (by rw [rfs_len]; omega) fun i x hx => ?_
  obtain ⟨p, rfl, gp⟩ := rfs_get hx
  obtain ⟨c, gc, hc⟩ := hp.getL gp
  exact it_cmp hc (ok.2 c (List.mem_of_getElem? gc))
theorem refu_same {H H' : Hp} {E : XK} (s : Same H H') : ∀ {d : Verd}, Refu K H E d → Refu K H' E d
  | .good, h => h
  | .lines, h => fun H2 s2 => h H2 (s.trans s2)
  | .web _, h => fun H2 d s2 nd => h H2 d (s.trans s2) nd
theorem rd_webtext (vs : List V) (H : Hp) (Q : VK) (E : XK) (h : sp_webtext K vs H Q E) : r_webtext K E { nx := fun _ H' => Q .non H', rt := Q } (L2.start N_webtext vs) H := by
  obtain ⟨lv, cv, d, rfl, hv, q1, q2⟩ := h
  unfold r_webtext N_webtext
  walk_at "ev"
  refine ⟨lv, cv, d, rfl, hv, (fun e => ?_), q2⟩
  subst e
  obtain ⟨n, a, cs, rfl, rfl, ⟨ps, ha, hp, ok, n1, n10⟩, q⟩ := q1 rfl
  intro H1 s1
  have hl := hp.length
  have h60 := ok.1
  refine lc_pairs (a := a) (ps := ps) (cmpUt cs) rfl (s1.seq ha) (fun v w => rfl) (fun D i acc H' => Same H H' ∧ acc = ((cs.take i).map wordT).map V.str) (fun D nD => ⟨s1.trans (same_new nD), rfl⟩) (fun D i acc H' nD g => g.1.seq ha) ?_ ?_ ?_
  · intro D i p acc H' nD gp hD g
    obtain ⟨c, gc, hc⟩ := hp.getL gp
    unfold cmpUt
    rw [gc]
    exact Same.sqt g.1 hc
  · intro D i acc H' nD hi hD g
    obtain ⟨s, rfl⟩ := g
    obtain ⟨c, gc⟩ := get_of (xs := cs) (i := i) (by omega)
    obtain ⟨c1, c2, _⟩ := ok.2 c (List.mem_of_getElem? gc)
    refine .yes ?_
    unfold cmpUt
    rw [gc]
    walk_at "ev"
    have l1 := sg_num (a := c.1) (by omega)
    have l2 := sg_num (a := c.2) (by omega)
    have b1 : (Str.empty ++ (" " : Str)).length ≤ 1 := by decide +kernel
    have b2 : ((" " : Str)).length ≤ 1 := by decide +kernel
    have b3 : (("-" : Str)).length ≤ 1 := by decide +kernel
    have m1 := app_len (Str.empty ++ " ") (Str.ofString (toString (c.1 : Int)))
    have m2 := app_len (Str.empty ++ " " ++ Str.ofString (toString (c.1 : Int))) "-"
    have m3 := app_len (Str.empty ++ " " ++ Str.ofString (toString (c.1 : Int)) ++ "-") (Str.ofString (toString (c.2 : Int)))
    refine ⟨small_line (by omega), _, rfl, .inr ⟨(c.1 : Int), rfl, log_small (by omega), _, rfl, small_line (by omega), small_line (by omega), _, rfl, .inr ⟨(c.2 : Int), rfl, log_small (by omega), _, rfl, small_line (by omega), ?_⟩⟩⟩
    rw [word_eq (show c.1 ≤ 10 by omega) (show c.2 ≤ 10 by omega) " " "-" (by decide +kernel) (by decide +kernel)]
    refine GoOn.mk hD (by simp; omega) ⟨same_mut s (s1.free nD), ?_⟩
    rw [List.take_add_one, gc]
    simp
  · intro D acc H' nD hD g
    obtain ⟨s, rfl⟩ := g
    have e : cs.take ps.length = cs := by rw [hl, List.take_length]
    rw [e] at hD
    have l1 := sg_num (a := n) n10
    have b3 : ((":" : Str)).length ≤ 1 := by decide +kernel
    have m1 := app_len Str.empty (Str.ofString (toString (n : Int)))
    have m2 := app_len (Str.empty ++ Str.ofString (toString (n : Int))) ":"
    have m0 : Str.empty.length = 0 := by decide +kernel
    refine ⟨_, rfl, .inr ⟨(n : Int), rfl, log_small (by omega), _, rfl, small_line (by omega), small_line (by omega), ?_⟩⟩
    refine ⟨rfl, "", D, cs.map wordT, rfl, rfl, .inl (.inl (.inl hD)), ?_, ?_⟩
    · have := lens_words cs
      have e0 : ((cs.map wordT).length) * ("" : Str).length = 0 := by
        rw [show ("" : Str).length = 0 by decide +kernel, Nat.mul_zero]
      rw [e0]
      omega
    · have sj : sg (Txt.join "" (cs.map wordT)) = tailT cs := join_words cs
      have lj : (Txt.join "" (cs.map wordT)).length ≤ 360 := by
        rw [sg_len, sj]
        have := tail_len cs
        omega
      refine ⟨_, _, rfl, rfl, small_line (by omega), ?_⟩
      have e2 : Str.empty ++ Str.ofString (toString (n : Int)) ++ ":" ++ Txt.join "" (cs.map wordT) = webTx n cs := by
        refine eq_tx ?_
        rw [sg_app, sg_app, sg_app, sj, num_str n n10, sg_nil, show sg (":" : Str) = [58] by decide +kernel]
        show [] ++ numT n ++ [58] ++ tailT cs = numT n ++ 58 :: tailT cs
        simp
      rw [e2]
      exact q H' s
theorem rd_number (vs : List V) (H : Hp) (Q : VK) (E : XK) (h : sp_number K vs H Q E) : r_number K { nx := fun _ H' => Q .non H', rt := Q } (L2.start N_number vs) H := by
  obtain ⟨w, rfl, q⟩ := h
  unfold r_number N_number
  walk_at "ev"
  refine for_rng (n := 11) (fun Q q => ⟨10, 1, rfl, rfl, q⟩) (by omega) (fun i σ H' => H' = H ∧ (∃ y, σ = [some (.str w), y]) ∧ ∀ k < i, sg w ≠ numT k) ⟨rfl, ⟨none, rfl⟩, fun k hk => absurd hk (Nat.not_lt_zero k)⟩ (fun i σ H' hi hW => ?_) (fun σ H' hW => ?_)
  · obtain ⟨rfl, ⟨y, rfl⟩, no⟩ := hW
    unfold r_number_f1
    walk_at "ev"
    refine ⟨log_small (by omega), ?_⟩
    have e : sg (Str.ofString (toString (i : Int))) = numT i := num_str i (by omega)
    split
    · rename_i h
      rw [h, readN_of (show i ≤ 10 by omega) e] at q
      exact q
    · rename_i h
      refine ⟨⟨_, rfl⟩, fun k hk => ?_⟩
      by_cases z : k = i
      · subst z
        rw [← e]
        exact fun z => h (sg_inj z)
      · exact no k (by omega)
  · obtain ⟨rfl, ⟨y, rfl⟩, no⟩ := hW
    walk_at "ev"
    have : readN (sg w) = none := by
      cases e : readN (sg w) with
      | none => rfl
      | some k =>
        obtain ⟨h1, h2⟩ := readN_some e
        exact absurd h2 (no k (by omega))
    rw [this] at q
    exact q
theorem rd_pair (vs : List V) (H : Hp) (Q : VK) (E : XK) (h : sp_pair K vs H Q E) : r_pair K { nx := fun _ H' => Q .non H', rt := Q } (L2.start N_pair vs) H := by
  obtain ⟨w, rfl, hw, q⟩ := h
  unfold r_pair N_pair
  walk_at "ev"
  refine ⟨rfl, by decide +kernel, small_line (by omega), fun T nT => ?_⟩
  refine ⟨T, _, rfl, .inl (.inl upd_same), rfl, ?_⟩
  obtain ⟨e1, _, e3⟩ := partition_sign w 45
  have em : (⟨#[45]⟩ : Str) = "-" := by decide +kernel
  rw [em] at e1 e3
  walk_at "ev"
  refine ⟨_, rfl, _, rfl, ?_⟩
  rw [e1, e3]
  refine ⟨small_line (by decide), fun p np => ?_⟩
  have s0 := same_new (o := .tup [V.str (Txt.partition w "-").1, .str (Txt.partition w "-").2.1, .str (Txt.partition w "-").2.2]) nT
  exact q _ p (s0.trans (same_new np)) (s0.free np) upd_same
theorem webAt_get {H : Hp} {a : Addr} {n : Nat} {cs : List Cmp} (h : WebAt K H a n cs) : n ≤ 10 := h.choose_spec.2.2.2.2
end Sw

set_option Elab.async false
set_option linter.all false
set_option maxRecDepth 100000
set_option maxHeartbeats 4000000
namespace Sw
open PySem PySem.Spec PyProof.Rows L2
local macro_rules | `(tactic| walk_at "ev") => `(tactic| simp only [tSeq, tCalW, quiet, tRzA, tRzO, tTryT, tTryK, tJoin, tJs, tBM, tBits, kStrI, kIntS, kLenS, mSplit, mPart, mIndex, tAsg, tRet, tRetN, tOp, tUn, tVar, tC, tNil, tCons, tCB, tDrop, tNext, tCont, tBreak, tIfS, tIf, tTest, tChain, tChain3, tB, tTup, tLst, tAnd, tOr, tNot, tAndV, tOrV, tNotV, tPart, tNoPart, tSl, tCal, tAug, ipI, rI0, rI, rU, rEq, rNe, kMin, kMax, gName, gCons, gNil, L2.start, wipe, List.map_cons, List.map_nil, List.length_cons, List.length_nil, List.cons_append, List.nil_append, List.append_nil, Nat.reduceAdd, Nat.reduceSub, List.replicate_succ, List.replicate_zero, List.getElem?_cons_zero, List.getElem?_cons_succ, List.set_cons_succ, List.set_cons_zero, Option.some.injEq, exists_eq_left', exists_eq_left, V.int.injEq, V.bl.injEq, V.str.injEq, V.ref.injEq, List.cons.injEq, exists_and_left, and_assoc, and_true, true_and, scal_ii, scal_ss, scal_nn, scal_bb, scal_ni, scal_in, decide_eq_true_eq, Bool.not_true, Bool.not_false, Bool.not_eq_true', decide_eq_false_iff_not, ite_not, reduceCtorEq, if_true, if_false, Bool.false_eq_true, ne_eq, not_true_eq_false, not_false_eq_true, Int.reduceLT, Int.reduceLE, Int.reduceNeg])
local macro_rules | `(tactic| walk_at "cm") => `(tactic| first | exact Or.inr ⟨by decide, by decide⟩ | exact Or.inl ⟨by decide, by decide⟩ | exact Or.inl ⟨by omega, by omega⟩ | exact Or.inr ⟨by omega, by omega⟩)
variable {K : PySem.W.Frag}
theorem chain_srt {r : Row} (h : ∀ k, k + 1 < r.length → at0 r k ≤ at0 r (k + 1)) : Srt r := by
  rw [Srt, List.pairwise_iff_getElem]
  have g : ∀ (k : Nat) (hk : k < r.length), r[k] = at0 r k := fun k hk => by
    unfold at0
    rw [List.getD_eq_getElem?_getD, List.getElem?_eq_getElem hk] <;> rfl
  have key : ∀ (d i : Nat), i + d < r.length → at0 r i ≤ at0 r (i + d) := by
    intro d
    induction d with
    | zero => intro i _; exact Int.le_refl _
    | succ d ih =>
      intro i hi
      have h1 := ih i (by omega)
      have h2 := h (i + d) (by omega)
      rw [show i + (d + 1) = i + d + 1 by omega]
      omega
  intro i j hi hj hij
  rw [g, g]
  have := key (j - i) i (by omega)
  rw [show i + (j - i) = j by omega] at this
  exact this
theorem srt_chain {r : Row} (h : Srt r) (k : Nat) (hk : k + 1 < r.length) : at0 r k ≤ at0 r (k + 1) := by
  rw [Srt, List.pairwise_iff_getElem] at h
  have g : ∀ (k : Nat) (hk : k < r.length), r[k] = at0 r k := fun k hk => by
    unfold at0
    rw [List.getD_eq_getElem?_getD, List.getElem?_eq_getElem hk] <;> rfl
  have := h k (k + 1) (by omega) hk (by omega)
  rw [g, g] at this
  exact this
theorem sorts_iff {cs : List Cmp} {n : Nat} {r : Row} (hr : r.length = n) : sortsB cs n r = false ↔ Srt (gone cs r) := by
  have hl : (gone cs r).length = n := by rw [gone_len, hr]
  unfold sortsB
  rw [List.any_eq_false]
  constructor
  · intro h
    refine chain_srt fun k hk => ?_
    have := h k (List.mem_range.mpr (by omega))
    unfold gtB at this
    rw [decide_eq_true_eq] at this
    omega
  · intro h k hk
    have hk' := List.mem_range.mp hk
    have := srt_chain h k (by omega)
    unfold gtB
    rw [decide_eq_true_eq]
    omega
end Sw

set_option Elab.async false
set_option linter.all false
set_option maxRecDepth 100000
set_option maxHeartbeats 4000000
namespace Sw
open PySem PySem.Spec PyProof.Rows L2
local macro_rules | `(tactic| walk_at "ev") => `(tactic| simp only [tSeq, tCalW, quiet, tRzA, tRzO, tTryT, tTryK, tJoin, tJs, tBM, tBits, kStrI, kIntS, kLenS, mSplit, mPart, mIndex, tAsg, tRet, tRetN, tOp, tUn, tVar, tC, tNil, tCons, tCB, tDrop, tNext, tCont, tBreak, tIfS, tIf, tTest, tChain, tChain3, tB, tTup, tLst, tAnd, tOr, tNot, tAndV, tOrV, tNotV, tPart, tNoPart, tSl, tCal, tAug, ipI, rI0, rI, rU, rEq, rNe, kMin, kMax, gName, gCons, gNil, L2.start, wipe, List.map_cons, List.map_nil, List.length_cons, List.length_nil, List.cons_append, List.nil_append, List.append_nil, Nat.reduceAdd, Nat.reduceSub, List.replicate_succ, List.replicate_zero, List.getElem?_cons_zero, List.getElem?_cons_succ, List.set_cons_succ, List.set_cons_zero, Option.some.injEq, exists_eq_left', exists_eq_left, V.int.injEq, V.bl.injEq, V.str.injEq, V.ref.injEq, List.cons.injEq, exists_and_left, and_assoc, and_true, true_and, scal_ii, scal_ss, scal_nn, scal_bb, scal_ni, scal_in, decide_eq_true_eq, Bool.not_true, Bool.not_false, Bool.not_eq_true', decide_eq_false_iff_not, ite_not, reduceCtorEq, if_true, if_false, Bool.false_eq_true, ne_eq, not_true_eq_false, not_false_eq_true, Int.reduceLT, Int.reduceLE, Int.reduceNeg])
local macro_rules | `(tactic| walk_at "cm") => `(tactic| first | exact Or.inr ⟨by decide, by decide⟩ | exact Or.inl ⟨by decide, by decide⟩ | exact Or.inl ⟨by omega, by omega⟩ | exact Or.inr ⟨by omega, by omega⟩)
variable {K : PySem.W.Frag}
theorem bit_at (v a : Nat) : Builtin.bitAnd ((v : Int) / 2 ^ (a : Int).toNat) 1 = if v.testBit a = true then 1 else 0 := by
  rw [bitAnd_m1, Int.toNat_natCast, Nat.testBit_eq_decide_div_mod_eq]
  have e : ((v : Int) / 2 ^ a % 2) = ((v / 2 ^ a % 2 : Nat) : Int) := by norm_cast
  rw [e]
  have : v / 2 ^ a % 2 = 0 ∨ v / 2 ^ a % 2 = 1 := by omega
  rcases this with h | h <;> rw [h] <;> rfl
theorem xor_at (v a : Nat) : Builtin.bitXor (v : Int) (1 * 2 ^ (a : Int).toNat) = ((v ^^^ (1 <<< a) : Nat) : Int) := by
  have e : (1 : Int) * 2 ^ (a : Int).toNat = ((1 <<< a : Nat) : Int) := by
    rw [Int.one_mul, Int.toNat_natCast, Nat.one_shiftLeft, Int.natCast_pow]
  refine (congrArg (Builtin.bitXor (v : Int)) e).trans ?_
  rw [_root_.Bits.bitXor_pp (Int.natCast_nonneg _) (Int.natCast_nonneg _)]
  rfl
theorem rd_bbehind (vs : List V) (H : Hp) (Q : VK) (E : XK) (h : sp_bbehind K vs H Q E) : r_bbehind K { nx := fun _ H' => Q .non H', rt := Q } (L2.start N_bbehind vs) H := by
  obtain ⟨v, a, b, rfl, ha, hb, q⟩ := h
  unfold r_bbehind N_bbehind
  walk_at "ev"
  refine ⟨by omega, by omega, ?_⟩
  rw [bit_at, bit_at]
  by_cases z : (v.testBit a && !v.testBit b) = true
  · have e : goB v (a, b) = (v ^^^ (1 <<< a)) ^^^ (1 <<< b) := by
      unfold goB
      rw [if_pos z]
    rw [e] at q
    rw [Bool.and_eq_true, Bool.not_eq_true'] at z
    rw [z.1, z.2, if_neg Bool.false_ne_true, if_pos rfl, if_pos (by decide)]
    refine ⟨⟨by omega, by omega, by decide⟩, ⟨by omega, by omega, by decide⟩, ?_⟩
    rw [xor_at, xor_at]
    exact q
  · have e : goB v (a, b) = v := by
      unfold goB
      rw [if_neg z]
    rw [e] at q
    rw [if_neg ?_]
    · exact q
    · intro lt
      refine z ?_
      cases h1 : v.testBit a <;> cases h2 : v.testBit b <;> rw [h1, h2] at lt <;> first | rfl | exact absurd lt (by decide)
theorem bench_same {H H' : Hp} {p : Addr} {n : Nat} {cs : List Cmp} {l R : Addr} {qs : List Addr} (s : Same H H') (h : BenchAt K H p n cs l R qs) : BenchAt K H' p n cs l R qs := by
  obtain ⟨dx, ps, hp, hl, hps, hR, ⟨lq, ho⟩, r⟩ := h
  exact ⟨dx, ps, s _ _ hp, s _ _ hl, Same.prs s hps, s _ _ hR, ⟨lq, fun i q hq => by
    obtain ⟨h1, h2, h3⟩ := ho i q hq
    exact ⟨h1, h2, s _ _ h3⟩⟩, r⟩
theorem rd_bcomps (T : BenchT K) (vs : List V) (H : Hp) (Q : VK) (E : XK) (h : sp_bcomps K vs H Q E) : r_bcomps K { nx := fun _ H' => Q .non H', rt := Q } (L2.start N_bcomps vs) H := by
  obtain ⟨p, l, R, n, cs, qs, rfl, ⟨dx, ps, hp, hl, hps, hR, ho, r⟩, q⟩ := h
  unfold r_bcomps N_bcomps tFld
  walk_at "ev"
  refine ⟨_, dx, _, hp, T.cl, T.nC, _, bf_comps n l R, ?_⟩
  refine ⟨l, _, rfl, .inl (.inl (.inl hl)), fun u nu => ?_⟩
  have s := same_new (o := .lst (Rfs ps)) nu
  exact q _ u ps s nu upd_same (Same.prs s hps)
theorem rd_binit (T : BenchT K) (vs : List V) (H : Hp) (Q : VK) (E : XK) (h : sp_binit K vs H Q E) : r_binit K { nx := fun _ H' => Q .non H', rt := Q } (L2.start N_binit vs) H := by
  obtain ⟨p, dx, n, rfl, hp, n1, n10, q⟩ := h
  unfold r_binit N_binit sFld tLstRg tRg1
  walk_at "ev"
  refine ⟨n, rfl, n1, n10, ?_⟩
  walk_at "ev"
  have pn : 2 ^ n ≤ 2 ^ 10 := Nat.pow_le_pow_right (by decide) n10
  refine ⟨_, dx, _, hp, T.cl, T.nL, by show 0 < 1000; decide, small_line (by decide), fun l nl => ?_⟩
  have pl : l ≠ p := fun e => by
    rw [e, upd_same] at nl
    cases nl
  have nlH : H l = none := by
    rw [upd_ne pl] at nl
    exact nl
  generalize hH1 : upd (upd H p (.ins (He.ga K "Bench") dx (putF "_lines" (.int (n : Int)) []))) l (.lst []) = H1
  have p1 : H1 p = some (.ins (He.ga K "Bench") dx (putF "_lines" (.int (n : Int)) [])) := by rw [← hH1, upd_ne pl.symm, upd_same]
  have l1 : H1 l = some (.lst []) := by rw [← hH1, upd_same]
  have k1 : ∀ b o, b ≠ p → H b = some o → H1 b = some o := fun b o nb e => by
    rw [← hH1, upd_ne (ne_of_none e nlH), upd_ne nb]
    exact e
  have f1 : ∀ b, H1 b = none → H b = none := fun b e => by
    by_cases z : b = p
    · rw [z, p1] at e
      cases e
    · cases h : H b with
      | none => rfl
      | some o =>
        rw [k1 b o z h] at e
        cases e
  clear hH1 nl
  refine ⟨_, dx, _, p1, T.cl, T.nC, by show 1 < 1000; decide, ⟨by omega, by omega, by decide⟩, ?_⟩
  have e2 : (1 : Int) * 2 ^ (n : Int).toNat = ((2 ^ n : Nat) : Int) := by
    rw [Int.one_mul, Int.toNat_natCast, Int.natCast_pow]
    rfl
  have e3 : rgV 0 (1 * 2 ^ (n : Int).toNat) = natL (List.range (2 ^ n)) := (congrArg (rgV 0) e2).trans (rgV_nat _)
  rw [e3]
  refine ⟨?_, fun d nd => ?_⟩
  · have g0 : ∀ m : Nat, m ≤ 1024 → RgOk 0 (m : Int) := fun m hm => .of_le (by omega) (by omega) (by omega) (by omega)
    have g := g0 (2 ^ n) pn
    rw [← e2] at g
    exact g
  have dp : d ≠ p := fun e => by
    rw [e, upd_same] at nd
    cases nd
  rw [upd_ne dp] at nd
  have dl : d ≠ l := (ne_of_none l1 nd).symm
  generalize hH2 : upd (upd H1 p (.ins (He.ga K "Bench") dx (putF "_comparers" (.ref l) (putF "_lines" (.int (n : Int)) [])))) d (.lst (natL (List.range (2 ^ n)))) = H2
  have p2 : H2 p = some (.ins (He.ga K "Bench") dx (putF "_comparers" (.ref l) (putF "_lines" (.int (n : Int)) []))) := by rw [← hH2, upd_ne dp.symm, upd_same]
  have l2 : H2 l = some (.lst []) := by rw [← hH2, upd_ne dl.symm, upd_ne pl]; exact l1
  have d2 : H2 d = some (.lst (natL (List.range (2 ^ n)))) := by rw [← hH2, upd_same]
  have k2 : ∀ b o, b ≠ p → H1 b = some o → H2 b = some o := fun b o nb e => by
    rw [← hH2, upd_ne (ne_of_none e nd), upd_ne nb]
    exact e
  have f2 : ∀ b, H2 b = none → H1 b = none := fun b e => by
    by_cases z : b = p
    · rw [z, p2] at e
      cases e
    · cases h : H1 b with
      | none => rfl
      | some o =>
        rw [k2 b o z h] at e
        cases e
  clear hH2
  refine ⟨small_line (by decide), fun R nR => ?_⟩
  have Rp : R ≠ p := fun e => by
    rw [e, p2] at nR
    cases nR
  have Rl : R ≠ l := (ne_of_none l2 nR).symm
  have Rd : R ≠ d := (ne_of_none d2 nR).symm
  refine ⟨_, dx, _, by rw [upd_ne Rp.symm]; exact p2, T.cl, T.nR, by show 2 < 1000; decide, ?_⟩
  have nRH : H R = none := f1 _ (f2 _ nR)
  refine q _ l R d (fun b o nb e => ?_) nlH nRH (f1 _ nd) ⟨dx, [], upd_same, ?_, .nil, ?_, ⟨rfl, fun i g hg => ?_⟩, Rl.symm, ⟨by decide, fun c hc => nomatch hc⟩, n1, n10⟩
  · rw [upd_ne nb, upd_ne (ne_of_none e nRH)]
    exact k2 _ _ nb (k1 _ _ nb e)
  · rw [upd_ne pl, upd_ne Rl.symm]
    exact l2
  · rw [upd_ne Rp, upd_same]
    rfl
  · match i, hg with
    | 0, hg =>
      have e : g = d := (Option.some.inj hg).symm
      subst e
      refine ⟨dl, Rd.symm, ?_⟩
      rw [upd_ne dp, upd_ne Rd.symm, d2, List.take_zero, outs_nil]
theorem rd_bwild (T : BenchT K) (vs : List V) (H : Hp) (Q : VK) (E : XK) (h : sp_bwild K vs H Q E) : r_bwild K { nx := fun _ H' => Q .non H', rt := Q } (L2.start N_bwild vs) H := by
  obtain ⟨p, l, R, n, cs, qs, rfl, ⟨dx, ps, hp, hl, hps, hR, ho, r⟩, q1, q2⟩ := h
  unfold r_bwild N_bwild tFld
  walk_at "ev"
  obtain ⟨Rl, ok, n1, n10⟩ := r
  obtain ⟨lq, hq⟩ := ho
  obtain ⟨g, hg⟩ := get_of (xs := qs) (i := cs.length) (by omega)
  obtain ⟨_, _, hgr⟩ := hq _ g hg
  rw [List.take_length] at hgr
  have len := outs_len n cs
  have pn : 2 ^ n ≤ 2 ^ 10 := Nat.pow_le_pow_right (by decide) n10
  show tFor _ _ _ _ _ _
  rw [for_def]
  unfold iList
  walk_at "ev"
  refine ⟨_, dx, _, hp, T.cl, T.nR, _, bf_rows n l R, ?_⟩
  refine ⟨R, _, _, _, rfl, rfl, .inl (.inl hR), atI_end (n := cs.length) (rfs_at hg) (by rw [rfs_len]; omega), ?_⟩
  refine ⟨g, rfl, ⟨_, .inl (.inl hgr)⟩, ?_⟩
  refine fork_list (xs := natL (outsN n cs)) (.inl (.inl hgr)) (fun i σ H' => ∃ y1 y2, σ = [some (.ref p), y1, y2] ∧ Same H H' ∧ ∀ v ∈ (outsN n cs).take i, Srt (bareR n v)) ⟨none, none, rfl, .refl H, fun v hv => nomatch hv⟩ (fun i σ H' _ hW => ?_) (fun i x σ H' hx hi hW => ?_) (fun σ H' hW => ?_)
  · obtain ⟨_, _, _, s, _⟩ := hW
    exact s.seq (.inl (.inl hgr))
  · obtain ⟨y1, y2, rfl, s, all⟩ := hW
    obtain ⟨v, rfl, hv⟩ : ∃ v : Nat, x = .int (v : Int) ∧ (outsN n cs)[i]? = some v := by
      unfold natL at hx
      rw [List.getElem?_map] at hx
      cases e : (outsN n cs)[i]? with
      | none => rw [e] at hx; cases hx
      | some v => rw [e] at hx; exact ⟨v, (Option.some.inj hx).symm, rfl⟩
    unfold r_bwild_f1 tFld
    walk_at "ev"
    refine ⟨_, dx, _, s _ _ hp, T.cl, T.nL, _, bf_lines n l R, ?_⟩
    refine ⟨n, v, rfl, n10, fun H1 u s1 nu hu => ?_⟩
    refine ⟨u, bareR n v, rfl, .inl (.inl hu), fun ns w hperm hsort nw => ?_⟩
    have s2 := same_new (o := .lst (ns.map V.int)) nw
    refine ne_rows (r := bareR n v) (s := ns) (.inl (.inl (s2 _ _ hu))) (.inl (.inl upd_same)) ?_
    by_cases z : Srt (bareR n v)
    · have e : bareR n v = ns := srt_uniq hperm.symm z hsort
      rw [decide_eq_true e]
      refine ⟨false, rfl, ?_⟩
      rw [if_neg (by decide)]
      refine ⟨s.trans (s1.trans s2), ?_⟩
      intro k hk
      rw [List.take_add_one, hv] at hk
      rcases List.mem_append.mp hk with h | h
      · exact all k h
      · rw [List.mem_singleton.mp h]
        exact z
    · have e : ¬ bareR n v = ns := fun e => z (by rw [e]; exact hsort)
      rw [decide_eq_false e]
      refine ⟨true, rfl, ?_⟩
      rw [if_pos rfl]
      refine q2 v ?_ _ u (s.trans (s1.trans s2)) (s.free nu) (s2 _ _ hu)
      unfold wildB
      rw [List.find?_eq_some_iff_getElem]
      have hi' : i < (outsN n cs).length := by rw [nat_len] at hi; exact hi
      refine ⟨by rw [decide_eq_false z] <;> rfl, i, hi', ?_, fun j hj => ?_⟩
      · rw [List.getElem?_eq_getElem hi'] at hv
        exact Option.some.inj hv
      · have hm : (outsN n cs)[j] ∈ (outsN n cs).take i := by
          rw [List.mem_take_iff_getElem]
          exact ⟨j, by omega, rfl⟩
        rw [decide_eq_true (all _ hm)] <;> rfl
  · obtain ⟨y1, y2, rfl, s, all⟩ := hW
    walk_at "ev"
    refine q1 ?_ H' s
    unfold wildB
    rw [List.find?_eq_none]
    intro v hv
    rw [nat_len, List.take_length] at all
    rw [decide_eq_true (all v hv)]
    decide
end Sw

set_option Elab.async false
set_option linter.all false
set_option maxRecDepth 100000
set_option maxHeartbeats 4000000
namespace Sw
open PySem PySem.Spec PyProof.Rows L2
local macro_rules | `(tactic| walk_at "ev") => `(tactic| simp only [tSeq, tCalW, quiet, tRzA, tRzO, tTryT, tTryK, tJoin, tJs, tBM, tBits, kStrI, kIntS, kLenS, mSplit, mPart, mIndex, tAsg, tRet, tRetN, tOp, tUn, tVar, tC, tNil, tCons, tCB, tDrop, tNext, tCont, tBreak, tIfS, tIf, tTest, tChain, tChain3, tB, tTup, tLst, tAnd, tOr, tNot, tAndV, tOrV, tNotV, tPart, tNoPart, tSl, tCal, tAug, ipI, rI0, rI, rU, rEq, rNe, kMin, kMax, gName, gCons, gNil, L2.start, wipe, List.map_cons, List.map_nil, List.length_cons, List.length_nil, List.cons_append, List.nil_append, List.append_nil, Nat.reduceAdd, Nat.reduceSub, List.replicate_succ, List.replicate_zero, List.getElem?_cons_zero, List.getElem?_cons_succ, List.set_cons_succ, List.set_cons_zero, Option.some.injEq, exists_eq_left', exists_eq_left, V.int.injEq, V.bl.injEq, V.str.injEq, V.ref.injEq, List.cons.injEq, exists_and_left, and_assoc, and_true, true_and, scal_ii, scal_ss, scal_nn, scal_bb, scal_ni, scal_in, decide_eq_true_eq, Bool.not_true, Bool.not_false, Bool.not_eq_true', decide_eq_false_iff_not, ite_not, reduceCtorEq, if_true, if_false, Bool.false_eq_true, ne_eq, not_true_eq_false, not_false_eq_true, Int.reduceLT, Int.reduceLE, Int.reduceNeg])
local macro_rules | `(tactic| walk_at "cm") => `(tactic| first | exact Or.inr ⟨by decide, by decide⟩ | exact Or.inl ⟨by decide, by decide⟩ | exact Or.inl ⟨by omega, by omega⟩ | exact Or.inr ⟨by omega, by omega⟩)
variable {K : PySem.W.Frag}
def hts (n : Nat) (h : Hgt) : Row := (List.range n).map fun l => (h l : Int)
theorem hts_len (n : Nat) (h : Hgt) : (hts n h).length = n := by
  unfold hts
  rw [List.length_map, List.length_range]
theorem hts_get {n l : Nat} {h : Hgt} (hl : l < n) : (vis (hts n h))[l]? = some (.int (h l : Int)) := by
  unfold vis hts
  rw [List.getElem?_map, List.getElem?_map, List.getElem?_range hl] <;> rfl
theorem hts_set {n : Nat} {h : Hgt} {c : Cmp} : ((hts n h).set c.1 ((tierH h c : Int) + 1)).set c.2 ((tierH h c : Int) + 1) = hts n (stepH h c) := by
  apply List.ext_getElem
  · rw [List.length_set, List.length_set, hts_len, hts_len]
  · intro k h1 h2
    have e : ∀ (g : Hgt) (hk : k < (hts n g).length), (hts n g)[k] = (g k : Int) := fun g hk => by
      have hk' : k < n := by rw [hts_len] at hk; exact hk
      have z : (hts n g)[k]? = some (g k : Int) := by
        unfold hts
        rw [List.getElem?_map, List.getElem?_range hk'] <;> rfl
      rw [List.getElem?_eq_getElem hk] at z
      exact Option.some.inj z
    rw [List.getElem_set, List.getElem_set, e, e]
    unfold stepH
    by_cases z : c.2 = k
    · rw [if_pos z, if_pos (.inr z.symm)] <;> rfl
    · rw [if_neg z]
      by_cases y : c.1 = k
      · rw [if_pos y, if_pos (.inl y.symm)] <;> rfl
      · rw [if_neg y, if_neg (by omega)]
theorem hgt_take {cs : List Cmp} {i : Nat} {c : Cmp} (hc : cs[i]? = some c) : hgtH (fun _ => 0) (cs.take (i + 1)) = stepH (hgtH (fun _ => 0) (cs.take i)) c := by
  rw [List.take_add_one, hc, hgtH_app] <;> rfl
def Wdep (n : Nat) (a D L : Addr) (cs : List Cmp) (H : Hp) (i : Nat) (σ : L2.St) (H' : Hp) : Prop :=
  ∃ y4 y5 y6, σ = [some (.int (n : Int)), some (.ref a), some (.ref D), some (.ref L), y4, y5, y6] ∧ Same H H' ∧ H' D = some (.lst (natL ((tiers cs).take i))) ∧ H' L = some (.lst (vis (hts n (hgtH (fun _ => 0) (cs.take i)))))
theorem rd_depths (vs : List V) (H : Hp) (Q : VK) (E : XK) (h : sp_depths K vs H Q E) : r_depths K { nx := fun _ H' => Q .non H', rt := Q } (L2.start N_depths vs) H := by
  obtain ⟨n, a, cs, rfl, ⟨ps, ha, hp, ok, n1, n10⟩, q⟩ := h
  have hpl := hp.length
  have h60 := ok.1
  unfold r_depths N_depths
  walk_at "ev"
  refine ⟨small_line (by decide), fun D nD => ⟨small_line (by decide), fun f nf => ?_⟩⟩
  have s0 := (same_new (o := .lst []) nD).trans (same_new (o := .lst [.int 0]) nf)
  refine ⟨f, (n : Int), _, rfl, rfl, upd_same, by omega, by omega, small_line (by simp; omega), fun L nL => ?_⟩
  have e0 : (List.replicate (n : Int).toNat [V.int 0]).flatten = vis (hts n (fun _ => 0)) := by
    rw [Int.toNat_natCast]
    unfold hts vis
    clear nL s0 n1 n10 ok
    induction n with
    | zero => rfl
    | succ m ih =>
      rw [List.replicate_succ', List.flatten_append, ih, List.range_succ, List.map_append, List.map_append] <;> rfl
  rw [e0]
  have s1 := s0.trans (same_new (o := .lst (vis (hts n fun _ => 0))) nL)
  have nLH : H L = none := s0.free nL
  have hD1 : (upd (upd (upd H D (.lst [])) f (.lst [.int 0])) L (.lst (vis (hts n fun _ => 0)))) D = some (.lst []) := (same_new nL) _ _ ((same_new nf) _ _ upd_same)
  have hL1 : (upd (upd (upd H D (.lst [])) f (.lst [.int 0])) L (.lst (vis (hts n fun _ => 0)))) L = some (.lst (vis (hts n fun _ => 0))) := upd_same
  have DL : D ≠ L := ne_of_none ((same_new nf) _ _ upd_same) nL
  generalize upd (upd (upd H D (.lst [])) f (.lst [.int 0])) L (.lst (vis (hts n fun _ => 0))) = H1 at s1 hD1 hL1
  refine for_pairs (a := a) (ps := ps) rfl (s1.seq ha) (fun i => match cs[i]? with | some c => (.int (c.1 : Int), .int (c.2 : Int)) | none => (.non, .non))
    (Wdep n a D L cs H) ⟨none, none, none, rfl, s1, hD1, hL1⟩ (fun i σ H' _ hW => ?_) (fun i g σ H' hg hW => ?_) (fun i g σ H' hg hW => ?_) (fun σ H' hW => ?_)
  · obtain ⟨_, _, _, _, s, _⟩ := hW
    exact s.seq ha
  · obtain ⟨_, _, _, _, s, _⟩ := hW
    obtain ⟨c, hc, ht⟩ := hp.getL hg
    rw [hc]
    exact Same.sqt s ht
  · obtain ⟨y4, y5, y6, rfl, s, hD, hL⟩ := hW
    obtain ⟨c, hc, ht⟩ := hp.getL hg
    rw [hc]
    have okc := ok.2 c (List.mem_of_getElem? hc)
    have tg := tiers_get hc
    have hi : i < cs.length := (List.getElem?_eq_some_iff.mp hc).1
    generalize eh : hgtH (fun _ => 0) (cs.take i) = h at hL tg
    have et : (tiers cs).take (i + 1) = (tiers cs).take i ++ [tierH h c] := by rw [List.take_add_one, tg] <;> rfl
    unfold r_depths_f1
    walk_at "ev"
    refine ⟨L, _, _, _, rfl, rfl, .inl (.inl hL), atI_nat (hts_get okc.1), L, _, _, _, rfl, rfl, .inl (.inl hL), atI_nat (hts_get okc.2.1), ?_⟩
    have em : (if (h c.2 : Int) > (h c.1 : Int) then (h c.2 : Int) else (h c.1 : Int)) = (tierH h c : Int) := by
      unfold tierH
      split <;> omega
    refine ⟨_, rfl, _, rfl, .inl ⟨rfl, _, .inl (.inl hD)⟩, ?_⟩
    rw [em]
    refine ⟨D, _, _, rfl, rfl, hD, by rw [nat_len, List.length_take]; exact small_lt (by omega), ?_⟩
    have hL2 : (upd H' D (.lst (natL ((tiers cs).take i) ++ [.int (tierH h c : Int)]))) L = some (.lst (vis (hts n h))) := by rw [upd_ne DL.symm]; exact hL
    refine set_run (a := c.1) rfl rfl hL2 (by rw [ints_len, hts_len]; exact okc.1) ?_
    walk_at "ev"
    refine set_run (a := c.2) rfl rfl upd_same (by rw [List.length_set, ints_len, hts_len]; exact okc.2.1) ?_
    refine ⟨_, _, _, rfl, same_mut (same_mut (same_mut s nD) nLH) nLH, ?_, ?_⟩
    · rw [upd_ne DL, upd_ne DL, upd_same, et]
      unfold natL
      rw [List.map_append] <;> rfl
    · rw [upd_same, hgt_take hc, eh, ints_set, ints_set, hts_set]
  · obtain ⟨y4, y5, y6, rfl, s, hD, hL⟩ := hW
    walk_at "ev"
    rw [hpl, ← tiers_len, List.take_length] at hD
    exact q H' D s nD hD
theorem all2_of_get {α β : Type} {R : α → β → Prop} : ∀ {l : List α} {m : List β}, l.length = m.length → (∀ (i : Nat) a b, l[i]? = some a → m[i]? = some b → R a b) → All2 R l m
  | [], [], _, _ => .nil
  | [], _ :: _, h, _ => nomatch h
  | _ :: _, [], h, _ => nomatch h
  | a :: l, b :: m, h, g => .cons (g 0 a b rfl rfl) (all2_of_get (Nat.succ.inj h) fun i x y hx hy => g (i + 1) x y hx hy)
theorem All2.imp_mem {α β : Type} {R S : α → β → Prop} {l : List α} {m : List β} (h : All2 R l m) : (∀ a b, a ∈ l → R a b → S a b) → All2 S l m := by
  induction h with
  | nil => intro _; exact .nil
  | cons r _ ih => intro f; exact .cons (f _ _ (.head _) r) (ih fun a b ha hb => f a b (.tail _ ha) hb)
theorem nodup_ne {l : List Addr} (h : l.Nodup) {i j : Nat} {a b : Addr} (hi : l[i]? = some a) (hj : l[j]? = some b) (n : i ≠ j) : a ≠ b := by
  obtain ⟨h1, e1⟩ := List.getElem?_eq_some_iff.mp hi
  obtain ⟨h2, e2⟩ := List.getElem?_eq_some_iff.mp hj
  have h' := List.pairwise_iff_getElem.mp h
  rcases Nat.lt_or_ge i j with z | z
  · have := h' i j h1 h2 z
    rw [e1, e2] at this
    exact this
  · have := h' j i h2 h1 (by omega)
    rw [e1, e2] at this
    exact this.symm
theorem lays_push {H0 H : Hp} {ls : List Addr} {xss : List (List Cmp)} {t : Nat} {l : Addr} {xs : List Cmp} {ps : List Addr} {g : Addr} {c : Cmp} (h : Lays K H0 H ls xss) (hl : ls[t]? = some l) (hx : xss[t]? = some xs)
    (hp : H l = some (.lst (Rfs ps))) (hps : Prs K H ps xs) (hg : SqT K H g (V2 c)) : Lays K H0 (upd H l (.lst (Rfs ps ++ [.ref g]))) ls (xss.set t (xs ++ [c])) := by
  obtain ⟨h1, nd⟩ := h
  refine ⟨all2_of_get (by rw [List.length_set]; exact h1.length) fun i a b ha hb => ?_, nd⟩
  obtain ⟨xs', hx', fr, qs, hq, hqs⟩ := h1.getL ha
  refine ⟨fr, ?_⟩
  rw [List.getElem?_set] at hb
  by_cases z : t = i
  · rw [if_pos z] at hb
    subst z
    have ea : a = l := Option.some.inj (ha.symm.trans hl)
    subst ea
    rw [if_pos (List.getElem?_eq_some_iff.mp hx).1] at hb
    have eb := Option.some.inj hb
    subst eb
    refine ⟨ps ++ [g], ?_, ?_⟩
    · rw [upd_same]
      unfold Rfs
      rw [List.map_append] <;> rfl
    · exact prs_upd hp (hps.snoc hg)
  · rw [if_neg z] at hb
    have eb : b = xs' := Option.some.inj (hb.symm.trans hx')
    subst eb
    have na : a ≠ l := nodup_ne nd ha hl fun e => z e.symm
    exact ⟨qs, by rw [upd_ne na]; exact hq, prs_upd hp hqs⟩
theorem lays_same {H0 H H' : Hp} {ls : List Addr} {xss : List (List Cmp)} (s : Same H H') (h : Lays K H0 H ls xss) : Lays K H0 H' ls xss :=
  ⟨h.1.imp fun _ _ r => ⟨r.1, by obtain ⟨ps, a, b⟩ := r.2; exact ⟨ps, s _ _ a, Same.prs s b⟩⟩, h.2⟩
def Wlayr (K : PySem.W.Frag) (n : Nat) (a f t : Addr) (cs : List Cmp) (H : Hp) (i : Nat) (σ : L2.St) (H' : Hp) : Prop :=
  ∃ y3 y4 ls, σ = [some (.int (n : Int)), some (.ref a), some (.ref f), y3, y4] ∧ Same H H' ∧ H' f = some (.lst (Rfs ls)) ∧ H' t = some (.lst (natL (tiers cs))) ∧ f ∉ ls ∧ t ∉ ls ∧ Lays K H H' ls (layL cs i (manyL ((tiers cs).take i)))
theorem zip_in {σ : L2.St} {H : Hp} {a b : Addr} {xs ys : List V} {j1 j2 : Nat} {tb : TS} {D : Ends} (hx : SqL K H a xs) (hy : SqL K H b ys) (hz : xs.length = ys.length) (Pv : Nat → L2.St → Hp → Prop) (h0 : Pv 0 σ H) (hl : ∀ i σ H, i ≤ xs.length → Pv i σ H → SqL K H a xs ∧ SqL K H b ys)
    (turn : ∀ i x y σ H H', xs[i]? = some x → ys[i]? = some y → i < xs.length → Pv i σ H → Same H H' → tb { D with nx := Pv (i + 1), ct := Pv (i + 1), bk := D.nx } ((σ.set j1 (some x)).set j2 (some y)) H')
    (done : ∀ σ H, Pv xs.length σ H → D.nx σ H) :
    ForK (gTup K 2 (gCons (gName j1) (gCons (gName j2) gNil))) tb D σ (Itz K a b) H := by
  refine it_for (n := xs.length) Pv h0 (fun i σ H hi p => ?_) (fun σ H p => ?_) (fun i σ H hi p v H' y => ?_) done
  · obtain ⟨x, gx⟩ := get_of hi
    obtain ⟨y, gy⟩ := get_of (xs := ys) (i := i) (by omega)
    obtain ⟨q1, q2⟩ := hl i σ H (Nat.le_of_lt hi) p
    exact ⟨xs, ys, x, y, q1, q2, gx, gy⟩
  · obtain ⟨q1, q2⟩ := hl _ σ H (Nat.le_refl _) p
    exact ⟨xs, ys, q1, q2, .inl (Nat.le_refl _)⟩
  · obtain ⟨T, x, y, rfl, nT, rfl, f1, f2⟩ := y
    obtain ⟨q1, q2⟩ := hl i σ H (Nat.le_of_lt hi) p
    exact g2_run (.inl (.inl upd_same)) (turn i x y σ H _ (f1 xs q1) (f2 ys q2) hi p (same_new nT))
theorem natL_get {l : List Nat} {i : Nat} {x : V} (h : (natL l)[i]? = some x) : ∃ t : Nat, x = .int (t : Int) ∧ l[i]? = some t := by
  unfold natL at h
  rw [List.getElem?_map] at h
  cases e : l[i]? with
  | none => rw [e] at h; cases h
  | some z => rw [e] at h; exact ⟨z, (Option.some.inj h).symm, rfl⟩
theorem natL_at {l : List Nat} {i t : Nat} (h : l[i]? = some t) : (natL l)[i]? = some (.int (t : Int)) := by
  unfold natL
  rw [List.getElem?_map, h] <;> rfl
theorem many_le (cs : List Cmp) (i : Nat) : manyL ((tiers cs).take i) ≤ manyT cs := by
  unfold manyT
  conv => rhs; rw [← List.take_append_drop i (tiers cs), manyL_app]
  omega
theorem rd_layers (vs : List V) (H : Hp) (Q : VK) (E : XK) (h : sp_layers K vs H Q E) : r_layers K { nx := fun _ H' => Q .non H', rt := Q } (L2.start N_layers vs) H := by
  obtain ⟨n, a, cs, rfl, hw, q⟩ := h
  obtain ⟨ps, ha, hp, ok, n1, n10⟩ := id hw
  have hpl := hp.length
  have h60 := ok.1
  unfold r_layers N_layers
  walk_at "ev"
  refine ⟨n, a, cs, rfl, hw, fun H1 s1 => ⟨small_line (by decide), fun f nf => ?_⟩⟩
  have s2 := s1.trans (same_new (o := .lst []) nf)
  have nfH := s1.free nf
  show tFor _ _ _ _ _ _
  rw [for_def]
  unfold iZip
  walk_at "ev"
  refine ⟨n, a, cs, rfl, webAt_same s2 hw, fun H2 t s3 nt ht => ?_⟩
  have s23 := s2.trans s3
  have hf2 := s3 _ _ (upd_same (H := H1) (a := f) (o := .lst []))
  have tf : t ≠ f := fun z => by rw [z, upd_same] at nt; cases nt
  refine ⟨t, rfl, _, s23.seq ha, _, .inl (.inl ht), ?_⟩
  refine zip_in (xs := Rfs ps) (ys := natL (tiers cs)) (s23.seq ha) (.inl (.inl ht)) (by rw [rfs_len, nat_len, tiers_len]; exact hpl) (fun i σ H' => Wlayr K n a f t cs H i σ H') ⟨none, none, [], rfl, s23, hf2, ht, (fun h => nomatch h), (fun h => nomatch h), .nil, .nil⟩ (fun i σ H' _ hW => ?_) (fun i x y σ H5 H6 hx hy hi hW s6 => ?_) (fun σ H' hW => ?_)
  · obtain ⟨_, _, _, _, s, _, ht', _⟩ := hW
    exact ⟨s.seq ha, .inl (.inl ht')⟩
  · obtain ⟨y3, y4, ls, rfl, s, hf, ht', fl, tl, hls⟩ := hW
    obtain ⟨g, rfl, hg⟩ := rfs_get hx
    obtain ⟨c, hc, hgc⟩ := hp.getL hg
    obtain ⟨d, rfl, hd⟩ := natL_get hy
    have st := s.trans s6
    have hf6 := s6 _ _ hf
    have ht6 := s6 _ _ ht'
    have hls6 := lays_same s6 hls
    have dle := tier_le hd
    have ll := hls.1.length
    rw [layL_len] at ll
    have il : i < 60 := by rw [rfs_len] at hi; omega
    have many := many_le cs i
    have m60 : manyT cs ≤ cs.length := by
      have z := chain_len cs
      have y := ch_len cs cs.length
      unfold chainOf at z
      rw [List.length_reverse] at z
      omega
    have e1 : manyL ((tiers cs).take (i + 1)) = max (manyL ((tiers cs).take i)) (d + 1) := by
      rw [List.take_add_one, hd]
      show manyL ((tiers cs).take i ++ [d]) = _
      rw [manyL_app]
      show max _ (max (d + 1) 0) = _
      omega
    unfold r_layers_f1
    walk_at "ev"
    refine ⟨f, _, rfl, .inl (.inl (.inl hf6)), ?_⟩
    rw [rfs_len, ll]
    have fin : ∀ (H7 : Hp) (ls' : List Addr), Same H H7 → H7 f = some (.lst (Rfs ls')) → H7 t = some (.lst (natL (tiers cs))) → f ∉ ls' → t ∉ ls' → d < manyL ((tiers cs).take (i + 1)) → Lays K H H7 ls' (layL cs i (manyL ((tiers cs).take (i + 1)))) →
        ∃ l ps', ls'[d]? = some l ∧ H7 l = some (.lst (Rfs ps')) ∧ ps'.length ≤ 60 ∧ Wlayr K n a f t cs H (i + 1) [some (.int (n : Int)), some (.ref a), some (.ref f), some (.ref g), some (.int (d : Int))] (upd H7 l (.lst (Rfs ps' ++ [.ref g]))) := fun H7 ls' s7 hf7 ht7 fl' tl' hdl hl7 => by
      have hx' : (layL cs i (manyL ((tiers cs).take (i + 1))))[d]? = some (layI cs i d) := layL_get hdl
      obtain ⟨l, hl, fr, ps', hl2, hps'⟩ := hl7.1.get hx'
      have lf : f ≠ l := fun z => fl' (z ▸ List.mem_of_getElem? hl)
      have lt' : t ≠ l := fun z => tl' (z ▸ List.mem_of_getElem? hl)
      have lp := hps'.length
      refine ⟨l, ps', hl, hl2, ?_, _, _, ls', rfl, same_mut s7 fr, by rw [upd_ne lf]; exact hf7, by rw [upd_ne lt']; exact ht7, fl', tl', ?_⟩
      · unfold layI layerOf at lp
        rw [List.length_map] at lp
        have := List.length_filter_le (fun p : Cmp × Nat => p.2 == d) ((cs.take i).zip ((tiers cs).take i))
        rw [List.length_zip, List.length_take] at this
        omega
      · rw [← layL_set hc hd]
        exact lays_push hl7 hl hx' hl2 hps' (Same.sqt s7 hgc)
    by_cases new : (d : Int) = (manyL ((tiers cs).take i) : Int)
    · refine ⟨rfl, ?_⟩
      rw [if_pos (congrArg V.int new)]
      refine ⟨.inl ⟨rfl, _, .inl (.inl hf6)⟩, small_line (by decide), fun l nl => ?_⟩
      have s7 := same_new (o := .lst []) nl
      have hf7 := s7 _ _ hf6
      have fl2 : l ≠ f := fun z => by rw [z, hf6] at nl; cases nl
      have tl2 : t ≠ l := ne_of_none ht6 nl
      have lls : l ∉ ls := fun z => by
        obtain ⟨j, hj⟩ := List.getElem?_of_mem z
        obtain ⟨_, _, _, qs, hq, _⟩ := hls6.1.getL hj
        rw [hq] at nl
        cases nl
      have mx : manyL ((tiers cs).take (i + 1)) = manyL ((tiers cs).take i) + 1 := by omega
      refine ⟨f, _, _, rfl, rfl, hf7, by rw [rfs_len, ll]; exact small_lt (by omega), ?_⟩
      have hl7 : Lays K H (upd (upd H6 l (.lst [])) f (.lst (Rfs (ls ++ [l])))) (ls ++ [l]) (layL cs i (manyL ((tiers cs).take (i + 1)))) := by
        rw [mx, layL_more]
        refine ⟨?_, ?_⟩
        · refine All2.append ((lays_same s7 hls6).1.imp_mem fun x xs hm r => ⟨r.1, ?_⟩) (.one ⟨st.free nl, [], by rw [upd_ne fl2]; exact upd_same, .nil⟩)
          obtain ⟨qs, h1, h2⟩ := r.2
          have xf : x ≠ f := fun z => fl (by rw [← z]; exact hm)
          exact ⟨qs, by rw [upd_ne xf]; exact h1, prs_upd hf7 h2⟩
        · rw [List.nodup_append]
          exact ⟨hls6.2, by simp, fun x hx y hy z => lls (by rw [List.mem_singleton.mp hy] at z; rw [← z]; exact hx)⟩
      obtain ⟨l', ps', k1, k2, k3, k4⟩ := fin (upd (upd H6 l (.lst [])) f (.lst (Rfs (ls ++ [l])))) (ls ++ [l]) (same_mut (st.trans s7) nfH) upd_same (by rw [upd_ne tf]; exact s7 _ _ ht6) (fun z => by rcases List.mem_append.mp z with z | z; exact fl z; exact fl2 (List.mem_singleton.mp z).symm) (fun z => by rcases List.mem_append.mp z with z | z; exact tl z; exact tl2 (List.mem_singleton.mp z)) (by omega) hl7
      have er : Rfs ls ++ [V.ref l] = Rfs (ls ++ [l]) := by
        unfold Rfs
        rw [List.map_append] <;> rfl
      rw [er]
      refine ⟨f, _, _, _, rfl, rfl, .inl (.inl upd_same), atI_nat (rfs_at k1), ?_⟩
      exact ⟨.inl ⟨rfl, _, .inl (.inl k2)⟩, l', _, _, rfl, rfl, k2, by rw [rfs_len]; exact small_lt (by omega), k4⟩
    · refine ⟨rfl, ?_⟩
      rw [if_neg fun z => new (V.int.inj z)]
      have mx : manyL ((tiers cs).take (i + 1)) = manyL ((tiers cs).take i) := by omega
      obtain ⟨l', ps', k1, k2, k3, k4⟩ := fin H6 ls st hf6 ht6 fl tl (by omega) (by rw [mx]; exact hls6)
      refine ⟨f, _, _, _, rfl, rfl, .inl (.inl hf6), atI_nat (rfs_at k1), ?_⟩
      exact ⟨.inl ⟨rfl, _, .inl (.inl k2)⟩, l', _, _, rfl, rfl, k2, by rw [rfs_len]; exact small_lt (by omega), k4⟩
  · obtain ⟨y3, y4, ls, rfl, s, hf, ht', fl, tl, hls⟩ := hW
    walk_at "ev"
    rw [rfs_len, hpl, ← tiers_len, List.take_length, tiers_len] at hls
    exact q H' f ls s nfH hf hls fl
end Sw

set_option Elab.async false
set_option linter.all false
set_option maxRecDepth 100000
set_option maxHeartbeats 4000000
namespace Sw
open PySem PySem.Spec PyProof.Rows L2
local macro_rules | `(tactic| walk_at "ev") => `(tactic| simp only [tSeq, tCalW, quiet, tRzA, tRzO, tTryT, tTryK, tJoin, tJs, tBM, tBits, kStrI, kIntS, kLenS, mSplit, mPart, mIndex, tAsg, tRet, tRetN, tOp, tUn, tVar, tC, tNil, tCons, tCB, tDrop, tNext, tCont, tBreak, tIfS, tIf, tTest, tChain, tChain3, tB, tTup, tLst, tAnd, tOr, tNot, tAndV, tOrV, tNotV, tPart, tNoPart, tSl, tCal, tAug, ipI, rI0, rI, rU, rEq, rNe, kMin, kMax, gName, gCons, gNil, L2.start, wipe, List.map_cons, List.map_nil, List.length_cons, List.length_nil, List.cons_append, List.nil_append, List.append_nil, Nat.reduceAdd, Nat.reduceSub, List.replicate_succ, List.replicate_zero, List.getElem?_cons_zero, List.getElem?_cons_succ, List.set_cons_succ, List.set_cons_zero, Option.some.injEq, exists_eq_left', exists_eq_left, V.int.injEq, V.bl.injEq, V.str.injEq, V.ref.injEq, List.cons.injEq, exists_and_left, and_assoc, and_true, true_and, scal_ii, scal_ss, scal_nn, scal_bb, scal_ni, scal_in, decide_eq_true_eq, Bool.not_true, Bool.not_false, Bool.not_eq_true', decide_eq_false_iff_not, ite_not, reduceCtorEq, if_true, if_false, Bool.false_eq_true, ne_eq, not_true_eq_false, not_false_eq_true, Int.reduceLT, Int.reduceLE, Int.reduceNeg])
local macro_rules | `(tactic| walk_at "cm") => `(tactic| first | exact Or.inr ⟨by decide, by decide⟩ | exact Or.inl ⟨by decide, by decide⟩ | exact Or.inl ⟨by omega, by omega⟩ | exact Or.inr ⟨by omega, by omega⟩)
variable {K : PySem.W.Frag}
/-! ## What is pruned -/
theorem lean_take {n : Nat} {cs : List Cmp} {r : Row} (hr : r ∈ bares n) : ∀ i, i ≤ cs.length → gone (pick (fun k => (bares n).any (stirsAt cs k)) 0 (cs.take i)) r = gone (cs.take i) r
  | 0, _ => rfl
  | i + 1, hi => by
    have ih := lean_take (cs := cs) hr i (by omega)
    obtain ⟨c, hc⟩ := get_of (xs := cs) (i := i) (by omega)
    rw [pick_take hc, gone_take hc]
    cases z : (bares n).any (stirsAt cs i) with
    | true => rw [if_pos rfl, gone_snoc, ih]
    | false =>
      rw [if_neg (by decide), List.append_nil, ih]
      rw [List.any_eq_false] at z
      have := z r hr
      rw [stirs_eq hc] at this
      unfold gtB at this
      rw [decide_eq_true_eq] at this
      unfold goC
      rw [if_neg this]
theorem lean_goes {n : Nat} {cs : List Cmp} {r : Row} (hr : r ∈ bares n) : gone (lean n cs) r = gone cs r := by
  have := lean_take (cs := cs) hr cs.length (Nat.le_refl _)
  rw [List.take_length] at this
  exact this
theorem lean_ok {n m : Nat} {cs : List Cmp} (ok : WebOk n cs) : WebOk n (lean m cs) :=
  ⟨Nat.le_trans (pick_len _ _ _) ok.1, fun c hc => ok.2 c (pick_mem hc)⟩
theorem stirs_app {l m : List Cmp} {j : Nat} (h : j < l.length) : stirsAt (l ++ m) j = stirsAt l j := by
  funext r
  unfold stirsAt
  rw [List.getElem?_append_left h, List.take_append_of_le_length (by omega)]
def law13_d (K : PySem.W.Frag) : TS := (tSeq (tAsg (tCal (sp_straightened K) (tCons (tVar 1) (tCons (tVar 2) (tNil)))) (gTup K 2 (gCons (gName 10) (gCons (gName 11) (gNil))))) (tSeq (tAsg (tOp oMod (tOp oDiv (tVar 4) (tC (.int 20))) (tOp oAdd (tCB (kLen K) (tCons (tVar 2) (tNil))) (tC (.int 1)))) (gName 12)) (tSeq (tFor (iList K (tVar 3)) (gName 13) (r_law_f1 K)) (tRet (tC (.bl true))))))
def law13_c (K : PySem.W.Frag) : TS := (tSeq (tDrop (tBM K "list" rAppend (tVar 9) (tCons (tMet K "Bench" "comparers" (sp_bcomps K) (tVar 7) (tNil)) (tNil)))) (tSeq (tDrop (tBM K "list" rAppend (tVar 9) (tCons (tCal (sp_renamed K) (tCons (tVar 1) (tCons (tCal (sp_renamed K) (tCons (tVar 1) (tCons (tVar 2) (tCons (tVar 5) (tNil))))) (tCons (tVar 6) (tNil))))) (tNil)))) (law13_d K)))
def law13_b (K : PySem.W.Frag) : TS := (tSeq (tAsg (tLst (tCons (tOp (rIxT K) (tCal (quiet (sp_webof K)) (tCons (tCal (quiet (sp_webtext K)) (tCons (tVar 1) (tCons (tVar 2) (tNil)))) (tNil))) (tC (.int 1))) (tCons (tCB (rSumL K) (tCons (tCal (sp_layers K) (tCons (tVar 1) (tCons (tVar 2) (tNil)))) (tCons (tLst (tNil)) (tNil)))) (tNil)))) (gName 9)) (tSeq (tAsg (tOp rCat (tVar 9) (tLst (tCons (tCal (sp_pruned K) (tCons (tVar 1) (tCons (tVar 2) (tNil)))) (tCons (tCal (sp_upside K) (tCons (tVar 1) (tCons (tCal (sp_upside K) (tCons (tVar 1) (tCons (tVar 2) (tNil)))) (tNil)))) (tNil))))) (gName 9)) (law13_c K)))
def law13_a (K : PySem.W.Frag) : TS := (tSeq (tIfS (tOr (tTest (tOp (rNeD K) (tVar 8) (tCal (sp_needless K) (tCons (tVar 1) (tCons (tVar 2) (tNil)))))) (tTest (tOp (rNeD K) (tMet K "Bench" "comparers" (sp_bcomps K) (tVar 7) (tNil)) (tVar 2)))) (tRet (tC (.bl false))) (tNext)) (tSeq (tIfS (tNot (tB (tCal (sp_lwildgood K) (tCons (tVar 1) (tCons (tVar 2) (tCons (tVar 7) (tNil))))))) (tRet (tC (.bl false))) (tNext)) (law13_b K)))
/-- the webs that are held against one another -/
def OneAt (K : PySem.W.Frag) (H : Hp) (x : Addr) (n : Nat) (cs : List Cmp) (w : Addr) : Prop := w ≠ x ∧ ∃ ds ps, H w = some (.lst (Rfs ps)) ∧ Prs K H ps ds ∧ WebOk n ds ∧ ∀ r : Row, r.length = n → gone ds r = gone cs r
def WebsAt (K : PySem.W.Frag) (H : Hp) (x : Addr) (n : Nat) (cs : List Cmp) (ws : List Addr) : Prop := H x = some (.lst (Rfs ws)) ∧ ∀ w ∈ ws, OneAt K H x n cs w
theorem OneAt.same {H H' : Hp} {x w : Addr} {n : Nat} {cs : List Cmp} (s : Same H H') (h : OneAt K H x n cs w) : OneAt K H' x n cs w := by
  obtain ⟨h0, ds, ps, h1, h2, h3⟩ := h
  exact ⟨h0, ds, ps, s _ _ h1, Same.prs s h2, h3⟩
theorem WebsAt.same {H H' : Hp} {x : Addr} {n : Nat} {cs : List Cmp} {ws : List Addr} (s : Same H H') (h : WebsAt K H x n cs ws) : WebsAt K H' x n cs ws := ⟨s _ _ h.1, fun w hw => (h.2 w hw).same s⟩
/-- one web more -/
theorem WebsAt.snoc {H : Hp} {x u : Addr} {n : Nat} {cs : List Cmp} {ws : List Addr} (h : WebsAt K H x n cs ws) (hu : OneAt K H x n cs u) : WebsAt K (upd H x (.lst (Rfs ws ++ [.ref u]))) x n cs (ws ++ [u]) := by
  refine ⟨?_, fun w hw => ?_⟩
  · rw [upd_same]
    unfold Rfs
    rw [List.map_append] <;> rfl
  · have all : OneAt K H x n cs w := by
      rcases List.mem_append.mp hw with z | z
      · exact h.2 w z
      · rw [List.mem_singleton.mp z]
        exact hu
    obtain ⟨h0, ds, ps, h1, h2, h3⟩ := all
    exact ⟨h0, ds, ps, by rw [upd_ne h0]; exact h1, prs_upd h.1 h2, h3⟩
/-- the straight web and its spots -/
structure StrAt (K : PySem.W.Frag) (H : Hp) (t sp : Addr) (n : Nat) (cs : List Cmp) : Prop where
  w : WebAt K H t n (strOf n cs).1
  s : H sp = some (.lst (natL (strOf n cs).2))
def Wl13 (a : Addr) (n : Nat) (c R : Addr) (m : Int) (o b p d W t sp : Addr) (k : Nat) (H1 : Hp) (σ : L2.St) (H' : Hp) : Prop :=
  ∃ y13 y14 y15 y16 y17, σ = [some (.ref a), some (.int (n : Int)), some (.ref c), some (.ref R), some (.int m), some (.ref o), some (.ref b), some (.ref p), some (.ref d), some (.ref W), some (.ref t), some (.ref sp), some (.int (k : Int)), y13, y14, y15, y16, y17] ∧ Same H1 H'
theorem rd_law_f1 {a c R o b p d W t sp x : Addr} {n k : Nat} {m : Int} {cs : List Cmp} {ws : List Addr} {r : Row} {H1 H2 : Hp} {D : Ends} {σ : L2.St} (hw : WebAt K H1 c n cs) (hW : WebsAt K H1 W n cs ws) (few : ws.length ≤ 100) (hS : StrAt K H1 t sp n cs) (hx : SqL K H1 x (vis r)) (lr : r.length = n) (kl : k ≤ cs.length)
    (hσ : Wl13 a n c R m o b p d W t sp k H1 σ H2) :
    r_law_f1 K { D with nx := Wl13 a n c R m o b p d W t sp k H1, ct := Wl13 a n c R m o b p d W t sp k H1, bk := D.nx } (σ.set 13 (some (.ref x))) H2 := by
  obtain ⟨y13, y14, y15, y16, y17, rfl, s2⟩ := hσ
  obtain ⟨ps, hc, hps, ok, n1, n10⟩ := id hw
  have lp := hps.length
  have I := str_all ok.2
  have lg : (gone cs r).length = n := by rw [gone_len, lr]
  unfold r_law_f1
  walk_at "ev"
  refine ⟨n, c, x, cs, r, rfl, webAt_same s2 hw, s2.seq hx, lr, fun H3 e s3 ne he => ?_⟩
  have t3 := s2.trans s3
  -- all webs do the same
  refine lc_each (a := W) (xs := Rfs ws) rfl (.inl (.inl (t3 _ _ hW.1))) (fun v => rfl) (fun D i acc H' => Same H3 H' ∧ acc = []) (fun D nD => ⟨same_new nD, rfl⟩) (fun D i acc H' nD g => g.1.seq (.inl (.inl (t3 _ _ hW.1)))) ?_ ?_
  · intro D i y acc H' nD hy hi hD g
    obtain ⟨s, rfl⟩ := g
    obtain ⟨w, rfl, gw⟩ := rfs_get hy
    obtain ⟨_, ds, wps, w1, w2, w3, eq⟩ := hW.2 w (List.mem_of_getElem? gw)
    have hwd : WebAt K H1 w n ds := ⟨wps, .inl (.inl w1), w2, w3, n1, n10⟩
    have t4 := t3.trans s
    unfold Turn
    walk_at "ev"
    refine ⟨n, w, x, ds, r, rfl, webAt_same t4 hwd, t4.seq hx, lr, fun H5 u s5 nu hu => ?_⟩
    refine ne_rows (r := gone ds r) (s := gone cs r) (.inl (.inl hu)) (.inl (.inl ((s.trans s5) _ _ he))) ?_
    rw [decide_eq_true (eq r lr)]
    refine ⟨false, rfl, ?_⟩
    rw [if_neg (by decide)]
    exact ⟨[], s5 _ _ hD, s.trans s5, rfl⟩
  intro D' acc H4 nD hD g
  obtain ⟨s4, rfl⟩ := g
  refine ⟨small_line (by decide), fun u nu => ?_⟩
  have s5 := same_new (o := .lst []) nu
  refine ⟨.list [], .list [], .lst (.inl (.inl (s5 _ _ hD))) .nil, .lst (.inl (.inl upd_same)) .nil, by decide +kernel, by decide +kernel, false, rfl, ?_⟩
  rw [if_neg (by decide)]
  have t5 := t3.trans (s4.trans s5)
  have he5 := (s4.trans s5) _ _ he
  generalize upd H4 u (.lst []) = H5 at t5 he5
  -- the straight one, but for the spots
  refine ⟨n, t, x, _, r, rfl, webAt_same t5 hS.w, t5.seq hx, lr, fun H6 v s6 nv hv => ?_⟩
  have he6 := s6 _ _ he5
  have hs6 := (t5.trans s6) _ _ hS.s
  have ls : (strOf n cs).2.length = n := I.slen
  refine lc_row (n := n) (fun k => at0 (gone (strOf n cs).1 r) (spA (strOf n cs).2 k)) (fun Q q => by walk_at "ev"; exact q) (by omega) (fun v => rfl) (fun j H' Q' hj s' q' => ?_) (fun g H7 s7 ng hg => ?_)
  · walk_at "ev"
    have lt := I.lt hj
    exact ⟨sp, _, _, _, rfl, rfl, .inl (.inl (s' _ _ hs6)), atI_nat (natL_sp (by omega)), v, _, _, _, rfl, rfl, .inl (.inl (s' _ _ hv)), atI_nat (row_get (by rw [gone_len]; omega)), q'⟩
  have eR : (List.range n).map (fun k => at0 (gone (strOf n cs).1 r) (spA (strOf n cs).2 k)) = gone cs r := by
    refine row_ext (n := n) (by rw [List.length_map, List.length_range]) lg fun k hk => ?_
    rw [at0_rng hk, I.goes r lr k hk]
  rw [eR] at hg
  refine ne_rows (r := gone cs r) (s := gone cs r) (.inl (.inl hg)) (.inl (.inl (s7 _ _ he6))) ?_
  rw [decide_eq_true rfl]
  refine ⟨false, rfl, ?_⟩
  rw [if_neg (by decide)]
  have t7 := t5.trans (s6.trans s7)
  have he7 := s7 _ _ he6
  -- cut in two
  refine ⟨c, _, rfl, t7.seq hc, fun c2 nc2 => ?_⟩
  rw [cutV_from]
  have eD : (Rfs ps).drop k = Rfs (ps.drop k) := by
    unfold Rfs
    rw [List.map_drop]
  rw [eD]
  have s8 := same_new (o := .lst (Rfs (ps.drop k))) nc2
  have hc2 : (upd H7 c2 (.lst (Rfs (ps.drop k)))) c2 = some (.lst (Rfs (ps.drop k))) := upd_same
  generalize upd H7 c2 (.lst (Rfs (ps.drop k))) = H8 at s8 hc2
  have t8 := t7.trans s8
  refine ⟨c, _, rfl, t8.seq hc, fun c1 nc1 => ?_⟩
  rw [rfs_take]
  have s9 := same_new (o := .lst (Rfs (ps.take k))) nc1
  have hc1 : (upd H8 c1 (.lst (Rfs (ps.take k)))) c1 = some (.lst (Rfs (ps.take k))) := upd_same
  generalize upd H8 c1 (.lst (Rfs (ps.take k))) = H9 at s9 hc1
  have t9 := t8.trans s9
  have w1 : WebAt K H9 c1 n (cs.take k) := webAt_take (.inl (.inl hc1)) (Same.prs t9 hps) ok n1 n10
  refine ⟨n, c1, x, _, r, rfl, w1, t9.seq hx, lr, fun H10 f s10 nf hf => ?_⟩
  have t10 := t9.trans s10
  have w2 : WebAt K H10 c2 n (cs.drop k) := ⟨ps.drop k, .inl (.inl ((s9.trans s10) _ _ hc2)), (Same.prs t10 hps).drop k, ⟨by rw [List.length_drop]; have := ok.1; omega, fun e he => ok.2 e (List.mem_of_mem_drop he)⟩, n1, n10⟩
  refine ⟨n, c2, f, _, _, rfl, w2, .inl (.inl hf), by rw [gone_len, lr], fun H11 g2 s11 ng2 hg2 => ?_⟩
  rw [← gone_app, List.take_append_drop] at hg2
  have he11 := (s8.trans (s9.trans (s10.trans s11))) _ _ he7
  refine ne_rows (r := gone cs r) (s := gone cs r) (.inl (.inl hg2)) (.inl (.inl he11)) ?_
  rw [decide_eq_true rfl]
  refine ⟨false, rfl, ?_⟩
  rw [if_neg (by decide)]
  have t11 := t10.trans s11
  -- a sorting web behind it
  refine ⟨n, rfl, n1, n10, fun H12 S ss s12 nS hS' hss => ?_⟩
  have SO := sort_all n1 n10
  have he12 := s12 _ _ he11
  refine ⟨n, S, e, _, _, rfl, ⟨ss, .inl (.inl hS'), hss, ⟨SO.few, SO.ok⟩, n1, n10⟩, .inl (.inl he12), lg, fun H13 z s13 nz hz => ?_⟩
  have t13 := t11.trans (s12.trans s13)
  refine ⟨x, r, rfl, t13.seq hx, fun ns w hperm hsort nw => ?_⟩
  have s14 := same_new (o := .lst (ns.map V.int)) nw
  have en : gone (sortW n) (gone cs r) = ns := srt_uniq (((gone_prm SO.ok lg).trans (gone_prm ok.2 lr)).trans hperm.symm) (SO.srt _ lg) hsort
  refine ne_rows (r := gone (sortW n) (gone cs r)) (s := ns) (.inl (.inl (s14 _ _ hz))) (.inl (.inl upd_same)) ?_
  rw [decide_eq_true en]
  refine ⟨false, rfl, ?_⟩
  rw [if_neg (by decide)]
  exact ⟨_, _, _, _, _, rfl, t13.trans s14⟩
theorem rd_law13_d {a c R o b p d W : Addr} {n : Nat} {m : Int} {cs : List Cmp} {ws : List Addr} {qs : List Addr} {rs : List Row} {H1 : Hp} {Q : VK} (m0 : 0 ≤ m) (hw : WebAt K H1 c n cs) (hW : WebsAt K H1 W n cs ws) (few : ws.length ≤ 100) (hR : SqL K H1 R (Rfs qs)) (hr : Rws K H1 qs rs) (lr : ∀ r ∈ rs, r.length = n) (q : ∀ H', Q (.bl true) H') :
    law13_d K { nx := fun _ H' => Q .non H', rt := Q } [some (.ref a), some (.int (n : Int)), some (.ref c), some (.ref R), some (.int m), some (.ref o), some (.ref b), some (.ref p), some (.ref d), some (.ref W), none, none, none, none, none, none, none, none] H1 := by
  obtain ⟨ps, hc, hps, ok, n1, n10⟩ := id hw
  have lp := hps.length
  have h60 := ok.1
  unfold law13_d
  walk_at "ev"
  refine ⟨n, c, cs, rfl, hw, fun H2 u t sp ts s2 nu nt nsp tsp hu ht hts hsp => ?_⟩
  refine g2_run (.inl (.inl hu)) ?_
  walk_at "ev"
  have I := str_all ok.2
  have hS : StrAt K H2 t sp n cs := ⟨⟨ts, .inl (.inl ht), hts, ⟨by rw [I.len]; exact ok.1, fun e he => by
    obtain ⟨h1, h2⟩ := I.str e he
    exact ⟨by omega, h2, by omega⟩⟩, n1, n10⟩, hsp⟩
  refine ⟨⟨by decide, by decide⟩, c, _, rfl, .inl (s2.seq hc), ?_⟩
  rw [rfs_len, lp]
  obtain ⟨k, ek, kl⟩ := drawn_at (n := m / 20) (m := (cs.length : Int) + 1) (by omega)
  refine ⟨(cs.length : Int), rfl, by omega, ?_⟩
  rw [ek]
  refine for_each (a := R) (xs := Rfs qs) rfl (s2.seq hR) (fun _ => Wl13 a n c R m o b p d W t sp k H2) ⟨_, _, _, _, _, rfl, .refl H2⟩ (fun i σ H' _ hσ => ?_) (fun i x σ H' hx hi hσ => ?_) (fun σ H' hσ => ?_)
  · obtain ⟨_, _, _, _, _, _, s'⟩ := hσ
    exact (s2.trans s').seq hR
  · obtain ⟨x, rfl, gx⟩ := rfs_get hx
    obtain ⟨r, hgr, hxr⟩ := hr.getL gx
    exact rd_law_f1 (webAt_same s2 hw) (hW.same s2) few hS (s2.seq hxr) (lr r (List.mem_of_getElem? hgr)) (by omega) hσ
  · obtain ⟨_, _, _, _, _, rfl, s'⟩ := hσ
    walk_at "ev"
    exact q _
theorem rd_law13_c {a c R o b p d W l Rr : Addr} {n : Nat} {m : Int} {cs : List Cmp} {od : List Nat} {ws : List Addr} {qs : List Addr} {rs : List Row} {rq : List Addr} {H0 H1 : Hp} {Q : VK} (m0 : 0 ≤ m) (s0 : Same H0 H1) (nW : H0 W = none) (hW : WebsAt K H1 W n cs ws) (few : ws.length ≤ 10)
    (hw : WebAt K H0 c n cs) (hR : SqL K H0 R (Rfs qs)) (hr : Rws K H0 qs rs) (lr : ∀ r ∈ rs, r.length = n) (hb : BenchAt K H0 p n cs l Rr rq) (ho : H0 o = some (.lst (natL od))) (hk : H0 b = some (.lst (natL (backOf n od)))) (perm : od.Perm (List.range n)) (q : ∀ H', Q (.bl true) H') :
    law13_c K { nx := fun _ H' => Q .non H', rt := Q } [some (.ref a), some (.int (n : Int)), some (.ref c), some (.ref R), some (.int m), some (.ref o), some (.ref b), some (.ref p), some (.ref d), some (.ref W), none, none, none, none, none, none, none, none] H1 := by
  obtain ⟨dx, _, hp, _⟩ := id hb
  obtain ⟨_, _, _, ok, n1, n10⟩ := id hw
  unfold law13_c tMet
  walk_at "ev"
  refine ⟨.inl ⟨rfl, _, .inl (.inl hW.1)⟩, dx, _, s0 _ _ hp, bf_no n l Rr (by decide +kernel) (by decide +kernel) (by decide +kernel), ?_⟩
  refine ⟨p, l, Rr, n, cs, rq, rfl, bench_same s0 hb, fun H2 u us s2 nu hu hus => ?_⟩
  have W2 := hW.same s2
  have uW : u ≠ W := (ne_of_none hW.1 nu).symm
  refine ⟨W, _, _, rfl, rfl, W2.1, by rw [rfs_len]; exact small_lt (by omega), ?_⟩
  have W3 := W2.snoc (u := u) ⟨uW, cs, us, hu, hus, ok, fun _ _ => rfl⟩
  have s3 : Same H0 (upd H2 W (.lst (Rfs ws ++ [.ref u]))) := same_mut (s0.trans s2) nW
  generalize upd H2 W (.lst (Rfs ws ++ [.ref u])) = H3 at W3 s3
  refine ⟨.inl ⟨rfl, _, .inl (.inl W3.1)⟩, ?_⟩
  refine ⟨n, c, o, cs, od, rfl, webAt_same s3 hw, .inl (.inl (s3 _ _ ho)), perm, fun H4 v vs s4 nv hv hvs => ?_⟩
  have t4 := s3.trans s4
  refine ⟨n, v, b, _, backOf n od, rfl, ⟨vs, .inl (.inl hv), hvs, calls_ok perm ok, n1, n10⟩, .inl (.inl (t4 _ _ hk)), back_perm perm, fun H5 x xs s5 nx hx hxs => ?_⟩
  rw [call_back perm ok] at hxs
  have W5 := W3.same (s4.trans s5)
  have xW : x ≠ W := (ne_of_none (s4 _ _ W3.1) nx).symm
  refine ⟨W, _, _, rfl, rfl, W5.1, by rw [rfs_len, List.length_append]; exact small_lt (by show ws.length + 1 < _; omega), ?_⟩
  have W6 := W5.snoc (u := x) ⟨xW, cs, xs, hx, hxs, ok, fun _ _ => rfl⟩
  have s6 : Same H0 (upd H5 W (.lst (Rfs (ws ++ [u]) ++ [.ref x]))) := same_mut (t4.trans s5) nW
  generalize upd H5 W (.lst (Rfs (ws ++ [u]) ++ [.ref x])) = H6 at W6 s6
  exact rd_law13_d m0 (webAt_same s6 hw) W6 (by rw [List.length_append, List.length_append]; show ws.length + 1 + 1 ≤ 100; omega) (s6.seq hR) (Same.rws s6 hr) lr q
/-- what stands when the webs are made -/
structure Stand (K : PySem.W.Frag) (H : Hp) (c R o b p l Rr : Addr) (n : Nat) (cs : List Cmp) (od : List Nat) (qs : List Addr) (rs : List Row) (rq : List Addr) : Prop where
  hw : WebAt K H c n cs
  hR : SqL K H R (Rfs qs)
  hr : Rws K H qs rs
  hb : BenchAt K H p n cs l Rr rq
  ho : H o = some (.lst (natL od))
  hk : H b = some (.lst (natL (backOf n od)))
theorem Stand.same {H H' : Hp} {c R o b p l Rr : Addr} {n : Nat} {cs : List Cmp} {od : List Nat} {qs : List Addr} {rs : List Row} {rq : List Addr} (s : Same H H') (S : Stand K H c R o b p l Rr n cs od qs rs rq) : Stand K H' c R o b p l Rr n cs od qs rs rq :=
  ⟨webAt_same s S.hw, s.seq S.hR, Same.rws s S.hr, bench_same s S.hb, s _ _ S.ho, s _ _ S.hk⟩
theorem lays_flat13 {H0 H : Hp} {ls : List Addr} {xss : List (List Cmp)} (h : All2 (fun l xs => H0 l = none ∧ ∃ ps, H l = some (.lst (Rfs ps)) ∧ Prs K H ps xs) ls xss) :
    ∃ (yss : List (List V)) (qs : List Addr), All2 (fun a ys => H a = some (.lst ys)) ls yss ∧ yss.flatten = Rfs qs ∧ Prs K H qs xss.flatten := by
  induction h with
  | nil => exact ⟨[], [], .nil, rfl, .nil⟩
  | cons r _ ih =>
    obtain ⟨_, ps, h1, h2⟩ := r
    obtain ⟨yss, qs, h3, h4, h5⟩ := ih
    refine ⟨Rfs ps :: yss, ps ++ qs, .cons h1 h3, ?_, h2.append h5⟩
    rw [List.flatten_cons, h4]
    unfold Rfs
    rw [List.map_append]
theorem rd_law13_b {a c R o b p d l Rr : Addr} {n : Nat} {m : Int} {cs : List Cmp} {od : List Nat} {qs : List Addr} {rs : List Row} {rq : List Addr} {H : Hp} {Q : VK} (m0 : 0 ≤ m) (S : Stand K H c R o b p l Rr n cs od qs rs rq) (lr : ∀ r ∈ rs, r.length = n) (perm : od.Perm (List.range n)) (q : ∀ H', Q (.bl true) H') :
    law13_b K { nx := fun _ H' => Q .non H', rt := Q } [some (.ref a), some (.int (n : Int)), some (.ref c), some (.ref R), some (.int m), some (.ref o), some (.ref b), some (.ref p), some (.ref d), none, none, none, none, none, none, none, none, none] H := by
  obtain ⟨_, _, _, ok, n1, n10⟩ := id S.hw
  have h60 := ok.1
  unfold law13_b
  walk_at "ev"
  refine ⟨.int (n : Int), .ref c, .good, rfl, web_good S.hw, (fun _ => ⟨n, c, cs, rfl, rfl, S.hw, fun H1 s1 => ?_⟩), fun z => absurd rfl z⟩
  have rd := readW_web ok n1 n10
  have tl : (webTx n cs).length ≤ 100000 := by
    have := web_len n cs
    have e : (webTx n cs).length = (webT n cs).length := tx_len _
    omega
  refine ⟨.str (webTx n cs), "str", rfl, .str _, (fun y e => ?_), fun z => absurd rfl z⟩
  cases e
  refine ⟨tl, (fun n' cs' e' => ?_), fun e' => ?_⟩
  rotate_left
  · exfalso
    have e2 : readW (webT n cs) = none := e'
    rw [rd] at e2
    cases e2
  have e2 : readW (webT n cs) = some (n', cs') := e'
  rw [rd] at e2
  cases e2
  intro H2 x2 c2 ps2 s2 nx2 hx2 nc2 hc2 hps2
  refine ⟨x2, _, _, _, rfl, rfl, .inl (.inl hx2), atI_nat (j := 1) rfl, ?_⟩
  have t2 := s1.trans s2
  -- layer by layer
  refine ⟨n, c, cs, rfl, webAt_same t2 S.hw, fun H3 y ls s3 ny hy lays nin => ?_⟩
  refine ⟨Nat.zero_le _, fun e ne => ?_⟩
  obtain ⟨yss, qf, l1, l2, l3⟩ := lays_flat13 lays.1
  have lq := l3.length
  have lf := (lay_perm cs).length_eq
  have s4 := same_new (o := .lst []) ne
  refine ⟨y, e, ls, yss, rfl, s4.seq (.inl (.inl hy)), upd_same, l1.imp (fun _ _ r => s4 _ _ r), by rw [l2, rfs_len]; exact small_line (by omega), fun H5 F s5 hF _ => ?_⟩
  have hF' : H5 F = some (.lst (Rfs qf)) := by rw [hF, l2]
  have hpf := Same.prs (s4.trans s5) l3
  have t5 := t2.trans (s3.trans (s4.trans s5))
  have hc5 := (s3.trans (s4.trans s5)) _ _ hc2
  have hp5 := Same.prs (s3.trans (s4.trans s5)) hps2
  refine ⟨small_line (by decide), fun W1 nW1 => ?_⟩
  have s6 := same_new (o := .lst [.ref c2, .ref F]) nW1
  have hW1 : (upd H5 W1 (.lst [.ref c2, .ref F])) W1 = some (.lst (Rfs [c2, F])) := upd_same
  generalize upd H5 W1 (.lst [.ref c2, .ref F]) = H6 at s6 hW1
  have t6 := t5.trans s6
  -- pruned, upside down twice
  refine ⟨n, c, cs, rfl, webAt_same t6 S.hw, fun H7 P pp s7 nP hP hpp => ?_⟩
  have t7 := t6.trans s7
  refine ⟨n, c, cs, rfl, webAt_same t7 S.hw, fun H8 u us s8 nu hu hus => ?_⟩
  refine ⟨n, u, _, rfl, ⟨us, .inl (.inl hu), hus, ups_ok ok, n1, n10⟩, fun H9 v vs s9 nv hv hvs => ?_⟩
  rw [up_up ok] at hvs
  refine ⟨small_line (by decide), fun W2 nW2 => ?_⟩
  have s10 := same_new (o := .lst [.ref P, .ref v]) nW2
  have hW2 : (upd H9 W2 (.lst [.ref P, .ref v])) W2 = some (.lst (Rfs [P, v])) := upd_same
  generalize upd H9 W2 (.lst [.ref P, .ref v]) = H10 at s10 hW2
  have s7A := s7.trans (s8.trans (s9.trans s10))
  have s8A := s8.trans (s9.trans s10)
  have tA := t6.trans s7A
  refine ⟨W1, W2, _, _, rfl, rfl, s7A _ _ hW1, hW2, small_line (by show 2 + 2 ≤ 1000000; decide), fun W nW => ?_⟩
  have s11 := same_new (o := .lst (Rfs [c2, F] ++ Rfs [P, v])) nW
  have hW : (upd H10 W (.lst (Rfs [c2, F] ++ Rfs [P, v]))) W = some (.lst (Rfs [c2, F, P, v])) := upd_same
  generalize upd H10 W (.lst (Rfs [c2, F] ++ Rfs [P, v])) = H11 at s11 hW
  have okl := lean_ok (n := n) (m := n) (cs := cs) ok
  have okf : WebOk n (layersOf cs).flatten := ⟨by omega, fun x hx => ok.2 x ((lay_perm cs).mem_iff.mp hx)⟩
  have one : ∀ {w : Addr} {ds : List Cmp} {ws : List Addr}, H10 w = some (.lst (Rfs ws)) → Prs K H10 ws ds → WebOk n ds → (∀ r : Row, r.length = n → gone ds r = gone cs r) → OneAt K H11 W n cs w := fun {w ds ws} h1 h2 h3 h4 =>
    ⟨ne_of_none h1 nW, ds, ws, s11 _ _ h1, Same.prs s11 h2, h3, h4⟩
  have A1 : OneAt K H11 W n cs c2 := one ((s6.trans s7A) _ _ hc5) (Same.prs (s6.trans s7A) hp5) ok fun _ _ => rfl
  have A2 : OneAt K H11 W n cs F := one ((s6.trans s7A) _ _ hF') (Same.prs (s6.trans s7A) hpf) okf fun r hr => lay_goes ok.2 hr
  have A3 : OneAt K H11 W n cs P := one (s8A _ _ hP) (Same.prs s8A hpp) okl fun r hr => zero_one_eq okl.2 ok.2 (fun z hz => lean_goes hz) hr
  have A4 : OneAt K H11 W n cs v := one (s10 _ _ hv) (Same.prs s10 hvs) ok fun _ _ => rfl
  have hWs : WebsAt K H11 W n cs [c2, F, P, v] := ⟨hW, fun w hw => by
    rcases List.mem_cons.mp hw with rfl | hw
    · exact A1
    rcases List.mem_cons.mp hw with rfl | hw
    · exact A2
    rcases List.mem_cons.mp hw with rfl | hw
    · exact A3
    rw [List.mem_singleton.mp hw]
    exact A4⟩
  have SA := S.same tA
  exact rd_law13_c m0 s11 nW hWs (by show 4 ≤ 10; decide) SA.hw SA.hR SA.hr lr SA.hb SA.ho SA.hk perm q
theorem rd_law13_a {a c R o b p d l Rr : Addr} {n : Nat} {m : Int} {cs : List Cmp} {od : List Nat} {qs : List Addr} {rs : List Row} {rq : List Addr} {H : Hp} {Q : VK} (m0 : 0 ≤ m) (S : Stand K H c R o b p l Rr n cs od qs rs rq) (hd : H d = some (.lst (natL (idle n cs)))) (lr : ∀ r ∈ rs, r.length = n) (perm : od.Perm (List.range n)) (q : ∀ H', Q (.bl true) H') :
    law13_a K { nx := fun _ H' => Q .non H', rt := Q } [some (.ref a), some (.int (n : Int)), some (.ref c), some (.ref R), some (.int m), some (.ref o), some (.ref b), some (.ref p), some (.ref d), none, none, none, none, none, none, none, none, none] H := by
  obtain ⟨dx, _, hp, _⟩ := id S.hb
  obtain ⟨ps, hc, hps, _⟩ := id S.hw
  unfold law13_a tMet
  walk_at "ev"
  refine ⟨n, c, cs, rfl, S.hw, fun H1 x s1 nx hx => ?_⟩
  refine ne_rows (r := natI (idle n cs)) (s := natI (idle n cs)) (.inl (.inl (by rw [s1 _ _ hd, natL_vis]))) (.inl (.inl (by rw [hx, natL_vis]))) ?_
  rw [decide_eq_true rfl]
  refine ⟨false, rfl, ?_⟩
  rw [if_neg (by decide)]
  refine ⟨dx, _, s1 _ _ hp, bf_no n l Rr (by decide +kernel) (by decide +kernel) (by decide +kernel), ?_⟩
  refine ⟨p, l, Rr, n, cs, rq, rfl, bench_same s1 S.hb, fun H2 u us s2 nu hu hus => ?_⟩
  have t2 := s1.trans s2
  refine ne_webs (.inl (.inl hu)) hus (t2.seq hc) (Same.prs t2 hps) ?_
  rw [decide_eq_true rfl]
  refine ⟨false, rfl, ?_⟩
  rw [if_neg (by decide)]
  have S2 := S.same t2
  refine ⟨n, c, p, l, Rr, cs, rq, rfl, S2.hw, S2.hb, fun H3 s3 => ⟨true, rfl, ?_⟩⟩
  rw [if_neg (by decide)]
  exact rd_law13_b m0 (S2.same s3) lr perm q
theorem flat_nats13 (o : List Nat) : (natL o).all flatV = true := by
  rw [List.all_eq_true]
  intro x hx
  unfold natL at hx
  obtain ⟨k, _, rfl⟩ := List.mem_map.mp hx
  rfl
theorem idx_nats13 {o : List Nat} {k : Nat} {H : Hp} {b : Addr} {Q : VK} (hb : SqL K H b (natL o)) (hk : k ∈ o) (q : Q (.int ((o.idxOf k : Nat) : Int)) H) : rIndex K (.ref b) [.int (k : Int)] H Q := by
  have l := List.idxOf_lt_length_of_mem hk
  have g : o[o.idxOf k]? = some k := by rw [List.getElem?_eq_getElem l, List.getElem_idxOf]
  refine ⟨b, natL o, .int (k : Int), o.idxOf k, .int (k : Int), rfl, rfl, hb, rfl, flat_nats13 o, ?_, ?_, ?_, q⟩
  · unfold natL
    rw [List.getElem?_map, g] <;> rfl
  · show decide ((k : Int) = (k : Int)) = true
    exact decide_eq_true rfl
  · intro m z hm hz
    unfold natL at hz
    rw [List.getElem?_map, List.getElem?_eq_getElem (by omega)] at hz
    cases hz
    have := List.not_of_lt_findIdx (p := fun x => x == k) (xs := o) (i := m) (by exact hm)
    show decide (((o[m]'(by omega) : Nat) : Int) = (k : Int)) = false
    rw [decide_eq_false_iff_not]
    intro e
    have e2 : o[m]'(by omega) = k := by omega
    rw [e2] at this
    simp at this
theorem cutV_ints13 (ns : List Int) (lo hi : Option Int) : ∃ ms : List Int, cutV (ns.map V.int) lo hi = ms.map V.int := by
  unfold cutV
  exact ⟨_, by rw [← List.map_drop, ← List.map_take]⟩
theorem rd_law (vs : List V) (H : Hp) (Q : VK) (E : XK) (h : sp_law K vs H Q E) : r_law K { nx := fun _ H' => Q .non H', rt := Q } (L2.start N_law vs) H := by
  obtain ⟨a, ns, rfl, ha, hn, q⟩ := h
  unfold r_law N_law tLstRg tRg1
  show (tSeq _ (tSeq _ (tSeq _ (tSeq _ (tSeq _ (tSeq _ (law13_a K))))))) _ _ _
  walk_at "ev"
  refine ⟨a, ns, rfl, ha, hn, fun H1 p c ps n cs s1 np nc hp1 hc1 prs ok n1 n7 => ?_⟩
  refine g2_run (.inl (.inl hp1)) ?_
  walk_at "ev"
  have hw1 : WebAt K H1 c n cs := ⟨ps, .inl (.inl hc1), prs, ok, n1, by omega⟩
  refine ⟨a, ns, n, rfl, s1.seq ha, hn, n1, by omega, fun H2 R qs rs s2 nR hR own hrs few _ => ?_⟩
  have t2 := s1.trans s2
  have rw2 : Rws K H2 qs rs := own.rws
  refine ⟨a, _, rfl, t2.seq ha, fun x nx => ?_⟩
  obtain ⟨ms, em⟩ := cutV_ints13 ns none (some 9)
  rw [em]
  have s3 := same_new (o := .lst (ms.map V.int)) nx
  refine ⟨x, ms, rfl, .inl (.inl upd_same), ?_⟩
  generalize upd H2 x (.lst (ms.map V.int)) = H3 at s3
  refine ⟨_, 6, 120, rfl, ⟨by decide, by decide⟩, ⟨by decide, by decide⟩, fun m m0 mlt => ?_⟩
  walk_at "ev"
  obtain ⟨k, ek, kl⟩ := drawn_at (n := m) (m := (n : Int)) (by omega)
  rw [rgV_nat, ek]
  refine ⟨.of_le (by omega) (by omega) (by omega) (by omega), fun g1 ng1 => ⟨by omega, ?_⟩⟩
  have s4 := same_new (o := .lst (natL (List.range n))) ng1
  refine ⟨g1, _, rfl, .inl (.inl upd_same), fun g2 ng2 => ?_⟩
  rw [cutV_from]
  have s5 := s4.trans (same_new (o := .lst ((natL (List.range n)).drop k)) ng2)
  have h2 : (upd (upd H3 g1 (.lst (natL (List.range n)))) g2 (.lst ((natL (List.range n)).drop k))) g2 = some (.lst ((natL (List.range n)).drop k)) := upd_same
  generalize upd (upd H3 g1 (.lst (natL (List.range n)))) g2 (.lst ((natL (List.range n)).drop k)) = H5 at s5 h2
  refine ⟨.of_le (by omega) (by omega) (by omega) (by omega), fun g3 ng3 => ⟨by omega, ?_⟩⟩
  have s6 := s5.trans (same_new (o := .lst (natL (List.range n))) ng3)
  have h26 := (same_new (o := .lst (natL (List.range n))) ng3) _ _ h2
  have h36 : (upd H5 g3 (.lst (natL (List.range n)))) g3 = some (.lst (natL (List.range n))) := upd_same
  generalize upd H5 g3 (.lst (natL (List.range n))) = H6 at s6 h26 h36
  refine ⟨g3, _, rfl, .inl (.inl h36), fun g4 ng4 => ?_⟩
  rw [cutV_to]
  have s7 := s6.trans (same_new (o := .lst ((natL (List.range n)).take k)) ng4)
  have h27 := (same_new (o := .lst ((natL (List.range n)).take k)) ng4) _ _ h26
  have h47 : (upd H6 g4 (.lst ((natL (List.range n)).take k))) g4 = some (.lst ((natL (List.range n)).take k)) := upd_same
  generalize upd H6 g4 (.lst ((natL (List.range n)).take k)) = H7 at s7 h27 h47
  have rl : (natL (List.range n)).length = n := by rw [nat_len, List.length_range]
  refine ⟨g2, g4, _, _, rfl, rfl, h27, h47, by rw [List.length_drop, List.length_take, rl]; exact small_line (by omega), fun o no => ?_⟩
  have eO : (natL (List.range n)).drop k ++ (natL (List.range n)).take k = natL ((List.range n).drop k ++ (List.range n).take k) := by
    unfold natL
    rw [List.map_append, List.map_drop, List.map_take]
  have perm : ((List.range n).drop k ++ (List.range n).take k).Perm (List.range n) := by
    have h := List.perm_append_comm (l₁ := (List.range n).drop k) (l₂ := (List.range n).take k)
    rw [List.take_append_drop] at h
    exact h
  rw [eO]
  generalize (List.range n).drop k ++ (List.range n).take k = od at perm
  have s8 := s7.trans (same_new (o := .lst (natL od)) no)
  have ho8 : (upd H7 o (.lst (natL od))) o = some (.lst (natL od)) := upd_same
  generalize upd H7 o (.lst (natL od)) = H8 at s8 ho8
  refine lc_row (n := n) (fun k => ((od.idxOf k : Nat) : Int)) (fun Q q => by walk_at "ev"; exact q) (by omega) (fun v => rfl) (fun i H' Q' hi s' q' => ?_) (fun b H9 s9 nb hb => ?_)
  · walk_at "ev"
    refine ⟨.inl ⟨rfl, _, .inl (.inl (s' _ _ ho8))⟩, ?_⟩
    exact idx_nats13 (.inl (.inl (s' _ _ ho8))) (perm.mem_iff.mpr (List.mem_range.mpr hi)) q'
  have hb' : H9 b = some (.lst (natL (backOf n od))) := by
    rw [hb, natL_vis]
    unfold natI backOf
    rw [List.map_map] <;> rfl
  have t9 := s3.trans (s8.trans s9)
  refine ⟨n, c, cs, rfl, webAt_same (s2.trans t9) hw1, fun H10 t pb l Rr d rq s10 ht hbe hd => ?_⟩
  refine g2_run (.inl (.inl ht)) ?_
  have t10 := t9.trans s10
  exact rd_law13_a m0 ⟨webAt_same (s2.trans t10) hw1, t10.seq (.inl (.inl hR)), Same.rws t10 rw2, hbe, (s9.trans s10) _ _ ho8, s10 _ _ hb'⟩ hd hrs perm q
end Sw

set_option Elab.async false
set_option linter.all false
set_option maxRecDepth 100000
set_option maxHeartbeats 4000000
namespace Sw
open PySem PySem.Spec PyProof.Rows L2
local macro_rules | `(tactic| walk_at "ev") => `(tactic| simp only [tSeq, tCalW, quiet, tRzA, tRzO, tTryT, tTryK, tJoin, tJs, tBM, tBits, kStrI, kIntS, kLenS, mSplit, mPart, mIndex, tAsg, tRet, tRetN, tOp, tUn, tVar, tC, tNil, tCons, tCB, tDrop, tNext, tCont, tBreak, tIfS, tIf, tTest, tChain, tChain3, tB, tTup, tLst, tAnd, tOr, tNot, tAndV, tOrV, tNotV, tPart, tNoPart, tSl, tCal, tAug, ipI, rI0, rI, rU, rEq, rNe, kMin, kMax, gName, gCons, gNil, L2.start, wipe, List.map_cons, List.map_nil, List.length_cons, List.length_nil, List.cons_append, List.nil_append, List.append_nil, Nat.reduceAdd, Nat.reduceSub, List.replicate_succ, List.replicate_zero, List.getElem?_cons_zero, List.getElem?_cons_succ, List.set_cons_succ, List.set_cons_zero, Option.some.injEq, exists_eq_left', exists_eq_left, V.int.injEq, V.bl.injEq, V.str.injEq, V.ref.injEq, List.cons.injEq, exists_and_left, and_assoc, and_true, true_and, scal_ii, scal_ss, scal_nn, scal_bb, scal_ni, scal_in, decide_eq_true_eq, Bool.not_true, Bool.not_false, Bool.not_eq_true', decide_eq_false_iff_not, ite_not, reduceCtorEq, if_true, if_false, Bool.false_eq_true, ne_eq, not_true_eq_false, not_false_eq_true, Int.reduceLT, Int.reduceLE, Int.reduceNeg])
local macro_rules | `(tactic| walk_at "cm") => `(tactic| first | exact Or.inr ⟨by decide, by decide⟩ | exact Or.inl ⟨by decide, by decide⟩ | exact Or.inl ⟨by omega, by omega⟩ | exact Or.inr ⟨by omega, by omega⟩)
variable {K : PySem.W.Frag}
theorem pow_ge10 {n : Nat} (h : n ≤ 10) : 2 ^ n ≤ 1024 := Nat.pow_le_pow_right (by decide) h
/-- what is wild comes out of some row, and the web doesn't sort -/
theorem wild_some {n : Nat} {cs : List Cmp} (ok : CmpsOk n cs) {v : Nat} (h : wildB n cs = some v) : ¬ Srt (bareR n v) ∧ ∃ r ∈ bares n, gone cs r = bareR n v := by
  unfold wildB at h
  have h1 := List.find?_some h
  have h2 := List.mem_of_find?_eq_some h
  obtain ⟨w, hw, e⟩ := (mem_outs ok).mp h2
  refine ⟨?_, bareR n w, List.mem_map.mpr ⟨w, List.mem_range.mpr hw, rfl⟩, by rw [gone_bare ok, e]⟩
  intro z
  rw [decide_eq_true z] at h1
  cases h1
theorem wild_none {n : Nat} {cs : List Cmp} (ok : CmpsOk n cs) (h : wildB n cs = none) : ∀ r ∈ bares n, Srt (gone cs r) := fun r hr => by
  obtain ⟨w, hw, rfl⟩ := List.mem_map.mp hr
  unfold wildB at h
  rw [List.find?_eq_none] at h
  have := h (goneB cs w) ((mem_outs ok).mpr ⟨w, List.mem_range.mp hw, rfl⟩)
  rw [gone_bare ok]
  by_cases z : Srt (bareR n (goneB cs w))
  · exact z
  · rw [decide_eq_false z] at this
    exact absurd rfl this
theorem uns_none {n : Nat} {cs : List Cmp} (h : ∀ r ∈ bares n, Srt (gone cs r)) : firstB n (sortsB cs n) = none := by
  unfold firstB
  rw [List.find?_eq_none]
  intro r hr
  rw [(sorts_iff (bares_ok hr).1).mpr (h r hr)]
  exact Bool.false_ne_true
theorem uns_some {n : Nat} {cs : List Cmp} {r : Row} (hr : r ∈ bares n) (h : ¬ Srt (gone cs r)) : ∃ x, firstB n (sortsB cs n) = some x := by
  cases e : firstB n (sortsB cs n) with
  | some x => exact ⟨x, rfl⟩
  | none =>
    unfold firstB at e
    rw [List.find?_eq_none] at e
    exfalso
    refine h ((sorts_iff (bares_ok hr).1).mp ?_)
    have := e r hr
    rw [Bool.not_eq_true] at this
    exact this
theorem rd_lwildgood (vs : List V) (H : Hp) (Q : VK) (E : XK) (h : sp_lwildgood K vs H Q E) : r_lwildgood K { nx := fun _ H' => Q .non H', rt := Q } (L2.start N_lwildgood vs) H := by
  obtain ⟨n, a, p, l, R, cs, qs, rfl, hw, hb, q⟩ := h
  obtain ⟨ps, ha, hps, ok, n1, n10⟩ := id hw
  have pn := pow_ge10 n10
  obtain ⟨dx, _, hp, _⟩ := id hb
  unfold r_lwildgood N_lwildgood tMet
  walk_at "ev"
  refine ⟨dx, _, hp, bf_no n l R (by decide +kernel) (by decide +kernel) (by decide +kernel), ?_⟩
  refine ⟨p, l, R, n, cs, qs, rfl, hb, fun z H1 s1 => ?_, fun v z H1 u s1 nu hu => ?_⟩
  · refine ⟨rfl, ?_⟩
    rw [decide_eq_true rfl]
    refine ⟨true, rfl, ?_⟩
    rw [if_pos rfl]
    have en := uns_none (wild_none ok.2 z)
    refine ⟨n, a, cs, rfl, webAt_same s1 hw, ⟨fun _ H2 s2 => ?_, fun r e => (by rw [en] at e; cases e)⟩⟩
    refine ⟨rfl, ?_⟩
    rw [decide_eq_true rfl]
    exact q _ (s1.trans s2)
  · refine ⟨rfl, ?_⟩
    rw [decide_eq_false (by intro e; cases e)]
    refine ⟨false, rfl, ?_⟩
    rw [if_neg (by decide)]
    obtain ⟨ns, r0, hr0, e0⟩ := wild_some ok.2 z
    obtain ⟨x, hx⟩ := uns_some hr0 (by rw [e0]; exact ns)
    rw [lc_def]
    unfold iList
    walk_at "ev"
    refine ⟨n, rfl, n1, n10, fun H2 B bs s2 nB hB own => ?_⟩
    have t2 := s1.trans s2
    refine ⟨B, rfl, ⟨_, .inl (.inl hB)⟩, ?_⟩
    have bl := own.length
    have bn : (bares n).length = 2 ^ n := by
      unfold bares
      rw [List.length_map, List.length_range]
    refine lck_list (xs := Rfs bs) (.inl (.inl hB)) (fun v => rfl) (fun D i acc H' => Same H2 H' ∧ ∃ es : List Addr, acc = Rfs es ∧ Own H2 H' es (((bares n).take i).map (gone cs))) (fun D nD => ⟨same_new nD, [], rfl, .nil⟩) (fun D i acc H' nD g => g.1.seq (.inl (.inl hB))) ?_ ?_
    · intro D i y acc H' nD hy hi hD g
      obtain ⟨s, es, rfl, he⟩ := g
      obtain ⟨b, rfl, gb⟩ := rfs_get hy
      obtain ⟨r, hr, hbr⟩ := own.getL gb
      rw [rfs_len] at hi
      have le := he.length
      rw [List.length_map, List.length_take] at le
      refine .yes ?_
      walk_at "ev"
      refine ⟨a, b, n, cs, r, rfl, webAt_same (t2.trans s) hw, s.seq (.inl (.inl hbr.2)), (bares_ok (List.mem_of_getElem? hr)).1, fun H3 g s3 ng hg => ?_⟩
      have gD : g ≠ D := fun z => by rw [z, hD] at ng; cases ng
      refine GoOn.mk (s3 _ _ hD) (by rw [rfs_len]; omega) ⟨same_mut (s.trans s3) nD, es ++ [g], ?_, ?_⟩
      · unfold Rfs
        rw [List.map_append] <;> rfl
      · have eT : ((bares n).take (i + 1)).map (gone cs) = ((bares n).take i).map (gone cs) ++ [gone cs r] := by
          rw [List.take_add_one, hr, List.map_append] <;> rfl
        rw [eT]
        refine ((he.same s3).upd (s3 _ _ hD) fun r' hr' => ?_).snoc ⟨s.free ng, by rw [upd_ne gD]; exact hg⟩
        obtain ⟨b', hb', rfl⟩ := List.mem_map.mp hr'
        exact ne_of_len ((gone_len _ _).trans (bares_ok (List.mem_of_mem_take hb')).1) n1
    · intro D acc H3 nD hD g
      obtain ⟨s3, es, rfl, he⟩ := g
      rw [rfs_len, bl, List.take_length] at he
      have t3 := t2.trans s3
      refine ⟨n, a, cs, rfl, webAt_same t3 hw, ⟨fun e => (by rw [hx] at e; cases e), fun r e H4 v4 s4 nv hv => ?_⟩⟩
      refine ⟨rfl, ?_⟩
      rw [decide_eq_false (by intro e; cases e)]
      refine ⟨true, rfl, ?_⟩
      rw [if_pos rfl]
      have hu4 := (s2.trans (s3.trans s4)) _ _ hu
      have hD4 := s4 _ _ hD
      refine ⟨dI (bareR n v), ((bares n).map (gone cs)).map dI, dp_row (.inl (.inl hu4)), dp_rows (.inl (.inl hD4)) (Same.rws s4 he.rws), enc_row.shaped (by decide) _, enc_rows.shaped (by decide) _, ?_⟩
      have eA : ((((bares n).map (gone cs)).map dI).any fun z => PyData.eqv z (dI (bareR n v))) = true := by
        rw [List.any_eq_true]
        refine ⟨dI (gone cs r0), List.mem_map.mpr ⟨_, List.mem_map.mpr ⟨r0, hr0, rfl⟩, rfl⟩, ?_⟩
        rw [enc_row.eq, decide_eq_true e0]
      rw [eA]
      refine ⟨true, rfl, ?_⟩
      rw [if_pos rfl]
      refine ⟨u, bareR n v, rfl, .inl (.inl hu4), fun ms w hperm hsort nw => ?_⟩
      have s5 := same_new (o := .lst (ms.map V.int)) nw
      refine ne_rows (r := bareR n v) (s := ms) (.inl (.inl (s5 _ _ hu4))) (.inl (.inl upd_same)) ?_
      rw [decide_eq_false (fun e => ns (by rw [e]; exact hsort))]
      exact q _ (t3.trans (s4.trans s5))
end Sw

set_option Elab.async false
set_option linter.all false
set_option maxRecDepth 100000
set_option maxHeartbeats 4000000
namespace Sw
open PySem PySem.Spec PyProof.Rows L2
local macro_rules | `(tactic| walk_at "ev") => `(tactic| simp only [tSeq, tCalW, quiet, tRzA, tRzO, tTryT, tTryK, tJoin, tJs, tBM, tBits, kStrI, kIntS, kLenS, mSplit, mPart, mIndex, tAsg, tRet, tRetN, tOp, tUn, tVar, tC, tNil, tCons, tCB, tDrop, tNext, tCont, tBreak, tIfS, tIf, tTest, tChain, tChain3, tB, tTup, tLst, tAnd, tOr, tNot, tAndV, tOrV, tNotV, tPart, tNoPart, tSl, tCal, tAug, ipI, rI0, rI, rU, rEq, rNe, kMin, kMax, gName, gCons, gNil, L2.start, wipe, List.map_cons, List.map_nil, List.length_cons, List.length_nil, List.cons_append, List.nil_append, List.append_nil, Nat.reduceAdd, Nat.reduceSub, List.replicate_succ, List.replicate_zero, List.getElem?_cons_zero, List.getElem?_cons_succ, List.set_cons_succ, List.set_cons_zero, Option.some.injEq, exists_eq_left', exists_eq_left, V.int.injEq, V.bl.injEq, V.str.injEq, V.ref.injEq, List.cons.injEq, exists_and_left, and_assoc, and_true, true_and, scal_ii, scal_ss, scal_nn, scal_bb, scal_ni, scal_in, decide_eq_true_eq, Bool.not_true, Bool.not_false, Bool.not_eq_true', decide_eq_false_iff_not, ite_not, reduceCtorEq, if_true, if_false, Bool.false_eq_true, ne_eq, not_true_eq_false, not_false_eq_true, Int.reduceLT, Int.reduceLE, Int.reduceNeg])
local macro_rules | `(tactic| walk_at "cm") => `(tactic| first | exact Or.inr ⟨by decide, by decide⟩ | exact Or.inl ⟨by decide, by decide⟩ | exact Or.inl ⟨by omega, by omega⟩ | exact Or.inr ⟨by omega, by omega⟩)
variable {K : PySem.W.Frag}
section
variable {w : World} {σ : L2.St} {H : Hp} {te : TE} {j1 k : Nat} {a : Addr} {Q : VK}
/-- {.. for j1 in x}, x at a whole numbers -/
theorem sc_row {vs : List Nat} {r : Row} (f : Int → Int) (hk : σ[k]? = some (some (.ref a))) (hx : SqL K H a (vis r)) (few : r.length ≤ 4000) (hvs : ∀ v, wipe ((wipe σ vs).set j1 v) vs = wipe σ vs)
    (turn : ∀ (z : Int) (H' : Hp) (Q' : VK), z ∈ r → Q' (.int (f z)) H' → te ((wipe σ vs).set j1 (some (.int z))) H' Q')
    (done : ∀ D H' S n, Same H H' → H D = none → H' D = some (SetO w D S n) → n ≤ r.length → (∀ j, S j = true ↔ ∃ z ∈ r, f z = j) → Q (.ref D) H') :
    tSetC w (iList K (tVar k)) (gName j1) te vs σ H Q := by
  refine ⟨.ref a, hk, a, rfl, ⟨_, hx⟩, fun D nD => ?_⟩
  have lr : (vis r).length = r.length := ints_len _
  refine ⟨fun i m H2 => m + i = r.length ∧ Same H H2 ∧ ∃ S n, H2 D = some (SetO w D S n) ∧ n ≤ i ∧ (∀ j, S j = true ↔ ∃ z ∈ r.take i, f z = j), ⟨r.length, rfl, same_new nD, noI, 0, upd_same, Nat.le_refl _, fun j => ⟨fun e => (Bool.false_ne_true e).elim, fun ⟨z, hz, _⟩ => absurd hz (by rw [List.take_zero]; exact List.not_mem_nil)⟩⟩, fun i m H2 hW => ?_⟩
  obtain ⟨em, s, S, n, hD, hn, hS⟩ := hW
  by_cases hi : i < r.length
  · have gx : (vis r)[i]? = some (.int r[i]) := by
      unfold vis
      rw [List.getElem?_map, List.getElem?_eq_getElem hi] <;> rfl
    refine .inr ⟨⟨_, _, s.seq hx, gx⟩, fun G => m - 1 + (i + 1) = r.length ∧ Same H G ∧ ∃ S n, G D = some (SetO w D S n) ∧ n ≤ i + 1 ∧ (∀ j, S j = true ↔ ∃ z ∈ r.take (i + 1), f z = j), fun G hG => ⟨m - 1, by omega, hG⟩, fun x H3 y => ?_⟩
    obtain ⟨rfl, fx⟩ := y
    have ex := fx _ (s.seq hx)
    rw [gx] at ex
    obtain rfl : V.int r[i] = x := Option.some.inj ex
    refine ⟨hvs _, turn _ _ _ (List.getElem_mem hi) ⟨f r[i], S, n, rfl, hD, by unfold scanBound; omega, by omega, same_mut s nD, _, _, upd_same, ?_, fun j => ?_⟩⟩
    · unfold moN
      split <;> omega
    · have e : r.take (i + 1) = r.take i ++ [r[i]] := by rw [List.take_add_one, List.getElem?_eq_getElem hi] <;> rfl
      show (S j || decide (j = f r[i])) = true ↔ _
      rw [Bool.or_eq_true, decide_eq_true_eq, hS j, e]
      constructor
      · rintro (⟨z, hz, ez⟩ | h)
        · exact ⟨z, List.mem_append_left _ hz, ez⟩
        · exact ⟨_, List.mem_append_right _ (List.mem_singleton.mpr rfl), h.symm⟩
      · rintro ⟨z, hz, ez⟩
        rcases List.mem_append.mp hz with h | h
        · exact .inl ⟨z, h, ez⟩
        · rw [List.mem_singleton.mp h] at ez
          exact .inr ez.symm
  · have ei : r.length ≤ i := by omega
    rw [List.take_of_length_le ei] at hS
    exact .inl ⟨⟨_, s.seq hx, by rw [lr]; exact ei⟩, done D H2 S n s nD hD (by omega) hS⟩
end
theorem rd_bput (w : World) (T : BenchT K) (vs : List V) (H : Hp) (Q : VK) (E : XK) (h : sp_bput K vs H Q E) : r_bput K w { nx := fun _ H' => Q .non H', rt := Q } (L2.start N_bput vs) H := by
  obtain ⟨p, g, l, R, n, cs, c, qs, rfl, ⟨dx, ps, hp, hl, hps, hR, ⟨lq, hq⟩, lR, ok, n1, n10⟩, hg, okc, few, q⟩ := h
  have lps := hps.length
  have len := outs_len n cs
  have pn : 2 ^ n ≤ 2 ^ 10 := Nat.pow_le_pow_right (by decide) n10
  obtain ⟨d, hd⟩ := get_of (xs := qs) (i := cs.length) (by omega)
  obtain ⟨_, _, hdr⟩ := hq _ d hd
  rw [List.take_length] at hdr
  unfold r_bput N_bput tFld
  walk_at "ev"
  refine ⟨_, dx, _, hp, T.cl, T.nC, _, bf_comps n l R, ?_⟩
  refine ⟨l, _, rfl, .inl (.inl (.inl hl)), ?_⟩
  rw [rfs_len]
  walk_at "ev"
  rw [if_neg (by omega)]
  refine ⟨_, dx, _, hp, T.cl, T.nL, _, bf_lines n l R, ?_⟩
  refine ⟨n, g, c, rfl, hg, okc, true, rfl, ?_⟩
  walk_at "ev"
  refine g2_run hg ?_
  walk_at "ev"
  refine ⟨_, dx, _, hp, T.cl, T.nR, _, bf_rows n l R, ?_⟩
  refine ⟨R, _, _, _, rfl, rfl, .inl (.inl hR), atI_end (n := cs.length) (rfs_at hd) (by rw [rfs_len]; omega), ?_⟩
  walk_at "ev"
  have hdv : SqL K H d (vis (natI (outsN n cs))) := by
    rw [← natL_vis]
    exact .inl (.inl hdr)
  refine sc_row (fun z => ((goB z.toNat c : Nat) : Int)) rfl hdv (by unfold natI; rw [List.length_map]; omega) (fun v => rfl) (fun z H' Q' hz q' => ?_) (fun D H1 S m s1 nD hD hm hS => ?_)
  · obtain ⟨v, hv, rfl⟩ := List.mem_map.mp hz
    obtain ⟨c1, c2, _⟩ := okc
    walk_at "ev"
    exact ⟨v, c.1, c.2, rfl, by omega, by omega, q'⟩
  refine ⟨D, S, m, rfl, hD, by unfold natI at hm; rw [List.length_map] at hm; omega, fun ns u rise mem nu => ?_⟩
  have en : ns = natI (outsN n (cs ++ [c])) := outs_step ok.2 okc rise fun k => by
    rw [mem, hS]
    constructor
    · rintro ⟨z, hz, e⟩
      obtain ⟨v, hv, rfl⟩ := List.mem_map.mp hz
      exact ⟨v, hv, e⟩
    · rintro ⟨v, hv, e⟩
      exact ⟨(v : Int), List.mem_map.mpr ⟨v, hv, rfl⟩, e⟩
  subst en
  have s2 := s1.trans (same_new (o := .lst ((natI (outsN n (cs ++ [c]))).map V.int)) nu)
  have hu : (upd H1 u (.lst ((natI (outsN n (cs ++ [c]))).map V.int))) u = some (.lst (natL (outsN n (cs ++ [c])))) := by
    rw [upd_same, natL_vis]
    rfl
  have nuH := s1.free nu
  have ul : u ≠ l := (ne_of_none hl nuH).symm
  have uR : u ≠ R := (ne_of_none hR nuH).symm
  generalize upd H1 u (.lst ((natI (outsN n (cs ++ [c]))).map V.int)) = H2 at s2 hu
  refine ⟨_, dx, _, s2 _ _ hp, T.cl, T.nC, _, bf_comps n l R, ?_⟩
  refine ⟨.inl ⟨rfl, _, .inl (.inl (s2 _ _ hl))⟩, small_line (by decide), fun t nt => ?_⟩
  have s3 := s2.trans (same_new (o := .tup (V2 c)) nt)
  have hu3 := (same_new (o := .tup (V2 c)) nt) _ _ hu
  have ht3 : (upd H2 t (.tup (V2 c))) t = some (.tup (V2 c)) := upd_same
  have ht0 : (upd H2 t (.tup [.int (c.1 : Int), .int (c.2 : Int)])) = upd H2 t (.tup (V2 c)) := rfl
  rw [ht0]
  generalize upd H2 t (.tup (V2 c)) = H3 at s3 hu3 ht3
  have hl3 := s3 _ _ hl
  have hR3 := s3 _ _ hR
  have hp3 := s3 _ _ hp
  have lp : l ≠ p := ne_of hl hp (by intro e; cases e)
  have Rp : R ≠ p := ne_of hR hp (by intro e; cases e)
  refine ⟨l, _, _, rfl, rfl, hl3, by rw [rfs_len]; exact small_lt (by omega), ?_⟩
  generalize hH4 : upd H3 l (.lst (Rfs ps ++ [.ref t])) = H4
  have p4 : H4 p = some (.ins (He.ga K "Bench") dx (bf n l R)) := by rw [← hH4, upd_ne lp.symm]; exact hp3
  have R4 : H4 R = some (.lst (Rfs qs)) := by rw [← hH4, upd_ne lR.symm]; exact hR3
  have l4 : H4 l = some (.lst (Rfs (ps ++ [t]))) := by
    rw [← hH4, upd_same]
    unfold Rfs
    rw [List.map_append] <;> rfl
  have k4 : ∀ b o, b ≠ l → H3 b = some o → H4 b = some o := fun b o nb e => by rw [← hH4, upd_ne nb]; exact e
  have ps4 : Prs K H4 (ps ++ [t]) (cs ++ [c]) := by
    rw [← hH4]
    exact prs_upd hl3 ((Same.prs s3 hps).snoc (.inl (.inl ht3)))
  clear hH4
  refine ⟨_, dx, _, p4, T.cl, T.nR, _, bf_rows n l R, ?_⟩
  refine ⟨.inl ⟨rfl, _, .inl (.inl R4)⟩, ?_⟩
  refine ⟨R, _, _, rfl, rfl, R4, by rw [rfs_len]; exact small_lt (by omega), ?_⟩
  generalize hH5 : upd H4 R (.lst (Rfs qs ++ [.ref u])) = H5
  have p5 : H5 p = some (.ins (He.ga K "Bench") dx (bf n l R)) := by rw [← hH5, upd_ne Rp.symm]; exact p4
  have l5 : H5 l = some (.lst (Rfs (ps ++ [t]))) := by rw [← hH5, upd_ne lR]; exact l4
  have R5 : H5 R = some (.lst (Rfs (qs ++ [u]))) := by
    rw [← hH5, upd_same]
    unfold Rfs
    rw [List.map_append] <;> rfl
  have k5 : ∀ b o, b ≠ R → H4 b = some o → H5 b = some o := fun b o nb e => by rw [← hH5, upd_ne nb]; exact e
  have ps5 : Prs K H5 (ps ++ [t]) (cs ++ [c]) := by
    rw [← hH5]
    exact prs_upd R4 ps4
  clear hH5
  have keep : KeepB l R H H5 := fun b o b1 b2 e => k5 _ _ b2 (k4 _ _ b1 (s3 _ _ e))
  obtain ⟨dl, dR, _⟩ := hq _ d hd
  have d5 := keep d _ dl dR hdr
  have u5 := k5 _ _ uR (k4 _ _ ul hu3)
  have fin := q H5 u keep nuH ⟨dx, ps ++ [t], p5, l5, ps5, R5, ⟨by rw [List.length_append, List.length_append, lq] <;> rfl, fun i x hx => ?_⟩, lR, ⟨by rw [List.length_append]; show cs.length + 1 ≤ 60; omega, fun e he => ?_⟩, n1, n10⟩
  · refine ne_rows (r := natI (outsN n (cs ++ [c]))) (s := natI (outsN n cs)) (.inl (.inl (by rw [u5, natL_vis]))) (.inl (.inl (by rw [d5, natL_vis]))) ?_
    have e : (!decide (natI (outsN n (cs ++ [c])) = natI (outsN n cs))) = (bares n).any (gtB cs c.1 c.2) := by
      rw [← outs_stir ok.2 okc]
      congr 1
      exact decide_eq_decide.mpr natI_inj
    rw [e]
    exact fin
  · by_cases hi : i < qs.length
    · rw [List.getElem?_append_left hi] at hx
      obtain ⟨x1, x2, x3⟩ := hq _ x hx
      refine ⟨x1, x2, ?_⟩
      rw [List.take_append_of_le_length (by omega)]
      exact keep x _ x1 x2 x3
    · rw [List.getElem?_append_right (by omega)] at hx
      have ei : i = qs.length := by
        have := (List.getElem?_eq_some_iff.mp hx).1
        rw [List.length_singleton] at this
        omega
      subst ei
      rw [Nat.sub_self] at hx
      have ex : x = u := (Option.some.inj hx).symm
      subst ex
      refine ⟨ul, uR, ?_⟩
      rw [lq, List.take_of_length_le (by rw [List.length_append] <;> exact Nat.le_refl _)]
      exact u5
  · rcases List.mem_append.mp he with h | h
    · exact ok.2 e h
    · rw [List.mem_singleton.mp h]
      exact okc
end Sw

set_option Elab.async false
set_option linter.all false
set_option maxRecDepth 100000
set_option maxHeartbeats 4000000
namespace Sw
open PySem PySem.Spec PyProof.Rows L2
local macro_rules | `(tactic| walk_at "ev") => `(tactic| simp only [tSeq, tCalW, quiet, tRzA, tRzO, tTryT, tTryK, tJoin, tJs, tBM, tBits, kStrI, kIntS, kLenS, mSplit, mPart, mIndex, tAsg, tRet, tRetN, tOp, tUn, tVar, tC, tNil, tCons, tCB, tDrop, tNext, tCont, tBreak, tIfS, tIf, tTest, tChain, tChain3, tB, tTup, tLst, tAnd, tOr, tNot, tAndV, tOrV, tNotV, tPart, tNoPart, tSl, tCal, tAug, ipI, rI0, rI, rU, rEq, rNe, kMin, kMax, gName, gCons, gNil, L2.start, wipe, List.map_cons, List.map_nil, List.length_cons, List.length_nil, List.cons_append, List.nil_append, List.append_nil, Nat.reduceAdd, Nat.reduceSub, List.replicate_succ, List.replicate_zero, List.getElem?_cons_zero, List.getElem?_cons_succ, List.set_cons_succ, List.set_cons_zero, Option.some.injEq, exists_eq_left', exists_eq_left, V.int.injEq, V.bl.injEq, V.str.injEq, V.ref.injEq, List.cons.injEq, exists_and_left, and_assoc, and_true, true_and, scal_ii, scal_ss, scal_nn, scal_bb, scal_ni, scal_in, decide_eq_true_eq, Bool.not_true, Bool.not_false, Bool.not_eq_true', decide_eq_false_iff_not, ite_not, reduceCtorEq, if_true, if_false, Bool.false_eq_true, ne_eq, not_true_eq_false, not_false_eq_true, Int.reduceLT, Int.reduceLE, Int.reduceNeg])
local macro_rules | `(tactic| walk_at "cm") => `(tactic| first | exact Or.inr ⟨by decide, by decide⟩ | exact Or.inl ⟨by decide, by decide⟩ | exact Or.inl ⟨by omega, by omega⟩ | exact Or.inr ⟨by omega, by omega⟩)
variable {K : PySem.W.Frag}
theorem keep_same {H H1 H2 : Hp} {l R : Addr} (s : Same H H1) (nl : H l = none) (nR : H R = none) (k : KeepB l R H1 H2) : Same H H2 := fun b o e =>
  k b o (fun z => by rw [z, nl] at e; cases e) (fun z => by rw [z, nR] at e; cases e) (s b o e)
def idleTo (n : Nat) (cs : List Cmp) (i : Nat) : List Nat := (List.range i).filter fun k => !(bares n).any (stirsAt cs k)
def Wbe (K : PySem.W.Frag) (n : Nat) (a p l R D : Addr) (cs : List Cmp) (H : Hp) (i : Nat) (σ : L2.St) (H' : Hp) : Prop :=
  ∃ y4 y5, σ = [some (.int (n : Int)), some (.ref a), some (.ref p), some (.ref D), y4, y5] ∧ Same H H' ∧ (∃ qs, BenchAt K H' p n (cs.take i) l R qs ∧ D ∉ qs) ∧ H' D = some (.lst (natL (idleTo n cs i)))
theorem rd_lbenched (vs : List V) (H : Hp) (Q : VK) (E : XK) (h : sp_lbenched K vs H Q E) : r_lbenched K { nx := fun _ H' => Q .non H', rt := Q } (L2.start N_lbenched vs) H := by
  obtain ⟨n, a, cs, rfl, ⟨ps, ha, hps, ok, n1, n10⟩, q⟩ := h
  have lps := hps.length
  have h60 := ok.1
  unfold r_lbenched N_lbenched tMk
  walk_at "ev"
  intro p dx np ndx ne
  refine ⟨p, dx, n, rfl, upd_same, n1, n10, fun H1 l R d keep nl nR nd hb => ⟨rfl, ?_⟩⟩
  have off : ∀ b, (upd (upd H dx (.own p)) p (.ins (He.ga K "Bench") dx [])) b = none → H b = none := fun b e => by
    have b1 : b ≠ p := fun z => by rw [z, upd_same] at e; cases e
    rw [upd_ne b1] at e
    have b2 : b ≠ dx := fun z => by rw [z, upd_same] at e; cases e
    rw [upd_ne b2] at e
    exact e
  have nlH := off l nl
  have nRH := off R nR
  have s1 : Same H H1 := fun b o e => keep b o (ne_of_none e np) (by rw [upd_ne (ne_of_none e np), upd_ne (ne_of_none e ndx)]; exact e)
  refine ⟨small_line (by decide), fun D nD => ?_⟩
  have sD := same_new (o := .lst []) nD
  have nDH := s1.free nD
  obtain ⟨_, _, hp1, hl1, _, hR1, ⟨_, ho1⟩, _⟩ := id hb
  have dD : D ≠ d := (ne_of_none (ho1 0 d rfl).2.2 nD).symm
  have lD : D ≠ l := (ne_of_none hl1 nD).symm
  have RD : D ≠ R := (ne_of_none hR1 nD).symm
  refine for_enum2 (a := a) (xs := Rfs ps) rfl ((s1.trans sD).seq ha) (Wbe K n a p l R D cs H) ⟨none, none, rfl, s1.trans sD, ⟨[d], bench_same sD hb, fun h => dD (List.mem_singleton.mp h)⟩, upd_same⟩ (fun i σ H' _ hW => ?_) (fun i x σ H2 H3 hx hi hW s23 => ?_) (fun σ H' hW => ?_)
  · obtain ⟨_, _, _, s, _⟩ := hW
    exact s.seq ha
  · obtain ⟨y4, y5, rfl, s, ⟨qs, hb2, nq⟩, hD⟩ := hW
    obtain ⟨g, rfl, hg⟩ := rfs_get hx
    obtain ⟨c, hc, hgc⟩ := hps.getL hg
    rw [rfs_len] at hi
    have hb3 := bench_same s23 hb2
    have hD3 := s23 _ _ hD
    have s3 := s.trans s23
    obtain ⟨dx2, _, hp3, _⟩ := id hb3
    unfold r_lbenched_f1 tMet
    walk_at "ev"
    refine ⟨dx2, _, hp3, bf_no n l R (by decide +kernel) (by decide +kernel) (by decide +kernel), ?_⟩
    refine ⟨p, g, l, R, n, cs.take i, c, qs, rfl, hb3, Same.sqt s3 hgc, ok.2 c (List.mem_of_getElem? hc), by rw [List.length_take]; omega, fun H4 u k4 nu hb4 => ?_⟩
    have nq4 : D ∉ qs ++ [u] := fun h => by
      rcases List.mem_append.mp h with h | h
      · exact nq h
      · rw [List.mem_singleton.mp h, nu] at hD3
        cases hD3
    have eT : cs.take i ++ [c] = cs.take (i + 1) := by rw [List.take_add_one, hc] <;> rfl
    rw [eT] at hb4
    have s4 := keep_same s3 nlH nRH k4
    have hD4 := k4 _ _ lD RD hD3
    have eS : gtB (cs.take i) c.1 c.2 = stirsAt cs i := (stirs_eq hc).symm
    rw [eS]
    have eI : idleTo n cs (i + 1) = idleTo n cs i ++ (if (bares n).any (stirsAt cs i) = true then [] else [i]) := by
      unfold idleTo
      rw [List.range_succ, List.filter_append, List.filter_cons, List.filter_nil]
      cases (bares n).any (stirsAt cs i) <;> rfl
    refine ⟨_, rfl, ?_⟩
    cases z : (bares n).any (stirsAt cs i) with
    | true =>
      rw [z, if_pos rfl, List.append_nil] at eI
      rw [if_neg (by decide)]
      exact ⟨_, _, rfl, s4, ⟨_, hb4, nq4⟩, by rw [eI]; exact hD4⟩
    | false =>
      rw [z, if_neg Bool.false_ne_true] at eI
      rw [if_pos rfl]
      refine ⟨.inl ⟨rfl, _, .inl (.inl hD4)⟩, ?_⟩
      have len : (idleTo n cs i).length ≤ i := by
        have := List.length_filter_le (fun k => !(bares n).any (stirsAt cs k)) (List.range i)
        rw [List.length_range] at this
        exact this
      refine ⟨D, _, _, rfl, rfl, hD4, by rw [nat_len]; exact small_lt (by omega), ?_⟩
      have kD : ∀ b o, b ≠ D → H4 b = some o → (upd H4 D (.lst (natL (idleTo n cs i) ++ [.int (i : Int)]))) b = some o := fun b o nb e => by rw [upd_ne nb]; exact e
      obtain ⟨dx5, ps5, p5, l5, pr5, R5, ⟨lq5, o5⟩, r5⟩ := hb4
      have pD : p ≠ D := fun z => by rw [z] at hp1; rw [nD] at hp1; cases hp1
      exact ⟨_, _, rfl, same_mut s4 nDH, ⟨_, ⟨dx5, ps5, kD _ _ pD p5, kD _ _ lD.symm l5, prs_upd hD4 pr5, kD _ _ RD.symm R5, ⟨lq5, fun j x hx => by
        obtain ⟨x1, x2, x3⟩ := o5 j x hx
        exact ⟨x1, x2, kD _ _ (fun e => nq4 (e ▸ List.mem_of_getElem? hx)) x3⟩⟩, r5⟩, nq4⟩, by
        rw [upd_same, eI]
        unfold natL
        rw [List.map_append] <;> rfl⟩
  · obtain ⟨y4, y5, rfl, s, ⟨qs, hb4, _⟩, hD⟩ := hW
    rw [rfs_len, lps] at hb4 hD
    rw [List.take_length] at hb4
    walk_at "ev"
    refine ⟨small_line (by decide), fun t nt => ?_⟩
    have st := same_new (o := .tup [.ref p, .ref D]) nt
    exact q _ t p l R D qs (s.trans st) upd_same (bench_same st hb4) (st _ _ hD)
end Sw

set_option Elab.async false
set_option linter.all false
set_option maxRecDepth 100000
set_option maxHeartbeats 4000000
namespace Sw
open PySem PySem.Spec PyProof.Rows L2
local macro_rules | `(tactic| walk_at "ev") => `(tactic| simp only [tSeq, tCalW, quiet, tRzA, tRzO, tTryT, tTryK, tJoin, tJs, tBM, tBits, kStrI, kIntS, kLenS, mSplit, mPart, mIndex, tAsg, tRet, tRetN, tOp, tUn, tVar, tC, tNil, tCons, tCB, tDrop, tNext, tCont, tBreak, tIfS, tIf, tTest, tChain, tChain3, tB, tTup, tLst, tAnd, tOr, tNot, tAndV, tOrV, tNotV, tPart, tNoPart, tSl, tCal, tAug, ipI, rI0, rI, rU, rEq, rNe, kMin, kMax, gName, gCons, gNil, L2.start, wipe, List.map_cons, List.map_nil, List.length_cons, List.length_nil, List.cons_append, List.nil_append, List.append_nil, Nat.reduceAdd, Nat.reduceSub, List.replicate_succ, List.replicate_zero, List.getElem?_cons_zero, List.getElem?_cons_succ, List.set_cons_succ, List.set_cons_zero, Option.some.injEq, exists_eq_left', exists_eq_left, V.int.injEq, V.bl.injEq, V.str.injEq, V.ref.injEq, List.cons.injEq, exists_and_left, and_assoc, and_true, true_and, scal_ii, scal_ss, scal_nn, scal_bb, scal_ni, scal_in, decide_eq_true_eq, Bool.not_true, Bool.not_false, Bool.not_eq_true', decide_eq_false_iff_not, ite_not, reduceCtorEq, if_true, if_false, Bool.false_eq_true, ne_eq, not_true_eq_false, not_false_eq_true, Int.reduceLT, Int.reduceLE, Int.reduceNeg])
local macro_rules | `(tactic| walk_at "cm") => `(tactic| first | exact Or.inr ⟨by decide, by decide⟩ | exact Or.inl ⟨by decide, by decide⟩ | exact Or.inl ⟨by omega, by omega⟩ | exact Or.inr ⟨by omega, by omega⟩)
variable {K : PySem.W.Frag}
def pairV (w : List Nat) : List V := [onV (readN (part1 45 w).1), onV (readN (part1 45 w).2.2)]
theorem pair_v2 {n : Nat} {w : List Nat} {c : Cmp} (h : readC n w = some c) : pairV w = V2 c ∧ CmpOk n c := by
  unfold readC pairOk at h
  unfold pairV
  split at h
  · rename_i a b h1 h2
    split at h
    · rename_i h3
      cases h
      rw [h1, h2]
      exact ⟨rfl, h3⟩
    · cases h
  · cases h
theorem on_tyb {H : Hp} (o : Option Nat) : ∃ T, TyB K H (onV o) T := by
  cases o with
  | none => exact ⟨_, .non⟩
  | some k => exact ⟨_, .int _⟩
theorem tw_pair (n : Nat) (a b : Option Nat) : twV n (onV a) (onV b) = (pairOk n a b).isSome := by
  cases a with
  | none => rfl
  | some a =>
    cases b with
    | none => rfl
    | some b =>
      show (decide _ && (decide _ && decide _)) = (if _ then _ else _ : Option Cmp).isSome
      by_cases h : a < n ∧ b < n ∧ a ≠ b
      · obtain ⟨h1, h2, h3⟩ := h
        rw [if_pos ⟨h1, h2, h3⟩, decide_eq_true (by omega), decide_eq_true (by omega), decide_eq_true (by omega)] <;> rfl
      · rw [if_neg h]
        by_cases h1 : a < n
        · by_cases h2 : b < n
          · have h3 : a = b := by
              by_cases z : a = b
              · exact z
              · exact absurd ⟨h1, h2, z⟩ h
            rw [decide_eq_false (p := ¬ (a : Int) = (b : Int)) (by omega)]
            simp
          · rw [decide_eq_false (p := 0 ≤ (b : Int) ∧ (b : Int) < (n : Int)) (by omega)]
            simp
        · rw [decide_eq_false (p := 0 ≤ (a : Int) ∧ (a : Int) < (n : Int)) (by omega)]
          rfl
theorem it_pair {H : Hp} {p : Addr} {w : List Nat} (n : Nat) (h : SqT K H p (pairV w)) : ItOk K H n (.ref p) (readC n w).isSome := by
  obtain ⟨T1, t1⟩ := on_tyb (K := K) (H := H) (readN (part1 45 w).1)
  obtain ⟨T2, t2⟩ := on_tyb (K := K) (H := H) (readN (part1 45 w).2.2)
  have e : (readC n w).isSome = twV n (onV (readN (part1 45 w).1)) (onV (readN (part1 45 w).2.2)) := (tw_pair n _ _).symm
  rw [e]
  exact .two h t1 t2
/-- lists of pairs, as words tell them -/
abbrev Pvs (K : PySem.W.Frag) (H : Hp) (ps : List Addr) (ws : List (List Nat)) : Prop := All2 (fun p w => SqT K H p (pairV w)) ps ws
/-- what need_web finds of lines and words, and what readW tells -/
theorem verd_of {H : Hp} {D : Addr} {ps : List Addr} {ws : List (List Nat)} (o : Option Nat) (ho : ∀ n, o = some n → n ≤ 10) (hD : SqL K H D (Rfs ps)) (hp : Pvs K H ps ws) :
    (∃ n cs, o = some n ∧ 1 ≤ n ∧ n ≤ 10 ∧ ws.length ≤ 60 ∧ getAll (readC n) ws = some cs ∧ WebV K H (onV o) (.ref D) .good) ∨
    (∃ d, d ≠ .good ∧ (∀ k, d = .web (some k) → k ≤ 60) ∧ WebV K H (onV o) (.ref D) d ∧ ∀ n, o = some n → 1 ≤ n → ws.length ≤ 60 → getAll (readC n) ws = none) := by
  have hl := hp.length
  by_cases hn : ∃ n, o = some n ∧ 1 ≤ n
  · obtain ⟨n, rfl, n1⟩ := hn
    have n10 := ho n rfl
    have nv : noV (.int (n : Int)) = true := decide_eq_true (by omega)
    by_cases h60 : ws.length ≤ 60
    · cases e : getAll (readC n) ws with
      | some cs =>
        refine .inl ⟨n, cs, rfl, n1, n10, h60, e, .good nv hD (by rw [rfs_len]; omega) fun i x hx => ?_⟩
        obtain ⟨p, rfl, gp⟩ := rfs_get hx
        obtain ⟨w, gw, hw⟩ := hp.getL gp
        obtain ⟨c, _, hc⟩ := (getAll_some e).getL gw
        have := it_pair n hw
        rw [hc] at this
        exact this
      | none =>
        obtain ⟨k, w, gw, hw, ok⟩ := getAll_none e
        have kl : k < ws.length := (List.getElem?_eq_some_iff.mp gw).1
        refine .inr ⟨.web (some k), (fun z => nomatch z), (fun j z => by cases z; omega), ?_, fun m z _ _ => by cases z; exact e⟩
        obtain ⟨p, gp, hq⟩ := hp.get gw
        have bad := it_pair n hq
        rw [hw] at bad
        refine .item nv hD (by rw [rfs_len]; omega) (fun i hi => ?_) (rfs_at gp) bad
        obtain ⟨u, c, gu, hu⟩ := ok i hi
        obtain ⟨r, gr, hr⟩ := hp.get gu
        have := it_pair n hr
        rw [hu] at this
        exact ⟨_, rfs_at gr, this⟩
    · exact .inr ⟨.web none, (fun z => nomatch z), (fun j z => nomatch z), .many nv hD (by rw [rfs_len]; omega), fun m z _ h => absurd h h60⟩
  · obtain ⟨T, ht⟩ := on_tyb (K := K) (H := H) o
    refine .inr ⟨.lines, (fun z => nomatch z), (fun j z => nomatch z), .lines ht ?_, fun n z n1 => absurd ⟨n, z, n1⟩ hn⟩
    cases o with
    | none => rfl
    | some n =>
      have : ¬ 1 ≤ n := fun z => hn ⟨n, rfl, z⟩
      exact decide_eq_false (by omega)
theorem tyb_str {H : Hp} {v : V} {T : String} (h : TyB K H v T) (e : T = "str") : ∃ x, v = .str x := by
  cases h with
  | str x => exact ⟨x, rfl⟩
  | _ => exact absurd e (by decide)
theorem any2 {cls c1 c2 : Value} {b1 b2 : Bool} (h1 : PySem.W.exmOne K cls c1 = some b1) (h2 : PySem.W.exmOne K cls c2 = some b2) : PySem.W.exmAny K cls [c1, c2] = some (b1 || (b2 || false)) := by
  unfold PySem.W.exmAny PySem.W.exmAny PySem.W.exmAny
  rw [h1, h2]
/-- what an except clause of both classes must know of them -/
structure TwoX (K : PySem.W.Frag) : Prop where
  ll : PySem.W.exmOne K (.ref (He.ga K "BadLines")) (.ref (He.ga K "BadLines")) = some true
  lw : PySem.W.exmOne K (.ref (He.ga K "BadLines")) (.ref (He.ga K "BadWeb")) = some false
  wl : PySem.W.exmOne K (.ref (He.ga K "BadWeb")) (.ref (He.ga K "BadLines")) = some false
  ww : PySem.W.exmOne K (.ref (He.ga K "BadWeb")) (.ref (He.ga K "BadWeb")) = some true
theorem prs_of {H : Hp} {n : Nat} {ps : List Addr} {ws : List (List Nat)} (h1 : All2 (fun q w => H q = some (.tup (pairV w))) ps ws) : ∀ {cs : List Cmp}, All2 (fun w c => readC n w = some c) ws cs → Prs K H ps cs := by
  induction h1 with
  | nil => intro cs h2; cases h2; exact .nil
  | cons r1 _ ih =>
    intro cs h2
    cases h2 with
    | cons r2 h2 =>
      obtain ⟨e, _⟩ := pair_v2 r2
      exact .cons (.inl (.inl (by rw [← e]; exact r1))) (ih h2)
theorem same_xd {H H' : Hp} {d : Addr} {o : HO} (s : Same H H') (nd : H' d = none) : Same H (upd H' d o) := s.trans (same_new nd)
theorem rd_webof (X2 : TwoX K) (vs : List V) (H : Hp) (Q : VK) (E : XK) (h : sp_webof K vs H Q E) : r_webof K E { nx := fun _ H' => Q .non H', rt := Q } (L2.start N_webof vs) H := by
  obtain ⟨v, T, rfl, ht, q1, q2⟩ := h
  unfold r_webof N_webof
  walk_at "ev"
  refine ⟨v, T, rfl, ht, _, _, rfl, rfl, ?_⟩
  walk_at "ev"
  by_cases hT : T = "str"
  · obtain ⟨x, rfl⟩ := tyb_str ht hT
    subst hT
    · obtain ⟨hx, q3, q4⟩ := q1 x rfl
      rw [if_pos rfl]
      walk_at "ev"
      refine ⟨rfl, by decide +kernel, small_line (by omega), fun T1 n1 => ?_⟩
      obtain ⟨e1, e2, e3⟩ := partition_sign x 58
      rw [show (⟨#[58]⟩ : Str) = ":" by decide +kernel] at e1 e2 e3
      obtain ⟨pl1, pl2⟩ := part_len 58 (sg x)
      have s1 := same_new (o := .tup [V.str (Txt.partition x ":").1, .str (Txt.partition x ":").2.1, .str (Txt.partition x ":").2.2]) n1
      refine ⟨T1, _, rfl, .inl (.inl upd_same), rfl, ?_⟩
      generalize upd H T1 (.tup [V.str (Txt.partition x ":").1, .str (Txt.partition x ":").2.1, .str (Txt.partition x ":").2.2]) = H1 at s1
      generalize (Txt.partition x ":").1 = head at e1
      generalize (Txt.partition x ":").2.1 = colon at e2
      generalize (Txt.partition x ":").2.2 = tail at e3
      walk_at "ev"
      have hx' : (sg x).length ≤ 100000 := by rw [← sg_len]; exact hx
      have tl : tail.length ≤ 100000 := by rw [sg_len, e3]; omega
      refine ⟨rfl, by decide +kernel, small_line (by omega), fun L nL => ?_⟩
      have es := split_sign tail 32 (by decide)
      rw [show (⟨#[32]⟩ : Str) = " " by decide +kernel, e3] at es
      have s2 := s1.trans (same_new (o := .lst ((Txt.split tail " ").map V.str)) nL)
      have ct := cut_count 32 (part1 58 (sg x)).2.2
      have cm := cut_mem 32 (part1 58 (sg x)).2.2
      generalize hsp : Txt.split tail " " = parts at es s2
      cases parts with
      | nil => exact absurd es.symm (cutOn_ne 32 _)
      | cons first ws =>
        have es2 : cutOn 32 (part1 58 (sg x)).2.2 = sg first :: ws.map sg := by rw [← es] <;> rfl
        rw [es2, List.length_cons, List.length_map] at ct
        refine ⟨L, .str first, ws.map V.str, rfl, .inl (.inl upd_same), by rw [List.length_map]; omega, fun p np => ?_⟩
        have s3 := s2.trans (same_new (o := .lst (ws.map V.str)) np)
        generalize hH3 : upd (upd H1 L (.lst (List.map V.str (first :: ws)))) p (.lst (ws.map V.str)) = H3 at s3
        have hp3 : H3 p = some (.lst (ws.map V.str)) := by rw [← hH3, upd_same]
        clear hH3
        walk_at "ev"
        have out : readW (sg x) = none → ([V.str "lines, a colon and a blank ahead of each comparer make a web's text"]).length ≤ sizeLine ∧ E (.ref (He.ga K "BadText")) none H3 := fun e => ⟨small_line (by decide), q4 e H3 s3⟩
        by_cases hc : (part1 58 (sg x)).2.1 = true
        · rw [if_pos hc] at e2
          subst e2
          rw [if_pos rfl]
          by_cases hf : first = ""
          · subst hf
            rw [if_pos rfl]
            refine ⟨head, rfl, ?_⟩
            rw [e1]
            have es3 : cutOn 32 (part1 58 (sg x)).2.2 = [] :: ws.map sg := by rw [es2, sg_nil2]
            refine lc_each (a := p) (xs := ws.map V.str) rfl (.inl (.inl hp3)) (fun v => rfl) (fun D i acc H' => Same H3 H' ∧ ∃ ps : List Addr, acc = Rfs ps ∧ All2 (fun q w => H' q = some (.tup (pairV w))) ps ((ws.map sg).take i)) (fun D nD => ⟨same_new nD, [], rfl, .nil⟩) (fun D i acc H' nD g => g.1.seq (.inl (.inl hp3))) ?_ ?_
            · intro D i v acc H' nD hv hi hD g
              obtain ⟨s, ps, rfl, hps⟩ := g
              rw [List.getElem?_map] at hv
              cases gw : ws[i]? with
              | none => rw [gw] at hv; cases hv
              | some w =>
                rw [gw] at hv
                cases hv
                refine .yes ?_
                walk_at "ev"
                have wl : w.length ≤ 100000 := by
                  have := cm (sg w) (by rw [es2]; exact List.mem_cons_of_mem _ (List.mem_map_of_mem (List.mem_of_getElem? gw)))
                  rw [sg_len]
                  omega
                refine ⟨w, rfl, wl, fun H4 q s4 nq hq => ?_⟩
                have hD4 := s4 _ _ hD
                have pl : ps.length ≤ 100001 := by
                  have := hps.length
                  rw [List.length_take, List.length_map] at this
                  omega
                refine GoOn.mk hD4 (by rw [rfs_len]; omega) ⟨same_mut (s.trans s4) nD, ps ++ [q], ?_, ?_⟩
                · unfold Rfs
                  rw [List.map_append] <;> rfl
                · have keep : ∀ r u, H4 r = some (.tup u) → upd H4 D (.lst (Rfs ps ++ [.ref q])) r = some (.tup u) := fun r u hr => by
                    rw [upd_ne (fun z => by rw [z, hD4] at hr; cases hr)]
                    exact hr
                  rw [List.take_add_one, List.getElem?_map, gw]
                  exact (hps.imp fun r w' hr => keep r _ (s4 _ _ hr)).snoc (keep q _ hq)
            · intro D acc H' nD hD g
              obtain ⟨s, ps, rfl, hps⟩ := g
              rw [List.length_map, ← List.length_map (f := sg), List.take_length] at hps
              have sH := s3.trans s
              have hpv : Pvs K H' ps (ws.map sg) := hps.imp fun r w hr => .inl (.inl hr)
              have rd : ∀ cs n, readN (part1 58 (sg x)).1 = some n → 1 ≤ n → (ws.map sg).length ≤ 60 → getAll (readC n) (ws.map sg) = some cs → readW (sg x) = some (n, cs) := fun cs n hn hn1 hl hg => by
                unfold readW
                rw [if_pos hc, hn]
                show (if 1 ≤ n then _ else _) = _
                rw [if_pos hn1]
                unfold tailW
                rw [es3]
                show Option.map _ (if (ws.map sg).length ≤ 60 then _ else _) = _
                rw [if_pos hl, hg] <;> rfl
              rcases verd_of (readN (part1 58 (sg x)).1) (fun n z => (readN_some z).1) (.inl (.inl hD)) hpv with ⟨n, cs, en, hn1, hn10, hl, hg, hv⟩ | ⟨d, dn, dk, hv, no⟩
              · rw [en] at hv ⊢
                refine ⟨_, _, .good, rfl, hv, fun _ H4 s4 => ?_, fun z => absurd rfl z⟩
                refine ⟨small_line (by decide), fun r nr => ?_⟩
                have s5 := sH.trans (s4.trans (same_new (o := .tup [.int (n : Int), .ref D]) nr))
                have hD5 := (s4.trans (same_new (o := .tup [.int (n : Int), .ref D]) nr)) _ _ hD
                refine q3 n cs (rd cs n en hn1 hl hg) _ r D ps s5 ((sH.trans s4).free nr) upd_same (s3.free nD) hD5 ?_
                have all := getAll_some hg
                exact Same.prs (s4.trans (same_new nr)) (prs_of hps all)
              · have none : readW (sg x) = none := by
                  unfold readW
                  rw [if_pos hc]
                  cases en : readN (part1 58 (sg x)).1 with
                  | none => rfl
                  | some n =>
                    show (if 1 ≤ n then _ else _) = _
                    split
                    · rename_i hn1
                      unfold tailW
                      rw [es3]
                      show Option.map _ (if (ws.map sg).length ≤ 60 then _ else _) = _
                      split
                      · rename_i hl
                        rw [no n en hn1 hl] <;> rfl
                      · rfl
                    · rfl
                refine ⟨_, _, d, rfl, hv, (fun z => absurd z dn), fun _ => ?_⟩
                have fin : ∀ H4 : Hp, Same H' H4 → ∀ a, H4 a = .none → ([V.str "the text tells no web"]).length ≤ sizeLine ∧ E (.ref (He.ga K "BadText")) .none H4 := fun H4 s4 a na => ⟨small_line (by decide), q4 none H4 (sH.trans s4)⟩
                cases d with
                | good => exact absurd rfl dn
                | lines => exact fun H4 s4 => ⟨any2 X2.ll X2.lw, fin H4 s4⟩
                | web o => exact fun H4 dd s4 nd => ⟨any2 X2.wl X2.ww, fin _ (same_xd s4 nd)⟩
          · rw [if_neg hf]
            refine out ?_
            unfold readW
            rw [if_pos hc]
            have no : ∀ n, tailW n (part1 58 (sg x)).2.2 = none := fun n => by
              unfold tailW
              rw [es2]
              cases e : sg first with
              | nil => exact absurd (sg_inj (e.trans sg_nil2.symm)) hf
              | cons c l => rfl
            cases readN (part1 58 (sg x)).1 with
            | none => rfl
            | some n =>
              show (if 1 ≤ n then _ else _) = _
              rw [no n]
              split <;> rfl
        · have hc' : (part1 58 (sg x)).2.1 = false := by simpa using hc
          rw [if_neg hc] at e2
          subst e2
          rw [if_neg (by decide +kernel)]
          refine out ?_
          unfold readW
          rw [if_neg hc]
  · rw [if_neg hT]
    exact ⟨small_line (by decide), q2 hT H (.refl H)⟩
end Sw

set_option Elab.async false
set_option linter.all false
set_option maxRecDepth 100000
set_option maxHeartbeats 4000000
namespace Sw
open PySem PySem.Spec PyProof.Rows L2
local macro_rules | `(tactic| walk_at "ev") => `(tactic| simp only [tSeq, tCalW, quiet, tRzA, tRzO, tTryT, tTryK, tJoin, tJs, tBM, tBits, kStrI, kIntS, kLenS, mSplit, mPart, mIndex, tAsg, tRet, tRetN, tOp, tUn, tVar, tC, tNil, tCons, tCB, tDrop, tNext, tCont, tBreak, tIfS, tIf, tTest, tChain, tChain3, tB, tTup, tLst, tAnd, tOr, tNot, tAndV, tOrV, tNotV, tPart, tNoPart, tSl, tCal, tAug, ipI, rI0, rI, rU, rEq, rNe, kMin, kMax, gName, gCons, gNil, L2.start, wipe, List.map_cons, List.map_nil, List.length_cons, List.length_nil, List.cons_append, List.nil_append, List.append_nil, Nat.reduceAdd, Nat.reduceSub, List.replicate_succ, List.replicate_zero, List.getElem?_cons_zero, List.getElem?_cons_succ, List.set_cons_succ, List.set_cons_zero, Option.some.injEq, exists_eq_left', exists_eq_left, V.int.injEq, V.bl.injEq, V.str.injEq, V.ref.injEq, List.cons.injEq, exists_and_left, and_assoc, and_true, true_and, scal_ii, scal_ss, scal_nn, scal_bb, scal_ni, scal_in, decide_eq_true_eq, Bool.not_true, Bool.not_false, Bool.not_eq_true', decide_eq_false_iff_not, ite_not, reduceCtorEq, if_true, if_false, Bool.false_eq_true, ne_eq, not_true_eq_false, not_false_eq_true, Int.reduceLT, Int.reduceLE, Int.reduceNeg])
local macro_rules | `(tactic| walk_at "cm") => `(tactic| first | exact Or.inr ⟨by decide, by decide⟩ | exact Or.inl ⟨by decide, by decide⟩ | exact Or.inl ⟨by omega, by omega⟩ | exact Or.inr ⟨by omega, by omega⟩)
variable {K : PySem.W.Frag}
theorem dual_needweb {P : Program} {w : World} {mg : Str → Option Value} {base : Heap} {k : Nat} {ps : List Str} (C : Cal P w K mg base (L2N.CX P w) k "need_web" ps (sp_needwebV K)) : Cal P w K mg base CX0 k "need_web" ps (sp_needweb K) :=
  (weak_cx C).quiet.imp fun vs H Q E h => by
    obtain ⟨n, a, cs, rfl, hw, q⟩ := h
    exact ⟨.int (n : Int), .ref a, .good, rfl, web_good hw, fun _ => q, fun z => absurd rfl z⟩
theorem dual_needlines {P : Program} {w : World} {mg : Str → Option Value} {base : Heap} {k : Nat} {ps : List Str} (C : Cal P w K mg base (L2N.CX P w) k "need_lines" ps (sp_needlinesV K)) : Cal P w K mg base CX0 k "need_lines" ps (sp_needlines K) :=
  (weak_cx C).quiet.imp fun vs H Q E h => by
    obtain ⟨n, rfl, n1, n10, q⟩ := h
    have e : noV (.int (n : Int)) = true := decide_eq_true ⟨by omega, by omega⟩
    exact ⟨.int (n : Int), "int", rfl, .int _, fun _ => q, fun z => by rw [e] at z; cases z⟩
theorem dual_iscomparer {P : Program} {w : World} {mg : Str → Option Value} {base : Heap} {k : Nat} {ps : List Str} (C : Cal P w K mg base CX0 k "is_comparer" ps (sp_iscomparerV K)) : Cal P w K mg base CX0 k "is_comparer" ps (sp_iscomparer K) :=
  C.imp fun vs H Q E h => by
    obtain ⟨n, p, c, rfl, hp, ok, q⟩ := h
    exact ⟨n, .ref p, true, rfl, it_cmp hp ok, q⟩
end Sw

set_option Elab.async false
set_option linter.all false
set_option maxRecDepth 100000
set_option maxHeartbeats 4000000
namespace Sw
open PySem PySem.Spec PyProof.Rows L2
local macro_rules | `(tactic| walk_at "ev") => `(tactic| simp only [tSeq, tCalW, quiet, tRzA, tRzO, tTryT, tTryK, tJoin, tJs, tBM, tBits, kStrI, kIntS, kLenS, mSplit, mPart, mIndex, tAsg, tRet, tRetN, tOp, tUn, tVar, tC, tNil, tCons, tCB, tDrop, tNext, tCont, tBreak, tIfS, tIf, tTest, tChain, tChain3, tB, tTup, tLst, tAnd, tOr, tNot, tAndV, tOrV, tNotV, tPart, tNoPart, tSl, tCal, tAug, ipI, rI0, rI, rU, rEq, rNe, kMin, kMax, gName, gCons, gNil, L2.start, wipe, List.map_cons, List.map_nil, List.length_cons, List.length_nil, List.cons_append, List.nil_append, List.append_nil, Nat.reduceAdd, Nat.reduceSub, List.replicate_succ, List.replicate_zero, List.getElem?_cons_zero, List.getElem?_cons_succ, List.set_cons_succ, List.set_cons_zero, Option.some.injEq, exists_eq_left', exists_eq_left, V.int.injEq, V.bl.injEq, V.str.injEq, V.ref.injEq, List.cons.injEq, exists_and_left, and_assoc, and_true, true_and, scal_ii, scal_ss, scal_nn, scal_bb, scal_ni, scal_in, decide_eq_true_eq, Bool.not_true, Bool.not_false, Bool.not_eq_true', decide_eq_false_iff_not, ite_not, reduceCtorEq, if_true, if_false, Bool.false_eq_true, ne_eq, not_true_eq_false, not_false_eq_true, Int.reduceLT, Int.reduceLE, Int.reduceNeg])
local macro_rules | `(tactic| walk_at "cm") => `(tactic| first | exact Or.inr ⟨by decide, by decide⟩ | exact Or.inl ⟨by decide, by decide⟩ | exact Or.inl ⟨by omega, by omega⟩ | exact Or.inr ⟨by omega, by omega⟩)
variable {K : PySem.W.Frag}
def Wallc (n : Nat) (H : Hp) (i : Nat) (σ : L2.St) (H' : Hp) : Prop :=
  ∃ p y3 y4, σ = [some (.int (n : Int)), some (.ref p), some (.int ((2 ^ i : Nat) : Int)), y3, y4] ∧ Same H H' ∧ H p = none ∧ H' p = some (.lst (vis (mkCs i)))
theorem shl_mk {i k : Nat} (hi : i ≤ 10) : CShl (mkC i k) ((2 ^ i : Nat) : Int) := by
  have h := mkC_lt i k
  have hp : 2 ^ i ≤ 1024 := Nat.pow_le_pow_right (by decide) hi
  refine shl_ok (n := 2 ^ i) ?_ (by omega)
  have e := PySem.W.kbt_cast (2 ^ i)
  omega
theorem rd_allcolumns (vs : List V) (H : Hp) (Q : VK) (E : XK) (h : sp_allcolumns K vs H Q E) : r_allcolumns K { nx := fun _ H' => Q .non H', rt := Q } (L2.start N_allcolumns vs) H := by
  obtain ⟨n, rfl, n10, q⟩ := h
  unfold r_allcolumns N_allcolumns
  walk_at "ev"
  refine ⟨small_line (by decide), fun p np => ?_⟩
  have np0 := np
  refine for_rng (n := n) (fun Q q => ?_) (by omega) (Wallc n H) ⟨p, none, none, rfl, same_new np, np, by rw [upd_same] <;> rfl⟩ (fun i σ H1 hi hW => ?_) (fun σ H1 hW => ?_)
  · walk_at "ev"
    exact q
  · obtain ⟨p, y3, y4, rfl, s, np, hp⟩ := hW
    have hpw : 2 ^ i ≤ 1024 := Nat.pow_le_pow_right (by decide) (show i ≤ 10 by omega)
    have hlen : (mkCs i).length = i := by unfold mkCs; rw [List.length_map, List.length_range]
    unfold r_allcolumns_f1
    walk_at "ev"
    refine lc_each (a := p) (xs := vis (mkCs i)) rfl (.inl (.inl hp)) (fun v => rfl) (fun D k acc H' => Same H1 H' ∧ acc = vis ((List.range k).map (mkC (i + 1)))) (fun D nD => ⟨same_new nD, rfl⟩) (fun D k acc H' nD g => g.1.seq (.inl (.inl hp))) ?_ ?_
    · intro D k x acc H2 nD hx hk hD g
      obtain ⟨s2, rfl⟩ := g
      rw [ints_len, hlen] at hk
      obtain ⟨z, rfl, hz⟩ := ints_get hx
      have ez : z = mkC i k := by
        unfold mkCs at hz
        rw [List.getElem?_map, List.getElem?_range hk] at hz
        exact (Option.some.inj hz).symm
      subst ez
      refine .yes ?_
      walk_at "ev"
      refine ⟨shl_mk (by omega), ?_⟩
      rw [Int.toNat_natCast, mkC_step hk]
      refine GoOn.mk hD (by rw [ints_len, List.length_map, List.length_range]; omega) ⟨same_mut s2 nD, ?_⟩
      unfold vis
      rw [List.range_succ, List.map_append, List.map_append] <;> rfl
    · intro D acc H2 nD hD g
      obtain ⟨s2, rfl⟩ := g
      rw [ints_len, hlen] at hD
      refine ⟨.inl ⟨rfl, _, .inl (.inl hD)⟩, shl_ok (i := 1) (j := 2 ^ i) (n := 1) (by decide) (by omega), ?_⟩
      rw [Int.toNat_natCast]
      refine ⟨?_, ?_⟩
      · refine shl_ok (j := 2 ^ i) (n := 2 ^ i) ?_ (by omega)
        have e := PySem.W.kbt_cast (2 ^ i)
        have := Nat.two_pow_pos (2 ^ i)
        rw [Int.one_mul]
        omega
      rw [mkC_new]
      refine ⟨D, _, _, rfl, rfl, hD, by rw [ints_len, List.length_map, List.length_range]; exact small_lt (by omega), ?_⟩
      refine ⟨by walk_at "cm", ?_⟩
      refine ⟨D, some (.int (i : Int)), y4, ?_, same_mut (s.trans s2) (s.free nD), s.free nD, ?_⟩
      · have e2 : (2 : Int) * ((2 ^ i : Nat) : Int) = ((2 ^ (i + 1) : Nat) : Int) := by
          rw [Nat.pow_succ]
          omega
        rw [e2]
      · rw [upd_same]
        unfold mkCs vis
        rw [List.range_succ, List.map_append, List.map_append] <;> rfl
  · obtain ⟨p, y3, y4, rfl, s, np, hp⟩ := hW
    walk_at "ev"
    rw [mkCs_cols] at hp
    exact q H1 p s np hp
theorem col_get {n k : Nat} {cs : List Cmp} (h : k < n) : (vis (cols n cs))[k]? = some (.int (colV n cs k)) := by
  rw [ints_at (by rw [cols_len]; exact h), cols_at h]
theorem rd_greater (vs : List V) (H : Hp) (Q : VK) (E : XK) (h : sp_greater K vs H Q E) : r_greater K { nx := fun _ H' => Q .non H', rt := Q } (L2.start N_greater vs) H := by
  obtain ⟨x, n, a, b, cs, rfl, hx, ha, hb, q⟩ := h
  unfold r_greater N_greater
  walk_at "ev"
  refine ⟨x, _, _, _, rfl, rfl, hx, atI_nat (col_get ha), ?_⟩
  refine ⟨x, _, _, _, rfl, rfl, hx, atI_nat (col_get hb), ?_⟩
  walk_at "ev"
  rw [col_gt]
  exact q
theorem rd_behind (vs : List V) (H : Hp) (Q : VK) (E : XK) (h : sp_behind K vs H Q E) : r_behind K { nx := fun _ H' => Q .non H', rt := Q } (L2.start N_behind vs) H := by
  obtain ⟨x, y, n, cs, c, rfl, hx, hy, ok, q⟩ := h
  unfold r_behind N_behind
  walk_at "ev"
  refine g2_run hy ?_
  walk_at "ev"
  refine ⟨x, _, rfl, .inl hx, fun p np => ?_⟩
  have s0 := same_new (o := .lst (vis (cols n cs))) np
  refine ⟨x, _, _, _, rfl, rfl, s0.seq hx, atI_nat (col_get ok.1), x, _, _, _, rfl, rfl, s0.seq hx, atI_nat (col_get ok.2.1), ?_⟩
  walk_at "ev"
  refine set_run (a := c.1) rfl rfl upd_same (by rw [ints_len, cols_len]; exact ok.1) ?_
  walk_at "ev"
  have s1 := same_mut (o := .lst ((vis (cols n cs)).set c.1 (V.int (Builtin.bitAnd (colV n cs c.1) (colV n cs c.2))))) s0 np
  refine ⟨x, _, _, _, rfl, rfl, s1.seq hx, atI_nat (col_get ok.1), x, _, _, _, rfl, rfl, s1.seq hx, atI_nat (col_get ok.2.1), ?_⟩
  walk_at "ev"
  refine set_run (a := c.2) rfl rfl upd_same (by rw [List.length_set, ints_len, cols_len]; exact ok.2.1) ?_
  walk_at "ev"
  refine q _ p (same_mut s1 np) np ?_
  rw [upd_same, ints_set, ints_set, col_behind ok]
def Wcolo (n : Nat) (a : Addr) (cs : List Cmp) (H : Hp) (i : Nat) (σ : L2.St) (H' : Hp) : Prop :=
  ∃ p y3, σ = [some (.int (n : Int)), some (.ref a), some (.ref p), y3] ∧ Same H H' ∧ H p = none ∧ H' p = some (.lst (vis (cols n (cs.take i))))
theorem rd_columnsout (vs : List V) (H : Hp) (Q : VK) (E : XK) (h : sp_columnsout K vs H Q E) : r_columnsout K { nx := fun _ H' => Q .non H', rt := Q } (L2.start N_columnsout vs) H := by
  obtain ⟨n, a, cs, rfl, hw, q⟩ := h
  obtain ⟨ps, ha, hp, ok, n1, n10⟩ := hw
  have hpl := hp.length
  unfold r_columnsout N_columnsout
  walk_at "ev"
  refine ⟨n, rfl, n10, fun H1 p s1 np hp1 => ?_⟩
  refine for_each (a := a) (xs := Rfs ps) rfl (s1.seq ha) (Wcolo n a cs H) ⟨p, none, rfl, s1, np, hp1⟩ (fun i σ H' _ hW => ?_) (fun i x σ H' hx hi hW => ?_) (fun σ H' hW => ?_)
  · obtain ⟨_, _, _, s, _⟩ := hW
    exact s.seq ha
  · obtain ⟨p, y3, rfl, s, np, hp'⟩ := hW
    obtain ⟨g, rfl, hg⟩ := rfs_get hx
    obtain ⟨c, hc, ht⟩ := hp.getL hg
    unfold r_columnsout_f1
    walk_at "ev"
    refine ⟨p, g, n, cs.take i, c, rfl, .inl (.inl hp'), Same.sqt s ht, ok.2 c (List.mem_of_getElem? hc), fun H2 p2 s2 np2 hp2 => ?_⟩
    refine ⟨p2, _, rfl, s.trans s2, s.free np2, ?_⟩
    rw [hp2, List.take_add_one, hc] <;> rfl
  · obtain ⟨p, y3, rfl, s, np, hp'⟩ := hW
    walk_at "ev"
    rw [rfs_len, hpl, List.take_length] at hp'
    exact q H' p s np hp'
theorem rd_rowof (vs : List V) (H : Hp) (Q : VK) (E : XK) (h : sp_rowof K vs H Q E) : r_rowof K { nx := fun _ H' => Q .non H', rt := Q } (L2.start N_rowof vs) H := by
  obtain ⟨n, t, rfl, n10, q⟩ := h
  unfold r_rowof N_rowof
  walk_at "ev"
  refine lc_rng (n := n) (fun Q q => ⟨_, rfl, q⟩) (by omega) (fun v => rfl) (fun D k acc H' => Same H H' ∧ acc = vis ((List.range k).map fun k => ((t / 2 ^ k % 2 : Nat) : Int))) (fun D nD => ⟨same_new nD, rfl⟩) ?_ ?_
  · intro D k acc H2 nD hk hD g2
    obtain ⟨s2, rfl⟩ := g2
    refine .yes ?_
    walk_at "ev"
    refine ⟨by omega, ?_⟩
    have e : Builtin.bitAnd ((t : Int) / 2 ^ (k : Int).toNat) 1 = ((t / 2 ^ k % 2 : Nat) : Int) := by
      rw [bitAnd_m1, Int.toNat_natCast]
      norm_cast
    rw [e]
    refine GoOn.mk hD (by rw [ints_len, List.length_map, List.length_range]; omega) ⟨same_mut s2 nD, ?_⟩
    unfold vis
    rw [List.range_succ, List.map_append, List.map_append] <;> rfl
  · intro D acc H2 nD hD g2
    obtain ⟨s2, rfl⟩ := g2
    exact q H2 D s2 nD hD
theorem rd_firstrow (vs : List V) (H : Hp) (Q : VK) (E : XK) (h : sp_firstrow K vs H Q E) : r_firstrow K { nx := fun _ H' => Q .non H', rt := Q } (L2.start N_firstrow vs) H := by
  obtain ⟨n, f, rfl, n10, q1, q2⟩ := h
  unfold r_firstrow N_firstrow
  walk_at "ev"
  by_cases z : maskN f (bares n) = 0
  · rw [if_pos (by rw [z] <;> rfl)]
    refine q1 ?_ H (.refl H)
    unfold firstB
    rw [List.find?_eq_none]
    intro x hx
    rw [mask_zero.mp z x hx]
    decide
  · rw [if_neg (by omega)]
    obtain ⟨t, x, h1, h2, h3⟩ := low_bit z
    rw [h3, bits_pow]
    refine ⟨n, t, by rw [show (((t + 1 : Nat) : Int) - 1) = (t : Int) by omega], n10, fun H2 D s2 nD hD => ?_⟩
    refine q2 x h2 H2 D s2 nD ?_
    have ex : x = bareR n t := by
      unfold bares at h1
      rw [List.getElem?_map] at h1
      cases e : (List.range (2 ^ n))[t]? with
      | none => rw [e] at h1; cases h1
      | some u =>
        rw [e] at h1
        obtain ⟨hl, e2⟩ := List.getElem?_eq_some_iff.mp e
        rw [List.getElem_range] at e2
        rw [← e2] at h1
        exact (Option.some.inj h1).symm
    rw [hD, ex]
end Sw

set_option Elab.async false
set_option linter.all false
set_option maxRecDepth 100000
set_option maxHeartbeats 4000000
namespace Sw
open PySem PySem.Spec PyProof.Rows L2
local macro_rules | `(tactic| walk_at "ev") => `(tactic| simp only [tSeq, tCalW, quiet, tRzA, tRzO, tTryT, tTryK, tJoin, tJs, tBM, tBits, kStrI, kIntS, kLenS, mSplit, mPart, mIndex, tAsg, tRet, tRetN, tOp, tUn, tVar, tC, tNil, tCons, tCB, tDrop, tNext, tCont, tBreak, tIfS, tIf, tTest, tChain, tChain3, tB, tTup, tLst, tAnd, tOr, tNot, tAndV, tOrV, tNotV, tPart, tNoPart, tSl, tCal, tAug, ipI, rI0, rI, rU, rEq, rNe, kMin, kMax, gName, gCons, gNil, L2.start, wipe, List.map_cons, List.map_nil, List.length_cons, List.length_nil, List.cons_append, List.nil_append, List.append_nil, Nat.reduceAdd, Nat.reduceSub, List.replicate_succ, List.replicate_zero, List.getElem?_cons_zero, List.getElem?_cons_succ, List.set_cons_succ, List.set_cons_zero, Option.some.injEq, exists_eq_left', exists_eq_left, V.int.injEq, V.bl.injEq, V.str.injEq, V.ref.injEq, List.cons.injEq, exists_and_left, and_assoc, and_true, true_and, scal_ii, scal_ss, scal_nn, scal_bb, scal_ni, scal_in, decide_eq_true_eq, Bool.not_true, Bool.not_false, Bool.not_eq_true', decide_eq_false_iff_not, ite_not, reduceCtorEq, if_true, if_false, Bool.false_eq_true, ne_eq, not_true_eq_false, not_false_eq_true, Int.reduceLT, Int.reduceLE, Int.reduceNeg])
local macro_rules | `(tactic| walk_at "cm") => `(tactic| first | exact Or.inr ⟨by decide, by decide⟩ | exact Or.inl ⟨by decide, by decide⟩ | exact Or.inl ⟨by omega, by omega⟩ | exact Or.inr ⟨by omega, by omega⟩)
variable {K : PySem.W.Frag}
def Wneedl (n : Nat) (a f : Addr) (cs : List Cmp) (H : Hp) (i : Nat) (σ : L2.St) (H' : Hp) : Prop :=
  ∃ p y4 y5 y6 y7, σ = [some (.int (n : Int)), some (.ref a), some (.ref f), some (.ref p), y4, y5, y6, y7] ∧ Same H H' ∧ H p = none ∧ H f = none ∧ p ≠ f ∧ H' p = some (.lst (vis (cols n (cs.take i)))) ∧
    H' f = some (.lst (natL ((List.range i).filter fun k => !(bares n).any (stirsAt cs k))))
theorem rd_needless (vs : List V) (H : Hp) (Q : VK) (E : XK) (h : sp_needless K vs H Q E) : r_needless K { nx := fun _ H' => Q .non H', rt := Q } (L2.start N_needless vs) H := by
  obtain ⟨n, a, cs, rfl, hw, q⟩ := h
  unfold r_needless N_needless
  walk_at "ev"
  refine ⟨n, a, cs, rfl, hw, fun H1 s1 => ?_⟩
  obtain ⟨ps, ha, hp, ok, n1, n10⟩ := hw
  have hpl := hp.length
  have h60 := ok.1
  refine ⟨small_line (by decide), fun f nf => ?_⟩
  have s2 := s1.trans (same_new (o := .lst []) nf)
  refine ⟨n, rfl, n10, fun H2 p s3 np hp2 => ?_⟩
  have pf : p ≠ f := fun e => by rw [e, upd_same] at np; cases np
  have s4 := s2.trans s3
  refine for_enum2 (a := a) (xs := Rfs ps) rfl (s4.seq ha) (Wneedl n a f cs H) ⟨p, none, none, none, none, rfl, s4, s2.free np, s1.free nf, pf, hp2, s3 _ _ (by rw [upd_same] <;> rfl)⟩ (fun i σ H' _ hW => ?_) (fun i x σ H3 H4 hx hi hW s5 => ?_) (fun σ H' hW => ?_)
  · obtain ⟨_, _, _, _, _, _, s, _⟩ := hW
    exact s.seq ha
  · obtain ⟨p, y4, y5, y6, y7, rfl, s, np, nf, pf, hp3, hf3⟩ := hW
    obtain ⟨g, rfl, hg⟩ := rfs_get hx
    obtain ⟨c, hc, ht⟩ := hp.getL hg
    have okc := ok.2 c (List.mem_of_getElem? hc)
    have st := s.trans s5
    have ft : (List.range (i + 1)).filter (fun k => !(bares n).any (stirsAt cs k)) = (List.range i).filter (fun k => !(bares n).any (stirsAt cs k)) ++ (if (bares n).any (stirsAt cs i) then [] else [i]) := by
      rw [List.range_succ, List.filter_append]
      congr 1
      cases z : (bares n).any (stirsAt cs i) with
      | false => rw [List.filter_cons_of_pos (by rw [z] <;> rfl)] <;> rfl
      | true => rw [List.filter_cons_of_neg (by rw [z]; decide)] <;> rfl
    have lf : ((List.range i).filter fun k => !(bares n).any (stirsAt cs k)).length ≤ i := Nat.le_trans (List.length_filter_le ..) (by rw [List.length_range]; exact Nat.le_refl _)
    rw [rfs_len] at hi
    unfold r_needless_f1
    walk_at "ev"
    refine g2_run (Same.sqt st ht) ?_
    walk_at "ev"
    refine ⟨p, n, c.1, c.2, cs.take i, rfl, .inl (.inl (s5 _ _ hp3)), okc.1, okc.2.1, ?_⟩
    walk_at "ev"
    have fin : ∀ (H5 : Hp), Same H H5 → H5 p = some (.lst (vis (cols n (cs.take i)))) → H5 f = some (.lst (natL ((List.range (i + 1)).filter fun k => !(bares n).any (stirsAt cs k)))) →
        ∃ (x y : Addr) (m : Nat) (ds : List Cmp) (c' : Cmp), [V.ref p, V.ref g] = [.ref x, .ref y] ∧ SqL K H5 x (vis (cols m ds)) ∧ SqT K H5 y (V2 c') ∧ CmpOk m c' ∧ ∀ H' p', Same H5 H' → H5 p' = none → H' p' = some (.lst (vis (cols m (ds ++ [c'])))) →
          Wneedl n a f cs H (i + 1) [some (.int (n : Int)), some (.ref a), some (.ref f), some (.ref p'), some (.int (i : Int)), some (.ref g), some (.int (c.1 : Int)), some (.int (c.2 : Int))] H' := fun H5 sH hp5 hf5 => by
      refine ⟨p, g, n, cs.take i, c, rfl, .inl (.inl hp5), Same.sqt sH ht, okc, fun H6 p6 s6 np6 hp6 => ?_⟩
      refine ⟨p6, _, _, _, _, rfl, sH.trans s6, sH.free np6, nf, fun e => ?_, ?_, s6 _ _ hf5⟩
      · rw [e, hf5] at np6
        cases np6
      · rw [hp6, List.take_add_one, hc] <;> rfl
    split
    · rename_i z
      have z' : maskN (gtB (cs.take i) c.1 c.2) (bares n) = 0 := by omega
      have anyF : (bares n).any (stirsAt cs i) = false := by
        rw [stirs_eq hc, List.any_eq_false]
        intro x hx
        rw [mask_zero.mp z' x hx]
        decide
      refine ⟨.inl ⟨rfl, _, .inl (.inl (s5 _ _ hf3))⟩, f, _, _, rfl, rfl, s5 _ _ hf3, by rw [nat_len]; exact small_lt (by omega), ?_⟩
      refine fin _ (same_mut st nf) (by rw [upd_ne pf]; exact s5 _ _ hp3) ?_
      rw [upd_same, ft, anyF]
      unfold natL
      rw [List.map_append] <;> rfl
    · rename_i z
      have anyT : (bares n).any (stirsAt cs i) = true := by
        rw [stirs_eq hc]
        cases e : (bares n).any (gtB (cs.take i) c.1 c.2) with
        | true => rfl
        | false =>
          rw [List.any_eq_false] at e
          refine absurd ?_ z
          rw [mask_zero.mpr fun x hx => by have := e x hx; cases e2 : gtB (cs.take i) c.1 c.2 x with | false => rfl | true => exact absurd e2 this] <;> rfl
      refine fin _ st (s5 _ _ hp3) ?_
      rw [s5 _ _ hf3, ft, anyT, if_pos rfl, List.append_nil]
  · obtain ⟨p, y4, y5, y6, y7, rfl, s, np, nf, pf, hp3, hf3⟩ := hW
    walk_at "ev"
    rw [rfs_len, hpl] at hf3
    exact q H' f s nf hf3
theorem nat_flat (l : List Nat) : (natL l).all flatV = true := by
  rw [List.all_eq_true]
  intro x hx
  obtain ⟨t, _, rfl⟩ := List.mem_map.mp hx
  rfl
theorem idle_in {n i : Nat} {cs : List Cmp} (hi : i < cs.length) : inV (.int (i : Int)) (natL (idle n cs)) = !(bares n).any (stirsAt cs i) := by
  rw [Bool.eq_iff_iff]
  unfold inV
  rw [List.any_eq_true]
  constructor
  · rintro ⟨y, hy, e⟩
    obtain ⟨t, ht, rfl⟩ := List.mem_map.mp hy
    unfold idle at ht
    obtain ⟨h1, h2⟩ := List.mem_filter.mp ht
    have e2 : ((t : Int) == (i : Int)) = true := e
    have e3 : t = i := by
      have := beq_iff_eq.mp e2
      omega
    rw [← e3]
    exact h2
  · intro h
    refine ⟨.int (i : Int), List.mem_map.mpr ⟨i, ?_, rfl⟩, ?_⟩
    · unfold idle
      exact List.mem_filter.mpr ⟨List.mem_range.mpr hi, h⟩
    · show ((i : Int) == (i : Int)) = true
      exact beq_self_eq_true _
theorem rd_pruned (vs : List V) (H : Hp) (Q : VK) (E : XK) (h : sp_pruned K vs H Q E) : r_pruned K { nx := fun _ H' => Q .non H', rt := Q } (L2.start N_pruned vs) H := by
  obtain ⟨n, a, cs, rfl, hw, q⟩ := h
  unfold r_pruned N_pruned
  walk_at "ev"
  refine ⟨n, a, cs, rfl, hw, fun H1 f s1 nf hf => ?_⟩
  obtain ⟨ps, ha, hp, ok, n1, n10⟩ := hw
  have hpl := hp.length
  have h60 := ok.1
  refine lc_enum2 (a := a) (xs := Rfs ps) rfl (s1.seq ha) (fun v w => rfl) (fun D i acc H' => Same H1 H' ∧ acc = Rfs (pick (fun k => (bares n).any (stirsAt cs k)) 0 (ps.take i)))
    (fun D nD => ⟨same_new nD, rfl⟩) (fun D i acc H' nD g => g.1.seq (s1.seq ha)) ?_ ?_
  · intro D i x acc H2 H3 nD hx hi hD g s3
    obtain ⟨s2, rfl⟩ := g
    obtain ⟨p, rfl, gp⟩ := rfs_get hx
    rw [rfs_len] at hi
    have st := s2.trans s3
    unfold Turn
    walk_at "ev"
    refine ⟨f, _, rfl, .inl (.inl (.inl (st _ _ hf))), rfl, nat_flat _, _, rfl, ?_⟩
    have e : inV (.int (i : Int)) (natL (idle n cs)) = !(bares n).any (stirsAt cs i) := idle_in (by omega)
    have hD3 := s3 _ _ hD
    have lp := pick_len (fun k => (bares n).any (stirsAt cs k)) (ps.take i) 0
    rw [List.length_take] at lp
    rw [show (if true = true then !inV (.int (i : Int)) (natL (idle n cs)) else inV (.int (i : Int)) (natL (idle n cs))) = (bares n).any (stirsAt cs i) by rw [if_pos rfl, e, Bool.not_not]]
    split
    · rename_i z
      refine GoOn.mk hD3 (by rw [rfs_len]; omega) ⟨same_mut st nD, ?_⟩
      rw [pick_take gp, if_pos z]
      unfold Rfs
      rw [List.map_append] <;> rfl
    · rename_i z
      refine ⟨_, hD3, st, ?_⟩
      rw [pick_take gp, if_neg z, List.append_nil]
  · intro D acc H2 nD hD g
    obtain ⟨s2, rfl⟩ := g
    rw [rfs_len, List.take_length] at hD
    refine q H2 D _ (s1.trans s2) (s1.free nD) hD ?_
    exact pick_all2 _ (Same.prs (s1.trans s2) hp) 0
def Wuns (n : Nat) (a p : Addr) (cs : List Cmp) (H1 : Hp) (i : Nat) (σ : L2.St) (H' : Hp) : Prop :=
  ∃ y4, σ = [some (.int (n : Int)), some (.ref a), some (.ref p), some (.int (maskN (fun r => (List.range i).any fun k => gtB cs k (k + 1) r) (bares n) : Nat)), y4] ∧ Same H1 H'
theorem rd_unsorted (vs : List V) (H : Hp) (Q : VK) (E : XK) (h : sp_unsorted K vs H Q E) : r_unsorted K { nx := fun _ H' => Q .non H', rt := Q } (L2.start N_unsorted vs) H := by
  obtain ⟨n, a, cs, rfl, hw, q⟩ := h
  have n1 : 1 ≤ n := hw.choose_spec.2.2.2.1
  have n10 := webAt_get hw
  unfold r_unsorted N_unsorted
  walk_at "ev"
  refine ⟨n, a, cs, rfl, hw, fun H1 s1 => ?_⟩
  refine ⟨n, a, cs, rfl, webAt_same s1 hw, fun H2 p s2 np hp => ?_⟩
  refine for_rng (n := n - 1) (fun Q q => ?_) (by omega) (Wuns n a p cs H2) ⟨none, ?_, .refl _⟩ (fun i σ H' hi hW => ?_) (fun σ H' hW => ?_)
  · walk_at "ev"
    rw [show (n : Int) - 1 = ((n - 1 : Nat) : Int) by omega]
    exact q
  · have z : maskN (fun r => (List.range 0).any fun k => gtB cs k (k + 1) r) (bares n) = 0 := mask_zero.mpr fun x _ => rfl
    rw [z] <;> rfl
  · obtain ⟨y4, rfl, s⟩ := hW
    unfold r_unsorted_f1
    walk_at "ev"
    refine ⟨p, n, i, i + 1, cs, by rw [Int.natCast_add] <;> rfl, .inl (.inl (s _ _ hp)), by omega, by omega, ?_⟩
    walk_at "ev"
    refine ⟨some (.int (i : Int)), ?_, s⟩
    rw [i_or, mask_congr fun r _ => ?_]
    rw [List.range_succ, List.any_append]
    show _ = (_ || (gtB cs i (i + 1) r || false))
    rw [Bool.or_false]
  · obtain ⟨y4, rfl, s⟩ := hW
    walk_at "ev"
    refine ⟨n, _, rfl, n10, ?_⟩
    exact q.on (s1.trans (s2.trans s))
end Sw

set_option Elab.async false
set_option linter.all false
set_option maxRecDepth 100000
set_option maxHeartbeats 4000000
namespace Sw
open PySem PySem.Spec PyProof.Rows L2
local macro_rules | `(tactic| walk_at "ev") => `(tactic| simp only [tSeq, tAsg, tRet, tRetN, tOp, tUn, tVar, tC, tNil, tCons, tCB, tDrop, tNext, tCont, tBreak, tIfS, tIf, tTest, tChain, tB, tTup, tLst, tAnd, tOr, tNot, tAndV, tOrV, tNotV, tPart, tNoPart, tSl, tCal, tAug, ipI, rI0, rI, rU, rEq, rNe, kMin, kMax, gName, gCons, gNil, L2.start, wipe, List.map_cons, List.map_nil, List.length_cons, List.length_nil, List.cons_append, List.nil_append, List.append_nil, Nat.reduceAdd, Nat.reduceSub, List.replicate_succ, List.replicate_zero, List.getElem?_cons_zero, List.getElem?_cons_succ, List.set_cons_succ, List.set_cons_zero, Option.some.injEq, exists_eq_left', exists_eq_left, V.int.injEq, V.bl.injEq, V.str.injEq, V.ref.injEq, List.cons.injEq, exists_and_left, and_assoc, and_true, true_and, scal_ii, scal_ss, scal_nn, scal_bb, scal_ni, scal_in, decide_eq_true_eq, Bool.not_true, Bool.not_false, Bool.not_eq_true', decide_eq_false_iff_not, ite_not, reduceCtorEq, if_true, if_false, Bool.false_eq_true, ne_eq, not_true_eq_false, not_false_eq_true, Int.reduceLT, Int.reduceLE, Int.reduceNeg])
local macro_rules | `(tactic| walk_at "cm") => `(tactic| first | exact Or.inr ⟨by decide, by decide⟩ | exact Or.inl ⟨by decide, by decide⟩ | exact Or.inl ⟨by omega, by omega⟩ | exact Or.inr ⟨by omega, by omega⟩)
variable {K : PySem.W.Frag}
theorem rd_needrow (vs : List V) (H : Hp) (Q : VK) (E : XK) (h : sp_needrow K vs H Q E) : r_needrow K { nx := fun _ H' => Q .non H', rt := Q } (L2.start N_needrow vs) H := by
  obtain ⟨n, a, r, rfl, ha, hr, n10, q⟩ := h
  unfold r_needrow N_needrow
  walk_at "ev"
  refine ⟨.int (n : Int), "int", rfl, .int _, true, ?_, ?_⟩
  · rw [decide_eq_true rfl]
  walk_at "ev"
  refine ⟨.ref a, "list", rfl, .lst ha, _, _, rfl, rfl, ?_⟩
  walk_at "ev"
  refine ⟨a, _, rfl, .inl ha, ?_⟩
  rw [ints_len, hr]
  walk_at "ev"
  refine lc_each (a := a) (xs := vis r) rfl ha (fun v => rfl) (fun D i acc H' => Same H H' ∧ acc = List.replicate i (.bl true)) (fun D nD => ⟨same_new nD, rfl⟩) (fun D i acc H' nD g => g.1.seq ha) ?_ ?_
  · intro D i x acc H' nD hx hi hD g
    obtain ⟨s, rfl⟩ := g
    obtain ⟨z, rfl, _⟩ := ints_get hx
    refine .yes ?_
    walk_at "ev"
    refine ⟨.int z, "int", rfl, .int z, ?_⟩
    refine GoOn.mk hD (by rw [List.length_replicate]; rw [ints_len] at hi; omega) ⟨same_mut s nD, ?_⟩
    rw [decide_eq_true rfl, List.replicate_succ']
  · intro D acc H' nD hD g
    obtain ⟨s, rfl⟩ := g
    refine ⟨D, List.replicate (vis r).length true, rfl, .inl (.inl (by rw [hD, List.map_replicate])), true, ?_, ?_⟩
    · congr 1
      rw [List.all_eq_true.mpr]
      intro b hb
      rw [(List.mem_replicate.mp hb).2] <;> rfl
    · walk_at "ev"
      exact q H' s
/-! ### a comparer over a list of one's own -/
theorem rd_rbehind (vs : List V) (H : Hp) (Q : VK) (E : XK) (h : sp_rbehind K vs H Q E) : r_rbehind K { nx := fun _ H' => Q .non H', rt := Q } (L2.start N_rbehind vs) H := by
  obtain ⟨a, b, n, r, c, rfl, ha, hr, hb, okc, q⟩ := h
  obtain ⟨e1, e2⟩ := cmp_at okc hr
  unfold r_rbehind N_rbehind
  walk_at "ev"
  refine g2_run hb ?_
  walk_at "ev"
  refine ⟨a, _, rfl, .inl ha, fun p np => ?_⟩
  have s0 := same_new (o := .lst (vis r)) np
  refine ⟨a, _, _, _, rfl, rfl, s0.seq ha, atI_nat e1, a, _, _, _, rfl, rfl, s0.seq ha, atI_nat e2, ?_⟩
  walk_at "ev"
  split
  · rename_i gt
    refine ⟨a, _, _, _, rfl, rfl, s0.seq ha, atI_nat e2, ?_⟩
    refine set_run (a := c.1) rfl rfl upd_same (by rw [ints_len, hr]; exact okc.1) ?_
    walk_at "ev"
    have s1 := same_mut (o := .lst ((vis r).set c.1 (V.int (at0 r c.2)))) s0 np
    refine ⟨a, _, _, _, rfl, rfl, s1.seq ha, atI_nat e1, ?_⟩
    refine set_run (a := c.2) rfl rfl upd_same (by rw [List.length_set, ints_len, hr]; exact okc.2.1) ?_
    walk_at "ev"
    refine q _ p (same_mut s1 np) np ?_
    rw [upd_same]
    unfold goC
    rw [if_pos gt, ints_set, ints_set]
  · rename_i gt
    refine q _ p s0 np ?_
    rw [upd_same]
    unfold goC
    rw [if_neg gt]
def Wsteps (n : Nat) (a b f : Addr) (cs : List Cmp) (r : Row) (H : Hp) (i : Nat) (σ : L2.St) (H' : Hp) : Prop :=
  ∃ y qs, σ = [some (.int (n : Int)), some (.ref a), some (.ref b), some (.ref f), y] ∧ Same H H' ∧ H' f = some (.lst (Rfs qs)) ∧ Own H H' qs (trace (cs.take i) r)
theorem rd_steps (vs : List V) (H : Hp) (Q : VK) (E : XK) (h : sp_steps K vs H Q E) : r_steps K { nx := fun _ H' => Q .non H', rt := Q } (L2.start N_steps vs) H := by
  obtain ⟨n, a, b, cs, r, rfl, hw, hb, hr, q⟩ := h
  have n10 := webAt_get hw
  unfold r_steps N_steps
  walk_at "ev"
  refine ⟨n, a, cs, rfl, hw, fun H1 s1 => ?_⟩
  refine ⟨n, b, r, rfl, s1.seq hb, hr, n10, fun H2 s2 => ?_⟩
  walk_at "ev"
  obtain ⟨ps, ha, hp, ok, n1, _⟩ := hw
  have h60 := ok.1
  have hpl := hp.length
  have s12 := s1.trans s2
  refine ⟨b, _, rfl, .inl (s12.seq hb), fun p0 np0 => ⟨small_line (by decide), fun f nf => ?_⟩⟩
  have s0 := s12.trans (same_new (o := .lst (vis r)) np0)
  have s3 := s0.trans (same_new (o := .lst [.ref p0]) nf)
  have nfH := s0.free nf
  have hp0f : p0 ≠ f := ne_of_none upd_same nf
  refine for_each (a := a) (xs := Rfs ps) rfl (s3.seq ha) (Wsteps n a b f cs r H) ⟨none, [p0], rfl, s3, by rw [upd_same] <;> rfl, .one ⟨s12.free np0, by rw [upd_ne hp0f, upd_same]⟩⟩ (fun i σ H' _ hW => ?_) (fun i x σ H' hx hi hW => ?_) (fun σ H' hW => ?_)
  · obtain ⟨_, _, _, s, _⟩ := hW
    exact s.seq ha
  · obtain ⟨y, qs, rfl, s, hf, own⟩ := hW
    obtain ⟨p, rfl, gp⟩ := rfs_get hx
    obtain ⟨c, hc, ht⟩ := hp.getL gp
    have okc := ok.2 c (List.mem_of_getElem? hc)
    have hlen : (gone (cs.take i) r).length = n := by rw [gone_len, hr]
    have lq := own.length
    have li : (cs.take i).length = i := by rw [List.length_take]; rw [rfs_len, hpl] at hi; omega
    rw [trace_len, li] at lq
    obtain ⟨q0, gq0, o0⟩ := own.get (by have z := trace_last (cs.take i) r; rw [li] at z; exact z)
    unfold r_steps_f1
    walk_at "ev"
    refine ⟨.ref f, rfl, .inl ⟨rfl, _, .inl (.inl hf)⟩, ?_⟩
    refine ⟨.ref f, rfl, (1 : Int), rfl, f, _, _, _, rfl, rfl, .inl (.inl hf), atI_end (rfs_at gq0) (by rw [rfs_len, lq]), ?_⟩
    refine ⟨.ref p, rfl, q0, p, n, gone (cs.take i) r, c, rfl, .inl (.inl o0.2), hlen, Same.sqt s ht, okc, fun H3 p3 s3 np3 hp3 => ?_⟩
    have hf3 := s3 _ _ hf
    have hpf : p3 ≠ f := fun e => by rw [e, hf] at np3; cases np3
    refine ⟨f, _, _, rfl, rfl, hf3, by rw [rfs_len]; exact small_lt (by rw [rfs_len, hpl] at hi; omega), ?_⟩
    refine ⟨_, qs ++ [p3], rfl, same_mut (s.trans s3) nfH, ?_, ?_⟩
    · rw [upd_same]
      unfold Rfs
      rw [List.map_append] <;> rfl
    · rw [trace_take hc]
      refine ((own.same s3).upd hf3 fun r' hr' => ?_).snoc ⟨s.free np3, ?_⟩
      · exact ne_of_len ((trace_all _ _ _ hr').trans hr) n1
      · rw [upd_ne hpf, hp3, gone_take hc]
  · obtain ⟨y, qs, rfl, s, hf, own⟩ := hW
    walk_at "ev"
    rw [rfs_len, show ps.length = cs.length from hp.length, List.take_length] at own
    exact q H' f qs s nfH hf own
theorem rd_run (vs : List V) (H : Hp) (Q : VK) (E : XK) (h : sp_run K vs H Q E) : r_run K { nx := fun _ H' => Q .non H', rt := Q } (L2.start N_run vs) H := by
  obtain ⟨n, a, b, cs, r, rfl, hw, hb, hr, q⟩ := h
  unfold r_run N_run
  walk_at "ev"
  refine ⟨n, a, b, cs, r, rfl, hw, hb, hr, fun H1 f qs s1 nf hf own => ?_⟩
  have lq := own.length
  rw [trace_len] at lq
  obtain ⟨q0, gq0, o0⟩ := own.get (trace_last cs r)
  refine ⟨f, _, _, _, rfl, rfl, .inl (.inl hf), atI_end (rfs_at gq0) (by rw [rfs_len, lq]), ?_⟩
  exact q H1 q0 s1 o0.1 o0.2
end Sw

set_option Elab.async false
set_option linter.all false
set_option maxRecDepth 100000
set_option maxHeartbeats 4000000
namespace Sw
open PySem PySem.Spec PyProof.Rows L2
local macro_rules | `(tactic| walk_at "ev") => `(tactic| simp only [tSeq, tCalW, quiet, tRzA, tRzO, tTryT, tTryK, tJoin, tJs, tBM, tBits, kStrI, kIntS, kLenS, mSplit, mPart, mIndex, tAsg, tRet, tRetN, tOp, tUn, tVar, tC, tNil, tCons, tCB, tDrop, tNext, tCont, tBreak, tIfS, tIf, tTest, tChain, tChain3, tB, tTup, tLst, tAnd, tOr, tNot, tAndV, tOrV, tNotV, tPart, tNoPart, tSl, tCal, tAug, ipI, rI0, rI, rU, rEq, rNe, kMin, kMax, gName, gCons, gNil, L2.start, wipe, List.map_cons, List.map_nil, List.length_cons, List.length_nil, List.cons_append, List.nil_append, List.append_nil, Nat.reduceAdd, Nat.reduceSub, List.replicate_succ, List.replicate_zero, List.getElem?_cons_zero, List.getElem?_cons_succ, List.set_cons_succ, List.set_cons_zero, Option.some.injEq, exists_eq_left', exists_eq_left, V.int.injEq, V.bl.injEq, V.str.injEq, V.ref.injEq, List.cons.injEq, exists_and_left, and_assoc, and_true, true_and, scal_ii, scal_ss, scal_nn, scal_bb, scal_ni, scal_in, decide_eq_true_eq, Bool.not_true, Bool.not_false, Bool.not_eq_true', decide_eq_false_iff_not, ite_not, reduceCtorEq, if_true, if_false, Bool.false_eq_true, ne_eq, not_true_eq_false, not_false_eq_true, Int.reduceLT, Int.reduceLE, Int.reduceNeg])
local macro_rules | `(tactic| walk_at "cm") => `(tactic| first | exact Or.inr ⟨by decide, by decide⟩ | exact Or.inl ⟨by decide, by decide⟩ | exact Or.inl ⟨by omega, by omega⟩ | exact Or.inr ⟨by omega, by omega⟩)
variable {K : PySem.W.Frag}
theorem natI_nil {xs : List Nat} : natI xs = natI [] ↔ xs = [] := by
  unfold natI
  rw [List.map_nil, List.map_eq_nil_iff]
theorem nat_at {xs : List Nat} {k : Nat} (h : k < xs.length) : (natL xs)[k]? = some (.int ((xs.getD k 0 : Nat) : Int)) := by
  unfold natL
  rw [List.getElem?_map, List.getD_eq_getElem?_getD, List.getElem?_eq_getElem h] <;> rfl
theorem evs_nat (xs : List Nat) (d : Nat) : evs ((natL xs).drop d) = natL (evs (xs.drop d)) := by
  unfold natL
  rw [← List.map_drop, evs_map]
theorem head_at (xs : List Nat) : xs.headD 0 = xs.getD 0 0 := by cases xs <;> rfl
def Wpm (a b : Addr) (D R : Addr) (rs : List Nat) (cs : List Cmp) (K : PySem.W.Frag) (H : Hp) (i : Nat) (σ : L2.St) (H' : Hp) : Prop :=
  ∃ y4 qs, σ = [some (.ref a), some (.ref b), some (.ref D), some (.ref R), y4] ∧ Same H H' ∧ H' R = some (.lst (natL rs)) ∧ H' D = some (.lst (Rfs qs)) ∧ Prs K H' qs (cs ++ (ups rs).take i)
theorem rdg_pmerging (f : Nat) (spR : Sp) (vs : List V) (H : Hp) (Q : VK) (E : XK) (h : spf_pmerging f K vs H Q E)
    (hR : ∀ (g : Nat) (a b : Addr) (xs ys : List Nat) (H : Hp) (Q : VK), f = g + 1 → H a = some (.lst (natL xs)) → H b = some (.lst (natL ys)) → 2 * xs.length ≤ 2 ^ g → 2 * ys.length ≤ 2 ^ g →
      (∀ H' p qs, Same H H' → H p = none → H' p = some (.lst (Rfs qs)) → Prs K H' qs (mergeF g xs ys) → Q (.ref p) H') → spR [.ref a, .ref b] H Q E0) :
    r_pmerging K spR { nx := fun _ H' => Q .non H', rt := Q } (L2.start N_pmerging vs) H := by
  obtain ⟨a, b, xs, ys, rfl, ha, hb, lx, ly, f5, q⟩ := h
  have pf : 2 ^ f ≤ 2 ^ 5 := Nat.pow_le_pow_right (by decide) f5
  have x16 : xs.length ≤ 16 := by omega
  have y16 : ys.length ≤ 16 := by omega
  unfold r_pmerging N_pmerging
  walk_at "ev"
  -- one of both is empty
  have empty : ∀ H1, Same H H1 → (xs = [] ∨ ys = []) → 0 ≤ sizeLine ∧ ∀ p, H1 p = none → Q (.ref p) (upd H1 p (.lst [])) := fun H1 s1 z => by
    refine ⟨small_line (by decide), fun p np => q _ p [] (s1.trans (same_new np)) (s1.free np) upd_same ?_⟩
    have e : mergeF f xs ys = [] := by
      cases f with
      | zero => rfl
      | succ f =>
        unfold mergeF
        rw [if_pos z]
    rw [e]
    exact .nil
  refine ⟨small_line (by decide), fun l nl => ?_⟩
  have s1 := same_new (o := .lst []) nl
  have ha1 := s1 _ _ ha
  have hb1 := s1 _ _ hb
  refine eq_nats (r := xs) (s := []) (.inl (.inl ha1)) (.inl (.inl upd_same)) ?_
  generalize upd H l (.lst []) = H1 at s1 ha1 hb1
  by_cases z : xs = []
  · rw [decide_eq_true (natI_nil.mpr z)]
    refine ⟨true, rfl, ?_⟩
    rw [if_pos rfl]
    exact empty _ s1 (.inl z)
  rw [decide_eq_false fun y => z (natI_nil.mp y)]
  refine ⟨false, rfl, ?_⟩
  rw [if_neg (by decide)]
  refine ⟨small_line (by decide), fun l2 nl2 => ?_⟩
  have s2 := s1.trans (same_new (o := .lst []) nl2)
  have ha2 := (same_new (o := .lst []) nl2) _ _ ha1
  have hb2 := (same_new (o := .lst []) nl2) _ _ hb1
  refine eq_nats (r := ys) (s := []) (.inl (.inl hb2)) (.inl (.inl upd_same)) ?_
  generalize upd H1 l2 (.lst []) = H2 at s2 ha2 hb2
  by_cases z2 : ys = []
  · rw [decide_eq_true (natI_nil.mpr z2)]
    refine ⟨true, rfl, ?_⟩
    rw [if_pos rfl]
    exact empty _ s2 (.inr z2)
  rw [decide_eq_false fun y => z2 (natI_nil.mp y)]
  refine ⟨false, rfl, ?_⟩
  rw [if_neg (by decide)]
  have px : 1 ≤ xs.length := List.length_pos_iff.mpr z
  have py : 1 ≤ ys.length := List.length_pos_iff.mpr z2
  obtain ⟨g, rfl⟩ : ∃ g, f = g + 1 := by
    cases f with
    | zero =>
      rw [Nat.pow_zero] at lx
      omega
    | succ g => exact ⟨g, rfl⟩
  have pg : 2 ^ (g + 1) = 2 * 2 ^ g := by rw [Nat.pow_succ, Nat.mul_comm]
  rw [pg] at lx ly
  have em : ¬ (xs = [] ∨ ys = []) := fun y => y.elim z z2
  -- both have one line
  refine ⟨a, _, rfl, .inl (.inl (.inl ha2)), ?_⟩
  rw [nat_len]
  refine ⟨rfl, ?_⟩
  by_cases both : xs.length = 1 ∧ ys.length = 1
  · rw [if_pos (by rw [both.1] <;> rfl)]
    refine ⟨b, _, rfl, .inl (.inl (.inl hb2)), ?_⟩
    rw [nat_len]
    refine ⟨rfl, ?_⟩
    rw [if_pos (by rw [both.2] <;> rfl)]
    refine ⟨a, _, _, _, rfl, rfl, .inl (.inl ha2), atI_nat (j := 0) (nat_at (by omega)), ?_⟩
    refine ⟨b, _, _, _, rfl, rfl, .inl (.inl hb2), atI_nat (j := 0) (nat_at (by omega)), ?_⟩
    refine ⟨small_line (by decide), fun t nt => ?_⟩
    have s3 := same_new (o := .tup [.int ((xs.getD 0 0 : Nat) : Int), .int ((ys.getD 0 0 : Nat) : Int)]) nt
    refine ⟨small_line (by decide), fun p np => ?_⟩
    refine q _ p [t] ((s2.trans s3).trans (same_new np)) ((s2.trans s3).free np) upd_same ?_
    have e : mergeF (g + 1) xs ys = [(xs.getD 0 0, ys.getD 0 0)] := by
      unfold mergeF
      rw [if_neg em, if_pos both, head_at, head_at]
    rw [e]
    exact .cons (.inl (.inl ((same_new np) _ _ upd_same))) .nil
  have e : mergeF (g + 1) xs ys = (mergeF g (evs xs) (evs ys) ++ mergeF g (evs (xs.drop 1)) (evs (ys.drop 1))) ++ ups (xs ++ ys) := by
    conv => lhs; unfold mergeF
    rw [if_neg em, if_neg both]
  rw [e] at q
  have g1 : ∃ j, 2 ^ g = 2 * j := by
    cases g with
    | zero =>
      exfalso
      rw [Nat.pow_zero] at lx ly
      omega
    | succ j => exact ⟨2 ^ j, by rw [Nat.pow_succ, Nat.mul_comm]⟩
  have bx : ∀ (zs : List Nat) (d : Nat), 2 * zs.length ≤ 2 * 2 ^ g → 2 * (evs (zs.drop d)).length ≤ 2 ^ g := fun zs d lz => by
    obtain ⟨j, ej⟩ := g1
    rw [evs_len, List.length_drop]
    omega
  -- the rest
  have more : ∀ H3, Same H H3 → H3 a = some (.lst (natL xs)) → H3 b = some (.lst (natL ys)) →
      tStepF K (tVar 0) tNoPart (tC (V.int 2)) [some (V.ref a), some (V.ref b), none, none, none] H3 fun x H1 =>
        tStepF K (tVar 1) tNoPart (tC (V.int 2)) [some (V.ref a), some (V.ref b), none, none, none] H1 fun x_1 H1 =>
          spR [x, x_1] H1
            (fun x H1 =>
              tStepF K (tVar 0) (tPart (tC (V.int 1))) (tC (V.int 2)) [some (V.ref a), some (V.ref b), none, none, none] H1 fun x_2 H1 =>
                tStepF K (tVar 1) (tPart (tC (V.int 1))) (tC (V.int 2)) [some (V.ref a), some (V.ref b), none, none, none] H1 fun x_3 H1 =>
                  spR [x_2, x_3] H1
                    (fun y H2 =>
                      rCat x y H2 fun x H1 =>
                        rCat (V.ref a) (V.ref b) H1 fun x_4 H1 =>
                          tFor (iRng3 (tCons (tC (V.int 1)) (tCons (tOp oSub (tCB (kLen K) (tCons (tVar 3) tNil)) (tC (V.int 1))) (tCons (tC (V.int 2)) tNil)))) (gName 4) (r_pmerging_f1 K spR)
                            { nx := tRet (tVar 2) { nx := fun x H' => Q V.non H', rt := Q }, rt := Q } [some (V.ref a), some (V.ref b), some x, some x_4, none] H1)
                    E0)
            E0 := fun H3 s3 ha3 hb3 => by
    unfold tStepF
    walk_at "ev"
    refine ⟨_, .inl (.inl ha3), 0, .inl rfl, fun u1 nu1 => ?_⟩
    rw [evs_nat]
    have s4 := same_new (o := .lst (natL (evs (xs.drop 0)))) nu1
    have hu1 : (upd H3 u1 (.lst (natL (evs (xs.drop 0))))) u1 = some (.lst (natL (evs (xs.drop 0)))) := upd_same
    have ha4 := s4 _ _ ha3
    have hb4 := s4 _ _ hb3
    generalize upd H3 u1 (.lst (natL (evs (xs.drop 0)))) = H4 at s4 hu1 ha4 hb4
    refine ⟨_, .inl (.inl hb4), 0, .inl rfl, fun u2 nu2 => ?_⟩
    rw [evs_nat]
    have s5 := same_new (o := .lst (natL (evs (ys.drop 0)))) nu2
    have hu2 : (upd H4 u2 (.lst (natL (evs (ys.drop 0))))) u2 = some (.lst (natL (evs (ys.drop 0)))) := upd_same
    have hu15 := s5 _ _ hu1
    have ha5 := s5 _ _ ha4
    have hb5 := s5 _ _ hb4
    generalize upd H4 u2 (.lst (natL (evs (ys.drop 0)))) = H5 at s5 hu2 hu15 ha5 hb5
    refine hR g u1 u2 _ _ H5 _ rfl hu15 hu2 (bx xs 0 lx) (bx ys 0 ly) fun H6 p1 qs1 s6 np1 hp1 hq1 => ?_
    rw [List.drop_zero, List.drop_zero] at hq1
    have ha6 := s6 _ _ ha5
    have hb6 := s6 _ _ hb5
    refine ⟨_, .inl (.inl ha6), 1, .inr ⟨rfl, Nat.le_refl _⟩, fun u3 nu3 => ?_⟩
    rw [evs_nat]
    have s7 := same_new (o := .lst (natL (evs (xs.drop 1)))) nu3
    have hu3 : (upd H6 u3 (.lst (natL (evs (xs.drop 1))))) u3 = some (.lst (natL (evs (xs.drop 1)))) := upd_same
    have ha7 := s7 _ _ ha6
    have hb7 := s7 _ _ hb6
    have hp17 := s7 _ _ hp1
    generalize upd H6 u3 (.lst (natL (evs (xs.drop 1)))) = H7 at s7 hu3 ha7 hb7 hp17
    refine ⟨_, .inl (.inl hb7), 1, .inr ⟨rfl, Nat.le_refl _⟩, fun u4 nu4 => ?_⟩
    rw [evs_nat]
    have s8 := same_new (o := .lst (natL (evs (ys.drop 1)))) nu4
    have hu4 : (upd H7 u4 (.lst (natL (evs (ys.drop 1))))) u4 = some (.lst (natL (evs (ys.drop 1)))) := upd_same
    have hu38 := s8 _ _ hu3
    have ha8 := s8 _ _ ha7
    have hb8 := s8 _ _ hb7
    have hp18 := s8 _ _ hp17
    generalize upd H7 u4 (.lst (natL (evs (ys.drop 1)))) = H8 at s8 hu4 hu38 ha8 hb8 hp18
    refine hR g u3 u4 _ _ H8 _ rfl hu38 hu4 (bx xs 1 lx) (bx ys 1 ly) fun H9 p2 qs2 s9 np2 hp2 hq2 => ?_
    have t9 := s7.trans (s8.trans s9)
    have l1 := hq1.length
    have l2 := hq2.length
    have m1 := mergeF_len g (evs xs) (evs ys)
    have m2 := mergeF_len g (evs (xs.drop 1)) (evs (ys.drop 1))
    have few : (mergeF g (evs xs) (evs ys)).length ≤ 200 ∧ (mergeF g (evs (xs.drop 1)) (evs (ys.drop 1))).length ≤ 200 := by
      have k1 := bx xs 0 lx
      have k2 := bx ys 0 ly
      have k3 := bx xs 1 lx
      have k4 := bx ys 1 ly
      rw [List.drop_zero] at k1 k2
      have g4 : g ≤ 4 := by omega
      have p4 : 2 ^ g ≤ 2 ^ 4 := Nat.pow_le_pow_right (by decide) g4
      have w1 : g * ((evs xs).length + (evs ys).length) ≤ 4 * 16 := Nat.mul_le_mul g4 (by omega)
      have w2 : g * ((evs (xs.drop 1)).length + (evs (ys.drop 1)).length) ≤ 4 * 16 := Nat.mul_le_mul g4 (by omega)
      omega
    refine ⟨p1, p2, _, _, rfl, rfl, s9 _ _ hp18, hp2, by rw [rfs_len, rfs_len]; exact small_line (by omega), fun D nD => ?_⟩
    have sD := same_new (o := .lst (Rfs qs1 ++ Rfs qs2)) nD
    have hD : (upd H9 D (.lst (Rfs qs1 ++ Rfs qs2))) D = some (.lst (Rfs (qs1 ++ qs2))) := by
      rw [upd_same]
      unfold Rfs
      rw [List.map_append]
    have haD := sD _ _ (s9 _ _ ha8)
    have hbD := sD _ _ (s9 _ _ hb8)
    have hqD : Prs K (upd H9 D (.lst (Rfs qs1 ++ Rfs qs2))) (qs1 ++ qs2) (mergeF g (evs xs) (evs ys) ++ mergeF g (evs (xs.drop 1)) (evs (ys.drop 1))) := (Same.prs (t9.trans sD) hq1).append (Same.prs sD hq2)
    have sAll := s3.trans (s4.trans (s5.trans (s6.trans (t9.trans sD))))
    have nDH := (s3.trans (s4.trans (s5.trans (s6.trans t9)))).free nD
    generalize upd H9 D (.lst (Rfs qs1 ++ Rfs qs2)) = HD at hD haD hbD hqD sAll
    refine ⟨a, b, _, _, rfl, rfl, haD, hbD, by rw [nat_len, nat_len]; exact small_line (by omega), fun R nR => ?_⟩
    have eR : natL xs ++ natL ys = natL (xs ++ ys) := by
      unfold natL
      rw [List.map_append]
    rw [eR]
    have sR := same_new (o := .lst (natL (xs ++ ys))) nR
    have hR' : (upd HD R (.lst (natL (xs ++ ys)))) R = some (.lst (natL (xs ++ ys))) := upd_same
    have hDR := sR _ _ hD
    have hqR := Same.prs sR hqD
    have sAllR := sAll.trans sR
    have DR : D ≠ R := ne_of_none hD nR
    generalize upd HD R (.lst (natL (xs ++ ys))) = HR at hR' hDR hqR sAllR
    have lr : (xs ++ ys).length = xs.length + ys.length := List.length_append
    have up : upN 1 (((xs ++ ys).length : Int) - 1) 2 = ((xs ++ ys).length - 1) / 2 := by
      unfold upN
      split <;> omega
    generalize hrs : xs ++ ys = rs at hR' lr up q
    refine for_rng3 (lo := 1) (hi := (rs.length : Int) - 1) (c := 2) (n := (rs.length - 1) / 2) (fun Q q => ?_) (by rw [← up]; exact upN_rgc (by omega) (by omega) (by omega))
      (Wpm a b D R rs (mergeF g (evs xs) (evs ys) ++ mergeF g (evs (xs.drop 1)) (evs (ys.drop 1))) K H) ⟨none, qs1 ++ qs2, rfl, sAllR, hR', hDR, by rw [List.take_zero, List.append_nil]; exact hqR⟩ (fun i σ H' hi hW => ?_) (fun σ H' hW => ?_)
    · walk_at "ev"
      refine ⟨R, _, rfl, .inl (.inl (.inl hR')), ?_⟩
      walk_at "ev"
      rw [nat_len]
      exact q
    · obtain ⟨y4, qs, rfl, s, hr, hd, hq⟩ := hW
      have lq := hq.length
      rw [List.length_append, List.length_append, List.length_take, ups_len] at lq
      have ei : (1 : Int) + (i : Int) * 2 = ((1 + 2 * i : Nat) : Int) := by omega
      rw [ei]
      unfold r_pmerging_f1
      walk_at "ev"
      refine ⟨.inl ⟨rfl, _, .inl (.inl hd)⟩, ?_⟩
      refine ⟨R, _, _, _, rfl, rfl, .inl (.inl hr), atI_nat (nat_at (by omega)), ?_⟩
      rw [show ((1 + 2 * i : Nat) : Int) + 1 = ((1 + 2 * i + 1 : Nat) : Int) by omega]
      refine ⟨R, _, _, _, rfl, rfl, .inl (.inl hr), atI_nat (nat_at (by omega)), ?_⟩
      refine ⟨small_line (by decide), fun t nt => ?_⟩
      have st := same_new (o := .tup [.int ((rs.getD (1 + 2 * i) 0 : Nat) : Int), .int ((rs.getD (1 + 2 * i + 1) 0 : Nat) : Int)]) nt
      have hdt := st _ _ hd
      refine ⟨D, _, _, rfl, rfl, hdt, by rw [rfs_len]; exact small_lt (by omega), ?_⟩
      refine ⟨_, qs ++ [t], rfl, same_mut (s.trans st) nDH, by rw [upd_ne DR.symm]; exact st _ _ hr, ?_, ?_⟩
      · rw [upd_same]
        unfold Rfs
        rw [List.map_append] <;> rfl
      · have eu : (ups rs)[i]? = some (rs.getD (1 + 2 * i) 0, rs.getD (1 + 2 * i + 1) 0) := by
          unfold ups
          rw [List.getElem?_map, List.getElem?_range hi] <;> rfl
        rw [List.take_add_one, eu, ← List.append_assoc]
        exact prs_upd hdt ((Same.prs st hq).snoc (.inl (.inl upd_same)))
    · obtain ⟨y4, qs, rfl, s, hr, hd, hq⟩ := hW
      rw [List.take_of_length_le (by rw [ups_len]; exact Nat.le_refl _)] at hq
      walk_at "ev"
      exact q H' D qs s nDH hd hq
  by_cases one : xs.length = 1
  · rw [if_pos (by rw [one] <;> rfl)]
    refine ⟨b, _, rfl, .inl (.inl (.inl hb2)), ?_⟩
    rw [nat_len]
    refine ⟨rfl, ?_⟩
    rw [if_neg (by
      intro y
      have := V.int.inj y
      exact both ⟨one, by omega⟩)]
    exact more H2 s2 ha2 hb2
  · rw [if_neg (by
      intro y
      have := V.int.inj y
      exact one (by omega))]
    exact more H2 s2 ha2 hb2
theorem rd0_pmerging (vs : List V) (H : Hp) (Q : VK) (E : XK) (h : spf_pmerging 0 K vs H Q E) : r_pmerging K (fun _ _ _ _ => False) { nx := fun _ H' => Q .non H', rt := Q } (L2.start N_pmerging vs) H :=
  rdg_pmerging 0 _ vs H Q E h fun g a b xs ys H Q e => absurd e (by omega)
theorem rd_pmerging (f : Nat) (vs : List V) (H : Hp) (Q : VK) (E : XK) (h : spf_pmerging (f + 1) K vs H Q E) : r_pmerging K (spf_pmerging f K) { nx := fun _ H' => Q .non H', rt := Q } (L2.start N_pmerging vs) H := by
  have f5 : f + 1 ≤ 5 := by
    obtain ⟨_, _, _, _, _, _, _, _, _, f5, _⟩ := h
    exact f5
  refine rdg_pmerging (f + 1) _ vs H Q E h fun g a b xs ys H Q e ha hb lx ly q => ?_
  obtain rfl : f = g := by omega
  exact ⟨a, b, xs, ys, rfl, ha, hb, lx, ly, by omega, q⟩
theorem rdg_psorting (f : Nat) (spR : Sp) (vs : List V) (H : Hp) (Q : VK) (E : XK) (h : spf_psorting f K vs H Q E)
    (hR : ∀ (g : Nat) (a : Addr) (xs : List Nat) (H : Hp) (Q : VK), f = g + 1 → H a = some (.lst (natL xs)) → xs.length ≤ 2 ^ g →
      (∀ H' p qs, Same H H' → H p = none → H' p = some (.lst (Rfs qs)) → Prs K H' qs (sortF g xs) → Q (.ref p) H') → spR [.ref a] H Q E0) :
    r_psorting K spR { nx := fun _ H' => Q .non H', rt := Q } (L2.start N_psorting vs) H := by
  obtain ⟨a, xs, rfl, ha, lx, f4, q⟩ := h
  have pf : 2 ^ f ≤ 2 ^ 4 := Nat.pow_le_pow_right (by decide) f4
  have x16 : xs.length ≤ 16 := by omega
  unfold r_psorting N_psorting
  walk_at "ev"
  refine ⟨a, _, rfl, .inl (.inl (.inl ha)), ?_⟩
  rw [nat_len]
  walk_at "ev"
  by_cases z : xs.length < 2
  · rw [if_pos (by omega)]
    refine ⟨small_line (by decide), fun p np => ?_⟩
    refine q _ p [] (same_new np) np upd_same ?_
    have e : sortF f xs = [] := by
      cases f with
      | zero => rfl
      | succ f =>
        unfold sortF
        rw [if_pos z]
    rw [e]
    exact .nil
  rw [if_neg (by omega)]
  obtain ⟨g, rfl⟩ : ∃ g, f = g + 1 := by
    cases f with
    | zero =>
      rw [Nat.pow_zero] at lx
      omega
    | succ g => exact ⟨g, rfl⟩
  have pg : 2 ^ (g + 1) = 2 * 2 ^ g := by rw [Nat.pow_succ, Nat.mul_comm]
  rw [pg] at lx
  have e : sortF (g + 1) xs = (sortF g (xs.take (xs.length / 2)) ++ sortF g (xs.drop (xs.length / 2))) ++ mergeF 5 (xs.take (xs.length / 2)) (xs.drop (xs.length / 2)) := by
    conv => lhs; unfold sortF
    rw [if_neg z]
  rw [e] at q
  have eh : (xs.length : Int) / 2 = ((xs.length / 2 : Nat) : Int) := by omega
  refine ⟨a, _, rfl, .inl (.inl (.inl ha)), ?_⟩
  rw [nat_len]
  walk_at "ev"
  refine ⟨⟨by decide, by decide⟩, ?_⟩
  rw [eh]
  have cut1 : cutV (natL xs) none (some ((xs.length / 2 : Nat) : Int)) = natL (xs.take (xs.length / 2)) := by
    rw [cutV_to]
    unfold natL
    rw [List.map_take]
  have cut2 : cutV (natL xs) (some ((xs.length / 2 : Nat) : Int)) none = natL (xs.drop (xs.length / 2)) := by
    rw [cutV_from]
    unfold natL
    rw [List.map_drop]
  have lt : (xs.take (xs.length / 2)).length = xs.length / 2 := by rw [List.length_take]; omega
  have ld : (xs.drop (xs.length / 2)).length = xs.length - xs.length / 2 := List.length_drop
  have g1 : ∃ j, 2 ^ g = 2 * j ∨ 2 ^ g = 1 := by
    cases g with
    | zero => exact ⟨0, .inr rfl⟩
    | succ j => exact ⟨2 ^ j, .inl (by rw [Nat.pow_succ, Nat.mul_comm])⟩
  generalize xs.take (xs.length / 2) = ys at cut1 lt q
  generalize xs.drop (xs.length / 2) = zs at cut2 ld q
  refine ⟨a, _, rfl, .inl (.inl ha), fun u1 nu1 => ?_⟩
  rw [cut1]
  have s1 := same_new (o := .lst (natL ys)) nu1
  have hu1 : (upd H u1 (.lst (natL ys))) u1 = some (.lst (natL ys)) := upd_same
  have ha1 := s1 _ _ ha
  generalize upd H u1 (.lst (natL ys)) = H1 at s1 hu1 ha1
  refine ⟨a, _, rfl, .inl (.inl ha1), fun u2 nu2 => ?_⟩
  rw [cut2]
  have s2 := s1.trans (same_new (o := .lst (natL zs)) nu2)
  have hu2 : (upd H1 u2 (.lst (natL zs))) u2 = some (.lst (natL zs)) := upd_same
  have hu12 := (same_new (o := .lst (natL zs)) nu2) _ _ hu1
  generalize upd H1 u2 (.lst (natL zs)) = H2 at s2 hu2 hu12
  refine hR g u1 _ H2 _ rfl hu12 (by obtain ⟨j, hj⟩ := g1; omega) fun H3 p1 qs1 s3 np1 hp1 hq1 => ?_
  refine hR g u2 _ H3 _ rfl (s3 _ _ hu2) (by obtain ⟨j, hj⟩ := g1; omega) fun H4 p2 qs2 s4 np2 hp2 hq2 => ?_
  have l1 := hq1.length
  have l2 := hq2.length
  have m1 := sortF_len g ys
  have m2 := sortF_len g zs
  have few : (sortF g ys).length ≤ 400 ∧ (sortF g zs).length ≤ 400 := by
    have w1 : g * (5 * ys.length) ≤ 4 * 80 := Nat.mul_le_mul (by omega) (by omega)
    have w2 : g * (5 * zs.length) ≤ 4 * 80 := Nat.mul_le_mul (by omega) (by omega)
    omega
  refine ⟨p1, p2, _, _, rfl, rfl, s4 _ _ hp1, hp2, by rw [rfs_len, rfs_len]; exact small_line (by omega), fun D nD => ?_⟩
  have sD := same_new (o := .lst (Rfs qs1 ++ Rfs qs2)) nD
  have hD : (upd H4 D (.lst (Rfs qs1 ++ Rfs qs2))) D = some (.lst (Rfs (qs1 ++ qs2))) := by
    rw [upd_same]
    unfold Rfs
    rw [List.map_append]
  have hqD : Prs K (upd H4 D (.lst (Rfs qs1 ++ Rfs qs2))) (qs1 ++ qs2) (sortF g ys ++ sortF g zs) := (Same.prs (s4.trans sD) hq1).append (Same.prs sD hq2)
  have t3 := s3.trans (s4.trans sD)
  have hu1D := t3 _ _ hu12
  have hu2D := t3 _ _ hu2
  have sAll := s2.trans t3
  generalize upd H4 D (.lst (Rfs qs1 ++ Rfs qs2)) = HD at hD hqD sAll hu1D hu2D
  refine ⟨u1, u2, _, _, rfl, hu1D, hu2D, by omega, by omega, by decide, fun H5 p3 qs3 s5 np3 hp3 hq3 => ?_⟩
  have l3 := hq3.length
  have m3 := mergeF_len 5 ys zs
  have lD : (qs1 ++ qs2).length ≤ 800 := by
    rw [hqD.length, List.length_append]
    omega
  refine ⟨D, p3, _, _, rfl, rfl, s5 _ _ hD, hp3, by rw [rfs_len, rfs_len]; exact small_line (by omega), fun R nR => ?_⟩
  have sR := same_new (o := .lst (Rfs (qs1 ++ qs2) ++ Rfs qs3)) nR
  refine q _ R ((qs1 ++ qs2) ++ qs3) (sAll.trans (s5.trans sR)) ((sAll.trans s5).free nR) ?_ ((Same.prs (s5.trans sR) hqD).append (Same.prs sR hq3))
  rw [upd_same]
  unfold Rfs
  rw [List.map_append (l₁ := qs1 ++ qs2)]
theorem rd0_psorting (vs : List V) (H : Hp) (Q : VK) (E : XK) (h : spf_psorting 0 K vs H Q E) : r_psorting K (fun _ _ _ _ => False) { nx := fun _ H' => Q .non H', rt := Q } (L2.start N_psorting vs) H :=
  rdg_psorting 0 _ vs H Q E h fun g a xs H Q e => absurd e (by omega)
theorem rd_psorting (f : Nat) (vs : List V) (H : Hp) (Q : VK) (E : XK) (h : spf_psorting (f + 1) K vs H Q E) : r_psorting K (spf_psorting f K) { nx := fun _ H' => Q .non H', rt := Q } (L2.start N_psorting vs) H := by
  have f4 : f + 1 ≤ 4 := by
    obtain ⟨_, _, _, _, _, f4, _⟩ := h
    exact f4
  refine rdg_psorting (f + 1) _ vs H Q E h fun g a xs H Q e ha lx q => ?_
  obtain rfl : f = g := by omega
  exact ⟨a, xs, rfl, ha, lx, by omega, q⟩
theorem rd_sorting (vs : List V) (H : Hp) (Q : VK) (E : XK) (h : sp_sorting K vs H Q E) : r_sorting K { nx := fun _ H' => Q .non H', rt := Q } (L2.start N_sorting vs) H := by
  obtain ⟨n, rfl, n1, n10, q⟩ := h
  unfold r_sorting N_sorting tLstRg tRg1
  walk_at "ev"
  refine ⟨n, rfl, n1, n10, ?_⟩
  refine ⟨.of_le (by omega) (by omega) (by omega) (by omega), fun u nu => ?_⟩
  rw [rgV_nat]
  have s1 := same_new (o := .lst (natL (List.range n))) nu
  refine ⟨u, List.range n, rfl, upd_same, by rw [List.length_range]; omega, by decide, fun H' p qs s np hp hq => ?_⟩
  exact q H' p qs (s1.trans s) (s1.free np) hp hq
end Sw

set_option Elab.async false
set_option linter.all false
set_option maxRecDepth 100000
set_option maxHeartbeats 4000000
namespace Sw
open PySem PySem.Spec PyProof.Rows L2
local macro_rules | `(tactic| walk_at "ev") => `(tactic| simp only [tSeq, tCalW, quiet, tRzA, tRzO, tTryT, tTryK, tJoin, tJs, tBM, tBits, kStrI, kIntS, kLenS, mSplit, mPart, mIndex, tAsg, tRet, tRetN, tOp, tUn, tVar, tC, tNil, tCons, tCB, tDrop, tNext, tCont, tBreak, tIfS, tIf, tTest, tChain, tChain3, tB, tTup, tLst, tAnd, tOr, tNot, tAndV, tOrV, tNotV, tPart, tNoPart, tSl, tCal, tAug, ipI, rI0, rI, rU, rEq, rNe, kMin, kMax, gName, gCons, gNil, L2.start, wipe, List.map_cons, List.map_nil, List.length_cons, List.length_nil, List.cons_append, List.nil_append, List.append_nil, Nat.reduceAdd, Nat.reduceSub, List.replicate_succ, List.replicate_zero, List.getElem?_cons_zero, List.getElem?_cons_succ, List.set_cons_succ, List.set_cons_zero, Option.some.injEq, exists_eq_left', exists_eq_left, V.int.injEq, V.bl.injEq, V.str.injEq, V.ref.injEq, List.cons.injEq, exists_and_left, and_assoc, and_true, true_and, scal_ii, scal_ss, scal_nn, scal_bb, scal_ni, scal_in, decide_eq_true_eq, Bool.not_true, Bool.not_false, Bool.not_eq_true', decide_eq_false_iff_not, ite_not, reduceCtorEq, if_true, if_false, Bool.false_eq_true, ne_eq, not_true_eq_false, not_false_eq_true, Int.reduceLT, Int.reduceLE, Int.reduceNeg])
local macro_rules | `(tactic| walk_at "cm") => `(tactic| first | exact Or.inr ⟨by decide, by decide⟩ | exact Or.inl ⟨by decide, by decide⟩ | exact Or.inl ⟨by omega, by omega⟩ | exact Or.inr ⟨by omega, by omega⟩)
variable {K : PySem.W.Frag}
theorem rd_needorder (vs : List V) (H : Hp) (Q : VK) (E : XK) (h : sp_needorder K vs H Q E) : r_needorder K { nx := fun _ H' => Q .non H', rt := Q } (L2.start N_needorder vs) H := by
  obtain ⟨n, b, o, rfl, hb, hp, n10, q⟩ := h
  have lo : o.length = n := by rw [hp.length_eq, List.length_range]
  unfold r_needorder N_needorder tLstRg tRg1
  walk_at "ev"
  refine ⟨.ref b, "list", rfl, .lst hb, _, _, rfl, rfl, ?_⟩
  rw [decide_eq_true rfl]
  refine ⟨true, rfl, ?_⟩
  rw [if_pos rfl]
  refine lc_each (a := b) (xs := natL o) rfl hb (fun v => rfl) (fun D i acc H' => Same H H' ∧ acc = (List.replicate i true).map V.bl) (fun D nD => ⟨same_new nD, rfl⟩) (fun D i acc H' nD g => g.1.seq hb) ?_ ?_
  · intro D i x acc H' nD hx hi hD g
    obtain ⟨s, rfl⟩ := g
    obtain ⟨z, rfl⟩ : ∃ z : Int, x = .int z := by
      unfold natL at hx
      rw [List.getElem?_map] at hx
      cases e : o[i]? with
      | none => rw [e] at hx; cases hx
      | some k => rw [e] at hx; exact ⟨_, (Option.some.inj hx).symm⟩
    refine .yes ?_
    walk_at "ev"
    refine ⟨.int z, "int", rfl, .int z, ?_⟩
    rw [decide_eq_true rfl]
    rw [nat_len] at hi
    refine GoOn.mk hD (by rw [List.length_map, List.length_replicate]; omega) ⟨same_mut s nD, ?_⟩
    rw [List.replicate_succ', List.map_append] <;> rfl
  · intro D acc H2 nD hD g
    obtain ⟨s2, rfl⟩ := g
    refine ⟨D, List.replicate (natL o).length true, rfl, .inl (.inl hD), ?_⟩
    have eA : (List.replicate (natL o).length true).all id = true := by
      rw [List.all_eq_true]
      intro x hx
      rw [(List.mem_replicate.mp hx).2] <;> rfl
    rw [eA]
    refine ⟨true, rfl, ?_⟩
    walk_at "ev"
    refine ⟨b, natI o, rfl, by rw [show (natI o).map V.int = natL o from (natL_vis _).symm]; exact s2.seq hb, fun ns w hperm hsort nw => ?_⟩
    have s5 := same_new (o := .lst (ns.map V.int)) nw
    refine ⟨.of_le (by omega) (by omega) (by omega) (by omega), fun v nv => ?_⟩
    have s6 := same_new (o := .lst (rgV 0 (n : Int))) nv
    have e1 := sorted_spots hp hperm hsort
    subst e1
    rw [rgV_nat] at s6 ⊢
    refine ne_rows (r := natI (List.range n)) (s := natI (List.range n)) (.inl (.inl (s6 _ _ upd_same))) (.inl (.inl (by rw [upd_same, natL_vis]))) ?_
    rw [decide_eq_true rfl]
    refine ⟨false, rfl, ?_⟩
    rw [if_neg (by decide)]
    exact q _ (s2.trans (s5.trans s6))
theorem rd_renamed (vs : List V) (H : Hp) (Q : VK) (E : XK) (h : sp_renamed K vs H Q E) : r_renamed K { nx := fun _ H' => Q .non H', rt := Q } (L2.start N_renamed vs) H := by
  obtain ⟨n, a, b, cs, o, rfl, hw, hb, hp, q⟩ := h
  obtain ⟨ps, ha, hps, ok, n1, n10⟩ := id hw
  have h60 := ok.1
  have lo : o.length = n := by rw [hp.length_eq, List.length_range]
  unfold r_renamed N_renamed
  walk_at "ev"
  refine ⟨n, a, cs, rfl, hw, fun H1 s1 => ?_⟩
  refine ⟨n, b, o, rfl, s1.seq hb, hp, n10, fun H2 s2 => ?_⟩
  have t := s1.trans s2
  refine lc_cmps (a := a) (ps := ps) (cs := cs) (callC o) rfl (t.seq ha) (Same.prs t hps) (by omega) (fun v w => rfl) (fun c H' Q' hc s' q' => ?_) (fun D H' qs s' nD hD hq => q H' D qs (t.trans s') (t.free nD) hD hq)
  obtain ⟨h1, h2, h3⟩ := ok.2 c hc
  walk_at "ev"
  refine ⟨b, _, _, _, rfl, rfl, (t.trans s').seq hb, atI_nat (natL_sp (by omega)), ?_⟩
  refine ⟨b, _, _, _, rfl, rfl, (t.trans s').seq hb, atI_nat (natL_sp (by omega)), ?_⟩
  exact ⟨small_line (by decide), fun T nT => q' T nT⟩
theorem rd_upside (vs : List V) (H : Hp) (Q : VK) (E : XK) (h : sp_upside K vs H Q E) : r_upside K { nx := fun _ H' => Q .non H', rt := Q } (L2.start N_upside vs) H := by
  obtain ⟨n, a, cs, rfl, hw, q⟩ := h
  obtain ⟨ps, ha, hps, ok, n1, n10⟩ := id hw
  have h60 := ok.1
  unfold r_upside N_upside
  walk_at "ev"
  refine ⟨n, a, cs, rfl, hw, fun H1 s1 => ?_⟩
  refine lc_cmps (a := a) (ps := ps) (cs := cs) (upC n) rfl (s1.seq ha) (Same.prs s1 hps) (by omega) (fun v w => rfl) (fun c H' Q' hc s' q' => ?_) (fun D H' qs s' nD hD hq => q H' D qs (s1.trans s') (s1.free nD) hD hq)
  obtain ⟨h1, h2, h3⟩ := ok.2 c hc
  walk_at "ev"
  refine ⟨small_line (by decide), fun T nT => ?_⟩
  have := q' T nT
  unfold V2 upC at this
  dsimp only at this
  rw [show (((n - 1 - c.2 : Nat) : Nat) : Int) = (n : Int) - 1 - (c.2 : Int) by omega, show (((n - 1 - c.1 : Nat) : Nat) : Int) = (n : Int) - 1 - (c.1 : Int) by omega] at this
  exact this
end Sw

set_option Elab.async false
set_option linter.all false
set_option maxRecDepth 100000
set_option maxHeartbeats 4000000
namespace Sw
open PySem PySem.Spec PyProof.Rows L2
local macro_rules | `(tactic| walk_at "ev") => `(tactic| simp only [tSeq, tCalW, quiet, tRzA, tRzO, tTryT, tTryK, tJoin, tJs, tBM, tBits, kStrI, kIntS, kLenS, mSplit, mPart, mIndex, tAsg, tRet, tRetN, tOp, tUn, tVar, tC, tNil, tCons, tCB, tDrop, tNext, tCont, tBreak, tIfS, tIf, tTest, tChain, tChain3, tB, tTup, tLst, tAnd, tOr, tNot, tAndV, tOrV, tNotV, tPart, tNoPart, tSl, tCal, tAug, ipI, rI0, rI, rU, rEq, rNe, kMin, kMax, gName, gCons, gNil, L2.start, wipe, List.map_cons, List.map_nil, List.length_cons, List.length_nil, List.cons_append, List.nil_append, List.append_nil, Nat.reduceAdd, Nat.reduceSub, List.replicate_succ, List.replicate_zero, List.getElem?_cons_zero, List.getElem?_cons_succ, List.set_cons_succ, List.set_cons_zero, Option.some.injEq, exists_eq_left', exists_eq_left, V.int.injEq, V.bl.injEq, V.str.injEq, V.ref.injEq, List.cons.injEq, exists_and_left, and_assoc, and_true, true_and, scal_ii, scal_ss, scal_nn, scal_bb, scal_ni, scal_in, decide_eq_true_eq, Bool.not_true, Bool.not_false, Bool.not_eq_true', decide_eq_false_iff_not, ite_not, reduceCtorEq, if_true, if_false, Bool.false_eq_true, ne_eq, not_true_eq_false, not_false_eq_true, Int.reduceLT, Int.reduceLE, Int.reduceNeg])
local macro_rules | `(tactic| walk_at "cm") => `(tactic| first | exact Or.inr ⟨by decide, by decide⟩ | exact Or.inl ⟨by decide, by decide⟩ | exact Or.inl ⟨by omega, by omega⟩ | exact Or.inr ⟨by omega, by omega⟩)
variable {K : PySem.W.Frag}
theorem natL_set (l : List Nat) (k v : Nat) : (natL l).set k (.int (v : Int)) = natL (l.set k v) := by
  unfold natL
  rw [List.map_set]
def Wstr (K : PySem.W.Frag) (n : Nat) (a F S : Addr) (cs : List Cmp) (H : Hp) (i : Nat) (σ : L2.St) (H' : Hp) : Prop :=
  ∃ y4 y5 y6 y7 qs, σ = [some (.int (n : Int)), some (.ref a), some (.ref F), some (.ref S), y4, y5, y6, y7] ∧ Same H H' ∧ H' S = some (.lst (natL (strOf n (cs.take i)).2)) ∧ H' F = some (.lst (Rfs qs)) ∧ Prs K H' qs (strOf n (cs.take i)).1
theorem sp_keep {sp : List Nat} {j k : Nat} (hj : j < sp.length) (hk : k < sp.length) : (sp.set j (spA sp j)).set k (spA sp k) = sp := by
  have e : ∀ (l : List Nat) (i : Nat), i < l.length → l.set i (spA l i) = l := fun l i hi => by
    rw [← spA_eq hi, List.set_getElem_self]
  rw [e sp j hj, e sp k hk]
theorem rd_straightened (vs : List V) (H : Hp) (Q : VK) (E : XK) (h : sp_straightened K vs H Q E) : r_straightened K { nx := fun _ H' => Q .non H', rt := Q } (L2.start N_straightened vs) H := by
  obtain ⟨n, a, cs, rfl, hw, q⟩ := h
  obtain ⟨ps, ha, hp, ok, n1, n10⟩ := id hw
  have hpl := hp.length
  have h60 := ok.1
  unfold r_straightened N_straightened tLstRg tRg1
  walk_at "ev"
  refine ⟨n, a, cs, rfl, hw, fun H1 s1 => ?_⟩
  refine ⟨small_line (by decide), fun F nF => ?_⟩
  have s2 := s1.trans (same_new (o := .lst []) nF)
  have nFH := s1.free nF
  have hF : (upd H1 F (.lst [])) F = some (.lst []) := upd_same
  generalize upd H1 F (.lst []) = H2 at s2 hF
  refine ⟨.of_le (by omega) (by omega) (by omega) (by omega), fun S nS => ?_⟩
  rw [rgV_nat]
  have s3 := s2.trans (same_new (o := .lst (natL (List.range n))) nS)
  have hF3 := (same_new (o := .lst (natL (List.range n))) nS) _ _ hF
  have hS3 : (upd H2 S (.lst (natL (List.range n)))) S = some (.lst (natL (List.range n))) := upd_same
  have nSH := s2.free nS
  have FS : F ≠ S := ne_of_none hF nS
  generalize upd H2 S (.lst (natL (List.range n))) = H3 at s3 hS3 hF3
  refine for_pairs (a := a) (ps := ps) rfl (s3.seq ha) (fun i => match cs[i]? with | some c => (.int (c.1 : Int), .int (c.2 : Int)) | none => (.non, .non))
    (Wstr K n a F S cs H) ⟨none, none, none, none, [], rfl, s3, hS3, hF3, .nil⟩ (fun i σ H' _ hW => ?_) (fun i g σ H' hg hW => ?_) (fun i g σ H' hg hW => ?_) (fun σ H' hW => ?_)
  · obtain ⟨_, _, _, _, _, _, s, _⟩ := hW
    exact s.seq ha
  · obtain ⟨_, _, _, _, _, _, s, _⟩ := hW
    obtain ⟨c, hc, ht⟩ := hp.getL hg
    rw [hc]
    exact Same.sqt s ht
  · obtain ⟨y4, y5, y6, y7, qs, rfl, s, hS', hF', hq⟩ := hW
    obtain ⟨c, hc, ht⟩ := hp.getL hg
    rw [hc]
    obtain ⟨h1, h2, h3⟩ := ok.2 c (List.mem_of_getElem? hc)
    have I := str_all (n := n) (cs := cs.take i) fun d hd => ok.2 d (List.mem_of_mem_take hd)
    have step : strOf n (cs.take (i + 1)) = strC (strOf n (cs.take i)) c := by rw [List.take_add_one, hc]; exact strOf_snoc _ _ _
    have sl := I.slen
    have ne : spA (strOf n (cs.take i)).2 c.1 ≠ spA (strOf n (cs.take i)).2 c.2 := fun e => h3 (I.inj h1 h2 e)
    have lq := hq.length
    rw [I.len, List.length_take] at lq
    generalize strOf n (cs.take i) = st at step sl ne hS' hq
    unfold r_straightened_f1
    walk_at "ev"
    refine ⟨S, _, _, _, rfl, rfl, .inl (.inl hS'), atI_nat (natL_sp (by omega)), ?_⟩
    refine ⟨S, _, _, _, rfl, rfl, .inl (.inl hS'), atI_nat (natL_sp (by omega)), ?_⟩
    refine ⟨_, rfl, _, rfl, ?_⟩
    refine ⟨S, _, _, _, rfl, rfl, .inl (.inl hS'), atI_nat (natL_sp (by omega)), ?_⟩
    refine ⟨S, _, _, _, rfl, rfl, .inl (.inl hS'), atI_nat (natL_sp (by omega)), ?_⟩
    refine ⟨_, rfl, _, rfl, ?_⟩
    have put : ∀ (x y : Nat) (sp : List Nat), strC st c = (st.1 ++ [(x, y)], sp) → ((st.2.set c.1 x).set c.2 y) = sp →
        tyV K "list" (.ref F) H' ∧ 2 ≤ sizeLine ∧ ∀ p, H' p = none → rAppend (.ref F) [.ref p] (upd H' p (.tup [.int (x : Int), .int (y : Int)])) fun _ H1 =>
          gSub (tVar 3) (tVar 4) rSetL (.int (x : Int)) [some (.int (n : Int)), some (.ref a), some (.ref F), some (.ref S), some (.int (c.1 : Int)), some (.int (c.2 : Int)), some (.int (x : Int)), some (.int (y : Int))] H1 fun σ2 H2 =>
            tAsg (tVar 7) (gSub (tVar 3) (tVar 5) rSetL) { nx := Wstr K n a F S cs H (i + 1), ct := Wstr K n a F S cs H (i + 1), bk := tRet (tTup (tCons (tVar 2) (tCons (tVar 3) tNil))) { nx := fun _ H' => Q .non H', rt := Q }, rt := Q } σ2 H2 := fun x y sp e1 e2 => by
      refine ⟨.inl ⟨rfl, _, .inl (.inl hF')⟩, small_line (by decide), fun p np => ?_⟩
      have s6 := same_new (o := .tup [.int (x : Int), .int (y : Int)]) np
      have hF6 := s6 _ _ hF'
      have hS6 := s6 _ _ hS'
      refine ⟨F, _, _, rfl, rfl, hF6, by rw [rfs_len]; exact small_lt (by omega), ?_⟩
      have hS7 : (upd (upd H' p (.tup [.int (x : Int), .int (y : Int)])) F (.lst (Rfs qs ++ [.ref p]))) S = some (.lst (natL st.2)) := by rw [upd_ne FS.symm]; exact hS6
      have hF7 : (upd (upd H' p (.tup [.int (x : Int), .int (y : Int)])) F (.lst (Rfs qs ++ [.ref p]))) F = some (.lst (Rfs (qs ++ [p]))) := by
        rw [upd_same]
        unfold Rfs
        rw [List.map_append] <;> rfl
      have hq7 : Prs K (upd (upd H' p (.tup [.int (x : Int), .int (y : Int)])) F (.lst (Rfs qs ++ [.ref p]))) (qs ++ [p]) (strC st c).1 := by
        rw [e1]
        exact prs_upd hF6 ((Same.prs s6 hq).snoc (.inl (.inl upd_same)))
      have s7 := same_mut (o := .lst (Rfs qs ++ [.ref p])) (s.trans s6) nFH
      generalize upd (upd H' p (.tup [.int (x : Int), .int (y : Int)])) F (.lst (Rfs qs ++ [.ref p])) = H7 at hS7 hF7 hq7 s7
      refine set_run (a := c.1) rfl rfl hS7 (by rw [nat_len]; omega) ?_
      rw [natL_set]
      walk_at "ev"
      refine set_run (a := c.2) rfl rfl upd_same (by rw [nat_len, List.length_set]; omega) ?_
      rw [natL_set, e2]
      refine ⟨_, _, _, _, qs ++ [p], rfl, same_mut (same_mut s7 nSH) nSH, ?_, ?_, ?_⟩
      · rw [upd_same, step, e1]
      · rw [upd_ne FS, upd_ne FS]
        exact hF7
      · rw [step]
        exact prs_upd upd_same (prs_upd hS7 hq7)
    by_cases lt : spA st.2 c.1 < spA st.2 c.2
    · have r1 : (if ((spA st.2 c.2 : Nat) : Int) < ((spA st.2 c.1 : Nat) : Int) then ((spA st.2 c.2 : Nat) : Int) else ((spA st.2 c.1 : Nat) : Int)) = ((spA st.2 c.1 : Nat) : Int) := if_neg (by omega)
      have r2 : (if ((spA st.2 c.2 : Nat) : Int) > ((spA st.2 c.1 : Nat) : Int) then ((spA st.2 c.2 : Nat) : Int) else ((spA st.2 c.1 : Nat) : Int)) = ((spA st.2 c.2 : Nat) : Int) := if_pos (by omega)
      rw [r1, r2]
      refine put _ _ st.2 ?_ (sp_keep (by omega) (by omega))
      unfold strC
      rw [if_pos lt]
    · have r1 : (if ((spA st.2 c.2 : Nat) : Int) < ((spA st.2 c.1 : Nat) : Int) then ((spA st.2 c.2 : Nat) : Int) else ((spA st.2 c.1 : Nat) : Int)) = ((spA st.2 c.2 : Nat) : Int) := if_pos (by omega)
      have r2 : (if ((spA st.2 c.2 : Nat) : Int) > ((spA st.2 c.1 : Nat) : Int) then ((spA st.2 c.2 : Nat) : Int) else ((spA st.2 c.1 : Nat) : Int)) = ((spA st.2 c.1 : Nat) : Int) := if_neg (by omega)
      rw [r1, r2]
      refine put _ _ ((st.2.set c.1 (spA st.2 c.2)).set c.2 (spA st.2 c.1)) ?_ rfl
      unfold strC
      rw [if_neg lt]
  · obtain ⟨y4, y5, y6, y7, qs, rfl, s, hS', hF', hq⟩ := hW
    walk_at "ev"
    rw [hpl, List.take_length] at hS' hq
    refine ⟨small_line (by decide), fun p np => ?_⟩
    have sp' := same_new (o := .tup [.ref F, .ref S]) np
    exact q _ p F S qs (s.trans sp') (s.free np) nFH nSH FS upd_same (sp' _ _ hF') (Same.prs sp' hq) (sp' _ _ hS')
end Sw

set_option Elab.async false
set_option linter.all false
set_option maxRecDepth 100000
set_option maxHeartbeats 4000000
namespace Sw
open PySem PySem.Spec PyProof.Rows L2
local macro_rules | `(tactic| walk_at "ev") => `(tactic| simp only [tSeq, tCalW, quiet, tRzA, tRzO, tTryT, tTryK, tJoin, tJs, tBM, tBits, kStrI, kIntS, kLenS, mSplit, mPart, mIndex, tAsg, tRet, tRetN, tOp, tUn, tVar, tC, tNil, tCons, tCB, tDrop, tNext, tCont, tBreak, tIfS, tIf, tTest, tChain, tChain3, tB, tTup, tLst, tAnd, tOr, tNot, tAndV, tOrV, tNotV, tPart, tNoPart, tSl, tCal, tAug, ipI, rI0, rI, rU, rEq, rNe, kMin, kMax, gName, gCons, gNil, L2.start, wipe, List.map_cons, List.map_nil, List.length_cons, List.length_nil, List.cons_append, List.nil_append, List.append_nil, Nat.reduceAdd, Nat.reduceSub, List.replicate_succ, List.replicate_zero, List.getElem?_cons_zero, List.getElem?_cons_succ, List.set_cons_succ, List.set_cons_zero, Option.some.injEq, exists_eq_left', exists_eq_left, V.int.injEq, V.bl.injEq, V.str.injEq, V.ref.injEq, List.cons.injEq, exists_and_left, and_assoc, and_true, true_and, scal_ii, scal_ss, scal_nn, scal_bb, scal_ni, scal_in, decide_eq_true_eq, Bool.not_true, Bool.not_false, Bool.not_eq_true', decide_eq_false_iff_not, ite_not, reduceCtorEq, if_true, if_false, Bool.false_eq_true, ne_eq, not_true_eq_false, not_false_eq_true, Int.reduceLT, Int.reduceLE, Int.reduceNeg])
local macro_rules | `(tactic| walk_at "cm") => `(tactic| first | exact Or.inr ⟨by decide, by decide⟩ | exact Or.inl ⟨by decide, by decide⟩ | exact Or.inl ⟨by omega, by omega⟩ | exact Or.inr ⟨by omega, by omega⟩)
variable {K : PySem.W.Frag}
def cmpU (cs : List Cmp) (i : Nat) : V × V := match cs[i]? with
  | some c => (.int (c.1 : Int), .int (c.2 : Int))
  | none => (.non, .non)
theorem set_still {r : Row} {a b : Nat} : (r.set a (at0 r a)).set b (at0 r b) = r := by rw [set_at0', set_at0']
/-- least ahead, greatest behind: what a comparer does -/
theorem goC_mm (r : Row) (c : Cmp) : (r.set c.1 (if at0 r c.2 < at0 r c.1 then at0 r c.2 else at0 r c.1)).set c.2 (if at0 r c.2 > at0 r c.1 then at0 r c.2 else at0 r c.1) = goC r c := by
  rcases Int.lt_trichotomy (at0 r c.1) (at0 r c.2) with h | h | h
  · have e1 : (if at0 r c.2 < at0 r c.1 then at0 r c.2 else at0 r c.1) = at0 r c.1 := if_neg (by omega)
    have e2 : (if at0 r c.2 > at0 r c.1 then at0 r c.2 else at0 r c.1) = at0 r c.2 := if_pos h
    have e3 : goC r c = r := if_neg (by omega)
    rw [e1, e2, e3, set_still]
  · have e1 : (if at0 r c.2 < at0 r c.1 then at0 r c.2 else at0 r c.1) = at0 r c.1 := if_neg (by omega)
    have e2 : (if at0 r c.2 > at0 r c.1 then at0 r c.2 else at0 r c.1) = at0 r c.2 := by rw [h]; exact if_neg (by omega)
    have e3 : goC r c = r := if_neg (by omega)
    rw [e1, e2, e3, set_still]
  · have e1 : (if at0 r c.2 < at0 r c.1 then at0 r c.2 else at0 r c.1) = at0 r c.2 := if_pos h
    have e2 : (if at0 r c.2 > at0 r c.1 then at0 r c.2 else at0 r c.1) = at0 r c.1 := if_neg (by omega)
    have e3 : goC r c = (r.set c.1 (at0 r c.2)).set c.2 (at0 r c.1) := if_pos h
    rw [e1, e2, e3]
def Wlgone (a b p : Addr) (cs : List Cmp) (r : Row) (H : Hp) (i : Nat) (σ : L2.St) (H' : Hp) : Prop :=
  ∃ y z, σ = [some (.ref a), some (.ref b), some (.ref p), y, z] ∧ Same H H' ∧ H' p = some (.lst (vis (gone (cs.take i) r)))
theorem rd_lgone (vs : List V) (H : Hp) (Q : VK) (E : XK) (h : sp_lgone K vs H Q E) : r_lgone K { nx := fun _ H' => Q .non H', rt := Q } (L2.start N_lgone vs) H := by
  obtain ⟨a, b, n, cs, r, rfl, ⟨ps, ha, hp, ok, n1, n10⟩, hb, hr, q⟩ := h
  unfold r_lgone N_lgone
  walk_at "ev"
  refine ⟨b, _, rfl, .inl hb, fun p np => ?_⟩
  have s0 := same_new (o := .lst (vis r)) np
  refine for_pairs (a := a) (ps := ps) rfl (s0.seq ha) (cmpU cs) (Wlgone a b p cs r H) ⟨none, none, rfl, s0, upd_same⟩ (fun i σ H' _ hW => ?_) (fun i g σ H' hg hW => ?_) (fun i g σ H' hg hW => ?_) (fun σ H' hW => ?_)
  · obtain ⟨_, _, _, s, _⟩ := hW
    exact s.seq ha
  · obtain ⟨_, _, _, s, _⟩ := hW
    obtain ⟨c, hc, ht⟩ := hp.getL hg
    unfold cmpU
    rw [hc]
    exact Same.sqt s ht
  · obtain ⟨y, z, rfl, s, hpp⟩ := hW
    obtain ⟨c, hc, ht⟩ := hp.getL hg
    unfold cmpU
    rw [hc]
    have okc := ok.2 c (List.mem_of_getElem? hc)
    have hlen : (gone (cs.take i) r).length = n := by rw [gone_len, hr]
    obtain ⟨e1, e2⟩ := cmp_at okc hlen
    unfold r_lgone_f1
    walk_at "ev"
    refine ⟨p, _, _, _, rfl, rfl, .inl (.inl hpp), atI_nat e1, p, _, _, _, rfl, rfl, .inl (.inl hpp), atI_nat e2, ?_⟩
    refine ⟨_, rfl, _, rfl, ?_⟩
    refine ⟨p, _, _, _, rfl, rfl, .inl (.inl hpp), atI_nat e1, p, _, _, _, rfl, rfl, .inl (.inl hpp), atI_nat e2, ?_⟩
    refine ⟨_, rfl, _, rfl, small_line (by decide), fun T nT => ?_⟩
    have hpT : p ≠ T := ne_of_none hpp nT
    refine swap_run (p := p) (r := gone (cs.take i) r) rfl rfl rfl (by rw [upd_ne hpT]; exact hpp) (.inl (.inl upd_same)) (by rw [hlen]; exact okc.1) (by rw [hlen]; exact okc.2.1) ?_
    refine ⟨_, _, rfl, same_mut (s.trans (same_new nT)) np, ?_⟩
    rw [upd_same, gone_take hc, goC_mm]
  · obtain ⟨y, z, rfl, s, hpp⟩ := hW
    rw [show ps.length = cs.length from hp.length, List.take_length] at hpp
    walk_at "ev"
    exact q H' p s np hpp
theorem pow_ge {n : Nat} (h : n ≤ 10) : 2 ^ n ≤ 1024 := Nat.pow_le_pow_right (by decide) h
theorem rd_lbare (vs : List V) (H : Hp) (Q : VK) (E : XK) (h : sp_lbare K vs H Q E) : r_lbare K { nx := fun _ H' => Q .non H', rt := Q } (L2.start N_lbare vs) H := by
  obtain ⟨n, rfl, n1, hn, q⟩ := h
  have hp := pow_ge hn
  unfold r_lbare N_lbare
  walk_at "ev"
  refine lc_rng (n := 2 ^ n) (fun Q q => ⟨_, rfl, 1, (n : Int), rfl, rfl, ⟨by omega, by omega, by decide⟩, ?_⟩) (by omega) (fun v => rfl) (fun D i acc H' => Same H H' ∧ ∃ qs : List Addr, acc = Rfs qs ∧ Own H H' qs ((List.range i).map (bareR n))) (fun D nD => ⟨same_new nD, [], rfl, .nil⟩) ?_ ?_
  · have e : (1 : Int) * 2 ^ (n : Int).toNat = ((2 ^ n : Nat) : Int) := by
      rw [Int.toNat_natCast, Int.one_mul]
      norm_cast
    show Q [V.int (1 * 2 ^ (n : Int).toNat)] H
    rw [e]
    exact q
  · intro D i acc H' nD hi hD g
    obtain ⟨s, qs, rfl, own⟩ := g
    have ql := own.length
    rw [List.length_map, List.length_range] at ql
    refine .yes ?_
    walk_at "ev"
    refine lc_rng (n := n) (fun Q q => ⟨_, rfl, q⟩) (by omega) (fun v => rfl) (fun D2 k acc2 H2 => Same H' H2 ∧ acc2 = vis ((List.range k).map fun k => ((i / 2 ^ k % 2 : Nat) : Int))) (fun D2 nD2 => ⟨same_new nD2, rfl⟩) ?_ ?_
    · intro D2 k acc2 H2 nD2 hk hD2 g2
      obtain ⟨s2, rfl⟩ := g2
      refine .yes ?_
      walk_at "ev"
      refine ⟨by omega, ?_⟩
      have e : Builtin.bitAnd ((i : Int) / 2 ^ (k : Int).toNat) 1 = ((i / 2 ^ k % 2 : Nat) : Int) := by
        rw [bitAnd_m1, Int.toNat_natCast]
        norm_cast
      rw [e]
      refine GoOn.mk hD2 (by rw [ints_len, List.length_map, List.length_range]; omega) ⟨same_mut s2 nD2, ?_⟩
      unfold vis
      rw [List.range_succ, List.map_append, List.map_append] <;> rfl
    · intro D2 acc2 H2 nD2 hD2 g2
      obtain ⟨s2, rfl⟩ := g2
      have hD' := s2 _ _ hD
      have h2D : D2 ≠ D := fun z => by rw [z, hD] at nD2; cases nD2
      refine GoOn.mk hD' (by rw [rfs_len]; omega) ⟨same_mut (s.trans s2) nD, qs ++ [D2], ?_, ?_⟩
      · unfold Rfs
        rw [List.map_append] <;> rfl
      · rw [List.range_succ, List.map_append]
        refine ((own.same s2).upd hD' fun r hr => ?_).snoc ⟨s.free nD2, ?_⟩
        · obtain ⟨m, _, rfl⟩ := List.mem_map.mp hr
          exact ne_of_len (bareR_len n m) n1
        · rw [upd_ne h2D]
          exact hD2
  · intro D acc H' nD hD g
    obtain ⟨s, qs, rfl, own⟩ := g
    exact q H' D qs s nD hD own
theorem ne_ints {H : Hp} {D p : Addr} {Q : VK} (h1 : H D = some (.lst [])) (h2 : H p = some (.lst [])) (q : Q (.bl true) H) : rEqD K (.ref D) (.ref p) H Q :=
  ⟨.list [], .list [], .lst (.inl (.inl h1)) .nil, .lst (.inl (.inl h2)) .nil, by decide +kernel, by decide +kernel, q⟩
theorem rd_lisbare (vs : List V) (H : Hp) (Q : VK) (E : XK) (h : sp_lisbare K vs H Q E) : r_lisbare K { nx := fun _ H' => Q .non H', rt := Q } (L2.start N_lisbare vs) H := by
  obtain ⟨a, n, r, rfl, ha, hr, hn, hb, q⟩ := h
  unfold r_lisbare N_lisbare
  walk_at "ev"
  refine isk_ty (tyx_lst ha) (b := true) (by decide +kernel) ⟨true, rfl, ?_⟩
  walk_at "ev"
  refine ⟨a, _, rfl, .inl ha, ?_⟩
  rw [ints_len, hr]
  walk_at "ev"
  refine lc_each (a := a) (xs := vis r) rfl ha (fun v => rfl) (fun D i acc H' => Same H H' ∧ acc = []) (fun D nD => ⟨same_new nD, rfl⟩) (fun D i acc H' nD g => g.1.seq ha) ?_ ?_
  · intro D i x acc H' nD hx hi hD g
    obtain ⟨s, rfl⟩ := g
    obtain ⟨z, rfl, _⟩ := ints_get hx
    unfold Turn
    walk_at "ev"
    refine isk_ty (.base (.int z)) (b := false) (by decide +kernel) ⟨false, rfl, ?_⟩
    walk_at "ev"
    refine isk_ty (.base (.int z)) (b := true) (by decide +kernel) ⟨true, rfl, ?_⟩
    exact ⟨[], hD, s, rfl⟩
  · intro D acc H' nD hD g
    obtain ⟨s, rfl⟩ := g
    refine ⟨small_line (by decide), fun p np => ?_⟩
    have k1 := same_new (o := .lst []) np
    refine ne_ints (by rw [upd_ne (ne_of_none hD np)]; exact hD) upd_same ?_
    refine ⟨true, rfl, ?_⟩
    walk_at "ev"
    have s1 := s.trans k1
    generalize upd H' p (.lst []) = H1 at s1
    refine lc_each (a := a) (xs := vis r) rfl (s1.seq ha) (fun v => rfl) (fun D i acc H' => Same H H' ∧ acc = []) (fun D nD => ⟨s1.trans (same_new nD), rfl⟩) (fun D i acc H' nD g => g.1.seq ha) ?_ ?_
    · intro D i x acc H' nD hx hi hD g
      obtain ⟨s, rfl⟩ := g
      obtain ⟨z, rfl, hz⟩ := ints_get hx
      have bit := hb z (List.mem_of_getElem? hz)
      unfold Turn
      walk_at "ev"
      refine ⟨small_line (by decide), fun T nT => ?_⟩
      have kT := same_new (o := .tup [.int 0, .int 1]) nT
      refine ⟨T, _, rfl, .inr (.inl (.inl upd_same)), rfl, rfl, false, ?_, ?_⟩
      · rcases bit with rfl | rfl <;> rfl
      · exact ⟨[], kT _ _ hD, s.trans kT, rfl⟩
    · intro D acc H' nD hD g
      obtain ⟨s, rfl⟩ := g
      refine ⟨small_line (by decide), fun p np => ?_⟩
      have k2 := same_new (o := .lst []) np
      refine ne_ints (by rw [upd_ne (ne_of_none hD np)]; exact hD) upd_same ?_
      exact q _ (s.trans k2)
end Sw

set_option Elab.async false
set_option linter.all false
set_option maxRecDepth 100000
set_option maxHeartbeats 4000000
namespace Sw
open PySem PySem.Spec PyProof.Rows L2
local macro_rules | `(tactic| walk_at "ev") => `(tactic| simp only [tSeq, tAsg, tRet, tRetN, tOp, tUn, tVar, tC, tNil, tCons, tCB, tDrop, tNext, tCont, tBreak, tIfS, tIf, tTest, tChain, tB, tTup, tLst, tAnd, tOr, tNot, tAndV, tOrV, tNotV, tPart, tNoPart, tSl, tCal, tAug, ipI, rI0, rI, rU, rEq, rNe, kMin, kMax, gName, gCons, gNil, L2.start, wipe, List.map_cons, List.map_nil, List.length_cons, List.length_nil, List.cons_append, List.nil_append, List.append_nil, Nat.reduceAdd, Nat.reduceSub, List.replicate_succ, List.replicate_zero, List.getElem?_cons_zero, List.getElem?_cons_succ, List.set_cons_succ, List.set_cons_zero, Option.some.injEq, exists_eq_left', exists_eq_left, V.int.injEq, V.bl.injEq, V.str.injEq, V.ref.injEq, List.cons.injEq, exists_and_left, and_assoc, and_true, true_and, scal_ii, scal_ss, scal_nn, scal_bb, scal_ni, scal_in, decide_eq_true_eq, Bool.not_true, Bool.not_false, Bool.not_eq_true', decide_eq_false_iff_not, ite_not, reduceCtorEq, if_true, if_false, Bool.false_eq_true, ne_eq, not_true_eq_false, not_false_eq_true, Int.reduceLT, Int.reduceLE, Int.reduceNeg])
local macro_rules | `(tactic| walk_at "cm") => `(tactic| first | exact Or.inr ⟨by decide, by decide⟩ | exact Or.inl ⟨by decide, by decide⟩ | exact Or.inl ⟨by omega, by omega⟩ | exact Or.inr ⟨by omega, by omega⟩)
variable {K : PySem.W.Frag}

def Wlrows (a c f : Addr) (n : Nat) (cells : List Int) (H : Hp) (i : Nat) (σ : L2.St) (H' : Hp) : Prop :=
  ∃ y4 y5 y6 y7 y8 qs rs, σ = [some (.ref a), some (.int (n : Int)), some (.ref c), some (.ref f), y4, y5, y6, y7, y8] ∧ Same H H' ∧ H' c = some (.lst (cells.map V.int)) ∧ H' f = some (.lst (Rfs qs)) ∧ Own H H' qs rs ∧ (∀ r ∈ rs, r.length = n) ∧ rs.length = i
def Wlrow (a c f p : Addr) (n : Nat) (at' : Nat) (H5 : Hp) (i : Nat) (σ : L2.St) (H' : Hp) : Prop :=
  ∃ y6 y7 y8 r, σ = [some (.ref a), some (.int (n : Int)), some (.ref c), some (.ref f), some (.int (at' : Int)), some (.ref p), y6, y7, y8] ∧ Same H5 H' ∧ H' p = some (.lst (vis r)) ∧ r.length = i
theorem rd_lrows (vs : List V) (H : Hp) (Q : VK) (E : XK) (h : sp_lrows K vs H Q E) : r_lrows K { nx := fun _ H' => Q .non H', rt := Q } (L2.start N_lrows vs) H := by
  obtain ⟨a, ns, n, rfl, ha, hn, n1, n10, q⟩ := h
  unfold r_lrows N_lrows
  walk_at "ev"
  refine ⟨a, _, rfl, ha, fun c nc => ?_⟩
  have e63 : cutV (ns.map V.int) none (some 63) = (ns.take 63).map V.int := cut_ints_to ns 63
  rw [e63]
  have hcl : (ns.take 63).length ≤ 63 := by rw [List.length_take]; omega
  generalize ns.take 63 = cells at hcl
  have s1 := same_new (o := .lst (cells.map V.int)) nc
  generalize hH1 : upd H c (.lst (cells.map V.int)) = H1 at s1
  have hc1 : H1 c = some (.lst (cells.map V.int)) := by rw [← hH1, upd_same]
  clear hH1
  refine ⟨Nat.zero_le _, fun f nf => ?_⟩
  have ncf : c ≠ f := ne_of_none hc1 nf
  have nfH := s1.free nf
  have s2 := s1.trans (same_new (o := .lst []) nf)
  refine for_rng3 (lo := 0) (hi := ((cells.length + n : Nat) : Int)) (c := (n : Int)) (n := upN 0 ((cells.length + n : Nat) : Int) (n : Int)) (fun Q q => ?_) (upN_rgc (by omega) (by omega) (by omega)) (Wlrows a c f n cells H)
    ⟨none, none, none, none, none, [], [], rfl, s2, by rw [upd_ne ncf]; exact hc1, upd_same, .nil, (fun _ h => by cases h), rfl⟩ (fun i σ H' hi hW => ?_) (fun σ H' hW => ?_)
  · walk_at "ev"
    refine ⟨c, _, rfl, .inl (.inl (.inl (by rw [upd_ne ncf]; exact hc1))), ?_⟩
    walk_at "ev"
    rw [List.length_map, ← Int.natCast_add]
    exact q
  · obtain ⟨y4, y5, y6, y7, y8, qs, rs, rfl, s, hc, hf, own, hrs, hl⟩ := hW
    have lt := upN_lt (by omega) hi
    rw [Int.zero_add] at lt
    obtain ⟨at', ea⟩ : ∃ at' : Nat, (0 : Int) + (i : Int) * (n : Int) = (at' : Int) := ⟨i * n, by rw [Int.zero_add, Int.natCast_mul]⟩
    have lat : at' ≤ 73 := by
      rw [Int.zero_add] at ea
      rw [ea] at lt
      omega
    rw [ea]
    unfold r_lrows_f1
    walk_at "ev"
    refine ⟨Nat.zero_le _, fun p np => ?_⟩
    have npH := s.free np
    have hcp : c ≠ p := ne_of_none hc np
    have hfp : f ≠ p := ne_of_none hf np
    refine for_rng (n := n) (fun Q q => ?_) (by omega) (Wlrow a c f p n at' H') ⟨y6, y7, y8, [], rfl, same_new np, upd_same, rfl⟩ (fun k σ H5 hk hW => ?_) (fun σ H5 hW => ?_)
    · walk_at "ev"
      exact q
    · obtain ⟨z6, z7, z8, r, rfl, s5, hp5, hr⟩ := hW
      have hc5 := s5 _ _ hc
      have row : SqL K H5 c (vis cells) := .inl (.inl hc5)
      unfold r_lrows_f2
      walk_at "ev"
      refine ⟨Nat.zero_le _, fun e ne => ?_⟩
      have s6 := same_new (o := .lst []) ne
      have hce := s6 _ _ hc5
      refine ⟨dI cells, dI [], dp_row (s6.seq row), dp_row (r := []) (.inl (.inl upd_same)), enc_row.shaped (by decide) _, enc_row.shaped (by decide) _, ?_⟩
      rw [enc_row.eq]
      have hp6 := s6 _ _ hp5
      generalize hH6 : upd H5 e (.lst []) = H6 at s6 hce hp6
      -- behind the cell: the draw, the item
      have rest : ∀ z : Int, sp_ldraw K [.int z, .int ((at' : Int) + (k : Int)), .int 9] H6 (fun x H7 => tDrop (tBM K "list" rAppend (tVar 5) (tCons (tOp (rIxL K) (tLst (tCons (tOp oMod (tVar 7) (tOp oPow (tC (.int 10)) (tC (.int 60)))) (tCons (tOp oSub (tC (.int 0)) (tOp oMod (tVar 7) (tOp oPow (tC (.int 10)) (tC (.int 60))))) (tCons (tOp oMod (tVar 8) (tC (.int 4))) (tCons (tOp oSub (tOp oMod (tVar 7) (tC (.int 1000))) (tC (.int 500))) (tNil)))))) (tOp oMod (tOp oDiv (tVar 8) (tC (.int 8))) (tC (.int 4)))) (tNil)))
          { nx := Wlrow a c f p n at' H' (k + 1), ct := Wlrow a c f p n at' H' (k + 1), bk := tDrop (tBM K "list" rAppend (tVar 3) (tCons (tVar 5) (tNil))) { nx := Wlrows a c f n cells H (i + 1), ct := Wlrows a c f n cells H (i + 1), bk := tRet (tVar 3) { nx := fun _ H' => Q .non H', rt := Q }, rt := Q }, rt := Q }
          [some (.ref a), some (.int (n : Int)), some (.ref c), some (.ref f), some (.int (at' : Int)), some (.ref p), some (.int (k : Int)), some (.int z), some x] H7) E0 := fun z => by
        refine ⟨z, (at' : Int) + (k : Int), 9, rfl, by omega, by decide, fun m m0 m1 => ?_⟩
        walk_at "ev"
        refine ⟨.ref p, rfl, .inl ⟨rfl, _, .inl (.inl hp6)⟩, ?_⟩
        walk_at "ev"
        refine ⟨⟨by decide, by decide, by decide⟩, by decide, ⟨by decide, by decide, by decide⟩, by decide, small_line (by decide), fun l nl => ?_⟩
        have hpl : p ≠ l := ne_of_none hp6 nl
        obtain ⟨v, ev, hv⟩ := pick4 (a := V.int (z % 10 ^ (60 : Int).toNat)) (b := V.int (0 - z % 10 ^ (60 : Int).toNat)) (c := V.int (m % 4)) (d := V.int (z % 1000 - 500)) (n := m / 8) (by omega)
        obtain ⟨u, rfl⟩ : ∃ u : Int, v = .int u := by
          rcases hv with rfl | rfl | rfl | rfl <;> exact ⟨_, rfl⟩
        refine ⟨⟨by decide, by decide⟩, l, _, _, .int u, rfl, rfl, .inl (.inl upd_same), ev, ?_⟩
        have s7 := same_new (o := .lst [V.int (z % 10 ^ (60 : Int).toNat), V.int (0 - z % 10 ^ (60 : Int).toNat), V.int (m % 4), V.int (z % 1000 - 500)]) nl
        refine ⟨p, _, .int u, rfl, rfl, s7 _ _ hp6, by rw [ints_len]; exact small_lt (by omega), ?_⟩
        refine ⟨_, _, _, r ++ [u], rfl, same_mut ((s5.trans s6).trans s7) np, ?_, by rw [List.length_append, hr] <;> rfl⟩
        rw [upd_same]
        unfold vis
        rw [List.map_append] <;> rfl
      by_cases hz : cells = []
      · rw [decide_eq_true hz]
        walk_at "ev"
        exact rest (k : Int)
      · rw [decide_eq_false hz]
        walk_at "ev"
        have pos : 0 < cells.length := List.length_pos_iff.mpr hz
        refine ⟨c, _, rfl, .inl (.inl (.inl hce)), ?_⟩
        walk_at "ev"
        rw [List.length_map]
        refine ⟨by omega, ?_⟩
        obtain ⟨j, ej, lj⟩ := drawn_at (n := (at' : Int) + (k : Int)) (m := (cells.length : Int)) (by omega)
        rw [ej]
        refine ⟨c, _, _, _, rfl, rfl, .inl (.inl hce), atI_nat (ints_at (r := cells) (by omega)), ?_⟩
        exact rest _
    · obtain ⟨z6, z7, z8, r, rfl, s5, hp5, hr⟩ := hW
      walk_at "ev"
      have hf5 := s5 _ _ hf
      have lq := own.length
      have up := upN_le (lo := 0) (hi := ((cells.length + n : Nat) : Int)) (c := (n : Int)) (by omega)
      refine ⟨.ref f, rfl, .inl ⟨rfl, _, .inl (.inl hf5)⟩, .ref p, rfl, f, Rfs qs, .ref p, rfl, rfl, hf5, by rw [rfs_len]; exact small_lt (by omega), ?_⟩
      refine ⟨_, _, _, _, _, qs ++ [p], rs ++ [r], rfl, same_mut (s.trans s5) nfH, ?_, ?_, ?_, ?_, by rw [List.length_append, hl] <;> rfl⟩
      · rw [upd_ne ncf]
        exact s5 _ _ hc
      · rw [upd_same]
        unfold Rfs
        rw [List.map_append] <;> rfl
      · refine ((own.same s5).upd hf5 fun r' hr' => ne_of_len (hrs r' hr') n1).snoc ⟨npH, ?_⟩
        rw [upd_ne hfp.symm]
        exact hp5
      · intro r' hr'
        rcases List.mem_append.mp hr' with h | h
        · exact hrs r' h
        · rw [List.mem_singleton.mp h]
          exact hr
  · obtain ⟨y4, y5, y6, y7, y8, qs, rs, rfl, s, hc, hf, own, hrs, hl⟩ := hW
    walk_at "ev"
    have up := upN_le (lo := 0) (hi := ((cells.length + n : Nat) : Int)) (c := (n : Int)) (by omega)
    have up1 : 1 ≤ upN 0 ((cells.length + n : Nat) : Int) (n : Int) := by
      unfold upN
      rw [if_pos (by omega)]
      omega
    exact q H' f qs rs s nfH hf own hrs (by omega) (by omega)
end Sw

set_option Elab.async false
set_option linter.all false
set_option maxRecDepth 100000
set_option maxHeartbeats 4000000
namespace Sw
open PySem PySem.Spec PyProof.Rows L2
/-! ## The head -/
def fnL : List He.DefD := [defD "is_whole" s_iswhole, defD "is_comparer" s_iscomparer, defD "_is_line" s_isline, defD "need_lines" s_needlines, defD "need_web" s_needweb, defD "need_row" s_needrow, defD "layers" s_layers, defD "_depths" s_depths, defD "all_columns" s_allcolumns, defD "greater" s_greater, defD "behind" s_behind, defD "columns_out" s_columnsout, defD "first_row" s_firstrow, defD "row_of" s_rowof, metD "Bench" "__init__" "Bench.__init__" s_binit, metD "Bench" "put" "Bench.put" s_bput, metD "Bench" "comparers" "Bench.comparers" s_bcomps, metD "Bench" "wild" "Bench.wild" s_bwild, ⟨("behind_bench", none), "_behind", "_behind", defArgs s_bbehind, defBody s_bbehind, defScope s_bbehind, [], []⟩, defD "unsorted" s_unsorted, defD "needless" s_needless, defD "pruned" s_pruned, defD "sorting" s_sorting, defD "_merging" s_pmerging, defD "_sorting" s_psorting, defD "run" s_run, defD "steps" s_steps, ⟨("behind_running", none), "_behind", "_behind", defArgs s_rbehind, defBody s_rbehind, defScope s_rbehind, [], []⟩, defD "web_text" s_webtext, defD "web_of" s_webof, defD "_pair" s_pair, defD "_number" s_number, defD "renamed" s_renamed, defD "upside" s_upside, defD "straightened" s_straightened, defD "_need_order" s_needorder, defD "_law_draw" s_ldraw, defD "_law_bricks" s_lbricks, defD "_law_comparer" s_lcomparer, defD "_law_web" s_lweb, defD "_law_gone" s_lgone, defD "_law_bare" s_lbare, defD "_law_is_bare" s_lisbare, defD "_law_rows" s_lrows, defD "_law_benched" s_lbenched, defD "_law_wild_good" s_lwildgood, defD "law" s_law, metD "BadWeb" "__init__" "BadWeb.__init__" s_initBadWeb]
def faL : List He.Fa := [.glo "is_whole", .glo "is_comparer", .glo "_is_line", .glo "need_lines", .glo "need_web", .glo "need_row", .glo "layers", .glo "_depths", .glo "all_columns", .glo "greater", .glo "behind", .glo "columns_out", .glo "first_row", .glo "row_of", .glo "behind_bench", .glo "unsorted", .glo "needless", .glo "pruned", .glo "sorting", .glo "_merging", .glo "_sorting", .glo "run", .glo "steps", .glo "behind_running", .glo "web_text", .glo "web_of", .glo "_pair", .glo "_number", .glo "renamed", .glo "upside", .glo "straightened", .glo "_need_order", .glo "_law_draw", .glo "_law_bricks", .glo "_law_comparer", .glo "_law_web", .glo "_law_gone", .glo "_law_bare", .glo "_law_is_bare", .glo "_law_rows", .glo "_law_benched", .glo "_law_wild_good", .glo "law", .glo "BadLines", .glo "BadText", .glo "BadWeb", .glo "Bench", .free "all", .free "bool", .free "enumerate", .free "int", .free "isinstance", .free "len", .free "list", .free "max", .free "min", .free "range", .free "sorted", .free "str", .free "sum", .free "tuple", .free "type", .free "zip", .int "MOST_COMPARERS" 60, .int "MOST_LINES" 10, .exc "BadLines", .exc "BadText", .exm "BadLines" "BadLines" true, .exm "BadLines" "BadWeb" false, .exm "BadWeb" "BadLines" false, .exm "BadWeb" "BadWeb" true, .cls "Bench", .noat "Bench" "_lines", .noat "Bench" "_comparers", .noat "Bench" "_rows", .mkr "Bench", .meth "Bench" "put", .meth "Bench" "comparers", .meth "Bench" "wild"]
def looseL : List Str := (["_wall", "WebError", "BadLines", "BadRow", "BadOrder", "BadText", "BadWeb", "MOST_LINES", "MOST_COMPARERS", "is_whole", "is_comparer", "_is_line", "need_lines", "need_web", "need_row", "layers", "_depths", "all_columns", "greater", "behind", "columns_out", "first_row", "row_of", "Bench", "_behind", "behind_bench", "unsorted", "needless", "pruned", "sorting"] : List Str) ++ (["_merging", "_sorting", "run", "steps", "behind_running", "web_text", "web_of", "_pair", "_number", "renamed", "upside", "straightened", "_need_order", "_law_draw", "_law_bricks", "_law_comparer", "_law_web", "_law_gone", "_law_bare", "_law_is_bare", "_law_rows", "_law_benched", "_law_wild_good"] : List Str)
def exL (K : PySem.W.Frag) : Bool := winB K "WebError" && owB K "BadWeb" "place"
abbrev rowL : PySem.W.OpenRow := PySem.W.OpenLaw.row PySem.Challenge.rw_sortweb_k13_whole_one_web_in_many_ways
abbrev hkL : PySem.W.Hook := hookZ 5 faL fnL exL
def obL (s : PySem.W.SharedT) : He.AlD × Bool := obsZ 5 faL fnL exL (HandSHeadRun.getT s)
theorem obL_eq (s : PySem.W.SharedT) : obL s = hkL.obs s.abs := obsZ_eq (HandSHeadRun.getT_eq s)
set_option maxHeartbeats 0 in
theorem runL (w : World) : HandSHeadRun.RunEq rowL (PySem.W.view rowL.prog [65]) hkL obL 5000 looseL w := by
  intro os
  kernel_rfl
theorem law_cal (w : World) (mg : Str → Option Value) (h : Heap) (K : PySem.W.Frag) (X : K.In h) (G : h.Ns mainGlobals mg) (c : SaysZ faL fnL exL K) (base : Heap) (KB : K.In base) (GB : base.Ns mainGlobals mg) :
    Cal (PySem.Challenge.rw_sortweb_k13_whole_one_web_in_many_ways).prog w K mg base CX0 13 "law" ["_law_script"] (spLaw K) := by
  have b_all : mg "all" = none := none_of c X G 47 rfl
  have b_bool : mg "bool" = none := none_of c X G 48 rfl
  have b_enumerate : mg "enumerate" = none := none_of c X G 49 rfl
  have b_int : mg "int" = none := none_of c X G 50 rfl
  have b_isinstance : mg "isinstance" = none := none_of c X G 51 rfl
  have b_len : mg "len" = none := none_of c X G 52 rfl
  have b_list : mg "list" = none := none_of c X G 53 rfl
  have b_max : mg "max" = none := none_of c X G 54 rfl
  have b_min : mg "min" = none := none_of c X G 55 rfl
  have b_range : mg "range" = none := none_of c X G 56 rfl
  have b_sorted : mg "sorted" = none := none_of c X G 57 rfl
  have b_str : mg "str" = none := none_of c X G 58 rfl
  have b_sum : mg "sum" = none := none_of c X G 59 rfl
  have b_tuple : mg "tuple" = none := none_of c X G 60 rfl
  have b_type : mg "type" = none := none_of c X G 61 rfl
  have b_zip : mg "zip" = none := none_of c X G 62 rfl
  have c_MOST_COMPARERS : ∃ t, mg "MOST_COMPARERS" = some (.int 60 t) := int_of c X G 63 rfl
  have c_MOST_LINES : ∃ t, mg "MOST_LINES" = some (.int 10 t) := int_of c X G 64 rfl
  have G_BadLines : mg "BadLines" = some (.ref (He.ga K "BadLines")) := cls_of c X G 43 rfl
  have G_BadWeb : mg "BadWeb" = some (.ref (He.ga K "BadWeb")) := cls_of c X G 45 rfl
  have X_BadLines : ExK K mg "BadLines" := exk_of c X G 43 65 rfl rfl
  have X_BadText : ExK K mg "BadText" := exk_of c X G 44 66 rfl rfl
  obtain ⟨e1, e2⟩ := He.ba c.x
  have W_WebError : InK K mg "WebError" := winB_ok X G e1
  have O_BadWeb : OwK K mg "BadWeb" "place" := owB_ok X G e2
  have X2 : TwoX K := ⟨exm_of' c 67 rfl, exm_of' c 68 rfl, exm_of' c 69 rfl, exm_of' c 70 rfl⟩
  have TB : BenchT K := ⟨He.cls_ok (c.d.fact 71 rfl), He.noat_ok (c.d.fact 72 rfl), He.noat_ok (c.d.fact 73 rfl), He.noat_ok (c.d.fact 74 rfl)⟩
  have I_BadWeb := ok_initBadWeb (P := (PySem.Challenge.rw_sortweb_k13_whole_one_web_in_many_ways).prog) (w := w) (base := base) (mg := mg) (met_of c 47 rfl) W_WebError O_BadWeb
  have C_iswhole := ok_iswhole (P := (PySem.Challenge.rw_sortweb_k13_whole_one_web_in_many_ways).prog) (w := w) (base := base) (here_of c X G 0 0 rfl rfl) b_int b_type (fun vs H Q E h => by obtain ⟨_, _, rfl, _⟩ := h; rfl) (rd_iswhole)
  have C_depths := ok_depths (P := (PySem.Challenge.rw_sortweb_k13_whole_one_web_in_many_ways).prog) (w := w) (base := base) (here_of c X G 7 7 rfl rfl) b_max (fun vs H Q E h => by obtain ⟨_, _, _, rfl, _⟩ := h; rfl) (rd_depths)
  have C_allcolumns := ok_allcolumns (P := (PySem.Challenge.rw_sortweb_k13_whole_one_web_in_many_ways).prog) (w := w) (base := base) (here_of c X G 8 8 rfl rfl) b_range (fun vs H Q E h => by obtain ⟨_, rfl, _⟩ := h; rfl) (rd_allcolumns)
  have C_greater := ok_greater (P := (PySem.Challenge.rw_sortweb_k13_whole_one_web_in_many_ways).prog) (w := w) (base := base) (here_of c X G 9 9 rfl rfl)  (fun vs H Q E h => by obtain ⟨_, _, _, _, _, rfl, _⟩ := h; rfl) (rd_greater)
  have C_behind := ok_behind (P := (PySem.Challenge.rw_sortweb_k13_whole_one_web_in_many_ways).prog) (w := w) (base := base) (here_of c X G 10 10 rfl rfl) b_list (fun vs H Q E h => by obtain ⟨_, _, _, _, _, rfl, _⟩ := h; rfl) (rd_behind)
  have C_rowof := ok_rowof (P := (PySem.Challenge.rw_sortweb_k13_whole_one_web_in_many_ways).prog) (w := w) (base := base) (here_of c X G 13 13 rfl rfl) b_range (fun vs H Q E h => by obtain ⟨_, _, rfl, _⟩ := h; rfl) (rd_rowof)
  have M_bcomps := ok_bcomps (P := (PySem.Challenge.rw_sortweb_k13_whole_one_web_in_many_ways).prog) (w := w) (mg := mg) (base := base) (met_of c 16 rfl) (He.meth_ok (c.d.fact 77 rfl)) (He.cls_ok (c.d.fact 71 rfl)) b_list (fun vs H Q E h => by obtain ⟨_, _, _, _, _, _, rfl, _⟩ := h; rfl) (rd_bcomps TB)
  have C_bbehind := ok_bbehind (P := (PySem.Challenge.rw_sortweb_k13_whole_one_web_in_many_ways).prog) (w := w) (base := base) (hereA_of c X G 18 14 rfl rfl)  (fun vs H Q E h => by obtain ⟨_, _, _, rfl, _⟩ := h; rfl) (rd_bbehind)
  have C_rbehind := ok_rbehind (P := (PySem.Challenge.rw_sortweb_k13_whole_one_web_in_many_ways).prog) (w := w) (base := base) (hereA_of c X G 27 23 rfl rfl) b_list (fun vs H Q E h => by obtain ⟨_, _, _, _, _, rfl, _⟩ := h; rfl) (rd_rbehind)
  have C_number := ok_number (P := (PySem.Challenge.rw_sortweb_k13_whole_one_web_in_many_ways).prog) (w := w) (base := base) (here_of c X G 31 27 rfl rfl) b_range b_str c_MOST_LINES (fun vs H Q E h => by obtain ⟨_, rfl, _⟩ := h; rfl) (rd_number)
  have C_ldraw := ok_ldraw (P := (PySem.Challenge.rw_sortweb_k13_whole_one_web_in_many_ways).prog) (w := w) (base := base) (here_of c X G 36 32 rfl rfl)  (fun vs H Q E h => by obtain ⟨_, _, _, rfl, _⟩ := h; rfl) (rd_ldraw)
  have C_lbricks := ok_lbricks (P := (PySem.Challenge.rw_sortweb_k13_whole_one_web_in_many_ways).prog) (w := w) (base := base) (here_of c X G 37 33 rfl rfl) b_range (fun vs H Q E h => by obtain ⟨_, rfl, _⟩ := h; rfl) (rd_lbricks)
  have C_lcomparer := ok_lcomparer (P := (PySem.Challenge.rw_sortweb_k13_whole_one_web_in_many_ways).prog) (w := w) (base := base) (here_of c X G 38 34 rfl rfl) b_max b_min (fun vs H Q E h => by obtain ⟨_, _, rfl, _⟩ := h; rfl) (rd_lcomparer)
  have C_lgone := ok_lgone (P := (PySem.Challenge.rw_sortweb_k13_whole_one_web_in_many_ways).prog) (w := w) (base := base) (here_of c X G 40 36 rfl rfl) b_list b_max b_min (fun vs H Q E h => by obtain ⟨_, _, _, _, _, rfl, _⟩ := h; rfl) (rd_lgone)
  have C_lbare := ok_lbare (P := (PySem.Challenge.rw_sortweb_k13_whole_one_web_in_many_ways).prog) (w := w) (base := base) (here_of c X G 41 37 rfl rfl) b_range (fun vs H Q E h => by obtain ⟨_, rfl, _⟩ := h; rfl) (rd_lbare)
  have C_lisbare := ok_lisbare (P := (PySem.Challenge.rw_sortweb_k13_whole_one_web_in_many_ways).prog) (w := w) (base := base) (here_of c X G 42 38 rfl rfl) b_bool b_int b_isinstance b_len b_list (fun vs H Q E h => by obtain ⟨_, _, _, rfl, _⟩ := h; rfl) (rd_lisbare)
  have C_isline := ok_isline (P := (PySem.Challenge.rw_sortweb_k13_whole_one_web_in_many_ways).prog) (w := w) (base := base) (here_of c X G 2 2 rfl rfl) C_iswhole (fun vs H Q E h => by obtain ⟨_, _, _, rfl, _⟩ := h; rfl) (rd_isline)
  have C_needlinesV := ok_needlines (P := (PySem.Challenge.rw_sortweb_k13_whole_one_web_in_many_ways).prog) (w := w) (base := base) (here_of c X G 3 3 rfl rfl) C_iswhole c_MOST_LINES X_BadLines (fun vs H Q E h => by obtain ⟨_, _, rfl, _⟩ := h; rfl) (rd_needlines)
  have C_needlines := dual_needlines C_needlinesV
  have C_needrow := ok_needrow (P := (PySem.Challenge.rw_sortweb_k13_whole_one_web_in_many_ways).prog) (w := w) (base := base) (here_of c X G 5 5 rfl rfl) C_iswhole b_all b_len b_list b_type (fun vs H Q E h => by obtain ⟨_, _, _, rfl, _⟩ := h; rfl) (rd_needrow)
  have C_columnsout := ok_columnsout (P := (PySem.Challenge.rw_sortweb_k13_whole_one_web_in_many_ways).prog) (w := w) (base := base) (here_of c X G 11 11 rfl rfl) C_allcolumns C_behind (fun vs H Q E h => by obtain ⟨_, _, _, rfl, _⟩ := h; rfl) (rd_columnsout)
  have C_firstrow := ok_firstrow (P := (PySem.Challenge.rw_sortweb_k13_whole_one_web_in_many_ways).prog) (w := w) (base := base) (here_of c X G 12 12 rfl rfl) C_rowof (fun vs H Q E h => by obtain ⟨_, _, rfl, _⟩ := h; rfl) (rd_firstrow)
  have M_bwild := ok_bwild (P := (PySem.Challenge.rw_sortweb_k13_whole_one_web_in_many_ways).prog) (w := w) (mg := mg) (base := base) (met_of c 17 rfl) (He.meth_ok (c.d.fact 78 rfl)) (He.cls_ok (c.d.fact 71 rfl)) C_rowof b_sorted (fun vs H Q E h => by obtain ⟨_, _, _, _, _, _, rfl, _⟩ := h; rfl) (rd_bwild TB)
  have C_pair := ok_pair (P := (PySem.Challenge.rw_sortweb_k13_whole_one_web_in_many_ways).prog) (w := w) (base := base) (here_of c X G 30 26 rfl rfl) C_number (fun vs H Q E h => by obtain ⟨_, rfl, _⟩ := h; rfl) (rd_pair)
  have C_needorder := ok_needorder (P := (PySem.Challenge.rw_sortweb_k13_whole_one_web_in_many_ways).prog) (w := w) (base := base) (here_of c X G 35 31 rfl rfl) C_iswhole b_all b_list b_range b_sorted b_type (fun vs H Q E h => by obtain ⟨_, _, _, rfl, _⟩ := h; rfl) (rd_needorder)
  have C_lweb := ok_lweb (P := (PySem.Challenge.rw_sortweb_k13_whole_one_web_in_many_ways).prog) (w := w) (base := base) (here_of c X G 39 35 rfl rfl) C_ldraw C_lbricks C_lcomparer b_enumerate b_len b_sum (fun vs H Q E h => by obtain ⟨_, _, rfl, _⟩ := h; rfl) (rd_lweb)
  have C_lrows := ok_lrows (P := (PySem.Challenge.rw_sortweb_k13_whole_one_web_in_many_ways).prog) (w := w) (base := base) (here_of c X G 43 39 rfl rfl) C_ldraw b_len b_range (fun vs H Q E h => by obtain ⟨_, _, _, rfl, _⟩ := h; rfl) (rd_lrows)
  have C_iscomparerV := ok_iscomparer (P := (PySem.Challenge.rw_sortweb_k13_whole_one_web_in_many_ways).prog) (w := w) (base := base) (here_of c X G 1 1 rfl rfl) C_isline b_len b_tuple b_type (fun vs H Q E h => by obtain ⟨_, _, _, rfl, _⟩ := h; rfl) (rd_iscomparer)
  have C_iscomparer := dual_iscomparer C_iscomparerV
  have M_binit := ok_binit (P := (PySem.Challenge.rw_sortweb_k13_whole_one_web_in_many_ways).prog) (w := w) (mg := mg) (base := base) (met_of c 14 rfl) (He.mkr_ok (c.d.fact 75 rfl)) (cls_of c X G 46 rfl) C_needlines b_list b_range (fun vs H Q E h => by obtain ⟨_, _, _, rfl, _⟩ := h; rfl) (rd_binit TB)
  have C_needwebV := ok_needweb (P := (PySem.Challenge.rw_sortweb_k13_whole_one_web_in_many_ways).prog) (w := w) (base := base) (here_of c X G 4 4 rfl rfl) C_iscomparerV C_needlinesV b_enumerate b_len b_list b_type c_MOST_COMPARERS O_BadWeb I_BadWeb (fun vs H Q E h => by obtain ⟨_, _, _, rfl, _⟩ := h; rfl) (rd_needweb)
  have C_needweb := dual_needweb C_needwebV
  have M_bput := ok_bput (P := (PySem.Challenge.rw_sortweb_k13_whole_one_web_in_many_ways).prog) (w := w) (mg := mg) (base := base) (met_of c 15 rfl) (He.meth_ok (c.d.fact 76 rfl)) (He.cls_ok (c.d.fact 71 rfl)) C_bbehind C_iscomparer b_len b_sorted c_MOST_COMPARERS (fun vs H Q E h => by obtain ⟨_, _, _, _, _, _, _, _, rfl, _⟩ := h; rfl) (rd_bput w TB)
  have C_layers := ok_layers (P := (PySem.Challenge.rw_sortweb_k13_whole_one_web_in_many_ways).prog) (w := w) (base := base) (here_of c X G 6 6 rfl rfl) C_depths C_needweb b_len b_zip (fun vs H Q E h => by obtain ⟨_, _, _, rfl, _⟩ := h; rfl) (rd_layers)
  have C_unsorted := ok_unsorted (P := (PySem.Challenge.rw_sortweb_k13_whole_one_web_in_many_ways).prog) (w := w) (base := base) (here_of c X G 19 15 rfl rfl) C_greater C_columnsout C_firstrow C_needweb b_range (fun vs H Q E h => by obtain ⟨_, _, _, rfl, _⟩ := h; rfl) (rd_unsorted)
  have C_needless := ok_needless (P := (PySem.Challenge.rw_sortweb_k13_whole_one_web_in_many_ways).prog) (w := w) (base := base) (here_of c X G 20 16 rfl rfl) C_allcolumns C_greater C_behind C_needweb b_enumerate (fun vs H Q E h => by obtain ⟨_, _, _, rfl, _⟩ := h; rfl) (rd_needless)
  have C_steps := ok_steps (P := (PySem.Challenge.rw_sortweb_k13_whole_one_web_in_many_ways).prog) (w := w) (base := base) (here_of c X G 26 22 rfl rfl) C_needrow C_rbehind C_needweb b_list (fun vs H Q E h => by obtain ⟨_, _, _, _, _, rfl, _⟩ := h; rfl) (rd_steps)
  have C_webtext := ok_webtext (P := (PySem.Challenge.rw_sortweb_k13_whole_one_web_in_many_ways).prog) (w := w) (base := base) (here_of c X G 28 24 rfl rfl) C_needwebV (fun vs H Q E h => by obtain ⟨_, _, _, rfl, _⟩ := h; rfl) (rd_webtext)
  have C_webof := ok_webof (P := (PySem.Challenge.rw_sortweb_k13_whole_one_web_in_many_ways).prog) (w := w) (base := base) (here_of c X G 29 25 rfl rfl) C_pair C_number C_needwebV b_str b_type G_BadLines G_BadWeb X_BadText (fun vs H Q E h => by obtain ⟨_, _, rfl, _⟩ := h; rfl) (rd_webof X2)
  have C_renamed := ok_renamed (P := (PySem.Challenge.rw_sortweb_k13_whole_one_web_in_many_ways).prog) (w := w) (base := base) (here_of c X G 32 28 rfl rfl) C_needorder C_needweb (fun vs H Q E h => by obtain ⟨_, _, _, _, _, rfl, _⟩ := h; rfl) (rd_renamed)
  have C_upside := ok_upside (P := (PySem.Challenge.rw_sortweb_k13_whole_one_web_in_many_ways).prog) (w := w) (base := base) (here_of c X G 33 29 rfl rfl) C_needweb (fun vs H Q E h => by obtain ⟨_, _, _, rfl, _⟩ := h; rfl) (rd_upside)
  have C_straightened := ok_straightened (P := (PySem.Challenge.rw_sortweb_k13_whole_one_web_in_many_ways).prog) (w := w) (base := base) (here_of c X G 34 30 rfl rfl) C_needweb b_list b_max b_min b_range (fun vs H Q E h => by obtain ⟨_, _, _, rfl, _⟩ := h; rfl) (rd_straightened)
  have C_lbenched := ok_lbenched (P := (PySem.Challenge.rw_sortweb_k13_whole_one_web_in_many_ways).prog) (w := w) (base := base) (here_of c X G 44 40 rfl rfl) M_binit M_bput b_enumerate (fun vs H Q E h => by obtain ⟨_, _, _, rfl, _⟩ := h; rfl) (rd_lbenched)
  have C_pruned := ok_pruned (P := (PySem.Challenge.rw_sortweb_k13_whole_one_web_in_many_ways).prog) (w := w) (base := base) (here_of c X G 21 17 rfl rfl) C_needless b_enumerate (fun vs H Q E h => by obtain ⟨_, _, _, rfl, _⟩ := h; rfl) (rd_pruned)
  have C_pmerging := ok_pmerging (P := (PySem.Challenge.rw_sortweb_k13_whole_one_web_in_many_ways).prog) (w := w) (base := base) (here_of c X G 23 19 rfl rfl) b_len b_range (fun f vs H Q E h => by obtain ⟨_, _, _, _, rfl, _⟩ := h; rfl) rd0_pmerging rd_pmerging
  have C_run := ok_run (P := (PySem.Challenge.rw_sortweb_k13_whole_one_web_in_many_ways).prog) (w := w) (base := base) (here_of c X G 25 21 rfl rfl) C_steps (fun vs H Q E h => by obtain ⟨_, _, _, _, _, rfl, _⟩ := h; rfl) (rd_run)
  have C_lwildgood := ok_lwildgood (P := (PySem.Challenge.rw_sortweb_k13_whole_one_web_in_many_ways).prog) (w := w) (base := base) (here_of c X G 45 41 rfl rfl) C_unsorted C_lgone C_lbare M_bwild b_sorted (fun vs H Q E h => by obtain ⟨_, _, _, _, _, _, _, rfl, _⟩ := h; rfl) (rd_lwildgood)
  have C_psorting := ok_psorting (P := (PySem.Challenge.rw_sortweb_k13_whole_one_web_in_many_ways).prog) (w := w) (base := base) (here_of c X G 24 20 rfl rfl) C_pmerging b_len (fun f vs H Q E h => by obtain ⟨_, _, rfl, _⟩ := h; rfl) rd0_psorting rd_psorting
  have C_sorting := ok_sorting (P := (PySem.Challenge.rw_sortweb_k13_whole_one_web_in_many_ways).prog) (w := w) (base := base) (here_of c X G 22 18 rfl rfl) C_psorting C_needlines b_list b_range (fun vs H Q E h => by obtain ⟨_, rfl, _⟩ := h; rfl) (rd_sorting)
  have C_law := ok_law (P := (PySem.Challenge.rw_sortweb_k13_whole_one_web_in_many_ways).prog) (w := w) (base := base) (here_of c X G 46 42 rfl rfl) C_layers C_needless C_pruned C_sorting C_run C_webtext C_webof C_renamed C_upside C_straightened C_ldraw C_lweb C_lrows C_lbenched C_lwildgood M_bcomps b_len b_list b_range b_sorted b_sum (fun vs H Q E h => by obtain ⟨_, _, rfl, _⟩ := h; rfl) (rd_law)
  exact C_law
end Sw
open PySem PySem.W PySem.Calls PyProof.Rows
set_option maxHeartbeats 0 in
theorem PySem.Challenge.cw_sortweb_k13_whole_one_web_in_many_ways_holds : PySem.Challenge.rw_sortweb_k13_whole_one_web_in_many_ways.Holds := by
  w_on; o_law
  refine HandSHeadRun.head_any (r := OpenLaw.row PySem.Challenge.rw_sortweb_k13_whole_one_web_in_many_ways) (q := view (OpenLaw.row PySem.Challenge.rw_sortweb_k13_whole_one_web_in_many_ways).prog [65]) (H := Sw.hkL) (ob := Sw.obL) (M := 5000) (loose := Sw.looseL) (d := HandSHeadRun.topDef (OpenLaw.row PySem.Challenge.rw_sortweb_k13_whole_one_web_in_many_ways).prog 65) (kwd := []) Sw.obL_eq
    (by kernel_rfl) (fun s => by kernel_rfl) Sw.runL (by kernel_rfl) (by kernel_rfl) (by kernel_rfl) (by rfl) (by first | assumption | decide +kernel) (by decide +kernel) ⟨rfl, rfl, rfl, rfl, rfl, by decide +kernel⟩ ?hw ?hc
  case hw => w_witness2
  case hc => exact Sw.law_end (l := PySem.Challenge.rw_sortweb_k13_whole_one_web_in_many_ways) (k := 13) (fa := Sw.faL) (fn := Sw.fnL) (ex := Sw.exL) (x := "_law_script") rfl (by kernel_rfl) ⟨rfl, by decide, by decide⟩ (by kernel_rfl) Sw.law_cal

