import PyProof.Rows.All
import Wide.All
import OpenK.AllK
import Wide.FinOn
import PyProof.EqAt
import PyProof.EqKinds
import PyProof.TupleCall
import Lean
import HandS.ForMost
import HandS.ForExc
import HandS.Defaults
import HandS.Steps
import HandS.Evl
import HandS.More
import HandS.TupAny
import HandS.Style
import HandS.Conv
import HandS.SortInts
import HandS.IsInst
import HandS.FStr
import HandS.Deep
import HandS.ExcInit
import HandS.TryMany
import HandS.RaiseFrom
import HandS.SuiteRaise
import HandS.Zip
import HandS.HeadHook4
import HandS.HeadEnd
import HandS.HeadWalk
import HandS.Head0
import HandS.Head1
import HandS.Head2
import HandS.NoneIn
import HandS.StrMore
import HandS.WideBits
import HandS.Small
import KE.KExcIs
import HandS.ExcIs
import HandS.ExcField
import HandS.ExcValue
import HandS.ExcInitHot
import HandS.RaiseMore
import HandS.Replace
import KE.IntTextLaws
import PySem.Challenge.RW_sortweb_k02_texts_of_webs
set_option Elab.async false
set_option linter.all false
set_option maxRecDepth 100000
set_option maxHeartbeats 4000000
namespace Sw
open PySem PySem.Spec PyProof.Rows L2

/-! ## A def by its promise -/
/-- the name x of the module is a def that keeps sp -/
structure Cal (P : Program) (w : World) (K : PySem.W.Frag) (mg : Str → Option Value) (base : Heap) (CX : CXT) (k : Nat) (x : Str) (ps : List Str) (sp : Sp) : Prop where
  ex : ∃ (f : Addr) (fd : FuncData), FnOk P w K mg base CX k f fd ps sp ∧ mg x = some (.ref f) ∧ PySem.W.keepIn K (.ref f) = true ∧ Binds K fd ps [] ∧
    (∀ (s : Shared) (us : List Value), us.length = ps.length → BindsTo s fd ⟨us, []⟩ (ps.zip us)) ∧ ∃ (oc : Value) (od : Option Addr) (osl : Array (Option Value)), K.lookup f = some ⟨oc, od, .func fd, osl⟩
/-- the name x of the module is the def st of the text -/
structure Here (K : PySem.W.Frag) (mg : Str → Option Value) (x : Str) (st : Stmt) : Prop where
  ex : ∃ (f : Addr) (fd : FuncData), FunD K x x (defArgs st) (defBody st) (defScope st) [] [] f fd ∧ mg x = some (.ref f)
abbrev BX (CX : CXT) (P : Program) (w : World) (K : PySem.W.Frag) (mg : Str → Option Value) (base : Heap) (N : List Str) (x : Str) (st : Stmt) (f : Addr) (cdv : Value) (A : Around) (outer : List Env) (s : Shared) (H : Hp) (E : XK) : Cx :=
  cxOf CX P w K mg base N x (defScope st) f cdv A outer s H E
abbrev RmIn (k : Nat) (A : Around) (x : Str) (st : Stmt) (s : Shared) (f : Addr) (cdv : Value) : Prop := Room k (A.deeper (envOfC x (defScope st) s.heap.objs.size f cdv))
section
variable {P : Program} {w : World} {K : PySem.W.Frag} {mg : Str → Option Value} {base : Heap} {x : Str} {st : Stmt} {N ps : List Str} {k : Nat} {sp : Sp}
theorem Here.cal {r : TS} (F : Here K mg x st) (S : FnScope N ps (defScope st)) (len : ∀ vs H Q E, sp vs H Q E → vs.length = ps.length)
    (bd : ∀ (kV doc pm : Value) (an : Option Addr) (cdv ct : Value) (us : List Value), us.length = ps.length →
      bindArgs (PySem.W.fnOf x x (defArgs st) (defBody st) (defScope st) .none kV doc pm an cdv ct) ⟨us, []⟩ = pure (ps.zip us))
    (dv : ∀ (f : Addr) (cdv : Value) (A : Around) (outer : List Env) (s : Shared) (H : Hp) (E : XK), RmIn k A x st s f cdv → PSs (BX CX0 P w K mg base N x st f cdv A outer s H E).nox (defBody st) r)
    (rd : ∀ (vs : List V) (H : Hp) (Q : VK) (E : XK), sp vs H Q E → r { nx := fun _ H' => Q .non H', rt := Q } (start N vs) H) :
    Cal P w K mg base CX0 (k + 1) x ps sp := by
  obtain ⟨f, fd, D, g⟩ := F.ex
  refine ⟨f, fd, ?_, g, D.kp, D.bindsN bd, fun s us hl => D.bindsA bd s us hl, ?_⟩
  · exact D.ok S len fun cdv A outer s H vs Q E hr h => ⟨r, (dv f cdv A outer s H E hr).nox, rd vs H Q E h⟩
  · obtain ⟨oc, od, _, _, _, _, _, _, _, osl, _, lk, _⟩ := D.ex
    exact ⟨oc, od, osl, lk⟩
theorem Cal.mono {CX : CXT} {j : Nat} (c : Cal P w K mg base CX j x ps sp) (h : j ≤ k) : Cal P w K mg base CX k x ps sp := by
  obtain ⟨f, fd, F, g, kp, b, ba⟩ := c.ex
  exact ⟨f, fd, F.mono h, g, kp, b, ba⟩
end
/-- f(e, ..), nothing raised -/
def tCal (sp : Sp) (t : TA) : TE := fun σ H Q => t σ H fun vs H1 => sp vs H1 Q E0
section
variable {X : Cx} {k : Nat} {x : Str} {ps : List Str} {sp : Sp} {t : TA} {e : Expr} {es : List Expr} {p pos : Pos}
theorem pe_cal (c : Cal X.prog X.w X.K X.mg X.base CX0 k x ps sp) (hr : Room k X.A) (hg : Gl X x) (ha : PA X (e :: es) t)
    (hdb : (x == ("__debug__" : Str)) = false := by decide) (he : starEach (e :: es) X.env = (false, eval e X.env) :: starEach es X.env := by rfl)
    (hpl : (backTo pos (starEach es X.env)).any (·.1) = false := by rfl) : PE X (.Call (.Name x p) (e :: es) [] pos) (tCal sp t) := by
  obtain ⟨f, fd, F, gm, kp, b, _⟩ := c.ex
  refine ⟨fun pins s σ H Q I h => ?_⟩
  refine (pe_call (E := E0) (dvs := []) F hr hg gm kp b .nil pass0 ha hdb he hpl).run pins s σ H Q I ?_
  have eq : (fun (vs : List V) (H1 : Hp) => sp vs H1 Q E0) = fun vs H1 => sp (vs ++ []) H1 Q E0 := by
    funext vs H1
    rw [List.append_nil]
  show t σ H fun vs H1 => sp (vs ++ []) H1 Q E0
  rw [← eq]
  exact h
end

/-! ## The head: what the top has left, by names -/
def defD (x : Str) (st : Stmt) : He.DefD := ⟨(x, none), x, x, defArgs st, defBody st, defScope st, [], []⟩
def asZ (g : Addr → Option Obj) : Nat → List Addr
  | 0 => [mainGlobals, cStatics]
  | n + 1 => He.growD g (asZ g n)
def fragZ (g : Addr → Option Obj) (n : Nat) : PySem.W.Frag := He.frG g (asZ g n)
def obsZ (n : Nat) (fa : List He.Fa) (fn : List He.DefD) (ex : PySem.W.Frag → Bool) (g : Addr → Option Obj) : He.AlD × Bool := (fun K : PySem.W.Frag => (He.obsD fa fn K, ex K)) (fragZ g n)
/-- what the head tells of the written part K -/
structure SaysZ (fa : List He.Fa) (fn : List He.DefD) (ex : PySem.W.Frag → Bool) (K : PySem.W.Frag) : Prop where
  d : He.SaysD fa fn K
  x : ex K = true
def hookZ (n : Nat) (fa : List He.Fa) (fn : List He.DefD) (ex : PySem.W.Frag → Bool) : PySem.W.Hook where
  α := He.AlD × Bool
  obs := fun s => obsZ n fa fn ex s.heap.get?
  val := fun _ => (He.valD fn, true)
  says := fun _ h => ∃ K : PySem.W.Frag, K.In h ∧ SaysZ fa fn ex K
  of := fun _ _ e => ⟨_, He.frG_in, congrArg (fun z : He.AlD × Bool => z.1) e, congrArg (fun z : He.AlD × Bool => z.2) e⟩
  keeps := fun _ _ _ ⟨K, hK, c⟩ k => ⟨K, PySem.W.Frag.In.keeps hK k, c⟩
theorem obsZ_eq {n : Nat} {fa : List He.Fa} {fn : List He.DefD} {ex : PySem.W.Frag → Bool} {g : Addr → Option Obj} {s : Shared} (h : ∀ a, g a = s.heap.get? a) : obsZ n fa fn ex g = (hookZ n fa fn ex).obs s := by
  have e : g = s.heap.get? := funext h
  rw [e] <;> rfl
section
variable {fa : List He.Fa} {fn : List He.DefD} {ex : PySem.W.Frag → Bool} {h : Heap} {K : PySem.W.Frag} {mg : Str → Option Value}
theorem here_of (c : SaysZ fa fn ex K) (X : K.In h) (G : h.Ns mainGlobals mg) {x : Str} {st : Stmt} (i j : Nat) (hi : fn[i]? = some (defD x st)) (hj : fa[j]? = some (.glo x)) : Here K mg x st := by
  obtain ⟨fd, F⟩ := c.d.def_ i hi
  exact ⟨_, fd, F, He.glo_ok X G (c.d.fact j hj)⟩
theorem none_of (c : SaysZ fa fn ex K) (X : K.In h) (G : h.Ns mainGlobals mg) {x : Str} (j : Nat) (hj : fa[j]? = some (.free x)) : mg x = none := He.free_ok X G (c.d.fact j hj)
theorem int_of (c : SaysZ fa fn ex K) (X : K.In h) (G : h.Ns mainGlobals mg) {x : Str} {z : Int} (j : Nat) (hj : fa[j]? = some (.int x z)) : ∃ t, mg x = some (.int z t) := He.int_ok X G (c.d.fact j hj)
end
/-- the law's own promise -/
def spLaw (K : PySem.W.Frag) : Sp := fun vs H Q _ => ∃ (a : Addr) (ns : List Int), vs = [.ref a] ∧ SqL K H a (ns.map V.int) ∧ ns.length ≤ 63 ∧ ∀ H', Q (.bl true) H'
theorem law_end {l : PySem.W.OpenLaw} {k : Nat} {q : Program} {loose : List Str} {XP : (Str → Option Value) → Heap → Prop} {fa : List He.Fa} {fn : List He.DefD} {ex : PySem.W.Frag → Bool} {d : DefRec} {x : Str} {n : Nat}
    (hm : l.most = some 63) (hdf : d.params.defaults = []) (hr : Room k callerA) (hd : d.name = ("law" : Str))
    (F : ∀ (w : World) (mg : Str → Option Value) (h : Heap) (K : PySem.W.Frag), K.In h → h.Ns mainGlobals mg → SaysZ fa fn ex K → ∀ base : Heap, K.In base → base.Ns mainGlobals mg → Cal l.prog w K mg base CX0 k "law" [x] (spLaw K)) :
    PySem.W.WalkO q loose XP (hookZ n fa fn ex).says l.row.toRowW d [] (fun f vs => PySem.call f vs) := by
  refine walk_ofE (CX := CX0) (x := x) hm (by rw [sizeLine_eq]; decide) hdf hr (fun w mg f h Y G hf => ?_) (fun _ _ _ _ z => z)
  obtain ⟨K, KX, c⟩ := Y
  rw [hd] at hf
  obtain ⟨f0, fd0, _, g0, _, _, ba0, oc0, od0, osl0, lk0⟩ := (F w mg h K KX G c h KX G).ex
  have e0 : f0 = f := by
    rw [hf] at g0
    cases g0
    rfl
  subst e0
  refine ⟨K, fd0, spLaw K, KX, fun s u => ba0 s [u] rfl, fun H a ns hl _ hS => ⟨a, ns, rfl, hS, hl, fun _ => rfl⟩, fun base KB GB => ?_⟩
  obtain ⟨f1, fd1, F1, g1, _, _, _, oc1, od1, osl1, lk1⟩ := (F w mg h K KX G c base KB GB).ex
  have e1 : f1 = f0 := by
    rw [hf] at g1
    cases g1
    rfl
  subst e1
  rw [lk0] at lk1
  cases lk1
  exact F1
/-! ## Readings by name -/
abbrev oAdd : R2 := rI0 fun i j => .int (i + j)
abbrev oSub : R2 := rI0 fun i j => .int (i - j)
abbrev oMul : R2 := rI CMul fun i j => .int (i * j)
abbrev oDiv : R2 := rI CDiv fun i j => .int (i / j)
abbrev oMod : R2 := rI (fun _ j => 0 < j) fun i j => .int (i % j)
abbrev oPow : R2 := rI CPow fun i j => .int (i ^ j.toNat)
abbrev oShl : R2 := rI CPow fun i j => .int (i * 2 ^ j.toNat)
abbrev oShr : R2 := rI (fun _ j => 0 ≤ j) fun i j => .int (i / 2 ^ j.toNat)
abbrev oBAnd : R2 := rI0 fun i j => .int (Builtin.bitAnd i j)
abbrev oLt : R2 := rI0 fun i j => .bl (decide (i < j))
abbrev oLe : R2 := rI0 fun i j => .bl (decide (i ≤ j))
abbrev oGt : R2 := rI0 fun i j => .bl (decide (j < i))
abbrev oGe : R2 := rI0 fun i j => .bl (decide (j ≤ i))
abbrev oNeg : V → Hp → VK → Prop := rU fun i => .int (-i)
def kLen (K : PySem.W.Frag) : List V → Hp → VK → Prop := fun xs H Q => ∃ p ys, xs = [.ref p] ∧ (SqL K H p ys ∨ SqT K H p ys) ∧ Q (.int ys.length) H
def kList (K : PySem.W.Frag) : List V → Hp → VK → Prop := fun xs H Q => ∃ p ys, xs = [.ref p] ∧ (SqL K H p ys ∨ SqT K H p ys) ∧ ∀ l, H l = none → Q (.ref l) (upd H l (.lst ys))
def kMin : List V → Hp → VK → Prop := fun xs H Q => ∃ i j, xs = [.int i, .int j] ∧ Q (.int (if j < i then j else i)) H
def kMax : List V → Hp → VK → Prop := fun xs H Q => ∃ i j, xs = [.int i, .int j] ∧ Q (.int (if j > i then j else i)) H
def rInsert : V → List V → Hp → VK → Prop := fun x vs H Q => ∃ (l : Addr) (xs : List V) (i : Int) (y : V), x = .ref l ∧ vs = [.int i, y] ∧ H l = some (.lst xs) ∧ xs.length < sizeLine ∧ 0 ≤ i ∧ i < 2 ^ 63 ∧ Q .non (upd H l (.lst (xs.take i.toNat ++ [y] ++ xs.drop i.toNat)))
abbrev oAddS : R2 := fun x y H Q => ∃ i j, x = .str i ∧ y = .str j ∧ i.length + j.length ≤ sizeLine ∧ Q (.str (i ++ j)) H
abbrev rIsTyB : R2 := fun x y H Q => ∃ a b, x = .ty a ∧ y = .ty b ∧ Q (.bl (decide (a = b))) H
theorem hu64 {k : Nat} {A : Around} (hr : Room k A) : A.units + 64 < cLine := hr.units
section
variable {X : Cx}
theorem cl_len : CallR X (.builtin "len") (kLen X.K) := call_len_seq
theorem cl_list : CallR X (.type "list") (kList X.K) := call_list_of
theorem cl_min (hc : X.calm = true) : CallR X (.builtin "min") kMin := call_min2 hc
theorem cl_max (hc : X.calm = true) : CallR X (.builtin "max") kMax := call_max2 hc
theorem md_insert : MtR X "list.insert" rInsert := mt_insert
theorem md_append : MtR X "list.append" rAppend := mt_append
theorem md_popAt : MtR X "list.pop" rPopAt := mt_popAt
/-- a module's int -/
theorem pe_gi {x : Str} {i : Int} {pos : Pos} (h : ∃ t, X.mg x = some (.int i t)) (hg : Gl X x) (hd : (x == ("__debug__" : Str)) = false := by decide) : PE X (.Name x pos) (tC (.int i)) := by
  obtain ⟨t, h⟩ := h
  exact pe_glob hg h ⟨t, rfl⟩ hd
/-- what is never reached -/
def tOff : TS := fun _ _ _ => False
theorem ps_off {st : Stmt} : PS X st tOff := ⟨fun _ _ _ _ _ _ h => h.elim⟩
end
end Sw

set_option Elab.async false
set_option linter.all false
set_option maxRecDepth 100000
set_option maxHeartbeats 4000000
namespace Sw
open PySem PySem.Spec PyProof.Rows L2
/-! ## (a, b)[::-1] -/
section
variable {prog : Program} {w : World} {A : Around} {E : Value → Shared → Prop} {s : Shared}
theorem applied_back2 {sl : Addr} {tk : Tok} {Q : Int × Int × Nat → Shared → Prop} (hs : s.heap.IsSliceOf sl .none .none (.int (-1) tk)) (h : Q (1, -1, 2) s) :
    wpAny (model prog w) A (Builtin.Slice.sliceApplied (.ref sl) (pure (2 : Int))) Q E s := by
  obtain ⟨os, hos, hcs, hds⟩ := id hs
  unfold Builtin.Slice.sliceApplied Builtin.Slice.sliceFields
  refine wpAny_bind (wpAny_bind ?_)
  refine wpAny_field hos hds (x := .none) rfl ?_
  refine wpAny_bind (wpAny_field hos hds (x := .none) rfl ?_)
  refine wpAny_bind (wpAny_field hos hds (x := .int (-1) tk) rfl ?_)
  refine wpAny_pure ?_
  refine wpAny_bind (HT.slicePart_ (.int (-1) tk) ?_)
  show wpAny _ _ (if ((-1 : Int) == 0) = true then _ else _) _ _ s
  rw [if_neg (by decide)]
  refine wpAny_bind (HT.slicePart_ .none ?_)
  refine wpAny_bind (HT.slicePart_ .none ?_)
  refine wpAny_bind (wpAny_pure ?_)
  exact wpAny_pure h
theorem item_back2 {t sl : Addr} {u v : Value} {tk : Tok} {Q : Value → Shared → Prop} (ht : IsTup s.heap t #[u, v]) (hs : s.heap.IsSliceOf sl .none .none (.int (-1) tk))
    (h : Q (.ref s.heap.objs.size) { s with heap := s.heap.push { cls := .type "tuple", data := .seq #[v, u] } }) : wpAny (model prog w) A (getItem (.ref t) (.ref sl)) Q E s := by
  have two : sizeOk (.seq #[v, u]) := by
    show 2 ≤ sizeLine
    rw [sizeLine_eq]
    decide
  obtain ⟨os, hos, hcs, hds⟩ := id hs
  have kind : s.TypeIs (.ref sl) "slice" := ⟨os, hos, hcs⟩
  unfold getItem
  try with_reducible refine wpAny_holding ?_
  first
    | refine wpAny_bind (wpAny_pure ?_)
    | skip
  refine wpAny_bind (wpAny_sequenceKey ht.typeIs (by decide) ?_)
  refine wpAny_bind (wpAny_callSpecial?_slot (name := Str.ofString "__getitem__") ht.typeIs slot_tuple_getitem ?_)
  refine wpAny_call_entry slot_tuple_getitem ht.typeIs entry_tuple_getitem ?_ (args_tuple_getitem _ _)
  show wpAny _ _ (Builtin.Tuple.tupleItemsOf (.ref t) >>= _) _ _ s
  refine wpAny_bind (tupleItemsOf_ ht ?_)
  refine wpAny_bind (wpAny_typeOf kind ?_)
  rw [if_pos (by decide)]
  refine wpAny_bind (applied_back2 hs ?_)
  show wpAny _ _ (if ((1 : Int) == 0 && (-1 : Int) == 1 && (2 : Nat) == 2) = true then _ else _) _ _ s
  rw [if_neg (by decide)]
  first
    | exact wpAny_bind (m := Builtin.Tuple.tupleExact _) (wpAny_newObj_type (wpAny_pure ⟨_, rfl, wpAny_pure h⟩) two)
    | exact wpAny_bind (m := Builtin.Tuple.tupleExact _) (wpAny_newObj_type (wpAny_bind (wpAny_pure (wpAny_pure ⟨_, rfl, wpAny_pure h⟩))) two)
    | exact wpAny_bind (wpAny_bind (m := Builtin.Tuple.tupleExact _) (wpAny_newObj_type (wpAny_pure (wpAny_pure ⟨_, rfl, wpAny_pure h⟩)) two))
    | exact wpAny_bind (wpAny_bind (m := Builtin.Tuple.tupleExact _) (wpAny_newObj_type (wpAny_pure ⟨_, rfl, wpAny_pure h⟩) two))
end
/-- t[::-1], t a pair -/
def tTurn (K : PySem.W.Frag) (te : TE) : TE := fun σ H Q => te σ H fun x H1 => ∃ (a : Addr) (y z : V), x = .ref a ∧ SqT K H1 a [y, z] ∧ ∀ p, H1 p = none → Q (.ref p) (upd H1 p (.tup [z, y]))
section
variable {X : Cx}
theorem pe_turn {e : Expr} {te : TE} {k : Nat} {p1 p2 p3 pos : Pos} (he : PE X e te) : PE X (.Subscript e (.Slice none none (some (.UnaryOp .USub (.Constant (.int 1) k p1) p2)) p3) pos) (tTurn X.K te) := by
  refine ⟨fun pins s σ H Q I h => ?_⟩
  refine Subscript_ (thn (he.run pins s σ H _ I h) fun v s1 ⟨x, H1, I1, r1, q1⟩ => ?_)
  obtain ⟨a, y, z, rfl, hx, q⟩ := q1
  cases r1
  have back : PO X (some (.UnaryOp .USub (.Constant (.int 1) k p1) p2)) (tPart (tUn oNeg (tC (.int 1)))) := po_some (pe_un un_neg pe_int)
  refine wpAny_Slice ?_
  refine thn (po_none.run pins s1 σ H1 (fun o G => o = none ∧ G = H1) I1 ⟨rfl, rfl⟩) fun vl s2 ⟨l, H2, I2, pl, el, e2⟩ => ?_
  subst el e2
  refine thn (po_none.run pins s2 σ H2 (fun o G => o = none ∧ G = H2) I2 ⟨rfl, rfl⟩) fun vu s3 ⟨u, H3, I3, pu, eu, e3⟩ => ?_
  subst eu e3
  refine thn (back.run pins s3 σ H3 (fun o G => o = some (-1) ∧ G = H3) I3 ⟨1, rfl, -1, rfl, rfl, rfl⟩) fun vs s4 ⟨o, H4, I4, ps, eo, e4⟩ => ?_
  subst eo e4
  cases pl
  cases pu
  cases ps with
  | int i tk =>
    have I5 : Inv X pins σ H4 { s4 with heap := s4.heap.push { cls := .type "slice", data := .fields #[.none, .none, .int (-1) tk] } } :=
      I4.kept (t' := s4.toks) fun b ob q => Heap.get?_push_of_some _ q
    obtain ⟨its, r, ht, hz⟩ := I5.tuple hx
    obtain ⟨y', z', rfl, ry, rz⟩ : ∃ y' z', its = [y', z'] ∧ RelV y y' ∧ RelV z z' := by
      cases r with
      | cons r1 r2 =>
        cases r2 with
        | cons r3 r4 =>
          cases r4
          exact ⟨_, _, rfl, r1, r3⟩
    show wpAny (model X.prog X.w) X.A (subscriptTail e (.Slice none none (some (.UnaryOp .USub (.Constant (.int 1) k p1) p2)) p3) (.ref a) (.ref s4.heap.objs.size)) (EP X pins σ Q) X.xe { s4 with heap := s4.heap.push { cls := .type "slice", data := .fields #[.none, .none, .int (-1) tk] } }
    refine tail_any (ops := [.ref a, .ref s4.heap.objs.size]) ht.typeIs slot_tuple_getitem.lookup ?_ (by with_unfolding_all rfl)
    refine item_back2 ht (Heap.IsSliceOf.new _ .none .none _) ?_
    refine ⟨.ref _, _, I5.laid (t' := s4.toks) (o := .tup [z, y]) (fun b ob q => Heap.get?_push_of_some _ q) (Nat.le_refl _) ?_, rfl, q _ (I5.hok.fresh (Nat.le_refl _))⟩
    refine ⟨by show 2 ≤ sizeLine; rw [sizeLine_eq]; decide, [z', y'], .cons rz (.cons ry .nil), IsTup.new _ _⟩
end
end Sw

set_option Elab.async false
set_option linter.all false
set_option maxRecDepth 100000
set_option maxHeartbeats 4000000
namespace Sw
open PySem PySem.Spec PyProof.Rows L2
/-! ## Two lists, item by item -/
inductive All2 {α β : Type} (R : α → β → Prop) : List α → List β → Prop
  | nil : All2 R [] []
  | cons {a : α} {b : β} {l : List α} {m : List β} : R a b → All2 R l m → All2 R (a :: l) (b :: m)
namespace All2
variable {α β : Type} {R S : α → β → Prop}
theorem length {l : List α} {m : List β} (h : All2 R l m) : l.length = m.length := by
  induction h with
  | nil => rfl
  | cons _ _ ih => rw [List.length_cons, List.length_cons, ih]
theorem imp {l : List α} {m : List β} (h : All2 R l m) (f : ∀ a b, R a b → S a b) : All2 S l m := by
  induction h with
  | nil => exact .nil
  | cons r _ ih => exact .cons (f _ _ r) ih
theorem append {l l' : List α} {m m' : List β} (h : All2 R l m) (h' : All2 R l' m') : All2 R (l ++ l') (m ++ m') := by
  induction h with
  | nil => exact h'
  | cons r _ ih => exact .cons r ih
theorem one {a : α} {b : β} (h : R a b) : All2 R [a] [b] := .cons h .nil
theorem take {l : List α} {m : List β} (h : All2 R l m) : ∀ n, All2 R (l.take n) (m.take n) := by
  induction h with
  | nil => intro n; rw [List.take_nil, List.take_nil]; exact .nil
  | cons r _ ih =>
    intro n
    cases n with
    | zero => exact .nil
    | succ n => exact .cons r (ih n)
theorem drop {l : List α} {m : List β} (h : All2 R l m) : ∀ n, All2 R (l.drop n) (m.drop n) := by
  induction h with
  | nil => intro n; rw [List.drop_nil, List.drop_nil]; exact .nil
  | cons r h ih =>
    intro n
    cases n with
    | zero => exact .cons r h
    | succ n => exact ih n
theorem set {a : α} {b : β} (r : R a b) {l : List α} {m : List β} (h : All2 R l m) : ∀ n, All2 R (l.set n a) (m.set n b) := by
  induction h with
  | nil => intro n; exact .nil
  | cons q h ih =>
    intro n
    cases n with
    | zero => exact .cons r h
    | succ n => exact .cons q (ih n)
theorem erase {l : List α} {m : List β} (h : All2 R l m) : ∀ n, All2 R (l.eraseIdx n) (m.eraseIdx n) := by
  induction h with
  | nil => intro n; exact .nil
  | cons q h ih =>
    intro n
    cases n with
    | zero => exact h
    | succ n => exact .cons q (ih n)
theorem get {l : List α} {m : List β} (h : All2 R l m) : ∀ {i : Nat} {b : β}, m[i]? = some b → ∃ a, l[i]? = some a ∧ R a b := by
  induction h with
  | nil => intro i b e; simp at e
  | cons q h ih =>
    intro i b e
    cases i with
    | zero =>
      rw [List.getElem?_cons_zero] at e
      cases e
      exact ⟨_, rfl, q⟩
    | succ i => exact ih (by simpa using e)
theorem getL {l : List α} {m : List β} (h : All2 R l m) : ∀ {i : Nat} {a : α}, l[i]? = some a → ∃ b, m[i]? = some b ∧ R a b := by
  induction h with
  | nil => intro i b e; simp at e
  | cons q h ih =>
    intro i b e
    cases i with
    | zero =>
      rw [List.getElem?_cons_zero] at e
      cases e
      exact ⟨_, rfl, q⟩
    | succ i => exact ih (by simpa using e)
theorem snoc {l : List α} {m : List β} {a : α} {b : β} (h : All2 R l m) (r : R a b) : All2 R (l ++ [a]) (m ++ [b]) := h.append (.one r)
end All2
/-! ## Webs on the heap -/
abbrev Cmp := Nat × Nat
def V2 (c : Cmp) : List V := [.int (c.1 : Int), .int (c.2 : Int)]
/-- at each address a pair: the comparer -/
abbrev Prs (K : PySem.W.Frag) (H : Hp) (ps : List Addr) (cs : List Cmp) : Prop := All2 (fun p c => SqT K H p (V2 c)) ps cs
def Rfs (ps : List Addr) : List V := ps.map V.ref
def CmpOk (n : Nat) (c : Cmp) : Prop := c.1 < n ∧ c.2 < n ∧ c.1 ≠ c.2
def CmpsOk (n : Nat) (cs : List Cmp) : Prop := ∀ c ∈ cs, CmpOk n c
def WebOk (n : Nat) (cs : List Cmp) : Prop := cs.length ≤ 60 ∧ CmpsOk n cs
theorem same_new {H : Hp} {p : Addr} {o : HO} (h : H p = none) : Same H (upd H p o) := fun b x e => by
  rw [upd_ne (ne_of_none e h)]
  exact e
theorem Same.sqt {K : PySem.W.Frag} {H H' : Hp} {a : Addr} {xs : List V} (e : Same H H') (h : SqT K H a xs) : SqT K H' a xs := by
  rcases h with (h | ⟨o, h⟩) | h
  · exact .inl (.inl (e _ _ h))
  · exact .inl (.inr ⟨o, e _ _ h⟩)
  · exact .inr h
theorem Same.prs {K : PySem.W.Frag} {H H' : Hp} {ps : List Addr} {cs : List Cmp} (e : Same H H') (h : Prs K H ps cs) : Prs K H' ps cs := h.imp fun _ _ r => Same.sqt e r
/-- a list of ours changes: the tuples stay -/
theorem sqt_upd {K : PySem.W.Frag} {H : Hp} {a l : Addr} {xs ys : List V} {o : HO} (hl : H l = some (.lst ys)) (h : SqT K H a xs) : SqT K (upd H l o) a xs := by
  rcases h with (h | ⟨u, h⟩) | h
  · refine .inl (.inl ?_)
    rw [upd_ne (ne_of h hl (by intro z; cases z))]
    exact h
  · refine .inl (.inr ⟨u, ?_⟩)
    rw [upd_ne (ne_of h hl (by intro z; cases z))]
    exact h
  · exact .inr h
theorem prs_upd {K : PySem.W.Frag} {H : Hp} {l : Addr} {ys : List V} {o : HO} {ps : List Addr} {cs : List Cmp} (hl : H l = some (.lst ys)) (h : Prs K H ps cs) : Prs K (upd H l o) ps cs := h.imp fun _ _ r => sqt_upd hl r
/-- what H knew stays where an object that H did not know changes -/
theorem same_mut {H H' : Hp} {p : Addr} {o : HO} (e : Same H H') (h : H p = none) : Same H (upd H' p o) := fun b x q => by
  rw [upd_ne (ne_of_none q h)]
  exact e b x q
theorem small_line {n : Nat} (h : n ≤ 1000000) : n ≤ sizeLine := Nat.le_trans h (by rw [sizeLine_eq]; decide)
theorem small_lt {n : Nat} (h : n < 1000000) : n < sizeLine := Nat.lt_of_lt_of_le h (by rw [sizeLine_eq]; decide)
end Sw

set_option Elab.async false
set_option linter.all false
set_option maxRecDepth 100000
set_option maxHeartbeats 4000000
namespace Sw
open PySem PySem.Spec PyProof.Rows L2
/-! ## Loops and comprehensions over any walk of n turns -/
theorem it_for {J : It} {n : Nat} {g : TG} {tb : TS} {D : Ends} {σ : L2.St} {H : Hp} (Pv : Nat → L2.St → Hp → Prop) (h0 : Pv 0 σ H)
    (go : ∀ i σ H, i < n → Pv i σ H → J.go i H) (stop : ∀ σ H, Pv n σ H → J.stop n H)
    (turn : ∀ i σ H, i < n → Pv i σ H → ∀ x H', J.yld i H x H' → g x σ H' fun σ2 H2 => tb { D with nx := Pv (i + 1), ct := Pv (i + 1), bk := D.nx } σ2 H2)
    (done : ∀ σ H, Pv n σ H → D.nx σ H) :
    ∃ W : Nat → Nat → L2.St → Hp → Prop, (∃ m, W 0 m σ H) ∧ ∀ i m σ H, W i m σ H →
      (J.stop i H ∧ D.nx σ H) ∨ (J.go i H ∧ ∃ N : L2.St → Hp → Prop, (∀ σ' H', N σ' H' → ∃ m', m' < m ∧ W (i + 1) m' σ' H') ∧ ∀ x H', J.yld i H x H' → g x σ H' fun σ2 H2 => tb { D with nx := N, ct := N, bk := D.nx } σ2 H2) := by
  refine ⟨fun i m σ H => m + i = n ∧ Pv i σ H, ⟨n, rfl, h0⟩, fun i m σ H hW => ?_⟩
  obtain ⟨e, p⟩ := hW
  by_cases h : i < n
  · refine .inr ⟨go i σ H h p, Pv (i + 1), fun σ' H' q => ⟨m - 1, by omega, by omega, q⟩, turn i σ H h p⟩
  · have e' : i = n := by omega
    subst e'
    exact .inl ⟨stop σ H p, done σ H p⟩
theorem it_lc {J : It} {n : Nat} {g : TG} {tt : TT} {te : TE} {vs : List Nat} {σ : L2.St} {H1 : Hp} {D : Addr} {Qd : Hp → Prop} (Pv : Nat → Hp → Prop) (h0 : Pv 0 (upd H1 D (.lst [])))
    (go : ∀ i H, i < n → Pv i H → J.go i H) (stop : ∀ H, Pv n H → J.stop n H)
    (turn : ∀ i H, i < n → Pv i H → ∀ x H', J.yld i H x H' → g x (wipe σ vs) H' fun σ2 H2 => wipe σ2 vs = wipe σ vs ∧ tt σ2 H2 fun b H3 =>
      if b = true then te σ2 H3 fun y H4 => ∃ acc, H4 D = some (.lst acc) ∧ acc.length < sizeLine ∧ Pv (i + 1) (upd H4 D (.lst (acc ++ [y]))) else Pv (i + 1) H3)
    (done : ∀ H, Pv n H → Qd H) :
    ∃ W : Nat → Nat → Hp → Prop, (∃ m, W 0 m (upd H1 D (.lst []))) ∧ ∀ i m H, W i m H →
      (J.stop i H ∧ Qd H) ∨ (J.go i H ∧ ∃ Nx : Hp → Prop, (∀ H', Nx H' → ∃ m', m' < m ∧ W (i + 1) m' H') ∧ ∀ x H', J.yld i H x H' → g x (wipe σ vs) H' fun σ2 H2 => wipe σ2 vs = wipe σ vs ∧ tt σ2 H2 fun b H3 =>
        if b = true then te σ2 H3 fun y H4 => ∃ acc, H4 D = some (.lst acc) ∧ acc.length < sizeLine ∧ Nx (upd H4 D (.lst (acc ++ [y]))) else Nx H3) := by
  refine ⟨fun i m H => m + i = n ∧ Pv i H, ⟨n, rfl, h0⟩, fun i m H hW => ?_⟩
  obtain ⟨e, p⟩ := hW
  by_cases h : i < n
  · refine .inr ⟨go i H h p, Pv (i + 1), fun H' q => ⟨m - 1, by omega, by omega, q⟩, turn i H h p⟩
  · have e' : i = n := by omega
    subst e'
    exact .inl ⟨stop H p, done H p⟩
section
variable {K : PySem.W.Frag} {σ : L2.St} {H : Hp} {D : Ends} {tb : TS} {a b : Addr} {xs ys : List V} {j1 j2 : Nat}
theorem get_of {α : Type} {xs : List α} {i : Nat} (h : i < xs.length) : ∃ x, xs[i]? = some x := ⟨xs[i], List.getElem?_eq_getElem h⟩
theorem g2_run {n1 n2 : Nat} {x y : V} {T : Addr} {σ : L2.St} {H : Hp} {Q : L2.St → Hp → Prop} (hT : SqT K H T [x, y]) (q : Q ((σ.set n1 (some x)).set n2 (some y)) H) :
    gTup K 2 (gCons (gName n1) (gCons (gName n2) gNil)) (.ref T) σ H Q := ⟨T, [x, y], rfl, hT, rfl, x, [y], rfl, y, [], rfl, rfl, q⟩
/-- for j1, j2 in enumerate(x), x at a -/
theorem for_enum2 {k : Nat} (hk : σ[k]? = some (some (.ref a))) (hx : SqL K H a xs) (Pv : Nat → L2.St → Hp → Prop) (h0 : Pv 0 σ H) (hl : ∀ i σ H, i ≤ xs.length → Pv i σ H → SqL K H a xs)
    (turn : ∀ i x σ H H', xs[i]? = some x → i < xs.length → Pv i σ H → Same H H' → tb { D with nx := Pv (i + 1), ct := Pv (i + 1), bk := D.nx } ((σ.set j1 (some (.int (i : Int)))).set j2 (some x)) H')
    (done : ∀ σ H, Pv xs.length σ H → D.nx σ H) : tFor (iEnum K (tCons (tVar k) tNil)) (gTup K 2 (gCons (gName j1) (gCons (gName j2) gNil))) tb D σ H := by
  refine ⟨.ref a, hk, a, xs, rfl, hx, it_for (n := xs.length) Pv h0 (fun i σ H hi p => ?_) (fun σ H p => ?_) (fun i σ H hi p v H' y => ?_) done⟩
  · obtain ⟨x, hx⟩ := get_of hi
    exact ⟨xs, x, hl i σ H (Nat.le_of_lt hi) p, hx⟩
  · exact ⟨xs, hl _ σ H (Nat.le_refl _) p, Nat.le_refl _⟩
  · obtain ⟨T, x, rfl, nT, rfl, f⟩ := y
    exact g2_run (.inl (.inl upd_same)) (turn i x σ H _ (f xs (hl i σ H (Nat.le_of_lt hi) p)) hi p (same_new nT))
/-- for j1, j2 in x, x at a a list of pairs -/
theorem for_pairs {k : Nat} {ps : List Addr} (hk : σ[k]? = some (some (.ref a))) (hx : SqL K H a (Rfs ps)) (u : Nat → V × V) (Pv : Nat → L2.St → Hp → Prop) (h0 : Pv 0 σ H)
    (hl : ∀ i σ H, i ≤ ps.length → Pv i σ H → SqL K H a (Rfs ps)) (hp : ∀ i p σ H, ps[i]? = some p → Pv i σ H → SqT K H p [(u i).1, (u i).2])
    (turn : ∀ i p σ H, ps[i]? = some p → Pv i σ H → tb { D with nx := Pv (i + 1), ct := Pv (i + 1), bk := D.nx } ((σ.set j1 (some (u i).1)).set j2 (some (u i).2)) H)
    (done : ∀ σ H, Pv ps.length σ H → D.nx σ H) : tFor (iList K (tVar k)) (gTup K 2 (gCons (gName j1) (gCons (gName j2) gNil))) tb D σ H := by
  have hn : (Rfs ps).length = ps.length := List.length_map ..
  refine ⟨.ref a, hk, a, rfl, ⟨_, hx⟩, it_for (n := ps.length) Pv h0 (fun i σ H hi p => ?_) (fun σ H p => ?_) (fun i σ H hi p v H' y => ?_) done⟩
  · obtain ⟨x, hx⟩ := get_of (xs := Rfs ps) (by rw [hn]; exact hi)
    exact ⟨_, x, hl i σ H (Nat.le_of_lt hi) p, hx⟩
  · exact ⟨_, hl _ σ H (Nat.le_refl _) p, by rw [hn]; exact Nat.le_refl _⟩
  · obtain ⟨rfl, f⟩ := y
    have e := f _ (hl i σ H' (Nat.le_of_lt hi) p)
    unfold Rfs at e
    rw [List.getElem?_map, List.getElem?_eq_getElem hi] at e
    cases e
    have g : ps[i]? = some ps[i] := List.getElem?_eq_getElem hi
    exact g2_run (hp i _ σ H' g p) (turn i _ σ H' g p)
/-- for x in y, y at a -/
theorem for_each {k : Nat} (hk : σ[k]? = some (some (.ref a))) (hx : SqL K H a xs) (Pv : Nat → L2.St → Hp → Prop) (h0 : Pv 0 σ H) (hl : ∀ i σ H, i ≤ xs.length → Pv i σ H → SqL K H a xs)
    (turn : ∀ i x σ H, xs[i]? = some x → i < xs.length → Pv i σ H → tb { D with nx := Pv (i + 1), ct := Pv (i + 1), bk := D.nx } (σ.set j1 (some x)) H)
    (done : ∀ σ H, Pv xs.length σ H → D.nx σ H) : tFor (iList K (tVar k)) (gName j1) tb D σ H := by
  refine ⟨.ref a, hk, a, rfl, ⟨_, hx⟩, it_for (n := xs.length) Pv h0 (fun i σ H hi p => ?_) (fun σ H p => ?_) (fun i σ H hi p v H' y => ?_) done⟩
  · obtain ⟨x, hx⟩ := get_of hi
    exact ⟨_, x, hl i σ H (Nat.le_of_lt hi) p, hx⟩
  · exact ⟨_, hl _ σ H (Nat.le_refl _) p, Nat.le_refl _⟩
  · obtain ⟨rfl, f⟩ := y
    exact turn i v σ H' (f _ (hl i σ H' (Nat.le_of_lt hi) p)) hi p
/-- for i in range(n) -/
theorem for_rng {ta : TA} {n : Nat} (ht : ∀ Q, Q [V.int (n : Int)] H → ta σ H Q) (hn : n ≤ 1000000) (Pv : Nat → L2.St → Hp → Prop) (h0 : Pv 0 σ H)
    (turn : ∀ (i : Nat) σ H, i < n → Pv i σ H → tb { D with nx := Pv (i + 1), ct := Pv (i + 1), bk := D.nx } (σ.set j1 (some (.int (i : Int)))) H)
    (done : ∀ σ H, Pv n σ H → D.nx σ H) : tFor (iRng1 ta) (gName j1) tb D σ H := by
  refine ht _ ⟨(n : Int), rfl, by omega, by omega, it_for (n := n) Pv h0 (fun i σ H hi p => ?_) (fun σ H p => ?_) (fun i σ H hi p v H' y => ?_) done⟩
  · exact hi
  · exact Nat.le_refl _
  · obtain ⟨rfl, rfl⟩ := y
    have e : (0 : Int) + (i : Int) = (i : Int) := Int.zero_add _
    rw [e]
    exact turn i σ H' hi p
end
/-! ## What a comprehension gives, item by item: G of the turn, the list so far, the heap -/
section
variable {K : PySem.W.Frag} {σ : L2.St} {H : Hp} {te : TE} {a b : Addr} {xs ys : List V} {j1 j2 : Nat} {Q : VK}
/-- the list so far stands at D, and G holds of it -/
def So (D : Addr) (G : Nat → List V → Hp → Prop) (i : Nat) (H' : Hp) : Prop := ∃ acc, H' D = some (.lst acc) ∧ G i acc H'
/-- the wish of a turn: v comes, on it goes -/
def GoOn (D : Addr) (G : Nat → List V → Hp → Prop) (i : Nat) : VK := fun v H' => ∃ acc, H' D = some (.lst acc) ∧ acc.length < sizeLine ∧ So D G (i + 1) (upd H' D (.lst (acc ++ [v])))
theorem GoOn.mk {D : Addr} {G : Nat → List V → Hp → Prop} {i : Nat} {v : V} {H' : Hp} {acc : List V} (h : H' D = some (.lst acc)) (hz : acc.length < 1000000) (g : G (i + 1) (acc ++ [v]) (upd H' D (.lst (acc ++ [v])))) : GoOn D G i v H' :=
  ⟨acc, h, small_lt hz, _, upd_same, g⟩
/-- of a turn that tests -/
def Turn (tt : TT) (te : TE) (D : Addr) (G : Nat → List V → Hp → Prop) (i : Nat) (σ : L2.St) (H : Hp) : Prop := tt σ H fun b H3 => if b = true then te σ H3 (GoOn D G i) else So D G (i + 1) H3
theorem Turn.yes {te : TE} {D : Addr} {G : Nat → List V → Hp → Prop} {i : Nat} (h : te σ H (GoOn D G i)) : Turn tYes te D G i σ H := by
  show (if true = true then te σ H (GoOn D G i) else So D G (i + 1) H)
  rw [if_pos rfl]
  exact h
theorem lc_enum2 {tt : TT} {k : Nat} {vs : List Nat} (hk : σ[k]? = some (some (.ref a))) (hx : SqL K H a xs) (hvs : ∀ v w, wipe (((wipe σ vs).set j1 v).set j2 w) vs = wipe σ vs)
    (G : Addr → Nat → List V → Hp → Prop) (h0 : ∀ D, H D = none → G D 0 [] (upd H D (.lst []))) (hl : ∀ D i acc H', H D = none → G D i acc H' → SqL K H' a xs)
    (turn : ∀ D i x acc H' H2, H D = none → xs[i]? = some x → i < xs.length → H' D = some (.lst acc) → G D i acc H' → Same H' H2 → Turn tt te D (G D) i (((wipe σ vs).set j1 (some (.int (i : Int)))).set j2 (some x)) H2)
    (done : ∀ D acc H', H D = none → H' D = some (.lst acc) → G D xs.length acc H' → Q (.ref D) H') :
    tLc (iEnum K (tCons (tVar k) tNil)) (gTup K 2 (gCons (gName j1) (gCons (gName j2) gNil))) tt te vs σ H Q := by
  refine ⟨.ref a, hk, a, xs, rfl, hx, fun D nD => ?_⟩
  refine it_lc (n := xs.length) (So D (G D)) ⟨[], upd_same, h0 D nD⟩ (fun i H' hi p => ?_) (fun H' p => ?_) (fun i H' hi p v H2 y => ?_) (fun H' p => ?_)
  · obtain ⟨acc, _, g⟩ := p
    obtain ⟨x, hx⟩ := get_of hi
    exact ⟨xs, x, hl D _ _ _ nD g, hx⟩
  · obtain ⟨acc, _, g⟩ := p
    exact ⟨xs, hl D _ _ _ nD g, Nat.le_refl _⟩
  · obtain ⟨acc, hD, g⟩ := p
    obtain ⟨T, x, rfl, nT, rfl, f⟩ := y
    exact g2_run (.inl (.inl upd_same)) ⟨hvs _ _, turn D i x acc H' _ nD (f xs (hl D _ _ _ nD g)) hi hD g (same_new (o := .tup [.int (i : Int), x]) nT)⟩
  · obtain ⟨acc, hD, g⟩ := p
    exact done D acc H' nD hD g
theorem lc_pairs {tt : TT} {k : Nat} {vs : List Nat} {ps : List Addr} (u : Nat → V × V) (hk : σ[k]? = some (some (.ref a))) (hx : SqL K H a (Rfs ps)) (hvs : ∀ v w, wipe (((wipe σ vs).set j1 v).set j2 w) vs = wipe σ vs)
    (G : Addr → Nat → List V → Hp → Prop) (h0 : ∀ D, H D = none → G D 0 [] (upd H D (.lst []))) (hl : ∀ D i acc H', H D = none → G D i acc H' → SqL K H' a (Rfs ps))
    (hp : ∀ D i p acc H', H D = none → ps[i]? = some p → H' D = some (.lst acc) → G D i acc H' → SqT K H' p [(u i).1, (u i).2])
    (turn : ∀ D i acc H', H D = none → i < ps.length → H' D = some (.lst acc) → G D i acc H' → Turn tt te D (G D) i (((wipe σ vs).set j1 (some (u i).1)).set j2 (some (u i).2)) H')
    (done : ∀ D acc H', H D = none → H' D = some (.lst acc) → G D ps.length acc H' → Q (.ref D) H') :
    tLc (iList K (tVar k)) (gTup K 2 (gCons (gName j1) (gCons (gName j2) gNil))) tt te vs σ H Q := by
  have hn : (Rfs ps).length = ps.length := List.length_map ..
  refine ⟨.ref a, hk, a, rfl, ⟨_, hx⟩, fun D nD => ?_⟩
  refine it_lc (n := ps.length) (So D (G D)) ⟨[], upd_same, h0 D nD⟩ (fun i H' hi p => ?_) (fun H' p => ?_) (fun i H' hi p v H2 y => ?_) (fun H' p => ?_)
  · obtain ⟨acc, _, g⟩ := p
    obtain ⟨x, hx⟩ := get_of (xs := Rfs ps) (by rw [hn]; exact hi)
    exact ⟨_, x, hl D _ _ _ nD g, hx⟩
  · obtain ⟨acc, _, g⟩ := p
    exact ⟨_, hl D _ _ _ nD g, by rw [hn]; exact Nat.le_refl _⟩
  · obtain ⟨acc, hD, g⟩ := p
    obtain ⟨rfl, f⟩ := y
    have e := f _ (hl D _ _ _ nD g)
    unfold Rfs at e
    rw [List.getElem?_map, List.getElem?_eq_getElem hi] at e
    cases e
    have gp : ps[i]? = some ps[i] := List.getElem?_eq_getElem hi
    exact g2_run (hp D i _ acc H2 nD gp hD g) ⟨hvs _ _, turn D i acc H2 nD hi hD g⟩
  · obtain ⟨acc, hD, g⟩ := p
    exact done D acc H' nD hD g
/-- [.. for j1 in x], x at a -/
theorem lc_each {tt : TT} {k : Nat} {vs : List Nat} (hk : σ[k]? = some (some (.ref a))) (hx : SqL K H a xs) (hvs : ∀ v, wipe ((wipe σ vs).set j1 v) vs = wipe σ vs)
    (G : Addr → Nat → List V → Hp → Prop) (h0 : ∀ D, H D = none → G D 0 [] (upd H D (.lst []))) (hl : ∀ D i acc H', H D = none → G D i acc H' → SqL K H' a xs)
    (turn : ∀ D i x acc H', H D = none → xs[i]? = some x → i < xs.length → H' D = some (.lst acc) → G D i acc H' → Turn tt te D (G D) i ((wipe σ vs).set j1 (some x)) H')
    (done : ∀ D acc H', H D = none → H' D = some (.lst acc) → G D xs.length acc H' → Q (.ref D) H') :
    tLc (iList K (tVar k)) (gName j1) tt te vs σ H Q := by
  refine ⟨.ref a, hk, a, rfl, ⟨_, hx⟩, fun D nD => ?_⟩
  refine it_lc (n := xs.length) (So D (G D)) ⟨[], upd_same, h0 D nD⟩ (fun i H' hi p => ?_) (fun H' p => ?_) (fun i H' hi p v H2 y => ?_) (fun H' p => ?_)
  · obtain ⟨acc, _, g⟩ := p
    obtain ⟨x, hx⟩ := get_of hi
    exact ⟨_, x, hl D _ _ _ nD g, hx⟩
  · obtain ⟨acc, _, g⟩ := p
    exact ⟨_, hl D _ _ _ nD g, Nat.le_refl _⟩
  · obtain ⟨acc, hD, g⟩ := p
    obtain ⟨rfl, f⟩ := y
    exact ⟨hvs _, turn D i v acc H2 nD (f _ (hl D _ _ _ nD g)) hi hD g⟩
  · obtain ⟨acc, hD, g⟩ := p
    exact done D acc H' nD hD g
/-- [.. for j1 in range(lo, hi, c)]: n turns -/
theorem lc_rng3 {tt : TT} {ta : TA} {vs : List Nat} {lo hi c : Int} {n : Nat} (ht : ∀ Q, Q [V.int lo, V.int hi, V.int c] H → ta σ H Q) (hn : RgC lo hi c n) (hvs : ∀ v, wipe ((wipe σ vs).set j1 v) vs = wipe σ vs)
    (G : Addr → Nat → List V → Hp → Prop) (h0 : ∀ D, H D = none → G D 0 [] (upd H D (.lst [])))
    (turn : ∀ (D : Addr) (i : Nat) (acc : List V) (H' : Hp), H D = none → i < n → H' D = some (.lst acc) → G D i acc H' → Turn tt te D (G D) i ((wipe σ vs).set j1 (some (.int (lo + (i : Int) * c)))) H')
    (done : ∀ D acc H', H D = none → H' D = some (.lst acc) → G D n acc H' → Q (.ref D) H') :
    tLc (iRng3 ta) (gName j1) tt te vs σ H Q := by
  refine ht _ ⟨lo, hi, c, n, rfl, hn, fun D nD => ?_⟩
  refine it_lc (n := n) (So D (G D)) ⟨[], upd_same, h0 D nD⟩ (fun i H' hi p => hi) (fun H' p => Nat.le_refl _) (fun i H' hi p v H2 y => ?_) (fun H' p => ?_)
  · obtain ⟨acc, hD, g⟩ := p
    obtain ⟨rfl, rfl⟩ := y
    exact ⟨hvs _, turn D i acc H2 nD hi hD g⟩
  · obtain ⟨acc, hD, g⟩ := p
    exact done D acc H' nD hD g
/-- [.. for j1 in range(n)] -/
theorem lc_rng {tt : TT} {ta : TA} {vs : List Nat} {n : Nat} (ht : ∀ Q, Q [V.int (n : Int)] H → ta σ H Q) (hn : n ≤ 1000000) (hvs : ∀ v, wipe ((wipe σ vs).set j1 v) vs = wipe σ vs)
    (G : Addr → Nat → List V → Hp → Prop) (h0 : ∀ D, H D = none → G D 0 [] (upd H D (.lst [])))
    (turn : ∀ (D : Addr) (i : Nat) (acc : List V) (H' : Hp), H D = none → i < n → H' D = some (.lst acc) → G D i acc H' → Turn tt te D (G D) i ((wipe σ vs).set j1 (some (.int (i : Int)))) H')
    (done : ∀ D acc H', H D = none → H' D = some (.lst acc) → G D n acc H' → Q (.ref D) H') :
    tLc (iRng1 ta) (gName j1) tt te vs σ H Q := by
  refine ht _ ⟨(n : Int), rfl, by omega, by omega, fun D nD => ?_⟩
  refine it_lc (n := n) (So D (G D)) ⟨[], upd_same, h0 D nD⟩ (fun i H' hi p => hi) (fun H' p => Nat.le_refl _) (fun i H' hi p v H2 y => ?_) (fun H' p => ?_)
  · obtain ⟨acc, hD, g⟩ := p
    obtain ⟨rfl, rfl⟩ := y
    have e : (0 : Int) + (i : Int) = (i : Int) := Int.zero_add _
    rw [e]
    exact ⟨hvs _, turn D i acc H2 nD hi hD g⟩
  · obtain ⟨acc, hD, g⟩ := p
    exact done D acc H' nD hD g
end
/-- how many turns range(lo, hi, c) has, c above 0 -/
def upN (lo hi c : Int) : Nat := if lo < hi then ((hi - lo - 1) / c).toNat + 1 else 0
theorem upN_rgc {lo hi c : Int} (hc : 1 ≤ c ∧ c ≤ 1000000) (hl : -1000000 ≤ lo ∧ lo ≤ 1000000) (hh : -1000000 ≤ hi ∧ hi ≤ 1000000) : RgC lo hi c (upN lo hi c) := by
  have size : Builtin.Range.rangeSize lo hi c = ((upN lo hi c : Nat) : Int) := by
    unfold Builtin.Range.rangeSize upN
    rw [if_pos (by omega)]
    split
    · have := Int.ediv_nonneg (a := hi - lo - 1) (b := c) (by omega) (by omega)
      omega
    · rfl
  have le : ((upN lo hi c : Nat) : Int) ≤ 2000001 := by
    unfold upN
    split
    · have h1 := Int.ediv_nonneg (a := hi - lo - 1) (b := c) (by omega) (by omega)
      have h2 := Int.ediv_le_self (a := hi - lo - 1) (b := c) (by omega)
      omega
    · decide
  refine ⟨by omega, by omega, ?_, size⟩
  unfold Builtin.Range.small
  rw [size]
  simp only [Builtin.Range.rangeFitsLong, Bool.and_eq_true, Bool.or_eq_true, decide_eq_true_eq, beq_iff_eq, show c > 0 by omega, if_true]
  omega
theorem upN_lt {lo hi c : Int} (hc : 1 ≤ c) {i : Nat} (h : i < upN lo hi c) : lo + (i : Int) * c < hi := by
  unfold upN at h
  split at h
  · have h1 := Int.ediv_nonneg (a := hi - lo - 1) (b := c) (by omega) (by omega)
    have h2 := Int.ediv_mul_le (hi - lo - 1) (b := c) (by omega)
    have h3 : (i : Int) ≤ (hi - lo - 1) / c := by omega
    have h4 : (i : Int) * c ≤ (hi - lo - 1) / c * c := Int.mul_le_mul_of_nonneg_right h3 (by omega)
    omega
  · omega
theorem upN_le {lo hi c : Int} (hc : 1 ≤ c) : upN lo hi c ≤ (hi - lo).toNat := by
  unfold upN
  split
  · have h1 := Int.ediv_nonneg (a := hi - lo - 1) (b := c) (by omega) (by omega)
    have h2 := Int.ediv_le_self (a := hi - lo - 1) (b := c) (by omega)
    omega
  · omega
theorem scal_ii (i j : Int) : scal (.int i) (.int j) = true := rfl
theorem scal_ss (i j : Str) : scal (.str i) (.str j) = true := rfl
theorem scal_nn : scal .non .non = true := rfl
theorem scal_bb (i j : Bool) : scal (.bl i) (.bl j) = true := rfl
theorem scal_ni (j : Int) : scal .non (.int j) = true := rfl
theorem scal_in (j : Int) : scal (.int j) .non = true := rfl
theorem cutV_to (xs : List V) (k : Nat) : cutV xs none (some (k : Int)) = xs.take k := by
  unfold cutV
  rw [HT.sIx_none, HT.sIx_nat]
  show (xs.drop 0).take (min k xs.length - 0) = _
  rw [List.drop_zero, Nat.sub_zero]
  by_cases h : k ≤ xs.length
  · rw [Nat.min_eq_left h]
  · rw [Nat.min_eq_right (by omega), List.take_of_length_le (Nat.le_refl _), List.take_of_length_le (by omega)]
theorem cutV_from (xs : List V) (k : Nat) : cutV xs (some (k : Int)) none = xs.drop k := by
  unfold cutV
  rw [HT.sIx_none, HT.sIx_nat]
  by_cases h : k ≤ xs.length
  · rw [Nat.min_eq_left h, List.take_of_length_le (by rw [List.length_drop]; exact Nat.le_refl _)]
  · rw [Nat.min_eq_right (by omega), List.drop_eq_nil_of_le (Nat.le_refl _), List.drop_eq_nil_of_le (by omega), List.take_nil]
theorem cut_ints_to (ns : List Int) (k : Nat) : cutV (ns.map V.int) none (some (k : Int)) = (ns.take k).map V.int := by rw [cutV_to, List.map_take]
theorem ints_get {l : List Int} {i : Nat} {x : V} (h : (l.map V.int)[i]? = some x) : ∃ z, x = .int z ∧ l[i]? = some z := by
  rw [List.getElem?_map] at h
  cases e : l[i]? with
  | none => rw [e] at h; cases h
  | some z => rw [e] at h; exact ⟨z, (Option.some.inj h).symm, rfl⟩
theorem rfs_get {l : List Addr} {i : Nat} {x : V} (h : (Rfs l)[i]? = some x) : ∃ z, x = .ref z ∧ l[i]? = some z := by
  unfold Rfs at h
  rw [List.getElem?_map] at h
  cases e : l[i]? with
  | none => rw [e] at h; cases h
  | some z => rw [e] at h; exact ⟨z, (Option.some.inj h).symm, rfl⟩
theorem rfs_len (l : List Addr) : (Rfs l).length = l.length := List.length_map ..
theorem rfs_at {l : List Addr} {i : Nat} {p : Addr} (h : l[i]? = some p) : (Rfs l)[i]? = some (.ref p) := by
  unfold Rfs
  rw [List.getElem?_map, h] <;> rfl
theorem seqIndex_nat {k n : Nat} (h : k < n) : seqIndex? (k : Int) n = some k := by
  have e := atI_nat (α := Nat) (xs := List.range n) (j := k) (v := k) (by rw [List.getElem?_range h])
  obtain ⟨j, h1, h2, h3, _⟩ := atI_get e
  rw [List.length_range] at h1
  rw [List.getElem?_eq_getElem h3] at h2
  rw [h1]
  have := Option.some.inj h2
  rw [List.getElem_range] at this
  rw [this]
theorem mem_set {α : Type} {l : List α} {n : Nat} {a b : α} (h : b ∈ l.set n a) : b ∈ l ∨ b = a := List.mem_or_eq_of_mem_set h
theorem rfs_erase : ∀ (l : List Addr) (n : Nat), (Rfs l).eraseIdx n = Rfs (l.eraseIdx n)
  | [], _ => rfl
  | _ :: _, 0 => rfl
  | a :: l, n + 1 => by
    show V.ref a :: (Rfs l).eraseIdx n = V.ref a :: Rfs (l.eraseIdx n)
    rw [rfs_erase l n]
end Sw

set_option Elab.async false
set_option linter.all false
set_option maxRecDepth 100000
set_option maxHeartbeats 4000000
namespace Sw
open PySem PySem.Spec PyProof.Rows L2
/-! ## Defs that may raise -/
section
variable {P : Program} {w : World} {K : PySem.W.Frag} {mg : Str → Option Value} {base : Heap} {x : Str} {st : Stmt} {N ps : List Str} {k : Nat} {sp : Sp}
theorem Here.calX {r : XK → TS} (F : Here K mg x st) (S : FnScope N ps (defScope st)) (len : ∀ vs H Q E, sp vs H Q E → vs.length = ps.length)
    (bd : ∀ (kV doc pm : Value) (an : Option Addr) (cdv ct : Value) (us : List Value), us.length = ps.length →
      bindArgs (PySem.W.fnOf x x (defArgs st) (defBody st) (defScope st) .none kV doc pm an cdv ct) ⟨us, []⟩ = pure (ps.zip us))
    (dv : ∀ (f : Addr) (cdv : Value) (A : Around) (outer : List Env) (s : Shared) (H : Hp) (E : XK), RmIn k A x st s f cdv → PSs (BX (L2.CX P w) P w K mg base N x st f cdv A outer s H E) (defBody st) (r E))
    (rd : ∀ (vs : List V) (H : Hp) (Q : VK) (E : XK), sp vs H Q E → r E { nx := fun _ H' => Q .non H', rt := Q } (L2.start N vs) H) :
    Cal P w K mg base (L2.CX P w) (k + 1) x ps sp := by
  obtain ⟨f, fd, D, g⟩ := F.ex
  refine ⟨f, fd, ?_, g, D.kp, D.bindsN bd, fun s us hl => D.bindsA bd s us hl, ?_⟩
  · exact D.ok S len fun cdv A outer s H vs Q E hr h => ⟨r E, dv f cdv A outer s H E hr, rd vs H Q E h⟩
  · obtain ⟨oc, od, _, _, _, _, _, _, _, osl, _, lk, _⟩ := D.ex
    exact ⟨oc, od, osl, lk⟩
/-- the same, where nothing is raised -/
def quiet (sp : Sp) : Sp := fun vs H Q _ => sp vs H Q E0
theorem Cal.quiet (c : Cal P w K mg base (L2.CX P w) k x ps sp) : Cal P w K mg base CX0 k x ps (quiet sp) := by
  obtain ⟨f, fd, F, g, kp, b, ba, lk⟩ := c.ex
  refine ⟨f, fd, ⟨fun vs H Q E h => F.len vs H Q E0 h, fun A outer s H args us vs Q E hr he hb rv h => ?_⟩, g, kp, b, ba, lk⟩
  refine codeAny_mono (F.run A outer s H args us vs Q E0 hr he hb rv h) fun r s' q => ?_
  cases r with
  | ok fl => cases fl <;> exact q
  | error e =>
    obtain ⟨_, _, _, _, _, _, _, _, _, _, _, _, z⟩ := q
    exact z.elim
end
/-- f(e, ..) that may raise, the wish about that W -/
def tCalW (sp : Sp) (W : WX) (t : TA) : TE := fun σ H Q => t σ H fun vs H1 => sp vs H1 Q fun cls d H' => W cls d σ H'
section
variable {X : Cx} {k : Nat} {x : Str} {ps : List Str} {sp : Sp} {t : TA} {e : Expr} {es : List Expr} {p pos : Pos} {W : WX}
theorem pe_calW (c : Cal X.prog X.w X.K X.mg X.base (L2.CX X.prog X.w) k x ps sp) (hr : Room k X.A) (tk : Takes X W) (hg : Gl X x) (ha : PA X (e :: es) t)
    (hdb : (x == ("__debug__" : Str)) = false := by decide) (he : starEach (e :: es) X.env = (false, eval e X.env) :: starEach es X.env := by rfl)
    (hpl : (backTo pos (starEach es X.env)).any (·.1) = false := by rfl) : PE X (.Call (.Name x p) (e :: es) [] pos) (tCalW sp W t) := by
  obtain ⟨f, fd, F, gm, kp, b, _⟩ := c.ex
  exact pe_callS F hr hg gm kp b (fun σ => passAt tk σ) ha hdb he hpl
/-! ## Raising -/
/-- the class x of the text, without an __init__ of its own, over ValueError -/
structure ExK (K : PySem.W.Frag) (mg : Str → Option Value) (x : Str) : Prop where
  g : mg x = some (.ref (He.ga K x))
  m : PySem.W.excIn K (He.ga K x) He.veBase "ValueError.__new__" = true ∧ PySem.W.keepIn K (.ref (He.ga K x)) = true ∧ PySem.W.subIn K (.ref (He.ga K x)) (.type "BaseException") = some true ∧ PySem.W.typeIn K (.ref (He.ga K x)) = some (.type "type")
/-- raise x(e, ..) -/
def tRzA (C : Addr) (W : WX) (t : TA) : TS := fun _ σ H => t σ H fun vs H1 => vs.length ≤ sizeLine ∧ W (.ref C) none σ H1
theorem ps_rzA {pos2 : Pos} (hc : X.calm = true) (tk : Takes X W) (m : ExK X.K X.mg x) (hg : Gl X x) (ha : PA X (e :: es) t)
    (hdb : (x == ("__debug__" : Str)) = false := by decide)
    (he : starEach (e :: es) X.env = (false, eval e X.env) :: starEach es X.env := by rfl) (hpl : (backTo pos (starEach es X.env)).any (·.1) = false := by rfl) :
    PS X (.Raise (some (.Call (.Name x p) (e :: es) [] pos)) none pos2) (tRzA (He.ga X.K x) W t) :=
  ps_raise hc tk (pmk_ownA PySem.F.excBase_ValueError m.m.1 m.g m.m.2.1 (raises_own m.m.2.2.1 m.m.2.2.2) hg ha hdb he hpl)
/-! ## {x} of a whole number or None -/
def tFmtN (te : TE) : TE := fun σ H Q => te σ H fun x H1 => (x = .non ∧ Q (.str "None") H1) ∨ ∃ i : Int, x = .int i ∧ i.natAbs.log2 < 1920 ∧ Q (.str (toString i)) H1
theorem pe_fmtN {te : TE} (he : PE X e te) : PE X (.FormattedValue e (-1) none pos) (tFmtN te) := by
  refine ⟨fun pins s σ H Q I h => ?_⟩
  refine wpAny_FormattedValue_plain (thn (he.run pins s σ H _ I h) fun v s1 hv => ?_)
  obtain ⟨y, H1, I1, r1, q⟩ := hv
  rcases q with ⟨rfl, q⟩ | ⟨i, rfl, hz, q⟩
  · cases r1
    exact wpAny_formatField_none ⟨.str "None", H1, (I1.tok _).tok _, ⟨_, rfl⟩, q⟩
  · obtain ⟨tk, rfl⟩ := r1
    exact wpAny_formatField_int hz ⟨.str (toString i), H1, I1.tok _, ⟨_, rfl⟩, q⟩
/-! ## W.__init__(self, ..), W an own class that has ValueError's -/
structure InK (K : PySem.W.Frag) (mg : Str → Option Value) (x : Str) : Prop where
  g : mg x = some (.ref (He.ga K x))
  sp : PySem.W.specialIn K (.ref (He.ga K x)) "__getattribute__" = some (some (.builtin "type.__getattribute__"))
  rd : PySem.W.readsIn K (He.ga K x) (.type "type") = true
  ty : PySem.W.typeIn K (.ref (He.ga K x)) = some (.type "type")
  fc : PySem.W.findCls K (.ref (He.ga K x)) (.type "type") "__init__" = some (.val (.builtin "ValueError.__init__"))
theorem pe_winit {pl : Sem Bool} {p1 p2 : Pos} (m : InK X.K X.mg x) (hg : Gl X x) (ha : PA X (e :: es) t)
    (hc : eval (.Call (.Attribute (.Name x p1) "__init__" p2) (e :: es) [] pos) X.env = (do
      let ov ← eval (.Name x p1) X.env
      standAt p2.atName
      let (f, first) ← holding [ov] (getMethod ov "__init__" pl)
      callWith pos f first (backTo pos (starEach (e :: es) X.env)) (backToKw pos (keywordEach [] X.env))) := by rfl)
    (hdb : (x == ("__debug__" : Str)) = false := by decide)
    (he : starEach (e :: es) X.env = (false, eval e X.env) :: starEach es X.env := by rfl) (hpl : (backTo pos (starEach es X.env)).any (·.1) = false := by rfl) :
    PE X (.Call (.Attribute (.Name x p1) "__init__" p2) (e :: es) [] pos) (tVeI X.K t) := by
  refine ⟨fun pins s σ H Q I h => ?_⟩
  refine PySem.W.methodCall_KW (ld_glob I hg m.g ?_ hdb) hc
  obtain ⟨mm, fr⟩ := I.fr
  refine PySem.W.method_of_cls fr I.ok.mod.kin m.sp ?_
  refine PySem.W.cls_val fr I.ok.mod.kin m.ty m.rd m.fc (by decide +kernel) ?_
  show wpAny _ _ (callWith pos (Value.builtin "ValueError.__init__") [] (backTo pos (starEach (e :: es) X.env)) []) _ _ _
  refine callWith_method1 (thn (ha.run pos pins _ σ H _ (I.tok _) h) fun us s1 hv => ?_) he hpl
  obtain ⟨vs, H1, I1, r1, a, C, ws, rfl, hl, T, ea, q⟩ := hv
  cases r1 with
  | @cons _ u0 _ ur ra rw' =>
    obtain rfl : u0 = Value.ref a := ra
    have small : ur.length ≤ sizeLine := by
      rw [← Paired.length rw']
      exact small_line (by omega)
    exact oinit_ok T I1 ea small fun s' J => ⟨.non, H1, J, rfl, q⟩
end
end Sw

set_option Elab.async false
set_option linter.all false
set_option maxRecDepth 100000
set_option maxHeartbeats 4000000
namespace Sw
open PySem PySem.Spec PyProof.Rows L2
/-! ## What the head is asked of the classes of errors -/
def oexB (K : PySem.W.Frag) (C : Addr) : Bool :=
  (match K.lookup C with
  | some ⟨.type "type", _, .cls cd, sl⟩ => (match cd.mro, sl.toList with
    | .ref C' :: bm, [_, _, _, _, some (.builtin n), _] => decide (C' = C) && (decide (n = "ValueError.__new__") && (!cd.hasDel && (cd.hasDict && PySem.HandSPX.refsVE bm)))
    | _, _ => false)
  | _ => false) && (He.eqO (PySem.W.findIn K (.ref C) "__setattr__") (some (some (.builtin "object.__setattr__"))) && (decide (PySem.W.subIn K (.ref C) (.type "BaseException") = some true) &&
    (decide (PySem.W.typeIn K (.ref C) = some (.type "type")) && PySem.W.keepIn K (.ref C))))
theorem oexB_ok {K : PySem.W.Frag} {C : Addr} (h : oexB K C = true) : OexC K C := by
  unfold oexB at h
  obtain ⟨h1, h⟩ := He.ba h
  obtain ⟨h2, h⟩ := He.ba h
  obtain ⟨h3, h⟩ := He.ba h
  obtain ⟨h4, h5⟩ := He.ba h
  refine ⟨?_, He.eqO_ok h2, of_decide_eq_true h3, of_decide_eq_true h4, h5⟩
  split at h1
  · rename_i dd cd sl ho
    split at h1
    · rename_i C' bm k0 k1 k2 k3 n k5 hm hs
      obtain ⟨q1, h1⟩ := He.ba h1
      obtain ⟨q2, h1⟩ := He.ba h1
      obtain ⟨q3, h1⟩ := He.ba h1
      obtain ⟨q4, q5⟩ := He.ba h1
      have q1 := of_decide_eq_true q1
      have q2 := of_decide_eq_true q2
      try subst q1
      try subst q2
      obtain ⟨nm, bs, mro, ns, qn, hd, sn, sub, ab, col, del⟩ := cd
      dsimp only at hm q3 q4
      have q3 : del = false := by simpa using q3
      subst hm q3 q4
      have hsl : sl = #[k0, k1, k2, k3, some (.builtin "ValueError.__new__"), k5] := by
        obtain ⟨l⟩ := sl
        simp only at hs
        rw [hs]
      subst hsl
      exact ⟨nm, qn, ns, bs, bm, sn, sub, ab, col, dd, k0, k1, k2, k3, k5, ho, q5⟩
    · cases h1
  · cases h1
def winB (K : PySem.W.Frag) (x : Str) : Bool := He.eqO (PySem.W.nsIn K mainGlobals x) (some (some (.ref (He.ga K x)))) && (He.eqO (PySem.W.specialIn K (.ref (He.ga K x)) "__getattribute__") (some (some (.builtin "type.__getattribute__"))) &&
  (PySem.W.readsIn K (He.ga K x) (.type "type") && (decide (PySem.W.typeIn K (.ref (He.ga K x)) = some (.type "type")) && (match PySem.W.findCls K (.ref (He.ga K x)) (.type "type") "__init__" with
    | some (.val v) => decide (v = .builtin "ValueError.__init__")
    | _ => false))))
theorem winB_ok {K : PySem.W.Frag} {h : Heap} {mg : Str → Option Value} {x : Str} (X : K.In h) (G : h.Ns mainGlobals mg) (e : winB K x = true) : InK K mg x := by
  unfold winB at e
  obtain ⟨h1, e⟩ := He.ba e
  obtain ⟨h2, e⟩ := He.ba e
  obtain ⟨h3, e⟩ := He.ba e
  obtain ⟨h4, h5⟩ := He.ba e
  refine ⟨PySem.W.mg_of X G (He.eqO_ok h1), He.eqO_ok h2, h3, of_decide_eq_true h4, ?_⟩
  split at h5
  · rename_i v hv
    have := of_decide_eq_true h5
    subst this
    exact hv
  · cases h5
/-- an error class with an __init__ of its own (x.__init__ keeps one field f) -/
structure OwK (K : PySem.W.Frag) (mg : Str → Option Value) (x f : Str) : Prop where
  g : mg x = some (.ref (He.ga K x))
  o : OexC K (He.ga K x)
  i : PySem.W.findIn K (.ref (He.ga K x)) "__init__" = some (some (.ref (He.ma K (He.ga K x) "__init__")))
  t : PySem.W.typeIn K (.ref (He.ma K (He.ga K x) "__init__")) = some (.type "function")
  n : PySem.W.findIn K (.ref (He.ga K x)) f = some none
def owB (K : PySem.W.Frag) (x f : Str) : Bool := He.eqO (PySem.W.nsIn K mainGlobals x) (some (some (.ref (He.ga K x)))) && (oexB K (He.ga K x) && (He.eqO (PySem.W.findIn K (.ref (He.ga K x)) "__init__") (some (some (.ref (He.ma K (He.ga K x) "__init__")))) &&
  (decide (PySem.W.typeIn K (.ref (He.ma K (He.ga K x) "__init__")) = some (.type "function")) && He.eqO (PySem.W.findIn K (.ref (He.ga K x)) f) (some none))))
theorem owB_ok {K : PySem.W.Frag} {h : Heap} {mg : Str → Option Value} {x f : Str} (X : K.In h) (G : h.Ns mainGlobals mg) (e : owB K x f = true) : OwK K mg x f := by
  unfold owB at e
  obtain ⟨h1, e⟩ := He.ba e
  obtain ⟨h2, e⟩ := He.ba e
  obtain ⟨h3, e⟩ := He.ba e
  obtain ⟨h4, h5⟩ := He.ba e
  exact ⟨PySem.W.mg_of X G (He.eqO_ok h1), oexB_ok h2, He.eqO_ok h3, of_decide_eq_true h4, He.eqO_ok h5⟩
section
variable {fa : List He.Fa} {fn : List He.DefD} {ex : PySem.W.Frag → Bool} {h : Heap} {K : PySem.W.Frag} {mg : Str → Option Value}
theorem exk_of (c : SaysZ fa fn ex K) (X : K.In h) (G : h.Ns mainGlobals mg) {x : Str} (i j : Nat) (hi : fa[i]? = some (.glo x)) (hj : fa[j]? = some (.exc x)) : ExK K mg x :=
  ⟨He.glo_ok X G (c.d.fact i hi), He.exc_ok (c.d.fact j hj)⟩
theorem exm_of' (c : SaysZ fa fn ex K) {x y : Str} {b : Bool} (j : Nat) (hj : fa[j]? = some (.exm x y b)) : PySem.W.exmOne K (.ref (He.ga K x)) (.ref (He.ga K y)) = some b := He.exm_ok (c.d.fact j hj)
end
/-! ## raise x(e), x with such an __init__: the error's own dict is new and holds the field -/
def spInit (K : PySem.W.Frag) (C : Addr) (f : Str) : Sp := fun vs H Q _ => ∃ (a : Addr) (v : V), vs = [.ref a, v] ∧ H a = some (exo a C none) ∧ (v = .non ∨ ∃ i : Int, v = .int i ∧ 0 ≤ i ∧ i ≤ 1000) ∧
  ∀ dx, H dx = none → dx ≠ a → Q .non (upd (upd H dx (exd dx [(f, v)])) a (exo a C (some dx)))
/-- the error x of that field -/
def EOwn (K : PySem.W.Frag) (x f : Str) (v : V) (σ : L2.St) (H : Hp) (W : WX) : Prop := ∀ d, H d = none → W (.ref (He.ga K x)) (some d) σ (upd H d (.xd [(f, v)]))
/-- what is wished of the field's value ahead of the raise -/
def OwnWish (K : PySem.W.Frag) (x f : Str) (W : WX) (σ : L2.St) : VK := fun v H1 => [v].length ≤ 1000 ∧ ∀ a, H1 a = none → spInit K (He.ga K x) f (.ref a :: ([v] ++ [])) (upd H1 a (exo a (He.ga K x) none))
  (fun u H2 => u = .non ∧ ∃ (d : Addr) (fs : List (Str × V)), H2 a = some (exo a (He.ga K x) (some d)) ∧ H2 d = some (exd d fs) ∧ H1 d = none ∧ W (.ref (He.ga K x)) (some d) σ (upd (L2.del H2 a) d (.xd fs))) (fun _ _ _ => False)
theorem del_upd {H1 : Hp} {a dx : Addr} {o u w : HO} (ha : H1 a = none) (ne : dx ≠ a) : upd (L2.del (upd (upd (upd H1 a o) dx u) a w) a) dx u = upd H1 dx u := by
  funext b
  by_cases hb : b = dx
  · subst hb
    rw [upd_same, upd_same]
  · rw [upd_ne hb, upd_ne hb]
    by_cases h2 : b = a
    · subst h2
      rw [del_same, ha]
    · rw [del_ne h2, upd_ne h2, upd_ne hb, upd_ne h2]
theorem OwnWish.mk {K : PySem.W.Frag} {x f : Str} {W : WX} {σ : L2.St} {v : V} {H1 : Hp} (hv : v = .non ∨ ∃ i : Int, v = .int i ∧ 0 ≤ i ∧ i ≤ 1000) (h : EOwn K x f v σ H1 W) : OwnWish K x f W σ v H1 := by
  refine ⟨by show 1 ≤ 1000; decide, fun a na => ⟨a, v, rfl, upd_same, hv, fun dx ndx ne => ⟨rfl, dx, [(f, v)], upd_same, ?_, ?_, ?_⟩⟩⟩
  · rw [upd_ne ne, upd_same]
  · rw [upd_ne ne] at ndx
    exact ndx
  · have nd : H1 dx = none := by
      rw [upd_ne ne] at ndx
      exact ndx
    have e : upd (L2.del (upd (upd (upd H1 a (exo a (He.ga K x) none)) dx (exd dx [(f, v)])) a (exo a (He.ga K x) (some dx))) a) dx (.xd [(f, v)]) = upd H1 dx (.xd [(f, v)]) := by
      funext b
      by_cases hb : b = dx
      · subst hb
        rw [upd_same, upd_same]
      · rw [upd_ne hb, upd_ne hb]
        by_cases h2 : b = a
        · subst h2
          rw [del_same, na]
        · rw [del_ne h2, upd_ne h2, upd_ne hb, upd_ne h2]
    rw [e]
    exact h dx nd
def tRzO (K : PySem.W.Frag) (x f : Str) (W : WX) (te : TE) : TS := fun _ σ H => te σ H (OwnWish K x f W σ)
section
variable {X : Cx} {k : Nat} {x f : Str} {te : TE} {e : Expr} {p pos : Pos} {W : WX} {fdI : FuncData} {qs : List Str}
theorem ps_rzO {pos2 : Pos} (hc : X.calm = true) (tk : Takes X W) (m : OwK X.K X.mg x f) (F : FnOk X.prog X.w X.K X.mg X.base CX0 k (He.ma X.K (He.ga X.K x) "__init__") fdI qs (spInit X.K (He.ga X.K x) f)) (hb : Binds X.K fdI qs [])
    (hr : Room (k + 1) X.A) (hg : Gl X x) (ha : PA X [e] (tCons te tNil)) (hdb : (x == ("__debug__" : Str)) = false := by decide)
    (hs : starEach [e] X.env = (false, eval e X.env) :: starEach [] X.env := by rfl) (hpl : (backTo pos (starEach [] X.env)).any (·.1) = false := by rfl) :
    PS X (.Raise (some (.Call (.Name x p) [e] [] pos)) none pos2) (tRzO X.K x f W te) :=
  ps_raise (pos := pos2) hc tk (pmk_oex (X := X) (dvs := []) (ds := []) m.o m.i m.t F hr hb .nil pass0 hg m.g ha hdb hs hpl)
end
end Sw

set_option Elab.async false
set_option linter.all false
set_option maxRecDepth 100000
set_option maxHeartbeats 4000000
namespace Sw
open PySem PySem.Spec PyProof.Rows L2
/-! ## first, *rest = a list that is not empty -/
section
variable {prog : Program} {w : World} {A : Around} {E : Value → Shared → Prop} {s : Shared}
theorem unpack_head {l : Addr} {u : Value} {us : List Value} {Q : List Value → Shared → Prop} (hl : s.heap.IsList l (u :: us).toArray) (hh : A.handled = none) (hz : us.length < 1000000)
    (h : ∀ (h2 : Heap) (tk : Nat), (∀ b o, s.heap.get? b = some o → h2.get? b = some o) →
      Q [u, .ref h2.objs.size] { s with heap := h2.push { cls := .type "list", data := .seq us.toArray }, toks := tk }) : wpAny (model prog w) A (unpackItems (.ref l) 2 (some 1)) Q E s := by
  have ne : l ≠ s.heap.objs.size := by
    obtain ⟨o, ho, _⟩ := hl
    exact Nat.ne_of_lt (Heap.lt_size ho)
  have size : (u :: us).toArray.size = us.length + 1 := by rw [List.size_toArray, List.length_cons]
  unfold unpackItems notIterableAtAll
  refine wpAny_bind (wpAny_bind ?_)
  refine wpAny_specialOf hl.typeIs slot_list_iter.lookup ?_
  refine wpAny_pure ?_
  simp only [Bool.false_eq_true, if_false]
  refine wpAny_bind (wpAny_holding (wpAny_pyIter_list hl ?_))
  refine wpAny_bind (wpAny_holding ?_)
  refine PySem.W.kun_draw ne 1 0 _ _ ⟨_, Heap.get?_push_size _ rfl, rfl, rfl⟩ (hl.push _) (by rw [size]; omega) fun h1 it1 sb1 => ?_
  have hl1 : h1.IsList l (u :: us).toArray := (hl.push _).extBut sb1.extBut ne
  have itx := it1
  obtain ⟨oi, hoi, _⟩ := itx
  have hlx := hl1
  obtain ⟨ol, hol, _⟩ := hlx
  show wpAny _ _ (if [u].length < 1 then _ else _) _ _ _
  rw [if_neg (show ¬ [u].length < 1 from fun z => absurd z (by show ¬ 1 < 1; omega))]
  refine wpAny_bind (wpAny_holding ?_)
  refine PySem.W.kun_collect (s := { s with heap := h1 }) (T := "list_iterator") (.inr (.inr (.inl rfl))) (Walks.list (A := A.in1) hh s.heap.objs.size l ne (u :: us).toArray) (fun j v st => st.1.typeIs) (k := 1) (by rw [size]; omega)
    ⟨it1, hl1⟩ (Heap.lt_size hoi) (Heap.lt_size hol) (fun h2 tk k2 => ?_) (by rw [size]; exact small_line (by omega))
  show wpAny _ _ (if us.length < 0 then _ else _) _ _ _
  rw [if_neg (Nat.not_lt_zero _)]
  have stay : ∀ b o, s.heap.get? b = some o → h2.get? b = some o := fun b o e => by
    have lt := Heap.lt_size e
    have nb : b ≠ s.heap.objs.size := Nat.ne_of_lt lt
    exact k2 b o nb (sb1.extBut b o nb (Heap.get?_push_of_some _ e))
  show wpAny _ _ (newList (us.take (us.length - 0)) >>= fun d => pure ([u] ++ [d] ++ us.drop (us.length - 0))) _ _ _
  rw [Nat.sub_zero, List.take_length, List.drop_length]
  refine wpAny_bind (wpAny_newObj_type ?_ (by show us.toArray.size ≤ sizeLine; rw [List.size_toArray]; exact small_line (by omega)))
  exact wpAny_pure (h h2 tk stay)
end
/-- first, *rest = a list -/
def gHead (K : PySem.W.Frag) (t : TGs) : TG := fun v σ H Q => ∃ (a : Addr) (x : V) (xs : List V), v = .ref a ∧ SqL K H a (x :: xs) ∧ xs.length < 1000000 ∧ ∀ p, H p = none → t [x, .ref p] σ (upd H p (.lst xs)) Q
section
variable {X : Cx} {pos : Pos}
theorem pg_head {es : List Expr} {k : Nat} {t : TGs} (hc : X.calm = true) (h : PGs X es t) (hn : (assignEach es X.env).length = 2 := by rfl) (hst : (assignEach es X.env).findIdx? (·.1) = some 1 := by rfl) :
    PG X (.Tuple es k pos) (gHead X.K t) := by
  refine ⟨fun pins s σ H v u Q I r hw => ?_⟩
  obtain ⟨a, x, xs, rfl, hq, hz, hw⟩ := hw
  cases r
  obtain ⟨its, rv, pl, _⟩ := I.list hq
  cases rv with
  | @cons _ u0 _ us r0 rs =>
    have hl := rs.length
    rw [PyProof.Rows.assign_Tuple]
    refine wpAny_bind (wpAny_standAt ?_)
    unfold unpack
    rw [hn, hst]
    refine wpAny_bind (wpAny_holding (unpack_head pl.isList (I.ok.hd hc) (by omega) fun h2 tk st => ?_))
    have I1 : Inv X pins σ H { s with heap := h2, toks := tk } := I.kept (t' := tk) st
    have I2 := I1.laid (t' := tk) (a := h2.objs.size) (o := .lst xs) (h' := h2.push { cls := .type "list", data := .seq us.toArray }) (fun b o q => Heap.get?_push_of_some _ q) (Nat.le_refl _)
      ⟨small_line (by omega), us, 0, rs, Heap.get?_push_size _ rfl⟩
    exact h.run pins _ σ _ [x, .ref h2.objs.size] [u0, .ref h2.objs.size] Q I2 (.cons r0 (.cons rfl .nil)) (hw _ (I1.hok.fresh (Nat.le_refl _)))
/-- *words among targets: the name in it -/
theorem pgs_star {e : Expr} {es : List Expr} {p : Pos} {t : TG} {u : TGs} (h1 : PG X e t) (h2 : PGs X es u)
    (hs : (assignEach (.Starred e p :: es) X.env).map (·.2) = assign e X.env :: (assignEach es X.env).map (·.2) := by rfl) : PGs X (.Starred e p :: es) (gCons t u) := by
  refine ⟨fun pins s σ H vs us Q I r h => ?_⟩
  obtain ⟨v, vr, rfl, h⟩ := h
  cases r with
  | cons r rr =>
    rw [hs]
    exact assignInOrder_cons (thn (h1.run pins s σ H _ _ _ I r h) fun _ s1 hq => by
      obtain ⟨σ1, H1, I1, q1⟩ := hq
      exact h2.run pins s1 σ1 H1 _ _ Q I1 rr q1)
end
end Sw

set_option Elab.async false
set_option linter.all false
set_option maxRecDepth 100000
set_option maxHeartbeats 4000000
namespace Sw
open PySem PySem.Spec PyProof.Rows L2
/-! ## Rows through a web -/
abbrev Row := List Int
def vis (r : Row) : List V := r.map V.int
def at0 (r : Row) (k : Nat) : Int := r.getD k 0
/-- one comparer -/
def goC (r : Row) (c : Cmp) : Row := if at0 r c.1 > at0 r c.2 then (r.set c.1 (at0 r c.2)).set c.2 (at0 r c.1) else r
def gone (cs : List Cmp) (r : Row) : Row := cs.foldl goC r
/-- the rows ahead of each comparer, and the last one -/
def trace : List Cmp → Row → List Row
  | [], r => [r]
  | c :: cs, r => r :: trace cs (goC r c)
theorem goC_len (r : Row) (c : Cmp) : (goC r c).length = r.length := by
  unfold goC
  split
  · rw [List.length_set, List.length_set]
  · rfl
theorem gone_len (cs : List Cmp) : ∀ r, (gone cs r).length = r.length := by
  induction cs with
  | nil => intro r; rfl
  | cons c cs ih =>
    intro r
    show (gone cs (goC r c)).length = r.length
    rw [ih, goC_len]
theorem gone_snoc (cs : List Cmp) (c : Cmp) (r : Row) : gone (cs ++ [c]) r = goC (gone cs r) c := by
  unfold gone
  rw [List.foldl_append] <;> rfl
theorem gone_take {cs : List Cmp} {i : Nat} {c : Cmp} (h : cs[i]? = some c) (r : Row) : gone (cs.take (i + 1)) r = goC (gone (cs.take i) r) c := by
  rw [List.take_add_one, h]
  exact gone_snoc _ _ _
theorem trace_len (cs : List Cmp) : ∀ r, (trace cs r).length = cs.length + 1 := by
  induction cs with
  | nil => intro r; rfl
  | cons c cs ih => intro r; show (trace cs (goC r c)).length + 1 = _; rw [ih] <;> rfl
theorem trace_snoc (cs : List Cmp) (c : Cmp) : ∀ r, trace (cs ++ [c]) r = trace cs r ++ [gone (cs ++ [c]) r] := by
  induction cs with
  | nil => intro r; rfl
  | cons d cs ih => intro r; show r :: trace (cs ++ [c]) (goC r d) = _; rw [ih] <;> rfl
theorem trace_take {cs : List Cmp} {i : Nat} {c : Cmp} (h : cs[i]? = some c) (r : Row) : trace (cs.take (i + 1)) r = trace (cs.take i) r ++ [gone (cs.take (i + 1)) r] := by
  rw [List.take_add_one, h]
  exact trace_snoc _ _ _
theorem trace_get (cs : List Cmp) : ∀ (r : Row) (i : Nat), i ≤ cs.length → (trace cs r)[i]? = some (gone (cs.take i) r) := by
  induction cs with
  | nil =>
    intro r i h
    have : i = 0 := by simpa using h
    subst this
    rfl
  | cons c cs ih =>
    intro r i h
    cases i with
    | zero => rfl
    | succ i =>
      show (trace cs (goC r c))[i]? = _
      rw [ih (goC r c) i (by simpa using h)] <;> rfl
theorem trace_last (cs : List Cmp) (r : Row) : (trace cs r)[cs.length]? = some (gone cs r) := by
  rw [trace_get cs r _ (Nat.le_refl _), List.take_length]
/-! ## Data: what == says -/
structure Enc {α : Type} [DecidableEq α] (enc : α → PyData) (k : Nat) : Prop where
  eq : ∀ a b, PyData.eqv (enc a) (enc b) = decide (a = b)
  lay : ∀ a, (enc a).canLay0 = true
  dep : ∀ a, (enc a).depth ≤ k
theorem Enc.shaped {α : Type} [DecidableEq α] {enc : α → PyData} {k : Nat} (h : Enc enc k) (hk : k ≤ 64) (a : α) : SeqAt.shaped (enc a) = true := by
  unfold SeqAt.shaped
  rw [h.lay a, decide_eq_true (Nat.le_trans (h.dep a) hk)] <;> rfl
def dL {α : Type} (enc : α → PyData) (xs : List α) : PyData := .list (xs.map enc)
theorem enc_all {α : Type} [DecidableEq α] {enc : α → PyData} {k : Nat} (h : Enc enc k) : ∀ xs ys : List α, PyData.eqvAll (xs.map enc) (ys.map enc) = decide (xs = ys)
  | [], [] => by simp [PyData.eqvAll]
  | [], _ :: _ => by simp [PyData.eqvAll]
  | _ :: _, [] => by simp [PyData.eqvAll]
  | x :: xs, y :: ys => by
    show (PyData.eqv (enc x) (enc y) && PyData.eqvAll (xs.map enc) (ys.map enc)) = _
    rw [h.eq, enc_all h xs ys, ← Bool.decide_and]
    congr 1
    simp
theorem lay_all {α : Type} {enc : α → PyData} (h : ∀ a, (enc a).canLay0 = true) : ∀ xs : List α, PyData.canLayAll0 (xs.map enc) = true
  | [] => rfl
  | x :: xs => by
    show ((enc x).canLay0 && PyData.canLayAll0 (xs.map enc)) = true
    rw [h x, lay_all h xs] <;> rfl
theorem dep_all {α : Type} {enc : α → PyData} {k : Nat} (h : ∀ a, (enc a).depth ≤ k) : ∀ xs : List α, PyData.depthAll (xs.map enc) ≤ k
  | [] => Nat.zero_le _
  | x :: xs => by
    show max (enc x).depth (PyData.depthAll (xs.map enc)) ≤ k
    have := h x
    have := dep_all h xs
    omega
theorem Enc.list {α : Type} [DecidableEq α] {enc : α → PyData} {k : Nat} (h : Enc enc k) : Enc (dL enc) (k + 1) where
  eq := fun a b => enc_all h a b
  lay := fun a => lay_all h.lay a
  dep := fun a => by
    show PyData.depthAll (a.map enc) + 1 ≤ k + 1
    have := dep_all h.dep a
    omega
theorem enc_int : Enc PyData.int 0 where
  eq := fun a b => by
    show (a == b) = _
    rw [Bool.beq_eq_decide_eq]
  lay := fun _ => rfl
  dep := fun _ => Nat.le_refl _
def dI : Row → PyData := dL PyData.int
theorem enc_row : Enc dI 1 := enc_int.list
def dC (c : Cmp) : PyData := .tuple [.int (c.1 : Int), .int (c.2 : Int)]
theorem enc_cmp : Enc dC 1 where
  eq := fun a b => by
    obtain ⟨a1, a2⟩ := a
    obtain ⟨b1, b2⟩ := b
    show (((a1 : Int) == (b1 : Int)) && (((a2 : Int) == (b2 : Int)) && true)) = _
    rw [Bool.and_true, Bool.beq_eq_decide_eq, Bool.beq_eq_decide_eq, ← Bool.decide_and]
    congr 1
    simp only [Prod.mk.injEq, Int.natCast_inj]
  lay := fun _ => rfl
  dep := fun _ => Nat.le_refl _
def dCs : List Cmp → PyData := dL dC
theorem enc_cmps : Enc dCs 2 := enc_cmp.list
def dRs : List Row → PyData := dL dI
theorem enc_rows : Enc dRs 2 := enc_row.list
section
variable {K : PySem.W.Frag} {H : Hp}
theorem dp_ints : ∀ r : Row, DpAll K H (vis r) (r.map PyData.int)
  | [] => .nil
  | i :: r => .cons (.int i) (dp_ints r)
theorem dp_row {a : Addr} {r : Row} (h : SqL K H a (vis r)) : Dp K H (.ref a) (dI r) := .lst h (dp_ints r)
theorem dp_cmp {p : Addr} {c : Cmp} (h : SqT K H p (V2 c)) : Dp K H (.ref p) (dC c) := .tup h (.cons (.int _) (.cons (.int _) .nil))
theorem dp_prs {ps : List Addr} {cs : List Cmp} (h : Prs K H ps cs) : DpAll K H (Rfs ps) (cs.map dC) := by
  induction h with
  | nil => exact .nil
  | cons r _ ih => exact .cons (dp_cmp r) ih
theorem dp_web {a : Addr} {ps : List Addr} {cs : List Cmp} (h : SqL K H a (Rfs ps)) (hp : Prs K H ps cs) : Dp K H (.ref a) (dCs cs) := .lst h (dp_prs hp)
abbrev Rws (K : PySem.W.Frag) (H : Hp) (qs : List Addr) (rs : List Row) : Prop := All2 (fun q r => SqL K H q (vis r)) qs rs
theorem dp_rws {qs : List Addr} {rs : List Row} (h : Rws K H qs rs) : DpAll K H (Rfs qs) (rs.map dI) := by
  induction h with
  | nil => exact .nil
  | cons r _ ih => exact .cons (dp_row r) ih
theorem dp_rows {a : Addr} {qs : List Addr} {rs : List Row} (h : SqL K H a (Rfs qs)) (hp : Rws K H qs rs) : Dp K H (.ref a) (dRs rs) := .lst h (dp_rws hp)
end
theorem Same.rws {K : PySem.W.Frag} {H H' : Hp} {qs : List Addr} {rs : List Row} (e : Same H H') (h : Rws K H qs rs) : Rws K H' qs rs := h.imp fun _ _ r => Same.seq e r
/-- lists of one's own, new behind H0 -/
abbrev Own (H0 H : Hp) (qs : List Addr) (rs : List Row) : Prop := All2 (fun q r => H0 q = none ∧ H q = some (.lst (vis r))) qs rs
theorem Own.rws {K : PySem.W.Frag} {H0 H : Hp} {qs : List Addr} {rs : List Row} (h : Own H0 H qs rs) : Rws K H qs rs := h.imp fun _ _ r => .inl (.inl r.2)
theorem Own.same {H0 H H' : Hp} {qs : List Addr} {rs : List Row} (e : Same H H') (h : Own H0 H qs rs) : Own H0 H' qs rs := h.imp fun _ _ r => ⟨r.1, e _ _ r.2⟩
theorem Own.back {H0 H1 H : Hp} {qs : List Addr} {rs : List Row} (e : Same H0 H1) (h : Own H1 H qs rs) : Own H0 H qs rs := h.imp fun _ _ r => ⟨e.free r.1, r.2⟩
theorem ints_at {r : Row} {k : Nat} (h : k < r.length) : (vis r)[k]? = some (.int (at0 r k)) := by
  unfold vis at0
  rw [List.getElem?_map, List.getElem?_eq_getElem h, List.getD_eq_getElem?_getD, List.getElem?_eq_getElem h] <;> rfl
theorem ints_set (r : Row) (k : Nat) (z : Int) : (vis r).set k (.int z) = vis (r.set k z) := by
  unfold vis
  rw [List.map_set]
theorem ints_len (r : Row) : (vis r).length = r.length := List.length_map ..
theorem row_ne {H : Hp} {q f : Addr} {r : Row} {qs : List Addr} (h : H q = some (.lst (vis r))) (hf : H f = some (.lst (Rfs qs))) (hr : r ≠ []) : q ≠ f := fun e => by
  subst e
  rw [h] at hf
  cases r with
  | nil => exact hr rfl
  | cons x r =>
    cases qs with
    | nil => cases hf
    | cons y qs => cases hf
theorem Own.upd {H0 H : Hp} {qs qs' : List Addr} {rs : List Row} {f : Addr} {o : HO} (h : Own H0 H qs rs) (hf : H f = some (.lst (Rfs qs'))) (hr : ∀ r ∈ rs, r ≠ []) : Own H0 (L2.upd H f o) qs rs := by
  induction h with
  | nil => exact .nil
  | cons r _ ih =>
    refine .cons ⟨r.1, ?_⟩ (ih fun r hr' => hr r (List.mem_cons_of_mem _ hr'))
    rw [upd_ne (row_ne r.2 hf (hr _ List.mem_cons_self))]
    exact r.2
theorem ne_of_len {r : Row} {n : Nat} (h : r.length = n) (hn : 1 ≤ n) : r ≠ [] := fun e => by
  subst e
  simp at h
  omega
theorem trace_all (cs : List Cmp) : ∀ (r s : Row), s ∈ trace cs r → s.length = r.length := by
  induction cs with
  | nil =>
    intro r s h
    rw [List.mem_singleton.mp h]
  | cons c cs ih =>
    intro r s h
    rcases List.mem_cons.mp h with e | h
    · rw [e]
    · rw [ih (goC r c) s h, goC_len]
section
variable {K : PySem.W.Frag} {σ : L2.St} {H : Hp} {D : Ends} {tb : TS} {j1 : Nat}
/-- for i in range(lo, hi, c): n turns -/
theorem for_rng3 {ta : TA} {lo hi c : Int} {n : Nat} (ht : ∀ Q, Q [V.int lo, V.int hi, V.int c] H → ta σ H Q) (hn : RgC lo hi c n) (Pv : Nat → L2.St → Hp → Prop) (h0 : Pv 0 σ H)
    (turn : ∀ (i : Nat) σ H, i < n → Pv i σ H → tb { D with nx := Pv (i + 1), ct := Pv (i + 1), bk := D.nx } (σ.set j1 (some (.int (lo + (i : Int) * c)))) H)
    (done : ∀ σ H, Pv n σ H → D.nx σ H) : tFor (iRng3 ta) (gName j1) tb D σ H := by
  refine ht _ ⟨lo, hi, c, n, rfl, hn, it_for (n := n) Pv h0 (fun i σ H hi p => hi) (fun σ H p => Nat.le_refl _) (fun i σ H hi p v H' y => ?_) done⟩
  obtain ⟨rfl, rfl⟩ := y
  exact turn i σ H' hi p
end
/-- a drawn item of four -/
theorem pick4 {a b c d : V} {n : Int} (h : 0 ≤ n) : ∃ v, atI [a, b, c, d] (n % 4) = some v ∧ (v = a ∨ v = b ∨ v = c ∨ v = d) := by
  have e : n % 4 = ((0 : Nat) : Int) ∨ n % 4 = ((1 : Nat) : Int) ∨ n % 4 = ((2 : Nat) : Int) ∨ n % 4 = ((3 : Nat) : Int) := by omega
  rcases e with e | e | e | e <;> rw [e]
  · exact ⟨a, rfl, .inl rfl⟩
  · exact ⟨b, rfl, .inr (.inl rfl)⟩
  · exact ⟨c, rfl, .inr (.inr (.inl rfl))⟩
  · exact ⟨d, rfl, .inr (.inr (.inr rfl))⟩
/-- an open place of a list -/
theorem drawn_at {n m : Int} (h : 0 < m) : ∃ k : Nat, n % m = (k : Int) ∧ (k : Int) < m := by
  have a0 := Int.emod_nonneg n (Int.ne_of_gt h)
  have a1 := Int.emod_lt_of_pos n h
  exact ⟨(n % m).toNat, by omega, by omega⟩
section
variable {K : PySem.W.Frag} {σ : L2.St} {H : Hp} {D : Ends} {tb : TS} {te : TE} {a b : Addr} {xs ys : List V} {j1 j2 : Nat} {Q : VK}
/-- for j1, j2 in enumerate(..), the list come to a -/
theorem enum_in (hx : SqL K H a xs) (Pv : Nat → L2.St → Hp → Prop) (h0 : Pv 0 σ H) (hl : ∀ i σ H, i ≤ xs.length → Pv i σ H → SqL K H a xs)
    (turn : ∀ i x σ H H', xs[i]? = some x → i < xs.length → Pv i σ H → Same H H' → tb { D with nx := Pv (i + 1), ct := Pv (i + 1), bk := D.nx } ((σ.set j1 (some (.int (i : Int)))).set j2 (some x)) H')
    (done : ∀ σ H, Pv xs.length σ H → D.nx σ H) :
    ∃ a' xs', [V.ref a] = [V.ref a'] ∧ SqL K H a' xs' ∧ ∃ W : Nat → Nat → L2.St → Hp → Prop, (∃ m, W 0 m σ H) ∧ ∀ i m σ H, W i m σ H → ((Ite K a').stop i H ∧ D.nx σ H) ∨ ((Ite K a').go i H ∧ ∃ N : L2.St → Hp → Prop,
      (∀ σ' H', N σ' H' → ∃ m', m' < m ∧ W (i + 1) m' σ' H') ∧ ∀ x H', (Ite K a').yld i H x H' → gTup K 2 (gCons (gName j1) (gCons (gName j2) gNil)) x σ H' fun σ2 H2 => tb { D with nx := N, ct := N, bk := D.nx } σ2 H2) := by
  refine ⟨a, xs, rfl, hx, it_for (n := xs.length) Pv h0 (fun i σ H hi p => ?_) (fun σ H p => ?_) (fun i σ H hi p v H' y => ?_) done⟩
  · obtain ⟨x, hx⟩ := get_of hi
    exact ⟨xs, x, hl i σ H (Nat.le_of_lt hi) p, hx⟩
  · exact ⟨xs, hl _ σ H (Nat.le_refl _) p, Nat.le_refl _⟩
  · obtain ⟨T, x, rfl, nT, rfl, f⟩ := y
    exact g2_run (.inl (.inl upd_same)) (turn i x σ H _ (f xs (hl i σ H (Nat.le_of_lt hi) p)) hi p (same_new nT))
/-- [.. for j1, j2 in zip(x, y)], lists at a and b of one length -/
theorem lc_zip2 {tt : TT} {k1 k2 : Nat} {vs : List Nat} (h1 : σ[k1]? = some (some (.ref a))) (h2 : σ[k2]? = some (some (.ref b))) (hx : SqL K H a xs) (hy : SqL K H b ys) (hz : xs.length = ys.length)
    (hvs : ∀ v w, wipe (((wipe σ vs).set j1 v).set j2 w) vs = wipe σ vs)
    (G : Addr → Nat → List V → Hp → Prop) (h0 : ∀ D, H D = none → G D 0 [] (upd H D (.lst []))) (hl : ∀ D i acc H', H D = none → G D i acc H' → SqL K H' a xs ∧ SqL K H' b ys)
    (turn : ∀ D i x y acc H' H2, H D = none → xs[i]? = some x → ys[i]? = some y → i < xs.length → H' D = some (.lst acc) → G D i acc H' → Same H' H2 → Turn tt te D (G D) i (((wipe σ vs).set j1 (some x)).set j2 (some y)) H2)
    (done : ∀ D acc H', H D = none → H' D = some (.lst acc) → G D xs.length acc H' → Q (.ref D) H') :
    tLc (iZip K (tCons (tVar k1) (tCons (tVar k2) tNil))) (gTup K 2 (gCons (gName j1) (gCons (gName j2) gNil))) tt te vs σ H Q := by
  refine ⟨.ref a, h1, .ref b, h2, a, b, xs, ys, rfl, hx, hy, fun D nD => ?_⟩
  refine it_lc (n := xs.length) (So D (G D)) ⟨[], upd_same, h0 D nD⟩ (fun i H' hi p => ?_) (fun H' p => ?_) (fun i H' hi p v H2 y => ?_) (fun H' p => ?_)
  · obtain ⟨acc, _, g⟩ := p
    obtain ⟨x, gx⟩ := get_of hi
    obtain ⟨y, gy⟩ := get_of (xs := ys) (i := i) (by omega)
    obtain ⟨q1, q2⟩ := hl D _ _ _ nD g
    exact ⟨xs, ys, x, y, q1, q2, gx, gy⟩
  · obtain ⟨acc, _, g⟩ := p
    obtain ⟨q1, q2⟩ := hl D _ _ _ nD g
    exact ⟨xs, ys, q1, q2, .inl (Nat.le_refl _)⟩
  · obtain ⟨acc, hD, g⟩ := p
    obtain ⟨T, x, y, rfl, nT, rfl, f1, f2⟩ := y
    obtain ⟨q1, q2⟩ := hl D _ _ _ nD g
    exact g2_run (.inl (.inl upd_same)) ⟨hvs _ _, turn D i x y acc H' _ nD (f1 xs q1) (f2 ys q2) hi hD g (same_new (o := .tup [x, y]) nT)⟩
  · obtain ⟨acc, hD, g⟩ := p
    exact done D acc H' nD hD g
end
theorem atI_end {α : Type} {xs : List α} {v : α} {n : Nat} (h : xs[n]? = some v) (hl : xs.length = n + 1) : atI xs (-1) = some v := by
  have lt : n < xs.length := by omega
  have e : xs = xs.take n ++ [v] := by
    have h1 : xs.take (n + 1) = xs := List.take_of_length_le (by omega)
    rw [List.take_add_one, h] at h1
    exact h1.symm
  rw [e]
  exact atI_last _ _
theorem eqv_refl2 {α β : Type} [DecidableEq α] [DecidableEq β] {ea : α → PyData} {eb : β → PyData} {k l : Nat} (h1 : Enc ea k) (h2 : Enc eb l) (x : α) (y : β) : PyData.eqv (.list [ea x, eb y]) (.list [ea x, eb y]) = true := by
  show (PyData.eqv (ea x) (ea x) && (PyData.eqv (eb y) (eb y) && true)) = true
  rw [h1.eq, h2.eq, decide_eq_true rfl, decide_eq_true rfl] <;> rfl
theorem shaped2 {α β : Type} [DecidableEq α] [DecidableEq β] {ea : α → PyData} {eb : β → PyData} {k l : Nat} (h1 : Enc ea k) (h2 : Enc eb l) (hk : k ≤ 63) (hl : l ≤ 63) (x : α) (y : β) : SeqAt.shaped (.list [ea x, eb y]) = true := by
  have e1 := h1.dep x
  have e2 := h2.dep y
  have d : PyData.depth (.list [ea x, eb y]) ≤ 64 := by
    show max (ea x).depth (max (eb y).depth 0) + 1 ≤ 64
    omega
  have l1 : PyData.canLay0 (.list [ea x, eb y]) = true := by
    show ((ea x).canLay0 && ((eb y).canLay0 && true)) = true
    rw [h1.lay, h2.lay] <;> rfl
  unfold SeqAt.shaped
  rw [l1, decide_eq_true d] <;> rfl
/-- isinstance(x, T) of a list of ours -/
theorem isi_lst {K : PySem.W.Frag} {H : Hp} {a : Addr} {xs : List V} {Q : VK} (h : H a = some (.lst xs)) (q : Q (.bl true) H) : rIsi K [.ref a, .ty "list"] H Q :=
  ⟨.ref a, .ty "list", .type "list", .type "list", true, rfl, .ty _, .base (.lst h), kit_ty (by decide +kernel), q⟩
theorem isi_int_bool {K : PySem.W.Frag} {H : Hp} {z : Int} {Q : VK} (q : Q (.bl false) H) : rIsi K [.int z, .ty "bool"] H Q :=
  ⟨.int z, .ty "bool", .type "int", .type "bool", false, rfl, .ty _, .base (.int z), kit_ty (by decide +kernel), q⟩
theorem isi_int_int {K : PySem.W.Frag} {H : Hp} {z : Int} {Q : VK} (q : Q (.bl true) H) : rIsi K [.int z, .ty "int"] H Q :=
  ⟨.int z, .ty "int", .type "int", .type "int", true, rfl, .ty _, .base (.int z), kit_ty (by decide +kernel), q⟩
theorem Own.other {H0 H : Hp} {qs : List Addr} {rs : List Row} {p : Addr} {o o' : HO} (h : Own H0 H qs rs) (hp : H0 p = some o) : Own H0 (L2.upd H p o') qs rs := h.imp fun q r z => ⟨z.1, by rw [upd_ne (ne_of_none hp z.1).symm]; exact z.2⟩
end Sw

set_option Elab.async false
set_option linter.all false
set_option maxRecDepth 100000
set_option maxHeartbeats 4000000
namespace Sw
open PySem PySem.Spec PyProof.Rows L2
/-! ## Texts as lists of signs -/
def sg (x : Str) : List Nat := x.cps.toList
def tx (l : List Nat) : Str := ⟨l.toArray⟩
theorem sg_tx (l : List Nat) : sg (tx l) = l := rfl
theorem tx_sg (x : Str) : tx (sg x) = x := by
  obtain ⟨⟨l⟩⟩ := x
  rfl
theorem sg_inj {x y : Str} (h : sg x = sg y) : x = y := by rw [← tx_sg x, ← tx_sg y, h]
theorem sg_len (x : Str) : x.length = (sg x).length := by
  obtain ⟨⟨l⟩⟩ := x
  rfl
/-- where the sign c stands in l, counted from k -/
def hits (c : Nat) : List Nat → Nat → List Nat
  | [], _ => []
  | a :: l, k => if a = c then k :: hits c l (k + 1) else hits c l (k + 1)
open Builtin Builtin.Str in
theorem sub_one (x : Str) (c i : Nat) : (i + 1 ≤ x.length ∧ subAt x ⟨#[c]⟩ i = true) ↔ (sg x)[i]? = some c := by
  obtain ⟨⟨l⟩⟩ := x
  show (i + 1 ≤ l.length ∧ _) ↔ l[i]? = some c
  unfold subAt
  have e1 : (⟨#[c]⟩ : Str).length = 1 := rfl
  rw [e1]
  simp only [List.extract_toArray, beq_iff_eq]
  constructor
  · rintro ⟨h1, h2⟩
    have h3 : (List.extract l i (i + 1)) = [c] := by
      have := congrArg Array.toList h2
      simpa using this
    rw [List.extract_eq_drop_take] at h3
    have h4 : i < l.length := by omega
    rw [List.getElem?_eq_getElem h4]
    have h5 : (l.drop i).take (i + 1 - i) = [l[i]] := by
      rw [show i + 1 - i = 1 by omega, List.drop_eq_getElem_cons h4] <;> rfl
    rw [h5] at h3
    rw [List.cons.inj h3 |>.1]
  · intro h
    obtain ⟨h4, h5⟩ := List.getElem?_eq_some_iff.mp h
    refine ⟨by omega, ?_⟩
    have h6 : List.extract l i (i + 1) = [c] := by
      rw [List.extract_eq_drop_take, show i + 1 - i = 1 by omega, List.drop_eq_getElem_cons h4, h5] <;> rfl
    rw [h6]
open Builtin Builtin.Str in
theorem occ_run (x : Str) (c limit : Nat) : ∀ (r : List Nat) (k : Nat) (arr : Array Nat) (free : Nat), (sg x).drop k = r → free ≤ k →
    (forIn (List.range' k (r.length + 1)) (arr, free) (StrLaws.occBody x ⟨#[c]⟩ x.length limit)).run.fst.toList = arr.toList ++ (hits c r k).take (limit - arr.size)
  | [], k, arr, free, e, hf => by
    have hk : (sg x).length ≤ k := List.drop_eq_nil_iff.mp e
    rw [show List.range' k (([] : List Nat).length + 1) = [k] from rfl, List.forIn_cons]
    unfold StrLaws.occBody
    rw [if_neg (fun h => by
      have h2 : k + 1 ≤ x.length := h.1.2
      rw [sg_len] at h2
      omega)]
    show arr.toList = arr.toList ++ (hits c [] k).take (limit - arr.size)
    simp [hits]
  | a :: r, k, arr, free, e, hf => by
    have hk : (sg x)[k]? = some a := by
      have := congrArg (fun l => l[0]?) e
      simpa using this
    have e2 : (sg x).drop (k + 1) = r := by
      rw [← List.drop_drop, e] <;> rfl
    rw [show List.range' k ((a :: r).length + 1) = k :: List.range' (k + 1) (r.length + 1) from rfl, List.forIn_cons]
    unfold hits
    by_cases hc : a = c
    · subst hc
      rw [if_pos rfl]
      have h1 := (sub_one x a k).mpr hk
      by_cases hl : arr.size < limit
      · conv => lhs; unfold StrLaws.occBody
        rw [if_pos ⟨⟨⟨hl, hf⟩, h1.1⟩, h1.2⟩]
        have ih := occ_run x a limit r (k + 1) (arr.push k) (k + 1) e2 (Nat.le_refl _)
        refine Eq.trans ih ?_
        rw [Array.toList_push, Array.size_push, show limit - arr.size = (limit - (arr.size + 1)) + 1 by omega, List.take_succ_cons, List.append_assoc] <;> rfl
      · conv => lhs; unfold StrLaws.occBody
        rw [if_neg (fun h => hl h.1.1.1)]
        have ih := occ_run x a limit r (k + 1) arr free e2 (by omega)
        refine Eq.trans ih ?_
        rw [show limit - arr.size = 0 by omega, List.take_zero, List.take_zero]
    · rw [if_neg hc]
      conv => lhs; unfold StrLaws.occBody
      rw [if_neg (fun h => hc (Option.some.inj (hk.symm.trans ((sub_one x c k).mp ⟨h.1.2, h.2⟩))))]
      exact occ_run x c limit r (k + 1) arr free e2 (by omega)
theorem occ_sign (x : Str) (c limit : Nat) : Builtin.Str.occurrences x ⟨#[c]⟩ 0 x.length limit = (hits c (sg x) 0).take limit := by
  rw [StrLaws.occ_eq, sg_len, Nat.sub_zero]
  have h := occ_run x c limit (sg x) 0 #[] 0 rfl (Nat.le_refl _)
  rw [sg_len] at h
  simpa using h
theorem hits_len (c : Nat) : ∀ (l : List Nat) (k : Nat), (hits c l k).length ≤ l.length
  | [], _ => Nat.le_refl _
  | a :: l, k => by
    unfold hits
    have := hits_len c l (k + 1)
    split
    · rw [List.length_cons, List.length_cons]; omega
    · rw [List.length_cons]; omega
/-- l cut at each sign c -/
def cutOn (c : Nat) : List Nat → List (List Nat)
  | [] => [[]]
  | a :: l => if a = c then [] :: cutOn c l else match cutOn c l with
    | h :: t => (a :: h) :: t
    | [] => [[a]]
theorem cutOn_ne (c : Nat) : ∀ l, cutOn c l ≠ []
  | [] => by simp [cutOn]
  | a :: l => by
    unfold cutOn
    split
    · simp
    · split <;> simp
/-- p ahead of the first part -/
def ahead (p : List Nat) : List (List Nat) → List (List Nat)
  | h :: t => (p ++ h) :: t
  | [] => [p]
theorem extract_sg (x : Str) (i j : Nat) : sg (Builtin.Str.strSub x i j) = ((sg x).drop i).take (j - i) := by
  obtain ⟨⟨l⟩⟩ := x
  show (Array.extract l.toArray i j).toList = _
  rw [List.extract_toArray, List.extract_eq_drop_take] <;> rfl
theorem parts_run (x : Str) (c : Nat) : ∀ (r : List Nat) (s k : Nat), (sg x).drop k = r → s ≤ k →
    (((s :: (hits c r k).map (· + 1)).zip (hits c r k ++ [x.length])).map fun (q : Nat × Nat) => sg (Builtin.Str.strSub x q.1 q.2)) = ahead (((sg x).drop s).take (k - s)) (cutOn c r)
  | [], s, k, e, hs => by
    have hk : (sg x).length ≤ k := List.drop_eq_nil_iff.mp e
    show [sg (Builtin.Str.strSub x s x.length)] = [((sg x).drop s).take (k - s) ++ []]
    rw [extract_sg, sg_len, List.append_nil, List.take_of_length_le (by rw [List.length_drop]; omega), List.take_of_length_le (by rw [List.length_drop]; omega)]
  | a :: r, s, k, e, hs => by
    have hk : (sg x)[k]? = some a := by
      have := congrArg (fun l => l[0]?) e
      simpa using this
    have e2 : (sg x).drop (k + 1) = r := by
      rw [← List.drop_drop, e] <;> rfl
    unfold hits cutOn
    by_cases hc : a = c
    · rw [if_pos hc, if_pos hc]
      have ih := parts_run x c r (k + 1) (k + 1) e2 (Nat.le_refl _)
      show sg (Builtin.Str.strSub x s k) :: ((((k + 1) :: (hits c r (k + 1)).map (· + 1)).zip (hits c r (k + 1) ++ [x.length])).map fun (q : Nat × Nat) => sg (Builtin.Str.strSub x q.1 q.2)) = _
      rw [ih, extract_sg, Nat.sub_self, List.take_zero]
      show _ = (((sg x).drop s).take (k - s) ++ []) :: cutOn c r
      rw [List.append_nil]
      congr 1
      have := cutOn_ne c r
      revert this
      cases cutOn c r with
      | nil => intro h; exact absurd rfl h
      | cons h t => intro _; rfl
    · rw [if_neg hc, if_neg hc]
      have ih := parts_run x c r s (k + 1) e2 (by omega)
      rw [ih]
      have pre : ((sg x).drop s).take (k + 1 - s) = ((sg x).drop s).take (k - s) ++ [a] := by
        rw [show k + 1 - s = (k - s) + 1 by omega, List.take_add_one]
        congr 1
        rw [List.getElem?_drop, show s + (k - s) = k by omega, hk] <;> rfl
      rw [pre]
      have := cutOn_ne c r
      revert this
      cases cutOn c r with
      | nil => intro h; exact absurd rfl h
      | cons h t =>
        intro _
        show ((((sg x).drop s).take (k - s) ++ [a]) ++ h) :: t = (((sg x).drop s).take (k - s) ++ (a :: h)) :: t
        rw [List.append_assoc] <;> rfl
/-- text.split(sign) -/
theorem split_sign (x : Str) (c : Nat) (hc : c < 256) : (Txt.split x ⟨#[c]⟩).map sg = cutOn c (sg x) := by
  have kind : Builtin.Str.strKind (⟨#[c]⟩ : Str) = 1 := by
    unfold Builtin.Str.strKind
    rw [if_pos (by simp [hc])]
  have pos : ∀ y : Str, 1 ≤ Builtin.Str.strKind y := fun y => by
    unfold Builtin.Str.strKind
    split
    · exact Nat.le_refl _
    · split <;> decide
  have many : (hits c (sg x) 0).take (x.length + 1) = hits c (sg x) 0 := List.take_of_length_le (by rw [sg_len]; exact Nat.le_succ_of_le (hits_len c _ 0))
  have run := parts_run x c (sg x) 0 0 rfl (Nat.le_refl _)
  have start : ahead (((sg x).drop 0).take (0 - 0)) (cutOn c (sg x)) = cutOn c (sg x) := by
    rw [Nat.sub_self, List.take_zero]
    have := cutOn_ne c (sg x)
    revert this
    cases cutOn c (sg x) with
    | nil => intro h; exact absurd rfl h
    | cons h t => intro _; rfl
  rw [start] at run
  unfold Txt.split
  rw [occ_sign, many]
  have zero : hits c (sg x) 0 = [] → [x].map sg = cutOn c (sg x) := fun h => by
    rw [h] at run
    rw [← run]
    show [sg x] = [sg (Builtin.Str.strSub x 0 x.length)]
    rw [extract_sg, List.drop_zero, Nat.sub_zero, sg_len, List.take_length]
  split
  · rename_i h
    have h2 : x.length < 1 := by
      have h3 := pos x
      simp only [Bool.or_eq_true, decide_eq_true_eq] at h
      rcases h with h | h
      · exact h
      · rw [kind] at h
        omega
    refine zero ?_
    have := hits_len c (sg x) 0
    rw [← sg_len] at this
    exact List.eq_nil_of_length_eq_zero (by omega)
  · split
    · rename_i h
      refine zero ?_
      simpa using h
    · unfold Builtin.Str.partsBetween
      rw [List.map_map]
      exact run
/-- text.partition(sign) -/
def part1 (c : Nat) : List Nat → List Nat × Bool × List Nat
  | [] => ([], false, [])
  | a :: l => if a = c then ([], true, l) else (a :: (part1 c l).1, (part1 c l).2.1, (part1 c l).2.2)
theorem hits_head (c : Nat) : ∀ (l : List Nat) (k : Nat), (hits c l k = [] → part1 c l = (l, false, [])) ∧ ∀ i t, hits c l k = i :: t → k ≤ i ∧ part1 c l = (l.take (i - k), true, l.drop (i - k + 1))
  | [], k => ⟨fun _ => rfl, fun i t h => nomatch h⟩
  | a :: l, k => by
    have ih := hits_head c l (k + 1)
    unfold hits part1
    by_cases hc : a = c
    · rw [if_pos hc, if_pos hc]
      refine ⟨(fun h => nomatch h), fun i t h => ?_⟩
      obtain ⟨rfl, rfl⟩ := List.cons.inj h
      refine ⟨Nat.le_refl _, ?_⟩
      rw [Nat.sub_self] <;> rfl
    · rw [if_neg hc, if_neg hc]
      refine ⟨fun h => ?_, fun i t h => ?_⟩
      · rw [ih.1 h]
      · obtain ⟨h1, h2⟩ := ih.2 i t h
        refine ⟨by omega, ?_⟩
        rw [h2, show i - k = (i - (k + 1)) + 1 by omega, List.take_succ_cons, List.drop_succ_cons]
theorem partition_sign (x : Str) (c : Nat) : sg (Txt.partition x ⟨#[c]⟩).1 = (part1 c (sg x)).1 ∧ (Txt.partition x ⟨#[c]⟩).2.1 = (if (part1 c (sg x)).2.1 = true then ⟨#[c]⟩ else Str.empty) ∧ sg (Txt.partition x ⟨#[c]⟩).2.2 = (part1 c (sg x)).2.2 := by
  have hh := hits_head c (sg x) 0
  unfold Txt.partition
  rw [occ_sign]
  cases e : hits c (sg x) 0 with
  | nil =>
    rw [List.take_nil, hh.1 e]
    exact ⟨rfl, rfl, rfl⟩
  | cons i t =>
    rw [List.take_succ_cons]
    obtain ⟨_, h2⟩ := hh.2 i t e
    rw [Nat.sub_zero] at h2
    rw [h2]
    refine ⟨?_, rfl, ?_⟩
    · show sg (Builtin.Str.strSub x 0 i) = _
      rw [extract_sg, List.drop_zero, Nat.sub_zero]
    · show sg (Builtin.Str.strSub x (i + 1) x.length) = _
      rw [extract_sg, sg_len, List.take_of_length_le (by rw [List.length_drop]; exact Nat.le_refl _)]
end Sw

set_option Elab.async false
set_option linter.all false
set_option maxRecDepth 100000
set_option maxHeartbeats 4000000
namespace Sw
open PySem PySem.Spec PyProof.Rows L2
/-! ## A caught error: come down to the ground -/
theorem fly_keep {g B g' : Heap} {l : List Env} {a : Addr} {Z : Obj → Prop} (f : HandSPX.FlyingZ B l a Z g) (k : ∀ b o, g.get? b = some o → g'.get? b = some o) : HandSPX.FlyingZ B l a Z g' := by
  obtain ⟨q1, q2, q3, ob, ws, T, oT, tr, y1, y2, y3, y4, y5, y6, y7, y8, y9⟩ := f
  exact ⟨fun b o e => k b o (q1 b o e), q2, q3.of_keeps fun b o e _ => ⟨o, k b o e, rfl⟩, ob, ws, T, oT, tr, k _ _ y1, y2, y3, y4, y5, y6, k _ _ y7, y8, y9⟩
/-- what holds of the error at a, once it is noted -/
structure Down (X : Cx) (pins : List (Addr × Obj)) (σ : L2.St) (H : Hp) (a : Addr) (Z : Obj → Prop) (s : Shared) : Prop where
  at_ : ∃ ob ws, s.heap.get? a = some ob ∧ Z ob ∧ ob.data = .fields ws
  inv : Inv X pins σ H s
  nl : a ≠ X.env.locals
  nf : a ∉ X.fs
  n0 : X.s_0.heap.get? a = none
  np : ∀ p ∈ X.pn ++ pins, p.1 ≠ a
section
variable {X : Cx} {pins : List (Addr × Obj)} {σ : L2.St} {H : Hp} {a : Addr} {Z : Obj → Prop}
theorem down_of {B g : Heap} {r t : Shared} (hx : X.ex = []) (hf : X.env.frame = some X.env.locals) (hs : X.stack = X.env :: X.outer) (I : Inv X pins σ H r) (nb : ∀ b o, r.heap.get? b = some o → b ∉ frs X.stack → B.get? b = some o)
    (up : r.heap.UpToSlots g) (eo : t.os = r.os) (eg : AllBare t.gens) (fl : HandSPX.FlyingZ B (X.env :: X.outer) a Z g) : Down X pins σ H a Z { t with heap := g } := by
  obtain ⟨ob, ws, e1, e2, e3⟩ := fl.there
  have out : a ∉ frs (X.env :: X.outer) := fun hm => by
    obtain ⟨_, o, e, nd⟩ := (show g.FunFrames B (X.env :: X.outer) from fl.2.2.1).mem hm
    rw [e1] at e
    cases e
    exact nd _ e3
  have gone : ∀ o, r.heap.get? a = some o → False := fun o e => by
    have z := nb a o e (by rw [hs]; exact out)
    rw [fl.2.1] at z
    cases z
  refine ⟨⟨ob, ws, e1, e2, e3⟩, I.landed (s' := { t with heap := g }) nb fl.1 up eo eg, fun z => out ?_, fun z => out ?_, ?_, fun p hp z => ?_⟩
  · exact List.mem_filterMap.mpr ⟨X.env, List.mem_cons_self, by rw [hf, z]⟩
  · obtain ⟨e, he, q⟩ := List.mem_filterMap.mp z
    exact List.mem_filterMap.mpr ⟨e, List.mem_cons_of_mem _ he, q⟩
  · cases e : X.s_0.heap.get? a with
    | none => rfl
    | some o =>
      obtain ⟨o', q⟩ := I.base.there a o e (by rw [hx]; exact fun z => nomatch z)
      exact (gone o' q).elim
  · exact gone p.2 (by rw [← z]; exact (I.pin p hp).1)
/-- an error that stands at a: its class, its dict -/
def ErO (cls : Value) (d : Option Addr) (a : Addr) : HO := .ext fun g => ∃ (ob : Obj) (ws : Array Value), g.get? a = some ob ∧ Zc cls d ob ∧ ob.data = .fields ws
theorem track {s : Shared} {cls : Value} {d : Option Addr} {ob : Obj} {ws : Array Value} (I : Inv X pins σ H s) (e : s.heap.get? a = some ob) (z : Zc cls d ob) (ed : ob.data = .fields ws) (na : H a = none) (nl : a ≠ X.env.locals) (n0 : X.s_0.heap.get? a = none)
    (np : ∀ p ∈ X.pn ++ pins, p.1 ≠ a) : Inv X pins σ (upd H a (ErO cls d a)) s := by
  have ne0 : ∀ b o, X.s_0.heap.get? b = some o → b ≠ a := fun b o q y => by
    rw [y, n0] at q
    cases q
  have neH : ∀ b u, H b = some u → b ≠ a := fun b u q => ne_of_none q na
  refine ⟨I.ok, I.os, I.bare, ⟨I.base.keep, I.base.slot, fun b o q n x => ?_, I.base.there, fun b xs q => ?_, fun b o u q => ?_, fun b ps q => ?_⟩, I.loc, I.cell, ?_, fun x c q => ?_, fun p hp => ?_, ?_, I.len⟩
  · rw [upd_ne (ne0 b o q)]
    exact I.base.free b o q n x
  · have y := I.base.tups b xs q
    rw [upd_ne (neH b _ y)]
    exact y
  · have y := I.base.frzs b o u q
    rw [upd_ne (neH b _ y)]
    exact y
  · obtain ⟨m, y⟩ := I.base.tbls b ps q
    exact ⟨m, by rw [upd_ne (neH b _ y)]; exact y⟩
  · rw [upd_ne nl.symm]
    exact I.free
  · obtain ⟨v, o, ho, hd⟩ := I.cell x c q
    have : c ≠ a := fun y => by
      rw [y, e] at ho
      cases ho
      rw [ed] at hd
      cases hd
    rw [upd_ne this]
    exact I.freeC x c q
  · obtain ⟨y1, y2, y3⟩ := I.pin p hp
    exact ⟨y1, by rw [upd_ne (np p hp)]; exact y2, y3⟩
  · exact I.hok.laidN (fun _ _ q => q) na ⟨⟨ob, ws, e, z, ed⟩, ⟨ob, e⟩, fun _ _ ⟨o, v, q, r⟩ k => ⟨o, v, k o q, r⟩⟩
end
/-! ## try: .. except x as n: .., the error kept behind it -/
/-- what such a try wishes of an error of its body: x names it, the suite goes on, then it stands -/
def wKeep (K : PySem.W.Frag) (c : Value) (i : Nat) (ts : Addr → Value → Option Addr → TS) (D : Ends) : WX := fun cls d σ H => PySem.W.exmOne K cls c = some true ∧ ∀ a, H a = none →
  ts a cls d { nx := fun σ' H' => D.nx (σ'.set i none) (upd H' a (ErO cls d a)), rt := fun v H' => D.rt v (upd H' a (ErO cls d a)), bk := fun σ' H' => D.bk (σ'.set i none) (upd H' a (ErO cls d a)), ct := fun σ' H' => D.ct (σ'.set i none) (upd H' a (ErO cls d a)) } (σ.set i (some (.ref a))) H
section
variable {X : Cx} {x n : Str} {c : Value} {i : Nat} {body suite : List Stmt} {b₀ : Stmt} {np pos pos' : Pos} {tb : WX → TS} {ts : Addr → Value → Option Addr → TS}
theorem ps_try_keep (hs : X.stack = X.env :: X.outer) (hf : X.env.frame = some X.env.locals) (hx : X.ex = []) (hN : X.N.Nodup) (hi : X.N[i]? = some n) (hln : X.env.kindOf n = some .local) (hc : Names X x c)
    (hb : ∀ (W : WX) (pn : List (Addr × Obj)) (xe : Value → Shared → Prop), L2.Takes (X.tr pn xe) W → PassesOwn (model X.prog X.w) X.A X.env xe → PSs (X.tr pn xe) body (tb W))
    (hsu : ∀ (a : Addr) (oe : Obj) (cls : Value) (d : Option Addr) (pn : List (Addr × Obj)), Zc cls d oe → (∃ vs, oe.data = .fields vs) → PSs (X.suite a ((a, oe) :: pn)) (b₀ :: suite) (ts a cls d)) :
    PS X (.Try body [.ExceptHandler (some (.Name x np)) (some n) (b₀ :: suite) pos'] [] [] pos) (fun D σ H => tb (wKeep X.K c i ts D) D σ H) := by
  refine ⟨fun pins s σ H D I h => wpAny_Try_except ?_⟩
  have ok := I.ok
  have frm : X.A.frames = some (X.env :: X.outer) := hs ▸ ok.frames
  refine wpAny_mono ((hb (wKeep X.K c i ts D) (X.pn ++ pins) (fun e t => wpAny (model X.prog X.w) X.A (noteFrame e X.env) (fun _ t2 => wpAny (model X.prog X.w) X.A (setFlight e none) (fun _ t3 =>
    wpAny (model X.prog X.w) X.A (handleBy e X.env [.ExceptHandler (some (.Name x np)) (some n) (b₀ :: suite) pos']) (SP X pins D) X.xe t3) X.xe t2) X.xe t) (fun u t xx => ?_) PassesOwn.looking).run [] s σ H D (I.toTry _) h) (fun f t hsp => ?_) (fun _ _ z => z)
  · obtain ⟨a, B, r, pr, σ1, H1, cls, d, rfl, I1, nb, up, sky, na, eo, eg, hm, hgo⟩ := xx
    have I2 : Inv X pins σ1 H1 r := I1.ofTry ok
    show wpAny (model X.prog X.w) X.A (noteFrame (.ref a) X.env) _ _ _
    refine L2.Sky.land (Z := Zc cls d) (B := B) (L := X.env.locals) Zc.steady frm hf (by rw [← hs]; exact sky) fun g3 fl3 up3 => ?_
    have d3 := down_of (t := t) hx hf hs I2 nb (up.trans up3) eo eg fl3
    obtain ⟨ob3, ws3, e3, z3, dt3⟩ := d3.at_
    have S3 := d3.inv.suite e3 dt3 na d3.nl d3.nf
    refine wpAny_handleBy_cons (codeAny_handlers_test ?_) (fun q => nomatch q)
    have LT : PySem.W.Looks (model X.prog X.w) g3 (typeOf (.ref a)) cls := fun _ _ _ _ k q => wpAny_typeOf_ref (k _ _ e3) (by rw [z3.1]; exact q)
    have LM := PySem.W.exm_one (M := model X.prog X.w) d3.inv.kIn LT hm
    have test : ∀ {Q E : Value → Shared → Prop}, Q c { t with heap := g3 } → wpAny (model X.prog X.w) (X.A.mark (some (.ref a))) (eval (.Name x np) X.env) Q E { t with heap := g3 } := fun {Q E} q => by
      obtain ⟨y1, y2, y3 | ⟨y3, y4, y5⟩⟩ := hc
      · exact ld_glob (X := X.suite a ((a, ob3) :: (X.pn ++ pins))) S3 y1 y3 q y2
      · exact ld_blt (X := X.suite a ((a, ob3) :: (X.pn ++ pins))) S3 y1 y3 y4 q y5 y2
    refine test (LM.here (codeAny_handlers_suite_as ?_))
    refine HandSPX.lands_againZ fl3 fun g4 fl4 up4 => ?_
    have d4 := down_of (t := t) hx hf hs I2 nb ((up.trans up3).trans up4) eo eg fl4
    obtain ⟨ob4, ws4, e4, z4, dt4⟩ := d4.at_
    have S4 := d4.inv.suite e4 dt4 na d4.nl d4.nf
    refine store_ok (X := X.suite a ((a, ob4) :: (X.pn ++ pins))) (v := .ref a) S4 hN hi (.inl hln) rfl (fun s5 S5 => ?_) (.inr hln)
    refine wpAny_mono ((hsu a ob4 cls d (X.pn ++ pins) z4 ⟨_, dt4⟩).run [] s5 _ H1 _ S5 (hgo a na)) (fun f s6 hsp => ?_) (fun _ _ z => z.elim)
    have fin : ∀ {σ6 : L2.St} {H6 : Hp} {Q : Shared → Prop}, Inv (X.suite a ((a, ob4) :: (X.pn ++ pins))) [] σ6 H6 s6 → (∀ s7, Inv X pins (σ6.set i none) (upd H6 a (ErO cls d a)) s7 → Q s7) →
        wpAny (model X.prog X.w) X.A (do bindName X.env n .none; unbindBehindTheSuite X.env n pos') (fun _ s7 => Q s7) X.xe s6 := fun {σ6 H6 Q} S6 hq => by
      obtain ⟨y1, y2, _⟩ := S6.pin (a, ob4) (List.mem_append_left _ List.mem_cons_self)
      exact gone_ok (track (S6.unsuite ok) y1 z4 dt4 y2 d4.nl d4.n0 d4.np) hN hi hln hq
    cases f with
    | next =>
      obtain ⟨σ6, H6, S6, q6⟩ := hsp
      exact fin S6 fun s7 J7 => ⟨_, _, J7, q6⟩
    | brk =>
      obtain ⟨σ6, H6, S6, q6⟩ := hsp
      exact fin S6 fun s7 J7 => ⟨_, _, J7, q6⟩
    | cont =>
      obtain ⟨σ6, H6, S6, q6⟩ := hsp
      exact fin S6 fun s7 J7 => ⟨_, _, J7, q6⟩
    | ret u =>
      obtain ⟨v6, σ6, H6, S6, r6, q6⟩ := hsp
      exact fin S6 fun s7 J7 => ⟨_, _, _, J7, r6, q6⟩
  · cases f with
    | next =>
      obtain ⟨σ1, H1, I1, q⟩ := hsp
      exact wpAny_execs_nil ⟨σ1, H1, I1.ofTry ok, q⟩
    | brk =>
      obtain ⟨σ1, H1, I1, q⟩ := hsp
      exact ⟨σ1, H1, I1.ofTry ok, q⟩
    | cont =>
      obtain ⟨σ1, H1, I1, q⟩ := hsp
      exact ⟨σ1, H1, I1.ofTry ok, q⟩
    | ret u =>
      obtain ⟨v, σ1, H1, I1, r, q⟩ := hsp
      exact ⟨v, σ1, H1, I1.ofTry ok, r, q⟩
end
end Sw

set_option Elab.async false
set_option linter.all false
set_option maxRecDepth 100000
set_option maxHeartbeats 4000000
namespace Sw
open PySem PySem.Spec PyProof.Rows L2
/-! ## What is asked of a kept error -/
/-- the error's dict stands -/
def DicOk (H : Hp) (d : Option Addr) : Prop := d = none ∨ ∃ dd fs, d = some dd ∧ H dd = some (.xd fs)
section
variable {X : Cx} {pins : List (Addr × Obj)} {σ : L2.St} {H : Hp} {s : Shared} {a C : Addr} {d : Option Addr}
theorem inst_at (I : Inv X pins σ H s) (e : H a = some (ErO (.ref C) d a)) (hd : DicOk H d) : ∃ ob od, PySem.W.InstAt s.heap a ob C od ∧ (∀ dd fs, d = some dd → H dd = some (.xd fs) → ∃ o, od = some o ∧ s.heap.get? dd = some o) := by
  obtain ⟨⟨ob, ws, y1, ⟨y2, y3⟩, y4⟩, _, _⟩ := I.hok a _ e
  have nc : PySem.W.notCls ob = true := by
    unfold PySem.W.notCls
    rw [y4] <;> rfl
  rcases hd with rfl | ⟨dd, fs, rfl, hx⟩
  · exact ⟨ob, none, ⟨y1, y2, nc, by rw [y3]; trivial⟩, fun _ _ z => nomatch z⟩
  · obtain ⟨mA, ⟨o, es, ep, e1, _⟩, _⟩ := (show ObjOk X.prog X.w H s.heap dd (.xd fs) from I.hok dd _ hx)
    exact ⟨ob, some o, ⟨y1, y2, nc, by rw [y3]; exact e1⟩, fun d2 f2 z _ => by cases z; exact ⟨o, rfl, e1⟩⟩
end
/-- isinstance(x, c) of what rIsi knows, or of a kept error -/
def rIsK (K : PySem.W.Frag) : List V → Hp → VK → Prop := fun xs H Q => rIsi K xs H Q ∨ ∃ (a C : Addr) (d : Option Addr) (c : V) (u : Value) (b : Bool), xs = [.ref a, c] ∧ H a = some (ErO (.ref C) d a) ∧ DicOk H d ∧ ExcC K C ∧ ClsV c u ∧ PySem.W.kitOne K (.ref C) u = some b ∧ Q (.bl b) H
theorem cl_isk {X : Cx} : CallR X (.builtin "isinstance") (rIsK X.K) := by
  intro pins s σ H xs us Q I r h
  rcases h with h | ⟨a, C, d, c, u, b, rfl, ea, hd, T, k, e, q⟩
  · exact call_isi pins s σ H xs us Q I r h
  · obtain ⟨u1, u2, rfl, r1, r2⟩ := vals2 r
    obtain rfl := k.eq r2
    obtain rfl : u1 = Value.ref a := r1
    obtain ⟨ob, od, J, _⟩ := inst_at I ea hd
    have hcl : (PySem.W.clsIn X.K C).isSome = true := by
      obtain ⟨cd, hc, _⟩ := PySem.W.any_some T.hd
      rw [hc] <;> rfl
    exact PySem.W.kia_one (PySem.W.kitx_exc hcl T.hg T.hk T.hs T.ha T.hn T.ht T.hm) I.kIn J e (fun z => nomatch z) fun tk => ⟨.bl b, H, I.tok tk, rfl, q⟩
/-- x.f of a kept error -/
def tXk (K : PySem.W.Frag) (f : Str) (te : TE) : TE := fun σ H Q => te σ H fun x H1 => ∃ (a C dd : Addr) (fs : List (Str × V)) (v : V), x = .ref a ∧ H1 a = some (ErO (.ref C) (some dd) a) ∧ H1 dd = some (.xd fs) ∧ XfC K C ∧ PySem.W.findIn K (.ref C) f = some none ∧ fs.lookup f = some v ∧ Q v H1
theorem pe_xk {X : Cx} {e : Expr} {te : TE} {pos : Pos} {n : Str} (he : PE X e te) (hb : attributeBase e n X.env (eval e X.env) = eval e X.env := by rfl) : PE X (.Attribute e n pos) (tXk X.K n te) := by
  refine ⟨fun pins s σ H Q I h => attr_of hb (thn (he.run pins s σ H _ I h) fun u s1 hh => ?_)⟩
  obtain ⟨x, H1, I1, rx, a, C, dd, fs, v, rfl, ea, ed, T, hno, l, q⟩ := hh
  obtain rfl : u = Value.ref a := rx
  obtain ⟨ob, od, J, jd⟩ := inst_at I1 ea (.inr ⟨dd, fs, rfl, ed⟩)
  obtain ⟨o, rfl, eo⟩ := jd dd fs rfl ed
  obtain ⟨mA, hns, hr⟩ := (show ObjOk X.prog X.w H1 s1.heap dd (.xd fs) from I1.hok dd _ ed)
  obtain ⟨o2, ho, hl⟩ := lookIn_ns hns
  rw [eo] at ho
  cases ho
  obtain ⟨w, hw, rw'⟩ := RelO.some_of (v := v) (o := mA n) (by rw [← l]; exact hr n)
  exact HandSPX.exc_get I1.kIn J T.ga T.gg T.exC (PySem.W.findObj_own T.hdC hno rfl (by rw [hl, hw])) (handed_of rw') ⟨v, H1, I1.tok _, rw', q⟩
/-! ## Errors raised where nothing is handled: their context is None -/
theorem weak_cx {P : Program} {w : World} {K : PySem.W.Frag} {mg : Str → Option Value} {base : Heap} {k : Nat} {x : Str} {ps : List Str} {sp : Sp} (c : Cal P w K mg base (L2N.CX P w) k x ps sp) : Cal P w K mg base (L2.CX P w) k x ps sp := by
  obtain ⟨f, fd, F, g, kp, b, ba, lk⟩ := c.ex
  refine ⟨f, fd, ⟨F.len, fun A outer s H args us vs Q E hr he hb rv h => codeAny_mono (F.run A outer s H args us vs Q E hr he hb rv h) fun r s' q => ?_⟩, g, kp, b, ba, lk⟩
  cases r with
  | ok fl => cases fl <;> exact q
  | error e =>
    obtain ⟨a, B, H', cls, d, rfl, fl, z⟩ := q
    exact ⟨a, B, H', cls, d, rfl, L2H.flyingZ_imp (fun o y => y.zc) fl, z⟩
section
variable {P : Program} {w : World} {K : PySem.W.Frag} {mg : Str → Option Value} {base : Heap} {x : Str} {st : Stmt} {N ps : List Str} {k : Nat} {sp : Sp}
theorem Here.calN {r : XK → TS} (F : Here K mg x st) (S : FnScope N ps (defScope st)) (len : ∀ vs H Q E, sp vs H Q E → vs.length = ps.length)
    (bd : ∀ (kV doc pm : Value) (an : Option Addr) (cdv ct : Value) (us : List Value), us.length = ps.length →
      bindArgs (PySem.W.fnOf x x (defArgs st) (defBody st) (defScope st) .none kV doc pm an cdv ct) ⟨us, []⟩ = pure (ps.zip us))
    (dv : ∀ (f : Addr) (cdv : Value) (A : Around) (outer : List Env) (s : Shared) (H : Hp) (E : XK), RmIn k A x st s f cdv → PSs (BX (L2N.CX P w) P w K mg base N x st f cdv A outer s H E) (defBody st) (r E))
    (rd : ∀ (vs : List V) (H : Hp) (Q : VK) (E : XK), sp vs H Q E → r E { nx := fun _ H' => Q .non H', rt := Q } (L2.start N vs) H) :
    Cal P w K mg base (L2N.CX P w) (k + 1) x ps sp := by
  obtain ⟨f, fd, D, g⟩ := F.ex
  refine ⟨f, fd, D.ok S len fun cdv A outer s H vs Q E hr h => ⟨r E, dv f cdv A outer s H E hr, rd vs H Q E h⟩, g, D.kp, D.bindsN bd, fun s us hl => D.bindsA bd s us hl, ?_⟩
  obtain ⟨oc, od, _, _, _, _, _, _, _, osl, _, lk, _⟩ := D.ex
  exact ⟨oc, od, osl, lk⟩
end
section
variable {X : Cx} {k : Nat} {x : Str} {ps : List Str} {sp : Sp} {t : TA} {e : Expr} {es : List Expr} {p pos : Pos} {W : WX}
theorem pe_calN (c : Cal X.prog X.w X.K X.mg X.base (L2N.CX X.prog X.w) k x ps sp) (hr : Room k X.A) (tk : L2N.Takes X W) (hg : Gl X x) (ha : PA X (e :: es) t)
    (hdb : (x == ("__debug__" : Str)) = false := by decide) (he : starEach (e :: es) X.env = (false, eval e X.env) :: starEach es X.env := by rfl)
    (hpl : (backTo pos (starEach es X.env)).any (·.1) = false := by rfl) : PE X (.Call (.Name x p) (e :: es) [] pos) (tCalW sp W t) := by
  obtain ⟨f, fd, F, gm, kp, b, _⟩ := c.ex
  exact pe_callS F hr hg gm kp b (fun σ => L2N.passAt tk σ) ha hdb he hpl
/-- x(e, ..), x an error class without an __init__ of its own -/
theorem pmkA_N (m : ExK X.K X.mg x) (hg : Gl X x) (ha : PA X (e :: es) t) (hdb : (x == ("__debug__" : Str)) = false := by decide)
    (he : starEach (e :: es) X.env = (false, eval e X.env) :: starEach es X.env := by rfl) (hpl : (backTo pos (starEach es X.env)).any (·.1) = false := by rfl) :
    L2H.PMk5 X (.Call (.Name x p) (e :: es) [] pos) (fun σ H Q => t σ H fun vs H1 => vs.length ≤ sizeLine ∧ Q (.ref (He.ga X.K x)) none H1) := by
  intro pins s σ H Q I h
  refine wpAny_Call_Name_kw (ld_glob I hg m.g (PySem.W.callWith_K (h₀ := X.base) I.ok.mod.kin m.m.2.1 (thn (ha.run pos pins s σ H _ I h) fun us s1 hv => ?_) he hpl) hdb)
  obtain ⟨vs, H1, I1, rv, small, q⟩ := hv
  refine ⟨I1.kIn, ?_⟩
  show wpAny _ _ (call (.ref (He.ga X.K x)) us) _ _ _
  obtain ⟨y1, y2, y3, y4, y5, y6, y7, y8, y9, y10, y11, y12, y13, z1, z2, z3, z4, u1, u2, u3, T⟩ := exc_obj I1.kIn m.m.1
  exact wpAny_call_exc_subT PySem.F.excBase_ValueError T u1 u2 u3 (fun g1 a mk => L2H.mk_of5 I1 mk (raises_own m.m.2.2.1 m.m.2.2.2) q (I1.hok.gone mk.new)) (by rw [← rv.length]; exact small)
theorem ps_rzAN {pos2 : Pos} (hc : X.calm = true) (tk : L2N.Takes X W) (m : ExK X.K X.mg x) (hg : Gl X x) (ha : PA X (e :: es) t) (hdb : (x == ("__debug__" : Str)) = false := by decide)
    (he : starEach (e :: es) X.env = (false, eval e X.env) :: starEach es X.env := by rfl) (hpl : (backTo pos (starEach es X.env)).any (·.1) = false := by rfl) :
    PS X (.Raise (some (.Call (.Name x p) (e :: es) [] pos)) none pos2) (tRzA (He.ga X.K x) W t) := L2N.ps_raise hc tk (pmkA_N m hg ha hdb he hpl).pmk
/-- raise x(e, ..) from None in an except suite -/
theorem ps_rzAF {pos2 cp : Pos} {j : Nat} (hc : L2H.HotC X) (tk : L2.Takes X W) (m : ExK X.K X.mg x) (hg : Gl X x) (ha : PA X (e :: es) t) (hdb : (x == ("__debug__" : Str)) = false := by decide)
    (he : starEach (e :: es) X.env = (false, eval e X.env) :: starEach es X.env := by rfl) (hpl : (backTo pos (starEach es X.env)).any (·.1) = false := by rfl) :
    PS X (.Raise (some (.Call (.Name x p) (e :: es) [] pos)) (some (.Constant .none j cp)) pos2) (tRzA (He.ga X.K x) W t) := L2H.ps_raiseHN hc tk (pmkA_N m hg ha hdb he hpl)
end
end Sw

set_option Elab.async false
set_option linter.all false
set_option maxRecDepth 100000
set_option maxHeartbeats 4000000
namespace Sw
open PySem PySem.Spec PyProof.Rows L2
section
variable {X : Cx} {k : Nat} {x f : Str} {te : TE} {e : Expr} {p pos : Pos} {W : WX} {fdI : FuncData} {qs : List Str}
/-- x(e), x an error class whose own __init__ keeps one field: its context is None -/
theorem pmkO_N (m : OwK X.K X.mg x f) (F1 : FnOk X.prog X.w X.K X.mg X.base CX0 k (He.ma X.K (He.ga X.K x) "__init__") fdI qs (spInit X.K (He.ga X.K x) f)) (hb : Binds X.K fdI qs [])
    (hr : Room (k + 1) X.A) (hg : Gl X x) (ha : PA X [e] (tCons te tNil)) (hdb : (x == ("__debug__" : Str)) = false := by decide)
    (hs : starEach [e] X.env = (false, eval e X.env) :: starEach [] X.env := by rfl) (hpl : (backTo pos (starEach [] X.env)).any (·.1) = false := by rfl) :
    L2N.PMk X (.Call (.Name x p) [e] [] pos) (tMkO (He.ga X.K x) (spInit X.K (He.ga X.K x) f) [] (tCons te tNil)) := by
  intro pins s σ H Q I h
  have T := m.o
  obtain ⟨y1, y2, y3, y4, bm, y5, y6, y7, y8, y9, y10, y11, y12, y13, y14, cls, tail⟩ := T.cls
  refine wpAny_Call_Name_kw (ld_glob I hg m.g (PySem.W.callWith_K (h₀ := X.base) I.ok.mod.kin T.kC (thn (ha.run pos pins s σ H _ I h) fun us s1 hv => ?_) hs hpl) hdb)
  obtain ⟨vs, H1, I1, rv, small, ask⟩ := hv
  refine ⟨I1.kIn, ?_⟩
  show wpAny _ _ (call (.ref (He.ga X.K x)) us) _ _ _
  obtain ⟨hp, gn, dr, tk, os⟩ := s1
  have up1 : hp.objs.size ≤ hp.objs.size + 1 := Nat.le_succ _
  have kept : ∀ b o, hp.get? b = some o → ((hp.push (PySem.W.kdv_tup us)).push (PySem.HandSPX.excO (He.ga X.K x) hp.objs.size)).get? b = some o := fun b o y => Heap.get?_push_of_some _ (Heap.get?_push_of_some _ y)
  have there : ((hp.push (PySem.W.kdv_tup us)).push (PySem.HandSPX.excO (He.ga X.K x) hp.objs.size)).get? (hp.objs.size + 1) = some (PySem.HandSPX.excO (He.ga X.K x) hp.objs.size) := by heap_get
  have wish := ask (hp.objs.size + 1) (I1.hok.fresh up1)
  have J := I1.laid (t' := tk) (a := hp.objs.size + 1) (o := exo (hp.objs.size + 1) (He.ga X.K x) none) kept up1 (exo_ok there)
  have rel : Vals (V.ref (hp.objs.size + 1) :: vs) (Value.ref (hp.objs.size + 1) :: us) := .cons rfl rv
  rw [List.append_nil] at wish
  have bd := hb _ (Value.ref (hp.objs.size + 1) :: us) J.kIn (by rw [List.append_nil]; exact rel.length.symm.trans (F1.len _ _ _ _ wish))
  rw [List.append_nil] at bd
  have few : us.length ≤ sizeLine := by
    rw [← rv.length, sizeLine_eq]
    omega
  refine wpAny_call (PySem.HandSPX.call_own PySem.F.excBase_ValueError (fun Y => PySem.HandSPX.refsVE_contains Y bm tail) (I1.kIn _ _ cls) (PySem.W.looks_findIn I1.kIn m.i) (fun self => PySem.W.bind_fn I1.kIn self m.t) few
    (codeAny_mono (F1.run _ X.stack _ _ ⟨Value.ref (hp.objs.size + 1) :: us, []⟩ (Value.ref (hp.objs.size + 1) :: us) _ _ (fun _ _ _ => False) (hr.make (He.ga X.K x) us []) (J.env0.make (He.ga X.K x) us []) bd rel wish) fun r s2 hq => ?_))
  cases r with
  | error er => exact (show False from hq).elim
  | ok fl =>
    cases fl with
    | next => exact (show False from hq).elim
    | brk => exact (show False from hq).elim
    | cont => exact (show False from hq).elim
    | ret u =>
      obtain ⟨v, H2, eo, eb, un, hok, ru, rfl, dd, fs, ea, ed, nd, q⟩ := hq
      obtain ⟨h2, g2, d2, t2, o2⟩ := s2
      obtain ⟨t0, G, IG, kG, gone, obj, na⟩ := mk_end0 (d2 := d2) (t2 := t2) I1 up1 kept un hok eo eb ea ed nd
      exact ⟨ru, hp.objs.size + 1, _, _, ⟨G, g2, d2, t2, o2⟩, _, .ref (He.ga X.K x), some dd, rfl, IG, kG, gone, obj, ⟨rfl, rfl, fun ws hw => by cases hw; rfl⟩, rfl, rfl, na, rfl, eb, raises_own T.exC T.tyC, q⟩
theorem ps_rzON {pos2 : Pos} (hc : X.calm = true) (tk : L2N.Takes X W) (m : OwK X.K X.mg x f) (F : FnOk X.prog X.w X.K X.mg X.base CX0 k (He.ma X.K (He.ga X.K x) "__init__") fdI qs (spInit X.K (He.ga X.K x) f)) (hb : Binds X.K fdI qs [])
    (hr : Room (k + 1) X.A) (hg : Gl X x) (ha : PA X [e] (tCons te tNil)) (hdb : (x == ("__debug__" : Str)) = false := by decide)
    (hs : starEach [e] X.env = (false, eval e X.env) :: starEach [] X.env := by rfl) (hpl : (backTo pos (starEach [] X.env)).any (·.1) = false := by rfl) :
    PS X (.Raise (some (.Call (.Name x p) [e] [] pos)) none pos2) (tRzO X.K x f W te) := L2N.ps_raise hc tk (pmkO_N m F hb hr hg ha hdb hs hpl)
end
/-! ## try: .. except (x, y): .., the suite raises out -/
def wTup (K : PySem.W.Frag) (c1 c2 : Value) (ts : Addr → Value → Option Addr → TS) (D : Ends) : WX := fun cls d σ H => PySem.W.exmAny K cls [c1, c2] = some true ∧ ∀ a, H a = none → ts a cls d D σ H
section
variable {X : Cx} {x1 x2 : Str} {c1 c2 : Value} {body suite : List Stmt} {b₀ : Stmt} {np1 np2 tp pos pos' : Pos} {kk : Nat} {tb : WX → TS} {ts : Addr → Value → Option Addr → TS} {Wout : WX}
theorem ps_try_tupX (hs : X.stack = X.env :: X.outer) (hf : X.env.frame = some X.env.locals) (hx : X.ex = []) (n1 : Names X x1 c1) (n2 : Names X x2 c2) (hpa : ∀ hd : Option Value, PassesOwnAt (model X.prog X.w) (X.A.mark hd) X.A X.env X.xe) (tk : L2.Takes X Wout)
    (hb : ∀ (W : WX) (pn : List (Addr × Obj)) (xe : Value → Shared → Prop), L2N.Takes (X.tr pn xe) W → PassesOwn (model X.prog X.w) X.A X.env xe → PSs (X.tr pn xe) body (tb W))
    (hsu : ∀ (a : Addr) (ob : Obj) (cls : Value) (d : Option Addr) (pn : List (Addr × Obj)), L2N.Zn cls d ob → (∃ vs, ob.data = .fields vs) → L2.Takes (L2H.suiteX X a ((a, ob) :: pn)) Wout → L2H.HotC (L2H.suiteX X a ((a, ob) :: pn)) →
      PSs (L2H.suiteX X a ((a, ob) :: pn)) (b₀ :: suite) (ts a cls d)) :
    PS X (.Try body [.ExceptHandler (some (.Tuple [.Name x1 np1, .Name x2 np2] kk tp)) none (b₀ :: suite) pos'] [] [] pos) (fun D σ H => tb (wTup X.K c1 c2 ts D) D σ H) := by
  refine ⟨fun pins s σ H D I h => wpAny_Try_except ?_⟩
  have ok := I.ok
  have frm : X.A.frames = some (X.env :: X.outer) := hs ▸ ok.frames
  refine wpAny_mono ((hb (wTup X.K c1 c2 ts D) (X.pn ++ pins) (fun e t => wpAny (model X.prog X.w) X.A (noteFrame e X.env) (fun _ t2 => wpAny (model X.prog X.w) X.A (setFlight e none) (fun _ t3 =>
    wpAny (model X.prog X.w) X.A (handleBy e X.env [.ExceptHandler (some (.Tuple [.Name x1 np1, .Name x2 np2] kk tp)) none (b₀ :: suite) pos']) (SP X pins D) X.xe t3) X.xe t2) X.xe t) (fun u t xx => ?_) PassesOwn.looking).run [] s σ H D (I.toTry _) h) (fun f t hsp => ?_) (fun _ _ z => z)
  · obtain ⟨a, B, r, pr, σ1, H1, cls, d, rfl, I1, nb, up, sky, na, eo, eg, hm, hgo⟩ := xx
    have I2 : Inv X pins σ1 H1 r := I1.ofTry ok
    show wpAny (model X.prog X.w) X.A (noteFrame (.ref a) X.env) _ _ _
    refine L2N.Sky.land (Z := L2N.Zn cls d) (B := B) (L := X.env.locals) L2N.Zn.steady frm hf (by rw [← hs]; exact sky) fun g3 fl3 up3 => ?_
    have d3 := down_of (t := t) hx hf hs I2 nb (up.trans up3) eo eg fl3
    obtain ⟨ob3, ws3, e3, z3, dt3⟩ := d3.at_
    have S3 := d3.inv.suite e3 dt3 na d3.nl d3.nf
    refine wpAny_handleBy_cons (codeAny_handlers_test ?_) (fun q => nomatch q)
    have name : ∀ {y : Str} {c : Value} {q : Pos} {Q E : Value → Shared → Prop}, Names X y c → Q c { t with heap := g3 } → wpAny (model X.prog X.w) (X.A.mark (some (.ref a))) (eval (.Name y q) X.env) Q E { t with heap := g3 } := fun {y c q Q E} hc hq => by
      obtain ⟨y1, y2, y3 | ⟨y3, y4, y5⟩⟩ := hc
      · exact ld_glob (X := X.suite a ((a, ob3) :: (X.pn ++ pins))) S3 y1 y3 hq y2
      · exact ld_blt (X := X.suite a ((a, ob3) :: (X.pn ++ pins))) S3 y1 y3 y4 hq y5 y2
    refine wpAny_Tuple ?_
    refine wpAny_items_cons (name n1 ?_)
    refine wpAny_items_cons (name n2 ?_)
    refine wpAny_items_nil ⟨by size_fits, ?_⟩
    have kp : ∀ b o, g3.get? b = some o → (g3.push { cls := .type "tuple", data := .seq [c1, c2].toArray }).get? b = some o := fun _ _ z => Heap.get?_push_of_some _ z
    have LT : PySem.W.Looks (model X.prog X.w) (g3.push { cls := .type "tuple", data := .seq [c1, c2].toArray }) (typeOf (.ref a)) cls := fun _ _ _ _ k q => wpAny_typeOf_ref (k _ _ (kp _ _ e3)) (by rw [z3.1]; exact q)
    refine (PySem.W.exm_tup2 (M := model X.prog X.w) (d3.inv.kIn.keeps kp) LT (Heap.get?_push_size g3 rfl) hm).here (codeAny_handlers_suite ?_)
    refine HandSPX.lands_againZ (fly_keep fl3 kp) fun g4 fl4 up4 => ?_
    have d4 := down_of (t := t) hx hf hs I2 nb (((up.trans up3).trans (Heap.UpToSlots.of_keeps kp)).trans up4) eo eg fl4
    obtain ⟨ob4, ws4, e4, z4, dt4⟩ := d4.at_
    have S4 := d4.inv.suite e4 dt4 na d4.nl d4.nf
    have tkS : L2.Takes (L2H.suiteX X a ((a, ob4) :: (X.pn ++ pins))) Wout := fun u2 s2 ⟨a2, B2, r2, pn2, σ2, H2, cls2, dd2, q1, J2, q3⟩ => tk u2 s2 ⟨a2, B2, r2, pins, σ2, H2, cls2, dd2, q1, L2H.unsuiteX J2 ok, q3⟩
    have hot : L2H.HotC (L2H.suiteX X a ((a, ob4) :: (X.pn ++ pins))) := ⟨(a, ob4), ⟨rfl, ws4, dt4, z4.2.2 ws4 dt4⟩, List.mem_cons_self⟩
    refine wpAny_mono ((hsu a ob4 cls d (X.pn ++ pins) z4 ⟨_, dt4⟩ tkS hot).run [] _ _ H1 _ (L2H.suiteX_of S4) (hgo a na)) (fun f s6 hsp => ?_) (fun e6 s6 z => hpa (some (.ref a)) e6 s6 z)
    cases f with
    | next =>
      obtain ⟨σ6, H6, S6, q6⟩ := hsp
      exact ⟨_, _, L2H.unsuiteX S6 ok, q6⟩
    | brk =>
      obtain ⟨σ6, H6, S6, q6⟩ := hsp
      exact ⟨_, _, L2H.unsuiteX S6 ok, q6⟩
    | cont =>
      obtain ⟨σ6, H6, S6, q6⟩ := hsp
      exact ⟨_, _, L2H.unsuiteX S6 ok, q6⟩
    | ret u =>
      obtain ⟨v6, σ6, H6, S6, r6, q6⟩ := hsp
      exact ⟨_, _, _, L2H.unsuiteX S6 ok, r6, q6⟩
  · cases f with
    | next =>
      obtain ⟨σ1, H1, I1, q⟩ := hsp
      exact wpAny_execs_nil ⟨σ1, H1, I1.ofTry ok, q⟩
    | brk =>
      obtain ⟨σ1, H1, I1, q⟩ := hsp
      exact ⟨σ1, H1, I1.ofTry ok, q⟩
    | cont =>
      obtain ⟨σ1, H1, I1, q⟩ := hsp
      exact ⟨σ1, H1, I1.ofTry ok, q⟩
    | ret u =>
      obtain ⟨v, σ1, H1, I1, r, q⟩ := hsp
      exact ⟨v, σ1, H1, I1.ofTry ok, r, q⟩
end
end Sw

set_option Elab.async false
set_option linter.all false
set_option maxRecDepth 100000
set_option maxHeartbeats 4000000
namespace Sw
open PySem PySem.Spec PyProof.Rows L2
/-! ## x * n of a text -/
def repS (z : Str) (k : Nat) : Str := tx (List.replicate k (sg z)).flatten
theorem fold_app (x : Array Nat) : ∀ (k : Nat) (a : Array Nat), ((List.replicate k x).foldl (· ++ ·) a).toList = a.toList ++ (List.replicate k x.toList).flatten
  | 0, a => by simp
  | k + 1, a => by
    rw [List.replicate_succ, List.foldl_cons, fold_app x k (a ++ x), List.replicate_succ, List.flatten_cons, Array.toList_append, List.append_assoc]
theorem len_flat (l : List Nat) : ∀ k : Nat, (List.replicate k l).flatten.length = l.length * k
  | 0 => by simp
  | k + 1 => by
    rw [List.replicate_succ, List.flatten_cons, List.length_append, len_flat l k, Nat.mul_succ]
    omega
def rMulS : R2 := fun x y H Q => ∃ (z : Str) (n : Nat), x = .str z ∧ y = .int (n : Int) ∧ n ≤ 1000 ∧ z.length ≤ 10000 ∧ Q (.str (repS z n)) H
theorem op_mulS {X : Cx} : OpR X (binaryOp .Mult) rMulS := by
  intro pins s σ H x y v u Q I rx ry h
  obtain ⟨z, n, rfl, rfl, hn, hz, q⟩ := h
  obtain ⟨t, rfl⟩ := rx
  obtain ⟨t', rfl⟩ := ry
  have few : z.length * n ≤ 10000000 := Nat.le_trans (Nat.mul_le_mul hz hn) (by decide)
  refine P.mul_str ?_ (fun h1 h2 => ?_) (fun h1 h2 => ?_) ?_
  · rw [decide_eq_false (by omega), decide_eq_false (by omega)] <;> rfl
  · intro h3
    have h4 : ((z.length : Int) + 1) * (n : Int) ≤ 2 ^ 63 - 1 := by
      have h5 : (((z.length + 1) * n : Nat) : Int) ≤ 10001000 := by
        have := Nat.mul_le_mul (show z.length + 1 ≤ 10001 by omega) hn
        omega
      have h6 : ((z.length : Int) + 1) * (n : Int) = (((z.length + 1) * n : Nat) : Int) := by
        rw [Int.natCast_mul] <;> rfl
      rw [h6]
      omega
    have := Int.le_ediv_of_mul_le (by omega) h4
    omega
  · unfold Builtin.Str.tooLong
    rw [Int.toNat_natCast]
    simp only [decide_eq_false_iff_not, gt_iff_lt]
    have := sizeLine_eq
    omega
  · rw [Int.toNat_natCast]
    have e0 : n < 1 → repS z n = Str.empty := fun h => by
      have : n = 0 := by omega
      subst this
      rfl
    split
    · rename_i h
      refine ⟨by decide, ?_⟩
      rw [e0 (by omega)] at q
      exact ⟨.str Str.empty, H, I.tok _, ⟨_, rfl⟩, q⟩
    · split
      · rename_i h1 h2
        have e : repS z n = z := by
          rcases Bool.or_eq_true_iff.mp h2 with h3 | h3
          · have : n = 1 := by
              have := beq_iff_eq.mp h3
              omega
            subst this
            show tx ([sg z].flatten) = z
            rw [List.flatten_singleton, tx_sg]
          · have hl := beq_iff_eq.mp h3
            rw [sg_len] at hl
            have hs : sg z = [] := List.length_eq_zero_iff.mp hl
            apply sg_inj
            unfold repS
            rw [sg_tx, hs]
            simp
        rw [e] at q
        exact ⟨.str z, H, I, ⟨t, rfl⟩, q⟩
      · have e : (⟨(List.replicate n z.cps).foldl (· ++ ·) #[]⟩ : Str) = repS z n := by
          apply sg_inj
          unfold repS
          rw [sg_tx]
          show ((List.replicate n z.cps).foldl (· ++ ·) #[]).toList = _
          rw [fold_app] <;> rfl
        rw [e]
        refine ⟨?_, ?_⟩
        · unfold repS
          rw [sg_len, sg_tx, len_flat, ← sg_len]
          have := sizeLine_eq
          omega
        · exact ⟨.str (repS z n), H, I.tok _, ⟨_, rfl⟩, q⟩
/-! ## names of classes -/
section
variable {X : Cx}
theorem pe_cls {x : Str} {pos : Pos} (h : X.mg x = some (.ref (He.ga X.K x))) (hg : Gl X x) (hd : (x == ("__debug__" : Str)) = false := by decide) : PE X (.Name x pos) (tC (.ref (He.ga X.K x))) := pe_glob hg h rfl hd
theorem nm_cls {x : Str} (h : X.mg x = some (.ref (He.ga X.K x))) (hg : Gl X x) (hd : (x == ("__debug__" : Str)) = false := by decide) : Names X x (.ref (He.ga X.K x)) := ⟨hg, hd, .inl h⟩
end
/-! ## readings of trys -/
def tTryT (K : PySem.W.Frag) (c1 c2 : Value) (tb : WX → TS) (ts : Addr → Value → Option Addr → TS) : TS := fun D σ H => tb (wTup K c1 c2 ts D) D σ H
def tTryK (K : PySem.W.Frag) (c : Value) (i : Nat) (tb : WX → TS) (ts : Addr → Value → Option Addr → TS) : TS := fun D σ H => tb (wKeep K c i ts D) D σ H
def tJoin (ts : List TE) : TE := fun σ H Q => tJs ts Str.empty σ H fun out H1 => Q (.str out) H1
def kStrI : List V → Hp → VK → Prop := fun xs H Q => ∃ i : Int, xs = [.int i] ∧ i.natAbs.log2 < 1920 ∧ Q (.str (toString i)) H
def kIntS : List V → Hp → VK → Prop := fun xs H Q => ∃ (a : Str) (n : Int), xs = [.str a] ∧ PySem.intText? a = some n ∧ a.length ≤ 640 ∧ Q (.int n) H
def kLenS : List V → Hp → VK → Prop := fun xs H Q => ∃ z : Str, xs = [.str z] ∧ z.length ≤ sizeLine ∧ Q (.int z.length) H
def mSplit : V → List V → Hp → VK → Prop := fun x xs H Q => ∃ a b : Str, x = .str a ∧ xs = [.str b] ∧ (b.length == 0) = false ∧ a.length + 2 ≤ sizeLine ∧ rNewStrs (Txt.split a b) H Q
def mPart : V → List V → Hp → VK → Prop := fun x xs H Q => ∃ a b : Str, x = .str a ∧ xs = [.str b] ∧ (b.length == 0) = false ∧ a.length ≤ sizeLine ∧ ∀ p, H p = none → Q (.ref p) (upd H p (.tup [.str (Txt.partition a b).1, .str (Txt.partition a b).2.1, .str (Txt.partition a b).2.2]))
def mJoin (K : PySem.W.Frag) : V → List V → Hp → VK → Prop := fun x xs H Q => ∃ a p, ∃ ys : List Str, x = .str a ∧ xs = [.ref p] ∧ (SqL K H p (ys.map V.str) ∨ SqT K H p (ys.map V.str)) ∧ (ys.map (·.length)).sum + ys.length * a.length ≤ 16777216 ∧ Q (.str (Txt.join a ys)) H
def mIndex : V → List V → Hp → VK → Prop := fun x xs H Q => ∃ (a b : Str) (i : Nat) (rest : List Nat), x = .str a ∧ xs = [.str b] ∧ Builtin.Str.occurrences a b 0 a.length 1 = i :: rest ∧ Q (.int (i : Int)) H
def oNotInC : R2 := fun x y H Q => ∃ (c : Nat) (z : Str), x = .str ⟨#[c]⟩ ∧ y = .str z ∧ Q (.bl (!decide (c ∈ sg z))) H
def oInC : R2 := fun x y H Q => ∃ (c : Nat) (z : Str), x = .str ⟨#[c]⟩ ∧ y = .str z ∧ Q (.bl (decide (c ∈ sg z))) H
section
variable {X : Cx}
theorem op_inC : OpR X (compareOp .In) oInC := op_in_sign
theorem cl_strI : CallR X (.type "str") kStrI := call_str_int
theorem cl_lenS : CallR X (.builtin "len") kLenS := call_len_str
theorem cl_intS : CallR X (.type "int") kIntS := call_int_str
theorem md_split : MtR X "str.split" mSplit := mt_split
theorem md_part : MtR X "str.partition" mPart := mt_partition
theorem md_join : MtR X "str.join" (mJoin X.K) := mt_join
theorem md_index : MtR X "str.index" mIndex := mt_sindex
theorem op_notInC : OpR X (compareOp .NotIn) oNotInC := op_notIn_sign
end
/-! ## an error's __init__ -/
def InitOk (P : Program) (w : World) (K : PySem.W.Frag) (mg : Str → Option Value) (base : Heap) (k : Nat) (x f : Str) : Prop := ∃ fd : FuncData, FnOk P w K mg base CX0 k (He.ma K (He.ga K x) "__init__") fd ["self", f] (spInit K (He.ga K x) f) ∧ Binds K fd ["self", f] []
end Sw

set_option Elab.async false
set_option linter.all false
set_option maxRecDepth 100000
set_option maxHeartbeats 4000000
namespace Sw
open PySem PySem.Spec PyProof.Rows L2 PySem.NumText
/-! ## Numbers as signs -/
def numT (k : Nat) : List Nat := if k < 10 then [48 + k] else [49, 48]
theorem num_str : ∀ k : Nat, k ≤ 10 → sg (Str.ofString (toString (k : Int))) = numT k
  | 0, _ => by decide +kernel
  | 1, _ => by decide +kernel
  | 2, _ => by decide +kernel
  | 3, _ => by decide +kernel
  | 4, _ => by decide +kernel
  | 5, _ => by decide +kernel
  | 6, _ => by decide +kernel
  | 7, _ => by decide +kernel
  | 8, _ => by decide +kernel
  | 9, _ => by decide +kernel
  | 10, _ => by decide +kernel
  | k + 11, h => by omega
theorem num_inj {j k : Nat} (hj : j ≤ 10) (hk : k ≤ 10) (h : numT j = numT k) : j = k := by
  unfold numT at h
  split at h <;> split at h <;> simp at h <;> omega
theorem num_sign {k : Nat} (hk : k ≤ 10) : ∀ c ∈ numT k, 48 ≤ c ∧ c ≤ 57 := by
  unfold numT
  split <;> simp <;> omega
theorem num_ne (k : Nat) : numT k ≠ [] := by
  unfold numT
  split <;> simp
theorem num_len (k : Nat) : (numT k).length ≤ 2 := by
  unfold numT
  split <;> simp
/-- the number from 0 to 10 that the word is the figures of -/
def readN (w : List Nat) : Option Nat := (List.range 11).find? fun k => decide (w = numT k)
theorem readN_some {w : List Nat} {k : Nat} (h : readN w = some k) : k ≤ 10 ∧ w = numT k := by
  have h1 := List.find?_some h
  have h2 := List.mem_of_find?_eq_some h
  exact ⟨by have := List.mem_range.mp h2; omega, of_decide_eq_true h1⟩
theorem readN_none {w : List Nat} (h : readN w = none) (k : Nat) (hk : k ≤ 10) : w ≠ numT k := fun e => by
  have := List.find?_eq_none.mp h k (List.mem_range.mpr (by omega))
  exact this (decide_eq_true e)
theorem readN_of {w : List Nat} {k : Nat} (hk : k ≤ 10) (e : w = numT k) : readN w = some k := by
  cases h : readN w with
  | none => exact absurd e (readN_none h k hk)
  | some j =>
    obtain ⟨h1, h2⟩ := readN_some h
    rw [num_inj h1 hk (h2.symm.trans e)]
theorem readN_num {k : Nat} (hk : k ≤ 10) : readN (numT k) = some k := readN_of hk rfl
/-- the law's own reading -/
def isFig (c : Nat) : Bool := decide (48 ≤ c ∧ c ≤ 57)
def lawN (w : List Nat) : Option Nat := if (1 ≤ w.length ∧ w.length ≤ 2) ∧ w.all isFig = true then (if w.length = 2 ∧ w.head? = some 48 then none else some (digitsVal w)) else none
theorem lawN_one (a : Nat) : lawN [a] = if isFig a = true then some (a - 48) else none := by
  unfold lawN isFig digitsVal
  simp
theorem lawN_two (a b : Nat) : lawN [a, b] = if isFig a = true ∧ isFig b = true ∧ a ≠ 48 then some ((a - 48) * 10 + (b - 48)) else none := by
  unfold lawN isFig digitsVal
  by_cases h1 : 48 ≤ a ∧ a ≤ 57 <;> by_cases h2 : 48 ≤ b ∧ b ≤ 57 <;> by_cases h3 : a = 48 <;> simp [h1, h2, h3]
theorem law_read {w : List Nat} {k : Nat} (h : readN w = some k) : lawN w = some k := by
  obtain ⟨h1, rfl⟩ := readN_some h
  unfold numT
  split
  · rename_i h2
    rw [lawN_one, if_pos (show isFig (48 + k) = true from decide_eq_true (by omega))]
    congr 1
    omega
  · have : k = 10 := by omega
    subst this
    rw [lawN_two, if_pos ⟨by decide, by decide, by decide⟩]
theorem read_law {w : List Nat} {k : Nat} (h : lawN w = some k) (hk : k ≤ 10) : readN w = some k := by
  apply readN_of hk
  match w with
  | [] => unfold lawN at h; simp at h
  | [a] =>
    rw [lawN_one] at h
    split at h
    · rename_i h1
      have h2 := of_decide_eq_true h1
      have h3 := Option.some.inj h
      unfold numT
      rw [if_pos (by omega)]
      congr 1
      omega
    · cases h
  | [a, b] =>
    rw [lawN_two] at h
    split at h
    · rename_i h1
      have h2 := of_decide_eq_true h1.1
      have h4 := of_decide_eq_true h1.2.1
      have h5 := h1.2.2
      have h3 := Option.some.inj h
      have h6 : k = 10 := by omega
      have h7 : a = 49 := by omega
      have h8 : b = 48 := by omega
      rw [h6, h7, h8] <;> rfl
    · cases h
  | _ :: _ :: _ :: l => unfold lawN at h; simp at h
theorem law_none {w : List Nat} (h : readN w = none) : ∀ k, lawN w = some k → 10 < k := fun k e => by
  by_cases hk : k ≤ 10
  · rw [read_law e hk] at h
    cases h
  · omega
/-! ## cutting -/
theorem cut_same (c : Nat) (l : List Nat) : cutOn c (c :: l) = [] :: cutOn c l := by
  show (if c = c then _ else _) = _
  rw [if_pos rfl]
theorem cut_other {c a : Nat} (h : a ≠ c) (l : List Nat) : cutOn c (a :: l) = match cutOn c l with
    | h :: t => (a :: h) :: t
    | [] => [[a]] := by
  show (if a = c then _ else _) = _
  rw [if_neg h] <;> rfl
theorem part_same (c : Nat) (l : List Nat) : part1 c (c :: l) = ([], true, l) := by
  show (if c = c then _ else _) = _
  rw [if_pos rfl]
theorem part_other {c a : Nat} (h : a ≠ c) (l : List Nat) : part1 c (a :: l) = (a :: (part1 c l).1, (part1 c l).2.1, (part1 c l).2.2) := by
  show (if a = c then _ else _) = _
  rw [if_neg h]
theorem cut_part (c : Nat) : ∀ w : List Nat, cutOn c w = if (part1 c w).2.1 = true then (part1 c w).1 :: cutOn c (part1 c w).2.2 else [(part1 c w).1]
  | [] => rfl
  | a :: l => by
    have ih := cut_part c l
    by_cases h : a = c
    · rw [h, cut_same, part_same, if_pos rfl]
    · rw [cut_other h, part_other h, ih]
      cases (part1 c l).2.1 <;> rfl
theorem part_no {c : Nat} : ∀ {w : List Nat}, (∀ a ∈ w, a ≠ c) → part1 c w = (w, false, [])
  | [], _ => rfl
  | a :: l, h => by
    unfold part1
    rw [if_neg (h a List.mem_cons_self), part_no fun b hb => h b (List.mem_cons_of_mem _ hb)]
theorem part_at {c : Nat} {t : List Nat} : ∀ {w : List Nat}, (∀ a ∈ w, a ≠ c) → part1 c (w ++ c :: t) = (w, true, t)
  | [], _ => by
    show (if c = c then _ else _) = _
    rw [if_pos rfl]
  | a :: l, h => by
    rw [List.cons_append, part_other (h a List.mem_cons_self), part_at (w := l) fun b hb => h b (List.mem_cons_of_mem _ hb)]
theorem part_off {c : Nat} : ∀ {w : List Nat}, (part1 c w).2.1 = false → (part1 c w).2.2 = []
  | [], _ => rfl
  | a :: l, h => by
    unfold part1 at h ⊢
    by_cases e : a = c
    · rw [if_pos e] at h
      cases h
    · rw [if_neg e] at h ⊢
      exact part_off (w := l) h
theorem part_in {c : Nat} : ∀ {w : List Nat}, (part1 c w).2.1 = decide (c ∈ w)
  | [] => by simp [part1]
  | a :: l => by
    unfold part1
    by_cases e : a = c
    · rw [if_pos e]
      simp [e]
    · rw [if_neg e, part_in (w := l)]
      simp [Ne.symm e]
theorem part_len (c : Nat) : ∀ w : List Nat, (part1 c w).1.length ≤ w.length ∧ (part1 c w).2.2.length ≤ w.length
  | [] => ⟨Nat.le_refl _, Nat.le_refl _⟩
  | a :: l => by
    have ih := part_len c l
    unfold part1
    split
    · exact ⟨by simp, by simp⟩
    · exact ⟨by simp; omega, by simp; omega⟩
theorem cut_no {c : Nat} {w : List Nat} (h : ∀ a ∈ w, a ≠ c) : cutOn c w = [w] := by
  rw [cut_part, part_no h] <;> rfl
theorem cut_mem (c : Nat) : ∀ (w : List Nat) (u : List Nat), u ∈ cutOn c w → u.length ≤ w.length
  | [], u, h => by
    unfold cutOn at h
    rw [List.mem_singleton.mp h] <;> exact Nat.le_refl _
  | a :: l, u, h => by
    have ih := cut_mem c l
    unfold cutOn at h
    split at h
    · rcases List.mem_cons.mp h with e | h
      · rw [e]; exact Nat.zero_le _
      · exact Nat.le_trans (ih u h) (by simp)
    · cases e : cutOn c l with
      | nil => exact absurd e (cutOn_ne c l)
      | cons x t =>
        rw [e] at h ih
        rcases List.mem_cons.mp h with e2 | h
        · rw [e2]
          have := ih x List.mem_cons_self
          simp
          exact this
        · exact Nat.le_trans (ih u (List.mem_cons_of_mem _ h)) (by simp)
theorem cut_count (c : Nat) : ∀ w : List Nat, (cutOn c w).length ≤ w.length + 1
  | [] => Nat.le_refl _
  | a :: l => by
    have ih := cut_count c l
    unfold cutOn
    split
    · simp; omega
    · cases e : cutOn c l with
      | nil => exact absurd e (cutOn_ne c l)
      | cons x t =>
        rw [e] at ih
        simp at ih ⊢
        omega
/-! ## Comparers and webs as texts -/
def pairOk (n : Nat) : Option Nat → Option Nat → Option Cmp
  | some a, some b => if a < n ∧ b < n ∧ a ≠ b then some (a, b) else none
  | _, _ => none
def readC (n : Nat) (w : List Nat) : Option Cmp := pairOk n (readN (part1 45 w).1) (readN (part1 45 w).2.2)
def lawC (n : Nat) (w : List Nat) : Option Cmp := match cutOn 45 w with
  | [u, v] => pairOk n (lawN u) (lawN v)
  | _ => none
theorem pair_eq {n : Nat} (hn : n ≤ 10) (u v : List Nat) : pairOk n (lawN u) (lawN v) = pairOk n (readN u) (readN v) := by
  have one : ∀ w : List Nat, (∃ k, lawN w = some k ∧ readN w = some k ∧ k ≤ 10) ∨ (readN w = none ∧ (lawN w = none ∨ ∃ k, lawN w = some k ∧ 10 < k)) := fun w => by
    cases e : readN w with
    | some k => exact .inl ⟨k, law_read e, rfl, (readN_some e).1⟩
    | none =>
      refine .inr ⟨rfl, ?_⟩
      cases e2 : lawN w with
      | none => exact .inl rfl
      | some k => exact .inr ⟨k, rfl, law_none e k e2⟩
  rcases one u with ⟨a, h1, h2, _⟩ | ⟨h2, h1 | ⟨a, h1, h3⟩⟩ <;> rcases one v with ⟨b, g1, g2, _⟩ | ⟨g2, g1 | ⟨b, g1, g3⟩⟩ <;> rw [h1, h2, g1, g2]
  all_goals try rfl
  all_goals
    show (if _ then _ else _) = _
    rw [if_neg (by omega)] <;> rfl
theorem law_cmp {n : Nat} (hn : n ≤ 10) (w : List Nat) : lawC n w = readC n w := by
  unfold lawC readC
  rw [cut_part]
  cases e : (part1 45 w).2.1 with
  | false =>
    rw [part_off e]
    have : readN [] = none := by decide
    rw [this, if_neg (by simp)]
    cases readN (part1 45 w).1 <;> rfl
  | true =>
    rw [if_pos rfl, cut_part]
    cases e2 : (part1 45 (part1 45 w).2.2).2.1 with
    | false =>
      rw [if_neg (by simp)]
      have h : part1 45 (part1 45 w).2.2 = ((part1 45 w).2.2, false, []) := by
        have hh : ∀ a ∈ (part1 45 w).2.2, a ≠ 45 := fun a ha z => by
          rw [part_in] at e2
          exact of_decide_eq_false e2 (z ▸ ha)
        exact part_no hh
      rw [h]
      exact pair_eq hn _ _
    | true =>
      rw [if_pos rfl]
      have hne := cutOn_ne 45 (part1 45 (part1 45 w).2.2).2.2
      have none2 : readN (part1 45 w).2.2 = none := by
        cases q : readN (part1 45 w).2.2 with
        | none => rfl
        | some k =>
          obtain ⟨h1, h2⟩ := readN_some q
          have h3 : (45 : Nat) ∈ (part1 45 w).2.2 := by
            rw [part_in] at e2
            exact of_decide_eq_true e2
          rw [h2] at h3
          have := num_sign h1 45 h3
          omega
      rw [none2]
      cases q : cutOn 45 (part1 45 (part1 45 w).2.2).2.2 with
      | nil => exact absurd q hne
      | cons x t => cases readN (part1 45 w).1 <;> rfl
def getAll {α β : Type} (f : α → Option β) : List α → Option (List β)
  | [] => some []
  | a :: l => match f a, getAll f l with
    | some b, some r => some (b :: r)
    | _, _ => none
theorem getAll_some {α β : Type} {f : α → Option β} : ∀ {l : List α} {r : List β}, getAll f l = some r → All2 (fun a b => f a = some b) l r
  | [], r, h => by
    cases h
    exact .nil
  | a :: l, r, h => by
    unfold getAll at h
    split at h
    · rename_i b r' h1 h2
      cases h
      exact .cons h1 (getAll_some h2)
    · cases h
theorem getAll_none {α β : Type} {f : α → Option β} : ∀ {l : List α}, getAll f l = none → ∃ (k : Nat) (a : α), l[k]? = some a ∧ f a = none ∧ ∀ i < k, ∃ (b : α) (c : β), l[i]? = some b ∧ f b = some c
  | [], h => by cases h
  | a :: l, h => by
    unfold getAll at h
    cases e : f a with
    | none => exact ⟨0, a, rfl, e, fun i hi => absurd hi (Nat.not_lt_zero i)⟩
    | some b =>
      rw [e] at h
      cases e2 : getAll f l with
      | some r => rw [e2] at h; cases h
      | none =>
        obtain ⟨k, x, h1, h2, h3⟩ := getAll_none e2
        refine ⟨k + 1, x, h1, h2, fun i hi => ?_⟩
        cases i with
        | zero => exact ⟨a, b, rfl, e⟩
        | succ i => exact h3 i (by omega)
theorem getAll_of {α β : Type} {f : α → Option β} {l : List α} {r : List β} (h : All2 (fun a b => f a = some b) l r) : getAll f l = some r := by
  induction h with
  | nil => rfl
  | cons h1 _ ih =>
    unfold getAll
    rw [h1, ih]
theorem getAll_congr {α β : Type} {f g : α → Option β} (h : ∀ a, f a = g a) (l : List α) : getAll f l = getAll g l := by
  have : f = g := funext h
  rw [this]
/-- the web that a text writes -/
def tailW (n : Nat) (t : List Nat) : Option (List Cmp) := match cutOn 32 t with
  | [] :: ws => if ws.length ≤ 60 then getAll (readC n) ws else none
  | _ => none
def readW (x : List Nat) : Option (Nat × List Cmp) := if (part1 58 x).2.1 = true then match readN (part1 58 x).1 with
  | some n => if 1 ≤ n then (tailW n (part1 58 x).2.2).map fun cs => (n, cs) else none
  | none => none
  else none
def cmpT (c : Cmp) : List Nat := numT c.1 ++ 45 :: numT c.2
def tailT (cs : List Cmp) : List Nat := (cs.map fun c => 32 :: cmpT c).flatten
def webT (n : Nat) (cs : List Cmp) : List Nat := numT n ++ 58 :: tailT cs
def webTx (n : Nat) (cs : List Cmp) : Str := tx (webT n cs)
theorem cmp_sign {c : Cmp} (h1 : c.1 ≤ 10) (h2 : c.2 ≤ 10) : ∀ a ∈ cmpT c, a ≠ 32 ∧ a ≠ 58 := by
  intro a ha
  rcases List.mem_append.mp ha with h | h
  · have := num_sign h1 a h
    omega
  · rcases List.mem_cons.mp h with h | h
    · omega
    · have := num_sign h2 a h
      omega
theorem readC_cmp {n : Nat} {c : Cmp} (hn : n ≤ 10) (h : CmpOk n c) : readC n (cmpT c) = some c := by
  obtain ⟨h1, h2, h3⟩ := h
  have e : part1 45 (cmpT c) = (numT c.1, true, numT c.2) := part_at fun a ha z => by
    have := num_sign (show c.1 ≤ 10 by omega) a ha
    omega
  unfold readC
  rw [e, readN_num (by omega), readN_num (by omega)]
  show (if _ then _ else _) = _
  rw [if_pos ⟨h1, h2, h3⟩]
theorem cut_app {c : Nat} {t : List Nat} : ∀ {w : List Nat}, (∀ a ∈ w, a ≠ c) → cutOn c (w ++ c :: t) = w :: cutOn c t := fun {w} h => by
  rw [cut_part, part_at h] <;> rfl
theorem cut_tail : ∀ cs : List Cmp, (∀ c ∈ cs, c.1 ≤ 10 ∧ c.2 ≤ 10) → cutOn 32 (tailT cs) = [] :: cs.map cmpT
  | [], _ => rfl
  | c :: cs, h => by
    have hc := h c List.mem_cons_self
    have ih := cut_tail cs fun d hd => h d (List.mem_cons_of_mem _ hd)
    have no : ∀ a ∈ cmpT c, a ≠ 32 := fun a ha => (cmp_sign hc.1 hc.2 a ha).1
    show (if (32 : Nat) = 32 then [] :: cutOn 32 (cmpT c ++ tailT cs) else _) = _
    rw [if_pos rfl]
    show [] :: cutOn 32 (cmpT c ++ tailT cs) = [] :: cmpT c :: cs.map cmpT
    congr 1
    cases cs with
    | nil =>
      show cutOn 32 (cmpT c ++ []) = _
      rw [List.append_nil, cut_no no] <;> rfl
    | cons d ds =>
      have e : tailT (d :: ds) = 32 :: (cmpT d ++ tailT ds) := rfl
      rw [e] at ih ⊢
      rw [cut_app no]
      congr 1
      have e2 : cutOn 32 (32 :: (cmpT d ++ tailT ds)) = [] :: cutOn 32 (cmpT d ++ tailT ds) := by
        show (if (32 : Nat) = 32 then _ else _) = _
        rw [if_pos rfl]
      rw [e2] at ih
      exact (List.cons.inj ih).2
theorem readW_web {n : Nat} {cs : List Cmp} (h : WebOk n cs) (n1 : 1 ≤ n) (n10 : n ≤ 10) : readW (webT n cs) = some (n, cs) := by
  have e : part1 58 (webT n cs) = (numT n, true, tailT cs) := part_at fun a ha z => by
    have := num_sign n10 a ha
    omega
  have ok : ∀ c ∈ cs, c.1 ≤ 10 ∧ c.2 ≤ 10 := fun c hc => by
    obtain ⟨h1, h2, _⟩ := h.2 c hc
    exact ⟨by omega, by omega⟩
  have all : All2 (fun a b => readC n a = some b) (cs.map cmpT) cs := by
    have : ∀ l : List Cmp, (∀ c ∈ l, CmpOk n c) → All2 (fun a b => readC n a = some b) (l.map cmpT) l := fun l => by
      induction l with
      | nil => intro _; exact .nil
      | cons c l ih => intro hl; exact .cons (readC_cmp n10 (hl c List.mem_cons_self)) (ih fun d hd => hl d (List.mem_cons_of_mem _ hd))
    exact this cs h.2
  unfold readW
  rw [e, readN_num n10]
  show (if 1 ≤ n then _ else _) = _
  rw [if_pos n1]
  unfold tailW
  rw [cut_tail cs ok]
  show Option.map _ (if (cs.map cmpT).length ≤ 60 then _ else _) = _
  rw [if_pos (by rw [List.length_map]; exact h.1), getAll_of all] <;> rfl
theorem readW_ok {x : List Nat} {n : Nat} {cs : List Cmp} (h : readW x = some (n, cs)) : WebOk n cs ∧ 1 ≤ n ∧ n ≤ 10 := by
  unfold readW at h
  split at h
  · split at h
    · rename_i m hm
      split at h
      · rename_i h1
        cases e : tailW m (part1 58 x).2.2 with
        | none => rw [e] at h; cases h
        | some l =>
          rw [e] at h
          cases h
          refine ⟨?_, h1, (readN_some hm).1⟩
          unfold tailW at e
          split at e
          · rename_i ws _
            split at e
            · rename_i hl
              have a := getAll_some e
              refine ⟨by rw [← a.length]; exact hl, fun c hc => ?_⟩
              obtain ⟨i, hi⟩ := List.mem_iff_getElem?.mp hc
              obtain ⟨w, _, hw⟩ := a.get hi
              unfold readC pairOk at hw
              split at hw
              · split at hw
                · rename_i h3
                  cases hw
                  exact h3
                · cases hw
              · cases hw
            · cases e
          · cases e
      · cases h
    · cases h
  · cases h
end Sw

set_option Elab.async false
set_option linter.all false
set_option maxRecDepth 100000
set_option maxHeartbeats 4000000
namespace Sw
open PySem PySem.Spec PyProof.Rows L2
/-! ## What is handed in, and how it is judged -/
/-- a line of n -/
def lnV (n : Nat) : V → Bool
  | .int i => decide (0 ≤ i ∧ i < (n : Int))
  | _ => false
/-- two lines of n, unlike -/
def twV (n : Nat) : V → V → Bool
  | .int i, .int j => decide (0 ≤ i ∧ i < (n : Int)) && (decide (0 ≤ j ∧ j < (n : Int)) && decide (¬ i = j))
  | _, _ => false
/-- a number of lines -/
def noV : V → Bool
  | .int i => decide (1 ≤ i ∧ i ≤ 10)
  | _ => false
theorem tyb_int {K : PySem.W.Frag} {H : Hp} {v : V} {T : String} (h : TyB K H v T) : (T = "int" ∧ ∃ i, v = .int i) ∨ (T ≠ "int" ∧ ∀ i, v ≠ .int i) := by
  cases h with
  | int i => exact .inl ⟨rfl, i, rfl⟩
  | _ => exact .inr ⟨by decide, fun _ z => nomatch z⟩
/-- an item of comparers, and whether it is one -/
inductive ItOk (K : PySem.W.Frag) (H : Hp) (n : Nat) : V → Bool → Prop
  | other {v : V} {T : String} (h : TyB K H v T) (ne : T ≠ "tuple") : ItOk K H n v false
  | long {p : Addr} {xs : List V} (h : SqT K H p xs) (ne : xs.length ≠ 2) : ItOk K H n (.ref p) false
  | two {p : Addr} {x y : V} {Tx Ty : String} (h : SqT K H p [x, y]) (hx : TyB K H x Tx) (hy : TyB K H y Ty) : ItOk K H n (.ref p) (twV n x y)
/-- what need_web finds -/
inductive Verd where
  | good
  | lines
  | web (at_ : Option Nat)
inductive WebV (K : PySem.W.Frag) (H : Hp) : V → V → Verd → Prop
  | lines {lv cv : V} {T : String} (h : TyB K H lv T) (bad : noV lv = false) : WebV K H lv cv .lines
  | kind {n : Nat} {cv : V} {T : String} (hn : noV (.int (n : Int)) = true) (h : TyB K H cv T) (ne : T ≠ "list") : WebV K H (.int (n : Int)) cv (.web none)
  | many {n : Nat} {a : Addr} {xs : List V} (hn : noV (.int (n : Int)) = true) (h : SqL K H a xs) (hl : 60 < xs.length) : WebV K H (.int (n : Int)) (.ref a) (.web none)
  | item {n k : Nat} {a : Addr} {xs : List V} {y : V} (hn : noV (.int (n : Int)) = true) (h : SqL K H a xs) (hl : xs.length ≤ 60) (ok : ∀ i < k, ∃ x : V, xs[i]? = some x ∧ ItOk K H n x true) (hy : xs[k]? = some y) (bad : ItOk K H n y false) : WebV K H (.int (n : Int)) (.ref a) (.web (some k))
  | good {n : Nat} {a : Addr} {xs : List V} (hn : noV (.int (n : Int)) = true) (h : SqL K H a xs) (hl : xs.length ≤ 60) (ok : ∀ (i : Nat) (x : V), xs[i]? = some x → ItOk K H n x true) : WebV K H (.int (n : Int)) (.ref a) .good
/-- None or a number -/
def onV : Option Nat → V
  | none => .non
  | some k => .int (k : Int)
/-- how a bad web is refused -/
def Refu (K : PySem.W.Frag) (H : Hp) (E : XK) : Verd → Prop
  | .good => False
  | .lines => ∀ H', Same H H' → E (.ref (He.ga K "BadLines")) none H'
  | .web o => ∀ H' d, Same H H' → H' d = none → E (.ref (He.ga K "BadWeb")) (some d) (upd H' d (.xd [("place", onV o)]))
theorem tyb_same {K : PySem.W.Frag} {H H' : Hp} {v : V} {T : String} (s : Same H H') (h : TyB K H v T) : TyB K H' v T := by
  cases h with
  | non => exact .non
  | bl b => exact .bl b
  | int i => exact .int i
  | str x => exact .str x
  | byt b => exact .byt b
  | lst h => exact .lst (s.seq h)
  | tup h => exact .tup (Same.sqt s h)
  | dK h => exact .dK (s _ _ h)
theorem it_same {K : PySem.W.Frag} {H H' : Hp} {n : Nat} {v : V} {b : Bool} (s : Same H H') (h : ItOk K H n v b) : ItOk K H' n v b := by
  cases h with
  | other h ne => exact .other (tyb_same s h) ne
  | long h ne => exact .long (Same.sqt s h) ne
  | two h hx hy => exact .two (Same.sqt s h) (tyb_same s hx) (tyb_same s hy)
theorem it_cmp {K : PySem.W.Frag} {H : Hp} {n : Nat} {p : Addr} {c : Cmp} (h : SqT K H p (V2 c)) (ok : CmpOk n c) : ItOk K H n (.ref p) true := by
  have e : twV n (.int (c.1 : Int)) (.int (c.2 : Int)) = true := by
    obtain ⟨h1, h2, h3⟩ := ok
    show (decide _ && (decide _ && decide _)) = true
    rw [decide_eq_true (by omega), decide_eq_true (by omega), decide_eq_true (by omega)] <;> rfl
  rw [← e]
  exact .two h (.int _) (.int _)
end Sw

set_option Elab.async false
set_option linter.all false
set_option maxRecDepth 100000
set_option maxHeartbeats 4000000
namespace Sw
open PySem PySem.Spec PyProof.Rows L2
/-! ## Methods -/
def memS (st : Stmt) (i : Nat) : Stmt := match st with
  | .ClassDef _ _ _ b _ _ _ _ _ _ _ => b.getD i (.Pass ⟨0, 0, 0, 0⟩)
  | _ => .Pass ⟨0, 0, 0, 0⟩
def metD (x m q : Str) (st : Stmt) : He.DefD := ⟨(x, some m), m, q, defArgs st, defBody st, defScope st, [], []⟩
/-- the method m of the class x is the def st of the text -/
def Met (K : PySem.W.Frag) (x m q : Str) (st : Stmt) : Prop := ∃ fd : FuncData, FunD K m q (defArgs st) (defBody st) (defScope st) [] [] (He.ma K (He.ga K x) m) fd
theorem met_of {fa : List He.Fa} {fn : List He.DefD} {ex : PySem.W.Frag → Bool} {K : PySem.W.Frag} (c : SaysZ fa fn ex K) {x m q : Str} {st : Stmt} (i : Nat) (hi : fn[i]? = some (metD x m q st)) : Met K x m q st := c.d.def_ i hi
/-- the reading of an error's __init__ that keeps one field f, behind a text of it -/
def rInit (K : PySem.W.Frag) (z f : Str) : TS := tSeq (tDrop (tVeI K (tCons (tVar 0) (tCons (tJoin [tC (.str z), tFmtN (tVar 1)]) tNil)))) (tOst K f (tVar 0) (tVar 1))
theorem rd_init {K : PySem.W.Frag} {mg : Str → Option Value} {x z f : Str} (m : OwK K mg x f) (hz : z.length ≤ 1000) (vs : List V) (H : Hp) (Q : VK) (E : XK) (h : spInit K (He.ga K x) f vs H Q E) : rInit K z f { nx := fun _ H' => Q .non H', rt := Q } (L2.start ["self", f] vs) H := by
  obtain ⟨a, v, rfl, ha, hv, q⟩ := h
  have el : (Str.empty ++ z).length ≤ 1000 := by
    have : (Str.empty ++ z).length = z.length := by
      show (#[] ++ z.cps).size = z.cps.size
      simp
    omega
  have el2 : ∀ y : Str, y.length ≤ 400 → (Str.empty ++ z ++ y).length ≤ 1000000 := fun y hy => by
    have : (Str.empty ++ z ++ y).length = (Str.empty ++ z).length + y.length := by
      show ((Str.empty ++ z).cps ++ y.cps).size = _
      rw [Array.size_append] <;> rfl
    omega
  have gen : ∀ y : Str, y.length ≤ 400 → (Str.empty ++ z ++ y).length ≤ sizeLine ∧ (tVeI K (fun _ H Q => Q [.ref a, .str (Str.empty ++ z ++ y)] H)) [some (.ref a), some v] H fun _ H' => tOst K f (tVar 0) (tVar 1) { nx := fun _ H' => Q .non H', rt := Q } [some (.ref a), some v] H' := fun y hy => by
    refine ⟨small_line (el2 y hy), a, He.ga K x, [.str (Str.empty ++ z ++ y)], rfl, by show 1 ≤ 1000; decide, m.o, ha, ?_⟩
    exact ⟨v, rfl, .ref a, rfl, a, He.ga K x, rfl, m.o, m.n, .inl ⟨ha, fun dx h1 h2 => q dx h1 h2⟩⟩
  simp only [rInit, tSeq, tDrop, L2.start, List.map_cons, List.map_nil, List.length_cons, List.length_nil, Nat.reduceAdd, Nat.sub_self, List.replicate_zero, List.append_nil]
  rcases hv with rfl | ⟨i, rfl, i0, i1⟩
  · obtain ⟨g1, g2⟩ := gen "None" (by decide +kernel)
    exact ⟨.ref a, rfl, z, rfl, small_line (by omega), .non, rfl, .inl ⟨rfl, "None", rfl, g1, g2⟩⟩
  · have hi : i.natAbs.log2 < 1920 := by
      have h3 : i.natAbs ≤ 1000 := by omega
      have : i.natAbs.log2 ≤ i.natAbs := Nat.log2_le_self _
      omega
    have len : (toString i : Str).length ≤ 400 := by
      have h3 : ∀ n : Nat, n ≤ 1000 → (Str.ofString (toString (n : Int))).length ≤ 400 := by decide +kernel
      have := h3 i.toNat (by omega)
      rw [Int.toNat_of_nonneg i0] at this
      exact this
    obtain ⟨g1, g2⟩ := gen (toString i) len
    exact ⟨.ref a, rfl, z, rfl, small_line (by omega), .int i, rfl, .inr ⟨i, rfl, hi, toString i, rfl, g1, g2⟩⟩
end Sw

set_option Elab.async false
set_option linter.all false
set_option maxRecDepth 100000
set_option maxHeartbeats 4000000
namespace Sw
open PySem PySem.Spec PyProof.Rows L2
theorem sg_app (x y : Str) : sg (x ++ y) = sg x ++ sg y := by
  show (x.cps ++ y.cps).toList = x.cps.toList ++ y.cps.toList
  rw [Array.toList_append]
theorem sg_nil : sg Str.empty = [] := rfl
theorem sg_nil2 : sg ("" : Str) = [] := by decide +kernel
theorem app_len (x y : Str) : (x ++ y).length = x.length + y.length := by
  rw [sg_len, sg_len, sg_len, sg_app, List.length_append]
theorem tx_len (l : List Nat) : (tx l).length = l.length := by rw [sg_len, sg_tx]
theorem eq_tx {x : Str} {l : List Nat} (h : sg x = l) : x = tx l := by rw [← h, tx_sg]
theorem joinL_nil : ∀ l : List (List Nat), TL.joinL [] l = l.flatten
  | [] => rfl
  | [p] => by simp [TL.joinL]
  | p :: q :: r => by
    show p ++ ([] ++ TL.joinL [] (q :: r)) = _
    rw [joinL_nil (q :: r)] <;> rfl
theorem joinL_one (c : Nat) : ∀ (l : List (List Nat)) (p : List Nat), TL.joinL [c] (p :: l) = p ++ (l.map fun y => c :: y).flatten
  | [], p => by simp [TL.joinL]
  | q :: r, p => by
    show p ++ ([c] ++ TL.joinL [c] (q :: r)) = _
    rw [joinL_one c r q] <;> rfl
theorem sg_join0 (ys : List Str) : sg (Txt.join "" ys) = (ys.map sg).flatten := by
  rw [TL.join_eq]
  show TL.tl (Str.join _ ys) = _
  rw [TL.tl_join]
  have e : TL.tl ("" : Str) = [] := by decide +kernel
  rw [e]
  exact joinL_nil _
theorem sg_join1 (z p : Str) (c : Nat) (hz : sg z = [c]) (ys : List Str) : sg (Txt.join z (p :: ys)) = sg p ++ (ys.map fun y => c :: sg y).flatten := by
  rw [TL.join_eq]
  show TL.tl (Str.join _ (p :: ys)) = _
  rw [TL.tl_join]
  have e : TL.tl z = [c] := hz
  rw [e, List.map_cons, joinL_one, List.map_map] <;> rfl
theorem cutS_to (z : Str) (k : Nat) : sg (cutS z none (some (k : Int))) = (sg z).take k := by
  unfold cutS
  rw [HT.sIx_none, HT.sIx_nat]
  show ((sg z).drop 0).take (min k z.length - 0) = _
  rw [List.drop_zero, Nat.sub_zero, sg_len]
  by_cases h : k ≤ (sg z).length
  · rw [Nat.min_eq_left h]
  · rw [Nat.min_eq_right (by omega), List.take_of_length_le (Nat.le_refl _), List.take_of_length_le (by omega)]
theorem cutS_from (z : Str) (k : Nat) : sg (cutS z (some (k : Int)) none) = (sg z).drop k := by
  unfold cutS
  rw [HT.sIx_none, HT.sIx_nat]
  show ((sg z).drop (min k z.length)).take (z.length - min k z.length) = _
  rw [sg_len]
  by_cases h : k ≤ (sg z).length
  · rw [Nat.min_eq_left h, List.take_of_length_le (by rw [List.length_drop]; exact Nat.le_refl _)]
  · rw [Nat.min_eq_right (by omega), List.drop_eq_nil_of_le (Nat.le_refl _), List.drop_eq_nil_of_le (by omega), List.take_nil]
theorem log_small {i : Int} (h : i.natAbs ≤ 1000) : i.natAbs.log2 < 1920 := by
  have := Nat.log2_le_self i.natAbs
  omega
/-- the word of a comparer, a blank ahead -/
def wordT (c : Cmp) : Str := tx (32 :: cmpT c)
theorem cmp_len (c : Cmp) : (cmpT c).length ≤ 5 := by
  unfold cmpT
  rw [List.length_append, List.length_cons]
  have := num_len c.1
  have := num_len c.2
  omega
theorem tail_len (cs : List Cmp) : (tailT cs).length ≤ 6 * cs.length := by
  unfold tailT
  induction cs with
  | nil => simp
  | cons c cs ih =>
    rw [List.map_cons, List.flatten_cons, List.length_append, List.length_cons, List.length_cons]
    have := cmp_len c
    omega
theorem web_len (n : Nat) (cs : List Cmp) : (webTx n cs).length ≤ 3 + 6 * cs.length := by
  unfold webTx webT
  rw [tx_len, List.length_append, List.length_cons]
  have := num_len n
  have := tail_len cs
  omega
theorem join_words (cs : List Cmp) : sg (Txt.join "" (cs.map wordT)) = tailT cs := by
  rw [sg_join0, List.map_map] <;> rfl
theorem lens_words (cs : List Cmp) : ((cs.map wordT).map (·.length)).sum ≤ 6 * cs.length := by
  induction cs with
  | nil => simp
  | cons c cs ih =>
    rw [List.map_cons, List.map_cons, List.sum_cons, List.length_cons]
    have e : (wordT c).length ≤ 6 := by
      unfold wordT
      rw [tx_len, List.length_cons]
      have := cmp_len c
      omega
    omega
/-- f" {a}-{b}" -/
theorem word_eq {a b : Nat} (ha : a ≤ 10) (hb : b ≤ 10) (s1 s2 : Str) (h1 : sg s1 = [32]) (h2 : sg s2 = [45]) : Str.empty ++ s1 ++ Str.ofString (toString (a : Int)) ++ s2 ++ Str.ofString (toString (b : Int)) = wordT (a, b) := by
  refine eq_tx ?_
  rw [sg_app, sg_app, sg_app, sg_app, sg_nil, h1, h2, num_str a ha, num_str b hb]
  show [] ++ [32] ++ numT a ++ [45] ++ numT b = 32 :: (numT a ++ 45 :: numT b)
  simp
theorem sg_num {a : Nat} (ha : a ≤ 10) : (Str.ofString (toString (a : Int))).length ≤ 2 := by
  rw [sg_len, num_str a ha]
  exact num_len a
end Sw

set_option Elab.async false
set_option linter.all false
set_option maxRecDepth 100000
set_option maxHeartbeats 4000000
namespace Sw
open PySem PySem.Spec PyProof.Rows L2
/-! ## Walks, once what is walked is at hand -/
def LcK (g : TG) (tt : TT) (te : TE) (vs : List Nat) (σ : L2.St) (Q : VK) : It → Hp → Prop := fun J H1 => tLc (fun _ _ R => R J H1) g tt te vs σ H1 Q
theorem lc_def (wi : TI) (g : TG) (tt : TT) (te : TE) (vs : List Nat) (σ : L2.St) (H : Hp) (Q : VK) : tLc wi g tt te vs σ H Q = wi σ H (LcK g tt te vs σ Q) := rfl
def ForK (g : TG) (tb : TS) (D : Ends) (σ : L2.St) : It → Hp → Prop := fun J H1 => tFor (fun _ _ R => R J H1) g tb D σ H1
theorem for_def (wi : TI) (g : TG) (tb : TS) (D : Ends) (σ : L2.St) (H : Hp) : tFor wi g tb D σ H = wi σ H (ForK g tb D σ) := rfl
section
variable {K : PySem.W.Frag} {σ : L2.St} {H : Hp} {te : TE} {tb : TS} {D : Ends} {a : Addr} {xs : List V} {j1 j2 : Nat} {Q : VK}
theorem lck_list {tt : TT} {vs : List Nat} (hx : SqL K H a xs) (hvs : ∀ v, wipe ((wipe σ vs).set j1 v) vs = wipe σ vs)
    (G : Addr → Nat → List V → Hp → Prop) (h0 : ∀ D, H D = none → G D 0 [] (upd H D (.lst []))) (hl : ∀ D i acc H', H D = none → G D i acc H' → SqL K H' a xs)
    (turn : ∀ D i x acc H', H D = none → xs[i]? = some x → i < xs.length → H' D = some (.lst acc) → G D i acc H' → Turn tt te D (G D) i ((wipe σ vs).set j1 (some x)) H')
    (done : ∀ D acc H', H D = none → H' D = some (.lst acc) → G D xs.length acc H' → Q (.ref D) H') : LcK (gName j1) tt te vs σ Q (Itl K a) H := by
  refine fun D nD => it_lc (n := xs.length) (So D (G D)) ⟨[], upd_same, h0 D nD⟩ (fun i H' hi p => ?_) (fun H' p => ?_) (fun i H' hi p v H2 y => ?_) (fun H' p => ?_)
  · obtain ⟨acc, _, g⟩ := p
    obtain ⟨x, hx⟩ := get_of hi
    exact ⟨_, x, hl D _ _ _ nD g, hx⟩
  · obtain ⟨acc, _, g⟩ := p
    exact ⟨_, hl D _ _ _ nD g, Nat.le_refl _⟩
  · obtain ⟨acc, hD, g⟩ := p
    obtain ⟨rfl, f⟩ := y
    exact ⟨hvs _, turn D i v acc H2 nD (f _ (hl D _ _ _ nD g)) hi hD g⟩
  · obtain ⟨acc, hD, g⟩ := p
    exact done D acc H' nD hD g
theorem lck_tup {tt : TT} {vs : List Nat} (hx : SqT K H a xs) (hvs : ∀ v, wipe ((wipe σ vs).set j1 v) vs = wipe σ vs)
    (G : Addr → Nat → List V → Hp → Prop) (h0 : ∀ D, H D = none → G D 0 [] (upd H D (.lst []))) (hl : ∀ D i acc H', H D = none → G D i acc H' → SqT K H' a xs)
    (turn : ∀ D i x acc H', H D = none → xs[i]? = some x → i < xs.length → H' D = some (.lst acc) → G D i acc H' → Turn tt te D (G D) i ((wipe σ vs).set j1 (some x)) H')
    (done : ∀ D acc H', H D = none → H' D = some (.lst acc) → G D xs.length acc H' → Q (.ref D) H') : LcK (gName j1) tt te vs σ Q (Itt K a) H := by
  refine fun D nD => it_lc (n := xs.length) (So D (G D)) ⟨[], upd_same, h0 D nD⟩ (fun i H' hi p => ?_) (fun H' p => ?_) (fun i H' hi p v H2 y => ?_) (fun H' p => ?_)
  · obtain ⟨acc, _, g⟩ := p
    obtain ⟨x, hx⟩ := get_of hi
    exact ⟨_, x, hl D _ _ _ nD g, hx⟩
  · obtain ⟨acc, _, g⟩ := p
    exact ⟨_, hl D _ _ _ nD g, Nat.le_refl _⟩
  · obtain ⟨acc, hD, g⟩ := p
    obtain ⟨rfl, f⟩ := y
    exact ⟨hvs _, turn D i v acc H2 nD (f _ (hl D _ _ _ nD g)) hi hD g⟩
  · obtain ⟨acc, hD, g⟩ := p
    exact done D acc H' nD hD g
theorem lck_str {tt : TT} {vs : List Nat} {z : Str} (hvs : ∀ v, wipe ((wipe σ vs).set j1 v) vs = wipe σ vs)
    (G : Addr → Nat → List V → Hp → Prop) (h0 : ∀ D, H D = none → G D 0 [] (upd H D (.lst [])))
    (turn : ∀ D i c acc H', H D = none → (sg z)[i]? = some c → i < (sg z).length → H' D = some (.lst acc) → G D i acc H' → Turn tt te D (G D) i ((wipe σ vs).set j1 (some (.str ⟨#[c]⟩))) H')
    (done : ∀ D acc H', H D = none → H' D = some (.lst acc) → G D (sg z).length acc H' → Q (.ref D) H') : LcK (gName j1) tt te vs σ Q (Its z) H := by
  have size : z.cps.size = (sg z).length := by
    show _ = z.cps.toList.length
    rw [Array.length_toList]
  refine fun D nD => it_lc (n := (sg z).length) (So D (G D)) ⟨[], upd_same, h0 D nD⟩ (fun i H' hi p => ?_) (fun H' p => ?_) (fun i H' hi p v H2 y => ?_) (fun H' p => ?_)
  · show i < z.cps.size
    rw [size]
    exact hi
  · show z.cps.size ≤ (sg z).length
    rw [size]
    exact Nat.le_refl _
  · obtain ⟨acc, hD, g⟩ := p
    obtain ⟨rfl, c, hc, rfl⟩ := y
    refine ⟨hvs _, turn D i c acc H2 nD ?_ hi hD g⟩
    show z.cps.toList[i]? = some c
    rw [← hc]
    simp
  · obtain ⟨acc, hD, g⟩ := p
    exact done D acc H' nD hD g
theorem fork_list (hx : SqL K H a xs) (Pv : Nat → L2.St → Hp → Prop) (h0 : Pv 0 σ H) (hl : ∀ i σ H, i ≤ xs.length → Pv i σ H → SqL K H a xs)
    (turn : ∀ i x σ H, xs[i]? = some x → i < xs.length → Pv i σ H → tb { D with nx := Pv (i + 1), ct := Pv (i + 1), bk := D.nx } (σ.set j1 (some x)) H)
    (done : ∀ σ H, Pv xs.length σ H → D.nx σ H) : ForK (gName j1) tb D σ (Itl K a) H := by
  refine it_for (n := xs.length) Pv h0 (fun i σ H hi p => ?_) (fun σ H p => ?_) (fun i σ H hi p v H' y => ?_) done
  · obtain ⟨x, hx⟩ := get_of hi
    exact ⟨_, x, hl i σ H (Nat.le_of_lt hi) p, hx⟩
  · exact ⟨_, hl _ σ H (Nat.le_refl _) p, Nat.le_refl _⟩
  · obtain ⟨rfl, f⟩ := y
    exact turn i v σ H' (f _ (hl i σ H' (Nat.le_of_lt hi) p)) hi p
theorem fork_tup (hx : SqT K H a xs) (Pv : Nat → L2.St → Hp → Prop) (h0 : Pv 0 σ H) (hl : ∀ i σ H, i ≤ xs.length → Pv i σ H → SqT K H a xs)
    (turn : ∀ i x σ H, xs[i]? = some x → i < xs.length → Pv i σ H → tb { D with nx := Pv (i + 1), ct := Pv (i + 1), bk := D.nx } (σ.set j1 (some x)) H)
    (done : ∀ σ H, Pv xs.length σ H → D.nx σ H) : ForK (gName j1) tb D σ (Itt K a) H := by
  refine it_for (n := xs.length) Pv h0 (fun i σ H hi p => ?_) (fun σ H p => ?_) (fun i σ H hi p v H' y => ?_) done
  · obtain ⟨x, hx⟩ := get_of hi
    exact ⟨_, x, hl i σ H (Nat.le_of_lt hi) p, hx⟩
  · exact ⟨_, hl _ σ H (Nat.le_refl _) p, Nat.le_refl _⟩
  · obtain ⟨rfl, f⟩ := y
    exact turn i v σ H' (f _ (hl i σ H' (Nat.le_of_lt hi) p)) hi p
end
/-! ## isinstance -/
theorem tyx_tup {K : PySem.W.Frag} {H : Hp} {p : Addr} {xs : List V} (h : SqT K H p xs) : TyX K H (.ref p) (.type "tuple") := by
  rcases h with (h | ⟨o, h⟩) | ⟨o, its, n, h, hc, _⟩
  · exact .base (.tup h)
  · exact .fTuple h
  · exact .kTuple h hc
theorem tyx_lst {K : PySem.W.Frag} {H : Hp} {p : Addr} {xs : List V} (h : SqL K H p xs) : TyX K H (.ref p) (.type "list") := by
  rcases h with (h | ⟨o, h⟩) | ⟨o, its, n, h, hc, _⟩
  · exact .base (.lst h)
  · exact .base (.frz h)
  · exact .kList h hc
/-- isinstance(x, T), T a built-in type -/
theorem isk_ty {K : PySem.W.Frag} {H : Hp} {x : V} {t T : String} {b : Bool} {Q : VK} (h : TyX K H x (.type t)) (e : kitB t T = some b) (q : Q (.bl b) H) : rIsK K [x, .ty T] H Q :=
  .inl ⟨x, .ty T, .type t, .type T, b, rfl, .ty _, h, kit_ty e, q⟩
end Sw

set_option Elab.async false
set_option linter.all false
set_option maxRecDepth 100000
set_option maxHeartbeats 4000000
namespace Sw
open PySem PySem.Spec PyProof.Rows L2
/-! ## What the head is asked of errors that are kept -/
/-- the law's words for errors -/
def errWs : List (Str × Str) := [("BadLines", "lines"), ("BadWeb", "web"), ("BadRow", "row"), ("BadPlace", "place"), ("BadOrder", "order"), ("BadText", "text"), ("NothingPut", "nothing")]
structure ErrF (K : PySem.W.Frag) : Prop where
  e : ∀ C u, (C, u) ∈ errWs → ExcC K (He.ga K C)
  k : ∀ C u D v, (C, u) ∈ errWs → (D, v) ∈ errWs → PySem.W.kitOne K (.ref (He.ga K C)) (.ref (He.ga K D)) = some (decide (C = D))
  n : ∀ D v, (D, v) ∈ errWs → PySem.W.kitOne K (.type "NoneType") (.ref (He.ga K D)) = some false
  v : ∀ C u, (C, u) ∈ errWs → PySem.W.kitOne K (.ref (He.ga K C)) (.type "ValueError") = some true
def excCB (K : PySem.W.Frag) (D : Addr) : Bool := decide (PySem.W.findIn K (.ref D) "__getattribute__" = some (some (.builtin "BaseException.__getattribute__"))) && (decide (PySem.W.findIn K (.ref D) "__getattr__" = some none) &&
  (decide (PySem.W.subIn K (.ref D) (.type "BaseException") = some true) && (PySem.W.hasDictIn K D && (decide (PySem.W.findIn K (.ref D) "__class__" = some (some (.builtin "object.__class__"))) &&
    (decide (PySem.W.specialIn K (.builtin "object.__class__") "__get__" = some (some (.builtin "getset_descriptor.__get__"))) && (decide (PySem.W.takesIn K (.builtin "object.__class__") = some true) && decide (PySem.W.mroIn K D (.type "object") = some true)))))))
theorem excCB_ok {K : PySem.W.Frag} {D : Addr} (h : excCB K D = true) : ExcC K D := by
  unfold excCB at h
  obtain ⟨h1, h⟩ := He.ba h
  obtain ⟨h2, h⟩ := He.ba h
  obtain ⟨h3, h⟩ := He.ba h
  obtain ⟨h4, h⟩ := He.ba h
  obtain ⟨h5, h⟩ := He.ba h
  obtain ⟨h6, h⟩ := He.ba h
  obtain ⟨h7, h8⟩ := He.ba h
  exact ⟨of_decide_eq_true h1, of_decide_eq_true h2, of_decide_eq_true h3, h4, of_decide_eq_true h5, of_decide_eq_true h6, of_decide_eq_true h7, of_decide_eq_true h8⟩
def errFB (K : PySem.W.Frag) : Bool := errWs.all fun p => excCB K (He.ga K p.1) && (decide (PySem.W.kitOne K (.type "NoneType") (.ref (He.ga K p.1)) = some false) && (decide (PySem.W.kitOne K (.ref (He.ga K p.1)) (.type "ValueError") = some true) &&
  errWs.all fun q => decide (PySem.W.kitOne K (.ref (He.ga K p.1)) (.ref (He.ga K q.1)) = some (decide (p.1 = q.1)))))
theorem errFB_ok {K : PySem.W.Frag} (h : errFB K = true) : ErrF K := by
  have each : ∀ C u, (C, u) ∈ errWs → ExcC K (He.ga K C) ∧ PySem.W.kitOne K (.type "NoneType") (.ref (He.ga K C)) = some false ∧ PySem.W.kitOne K (.ref (He.ga K C)) (.type "ValueError") = some true ∧
      ∀ D v, (D, v) ∈ errWs → PySem.W.kitOne K (.ref (He.ga K C)) (.ref (He.ga K D)) = some (decide (C = D)) := fun C u hC => by
    have h0 := List.all_eq_true.mp h (C, u) hC
    obtain ⟨h1, h0⟩ := He.ba h0
    obtain ⟨h2, h0⟩ := He.ba h0
    obtain ⟨h3, h4⟩ := He.ba h0
    exact ⟨excCB_ok h1, of_decide_eq_true h2, of_decide_eq_true h3, fun D v hD => of_decide_eq_true (List.all_eq_true.mp h4 (D, v) hD)⟩
  exact ⟨fun C u h => (each C u h).1, fun C u D v h h2 => (each C u h).2.2.2 D v h2, fun D v h => (each D v h).2.1, fun C u h => (each C u h).2.2.1⟩
theorem cls_of {fa : List He.Fa} {fn : List He.DefD} {ex : PySem.W.Frag → Bool} {h : Heap} {K : PySem.W.Frag} {mg : Str → Option Value} (c : SaysZ fa fn ex K) (X : K.In h) (G : h.Ns mainGlobals mg) {x : Str} (j : Nat) (hj : fa[j]? = some (.glo x)) : mg x = some (.ref (He.ga K x)) := He.glo_ok X G (c.d.fact j hj)
end Sw

set_option Elab.async false
set_option linter.all false
set_option maxRecDepth 100000
set_option maxHeartbeats 4000000
namespace Sw
open PySem PySem.Spec PyProof.Rows L2
def topS (i : Nat) : Stmt := PySem.Challenge.pw_sortweb_k02_texts_of_webs.main.body.getD i (.Pass ⟨0, 0, 0, 0⟩)
/-! ## Promises of the law's own drawing -/
def sp_ldraw (K : PySem.W.Frag) : Sp := fun vs H Q _ => ∃ c k j : Int, vs = [.int c, .int k, .int j] ∧ (0 ≤ k ∧ k ≤ 1000) ∧ (0 ≤ j ∧ j ≤ 1000) ∧ ∀ n : Int, 0 ≤ n → n < 715827877 → Q (.int n) H
def sp_lbricks (K : PySem.W.Frag) : Sp := fun vs H Q _ => ∃ n : Nat, vs = [.int (n : Int)] ∧ n ≤ 7 ∧
  ∀ H' l ps cs, Same H H' → H l = none → H' l = some (.lst (Rfs ps)) → Prs K H' ps cs → CmpsOk n cs → cs.length ≤ 28 → Q (.ref l) H'
def sp_lcomparer (K : PySem.W.Frag) : Sp := fun vs H Q _ => ∃ (m : Int) (n : Nat), vs = [.int m, .int (n : Int)] ∧ 0 ≤ m ∧ 2 ≤ n ∧ n ≤ 10 ∧
  ∀ H' p c, Same H H' → H p = none → H' p = some (.tup (V2 c)) → CmpOk n c → Q (.ref p) H'
def sp_lweb (K : PySem.W.Frag) : Sp := fun vs H Q _ => ∃ (a : Addr) (ns : List Int), vs = [.ref a] ∧ SqL K H a (ns.map V.int) ∧ ns.length ≤ 63 ∧
  ∀ (H' : Hp) (p c : Addr) (ps : List Addr) (n : Nat) (cs : List Cmp), Same H H' → H p = none → H c = none → H' p = some (.tup [.int (n : Int), .ref c]) → H' c = some (.lst (Rfs ps)) → Prs K H' ps cs → WebOk n cs → 1 ≤ n → n ≤ 7 → Q (.ref p) H'
/-! ## Promises of the program -/
def WebAt (K : PySem.W.Frag) (H : Hp) (a : Addr) (n : Nat) (cs : List Cmp) : Prop := ∃ ps : List Addr, SqL K H a (Rfs ps) ∧ Prs K H ps cs ∧ WebOk n cs ∧ 1 ≤ n ∧ n ≤ 10
def sp_iswhole (K : PySem.W.Frag) : Sp := fun vs H Q _ => ∃ (v : V) (T : String), vs = [v] ∧ TyB K H v T ∧ Q (.bl (decide (T = "int"))) H
def sp_isline (K : PySem.W.Frag) : Sp := fun vs H Q _ => ∃ (n : Nat) (v : V) (T : String), vs = [.int (n : Int), v] ∧ TyB K H v T ∧ Q (.bl (lnV n v)) H
def sp_iscomparer (K : PySem.W.Frag) : Sp := fun vs H Q _ => ∃ (n : Nat) (v : V) (b : Bool), vs = [.int (n : Int), v] ∧ ItOk K H n v b ∧ Q (.bl b) H
def sp_needlines (K : PySem.W.Frag) : Sp := fun vs H Q E => ∃ (v : V) (T : String), vs = [v] ∧ TyB K H v T ∧ (noV v = true → Q .non H) ∧ (noV v = false → E (.ref (He.ga K "BadLines")) none H)
def sp_needweb (K : PySem.W.Frag) : Sp := fun vs H Q E => ∃ (lv cv : V) (d : Verd), vs = [lv, cv] ∧ WebV K H lv cv d ∧ (d = .good → ∀ H', Same H H' → Q .non H') ∧ (d ≠ .good → Refu K H E d)
/-! ## Promises of texts -/
def sp_webtext (K : PySem.W.Frag) : Sp := fun vs H Q E => ∃ (lv cv : V) (d : Verd), vs = [lv, cv] ∧ WebV K H lv cv d ∧ (d = .good → ∃ (n : Nat) (a : Addr) (cs : List Cmp), lv = .int (n : Int) ∧ cv = .ref a ∧ WebAt K H a n cs ∧ ∀ H', Same H H' → Q (.str (webTx n cs)) H') ∧ (d ≠ .good → Refu K H E d)
def sp_number (K : PySem.W.Frag) : Sp := fun vs H Q _ => ∃ w : Str, vs = [.str w] ∧ Q (onV (readN (sg w))) H
def sp_pair (K : PySem.W.Frag) : Sp := fun vs H Q _ => ∃ w : Str, vs = [.str w] ∧ w.length ≤ 100000 ∧ ∀ H' p, Same H H' → H p = none → H' p = some (.tup [onV (readN (part1 45 (sg w)).1), onV (readN (part1 45 (sg w)).2.2)]) → Q (.ref p) H'
/-- the web that is told: a new tuple, a new list -/
def Told (K : PySem.W.Frag) (H : Hp) (Q : VK) (n : Nat) (cs : List Cmp) : Prop := ∀ H' p c ps, Same H H' → H p = none → H' p = some (.tup [.int (n : Int), .ref c]) → H c = none → H' c = some (.lst (Rfs ps)) → Prs K H' ps cs → Q (.ref p) H'
def sp_webof (K : PySem.W.Frag) : Sp := fun vs H Q E => ∃ (v : V) (T : String), vs = [v] ∧ TyB K H v T ∧
  (∀ x : Str, v = .str x → x.length ≤ 100000 ∧ (∀ n cs, readW (sg x) = some (n, cs) → Told K H Q n cs) ∧ (readW (sg x) = none → ∀ H', Same H H' → E (.ref (He.ga K "BadText")) none H')) ∧
  (T ≠ "str" → ∀ H', Same H H' → E (.ref (He.ga K "BadText")) none H')
/-! ## Promises of the law's own defs -/
def sp_lisweb (K : PySem.W.Frag) : Sp := fun vs H Q _ => ∃ (a b : Addr) (ps qs : List Addr) (cs : List Cmp), vs = [.ref a, .ref b] ∧ H a = some (.lst (Rfs ps)) ∧ Prs K H ps cs ∧ SqL K H b (Rfs qs) ∧ Prs K H qs cs ∧ cs.length ≤ 60 ∧ ∀ H', Same H H' → Q (.bl true) H'
def sp_lword (K : PySem.W.Frag) : Sp := fun vs H Q _ => ∃ (v : V) (u : Str), vs = [v] ∧ ((v = .non ∧ u = "") ∨ ∃ (a : Addr) (d : Option Addr) (C : Str), v = .ref a ∧ H a = some (ErO (.ref (He.ga K C)) d a) ∧ DicOk H d ∧ (C, u) ∈ errWs) ∧ ∀ H', Same H H' → Q (.str u) H'
/-- small signs -/
def Asc (x : Str) : Prop := ∀ c ∈ sg x, c < 128
def sp_lnumber (K : PySem.W.Frag) : Sp := fun vs H Q _ => ∃ w : Str, vs = [.str w] ∧ w.length ≤ 100000 ∧ Asc w ∧ ∀ H', Same H H' → Q (onV (lawN (sg w))) H'
/-- what _law_good is handed: a text, or what is none -/
def OddV (K : PySem.W.Frag) (H : Hp) (v : V) : Prop := (∃ x : Str, v = .str x ∧ x.length ≤ 100000 ∧ Asc x) ∨ ∃ T, TyB K H v T ∧ TyOf K H v (.type T) ∧ T ∈ ["NoneType", "bool", "int", "list", "tuple", "dict"]
def sp_lread (K : PySem.W.Frag) : Sp := fun vs H Q _ => ∃ v : V, vs = [v] ∧ OddV K H v ∧ (∀ x : Str, v = .str x → (∀ n cs, readW (sg x) = some (n, cs) → Told K H Q n cs) ∧ (readW (sg x) = none → ∀ H', Same H H' → Q .non H')) ∧ ((∀ x, v ≠ .str x) → ∀ H', Same H H' → Q .non H')
def sp_ltext (K : PySem.W.Frag) : Sp := fun vs H Q _ => ∃ (n : Nat) (a : Addr) (cs : List Cmp), vs = [.int (n : Int), .ref a] ∧ WebAt K H a n cs ∧ ∀ H', Same H H' → Q (.str (webTx n cs)) H'
def sp_lbent (K : PySem.W.Frag) : Sp := fun vs H Q _ => ∃ (x : Str) (m : Int), vs = [.str x, .int m] ∧ 0 ≤ m ∧ 58 ∈ sg x ∧ x.length ≤ 1000 ∧ Asc x ∧ ∀ H' y, Same H H' → y.length ≤ 100000 → Asc y → Q (.str y) H'
def sp_lgood (K : PySem.W.Frag) : Sp := fun vs H Q _ => ∃ v : V, vs = [v] ∧ OddV K H v ∧ ∀ H', Same H H' → Q (.bl true) H'
abbrev sp_law := spLaw

/-! ### BadWeb.__init__ -/
abbrev s_initBadWeb : Stmt := memS (topS 8) 0
abbrev N_initBadWeb : List Str := ["self", "place"]
theorem sc_initBadWeb : FnScope N_initBadWeb N_initBadWeb (defScope s_initBadWeb) := ⟨rfl, rfl, rfl, by decide +kernel, rfl, by decide +kernel, by decide +kernel⟩
/-! ### is_whole(value): slots 0 value -/
abbrev s_iswhole : Stmt := topS 12
abbrev N_iswhole : List Str := ["value"]
abbrev P_iswhole : List Str := ["value"]
theorem sc_iswhole : FnScope N_iswhole P_iswhole (defScope s_iswhole) := ⟨rfl, rfl, rfl, by decide +kernel, rfl, by decide +kernel, by decide +kernel⟩
def r_iswhole (K : PySem.W.Frag) : TS :=
  tRet (tOp rIsTyB (tCB (rTyp K) (tCons (tVar 0) (tNil))) (tC (.ty "int")))
/-! ### is_comparer(lines, value): slots 0 lines, 1 value, 2 a, 3 b -/
abbrev s_iscomparer : Stmt := topS 13
abbrev N_iscomparer : List Str := ["lines", "value", "a", "b"]
abbrev P_iscomparer : List Str := ["lines", "value"]
theorem sc_iscomparer : FnScope N_iscomparer P_iscomparer (defScope s_iscomparer) := ⟨rfl, rfl, rfl, by decide +kernel, rfl, by decide +kernel, by decide +kernel⟩
def r_iscomparer (K : PySem.W.Frag) : TS :=
  tSeq (tIfS (tOr (tTest (tOp rNT (tCB (rTyp K) (tCons (tVar 1) (tNil))) (tC (.ty "tuple")))) (tTest (tOp rNe (tCB (kLen K) (tCons (tVar 1) (tNil))) (tC (.int 2))))) (tRet (tC (.bl false))) (tNext)) (tSeq (tAsg (tVar 1) (gTup K 2 (gCons (gName 2) (gCons (gName 3) (gNil))))) (tRet (tAndV (tCal (sp_isline K) (tCons (tVar 0) (tCons (tVar 2) (tNil)))) (tAndV (tCal (sp_isline K) (tCons (tVar 0) (tCons (tVar 3) (tNil)))) (tOp rNe (tVar 2) (tVar 3))))))
/-! ### _is_line(lines, value): slots 0 lines, 1 value -/
abbrev s_isline : Stmt := topS 14
abbrev N_isline : List Str := ["lines", "value"]
abbrev P_isline : List Str := ["lines", "value"]
theorem sc_isline : FnScope N_isline P_isline (defScope s_isline) := ⟨rfl, rfl, rfl, by decide +kernel, rfl, by decide +kernel, by decide +kernel⟩
def r_isline (K : PySem.W.Frag) : TS :=
  tRet (tAndV (tCal (sp_iswhole K) (tCons (tVar 1) (tNil))) (tChain oLe oLt (tC (.int 0)) (tVar 1) (tVar 0)))
/-! ### need_lines(lines): slots 0 lines -/
abbrev s_needlines : Stmt := topS 15
abbrev N_needlines : List Str := ["lines"]
abbrev P_needlines : List Str := ["lines"]
theorem sc_needlines : FnScope N_needlines P_needlines (defScope s_needlines) := ⟨rfl, rfl, rfl, by decide +kernel, rfl, by decide +kernel, by decide +kernel⟩
def r_needlines (K : PySem.W.Frag) (E : XK) : TS :=
  tIfS (tOr (tNot (tB (tCal (sp_iswhole K) (tCons (tVar 0) (tNil))))) (tNot (tTest (tChain oLe oLe (tC (.int 1)) (tVar 0) (tC (.int 10)))))) (tRzA (He.ga K "BadLines") (fun cls d _ H => E cls d H) (tCons (tJoin [tC (.str "lines are a whole number from 1 to "), tFmt (tC (.int 10))]) (tNil))) (tNext)
/-! ### need_web(lines, comparers): slots 0 lines, 1 comparers, 2 place, 3 comparer -/
abbrev s_needweb : Stmt := topS 16
abbrev N_needweb : List Str := ["lines", "comparers", "place", "comparer"]
abbrev P_needweb : List Str := ["lines", "comparers"]
theorem sc_needweb : FnScope N_needweb P_needweb (defScope s_needweb) := ⟨rfl, rfl, rfl, by decide +kernel, rfl, by decide +kernel, by decide +kernel⟩
def r_needweb_f1 (K : PySem.W.Frag) (E : XK) : TS :=
  tIfS (tNot (tB (tCal (sp_iscomparer K) (tCons (tVar 0) (tCons (tVar 3) (tNil)))))) (tRzO K "BadWeb" "place" (fun cls d _ H => E cls d H) (tVar 2)) (tNext)
def r_needweb (K : PySem.W.Frag) (E : XK) : TS :=
  tSeq (tDrop (tCalW (sp_needlines K) (fun cls d _ H => E cls d H) (tCons (tVar 0) (tNil)))) (tSeq (tIfS (tOr (tTest (tOp rNT (tCB (rTyp K) (tCons (tVar 1) (tNil))) (tC (.ty "list")))) (tTest (tOp oGt (tCB (kLen K) (tCons (tVar 1) (tNil))) (tC (.int 60))))) (tRzO K "BadWeb" "place" (fun cls d _ H => E cls d H) (tC .non)) (tNext)) (tFor (iEnum K (tCons (tVar 1) (tNil))) (gTup K 2 (gCons (gName 2) (gCons (gName 3) (gNil)))) (r_needweb_f1 K E)))
/-! ### web_text(lines, comparers): slots 0 lines, 1 comparers, 2 words, 3 a, 4 b -/
abbrev s_webtext : Stmt := topS 18
abbrev N_webtext : List Str := ["lines", "comparers", "words", "a", "b"]
abbrev P_webtext : List Str := ["lines", "comparers"]
theorem sc_webtext : FnScope N_webtext P_webtext (defScope s_webtext) := ⟨rfl, rfl, rfl, by decide +kernel, rfl, by decide +kernel, by decide +kernel⟩
def r_webtext (K : PySem.W.Frag) (E : XK) : TS :=
  tSeq (tDrop (tCalW (sp_needweb K) (fun cls d _ H => E cls d H) (tCons (tVar 0) (tCons (tVar 1) (tNil))))) (tSeq (tAsg (tLc (iList K (tVar 1)) (gTup K 2 (gCons (gName 3) (gCons (gName 4) (gNil)))) (tYes) (tJoin [tC (.str " "), tFmt (tVar 3), tC (.str "-"), tFmt (tVar 4)]) [3, 4]) (gName 2)) (tRet (tOp oAddS (tJoin [tFmt (tVar 0), tC (.str ":")]) (tBM K "str" (mJoin K) (tC (.str "")) (tCons (tVar 2) (tNil))))))
/-! ### web_of(text): slots 0 text, 1 head, 2 colon, 3 tail, 4 first, 5 words, 6 lines, 7 comparers, 8 word -/
abbrev s_webof : Stmt := topS 19
abbrev N_webof : List Str := ["text", "head", "colon", "tail", "first", "words", "lines", "comparers", "word"]
abbrev P_webof : List Str := ["text"]
theorem sc_webof : FnScope N_webof P_webof (defScope s_webof) := ⟨rfl, rfl, rfl, by decide +kernel, rfl, by decide +kernel, by decide +kernel⟩
def r_webof (K : PySem.W.Frag) (E : XK) : TS :=
  tSeq (tIfS (tTest (tOp rNT (tCB (rTyp K) (tCons (tVar 0) (tNil))) (tC (.ty "str")))) (tRzA (He.ga K "BadText") (fun cls d _ H => E cls d H) (tCons (tC (.str "what is read is no text")) (tNil))) (tNext)) (tSeq (tAsg (tBM K "str" mPart (tVar 0) (tCons (tC (.str ":")) (tNil))) (gTup K 3 (gCons (gName 1) (gCons (gName 2) (gCons (gName 3) (gNil)))))) (tSeq (tAsg (tBM K "str" mSplit (tVar 3) (tCons (tC (.str " ")) (tNil))) (gHead K (gCons (gName 4) (gCons (gName 5) gNil)))) (tSeq (tIfS (tOr (tTest (tOp rNe (tVar 2) (tC (.str ":")))) (tTest (tOp rNe (tVar 4) (tC (.str ""))))) (tRzA (He.ga K "BadText") (fun cls d _ H => E cls d H) (tCons (tC (.str "lines, a colon and a blank ahead of each comparer make a web's text")) (tNil))) (tNext)) (tSeq (tAsg (tCal (sp_number K) (tCons (tVar 1) (tNil))) (gName 6)) (tSeq (tAsg (tLc (iList K (tVar 5)) (gName 8) (tYes) (tCal (sp_pair K) (tCons (tVar 8) (tNil))) [8]) (gName 7)) (tSeq (tTryT K (.ref (He.ga K "BadLines")) (.ref (He.ga K "BadWeb")) (fun W => tDrop (tCalW (sp_needweb K) W (tCons (tVar 6) (tCons (tVar 7) (tNil))))) (fun a cls d => tRzA (He.ga K "BadText") (fun cls d _ H => E cls d H) (tCons (tC (.str "the text tells no web")) (tNil)))) (tRet (tTup (tCons (tVar 6) (tCons (tVar 7) (tNil)))))))))))
/-! ### _pair(word): slots 0 word, 1 first, 2 _, 3 second -/
abbrev s_pair : Stmt := topS 20
abbrev N_pair : List Str := ["word", "first", "_", "second"]
abbrev P_pair : List Str := ["word"]
theorem sc_pair : FnScope N_pair P_pair (defScope s_pair) := ⟨rfl, rfl, rfl, by decide +kernel, rfl, by decide +kernel, by decide +kernel⟩
def r_pair (K : PySem.W.Frag) : TS :=
  tSeq (tAsg (tBM K "str" mPart (tVar 0) (tCons (tC (.str "-")) (tNil))) (gTup K 3 (gCons (gName 1) (gCons (gName 2) (gCons (gName 3) (gNil)))))) (tRet (tTup (tCons (tCal (sp_number K) (tCons (tVar 1) (tNil))) (tCons (tCal (sp_number K) (tCons (tVar 3) (tNil))) (tNil)))))
/-! ### _number(word): slots 0 word, 1 number -/
abbrev s_number : Stmt := topS 21
abbrev N_number : List Str := ["word", "number"]
abbrev P_number : List Str := ["word"]
theorem sc_number : FnScope N_number P_number (defScope s_number) := ⟨rfl, rfl, rfl, by decide +kernel, rfl, by decide +kernel, by decide +kernel⟩
def r_number_f1 (K : PySem.W.Frag) : TS :=
  tIfS (tTest (tOp rEq (tVar 0) (tCB kStrI (tCons (tVar 1) (tNil))))) (tRet (tVar 1)) (tNext)
def r_number (K : PySem.W.Frag) : TS :=
  tSeq (tFor (iRng1 (tCons (tOp oAdd (tC (.int 10)) (tC (.int 1))) (tNil))) (gName 1) (r_number_f1 K)) (tRet (tC .non))
/-! ### _law_draw(_law_cell, _law_k, _law_j): slots 0 _law_cell, 1 _law_k, 2 _law_j, 3 _law_more -/
abbrev s_ldraw : Stmt := topS 23
abbrev N_ldraw : List Str := ["_law_cell", "_law_k", "_law_j", "_law_more"]
abbrev P_ldraw : List Str := ["_law_cell", "_law_k", "_law_j"]
theorem sc_ldraw : FnScope N_ldraw P_ldraw (defScope s_ldraw) := ⟨rfl, rfl, rfl, by decide +kernel, rfl, by decide +kernel, by decide +kernel⟩
def r_ldraw (K : PySem.W.Frag) : TS :=
  tSeq (tAsg (tOp oAdd (tOp oMul (tOp oMul (tOp oAdd (tVar 1) (tC (.int 3))) (tOp oAdd (tVar 1) (tC (.int 3)))) (tC (.int 40692))) (tOp oMul (tOp oMul (tOp oAdd (tVar 2) (tC (.int 7))) (tOp oAdd (tVar 2) (tC (.int 7)))) (tC (.int 69621)))) (gName 3)) (tRet (tOp oDiv (tOp oMod (tOp oMul (tOp oMod (tOp oAdd (tOp oMul (tOp oMod (tVar 0) (tC (.int 2147483629))) (tC (.int 48271))) (tVar 3)) (tC (.int 2147483647))) (tC (.int 16807))) (tC (.int 2147483629))) (tC (.int 3))))
/-! ### _law_bricks(_law_lines): slots 0 _law_lines, 1 _law_found, 2 _law_turn, 3 _law_k -/
abbrev s_lbricks : Stmt := topS 24
abbrev N_lbricks : List Str := ["_law_lines", "_law_found", "_law_turn", "_law_k"]
abbrev P_lbricks : List Str := ["_law_lines"]
theorem sc_lbricks : FnScope N_lbricks P_lbricks (defScope s_lbricks) := ⟨rfl, rfl, rfl, by decide +kernel, rfl, by decide +kernel, by decide +kernel⟩
def r_lbricks_f1 (K : PySem.W.Frag) : TS :=
  tAsg (tOp rCat (tVar 1) (tLc (iRng3 (tCons (tOp oMod (tVar 2) (tC (.int 2))) (tCons (tOp oSub (tVar 0) (tC (.int 1))) (tCons (tC (.int 2)) (tNil))))) (gName 3) (tYes) (tTup (tCons (tVar 3) (tCons (tOp oAdd (tVar 3) (tC (.int 1))) (tNil)))) [3])) (gName 1)
def r_lbricks (K : PySem.W.Frag) : TS :=
  tSeq (tAsg (tLst (tNil)) (gName 1)) (tSeq (tFor (iRng1 (tCons (tVar 0) (tNil))) (gName 2) (r_lbricks_f1 K)) (tRet (tVar 1)))
/-! ### _law_comparer(_law_n, _law_lines): slots 0 _law_n, 1 _law_lines, 2 _law_a, 3 _law_b -/
abbrev s_lcomparer : Stmt := topS 25
abbrev N_lcomparer : List Str := ["_law_n", "_law_lines", "_law_a", "_law_b"]
abbrev P_lcomparer : List Str := ["_law_n", "_law_lines"]
theorem sc_lcomparer : FnScope N_lcomparer P_lcomparer (defScope s_lcomparer) := ⟨rfl, rfl, rfl, by decide +kernel, rfl, by decide +kernel, by decide +kernel⟩
def r_lcomparer (K : PySem.W.Frag) : TS :=
  tSeq (tAsg (tOp oMod (tVar 0) (tVar 1)) (gName 2)) (tSeq (tAsg (tOp oMod (tOp oAdd (tOp oAdd (tVar 2) (tC (.int 1))) (tOp oMod (tOp oDiv (tVar 0) (tC (.int 10))) (tOp oSub (tVar 1) (tC (.int 1))))) (tVar 1)) (gName 3)) (tRet (tIf (tTest (tOp oGt (tOp oMod (tOp oDiv (tVar 0) (tC (.int 100))) (tC (.int 3))) (tC (.int 0)))) (tTup (tCons (tCB kMin (tCons (tVar 2) (tCons (tVar 3) (tNil)))) (tCons (tCB kMax (tCons (tVar 2) (tCons (tVar 3) (tNil)))) (tNil)))) (tTup (tCons (tVar 2) (tCons (tVar 3) (tNil)))))))
/-! ### _law_web(_law_script): slots 0 _law_script, 1 _law_cells, 2 _law_n, 3 _law_lines, 4 _law_k, 5 _law_cell, 6 _law_found, 7 _law_more, 8 _law_at -/
abbrev s_lweb : Stmt := topS 26
abbrev N_lweb : List Str := ["_law_script", "_law_cells", "_law_n", "_law_lines", "_law_k", "_law_cell", "_law_found", "_law_more", "_law_at"]
abbrev P_lweb : List Str := ["_law_script"]
theorem sc_lweb : FnScope N_lweb P_lweb (defScope s_lweb) := ⟨rfl, rfl, rfl, by decide +kernel, rfl, by decide +kernel, by decide +kernel⟩
def r_lweb_e1 (K : PySem.W.Frag) : TS :=
  tIfS (tAnd (tTest (tOp rEq (tOp oMod (tVar 7) (tC (.int 12))) (tC (.int 4)))) (tTest (tOp oLt (tVar 8) (tCB (kLen K) (tCons (tVar 6) (tNil)))))) (tAsg (tTurn K (tOp (rIxL K) (tVar 6) (tVar 8))) (gSub (tVar 6) (tVar 8) rSetL)) (tNext)
def r_lweb_e2 (K : PySem.W.Frag) : TS :=
  tIfS (tAnd (tTest (tOp oLt (tOp oMod (tVar 7) (tC (.int 12))) (tC (.int 4)))) (tTest (tOp oLt (tCB (kLen K) (tCons (tVar 6) (tNil))) (tC (.int 60))))) (tDrop (tBM K "list" rInsert (tVar 6) (tCons (tVar 8) (tCons (tCal (sp_lcomparer K) (tCons (tOp oDiv (tVar 7) (tC (.int 1000))) (tCons (tVar 3) (tNil)))) (tNil))))) (r_lweb_e1 K)
def r_lweb_f1 (K : PySem.W.Frag) : TS :=
  tSeq (tAsg (tCal (sp_ldraw K) (tCons (tVar 5) (tCons (tVar 4) (tCons (tC (.int 3)) (tNil))))) (gName 7)) (tSeq (tAsg (tOp oMod (tOp oDiv (tVar 7) (tC (.int 12))) (tOp oAdd (tCB (kLen K) (tCons (tVar 6) (tNil))) (tC (.int 1)))) (gName 8)) (tIfS (tAnd (tTest (tOp oLt (tOp oMod (tVar 7) (tC (.int 12))) (tC (.int 2)))) (tTest (tOp oLt (tVar 8) (tCB (kLen K) (tCons (tVar 6) (tNil)))))) (tDrop (tBM K "list" rPopAt (tVar 6) (tCons (tVar 8) (tNil)))) (r_lweb_e2 K)))
def r_lweb (K : PySem.W.Frag) : TS :=
  tSeq (tAsg (tSl (rSlL K) (tVar 0) (tNoPart) (tPart (tC (.int 40)))) (gName 1)) (tSeq (tAsg (tCal (sp_ldraw K) (tCons (tCB (rSum K) (tCons (tSl (rSlL K) (tVar 1) (tNoPart) (tPart (tC (.int 3)))) (tNil))) (tCons (tCB (kLen K) (tCons (tVar 1) (tNil))) (tCons (tC (.int 1)) (tNil))))) (gName 2)) (tSeq (tAsg (tOp (rIxL K) (tLst (tCons (tOp oAdd (tC (.int 2)) (tOp oMod (tOp oDiv (tVar 2) (tC (.int 8))) (tC (.int 5)))) (tCons (tOp oAdd (tC (.int 3)) (tOp oMod (tOp oDiv (tVar 2) (tC (.int 8))) (tC (.int 3)))) (tCons (tOp oAdd (tC (.int 1)) (tOp oMod (tOp oDiv (tVar 2) (tC (.int 8))) (tC (.int 7)))) (tCons (tC (.int 4)) (tNil)))))) (tOp oMod (tVar 2) (tC (.int 4)))) (gName 3)) (tSeq (tIfS (tTest (tOp rEq (tVar 3) (tC (.int 1)))) (tRet (tTup (tCons (tC (.int 1)) (tCons (tLst (tNil)) (tNil))))) (tNext)) (tSeq (tIfS (tTest (tOp rEq (tOp oMod (tOp oDiv (tVar 2) (tC (.int 64))) (tC (.int 2))) (tC (.int 0)))) (tRet (tTup (tCons (tVar 3) (tCons (tLc (iEnum K (tCons (tVar 1) (tNil))) (gTup K 2 (gCons (gName 4) (gCons (gName 5) (gNil)))) (tYes) (tCal (sp_lcomparer K) (tCons (tCal (sp_ldraw K) (tCons (tVar 5) (tCons (tVar 4) (tCons (tC (.int 2)) (tNil))))) (tCons (tVar 3) (tNil)))) [4, 5]) (tNil))))) (tNext)) (tSeq (tAsg (tCal (sp_lbricks K) (tCons (tVar 3) (tNil))) (gName 6)) (tSeq (tFor (iEnum K (tCons (tVar 1) (tNil))) (gTup K 2 (gCons (gName 4) (gCons (gName 5) (gNil)))) (r_lweb_f1 K)) (tRet (tTup (tCons (tVar 3) (tCons (tVar 6) (tNil)))))))))))
/-! ### _law_is_web(_law_found, _law_due): slots 0 _law_found, 1 _law_due, 2 _law_comparer_here, 3 _law_line -/
abbrev s_lisweb : Stmt := topS 27
abbrev N_lisweb : List Str := ["_law_found", "_law_due", "_law_comparer_here", "_law_line"]
abbrev P_lisweb : List Str := ["_law_found", "_law_due"]
theorem sc_lisweb : FnScope N_lisweb P_lisweb (defScope s_lisweb) := ⟨rfl, rfl, rfl, by decide +kernel, rfl, by decide +kernel, by decide +kernel⟩
def r_lisweb_f1 (K : PySem.W.Frag) : TS :=
  tIfS (tOr (tNot (tB (tCB (rIsK K) (tCons (tVar 2) (tCons (tC (.ty "tuple")) (tNil)))))) (tTest (tOp (rNeD K) (tLc (iTup K (tVar 2)) (gName 3) (tB (tCB (rIsK K) (tCons (tVar 3) (tCons (tC (.ty "bool")) (tNil))))) (tVar 3) [3]) (tLst (tNil))))) (tRet (tC (.bl false))) (tNext)
def r_lisweb (K : PySem.W.Frag) : TS :=
  tSeq (tIfS (tOr (tNot (tB (tCB (rIsK K) (tCons (tVar 0) (tCons (tC (.ty "list")) (tNil)))))) (tTest (tOp (rNeD K) (tVar 0) (tVar 1)))) (tRet (tC (.bl false))) (tNext)) (tSeq (tFor (iList K (tVar 0)) (gName 2) (r_lisweb_f1 K)) (tRet (tC (.bl true))))
/-! ### _law_word(_law_e): slots 0 _law_e, 1 _law_some, 2 _law_found, 3 _law_word_here, 4 _law_good_here -/
abbrev s_lword : Stmt := topS 28
abbrev N_lword : List Str := ["_law_e", "_law_some", "_law_found", "_law_word_here", "_law_good_here"]
abbrev P_lword : List Str := ["_law_e"]
theorem sc_lword : FnScope N_lword P_lword (defScope s_lword) := ⟨rfl, rfl, rfl, by decide +kernel, rfl, by decide +kernel, by decide +kernel⟩
def r_lword (K : PySem.W.Frag) : TS :=
  tSeq (tAsg (tLst (tCons (tTup (tCons (tC (.str "lines")) (tCons (tCB (rIsK K) (tCons (tVar 0) (tCons (tC (.ref (He.ga K "BadLines"))) (tNil)))) (tNil)))) (tCons (tTup (tCons (tC (.str "web")) (tCons (tCB (rIsK K) (tCons (tVar 0) (tCons (tC (.ref (He.ga K "BadWeb"))) (tNil)))) (tNil)))) (tCons (tTup (tCons (tC (.str "row")) (tCons (tCB (rIsK K) (tCons (tVar 0) (tCons (tC (.ref (He.ga K "BadRow"))) (tNil)))) (tNil)))) (tNil))))) (gName 1)) (tSeq (tAsg (tOp rCat (tVar 1) (tLst (tCons (tTup (tCons (tC (.str "place")) (tCons (tCB (rIsK K) (tCons (tVar 0) (tCons (tC (.ref (He.ga K "BadPlace"))) (tNil)))) (tNil)))) (tCons (tTup (tCons (tC (.str "order")) (tCons (tCB (rIsK K) (tCons (tVar 0) (tCons (tC (.ref (He.ga K "BadOrder"))) (tNil)))) (tNil)))) (tNil))))) (gName 1)) (tSeq (tAsg (tOp rCat (tVar 1) (tLst (tCons (tTup (tCons (tC (.str "text")) (tCons (tCB (rIsK K) (tCons (tVar 0) (tCons (tC (.ref (He.ga K "BadText"))) (tNil)))) (tNil)))) (tCons (tTup (tCons (tC (.str "nothing")) (tCons (tCB (rIsK K) (tCons (tVar 0) (tCons (tC (.ref (He.ga K "NothingPut"))) (tNil)))) (tNil)))) (tNil))))) (gName 1)) (tSeq (tAsg (tLc (iList K (tVar 1)) (gTup K 2 (gCons (gName 3) (gCons (gName 4) (gNil)))) (tB (tVar 4)) (tVar 3) [3, 4]) (gName 2)) (tSeq (tIfS (tTest (tOp rIsN (tVar 0) (tC .non))) (tRet (tC (.str ""))) (tNext)) (tRet (tIf (tAnd (tTest (tOp rEq (tCB (kLen K) (tCons (tVar 2) (tNil))) (tC (.int 1)))) (tB (tCB (rIsK K) (tCons (tVar 0) (tCons (tC (.ty "ValueError")) (tNil)))))) (tOp (rIxL K) (tVar 2) (tC (.int 0))) (tC (.str "another"))))))))
/-! ### _law_number(_law_word_here): slots 0 _law_word_here, 1 _law_sign -/
abbrev s_lnumber : Stmt := topS 29
abbrev N_lnumber : List Str := ["_law_word_here", "_law_sign"]
abbrev P_lnumber : List Str := ["_law_word_here"]
theorem sc_lnumber : FnScope N_lnumber P_lnumber (defScope s_lnumber) := ⟨rfl, rfl, rfl, by decide +kernel, rfl, by decide +kernel, by decide +kernel⟩
def r_lnumber (K : PySem.W.Frag) : TS :=
  tSeq (tIfS (tOr (tNot (tTest (tChain oLe oLe (tC (.int 1)) (tCB kLenS (tCons (tVar 0) (tNil))) (tC (.int 2))))) (tTest (tOp (rNeD K) (tLc (iStr (tVar 0)) (gName 1) (tTest (tOp oNotInC (tVar 1) (tC (.str "0123456789")))) (tVar 1) [1]) (tLst (tNil))))) (tRet (tC .non)) (tNext)) (tRet (tIf (tAnd (tTest (tOp rEq (tCB kLenS (tCons (tVar 0) (tNil))) (tC (.int 2)))) (tTest (tOp rEq (tOp rIxS (tVar 0) (tC (.int 0))) (tC (.str "0"))))) (tC .non) (tCB kIntS (tCons (tVar 0) (tNil)))))
/-! ### _law_read(_law_text_here): slots 0 _law_text_here, 1 _law_at, 2 _law_lines, 3 _law_words, 4 _law_found, 5 _law_word_here, 6 _law_some, 7 _law_part -/
abbrev s_lread : Stmt := topS 30
abbrev N_lread : List Str := ["_law_text_here", "_law_at", "_law_lines", "_law_words", "_law_found", "_law_word_here", "_law_some", "_law_part"]
abbrev P_lread : List Str := ["_law_text_here"]
theorem sc_lread : FnScope N_lread P_lread (defScope s_lread) := ⟨rfl, rfl, rfl, by decide +kernel, rfl, by decide +kernel, by decide +kernel⟩
def r_lread_f1 (K : PySem.W.Frag) : TS :=
  tSeq (tAsg (tLc (iList K (tBM K "str" mSplit (tVar 5) (tCons (tC (.str "-")) (tNil)))) (gName 7) (tYes) (tCal (sp_lnumber K) (tCons (tVar 7) (tNil))) [7]) (gName 6)) (tSeq (tIfS (tOr (tTest (tOp rNe (tCB (kLen K) (tCons (tVar 6) (tNil))) (tC (.int 2)))) (tOr (tTest (tOp (rIn K false) (tC .non) (tVar 6))) (tOr (tTest (tOp rEq (tOp (rIxL K) (tVar 6) (tC (.int 0))) (tOp (rIxL K) (tVar 6) (tC (.int 1))))) (tTest (tOp oGe (tCB (rMax K) (tCons (tVar 6) (tNil))) (tVar 2)))))) (tRet (tC .non)) (tNext)) (tDrop (tBM K "list" rAppend (tVar 4) (tCons (tTup (tCons (tOp (rIxL K) (tVar 6) (tC (.int 0))) (tCons (tOp (rIxL K) (tVar 6) (tC (.int 1))) (tNil)))) (tNil)))))
def r_lread (K : PySem.W.Frag) : TS :=
  tSeq (tIfS (tOr (tNot (tB (tCB (rIsK K) (tCons (tVar 0) (tCons (tC (.ty "str")) (tNil)))))) (tTest (tOp oNotInC (tC (.str ":")) (tVar 0)))) (tRet (tC .non)) (tNext)) (tSeq (tAsg (tBM K "str" mIndex (tVar 0) (tCons (tC (.str ":")) (tNil))) (gName 1)) (tSeq (tAsg (tCal (sp_lnumber K) (tCons (tSl rSlS (tVar 0) (tNoPart) (tPart (tVar 1))) (tNil))) (gName 2)) (tSeq (tAsg (tBM K "str" mSplit (tSl rSlS (tVar 0) (tPart (tOp oAdd (tVar 1) (tC (.int 1)))) (tNoPart)) (tCons (tC (.str " ")) (tNil))) (gName 3)) (tSeq (tIfS (tOr (tTest (tOp rIsN (tVar 2) (tC .non))) (tOr (tNot (tTest (tChain oLe oLe (tC (.int 1)) (tVar 2) (tC (.int 10))))) (tOr (tTest (tOp rNe (tOp (rIxL K) (tVar 3) (tC (.int 0))) (tC (.str "")))) (tTest (tOp oGt (tCB (kLen K) (tCons (tVar 3) (tNil))) (tC (.int 61))))))) (tRet (tC .non)) (tNext)) (tSeq (tAsg (tLst (tNil)) (gName 4)) (tSeq (tFor (iList K (tSl (rSlL K) (tVar 3) (tPart (tC (.int 1))) (tNoPart))) (gName 5) (r_lread_f1 K)) (tRet (tTup (tCons (tVar 2) (tCons (tVar 4) (tNil)))))))))))
/-! ### _law_text(_law_lines, _law_comparers): slots 0 _law_lines, 1 _law_comparers, 2 _law_a, 3 _law_b -/
abbrev s_ltext : Stmt := topS 31
abbrev N_ltext : List Str := ["_law_lines", "_law_comparers", "_law_a", "_law_b"]
abbrev P_ltext : List Str := ["_law_lines", "_law_comparers"]
theorem sc_ltext : FnScope N_ltext P_ltext (defScope s_ltext) := ⟨rfl, rfl, rfl, by decide +kernel, rfl, by decide +kernel, by decide +kernel⟩
def r_ltext (K : PySem.W.Frag) : TS :=
  tRet (tBM K "str" (mJoin K) (tC (.str " ")) (tCons (tOp rCat (tLst (tCons (tOp oAddS (tCB kStrI (tCons (tVar 0) (tNil))) (tC (.str ":"))) (tNil))) (tLc (iList K (tVar 1)) (gTup K 2 (gCons (gName 2) (gCons (gName 3) (gNil)))) (tYes) (tOp oAddS (tOp oAddS (tCB kStrI (tCons (tVar 2) (tNil))) (tC (.str "-"))) (tCB kStrI (tCons (tVar 3) (tNil)))) [2, 3])) (tNil)))
/-! ### _law_bent(_law_text_here, _law_n): slots 0 _law_text_here, 1 _law_n, 2 _law_at, 3 _law_sign -/
abbrev s_lbent : Stmt := topS 32
abbrev N_lbent : List Str := ["_law_text_here", "_law_n", "_law_at", "_law_sign"]
abbrev P_lbent : List Str := ["_law_text_here", "_law_n"]
theorem sc_lbent : FnScope N_lbent P_lbent (defScope s_lbent) := ⟨rfl, rfl, rfl, by decide +kernel, rfl, by decide +kernel, by decide +kernel⟩
def r_lbent (K : PySem.W.Frag) : TS :=
  tSeq (tAsg (tOp oMod (tOp oDiv (tVar 1) (tC (.int 5))) (tOp oAdd (tCB kLenS (tCons (tVar 0) (tNil))) (tC (.int 1)))) (gName 2)) (tSeq (tAsg (tOp (rIxL K) (tLst (tCons (tC (.str "0")) (tCons (tC (.str "1")) (tCons (tC (.str "9")) (tCons (tC (.str "-")) (tCons (tC (.str ":")) (tCons (tC (.str " ")) (tCons (tC (.str "a")) (tCons (tC (.str "+")) (tCons (tC (.str "\n")) (tCons (tC (.str "2")) (tCons (tC (.str "10")) (tCons (tC (.str ".")) (tNil)))))))))))))) (tOp oMod (tOp oDiv (tVar 1) (tC (.int 1000))) (tC (.int 12)))) (gName 3)) (tSeq (tIfS (tTest (tOp rEq (tOp oMod (tVar 1) (tC (.int 5))) (tC (.int 0)))) (tRet (tOp oAddS (tSl rSlS (tVar 0) (tNoPart) (tPart (tVar 2))) (tSl rSlS (tVar 0) (tPart (tOp oAdd (tVar 2) (tC (.int 1)))) (tNoPart)))) (tNext)) (tSeq (tIfS (tTest (tOp oLt (tOp oMod (tVar 1) (tC (.int 5))) (tC (.int 3)))) (tRet (tOp oAddS (tOp oAddS (tSl rSlS (tVar 0) (tNoPart) (tPart (tVar 2))) (tVar 3)) (tSl rSlS (tVar 0) (tPart (tVar 2)) (tNoPart)))) (tNext)) (tSeq (tIfS (tTest (tOp rEq (tOp oMod (tVar 1) (tC (.int 5))) (tC (.int 3)))) (tRet (tOp oAddS (tOp oAddS (tSl rSlS (tVar 0) (tNoPart) (tPart (tVar 2))) (tVar 3)) (tSl rSlS (tVar 0) (tPart (tOp oAdd (tVar 2) (tC (.int 1)))) (tNoPart)))) (tNext)) (tRet (tOp oAddS (tVar 0) (tOp rMulS (tSl rSlS (tVar 0) (tPart (tOp oAdd (tBM K "str" mIndex (tVar 0) (tCons (tC (.str ":")) (tNil))) (tC (.int 1)))) (tNoPart)) (tOp oAdd (tC (.int 1)) (tOp oMod (tOp oDiv (tVar 1) (tC (.int 20000))) (tC (.int 4)))))))))))
/-! ### _law_good(_law_text_here): slots 0 _law_text_here, 1 _law_due, 2 _law_found, 3 _law_e, 4 error -/
abbrev s_lgood : Stmt := topS 33
abbrev N_lgood : List Str := ["_law_text_here", "_law_due", "_law_found", "_law_e", "error"]
abbrev P_lgood : List Str := ["_law_text_here"]
theorem sc_lgood : FnScope N_lgood P_lgood (defScope s_lgood) := ⟨rfl, rfl, rfl, by decide +kernel, rfl, by decide +kernel, by decide +kernel⟩
def r_lgood (K : PySem.W.Frag) : TS :=
  tSeq (tAsg (tCal (sp_lread K) (tCons (tVar 0) (tNil))) (gName 1)) (tSeq (tAsg (tC .non) (gName 2)) (tSeq (tAsg (tC .non) (gName 3)) (tSeq (tTryK K (.ref (He.ga K "WebError")) 4 (fun W => tAsg (tCalW (sp_webof K) W (tCons (tVar 0) (tNil))) (gName 2)) (fun a cls d => tAsg (tVar 4) (gName 3))) (tSeq (tIfS (tTest (tOp rIsN (tVar 1) (tC .non))) (tRet (tOp rEq (tCal (sp_lword K) (tCons (tVar 3) (tNil))) (tC (.str "text")))) (tNext)) (tSeq (tIfS (tOr (tTest (tOp rNotN (tVar 3) (tC .non))) (tOr (tNot (tB (tCB (rIsK K) (tCons (tVar 2) (tCons (tC (.ty "tuple")) (tNil)))))) (tOr (tTest (tOp rNe (tCB (kLen K) (tCons (tVar 2) (tNil))) (tC (.int 2)))) (tB (tCB (rIsK K) (tCons (tOp (rIxT K) (tVar 2) (tC (.int 0))) (tCons (tC (.ty "bool")) (tNil)))))))) (tRet (tC (.bl false))) (tNext)) (tRet (tAndV (tOp rEq (tOp (rIxT K) (tVar 2) (tC (.int 0))) (tOp (rIxT K) (tVar 1) (tC (.int 0)))) (tCal (sp_lisweb K) (tCons (tOp (rIxT K) (tVar 2) (tC (.int 1))) (tCons (tOp (rIxT K) (tVar 1) (tC (.int 1))) (tNil)))))))))))
/-! ### law(_law_script): slots 0 _law_script, 1 _law_lines, 2 _law_comparers, 3 _law_text_here, 4 _law_turn, 5 _law_handed, 6 _law_found, 7 _law_k, 8 _law_cell, 9 _law_many, 10 _law_odd -/
abbrev s_law : Stmt := topS 34
abbrev N_law : List Str := ["_law_script", "_law_lines", "_law_comparers", "_law_text_here", "_law_turn", "_law_handed", "_law_found", "_law_k", "_law_cell", "_law_many", "_law_odd"]
abbrev P_law : List Str := ["_law_script"]
theorem sc_law : FnScope N_law P_law (defScope s_law) := ⟨rfl, rfl, rfl, by decide +kernel, rfl, by decide +kernel, by decide +kernel⟩
def r_law_f1 (K : PySem.W.Frag) : TS :=
  tSeq (tAsg (tCB (kList K) (tCons (tVar 2) (tNil))) (gName 5)) (tSeq (tIfS (tOr (tTest (tOp rNe (tCal (quiet (sp_webtext K)) (tCons (tVar 1) (tCons (tVar 5) (tNil)))) (tVar 3))) (tOr (tTest (tOp (rNeD K) (tVar 5) (tVar 2))) (tTest (tOp rNe (tCal (quiet (sp_webtext K)) (tCons (tC (.int 2)) (tCons (tLst (tCons (tTup (tCons (tC (.int 1)) (tCons (tC (.int 0)) (tNil)))) (tNil))) (tNil)))) (tC (.str "2: 1-0")))))) (tRet (tC (.bl false))) (tNext)) (tSeq (tAsg (tCal (quiet (sp_webof K)) (tCons (tVar 3) (tNil))) (gName 6)) (tSeq (tIfS (tOr (tTest (tOp rNe (tOp (rIxT K) (tVar 6) (tC (.int 0))) (tVar 1))) (tNot (tB (tCal (sp_lisweb K) (tCons (tOp (rIxT K) (tVar 6) (tC (.int 1))) (tCons (tVar 2) (tNil))))))) (tRet (tC (.bl false))) (tNext)) (tDrop (tBM K "list" rAppend (tOp (rIxT K) (tVar 6) (tC (.int 1))) (tCons (tTup (tCons (tC (.int 0)) (tCons (tC (.int 0)) (tNil)))) (tNil)))))))
def r_law_f2 (K : PySem.W.Frag) : TS :=
  tIfS (tNot (tB (tCal (sp_lgood K) (tCons (tCal (sp_lbent K) (tCons (tVar 3) (tCons (tCal (sp_ldraw K) (tCons (tVar 8) (tCons (tVar 7) (tCons (tC (.int 40)) (tNil))))) (tNil)))) (tNil))))) (tRet (tC (.bl false))) (tNext)
def r_law_f3 (K : PySem.W.Frag) : TS :=
  tIfS (tNot (tB (tCal (sp_lgood K) (tCons (tOp oAddS (tOp oAddS (tCB kStrI (tCons (tCB kMax (tCons (tC (.int 2)) (tCons (tVar 1) (tNil)))) (tNil))) (tC (.str ":"))) (tOp rMulS (tC (.str " 1-0")) (tVar 9))) (tNil))))) (tRet (tC (.bl false))) (tNext)
def r_law (K : PySem.W.Frag) : TS :=
  tSeq (tAsg (tCal (sp_lweb K) (tCons (tVar 0) (tNil))) (gTup K 2 (gCons (gName 1) (gCons (gName 2) (gNil))))) (tSeq (tAsg (tCal (sp_ltext K) (tCons (tVar 1) (tCons (tVar 2) (tNil)))) (gName 3)) (tSeq (tFor (iRng1 (tCons (tC (.int 2)) (tNil))) (gName 4) (r_law_f1 K)) (tSeq (tFor (iEnum K (tCons (tOp rCat (tSl (rSlL K) (tVar 0) (tNoPart) (tPart (tC (.int 63)))) (tLst (tCons (tC (.int 3)) (tNil)))) (tNil))) (gTup K 2 (gCons (gName 7) (gCons (gName 8) (gNil)))) (r_law_f2 K)) (tSeq (tFor (iTup K (tTup (tCons (tC (.int 60)) (tCons (tC (.int 61)) (tNil))))) (gName 9) (r_law_f3 K)) (tSeq (tAsg (tOp (rIxL K) (tLst (tCons (tC .non) (tCons (tC (.int 5)) (tCons (tLst (tCons (tC (.str "2:")) (tNil))) (tCons (tC (.bl true)) (tCons (tDNewK) (tCons (tTup (tCons (tC (.str "2:")) (tNil))) (tNil)))))))) (tOp oMod (tCal (sp_ldraw K) (tCons (tCB (rSum K) (tCons (tSl (rSlL K) (tVar 0) (tNoPart) (tPart (tC (.int 2)))) (tNil))) (tCons (tC (.int 3)) (tCons (tC (.int 41)) (tNil))))) (tC (.int 6)))) (gName 10)) (tRet (tAndV (tCal (sp_lgood K) (tCons (tVar 10) (tNil))) (tAndV (tCal (sp_lgood K) (tCons (tC (.str "")) (tNil))) (tCal (sp_lgood K) (tCons (tOp oAddS (tCB kStrI (tCons (tVar 1) (tNil))) (tC (.str ":"))) (tNil)))))))))))
section
variable {P : Program} {w : World} {K : PySem.W.Frag} {mg : Str → Option Value} {base : Heap}
theorem ok_initBadWeb (h : Met K "BadWeb" "__init__" "BadWeb.__init__" s_initBadWeb) (W_WebError : InK K mg "WebError") (O_BadWeb : OwK K mg "BadWeb" "place") : InitOk P w K mg base 1 "BadWeb" "place" := by
  obtain ⟨fd, D⟩ := h
  refine ⟨fd, D.ok sc_initBadWeb (fun vs H Q E h => by obtain ⟨_, _, rfl, _⟩ := h; rfl) fun cdv A outer s H vs Q E hr h => ⟨rInit K "no web, place " "place", ?_, rd_init O_BadWeb (by decide) vs H Q E h⟩, D.bindsN fun _ _ _ _ _ _ us hl => match us, hl with | [_, _], _ => rfl⟩
  exact (show PSs _ _ _ from (pss_cons (ps_expr (pe_winit W_WebError (by rfl) (pa_cons (pv 0) (pa_cons (pe_joined (.cons pe_str (.cons (pe_fmtN (pv 1)) .nil))) pa_nil)))) (pss_one (ps_ost (pv 0) (pv 1)))))
theorem ok_iswhole (h : Here K mg "is_whole" s_iswhole) (b_int : mg "int" = none) (b_type : mg "type" = none)
    (len : ∀ vs H Q E, sp_iswhole K vs H Q E → vs.length = P_iswhole.length)
    (rd : ∀ (vs : List V) (H : Hp) (Q : VK) (E : XK), sp_iswhole K vs H Q E → r_iswhole K { nx := fun _ H' => Q .non H', rt := Q } (start N_iswhole vs) H) :
    Cal P w K mg base CX0 1 "is_whole" P_iswhole (sp_iswhole K) := by
  exact h.cal sc_iswhole len (fun _ _ _ _ _ _ us hl => match us, hl with | [_], _ => rfl)
    (fun f cdv A outer s H E hr => (show PSs _ _ _ from (pss_one (ps_ret (pe_cmpR op_isTyB (pe_callTy call_type1 (by rfl) b_type (by decide +kernel) (pa_cons (pv 0) pa_nil)) (pe_bltn (v := .ty "int") (by rfl) b_int (by decide +kernel) rfl) (nomark _)))))) rd
theorem ok_iscomparer (h : Here K mg "is_comparer" s_iscomparer) (C_isline : Cal P w K mg base CX0 2 "_is_line" ["lines", "value"] (sp_isline K)) (b_len : mg "len" = none) (b_tuple : mg "tuple" = none) (b_type : mg "type" = none)
    (len : ∀ vs H Q E, sp_iscomparer K vs H Q E → vs.length = P_iscomparer.length)
    (rd : ∀ (vs : List V) (H : Hp) (Q : VK) (E : XK), sp_iscomparer K vs H Q E → r_iscomparer K { nx := fun _ H' => Q .non H', rt := Q } (start N_iscomparer vs) H) :
    Cal P w K mg base CX0 3 "is_comparer" P_iscomparer (sp_iscomparer K) := by
  exact h.cal sc_iscomparer len (fun _ _ _ _ _ _ us hl => match us, hl with | [_, _], _ => rfl)
    (fun f cdv A outer s H E hr => (show PSs _ _ _ from (pss_cons (ps_if (pw_or (pt_cmpR op_notTyB (pe_callTy call_type1 (by rfl) b_type (by decide +kernel) (pa_cons (pv 1) pa_nil)) (pe_bltn (v := .ty "tuple") (by rfl) b_tuple (by decide +kernel) rfl) (nomark _)) (pw_or1 (pt_cmpR op_ne (pe_callB cl_len (by rfl) b_len PySem.boot_len (pa_cons (pv 1) pa_nil)) pe_int (nomark _)))).pt (pss_one (ps_ret pe_bl)) pss_nil) (pss_cons (ps_asg (pv 1) (pg_tup rfl (pgs_cons (pg_name (i := 2) sc_iscomparer.nd rfl (Or.inl rfl)) (pgs_cons (pg_name (i := 3) sc_iscomparer.nd rfl (Or.inl rfl)) pgs_nil)))) (pss_one (ps_ret (pe_and (pe_cal C_isline (hr.mono (by decide)) (by rfl) (pa_cons (pv 0) (pa_cons (pv 2) pa_nil))) (pe_and (pe_cal C_isline (hr.mono (by decide)) (by rfl) (pa_cons (pv 0) (pa_cons (pv 3) pa_nil))) (pe_one (pe_cmpR op_ne (pv 2) (pv 3) (nomark _))))))))))) rd
theorem ok_isline (h : Here K mg "_is_line" s_isline) (C_iswhole : Cal P w K mg base CX0 1 "is_whole" ["value"] (sp_iswhole K))
    (len : ∀ vs H Q E, sp_isline K vs H Q E → vs.length = P_isline.length)
    (rd : ∀ (vs : List V) (H : Hp) (Q : VK) (E : XK), sp_isline K vs H Q E → r_isline K { nx := fun _ H' => Q .non H', rt := Q } (start N_isline vs) H) :
    Cal P w K mg base CX0 2 "_is_line" P_isline (sp_isline K) := by
  exact h.cal sc_isline len (fun _ _ _ _ _ _ us hl => match us, hl with | [_, _], _ => rfl)
    (fun f cdv A outer s H E hr => (show PSs _ _ _ from (pss_one (ps_ret (pe_and (pe_cal C_iswhole (hr.mono (by decide)) (by rfl) (pa_cons (pv 1) pa_nil)) (pe_one (pe_chain op_le op_lt pe_int (pv 1) (pv 0)))))))) rd
theorem ok_needlines (h : Here K mg "need_lines" s_needlines) (C_iswhole : Cal P w K mg base CX0 1 "is_whole" ["value"] (sp_iswhole K)) (c_MOST_LINES : ∃ t, mg "MOST_LINES" = some (.int 10 t)) (X_BadLines : ExK K mg "BadLines")
    (len : ∀ vs H Q E, sp_needlines K vs H Q E → vs.length = P_needlines.length)
    (rd : ∀ (vs : List V) (H : Hp) (Q : VK) (E : XK), sp_needlines K vs H Q E → r_needlines K E { nx := fun _ H' => Q .non H', rt := Q } (start N_needlines vs) H) :
    Cal P w K mg base (L2N.CX P w) 2 "need_lines" P_needlines (sp_needlines K) := by
  exact h.calN (r := fun E => r_needlines K E) sc_needlines len (fun _ _ _ _ _ _ us hl => match us, hl with | [_], _ => rfl)
    (fun f cdv A outer s H E hr => (show PSs _ _ _ from (pss_one (ps_if (pw_or (pt_not (pt_val (pe_cal C_iswhole (hr.mono (by decide)) (by rfl) (pa_cons (pv 0) pa_nil)))) (pw_or1 (pt_not (pt_chain op_le op_le pe_int (pv 0) (pe_gi c_MOST_LINES (by rfl)))))).pt (pss_one (ps_rzAN rfl (L2N.takes_of rfl rfl rfl rfl) X_BadLines (by rfl) (pa_cons (pe_joined (.cons pe_str (.cons (pe_fmt (pe_gi c_MOST_LINES (by rfl))) .nil))) pa_nil))) pss_nil)))) rd
theorem ok_needweb (h : Here K mg "need_web" s_needweb) (C_iscomparer : Cal P w K mg base CX0 3 "is_comparer" ["lines", "value"] (sp_iscomparer K)) (C_needlines : Cal P w K mg base (L2N.CX P w) 2 "need_lines" ["lines"] (sp_needlines K)) (b_enumerate : mg "enumerate" = none) (b_len : mg "len" = none) (b_list : mg "list" = none) (b_type : mg "type" = none) (c_MOST_COMPARERS : ∃ t, mg "MOST_COMPARERS" = some (.int 60 t)) (O_BadWeb : OwK K mg "BadWeb" "place") (I_BadWeb : InitOk P w K mg base 1 "BadWeb" "place")
    (len : ∀ vs H Q E, sp_needweb K vs H Q E → vs.length = P_needweb.length)
    (rd : ∀ (vs : List V) (H : Hp) (Q : VK) (E : XK), sp_needweb K vs H Q E → r_needweb K E { nx := fun _ H' => Q .non H', rt := Q } (start N_needweb vs) H) :
    Cal P w K mg base (L2N.CX P w) 4 "need_web" P_needweb (sp_needweb K) := by
  obtain ⟨fd_BadWeb, F_BadWeb, B_BadWeb⟩ := I_BadWeb
  exact h.calN (r := fun E => r_needweb K E) sc_needweb len (fun _ _ _ _ _ _ us hl => match us, hl with | [_, _], _ => rfl)
    (fun f cdv A outer s H E hr => (show PSs _ _ _ from (pss_cons (ps_expr (pe_calN C_needlines (hr.mono (by decide)) (L2N.takes_of rfl rfl rfl rfl) (by rfl) (pa_cons (pv 0) pa_nil))) (pss_cons (ps_if (pw_or (pt_cmpR op_notTyB (pe_callTy call_type1 (by rfl) b_type (by decide +kernel) (pa_cons (pv 1) pa_nil)) (pe_bltn (v := .ty "list") (by rfl) b_list (by decide +kernel) rfl) (nomark _)) (pw_or1 (pt_cmpR op_gt (pe_callB cl_len (by rfl) b_len PySem.boot_len (pa_cons (pv 1) pa_nil)) (pe_gi c_MOST_COMPARERS (by rfl)) (nomark _)))).pt (pss_one (ps_rzON rfl (L2N.takes_of rfl rfl rfl rfl) O_BadWeb F_BadWeb B_BadWeb (hr.mono (by decide)) (by rfl) (pa_cons pe_non pa_nil))) pss_nil) (pss_one (ps_for (passes_of rfl) rfl (pi_enum (by rfl) b_enumerate (pa_cons (pv 1) pa_nil)) (pg_tup rfl (pgs_cons (pg_name (i := 2) sc_needweb.nd rfl (Or.inl rfl)) (pgs_cons (pg_name (i := 3) sc_needweb.nd rfl (Or.inl rfl)) pgs_nil))) (pss_one (ps_if (pt_not (pt_val (pe_cal C_iscomparer (hr.mono (by decide)) (by rfl) (pa_cons (pv 0) (pa_cons (pv 3) pa_nil))))) (pss_one (ps_rzON rfl (L2N.takes_of rfl rfl rfl rfl) O_BadWeb F_BadWeb B_BadWeb (hr.mono (by decide)) (by rfl) (pa_cons (pv 2) pa_nil))) pss_nil)))))))) rd
theorem ok_webtext (h : Here K mg "web_text" s_webtext) (C_needweb : Cal P w K mg base (L2N.CX P w) 4 "need_web" ["lines", "comparers"] (sp_needweb K))
    (len : ∀ vs H Q E, sp_webtext K vs H Q E → vs.length = P_webtext.length)
    (rd : ∀ (vs : List V) (H : Hp) (Q : VK) (E : XK), sp_webtext K vs H Q E → r_webtext K E { nx := fun _ H' => Q .non H', rt := Q } (start N_webtext vs) H) :
    Cal P w K mg base (L2.CX P w) 5 "web_text" P_webtext (sp_webtext K) := by
  exact h.calX (r := fun E => r_webtext K E) sc_webtext len (fun _ _ _ _ _ _ us hl => match us, hl with | [_, _], _ => rfl)
    (fun f cdv A outer s H E hr => (show PSs _ _ _ from (pss_cons (ps_expr (pe_calW (weak_cx C_needweb) (hr.mono (by decide)) (L2.takes_of rfl rfl rfl rfl) (by rfl) (pa_cons (pv 0) (pa_cons (pv 1) pa_nil)))) (pss_cons (ps_setLc (i := 2) (own := [("a", 3), ("b", 4)]) rfl sc_webtext.nd rfl rfl (sw_true rfl rfl rfl (by decide +kernel)) (pi_list (pv 1)) (blkOk_by (N := N_webtext) (sc := defScope s_webtext) (by decide +kernel)) (fun _ _ _ _ _ => (pg_tup rfl (pgs_cons (pg_name (i := 3) sc_webtext.nd rfl (Or.inl rfl)) (pgs_cons (pg_name (i := 4) sc_webtext.nd rfl (Or.inl rfl)) pgs_nil)))) (fun _ _ _ _ _ => pts_nil) (fun _ _ _ _ _ => (pe_joined (.cons pe_str (.cons (pe_fmt (pv 3)) (.cons pe_str (.cons (pe_fmt (pv 4)) .nil))))))) (pss_one (ps_ret (pe_op op_add_str (pe_joined (.cons (pe_fmt (pv 0)) (.cons pe_str .nil))) (pe_bm PySem.F.plainAttrs_str PySem.F.slot_str_join PySem.F.type_str_join md_join pe_str (pa_cons (pv 2) pa_nil))))))))) rd
theorem ok_webof (h : Here K mg "web_of" s_webof) (C_needweb : Cal P w K mg base (L2N.CX P w) 4 "need_web" ["lines", "comparers"] (sp_needweb K)) (C_pair : Cal P w K mg base CX0 2 "_pair" ["word"] (sp_pair K)) (C_number : Cal P w K mg base CX0 1 "_number" ["word"] (sp_number K)) (b_str : mg "str" = none) (b_type : mg "type" = none) (G_BadLines : mg "BadLines" = some (.ref (He.ga K "BadLines"))) (G_BadWeb : mg "BadWeb" = some (.ref (He.ga K "BadWeb"))) (X_BadText : ExK K mg "BadText")
    (len : ∀ vs H Q E, sp_webof K vs H Q E → vs.length = P_webof.length)
    (rd : ∀ (vs : List V) (H : Hp) (Q : VK) (E : XK), sp_webof K vs H Q E → r_webof K E { nx := fun _ H' => Q .non H', rt := Q } (start N_webof vs) H) :
    Cal P w K mg base (L2.CX P w) 5 "web_of" P_webof (sp_webof K) := by
  exact h.calX (r := fun E => r_webof K E) sc_webof len (fun _ _ _ _ _ _ us hl => match us, hl with | [_], _ => rfl)
    (fun f cdv A outer s H E hr => (show PSs _ _ _ from (pss_cons (ps_if (pt_cmpR op_notTyB (pe_callTy call_type1 (by rfl) b_type (by decide +kernel) (pa_cons (pv 0) pa_nil)) (pe_bltn (v := .ty "str") (by rfl) b_str (by decide +kernel) rfl) (nomark _)) (pss_one (ps_rzA rfl (L2.takes_of rfl rfl rfl rfl) X_BadText (by rfl) (pa_cons pe_str pa_nil))) pss_nil) (pss_cons (ps_asg (pe_bm PySem.F.plainAttrs_str PySem.F.slot_str_partition PySem.F.type_str_partition md_part (pv 0) (pa_cons pe_str pa_nil)) (pg_tup rfl (pgs_cons (pg_name (i := 1) sc_webof.nd rfl (Or.inl rfl)) (pgs_cons (pg_name (i := 2) sc_webof.nd rfl (Or.inl rfl)) (pgs_cons (pg_name (i := 3) sc_webof.nd rfl (Or.inl rfl)) pgs_nil))))) (pss_cons (ps_asg (pe_bm PySem.F.plainAttrs_str PySem.F.slot_str_split PySem.F.type_str_split md_split (pv 3) (pa_cons pe_str pa_nil)) (pg_head rfl (pgs_cons (pg_name (i := 4) sc_webof.nd rfl (Or.inl rfl)) (pgs_star (pg_name (i := 5) sc_webof.nd rfl (Or.inl rfl)) pgs_nil)))) (pss_cons (ps_if (pw_or (pt_cmpR op_ne (pv 2) pe_str (nomark _)) (pw_or1 (pt_cmpR op_ne (pv 4) pe_str (nomark _)))).pt (pss_one (ps_rzA rfl (L2.takes_of rfl rfl rfl rfl) X_BadText (by rfl) (pa_cons pe_str pa_nil))) pss_nil) (pss_cons (ps_set (i := 6) sc_webof.nd rfl (Or.inl rfl) (pe_cal C_number (hr.mono (by decide)) (by rfl) (pa_cons (pv 1) pa_nil))) (pss_cons (ps_setLc (i := 7) (own := [("word", 8)]) rfl sc_webof.nd rfl rfl (sw_true rfl rfl rfl (by decide +kernel)) (pi_list (pv 5)) (blkOk_by (N := N_webof) (sc := defScope s_webof) (by decide +kernel)) (fun _ _ _ _ _ => (pg_name (i := 8) sc_webof.nd rfl (Or.inl rfl))) (fun _ _ _ _ _ => pts_nil) (fun _ _ _ _ _ => (pe_cal C_pair (hr.mono (by decide)) (by rfl) (pa_cons (pv 8) pa_nil)))) (pss_cons (ps_try_tupX rfl rfl rfl (nm_cls G_BadLines (by rfl)) (nm_cls G_BadWeb (by rfl)) (L2H.passesAt_of rfl) (L2.takes_of rfl rfl rfl rfl) (fun W pn xe tk pa => (show PSs _ _ _ from (pss_one (ps_expr (pe_calN C_needweb (hr.mono (by decide)) tk (by rfl) (pa_cons (pv 6) (pa_cons (pv 7) pa_nil))))))) (fun a ob cls d pn zn hd tkS hot => (show PSs _ _ _ from (pss_one (ps_rzAF hot tkS X_BadText (by rfl) (pa_cons pe_str pa_nil)))))) (pss_one (ps_ret (pe_tup (pa_cons (pv 6) (pa_cons (pv 7) pa_nil)))))))))))))) rd
theorem ok_pair (h : Here K mg "_pair" s_pair) (C_number : Cal P w K mg base CX0 1 "_number" ["word"] (sp_number K))
    (len : ∀ vs H Q E, sp_pair K vs H Q E → vs.length = P_pair.length)
    (rd : ∀ (vs : List V) (H : Hp) (Q : VK) (E : XK), sp_pair K vs H Q E → r_pair K { nx := fun _ H' => Q .non H', rt := Q } (start N_pair vs) H) :
    Cal P w K mg base CX0 2 "_pair" P_pair (sp_pair K) := by
  exact h.cal sc_pair len (fun _ _ _ _ _ _ us hl => match us, hl with | [_], _ => rfl)
    (fun f cdv A outer s H E hr => (show PSs _ _ _ from (pss_cons (ps_asg (pe_bm PySem.F.plainAttrs_str PySem.F.slot_str_partition PySem.F.type_str_partition md_part (pv 0) (pa_cons pe_str pa_nil)) (pg_tup rfl (pgs_cons (pg_name (i := 1) sc_pair.nd rfl (Or.inl rfl)) (pgs_cons (pg_name (i := 2) sc_pair.nd rfl (Or.inl rfl)) (pgs_cons (pg_name (i := 3) sc_pair.nd rfl (Or.inl rfl)) pgs_nil))))) (pss_one (ps_ret (pe_tup (pa_cons (pe_cal C_number (hr.mono (by decide)) (by rfl) (pa_cons (pv 1) pa_nil)) (pa_cons (pe_cal C_number (hr.mono (by decide)) (by rfl) (pa_cons (pv 3) pa_nil)) pa_nil)))))))) rd
theorem ok_number (h : Here K mg "_number" s_number) (b_range : mg "range" = none) (b_str : mg "str" = none) (c_MOST_LINES : ∃ t, mg "MOST_LINES" = some (.int 10 t))
    (len : ∀ vs H Q E, sp_number K vs H Q E → vs.length = P_number.length)
    (rd : ∀ (vs : List V) (H : Hp) (Q : VK) (E : XK), sp_number K vs H Q E → r_number K { nx := fun _ H' => Q .non H', rt := Q } (start N_number vs) H) :
    Cal P w K mg base CX0 1 "_number" P_number (sp_number K) := by
  exact h.cal sc_number len (fun _ _ _ _ _ _ us hl => match us, hl with | [_], _ => rfl)
    (fun f cdv A outer s H E hr => (show PSs _ _ _ from (pss_cons (ps_for PassesOwn.never rfl (pi_range1 (by rfl) b_range (pa_cons (pe_op op_add (pe_gi c_MOST_LINES (by rfl)) pe_int) pa_nil)) (pg_name (i := 1) sc_number.nd rfl (Or.inl rfl)) (pss_one (ps_if (pt_cmpR op_eq (pv 0) (pe_callTy cl_strI (by rfl) b_str (by decide +kernel) (pa_cons (pv 1) pa_nil)) (nomark _)) (pss_one (ps_ret (pv 1))) pss_nil))) (pss_one (ps_ret pe_non))))) rd
theorem ok_ldraw (h : Here K mg "_law_draw" s_ldraw) 
    (len : ∀ vs H Q E, sp_ldraw K vs H Q E → vs.length = P_ldraw.length)
    (rd : ∀ (vs : List V) (H : Hp) (Q : VK) (E : XK), sp_ldraw K vs H Q E → r_ldraw K { nx := fun _ H' => Q .non H', rt := Q } (start N_ldraw vs) H) :
    Cal P w K mg base CX0 1 "_law_draw" P_ldraw (sp_ldraw K) := by
  exact h.cal sc_ldraw len (fun _ _ _ _ _ _ us hl => match us, hl with | [_, _, _], _ => rfl)
    (fun f cdv A outer s H E hr => (show PSs _ _ _ from (pss_cons (ps_set (i := 3) sc_ldraw.nd rfl (Or.inl rfl) (pe_op op_add (pe_op op_mul (pe_op op_mul (pe_op op_add (pv 1) pe_int) (pe_op op_add (pv 1) pe_int)) pe_int) (pe_op op_mul (pe_op op_mul (pe_op op_add (pv 2) pe_int) (pe_op op_add (pv 2) pe_int)) pe_int))) (pss_one (ps_ret (pe_op op_fdiv (pe_op op_mod (pe_op op_mul (pe_op op_mod (pe_op op_add (pe_op op_mul (pe_op op_mod (pv 0) pe_int) pe_int) (pv 3)) pe_int) pe_int) pe_int) pe_int)))))) rd
theorem ok_lbricks (h : Here K mg "_law_bricks" s_lbricks) (b_range : mg "range" = none)
    (len : ∀ vs H Q E, sp_lbricks K vs H Q E → vs.length = P_lbricks.length)
    (rd : ∀ (vs : List V) (H : Hp) (Q : VK) (E : XK), sp_lbricks K vs H Q E → r_lbricks K { nx := fun _ H' => Q .non H', rt := Q } (start N_lbricks vs) H) :
    Cal P w K mg base CX0 1 "_law_bricks" P_lbricks (sp_lbricks K) := by
  exact h.cal sc_lbricks len (fun _ _ _ _ _ _ us hl => match us, hl with | [_], _ => rfl)
    (fun f cdv A outer s H E hr => (show PSs _ _ _ from (pss_cons (ps_set (i := 1) sc_lbricks.nd rfl (Or.inl rfl) (pe_lst pa_nil)) (pss_cons (ps_for PassesOwn.never rfl (pi_range1 (by rfl) b_range (pa_cons (pv 0) pa_nil)) (pg_name (i := 2) sc_lbricks.nd rfl (Or.inl rfl)) (pss_one (ps_set (i := 1) sc_lbricks.nd rfl (Or.inl rfl) (pe_op op_cat (pv 1) (pe_lc (own := [("_law_k", 3)]) rfl sc_lbricks.nd (pi_range3 (by rfl) b_range (pa_cons (pe_op op_mod (pv 2) pe_int) (pa_cons (pe_op op_sub (pv 0) pe_int) (pa_cons pe_int pa_nil)))) (blkOk_by (N := N_lbricks) (sc := defScope s_lbricks) (by decide +kernel)) (fun _ _ _ _ _ => (pg_name (i := 3) sc_lbricks.nd rfl (Or.inl rfl))) (fun _ _ _ _ _ => pts_nil) (fun _ _ _ _ _ => (pe_tup (pa_cons (pv 3) (pa_cons (pe_op op_add (pv 3) pe_int) pa_nil))))))))) (pss_one (ps_ret (pv 1))))))) rd
theorem ok_lcomparer (h : Here K mg "_law_comparer" s_lcomparer) (b_max : mg "max" = none) (b_min : mg "min" = none)
    (len : ∀ vs H Q E, sp_lcomparer K vs H Q E → vs.length = P_lcomparer.length)
    (rd : ∀ (vs : List V) (H : Hp) (Q : VK) (E : XK), sp_lcomparer K vs H Q E → r_lcomparer K { nx := fun _ H' => Q .non H', rt := Q } (start N_lcomparer vs) H) :
    Cal P w K mg base CX0 1 "_law_comparer" P_lcomparer (sp_lcomparer K) := by
  exact h.cal sc_lcomparer len (fun _ _ _ _ _ _ us hl => match us, hl with | [_, _], _ => rfl)
    (fun f cdv A outer s H E hr => (show PSs _ _ _ from (pss_cons (ps_set (i := 2) sc_lcomparer.nd rfl (Or.inl rfl) (pe_op op_mod (pv 0) (pv 1))) (pss_cons (ps_set (i := 3) sc_lcomparer.nd rfl (Or.inl rfl) (pe_op op_mod (pe_op op_add (pe_op op_add (pv 2) pe_int) (pe_op op_mod (pe_op op_fdiv (pv 0) pe_int) (pe_op op_sub (pv 1) pe_int))) (pv 1))) (pss_one (ps_ret (pe_ifExp (pt_cmpR op_gt (pe_op op_mod (pe_op op_fdiv (pv 0) pe_int) pe_int) pe_int (nomark _)) (pe_tup (pa_cons (pe_callB (cl_min rfl) (by rfl) b_min (by decide +kernel) (pa_cons (pv 2) (pa_cons (pv 3) pa_nil))) (pa_cons (pe_callB (cl_max rfl) (by rfl) b_max (by decide +kernel) (pa_cons (pv 2) (pa_cons (pv 3) pa_nil))) pa_nil))) (pe_tup (pa_cons (pv 2) (pa_cons (pv 3) pa_nil)))))))))) rd
theorem ok_lweb (h : Here K mg "_law_web" s_lweb) (C_ldraw : Cal P w K mg base CX0 1 "_law_draw" ["_law_cell", "_law_k", "_law_j"] (sp_ldraw K)) (C_lbricks : Cal P w K mg base CX0 1 "_law_bricks" ["_law_lines"] (sp_lbricks K)) (C_lcomparer : Cal P w K mg base CX0 1 "_law_comparer" ["_law_n", "_law_lines"] (sp_lcomparer K)) (b_enumerate : mg "enumerate" = none) (b_len : mg "len" = none) (b_sum : mg "sum" = none)
    (len : ∀ vs H Q E, sp_lweb K vs H Q E → vs.length = P_lweb.length)
    (rd : ∀ (vs : List V) (H : Hp) (Q : VK) (E : XK), sp_lweb K vs H Q E → r_lweb K { nx := fun _ H' => Q .non H', rt := Q } (start N_lweb vs) H) :
    Cal P w K mg base CX0 2 "_law_web" P_lweb (sp_lweb K) := by
  exact h.cal sc_lweb len (fun _ _ _ _ _ _ us hl => match us, hl with | [_], _ => rfl)
    (fun f cdv A outer s H E hr => (show PSs _ _ _ from (pss_cons (ps_set (i := 1) sc_lweb.nd rfl (Or.inl rfl) (pe_slice sl_list (pv 0) po_none (po_some pe_int))) (pss_cons (ps_set (i := 2) sc_lweb.nd rfl (Or.inl rfl) (pe_cal C_ldraw (hr.mono (by decide)) (by rfl) (pa_cons (pe_callB (cr_sum rfl) (by rfl) b_sum (by decide +kernel) (pa_cons (pe_slice sl_list (pv 1) po_none (po_some pe_int)) pa_nil)) (pa_cons (pe_callB cl_len (by rfl) b_len PySem.boot_len (pa_cons (pv 1) pa_nil)) (pa_cons pe_int pa_nil))))) (pss_cons (ps_set (i := 3) sc_lweb.nd rfl (Or.inr rfl) (pe_ix ix_list (pe_lst (pa_cons (pe_op op_add pe_int (pe_op op_mod (pe_op op_fdiv (pv 2) pe_int) pe_int)) (pa_cons (pe_op op_add pe_int (pe_op op_mod (pe_op op_fdiv (pv 2) pe_int) pe_int)) (pa_cons (pe_op op_add pe_int (pe_op op_mod (pe_op op_fdiv (pv 2) pe_int) pe_int)) (pa_cons pe_int pa_nil))))) (pe_op op_mod (pv 2) pe_int) (fun _ _ => rfl))) (pss_cons (ps_if (pt_cmpR op_eq (pv 3) pe_int (nomark _)) (pss_one (ps_ret (pe_tup (pa_cons pe_int (pa_cons (pe_lst pa_nil) pa_nil))))) pss_nil) (pss_cons (ps_if (pt_cmpR op_eq (pe_op op_mod (pe_op op_fdiv (pv 2) pe_int) pe_int) pe_int (nomark _)) (pss_one (ps_ret (pe_tup (pa_cons (pv 3) (pa_cons (pe_lc (own := [("_law_k", 4), ("_law_cell", 5)]) rfl sc_lweb.nd (pi_enum (by rfl) b_enumerate (pa_cons (pv 1) pa_nil)) (blkOk_by (N := N_lweb) (sc := defScope s_lweb) (by decide +kernel)) (fun _ _ _ _ _ => (pg_tup rfl (pgs_cons (pg_name (i := 4) sc_lweb.nd rfl (Or.inl rfl)) (pgs_cons (pg_name (i := 5) sc_lweb.nd rfl (Or.inl rfl)) pgs_nil)))) (fun _ _ _ _ _ => pts_nil) (fun _ _ _ _ _ => (pe_cal C_lcomparer (hr.mono (by decide)) (by rfl) (pa_cons (pe_cal C_ldraw (hr.mono (by decide)) (by rfl) (pa_cons (pv 5) (pa_cons (pv 4) (pa_cons pe_int pa_nil)))) (pa_cons (pv 3) pa_nil))))) pa_nil))))) pss_nil) (pss_cons (ps_set (i := 6) sc_lweb.nd rfl (Or.inl rfl) (pe_cal C_lbricks (hr.mono (by decide)) (by rfl) (pa_cons (pv 3) pa_nil))) (pss_cons (ps_for PassesOwn.never rfl (pi_enum (by rfl) b_enumerate (pa_cons (pv 1) pa_nil)) (pg_tup rfl (pgs_cons (pg_name (i := 4) sc_lweb.nd rfl (Or.inl rfl)) (pgs_cons (pg_name (i := 5) sc_lweb.nd rfl (Or.inl rfl)) pgs_nil))) (pss_cons (ps_set (i := 7) sc_lweb.nd rfl (Or.inl rfl) (pe_cal C_ldraw (hr.mono (by decide)) (by rfl) (pa_cons (pv 5) (pa_cons (pv 4) (pa_cons pe_int pa_nil))))) (pss_cons (ps_set (i := 8) sc_lweb.nd rfl (Or.inl rfl) (pe_op op_mod (pe_op op_fdiv (pv 7) pe_int) (pe_op op_add (pe_callB cl_len (by rfl) b_len PySem.boot_len (pa_cons (pv 6) pa_nil)) pe_int))) (pss_one (ps_if (pw_and (pt_cmpR op_lt (pe_op op_mod (pv 7) pe_int) pe_int (nomark _)) (pw_and1 (pt_cmpR op_lt (pv 8) (pe_callB cl_len (by rfl) b_len PySem.boot_len (pa_cons (pv 6) pa_nil)) (nomark _)))).pt (pss_one (ps_expr (pe_bm PySem.F.plainAttrs_list PySem.F.slot_list_pop PySem.F.type_list_pop md_popAt (pv 6) (pa_cons (pv 8) pa_nil)))) (pss_one (ps_if (pw_and (pt_cmpR op_lt (pe_op op_mod (pv 7) pe_int) pe_int (nomark _)) (pw_and1 (pt_cmpR op_lt (pe_callB cl_len (by rfl) b_len PySem.boot_len (pa_cons (pv 6) pa_nil)) pe_int (nomark _)))).pt (pss_one (ps_expr (pe_bm PySem.F.plainAttrs_list PySem.F.slot_list_insert PySem.F.type_list_insert md_insert (pv 6) (pa_cons (pv 8) (pa_cons (pe_cal C_lcomparer (hr.mono (by decide)) (by rfl) (pa_cons (pe_op op_fdiv (pv 7) pe_int) (pa_cons (pv 3) pa_nil))) pa_nil))))) (pss_one (ps_if (pw_and (pt_cmpR op_eq (pe_op op_mod (pv 7) pe_int) pe_int (nomark _)) (pw_and1 (pt_cmpR op_lt (pv 8) (pe_callB cl_len (by rfl) b_len PySem.boot_len (pa_cons (pv 6) pa_nil)) (nomark _)))).pt (pss_one (ps_asg (pe_turn (pe_ix ix_list (pv 6) (pv 8) (fun _ _ => rfl))) (pg_sub (pv 6) (pv 8) set_list))) pss_nil))))))))) (pss_one (ps_ret (pe_tup (pa_cons (pv 3) (pa_cons (pv 6) pa_nil)))))))))))))) rd
theorem ok_lisweb (h : Here K mg "_law_is_web" s_lisweb) (b_bool : mg "bool" = none) (b_isinstance : mg "isinstance" = none) (b_list : mg "list" = none) (b_tuple : mg "tuple" = none)
    (len : ∀ vs H Q E, sp_lisweb K vs H Q E → vs.length = P_lisweb.length)
    (rd : ∀ (vs : List V) (H : Hp) (Q : VK) (E : XK), sp_lisweb K vs H Q E → r_lisweb K { nx := fun _ H' => Q .non H', rt := Q } (start N_lisweb vs) H) :
    Cal P w K mg base CX0 1 "_law_is_web" P_lisweb (sp_lisweb K) := by
  exact h.cal sc_lisweb len (fun _ _ _ _ _ _ us hl => match us, hl with | [_, _], _ => rfl)
    (fun f cdv A outer s H E hr => (show PSs _ _ _ from (pss_cons (ps_if (pw_or (pt_not (pt_val (pe_callB cl_isk (by rfl) b_isinstance (by decide +kernel) (pa_cons (pv 0) (pa_cons (pe_bltn (v := .ty "list") (by rfl) b_list (by decide +kernel) rfl) pa_nil))))) (pw_or1 (pt_cmpR (op_neD (hu64 hr)) (pv 0) (pv 1) (nomark _)))).pt (pss_one (ps_ret pe_bl)) pss_nil) (pss_cons (ps_for PassesOwn.never rfl (pi_list (pv 0)) (pg_name (i := 2) sc_lisweb.nd rfl (Or.inl rfl)) (pss_one (ps_if (pw_or (pt_not (pt_val (pe_callB cl_isk (by rfl) b_isinstance (by decide +kernel) (pa_cons (pv 2) (pa_cons (pe_bltn (v := .ty "tuple") (by rfl) b_tuple (by decide +kernel) rfl) pa_nil))))) (pw_or1 (pt_cmpR (op_neD (hu64 hr)) (pe_lc (own := [("_law_line", 3)]) rfl sc_lisweb.nd (pi_tup (pv 2)) (blkOk_by (N := N_lisweb) (sc := defScope s_lisweb) (by decide +kernel)) (fun _ _ _ _ _ => (pg_name (i := 3) sc_lisweb.nd rfl (Or.inl rfl))) (fun _ _ _ _ _ => (pts_one (pt_val (pe_callB cl_isk (by rfl) b_isinstance (by decide +kernel) (pa_cons (pv 3) (pa_cons (pe_bltn (v := .ty "bool") (by rfl) b_bool (by decide +kernel) rfl) pa_nil)))))) (fun _ _ _ _ _ => (pv 3))) (pe_lst pa_nil) (nomark _)))).pt (pss_one (ps_ret pe_bl)) pss_nil))) (pss_one (ps_ret pe_bl)))))) rd
theorem ok_lword (h : Here K mg "_law_word" s_lword) (b_ValueError : mg "ValueError" = none) (b_isinstance : mg "isinstance" = none) (b_len : mg "len" = none) (G_BadLines : mg "BadLines" = some (.ref (He.ga K "BadLines"))) (G_BadOrder : mg "BadOrder" = some (.ref (He.ga K "BadOrder"))) (G_BadPlace : mg "BadPlace" = some (.ref (He.ga K "BadPlace"))) (G_BadRow : mg "BadRow" = some (.ref (He.ga K "BadRow"))) (G_BadText : mg "BadText" = some (.ref (He.ga K "BadText"))) (G_BadWeb : mg "BadWeb" = some (.ref (He.ga K "BadWeb"))) (G_NothingPut : mg "NothingPut" = some (.ref (He.ga K "NothingPut")))
    (len : ∀ vs H Q E, sp_lword K vs H Q E → vs.length = P_lword.length)
    (rd : ∀ (vs : List V) (H : Hp) (Q : VK) (E : XK), sp_lword K vs H Q E → r_lword K { nx := fun _ H' => Q .non H', rt := Q } (start N_lword vs) H) :
    Cal P w K mg base CX0 1 "_law_word" P_lword (sp_lword K) := by
  exact h.cal sc_lword len (fun _ _ _ _ _ _ us hl => match us, hl with | [_], _ => rfl)
    (fun f cdv A outer s H E hr => (show PSs _ _ _ from (pss_cons (ps_set (i := 1) sc_lword.nd rfl (Or.inl rfl) (pe_lst (pa_cons (pe_tup (pa_cons pe_str (pa_cons (pe_callB cl_isk (by rfl) b_isinstance (by decide +kernel) (pa_cons (pv 0) (pa_cons (pe_cls G_BadLines (by rfl)) pa_nil))) pa_nil))) (pa_cons (pe_tup (pa_cons pe_str (pa_cons (pe_callB cl_isk (by rfl) b_isinstance (by decide +kernel) (pa_cons (pv 0) (pa_cons (pe_cls G_BadWeb (by rfl)) pa_nil))) pa_nil))) (pa_cons (pe_tup (pa_cons pe_str (pa_cons (pe_callB cl_isk (by rfl) b_isinstance (by decide +kernel) (pa_cons (pv 0) (pa_cons (pe_cls G_BadRow (by rfl)) pa_nil))) pa_nil))) pa_nil))))) (pss_cons (ps_set (i := 1) sc_lword.nd rfl (Or.inl rfl) (pe_op op_cat (pv 1) (pe_lst (pa_cons (pe_tup (pa_cons pe_str (pa_cons (pe_callB cl_isk (by rfl) b_isinstance (by decide +kernel) (pa_cons (pv 0) (pa_cons (pe_cls G_BadPlace (by rfl)) pa_nil))) pa_nil))) (pa_cons (pe_tup (pa_cons pe_str (pa_cons (pe_callB cl_isk (by rfl) b_isinstance (by decide +kernel) (pa_cons (pv 0) (pa_cons (pe_cls G_BadOrder (by rfl)) pa_nil))) pa_nil))) pa_nil))))) (pss_cons (ps_set (i := 1) sc_lword.nd rfl (Or.inl rfl) (pe_op op_cat (pv 1) (pe_lst (pa_cons (pe_tup (pa_cons pe_str (pa_cons (pe_callB cl_isk (by rfl) b_isinstance (by decide +kernel) (pa_cons (pv 0) (pa_cons (pe_cls G_BadText (by rfl)) pa_nil))) pa_nil))) (pa_cons (pe_tup (pa_cons pe_str (pa_cons (pe_callB cl_isk (by rfl) b_isinstance (by decide +kernel) (pa_cons (pv 0) (pa_cons (pe_cls G_NothingPut (by rfl)) pa_nil))) pa_nil))) pa_nil))))) (pss_cons (ps_setLc (i := 2) (own := [("_law_word_here", 3), ("_law_good_here", 4)]) rfl sc_lword.nd rfl rfl (sw_true rfl rfl rfl (by decide +kernel)) (pi_list (pv 1)) (blkOk_by (N := N_lword) (sc := defScope s_lword) (by decide +kernel)) (fun _ _ _ _ _ => (pg_tup rfl (pgs_cons (pg_name (i := 3) sc_lword.nd rfl (Or.inl rfl)) (pgs_cons (pg_name (i := 4) sc_lword.nd rfl (Or.inl rfl)) pgs_nil)))) (fun _ _ _ _ _ => (pts_one (pt_val (pv 4)))) (fun _ _ _ _ _ => (pv 3))) (pss_cons (ps_if (pt_cmpR op_isN1 (pv 0) pe_non (nomark _)) (pss_one (ps_ret pe_str)) pss_nil) (pss_one (ps_ret (pe_ifExp (pw_and (pt_cmpR op_eq (pe_callB cl_len (by rfl) b_len PySem.boot_len (pa_cons (pv 2) pa_nil)) pe_int (nomark _)) (pw_and1 (pt_val (pe_callB cl_isk (by rfl) b_isinstance (by decide +kernel) (pa_cons (pv 0) (pa_cons (pe_bltn (v := .ty "ValueError") (by rfl) b_ValueError (by decide +kernel) rfl) pa_nil)))))).pt (pe_ix ix_list (pv 2) pe_int (fun _ _ => rfl)) pe_str)))))))))) rd
theorem ok_lnumber (h : Here K mg "_law_number" s_lnumber) (b_int : mg "int" = none) (b_len : mg "len" = none)
    (len : ∀ vs H Q E, sp_lnumber K vs H Q E → vs.length = P_lnumber.length)
    (rd : ∀ (vs : List V) (H : Hp) (Q : VK) (E : XK), sp_lnumber K vs H Q E → r_lnumber K { nx := fun _ H' => Q .non H', rt := Q } (start N_lnumber vs) H) :
    Cal P w K mg base CX0 1 "_law_number" P_lnumber (sp_lnumber K) := by
  exact h.cal sc_lnumber len (fun _ _ _ _ _ _ us hl => match us, hl with | [_], _ => rfl)
    (fun f cdv A outer s H E hr => (show PSs _ _ _ from (pss_cons (ps_if (pw_or (pt_not (pt_chain op_le op_le pe_int (pe_callB cl_lenS (by rfl) b_len PySem.boot_len (pa_cons (pv 0) pa_nil)) pe_int)) (pw_or1 (pt_cmpR (op_neD (hu64 hr)) (pe_lc (own := [("_law_sign", 1)]) rfl sc_lnumber.nd (pi_str (pv 0)) (blkOk_by (N := N_lnumber) (sc := defScope s_lnumber) (by decide +kernel)) (fun _ _ _ _ _ => (pg_name (i := 1) sc_lnumber.nd rfl (Or.inl rfl))) (fun _ _ _ _ _ => (pts_one (pt_cmpR op_notInC (pv 1) pe_str (by with_unfolding_all rfl)))) (fun _ _ _ _ _ => (pv 1))) (pe_lst pa_nil) (nomark _)))).pt (pss_one (ps_ret pe_non)) pss_nil) (pss_one (ps_ret (pe_ifExp (pw_and (pt_cmpR op_eq (pe_callB cl_lenS (by rfl) b_len PySem.boot_len (pa_cons (pv 0) pa_nil)) pe_int (nomark _)) (pw_and1 (pt_cmpR op_eq (pe_ix ix_str (pv 0) pe_int (fun _ _ => rfl)) pe_str (nomark _)))).pt pe_non (pe_callTy cl_intS (by rfl) b_int (by decide +kernel) (pa_cons (pv 0) pa_nil)))))))) rd
theorem ok_lread (h : Here K mg "_law_read" s_lread) (C_lnumber : Cal P w K mg base CX0 1 "_law_number" ["_law_word_here"] (sp_lnumber K)) (b_isinstance : mg "isinstance" = none) (b_len : mg "len" = none) (b_max : mg "max" = none) (b_str : mg "str" = none)
    (len : ∀ vs H Q E, sp_lread K vs H Q E → vs.length = P_lread.length)
    (rd : ∀ (vs : List V) (H : Hp) (Q : VK) (E : XK), sp_lread K vs H Q E → r_lread K { nx := fun _ H' => Q .non H', rt := Q } (start N_lread vs) H) :
    Cal P w K mg base CX0 2 "_law_read" P_lread (sp_lread K) := by
  exact h.cal sc_lread len (fun _ _ _ _ _ _ us hl => match us, hl with | [_], _ => rfl)
    (fun f cdv A outer s H E hr => (show PSs _ _ _ from (pss_cons (ps_if (pw_or (pt_not (pt_val (pe_callB cl_isk (by rfl) b_isinstance (by decide +kernel) (pa_cons (pv 0) (pa_cons (pe_bltn (v := .ty "str") (by rfl) b_str (by decide +kernel) rfl) pa_nil))))) (pw_or1 (pt_cmpR op_notInC pe_str (pv 0) (by with_unfolding_all rfl)))).pt (pss_one (ps_ret pe_non)) pss_nil) (pss_cons (ps_set (i := 1) sc_lread.nd rfl (Or.inl rfl) (pe_bm PySem.F.plainAttrs_str PySem.F.slot_str_index PySem.F.type_str_index md_index (pv 0) (pa_cons pe_str pa_nil))) (pss_cons (ps_set (i := 2) sc_lread.nd rfl (Or.inl rfl) (pe_cal C_lnumber (hr.mono (by decide)) (by rfl) (pa_cons (pe_slice sl_str (pv 0) po_none (po_some (pv 1))) pa_nil))) (pss_cons (ps_set (i := 3) sc_lread.nd rfl (Or.inl rfl) (pe_bm PySem.F.plainAttrs_str PySem.F.slot_str_split PySem.F.type_str_split md_split (pe_slice sl_str (pv 0) (po_some (pe_op op_add (pv 1) pe_int)) po_none) (pa_cons pe_str pa_nil))) (pss_cons (ps_if (pw_or (pt_cmpR op_isN1 (pv 2) pe_non (nomark _)) (pw_or (pt_not (pt_chain op_le op_le pe_int (pv 2) pe_int)) (pw_or (pt_cmpR op_ne (pe_ix ix_list (pv 3) pe_int (fun _ _ => rfl)) pe_str (nomark _)) (pw_or1 (pt_cmpR op_gt (pe_callB cl_len (by rfl) b_len PySem.boot_len (pa_cons (pv 3) pa_nil)) pe_int (nomark _)))))).pt (pss_one (ps_ret pe_non)) pss_nil) (pss_cons (ps_set (i := 4) sc_lread.nd rfl (Or.inl rfl) (pe_lst pa_nil)) (pss_cons (ps_for PassesOwn.never rfl (pi_list (pe_slice sl_list (pv 3) (po_some pe_int) po_none)) (pg_name (i := 5) sc_lread.nd rfl (Or.inl rfl)) (pss_cons (ps_setLc (i := 6) (own := [("_law_part", 7)]) rfl sc_lread.nd rfl rfl (sw_true rfl rfl rfl (by decide +kernel)) (pi_list (pe_bm PySem.F.plainAttrs_str PySem.F.slot_str_split PySem.F.type_str_split md_split (pv 5) (pa_cons pe_str pa_nil))) (blkOk_by (N := N_lread) (sc := defScope s_lread) (by decide +kernel)) (fun _ _ _ _ _ => (pg_name (i := 7) sc_lread.nd rfl (Or.inl rfl))) (fun _ _ _ _ _ => pts_nil) (fun _ _ _ _ _ => (pe_cal C_lnumber (hr.mono (by decide)) (by rfl) (pa_cons (pv 7) pa_nil)))) (pss_cons (ps_if (pw_or (pt_cmpR op_ne (pe_callB cl_len (by rfl) b_len PySem.boot_len (pa_cons (pv 6) pa_nil)) pe_int (nomark _)) (pw_or (pt_cmpR op_in_seq pe_non (pv 6) (by with_unfolding_all rfl)) (pw_or (pt_cmpR op_eq (pe_ix ix_list (pv 6) pe_int (fun _ _ => rfl)) (pe_ix ix_list (pv 6) pe_int (fun _ _ => rfl)) (nomark _)) (pw_or1 (pt_cmpR op_ge (pe_callB (cr_max rfl) (by rfl) b_max (by decide +kernel) (pa_cons (pv 6) pa_nil)) (pv 2) (nomark _)))))).pt (pss_one (ps_ret pe_non)) pss_nil) (pss_one (ps_expr (pe_bm PySem.F.plainAttrs_list PySem.F.slot_list_append PySem.F.type_list_append md_append (pv 4) (pa_cons (pe_tup (pa_cons (pe_ix ix_list (pv 6) pe_int (fun _ _ => rfl)) (pa_cons (pe_ix ix_list (pv 6) pe_int (fun _ _ => rfl)) pa_nil))) pa_nil))))))) (pss_one (ps_ret (pe_tup (pa_cons (pv 2) (pa_cons (pv 4) pa_nil)))))))))))))) rd
theorem ok_ltext (h : Here K mg "_law_text" s_ltext) (b_str : mg "str" = none)
    (len : ∀ vs H Q E, sp_ltext K vs H Q E → vs.length = P_ltext.length)
    (rd : ∀ (vs : List V) (H : Hp) (Q : VK) (E : XK), sp_ltext K vs H Q E → r_ltext K { nx := fun _ H' => Q .non H', rt := Q } (start N_ltext vs) H) :
    Cal P w K mg base CX0 1 "_law_text" P_ltext (sp_ltext K) := by
  exact h.cal sc_ltext len (fun _ _ _ _ _ _ us hl => match us, hl with | [_, _], _ => rfl)
    (fun f cdv A outer s H E hr => (show PSs _ _ _ from (pss_one (ps_ret (pe_bm PySem.F.plainAttrs_str PySem.F.slot_str_join PySem.F.type_str_join md_join pe_str (pa_cons (pe_op op_cat (pe_lst (pa_cons (pe_op op_add_str (pe_callTy cl_strI (by rfl) b_str (by decide +kernel) (pa_cons (pv 0) pa_nil)) pe_str) pa_nil)) (pe_lc (own := [("_law_a", 2), ("_law_b", 3)]) rfl sc_ltext.nd (pi_list (pv 1)) (blkOk_by (N := N_ltext) (sc := defScope s_ltext) (by decide +kernel)) (fun _ _ _ _ _ => (pg_tup rfl (pgs_cons (pg_name (i := 2) sc_ltext.nd rfl (Or.inl rfl)) (pgs_cons (pg_name (i := 3) sc_ltext.nd rfl (Or.inl rfl)) pgs_nil)))) (fun _ _ _ _ _ => pts_nil) (fun _ _ _ _ _ => (pe_op op_add_str (pe_op op_add_str (pe_callTy cl_strI (by rfl) b_str (by decide +kernel) (pa_cons (pv 2) pa_nil)) pe_str) (pe_callTy cl_strI (by rfl) b_str (by decide +kernel) (pa_cons (pv 3) pa_nil)))))) pa_nil)))))) rd
theorem ok_lbent (h : Here K mg "_law_bent" s_lbent) (b_len : mg "len" = none)
    (len : ∀ vs H Q E, sp_lbent K vs H Q E → vs.length = P_lbent.length)
    (rd : ∀ (vs : List V) (H : Hp) (Q : VK) (E : XK), sp_lbent K vs H Q E → r_lbent K { nx := fun _ H' => Q .non H', rt := Q } (start N_lbent vs) H) :
    Cal P w K mg base CX0 1 "_law_bent" P_lbent (sp_lbent K) := by
  exact h.cal sc_lbent len (fun _ _ _ _ _ _ us hl => match us, hl with | [_, _], _ => rfl)
    (fun f cdv A outer s H E hr => (show PSs _ _ _ from (pss_cons (ps_set (i := 2) sc_lbent.nd rfl (Or.inl rfl) (pe_op op_mod (pe_op op_fdiv (pv 1) pe_int) (pe_op op_add (pe_callB cl_lenS (by rfl) b_len PySem.boot_len (pa_cons (pv 0) pa_nil)) pe_int))) (pss_cons (ps_set (i := 3) sc_lbent.nd rfl (Or.inl rfl) (pe_ix ix_list (pe_lst (pa_cons pe_str (pa_cons pe_str (pa_cons pe_str (pa_cons pe_str (pa_cons pe_str (pa_cons pe_str (pa_cons pe_str (pa_cons pe_str (pa_cons pe_str (pa_cons pe_str (pa_cons pe_str (pa_cons pe_str pa_nil))))))))))))) (pe_op op_mod (pe_op op_fdiv (pv 1) pe_int) pe_int) (fun _ _ => rfl))) (pss_cons (ps_if (pt_cmpR op_eq (pe_op op_mod (pv 1) pe_int) pe_int (nomark _)) (pss_one (ps_ret (pe_op op_add_str (pe_slice sl_str (pv 0) po_none (po_some (pv 2))) (pe_slice sl_str (pv 0) (po_some (pe_op op_add (pv 2) pe_int)) po_none)))) pss_nil) (pss_cons (ps_if (pt_cmpR op_lt (pe_op op_mod (pv 1) pe_int) pe_int (nomark _)) (pss_one (ps_ret (pe_op op_add_str (pe_op op_add_str (pe_slice sl_str (pv 0) po_none (po_some (pv 2))) (pv 3)) (pe_slice sl_str (pv 0) (po_some (pv 2)) po_none)))) pss_nil) (pss_cons (ps_if (pt_cmpR op_eq (pe_op op_mod (pv 1) pe_int) pe_int (nomark _)) (pss_one (ps_ret (pe_op op_add_str (pe_op op_add_str (pe_slice sl_str (pv 0) po_none (po_some (pv 2))) (pv 3)) (pe_slice sl_str (pv 0) (po_some (pe_op op_add (pv 2) pe_int)) po_none)))) pss_nil) (pss_one (ps_ret (pe_op op_add_str (pv 0) (pe_op op_mulS (pe_slice sl_str (pv 0) (po_some (pe_op op_add (pe_bm PySem.F.plainAttrs_str PySem.F.slot_str_index PySem.F.type_str_index md_index (pv 0) (pa_cons pe_str pa_nil)) pe_int)) po_none) (pe_op op_add pe_int (pe_op op_mod (pe_op op_fdiv (pv 1) pe_int) pe_int))))))))))))) rd
theorem ok_lgood (h : Here K mg "_law_good" s_lgood) (C_webof : Cal P w K mg base (L2.CX P w) 5 "web_of" ["text"] (sp_webof K)) (C_lisweb : Cal P w K mg base CX0 1 "_law_is_web" ["_law_found", "_law_due"] (sp_lisweb K)) (C_lword : Cal P w K mg base CX0 1 "_law_word" ["_law_e"] (sp_lword K)) (C_lread : Cal P w K mg base CX0 2 "_law_read" ["_law_text_here"] (sp_lread K)) (b_bool : mg "bool" = none) (b_isinstance : mg "isinstance" = none) (b_len : mg "len" = none) (b_tuple : mg "tuple" = none) (G_WebError : mg "WebError" = some (.ref (He.ga K "WebError")))
    (len : ∀ vs H Q E, sp_lgood K vs H Q E → vs.length = P_lgood.length)
    (rd : ∀ (vs : List V) (H : Hp) (Q : VK) (E : XK), sp_lgood K vs H Q E → r_lgood K { nx := fun _ H' => Q .non H', rt := Q } (start N_lgood vs) H) :
    Cal P w K mg base CX0 6 "_law_good" P_lgood (sp_lgood K) := by
  exact h.cal sc_lgood len (fun _ _ _ _ _ _ us hl => match us, hl with | [_], _ => rfl)
    (fun f cdv A outer s H E hr => (show PSs _ _ _ from (pss_cons (ps_set (i := 1) sc_lgood.nd rfl (Or.inl rfl) (pe_cal C_lread (hr.mono (by decide)) (by rfl) (pa_cons (pv 0) pa_nil))) (pss_cons (ps_set (i := 2) sc_lgood.nd rfl (Or.inl rfl) pe_non) (pss_cons (ps_set (i := 3) sc_lgood.nd rfl (Or.inl rfl) pe_non) (pss_cons (ps_try_keep (i := 4) rfl rfl rfl sc_lgood.nd rfl rfl (nm_cls G_WebError (by rfl)) (fun W pn xe tk pa => (show PSs _ _ _ from (pss_one (ps_set (i := 2) sc_lgood.nd rfl (Or.inl rfl) (pe_calW C_webof (hr.mono (by decide)) tk (by rfl) (pa_cons (pv 0) pa_nil)))))) (fun a ob cls d pn zn hd => (show PSs _ _ _ from (pss_one (ps_set (i := 3) sc_lgood.nd rfl (Or.inl rfl) (pv 4)))))) (pss_cons (ps_if (pt_cmpR op_isN1 (pv 1) pe_non (nomark _)) (pss_one (ps_ret (pe_cmpR op_eq (pe_cal C_lword (hr.mono (by decide)) (by rfl) (pa_cons (pv 3) pa_nil)) pe_str (nomark _)))) pss_nil) (pss_cons (ps_if (pw_or (pt_cmpR op_notN1 (pv 3) pe_non (nomark _)) (pw_or (pt_not (pt_val (pe_callB cl_isk (by rfl) b_isinstance (by decide +kernel) (pa_cons (pv 2) (pa_cons (pe_bltn (v := .ty "tuple") (by rfl) b_tuple (by decide +kernel) rfl) pa_nil))))) (pw_or (pt_cmpR op_ne (pe_callB cl_len (by rfl) b_len PySem.boot_len (pa_cons (pv 2) pa_nil)) pe_int (nomark _)) (pw_or1 (pt_val (pe_callB cl_isk (by rfl) b_isinstance (by decide +kernel) (pa_cons (pe_ix ix_tup (pv 2) pe_int (fun _ _ => rfl)) (pa_cons (pe_bltn (v := .ty "bool") (by rfl) b_bool (by decide +kernel) rfl) pa_nil)))))))).pt (pss_one (ps_ret pe_bl)) pss_nil) (pss_one (ps_ret (pe_and (pe_cmpR op_eq (pe_ix ix_tup (pv 2) pe_int (fun _ _ => rfl)) (pe_ix ix_tup (pv 1) pe_int (fun _ _ => rfl)) (nomark _)) (pe_one (pe_cal C_lisweb (hr.mono (by decide)) (by rfl) (pa_cons (pe_ix ix_tup (pv 2) pe_int (fun _ _ => rfl)) (pa_cons (pe_ix ix_tup (pv 1) pe_int (fun _ _ => rfl)) pa_nil))))))))))))))) rd
theorem ok_law (h : Here K mg "law" s_law) (C_webtext : Cal P w K mg base (L2.CX P w) 5 "web_text" ["lines", "comparers"] (sp_webtext K)) (C_webof : Cal P w K mg base (L2.CX P w) 5 "web_of" ["text"] (sp_webof K)) (C_ldraw : Cal P w K mg base CX0 1 "_law_draw" ["_law_cell", "_law_k", "_law_j"] (sp_ldraw K)) (C_lweb : Cal P w K mg base CX0 2 "_law_web" ["_law_script"] (sp_lweb K)) (C_lisweb : Cal P w K mg base CX0 1 "_law_is_web" ["_law_found", "_law_due"] (sp_lisweb K)) (C_ltext : Cal P w K mg base CX0 1 "_law_text" ["_law_lines", "_law_comparers"] (sp_ltext K)) (C_lbent : Cal P w K mg base CX0 1 "_law_bent" ["_law_text_here", "_law_n"] (sp_lbent K)) (C_lgood : Cal P w K mg base CX0 6 "_law_good" ["_law_text_here"] (sp_lgood K)) (b_enumerate : mg "enumerate" = none) (b_list : mg "list" = none) (b_max : mg "max" = none) (b_range : mg "range" = none) (b_str : mg "str" = none) (b_sum : mg "sum" = none)
    (len : ∀ vs H Q E, sp_law K vs H Q E → vs.length = P_law.length)
    (rd : ∀ (vs : List V) (H : Hp) (Q : VK) (E : XK), sp_law K vs H Q E → r_law K { nx := fun _ H' => Q .non H', rt := Q } (start N_law vs) H) :
    Cal P w K mg base CX0 7 "law" P_law (sp_law K) := by
  exact h.cal sc_law len (fun _ _ _ _ _ _ us hl => match us, hl with | [_], _ => rfl)
    (fun f cdv A outer s H E hr => (show PSs _ _ _ from (pss_cons (ps_asg (pe_cal C_lweb (hr.mono (by decide)) (by rfl) (pa_cons (pv 0) pa_nil)) (pg_tup rfl (pgs_cons (pg_name (i := 1) sc_law.nd rfl (Or.inl rfl)) (pgs_cons (pg_name (i := 2) sc_law.nd rfl (Or.inl rfl)) pgs_nil)))) (pss_cons (ps_set (i := 3) sc_law.nd rfl (Or.inl rfl) (pe_cal C_ltext (hr.mono (by decide)) (by rfl) (pa_cons (pv 1) (pa_cons (pv 2) pa_nil)))) (pss_cons (ps_for PassesOwn.never rfl (pi_range1 (by rfl) b_range (pa_cons pe_int pa_nil)) (pg_name (i := 4) sc_law.nd rfl (Or.inl rfl)) (pss_cons (ps_set (i := 5) sc_law.nd rfl (Or.inl rfl) (pe_callTy cl_list (by rfl) b_list (by decide +kernel) (pa_cons (pv 2) pa_nil))) (pss_cons (ps_if (pw_or (pt_cmpR op_ne (pe_cal C_webtext.quiet (hr.mono (by decide)) (by rfl) (pa_cons (pv 1) (pa_cons (pv 5) pa_nil))) (pv 3) (nomark _)) (pw_or (pt_cmpR (op_neD (hu64 hr)) (pv 5) (pv 2) (nomark _)) (pw_or1 (pt_cmpR op_ne (pe_cal C_webtext.quiet (hr.mono (by decide)) (by rfl) (pa_cons pe_int (pa_cons (pe_lst (pa_cons (pe_tup (pa_cons pe_int (pa_cons pe_int pa_nil))) pa_nil)) pa_nil))) pe_str (nomark _))))).pt (pss_one (ps_ret pe_bl)) pss_nil) (pss_cons (ps_set (i := 6) sc_law.nd rfl (Or.inl rfl) (pe_cal C_webof.quiet (hr.mono (by decide)) (by rfl) (pa_cons (pv 3) pa_nil))) (pss_cons (ps_if (pw_or (pt_cmpR op_ne (pe_ix ix_tup (pv 6) pe_int (fun _ _ => rfl)) (pv 1) (nomark _)) (pw_or1 (pt_not (pt_val (pe_cal C_lisweb (hr.mono (by decide)) (by rfl) (pa_cons (pe_ix ix_tup (pv 6) pe_int (fun _ _ => rfl)) (pa_cons (pv 2) pa_nil))))))).pt (pss_one (ps_ret pe_bl)) pss_nil) (pss_one (ps_expr (pe_bm PySem.F.plainAttrs_list PySem.F.slot_list_append PySem.F.type_list_append md_append (pe_ix ix_tup (pv 6) pe_int (fun _ _ => rfl)) (pa_cons (pe_tup (pa_cons pe_int (pa_cons pe_int pa_nil))) pa_nil))))))))) (pss_cons (ps_for PassesOwn.never rfl (pi_enum (by rfl) b_enumerate (pa_cons (pe_op op_cat (pe_slice sl_list (pv 0) po_none (po_some pe_int)) (pe_lst (pa_cons pe_int pa_nil))) pa_nil)) (pg_tup rfl (pgs_cons (pg_name (i := 7) sc_law.nd rfl (Or.inl rfl)) (pgs_cons (pg_name (i := 8) sc_law.nd rfl (Or.inl rfl)) pgs_nil))) (pss_one (ps_if (pt_not (pt_val (pe_cal C_lgood (hr.mono (by decide)) (by rfl) (pa_cons (pe_cal C_lbent (hr.mono (by decide)) (by rfl) (pa_cons (pv 3) (pa_cons (pe_cal C_ldraw (hr.mono (by decide)) (by rfl) (pa_cons (pv 8) (pa_cons (pv 7) (pa_cons pe_int pa_nil)))) pa_nil))) pa_nil)))) (pss_one (ps_ret pe_bl)) pss_nil))) (pss_cons (ps_for PassesOwn.never rfl (pi_tup (pe_tup (pa_cons pe_int (pa_cons pe_int pa_nil)))) (pg_name (i := 9) sc_law.nd rfl (Or.inl rfl)) (pss_one (ps_if (pt_not (pt_val (pe_cal C_lgood (hr.mono (by decide)) (by rfl) (pa_cons (pe_op op_add_str (pe_op op_add_str (pe_callTy cl_strI (by rfl) b_str (by decide +kernel) (pa_cons (pe_callB (cl_max rfl) (by rfl) b_max (by decide +kernel) (pa_cons pe_int (pa_cons (pv 1) pa_nil))) pa_nil)) pe_str) (pe_op op_mulS pe_str (pv 9))) pa_nil)))) (pss_one (ps_ret pe_bl)) pss_nil))) (pss_cons (ps_set (i := 10) sc_law.nd rfl (Or.inl rfl) (pe_ix ix_list (pe_lst (pa_cons pe_non (pa_cons pe_int (pa_cons (pe_lst (pa_cons pe_str pa_nil)) (pa_cons pe_bl (pa_cons pe_dnewK (pa_cons (pe_tup (pa_cons pe_str pa_nil)) pa_nil))))))) (pe_op op_mod (pe_cal C_ldraw (hr.mono (by decide)) (by rfl) (pa_cons (pe_callB (cr_sum rfl) (by rfl) b_sum (by decide +kernel) (pa_cons (pe_slice sl_list (pv 0) po_none (po_some pe_int)) pa_nil)) (pa_cons pe_int (pa_cons pe_int pa_nil)))) pe_int) (fun _ _ => rfl))) (pss_one (ps_ret (pe_and (pe_cal C_lgood (hr.mono (by decide)) (by rfl) (pa_cons (pv 10) pa_nil)) (pe_and (pe_cal C_lgood (hr.mono (by decide)) (by rfl) (pa_cons pe_str pa_nil)) (pe_one (pe_cal C_lgood (hr.mono (by decide)) (by rfl) (pa_cons (pe_op op_add_str (pe_callTy cl_strI (by rfl) b_str (by decide +kernel) (pa_cons (pv 1) pa_nil)) pe_str) pa_nil))))))))))))))) rd
end
end Sw

set_option Elab.async false
set_option linter.all false
set_option maxRecDepth 100000
set_option maxHeartbeats 4000000
namespace Sw
open PySem PySem.Spec PyProof.Rows L2
local macro_rules | `(tactic| walk_at "ev") => `(tactic| simp only [tSeq, tAsg, tRet, tRetN, tOp, tUn, tVar, tC, tNil, tCons, tCB, tDrop, tNext, tCont, tBreak, tIfS, tIf, tTest, tChain, tB, tTup, tLst, tAnd, tOr, tNot, tAndV, tOrV, tNotV, tPart, tNoPart, tSl, tCal, tAug, ipI, rI0, rI, rU, rEq, rNe, kMin, kMax, gName, gCons, gNil, L2.start, wipe, List.map_cons, List.map_nil, List.length_cons, List.length_nil, List.cons_append, List.nil_append, List.append_nil, Nat.reduceAdd, Nat.reduceSub, List.replicate_succ, List.replicate_zero, List.getElem?_cons_zero, List.getElem?_cons_succ, List.set_cons_succ, List.set_cons_zero, Option.some.injEq, exists_eq_left', exists_eq_left, V.int.injEq, V.bl.injEq, V.str.injEq, V.ref.injEq, List.cons.injEq, exists_and_left, and_assoc, and_true, true_and, scal_ii, scal_ss, scal_nn, scal_bb, scal_ni, scal_in, decide_eq_true_eq, Bool.not_true, Bool.not_false, Bool.not_eq_true', decide_eq_false_iff_not, ite_not, reduceCtorEq, if_true, if_false, Bool.false_eq_true, ne_eq, not_true_eq_false, not_false_eq_true, Int.reduceLT, Int.reduceLE, Int.reduceNeg])
local macro_rules | `(tactic| walk_at "cm") => `(tactic| first | exact Or.inr ⟨by decide, by decide⟩ | exact Or.inl ⟨by decide, by decide⟩ | exact Or.inl ⟨by omega, by omega⟩ | exact Or.inr ⟨by omega, by omega⟩)
variable {K : PySem.W.Frag}

theorem rd_ldraw (vs : List V) (H : Hp) (Q : VK) (E : XK) (h : sp_ldraw K vs H Q E) : r_ldraw K { nx := fun _ H' => Q .non H', rt := Q } (L2.start N_ldraw vs) H := by
  obtain ⟨c, k, j, rfl, hk, hj, q⟩ := h
  unfold r_ldraw N_ldraw
  walk_at "ev"
  refine ⟨by walk_at "cm", by walk_at "cm", by walk_at "cm", by walk_at "cm", by walk_at "cm", by walk_at "cm", ⟨by decide, by decide⟩, ?_⟩
  refine q _ ?_ ?_ <;> omega
/-- a drawn pair of lines -/
theorem drawn_pair {m : Int} {n : Nat} (h2 : 2 ≤ n) : ∃ a b : Nat, m % (n : Int) = (a : Int) ∧ (m % (n : Int) + 1 + m / 10 % ((n : Int) - 1)) % (n : Int) = (b : Int) ∧ a < n ∧ b < n ∧ a ≠ b := by
  have p : (0 : Int) < n := by omega
  have p1 : (0 : Int) < (n : Int) - 1 := by omega
  have a0 := Int.emod_nonneg m (Int.ne_of_gt p)
  have a1 := Int.emod_lt_of_pos m p
  have r0 := Int.emod_nonneg (m / 10) (Int.ne_of_gt p1)
  have r1 := Int.emod_lt_of_pos (m / 10) p1
  generalize m % (n : Int) = a at a0 a1 ⊢
  generalize m / 10 % ((n : Int) - 1) = r at r0 r1 ⊢
  have b : (a + 1 + r) % (n : Int) = if a + 1 + r < n then a + 1 + r else a + 1 + r - n := by
    by_cases h : a + 1 + r < n
    · rw [if_pos h, Int.emod_eq_of_lt (by omega) h]
    · rw [if_neg h, ← Int.sub_emod_right, Int.emod_eq_of_lt (by omega) (by omega)]
  rw [b]
  refine ⟨a.toNat, (if a + 1 + r < n then a + 1 + r else a + 1 + r - n).toNat, by omega, by split <;> omega, by omega, by split <;> omega, by split <;> omega⟩
theorem rd_lcomparer (vs : List V) (H : Hp) (Q : VK) (E : XK) (h : sp_lcomparer K vs H Q E) : r_lcomparer K { nx := fun _ H' => Q .non H', rt := Q } (L2.start N_lcomparer vs) H := by
  obtain ⟨m, n, rfl, hm, h2, h10, q⟩ := h
  unfold r_lcomparer N_lcomparer
  obtain ⟨a, b, ea, eb, la, lb, ne⟩ := drawn_pair (m := m) h2
  walk_at "ev"
  refine ⟨by omega, ⟨by decide, by decide⟩, by omega, by omega, ⟨by decide, by decide⟩, ?_⟩
  rw [eb, ea]
  split
  · refine ⟨small_line (by decide), fun p hp => ?_⟩
    rcases Nat.lt_or_gt_of_ne ne with h | h
    · refine q _ p (a, b) (same_new hp) hp ?_ ⟨la, lb, ne⟩
      rw [upd_same, if_neg (by omega), if_pos (by omega)] <;> rfl
    · refine q _ p (b, a) (same_new hp) hp ?_ ⟨lb, la, ne.symm⟩
      rw [upd_same, if_pos (by omega), if_neg (by omega)] <;> rfl
  · exact ⟨small_line (by decide), fun p hp => q _ p (a, b) (same_new hp) hp upd_same ⟨la, lb, ne⟩⟩
theorem brick_count {n t : Nat} (hn : n ≤ 7) : upN (t : Int) ((n : Int) - 1) 2 ≤ 4 := by
  unfold upN
  split <;> omega
/-- the list so far: pairs, comparers of n lines, as many as cs -/
def Gcs (K : PySem.W.Frag) (n : Nat) (H0 : Hp) (k : Nat) (acc : List V) (H' : Hp) : Prop := ∃ ps cs, acc = Rfs ps ∧ Same H0 H' ∧ Prs K H' ps cs ∧ CmpsOk n cs ∧ cs.length = k
theorem Gcs.nil {n : Nat} {H0 : Hp} {D : Addr} (h : H0 D = none) : Gcs K n H0 0 [] (upd H0 D (.lst [])) := ⟨[], [], rfl, same_new h, .nil, (fun _ h => by cases h), rfl⟩
theorem Gcs.snoc {n k : Nat} {H0 H' H2 : Hp} {D p : Addr} {acc : List V} {c : Cmp} (g : Gcs K n H0 k acc H') (nD : H0 D = none) (s : Same H' H2) (hD : H2 D = some (.lst acc)) (hp : SqT K H2 p (V2 c)) (ok : CmpOk n c) :
    Gcs K n H0 (k + 1) (acc ++ [.ref p]) (upd H2 D (.lst (acc ++ [.ref p]))) := by
  obtain ⟨ps, cs, rfl, s0, h, oks, z⟩ := g
  refine ⟨ps ++ [p], cs ++ [c], ?_, same_mut (s0.trans s) nD, prs_upd hD ((Same.prs s h).snoc hp), ?_, ?_⟩
  · unfold Rfs
    rw [List.map_append] <;> rfl
  · intro d hd
    rcases List.mem_append.mp hd with h | h
    · exact oks d h
    · rw [List.mem_singleton] at h
      rw [h]
      exact ok
  · rw [List.length_append, z] <;> rfl
theorem Gcs.len {n k : Nat} {H0 H' : Hp} {acc : List V} (g : Gcs K n H0 k acc H') : acc.length = k := by
  obtain ⟨ps, cs, rfl, _, h, _, z⟩ := g
  show (ps.map V.ref).length = k
  rw [List.length_map, h.length, z]
def Wbricks (K : PySem.W.Frag) (n : Nat) (H : Hp) (i : Nat) (σ : L2.St) (H' : Hp) : Prop := ∃ y l ps cs, σ = [some (.int (n : Int)), some (.ref l), y, none] ∧ Same H H' ∧ H l = none ∧ H' l = some (.lst (Rfs ps)) ∧ Prs K H' ps cs ∧ CmpsOk n cs ∧ cs.length ≤ 4 * i
theorem rd_lbricks (vs : List V) (H : Hp) (Q : VK) (E : XK) (h : sp_lbricks K vs H Q E) : r_lbricks K { nx := fun _ H' => Q .non H', rt := Q } (L2.start N_lbricks vs) H := by
  obtain ⟨n, rfl, h7, q⟩ := h
  unfold r_lbricks N_lbricks
  walk_at "ev"
  refine ⟨Nat.zero_le _, fun l0 n0 => ?_⟩
  refine for_rng (n := n) (fun Q q => ?_) (by omega) (Wbricks K n H)
    ⟨none, l0, [], [], rfl, same_new n0, n0, upd_same, .nil, (fun _ h => by cases h), Nat.zero_le _⟩ (fun i σ H' hi hW => ?_) (fun σ H' hW => ?_)
  · walk_at "ev"
    exact q
  · obtain ⟨y, l, ps, cs, rfl, sm, nl, hl, hp, hc, hz⟩ := hW
    unfold r_lbricks_f1
    walk_at "ev"
    have e2 : (i : Int) % 2 = ((i % 2 : Nat) : Int) := by omega
    have hz' := brick_count (n := n) (t := i % 2) h7
    refine lc_rng3 (lo := ((i % 2 : Nat) : Int)) (hi := (n : Int) - 1) (c := 2) (n := upN ((i % 2 : Nat) : Int) ((n : Int) - 1) 2) (fun Q q => ?_) (upN_rgc (by omega) (by omega) (by omega)) (fun v => rfl)
      (fun D => Gcs K n H') (fun D nD => .nil nD) ?_ ?_
    · walk_at "ev"
      rw [e2]
      exact q
    · intro D k acc H3 nD hk hD g
      refine .yes ?_
      walk_at "ev"
      refine ⟨small_line (by decide), fun p np => ?_⟩
      have lt := upN_lt (by decide) hk
      have hDp : D ≠ p := ne_of_none hD np
      refine GoOn.mk (acc := acc) (by rw [upd_ne hDp]; exact hD) (by have := g.len; omega) ?_
      refine g.snoc (c := ((i % 2 + k * 2), (i % 2 + k * 2 + 1))) nD (same_new np) (by rw [upd_ne hDp]; exact hD) (.inl (.inl ?_)) ⟨by show i % 2 + k * 2 < n; omega, by show i % 2 + k * 2 + 1 < n; omega, by show i % 2 + k * 2 ≠ i % 2 + k * 2 + 1; omega⟩
      rw [upd_same] <;> rfl
    · intro D acc H3 nD hD g
      obtain ⟨ps', cs', rfl, s3, p3, c3, z3⟩ := g
      have hl3 := s3 _ _ hl
      have := p3.length
      have := hp.length
      refine ⟨l, D, Rfs ps, Rfs ps', rfl, rfl, hl3, hD, ?_, fun p np => ?_⟩
      · unfold Rfs
        rw [List.length_map, List.length_map]
        exact small_line (by omega)
      · have s4 := (same_new (o := .lst (Rfs ps ++ Rfs ps')) np)
        refine ⟨some (.int (i : Int)), p, ps ++ ps', cs ++ cs', rfl, (sm.trans s3).trans s4, (sm.trans s3).free np, ?_, (Same.prs s4 (Same.prs s3 hp)).append (Same.prs s4 p3), ?_, ?_⟩
        · rw [upd_same]
          unfold Rfs
          rw [List.map_append]
        · intro c hc'
          rcases List.mem_append.mp hc' with h | h
          · exact hc c h
          · exact c3 c h
        · rw [List.length_append]
          omega
  · obtain ⟨y, l, ps, cs, rfl, sm, nl, hl, hp, hc, hz⟩ := hW
    walk_at "ev"
    exact q H' l ps cs sm nl hl hp hc (by omega)

theorem lines_pick {n : Int} (h : 0 ≤ n) : ∃ L : Nat, 1 ≤ L ∧ L ≤ 7 ∧ atI [V.int (2 + n / 8 % 5), V.int (3 + n / 8 % 3), V.int (1 + n / 8 % 7), V.int 4] (n % 4) = some (.int (L : Int)) := by
  have c : n % 4 = ((0 : Nat) : Int) ∨ n % 4 = ((1 : Nat) : Int) ∨ n % 4 = ((2 : Nat) : Int) ∨ n % 4 = ((3 : Nat) : Int) := by omega
  rcases c with c | c | c | c <;> rw [c]
  · refine ⟨(2 + n / 8 % 5).toNat, by omega, by omega, ?_⟩
    rw [Int.toNat_of_nonneg (by omega)] <;> rfl
  · refine ⟨(3 + n / 8 % 3).toNat, by omega, by omega, ?_⟩
    rw [Int.toNat_of_nonneg (by omega)] <;> rfl
  · refine ⟨(1 + n / 8 % 7).toNat, by omega, by omega, ?_⟩
    rw [Int.toNat_of_nonneg (by omega)] <;> rfl
  · exact ⟨4, by decide, by decide, rfl⟩
def Wweb (K : PySem.W.Frag) (a c : Addr) (n : Int) (L : Nat) (H : Hp) (xs : List V) (i : Nat) (σ : L2.St) (H' : Hp) : Prop :=
  ∃ y4 y5 y7 y8 l ps cs, σ = [some (.ref a), some (.ref c), some (.int n), some (.int (L : Int)), y4, y5, some (.ref l), y7, y8] ∧ Same H H' ∧ H l = none ∧ H' l = some (.lst (Rfs ps)) ∧ Prs K H' ps cs ∧ WebOk L cs ∧ H' c = some (.lst xs) ∧ c ≠ l
theorem rd_lweb (vs : List V) (H : Hp) (Q : VK) (E : XK) (h : sp_lweb K vs H Q E) : r_lweb K { nx := fun _ H' => Q .non H', rt := Q } (L2.start N_lweb vs) H := by
  obtain ⟨a, ns, rfl, ha, hn, q⟩ := h
  unfold r_lweb N_lweb
  walk_at "ev"
  refine ⟨a, _, rfl, ha, fun c nc => ?_⟩
  have e40 : cutV (ns.map V.int) none (some 40) = (ns.take 40).map V.int := cut_ints_to ns 40
  rw [e40]
  have s1 : Same H (upd H c (.lst ((ns.take 40).map V.int))) := same_new nc
  walk_at "ev"
  refine ⟨c, _, rfl, .inl (.inl upd_same), fun d nd => ?_⟩
  have e3 : cutV ((ns.take 40).map V.int) none (some 3) = ((ns.take 40).take 3).map V.int := cut_ints_to _ 3
  rw [e3]
  have ncd : c ≠ d := ne_of_none upd_same nd
  have s2 := s1.trans (same_new (o := .lst (((ns.take 40).take 3).map V.int)) nd)
  generalize hH2 : upd (upd H c (.lst ((ns.take 40).map V.int))) d (.lst (((ns.take 40).take 3).map V.int)) = H2 at s2
  have hc2 : H2 c = some (.lst ((ns.take 40).map V.int)) := by rw [← hH2, upd_ne ncd, upd_same]
  have hd2 : H2 d = some (.lst (((ns.take 40).take 3).map V.int)) := by rw [← hH2, upd_same]
  clear hH2
  have hcl : ((ns.take 40).map V.int).length ≤ 40 := by rw [List.length_map, List.length_take]; omega
  refine ⟨d, (ns.take 40).take 3, rfl, .inl (.inl hd2), ?_⟩
  refine ⟨c, _, rfl, .inl (.inl (.inl hc2)), ?_⟩
  refine ⟨_, _, _, rfl, by omega, by decide, fun n n0 n1 => ?_⟩
  walk_at "ev"
  obtain ⟨L, L1, L7, eL⟩ := lines_pick n0
  refine ⟨⟨by decide, by decide⟩, ⟨by decide, by decide⟩, ⟨by decide, by decide⟩, small_line (by decide), fun e ne => ?_⟩
  refine ⟨e, _, _, _, rfl, rfl, .inl (.inl upd_same), eL, ?_⟩
  have s3 := s2.trans (same_new (o := .lst [V.int (2 + n / 8 % 5), V.int (3 + n / 8 % 3), V.int (1 + n / 8 % 7), V.int 4]) ne)
  have hce : c ≠ e := ne_of_none hc2 ne
  generalize hH3 : upd H2 e (.lst [V.int (2 + n / 8 % 5), V.int (3 + n / 8 % 3), V.int (1 + n / 8 % 7), V.int 4]) = H3 at s3
  have hc3 : H3 c = some (.lst ((ns.take 40).map V.int)) := by rw [← hH3, upd_ne hce, hc2]
  clear hH3
  walk_at "ev"
  split
  · -- one line
    rename_i e1
    refine ⟨Nat.zero_le _, fun l nl => ⟨small_line (by decide), fun p np => ?_⟩⟩
    have hlp : l ≠ p := ne_of_none upd_same np
    have s4 := s3.trans (same_new (o := .lst []) nl)
    refine q _ p l [] 1 [] (s4.trans (same_new np)) (s4.free np) (s3.free nl) (by rw [upd_same] <;> rfl) (by rw [upd_ne hlp, upd_same] <;> rfl) .nil ⟨Nat.zero_le _, fun _ h => by cases h⟩ (by decide) (by decide)
  · rename_i e1
    have L2' : 2 ≤ L := by omega
    refine ⟨⟨by decide, by decide⟩, ?_⟩
    split
    · -- each cell a comparer
      refine lc_enum2 (a := c) (xs := (ns.take 40).map V.int) rfl (.inl (.inl hc3)) (fun v w => rfl) (fun D i acc H' => Gcs K L H3 i acc H') (fun D nD => .nil nD) (fun D i acc H' nD g => ?_) ?_ ?_
      · obtain ⟨_, _, _, s, _⟩ := g
        exact .inl (.inl (s _ _ hc3))
      · intro D i x acc H4 H5 nD hx hi hD g s5
        obtain ⟨z, hz⟩ : ∃ z : Int, x = .int z := by
          rw [List.getElem?_map] at hx
          cases e : (ns.take 40)[i]? with
          | none => rw [e] at hx; cases hx
          | some z => rw [e] at hx; exact ⟨z, (Option.some.inj hx).symm⟩
        subst hz
        refine .yes ?_
        walk_at "ev"
        refine ⟨z, (i : Int), 2, rfl, by omega, by decide, fun m m0 m1 => ?_⟩
        refine ⟨m, L, rfl, m0, L2', by omega, fun H6 p cc s6 np hp ok => ?_⟩
        have hD5 := s5 _ _ hD
        have hD6 := s6 _ _ hD5
        exact GoOn.mk hD6 (by have := g.len; omega) (g.snoc nD (s5.trans s6) hD6 (.inl (.inl hp)) ok)
      · intro D acc H4 nD hD g
        obtain ⟨ps, cs, rfl, s4, hp, ok, z⟩ := g
        refine ⟨small_line (by decide), fun p np => ?_⟩
        have hDp : D ≠ p := ne_of_none hD np
        have s5 := same_new (o := .tup [.int (L : Int), .ref D]) np
        exact q _ p D ps L cs ((s3.trans s4).trans s5) ((s3.trans s4).free np) (s3.free nD) upd_same (s5 _ _ hD) (Same.prs s5 hp) ⟨by omega, ok⟩ L1 L7
    · -- bricks, changed
      refine ⟨L, rfl, L7, fun H4 l ps cs s4 nl hl hp ok hz => ?_⟩
      walk_at "ev"
      have cl0 : c ≠ l := ne_of_none hc3 nl
      refine for_enum2 (a := c) (xs := (ns.take 40).map V.int) rfl (.inl (.inl (s4 _ _ hc3))) (Wweb K a c n L H ((ns.take 40).map V.int))
        ⟨none, none, none, none, l, ps, cs, rfl, s3.trans s4, s3.free nl, hl, hp, ⟨by omega, ok⟩, s4 _ _ hc3, cl0⟩ (fun i σ H' hi hW => ?_) (fun i x σ H5 H6 hx hi hW s6 => ?_) (fun σ H' hW => ?_)
      · obtain ⟨_, _, _, _, _, _, _, _, _, _, _, _, _, hc, _⟩ := hW
        exact .inl (.inl hc)
      · obtain ⟨y4, y5, y7, y8, l, ps, cs, rfl, s, nl, hl, hp, ok, hc, ncl⟩ := hW
        obtain ⟨z, rfl, hz⟩ := ints_get hx
        have hl6 := s6 _ _ hl
        have hp6 := Same.prs s6 hp
        have nc6 := s6 _ _ hc
        have hlen := hp.length
        have lenok := ok.1
        unfold r_lweb_f1
        walk_at "ev"
        refine ⟨z, (i : Int), 3, rfl, by omega, by decide, fun m m0 m1 => ?_⟩
        walk_at "ev"
        refine ⟨⟨by decide, by decide⟩, l, _, rfl, .inl (.inl (.inl hl6)), ?_⟩
        walk_at "ev"
        rw [rfs_len]
        refine ⟨by omega, ?_⟩
        have p1 : (0 : Int) < (ps.length : Int) + 1 := by omega
        obtain ⟨at', ea, la⟩ : ∃ at' : Nat, m / 12 % ((ps.length : Int) + 1) = (at' : Int) ∧ at' ≤ ps.length := by
          have a0 := Int.emod_nonneg (m / 12) (Int.ne_of_gt p1)
          have a1 := Int.emod_lt_of_pos (m / 12) p1
          exact ⟨(m / 12 % ((ps.length : Int) + 1)).toNat, by omega, by omega⟩
        rw [ea]
        have fin : ∀ (H' : Hp) (ps' : List Addr) (cs' : List Cmp), (∀ b o, H6 b = some o → b ≠ l → H' b = some o) → H' l = some (.lst (Rfs ps')) → Prs K H' ps' cs' → WebOk L cs' →
            Wweb K a c n L H ((ns.take 40).map V.int) (i + 1) [some (.ref a), some (.ref c), some (.int n), some (.int (L : Int)), some (.int (i : Int)), some (.int z), some (.ref l), some (.int m), some (.int (at' : Int))] H' := fun H' ps' cs' st hl' hp' ok' =>
          ⟨_, _, _, _, l, ps', cs', rfl, fun b o e => st b o (s6 _ _ (s _ _ e)) (ne_of_none e nl), nl, hl', hp', ok', st _ _ nc6 ncl, ncl⟩
        have okc : ∀ {j : Nat} {cc : Cmp}, cs[j]? = some cc → CmpOk L cc := fun {j cc} e => ok.2 _ (List.mem_of_getElem? e)
        have third : ∀ D : Ends, D.nx = Wweb K a c n L H ((ns.take 40).map V.int) (i + 1) → r_lweb_e1 K D
            [some (.ref a), some (.ref c), some (.int n), some (.int (L : Int)), some (.int (i : Int)), some (.int z), some (.ref l), some (.int m), some (.int (at' : Int))] H6 := fun D eD => by
          unfold r_lweb_e1
          walk_at "ev"
          rw [eD]
          split
          · refine ⟨l, _, rfl, .inl (.inl (.inl hl6)), ?_⟩
            walk_at "ev"
            rw [rfs_len]
            split
            · rename_i q2
              obtain ⟨p, hpa⟩ := get_of (xs := ps) (i := at') (by omega)
              obtain ⟨cc, hcc, hpt⟩ := hp6.getL hpa
              refine ⟨.ref l, rfl, .int (at' : Int), rfl, l, _, _, _, rfl, rfl, .inl (.inl hl6), atI_nat (rfs_at hpa), p, _, _, rfl, hpt, fun r nr => ?_⟩
              have nlr : l ≠ r := ne_of_none hl6 nr
              have s7 := same_new (o := .tup [V.int (cc.2 : Int), V.int (cc.1 : Int)]) nr
              refine ⟨.ref l, rfl, .int (at' : Int), rfl, l, _, _, at', rfl, rfl, s7 _ _ hl6, Evl.ixN_nat (by rw [rfs_len]; omega), ?_⟩
              refine fin _ (ps.set at' r) (cs.set at' (cc.2, cc.1)) (fun b o e nb => by rw [upd_ne nb]; exact s7 _ _ e) ?_ ?_ ?_
              · rw [upd_same]
                unfold Rfs
                rw [List.map_set]
              · exact prs_upd (s7 _ _ hl6) ((Same.prs s7 hp6).set (.inl (.inl (by rw [upd_same] <;> rfl))) at')
              · refine ⟨by rw [List.length_set]; exact ok.1, fun d hd => ?_⟩
                rcases mem_set hd with h | h
                · exact ok.2 d h
                · have := okc hcc
                  rw [h]
                  exact ⟨this.2.1, this.1, this.2.2.symm⟩
            · exact fin H6 ps cs (fun b o e _ => e) hl6 hp6 ok
          · exact fin H6 ps cs (fun b o e _ => e) hl6 hp6 ok
        have second : ∀ D : Ends, D.nx = Wweb K a c n L H ((ns.take 40).map V.int) (i + 1) → r_lweb_e2 K D
            [some (.ref a), some (.ref c), some (.int n), some (.int (L : Int)), some (.int (i : Int)), some (.int z), some (.ref l), some (.int m), some (.int (at' : Int))] H6 := fun D eD => by
          unfold r_lweb_e2
          walk_at "ev"
          split
          · refine ⟨l, _, rfl, .inl (.inl (.inl hl6)), ?_⟩
            walk_at "ev"
            rw [rfs_len]
            split
            · rename_i q2
              refine ⟨.ref l, rfl, .inl ⟨rfl, _, .inl (.inl hl6)⟩, ?_⟩
              walk_at "ev"
              refine ⟨⟨by decide, by decide⟩, m / 1000, L, rfl, by omega, L2', by omega, fun H7 p cc s7 np hpt okp => ?_⟩
              rw [eD]
              refine ⟨l, Rfs ps, (at' : Int), .ref p, rfl, rfl, s7 _ _ hl6, by rw [rfs_len]; exact small_lt (by omega), by omega, by omega, ?_⟩
              refine fin _ (ps.take at' ++ [p] ++ ps.drop at') (cs.take at' ++ [cc] ++ cs.drop at') (fun b o e nb => by rw [upd_ne nb]; exact s7 _ _ e) ?_ ?_ ?_
              · rw [upd_same, Int.toNat_natCast]
                unfold Rfs
                rw [List.map_append, List.map_append, List.map_take, List.map_drop] <;> rfl
              · have h7 := Same.prs s7 hp6
                exact prs_upd (s7 _ _ hl6) (((h7.take at').snoc (.inl (.inl hpt))).append (h7.drop at'))
              · refine ⟨?_, fun d hd => ?_⟩
                · rw [List.length_append, List.length_append, List.length_take, List.length_drop]
                  show min at' cs.length + 1 + (cs.length - at') ≤ 60
                  omega
                · rcases List.mem_append.mp hd with h | h
                  · rcases List.mem_append.mp h with h | h
                    · exact ok.2 d (List.mem_of_mem_take h)
                    · rw [List.mem_singleton.mp h]
                      exact okp
                  · exact ok.2 d (List.mem_of_mem_drop h)
            · exact third D eD
          · exact third D eD
        split
        · refine ⟨l, _, rfl, .inl (.inl (.inl hl6)), ?_⟩
          walk_at "ev"
          rw [rfs_len]
          split
          · rename_i q2
            obtain ⟨p, hpa⟩ := get_of (xs := ps) (i := at') (by omega)
            refine ⟨.ref l, rfl, .inl ⟨rfl, _, .inl (.inl hl6)⟩, .int (at' : Int), rfl, l, _, _, at', _, rfl, rfl, hl6, by omega, by omega, seqIndex_nat (by rw [rfs_len]; omega), rfs_at hpa, ?_⟩
            refine fin _ (ps.eraseIdx at') (cs.eraseIdx at') (fun b o e nb => by rw [upd_ne nb]; exact e) ?_ (prs_upd hl6 (hp6.erase at')) ⟨?_, fun d hd => ok.2 d (List.mem_of_mem_eraseIdx hd)⟩
            · rw [upd_same, rfs_erase]
            · have := List.length_eraseIdx_le cs at'
              have := ok.1
              omega
          · exact second _ rfl
        · exact second _ rfl
      · obtain ⟨y4, y5, y7, y8, l, ps, cs, rfl, s, nl, hl, hp, ok, hc, ncl⟩ := hW
        walk_at "ev"
        refine ⟨small_line (by decide), fun p np => ?_⟩
        have s5 := same_new (o := .tup [.int (L : Int), .ref l]) np
        exact q _ p l ps L cs (s.trans s5) (s.free np) nl upd_same (s5 _ _ hl) (Same.prs s5 hp) ok L1 L7
end Sw

set_option Elab.async false
set_option linter.all false
set_option maxRecDepth 100000
set_option maxHeartbeats 4000000
namespace Sw
open PySem PySem.Spec PyProof.Rows L2
local macro_rules | `(tactic| walk_at "ev") => `(tactic| simp only [tSeq, tCalW, quiet, tRzA, tRzO, tTryT, tTryK, tJoin, tJs, tBM, kStrI, kIntS, kLenS, mSplit, mPart, mIndex, tAsg, tRet, tRetN, tOp, tUn, tVar, tC, tNil, tCons, tCB, tDrop, tNext, tCont, tBreak, tIfS, tIf, tTest, tChain, tB, tTup, tLst, tAnd, tOr, tNot, tAndV, tOrV, tNotV, tPart, tNoPart, tSl, tCal, tAug, ipI, rI0, rI, rU, rEq, rNe, kMin, kMax, gName, gCons, gNil, L2.start, wipe, List.map_cons, List.map_nil, List.length_cons, List.length_nil, List.cons_append, List.nil_append, List.append_nil, Nat.reduceAdd, Nat.reduceSub, List.replicate_succ, List.replicate_zero, List.getElem?_cons_zero, List.getElem?_cons_succ, List.set_cons_succ, List.set_cons_zero, Option.some.injEq, exists_eq_left', exists_eq_left, V.int.injEq, V.bl.injEq, V.str.injEq, V.ref.injEq, List.cons.injEq, exists_and_left, and_assoc, and_true, true_and, scal_ii, scal_ss, scal_nn, scal_bb, scal_ni, scal_in, decide_eq_true_eq, Bool.not_true, Bool.not_false, Bool.not_eq_true', decide_eq_false_iff_not, ite_not, reduceCtorEq, if_true, if_false, Bool.false_eq_true, ne_eq, not_true_eq_false, not_false_eq_true, Int.reduceLT, Int.reduceLE, Int.reduceNeg])
local macro_rules | `(tactic| walk_at "cm") => `(tactic| first | exact Or.inr ⟨by decide, by decide⟩ | exact Or.inl ⟨by decide, by decide⟩ | exact Or.inl ⟨by omega, by omega⟩ | exact Or.inr ⟨by omega, by omega⟩)
variable {K : PySem.W.Frag}
theorem rd_iswhole (vs : List V) (H : Hp) (Q : VK) (E : XK) (h : sp_iswhole K vs H Q E) : r_iswhole K { nx := fun _ H' => Q .non H', rt := Q } (L2.start N_iswhole vs) H := by
  obtain ⟨v, T, rfl, ht, q⟩ := h
  unfold r_iswhole N_iswhole
  walk_at "ev"
  exact ⟨v, T, rfl, ht, _, _, rfl, rfl, q⟩
theorem rd_isline (vs : List V) (H : Hp) (Q : VK) (E : XK) (h : sp_isline K vs H Q E) : r_isline K { nx := fun _ H' => Q .non H', rt := Q } (L2.start N_isline vs) H := by
  obtain ⟨n, v, T, rfl, ht, q⟩ := h
  unfold r_isline N_isline
  walk_at "ev"
  refine ⟨v, T, rfl, ht, ?_⟩
  rcases tyb_int ht with ⟨rfl, i, rfl⟩ | ⟨ne, nv⟩
  · rw [decide_eq_true rfl]
    refine ⟨true, rfl, ?_⟩
    walk_at "ev"
    have e : lnV n (.int i) = decide (0 ≤ i ∧ i < (n : Int)) := rfl
    rw [e] at q
    split
    · rename_i h
      have e2 : decide (0 ≤ i ∧ i < (n : Int)) = decide (i < (n : Int)) := decide_eq_decide.mpr ⟨fun z => z.2, fun z => ⟨h, z⟩⟩
      rw [← e2]
      exact q
    · rename_i h
      rw [decide_eq_false fun z => h z.1] at q
      exact q
  · rw [decide_eq_false ne]
    refine ⟨false, rfl, ?_⟩
    have e : lnV n v = false := by
      cases v with
      | int i => exact absurd rfl (nv i)
      | _ => rfl
    rw [e] at q
    exact q
theorem tw_ne {n : Nat} {x y : V} (h : ∀ i, x ≠ .int i) : twV n x y = false := by
  cases x with
  | int i => exact absurd rfl (h i)
  | _ => rfl
theorem tw_ne2 {n : Nat} {x y : V} (h : ∀ i, y ≠ .int i) : twV n x y = false := by
  cases y with
  | int i => exact absurd rfl (h i)
  | _ => cases x <;> rfl
theorem ln_ne {n : Nat} {x : V} (h : ∀ i, x ≠ .int i) : lnV n x = false := by
  cases x with
  | int i => exact absurd rfl (h i)
  | _ => rfl
theorem rd_iscomparer (vs : List V) (H : Hp) (Q : VK) (E : XK) (h : sp_iscomparer K vs H Q E) : r_iscomparer K { nx := fun _ H' => Q .non H', rt := Q } (L2.start N_iscomparer vs) H := by
  obtain ⟨n, v, b, rfl, hv, q⟩ := h
  unfold r_iscomparer N_iscomparer
  walk_at "ev"
  cases hv with
  | @other _ T ht ne =>
    refine ⟨v, T, rfl, ht, _, _, rfl, rfl, ?_⟩
    walk_at "ev"
    rw [if_neg ne]
    exact q
  | @long p xs hp ne =>
    refine ⟨.ref p, "tuple", rfl, .tup hp, _, _, rfl, rfl, ?_⟩
    walk_at "ev"
    refine ⟨p, _, rfl, .inr hp, ?_⟩
    walk_at "ev"
    rw [if_neg (by omega)]
    exact q
  | @two p x y Tx Ty hp hx hy =>
    refine ⟨.ref p, "tuple", rfl, .tup hp, _, _, rfl, rfl, ?_⟩
    walk_at "ev"
    refine ⟨p, _, rfl, .inr hp, ?_⟩
    walk_at "ev"
    refine g2_run hp ?_
    walk_at "ev"
    refine ⟨n, x, Tx, rfl, hx, lnV n x, rfl, ?_⟩
    rcases tyb_int hx with ⟨_, i, rfl⟩ | ⟨_, nx⟩
    · cases e1 : lnV n (.int i) with
      | false =>
        have : twV n (.int i) y = false := by
          cases y with
          | int j =>
            show (decide _ && (decide _ && decide _)) = false
            rw [show decide (0 ≤ i ∧ i < (n : Int)) = false from e1] <;> rfl
          | _ => rfl
        rw [this] at q
        exact q
      | true =>
        walk_at "ev"
        refine ⟨n, y, Ty, rfl, hy, lnV n y, rfl, ?_⟩
        rcases tyb_int hy with ⟨_, j, rfl⟩ | ⟨_, ny⟩
        · have e3 : twV n (.int i) (.int j) = (lnV n (.int i) && (lnV n (.int j) && decide (¬ i = j))) := rfl
          rw [e3, e1, Bool.true_and] at q
          cases e2 : lnV n (.int j) with
          | false =>
            rw [e2] at q
            exact q
          | true =>
            rw [e2, Bool.true_and] at q
            walk_at "ev"
            first
              | exact q
              | (rw [decide_not] at q; exact q)
        · rw [ln_ne ny]
          rw [tw_ne2 ny] at q
          exact q
    · rw [ln_ne nx]
      rw [tw_ne nx] at q
      exact q
theorem rd_needlines (vs : List V) (H : Hp) (Q : VK) (E : XK) (h : sp_needlines K vs H Q E) : r_needlines K E { nx := fun _ H' => Q .non H', rt := Q } (L2.start N_needlines vs) H := by
  obtain ⟨v, T, rfl, ht, q1, q2⟩ := h
  unfold r_needlines N_needlines
  walk_at "ev"
  refine ⟨v, T, rfl, ht, ?_⟩
  rcases tyb_int ht with ⟨rfl, i, rfl⟩ | ⟨ne, nv⟩
  · have e : noV (.int i) = decide (1 ≤ i ∧ i ≤ 10) := rfl
    refine ⟨true, by rw [decide_eq_true rfl], ?_⟩
    walk_at "ev"
    split
    · rename_i h
      split
      · rename_i h2
        exact q1 (by rw [e]; exact decide_eq_true ⟨h, h2⟩)
      · rename_i h2
        refine ⟨small_line (by decide +kernel), .inr ⟨10, rfl, by decide, _, rfl, small_line (by decide +kernel), small_line (by decide), q2 ?_⟩⟩
        rw [e]
        exact decide_eq_false fun z => h2 z.2
    · rename_i h
      refine ⟨small_line (by decide +kernel), .inr ⟨10, rfl, by decide, _, rfl, small_line (by decide +kernel), small_line (by decide), q2 ?_⟩⟩
      rw [e]
      exact decide_eq_false fun z => h z.1
  · refine ⟨false, by rw [decide_eq_false ne], ?_⟩
    walk_at "ev"
    refine ⟨small_line (by decide +kernel), .inr ⟨10, rfl, by decide, _, rfl, small_line (by decide +kernel), small_line (by decide), q2 ?_⟩⟩
    cases v with
    | int i => exact absurd rfl (nv i)
    | _ => rfl
theorem own_web {H H' : Hp} {E : XK} {o : Option Nat} {σ : L2.St} (q : Refu K H E (.web o)) (s : Same H H') (ho : ∀ k, o = some k → k ≤ 1000) : OwnWish K "BadWeb" "place" (fun cls d _ H => E cls d H) σ (onV o) H' := by
  refine OwnWish.mk ?_ fun d nd => q H' d s nd
  cases o with
  | none => exact .inl rfl
  | some k => exact .inr ⟨(k : Int), rfl, by omega, by have := ho k rfl; omega⟩
def Wneedweb (n : Nat) (a : Addr) (H : Hp) (σ : L2.St) (H' : Hp) : Prop := ∃ y z, σ = [some (.int (n : Int)), some (.ref a), y, z] ∧ Same H H'
theorem rd_needweb (vs : List V) (H : Hp) (Q : VK) (E : XK) (h : sp_needweb K vs H Q E) : r_needweb K E { nx := fun _ H' => Q .non H', rt := Q } (L2.start N_needweb vs) H := by
  obtain ⟨lv, cv, d, rfl, hv, q1, q2⟩ := h
  unfold r_needweb N_needweb
  walk_at "ev"
  cases hv with
  | @lines lv cv T ht bad =>
    refine ⟨lv, T, rfl, ht, (fun z => by rw [bad] at z; cases z), fun _ => ?_⟩
    exact q2 (fun z => nomatch z) H (.refl H)
  | @kind n cv T hn ht ne =>
    refine ⟨_, "int", rfl, .int _, (fun _ => ?_), fun z => by rw [hn] at z; cases z⟩
    refine ⟨cv, T, rfl, ht, _, _, rfl, rfl, ?_⟩
    walk_at "ev"
    rw [if_neg ne]
    exact own_web (q2 fun z => nomatch z) (.refl H) fun k z => nomatch z
  | @many n a xs hn ha hl =>
    refine ⟨_, "int", rfl, .int _, (fun _ => ?_), fun z => by rw [hn] at z; cases z⟩
    refine ⟨.ref a, "list", rfl, .lst ha, _, _, rfl, rfl, ?_⟩
    walk_at "ev"
    refine ⟨a, _, rfl, .inl ha, ?_⟩
    walk_at "ev"
    rw [if_pos (by omega)]
    exact own_web (q2 fun z => nomatch z) (.refl H) fun k z => nomatch z
  | @item n k a xs y hn ha hl ok hy bad =>
    refine ⟨_, "int", rfl, .int _, (fun _ => ?_), fun z => by rw [hn] at z; cases z⟩
    refine ⟨.ref a, "list", rfl, .lst ha, _, _, rfl, rfl, ?_⟩
    walk_at "ev"
    refine ⟨a, _, rfl, .inl ha, ?_⟩
    walk_at "ev"
    rw [if_neg (by omega)]
    have kl : k < xs.length := (List.getElem?_eq_some_iff.mp hy).1
    refine for_enum2 (a := a) (xs := xs) rfl ha (fun i σ H' => i ≤ k ∧ Wneedweb n a H σ H') ⟨Nat.zero_le _, none, none, rfl, .refl H⟩ (fun i σ H' _ hW => ?_) (fun i x σ H1 H2 hx hi hW s2 => ?_) (fun σ H' hW => ?_)
    · obtain ⟨_, _, _, _, s⟩ := hW
      exact s.seq ha
    · obtain ⟨hk, y1, z1, rfl, s⟩ := hW
      have s12 := s.trans s2
      unfold r_needweb_f1
      walk_at "ev"
      by_cases e : i = k
      · subst e
        rw [hy] at hx
        cases hx
        refine ⟨n, y, false, rfl, it_same s12 bad, false, rfl, ?_⟩
        exact own_web (σ := []) (q2 fun z => nomatch z) s12 fun k z => by cases z; omega
      · obtain ⟨x', hx', okx⟩ := ok i (by omega)
        rw [hx'] at hx
        cases hx
        refine ⟨n, x, true, rfl, it_same s12 okx, true, rfl, ?_⟩
        exact ⟨by omega, _, _, rfl, s12⟩
    · obtain ⟨hk, _⟩ := hW
      omega
  | @good n a xs hn ha hl ok =>
    refine ⟨_, "int", rfl, .int _, (fun _ => ?_), fun z => by rw [hn] at z; cases z⟩
    refine ⟨.ref a, "list", rfl, .lst ha, _, _, rfl, rfl, ?_⟩
    walk_at "ev"
    refine ⟨a, _, rfl, .inl ha, ?_⟩
    walk_at "ev"
    rw [if_neg (by omega)]
    refine for_enum2 (a := a) (xs := xs) rfl ha (fun i σ H' => Wneedweb n a H σ H') ⟨none, none, rfl, .refl H⟩ (fun i σ H' _ hW => ?_) (fun i x σ H1 H2 hx hi hW s2 => ?_) (fun σ H' hW => ?_)
    · obtain ⟨_, _, _, s⟩ := hW
      exact s.seq ha
    · obtain ⟨y1, z1, rfl, s⟩ := hW
      have s12 := s.trans s2
      unfold r_needweb_f1
      walk_at "ev"
      refine ⟨n, x, true, rfl, it_same s12 (ok i x hx), true, rfl, ?_⟩
      exact ⟨_, _, rfl, s12⟩
    · obtain ⟨y1, z1, rfl, s⟩ := hW
      exact q1 rfl H' s
end Sw

set_option Elab.async false
set_option linter.all false
set_option maxRecDepth 100000
set_option maxHeartbeats 4000000
namespace Sw
open PySem PySem.Spec PyProof.Rows L2
local macro_rules | `(tactic| walk_at "ev") => `(tactic| simp only [tSeq, tCalW, quiet, tRzA, tRzO, tTryT, tTryK, tJoin, tJs, tBM, kStrI, kIntS, kLenS, mSplit, mPart, mIndex, tAsg, tRet, tRetN, tOp, tUn, tVar, tC, tNil, tCons, tCB, tDrop, tNext, tCont, tBreak, tIfS, tIf, tTest, tChain, tB, tTup, tLst, tAnd, tOr, tNot, tAndV, tOrV, tNotV, tPart, tNoPart, tSl, tCal, tAug, ipI, rI0, rI, rU, rEq, rNe, kMin, kMax, gName, gCons, gNil, L2.start, wipe, List.map_cons, List.map_nil, List.length_cons, List.length_nil, List.cons_append, List.nil_append, List.append_nil, Nat.reduceAdd, Nat.reduceSub, List.replicate_succ, List.replicate_zero, List.getElem?_cons_zero, List.getElem?_cons_succ, List.set_cons_succ, List.set_cons_zero, Option.some.injEq, exists_eq_left', exists_eq_left, V.int.injEq, V.bl.injEq, V.str.injEq, V.ref.injEq, List.cons.injEq, exists_and_left, and_assoc, and_true, true_and, scal_ii, scal_ss, scal_nn, scal_bb, scal_ni, scal_in, decide_eq_true_eq, Bool.not_true, Bool.not_false, Bool.not_eq_true', decide_eq_false_iff_not, ite_not, reduceCtorEq, if_true, if_false, Bool.false_eq_true, ne_eq, not_true_eq_false, not_false_eq_true, Int.reduceLT, Int.reduceLE, Int.reduceNeg])
local macro_rules | `(tactic| walk_at "cm") => `(tactic| first | exact Or.inr ⟨by decide, by decide⟩ | exact Or.inl ⟨by decide, by decide⟩ | exact Or.inl ⟨by omega, by omega⟩ | exact Or.inr ⟨by omega, by omega⟩)
variable {K : PySem.W.Frag}
def cmpU (cs : List Cmp) (i : Nat) : V × V := match cs[i]? with
  | some c => (.int (c.1 : Int), .int (c.2 : Int))
  | none => (.non, .non)
theorem web_good {H : Hp} {a : Addr} {n : Nat} {cs : List Cmp} (h : WebAt K H a n cs) : WebV K H (.int (n : Int)) (.ref a) .good := by
  obtain ⟨ps, ha, hp, ok, n1, n10⟩ := h
  have hl := hp.length
  have h60 := ok.1
  refine .good (decide_eq_true (by omega)) ha (by rw [rfs_len]; omega) fun i x hx => ?_
  obtain ⟨p, rfl, gp⟩ := rfs_get hx
  obtain ⟨c, gc, hc⟩ := hp.getL gp
  exact it_cmp hc (ok.2 c (List.mem_of_getElem? gc))
theorem refu_same {H H' : Hp} {E : XK} (s : Same H H') : ∀ {d : Verd}, Refu K H E d → Refu K H' E d
  | .good, h => h
  | .lines, h => fun H2 s2 => h H2 (s.trans s2)
  | .web _, h => fun H2 d s2 nd => h H2 d (s.trans s2) nd
theorem rd_webtext (vs : List V) (H : Hp) (Q : VK) (E : XK) (h : sp_webtext K vs H Q E) : r_webtext K E { nx := fun _ H' => Q .non H', rt := Q } (L2.start N_webtext vs) H := by
  obtain ⟨lv, cv, d, rfl, hv, q1, q2⟩ := h
  unfold r_webtext N_webtext
  walk_at "ev"
  refine ⟨lv, cv, d, rfl, hv, (fun e => ?_), q2⟩
  subst e
  obtain ⟨n, a, cs, rfl, rfl, ⟨ps, ha, hp, ok, n1, n10⟩, q⟩ := q1 rfl
  intro H1 s1
  have hl := hp.length
  have h60 := ok.1
  refine lc_pairs (a := a) (ps := ps) (cmpU cs) rfl (s1.seq ha) (fun v w => rfl) (fun D i acc H' => Same H H' ∧ acc = ((cs.take i).map wordT).map V.str) (fun D nD => ⟨s1.trans (same_new nD), rfl⟩) (fun D i acc H' nD g => g.1.seq ha) ?_ ?_ ?_
  · intro D i p acc H' nD gp hD g
    obtain ⟨c, gc, hc⟩ := hp.getL gp
    unfold cmpU
    rw [gc]
    exact Same.sqt g.1 hc
  · intro D i acc H' nD hi hD g
    obtain ⟨s, rfl⟩ := g
    obtain ⟨c, gc⟩ := get_of (xs := cs) (i := i) (by omega)
    obtain ⟨c1, c2, _⟩ := ok.2 c (List.mem_of_getElem? gc)
    refine .yes ?_
    unfold cmpU
    rw [gc]
    walk_at "ev"
    have l1 := sg_num (a := c.1) (by omega)
    have l2 := sg_num (a := c.2) (by omega)
    have b1 : (Str.empty ++ (" " : Str)).length ≤ 1 := by decide +kernel
    have b2 : ((" " : Str)).length ≤ 1 := by decide +kernel
    have b3 : (("-" : Str)).length ≤ 1 := by decide +kernel
    have m1 := app_len (Str.empty ++ " ") (Str.ofString (toString (c.1 : Int)))
    have m2 := app_len (Str.empty ++ " " ++ Str.ofString (toString (c.1 : Int))) "-"
    have m3 := app_len (Str.empty ++ " " ++ Str.ofString (toString (c.1 : Int)) ++ "-") (Str.ofString (toString (c.2 : Int)))
    refine ⟨small_line (by omega), _, rfl, .inr ⟨(c.1 : Int), rfl, log_small (by omega), _, rfl, small_line (by omega), small_line (by omega), _, rfl, .inr ⟨(c.2 : Int), rfl, log_small (by omega), _, rfl, small_line (by omega), ?_⟩⟩⟩
    rw [word_eq (show c.1 ≤ 10 by omega) (show c.2 ≤ 10 by omega) " " "-" (by decide +kernel) (by decide +kernel)]
    refine GoOn.mk hD (by simp; omega) ⟨same_mut s (s1.free nD), ?_⟩
    rw [List.take_add_one, gc]
    simp
  · intro D acc H' nD hD g
    obtain ⟨s, rfl⟩ := g
    have e : cs.take ps.length = cs := by rw [hl, List.take_length]
    rw [e] at hD
    have l1 := sg_num (a := n) n10
    have b3 : ((":" : Str)).length ≤ 1 := by decide +kernel
    have m1 := app_len Str.empty (Str.ofString (toString (n : Int)))
    have m2 := app_len (Str.empty ++ Str.ofString (toString (n : Int))) ":"
    have m0 : Str.empty.length = 0 := by decide +kernel
    refine ⟨_, rfl, .inr ⟨(n : Int), rfl, log_small (by omega), _, rfl, small_line (by omega), small_line (by omega), ?_⟩⟩
    refine ⟨rfl, "", D, cs.map wordT, rfl, rfl, .inl (.inl (.inl hD)), ?_, ?_⟩
    · have := lens_words cs
      have e0 : ((cs.map wordT).length) * ("" : Str).length = 0 := by
        rw [show ("" : Str).length = 0 by decide +kernel, Nat.mul_zero]
      rw [e0]
      omega
    · have sj : sg (Txt.join "" (cs.map wordT)) = tailT cs := join_words cs
      have lj : (Txt.join "" (cs.map wordT)).length ≤ 360 := by
        rw [sg_len, sj]
        have := tail_len cs
        omega
      refine ⟨_, _, rfl, rfl, small_line (by omega), ?_⟩
      have e2 : Str.empty ++ Str.ofString (toString (n : Int)) ++ ":" ++ Txt.join "" (cs.map wordT) = webTx n cs := by
        refine eq_tx ?_
        rw [sg_app, sg_app, sg_app, sj, num_str n n10, sg_nil, show sg (":" : Str) = [58] by decide +kernel]
        show [] ++ numT n ++ [58] ++ tailT cs = numT n ++ 58 :: tailT cs
        simp
      rw [e2]
      exact q H' s
theorem rd_number (vs : List V) (H : Hp) (Q : VK) (E : XK) (h : sp_number K vs H Q E) : r_number K { nx := fun _ H' => Q .non H', rt := Q } (L2.start N_number vs) H := by
  obtain ⟨w, rfl, q⟩ := h
  unfold r_number N_number
  walk_at "ev"
  refine for_rng (n := 11) (fun Q q => ⟨10, 1, rfl, rfl, q⟩) (by omega) (fun i σ H' => H' = H ∧ (∃ y, σ = [some (.str w), y]) ∧ ∀ k < i, sg w ≠ numT k) ⟨rfl, ⟨none, rfl⟩, fun k hk => absurd hk (Nat.not_lt_zero k)⟩ (fun i σ H' hi hW => ?_) (fun σ H' hW => ?_)
  · obtain ⟨rfl, ⟨y, rfl⟩, no⟩ := hW
    unfold r_number_f1
    walk_at "ev"
    refine ⟨log_small (by omega), ?_⟩
    have e : sg (Str.ofString (toString (i : Int))) = numT i := num_str i (by omega)
    split
    · rename_i h
      rw [h, readN_of (show i ≤ 10 by omega) e] at q
      exact q
    · rename_i h
      refine ⟨⟨_, rfl⟩, fun k hk => ?_⟩
      by_cases z : k = i
      · subst z
        rw [← e]
        exact fun z => h (sg_inj z)
      · exact no k (by omega)
  · obtain ⟨rfl, ⟨y, rfl⟩, no⟩ := hW
    walk_at "ev"
    have : readN (sg w) = none := by
      cases e : readN (sg w) with
      | none => rfl
      | some k =>
        obtain ⟨h1, h2⟩ := readN_some e
        exact absurd h2 (no k (by omega))
    rw [this] at q
    exact q
theorem rd_pair (vs : List V) (H : Hp) (Q : VK) (E : XK) (h : sp_pair K vs H Q E) : r_pair K { nx := fun _ H' => Q .non H', rt := Q } (L2.start N_pair vs) H := by
  obtain ⟨w, rfl, hw, q⟩ := h
  unfold r_pair N_pair
  walk_at "ev"
  refine ⟨rfl, by decide +kernel, small_line (by omega), fun T nT => ?_⟩
  refine ⟨T, _, rfl, .inl (.inl upd_same), rfl, ?_⟩
  obtain ⟨e1, _, e3⟩ := partition_sign w 45
  have em : (⟨#[45]⟩ : Str) = "-" := by decide +kernel
  rw [em] at e1 e3
  walk_at "ev"
  refine ⟨_, rfl, _, rfl, ?_⟩
  rw [e1, e3]
  refine ⟨small_line (by decide), fun p np => ?_⟩
  have s0 := same_new (o := .tup [V.str (Txt.partition w "-").1, .str (Txt.partition w "-").2.1, .str (Txt.partition w "-").2.2]) nT
  exact q _ p (s0.trans (same_new np)) (s0.free np) upd_same
end Sw

set_option Elab.async false
set_option linter.all false
set_option maxRecDepth 100000
set_option maxHeartbeats 4000000
namespace Sw
open PySem PySem.Spec PyProof.Rows L2
local macro_rules | `(tactic| walk_at "ev") => `(tactic| simp only [tSeq, tCalW, quiet, tRzA, tRzO, tTryT, tTryK, tJoin, tJs, tBM, kStrI, kIntS, kLenS, mSplit, mPart, mIndex, tAsg, tRet, tRetN, tOp, tUn, tVar, tC, tNil, tCons, tCB, tDrop, tNext, tCont, tBreak, tIfS, tIf, tTest, tChain, tB, tTup, tLst, tAnd, tOr, tNot, tAndV, tOrV, tNotV, tPart, tNoPart, tSl, tCal, tAug, ipI, rI0, rI, rU, rEq, rNe, kMin, kMax, gName, gCons, gNil, L2.start, wipe, List.map_cons, List.map_nil, List.length_cons, List.length_nil, List.cons_append, List.nil_append, List.append_nil, Nat.reduceAdd, Nat.reduceSub, List.replicate_succ, List.replicate_zero, List.getElem?_cons_zero, List.getElem?_cons_succ, List.set_cons_succ, List.set_cons_zero, Option.some.injEq, exists_eq_left', exists_eq_left, V.int.injEq, V.bl.injEq, V.str.injEq, V.ref.injEq, List.cons.injEq, exists_and_left, and_assoc, and_true, true_and, scal_ii, scal_ss, scal_nn, scal_bb, scal_ni, scal_in, decide_eq_true_eq, Bool.not_true, Bool.not_false, Bool.not_eq_true', decide_eq_false_iff_not, ite_not, reduceCtorEq, if_true, if_false, Bool.false_eq_true, ne_eq, not_true_eq_false, not_false_eq_true, Int.reduceLT, Int.reduceLE, Int.reduceNeg])
local macro_rules | `(tactic| walk_at "cm") => `(tactic| first | exact Or.inr ⟨by decide, by decide⟩ | exact Or.inl ⟨by decide, by decide⟩ | exact Or.inl ⟨by omega, by omega⟩ | exact Or.inr ⟨by omega, by omega⟩)
variable {K : PySem.W.Frag}
def pairV (w : List Nat) : List V := [onV (readN (part1 45 w).1), onV (readN (part1 45 w).2.2)]
theorem pair_v2 {n : Nat} {w : List Nat} {c : Cmp} (h : readC n w = some c) : pairV w = V2 c ∧ CmpOk n c := by
  unfold readC pairOk at h
  unfold pairV
  split at h
  · rename_i a b h1 h2
    split at h
    · rename_i h3
      cases h
      rw [h1, h2]
      exact ⟨rfl, h3⟩
    · cases h
  · cases h
theorem on_tyb {H : Hp} (o : Option Nat) : ∃ T, TyB K H (onV o) T := by
  cases o with
  | none => exact ⟨_, .non⟩
  | some k => exact ⟨_, .int _⟩
theorem tw_pair (n : Nat) (a b : Option Nat) : twV n (onV a) (onV b) = (pairOk n a b).isSome := by
  cases a with
  | none => rfl
  | some a =>
    cases b with
    | none => rfl
    | some b =>
      show (decide _ && (decide _ && decide _)) = (if _ then _ else _ : Option Cmp).isSome
      by_cases h : a < n ∧ b < n ∧ a ≠ b
      · obtain ⟨h1, h2, h3⟩ := h
        rw [if_pos ⟨h1, h2, h3⟩, decide_eq_true (by omega), decide_eq_true (by omega), decide_eq_true (by omega)] <;> rfl
      · rw [if_neg h]
        by_cases h1 : a < n
        · by_cases h2 : b < n
          · have h3 : a = b := by
              by_cases z : a = b
              · exact z
              · exact absurd ⟨h1, h2, z⟩ h
            rw [decide_eq_false (p := ¬ (a : Int) = (b : Int)) (by omega)]
            simp
          · rw [decide_eq_false (p := 0 ≤ (b : Int) ∧ (b : Int) < (n : Int)) (by omega)]
            simp
        · rw [decide_eq_false (p := 0 ≤ (a : Int) ∧ (a : Int) < (n : Int)) (by omega)]
          rfl
theorem it_pair {H : Hp} {p : Addr} {w : List Nat} (n : Nat) (h : SqT K H p (pairV w)) : ItOk K H n (.ref p) (readC n w).isSome := by
  obtain ⟨T1, t1⟩ := on_tyb (K := K) (H := H) (readN (part1 45 w).1)
  obtain ⟨T2, t2⟩ := on_tyb (K := K) (H := H) (readN (part1 45 w).2.2)
  have e : (readC n w).isSome = twV n (onV (readN (part1 45 w).1)) (onV (readN (part1 45 w).2.2)) := (tw_pair n _ _).symm
  rw [e]
  exact .two h t1 t2
/-- lists of pairs, as words tell them -/
abbrev Pvs (K : PySem.W.Frag) (H : Hp) (ps : List Addr) (ws : List (List Nat)) : Prop := All2 (fun p w => SqT K H p (pairV w)) ps ws
/-- what need_web finds of lines and words, and what readW tells -/
theorem verd_of {H : Hp} {D : Addr} {ps : List Addr} {ws : List (List Nat)} (o : Option Nat) (ho : ∀ n, o = some n → n ≤ 10) (hD : SqL K H D (Rfs ps)) (hp : Pvs K H ps ws) :
    (∃ n cs, o = some n ∧ 1 ≤ n ∧ n ≤ 10 ∧ ws.length ≤ 60 ∧ getAll (readC n) ws = some cs ∧ WebV K H (onV o) (.ref D) .good) ∨
    (∃ d, d ≠ .good ∧ (∀ k, d = .web (some k) → k ≤ 60) ∧ WebV K H (onV o) (.ref D) d ∧ ∀ n, o = some n → 1 ≤ n → ws.length ≤ 60 → getAll (readC n) ws = none) := by
  have hl := hp.length
  by_cases hn : ∃ n, o = some n ∧ 1 ≤ n
  · obtain ⟨n, rfl, n1⟩ := hn
    have n10 := ho n rfl
    have nv : noV (.int (n : Int)) = true := decide_eq_true (by omega)
    by_cases h60 : ws.length ≤ 60
    · cases e : getAll (readC n) ws with
      | some cs =>
        refine .inl ⟨n, cs, rfl, n1, n10, h60, e, .good nv hD (by rw [rfs_len]; omega) fun i x hx => ?_⟩
        obtain ⟨p, rfl, gp⟩ := rfs_get hx
        obtain ⟨w, gw, hw⟩ := hp.getL gp
        obtain ⟨c, _, hc⟩ := (getAll_some e).getL gw
        have := it_pair n hw
        rw [hc] at this
        exact this
      | none =>
        obtain ⟨k, w, gw, hw, ok⟩ := getAll_none e
        have kl : k < ws.length := (List.getElem?_eq_some_iff.mp gw).1
        refine .inr ⟨.web (some k), (fun z => nomatch z), (fun j z => by cases z; omega), ?_, fun m z _ _ => by cases z; exact e⟩
        obtain ⟨p, gp, hq⟩ := hp.get gw
        have bad := it_pair n hq
        rw [hw] at bad
        refine .item nv hD (by rw [rfs_len]; omega) (fun i hi => ?_) (rfs_at gp) bad
        obtain ⟨u, c, gu, hu⟩ := ok i hi
        obtain ⟨r, gr, hr⟩ := hp.get gu
        have := it_pair n hr
        rw [hu] at this
        exact ⟨_, rfs_at gr, this⟩
    · exact .inr ⟨.web none, (fun z => nomatch z), (fun j z => nomatch z), .many nv hD (by rw [rfs_len]; omega), fun m z _ h => absurd h h60⟩
  · obtain ⟨T, ht⟩ := on_tyb (K := K) (H := H) o
    refine .inr ⟨.lines, (fun z => nomatch z), (fun j z => nomatch z), .lines ht ?_, fun n z n1 => absurd ⟨n, z, n1⟩ hn⟩
    cases o with
    | none => rfl
    | some n =>
      have : ¬ 1 ≤ n := fun z => hn ⟨n, rfl, z⟩
      exact decide_eq_false (by omega)
theorem tyb_str {H : Hp} {v : V} {T : String} (h : TyB K H v T) (e : T = "str") : ∃ x, v = .str x := by
  cases h with
  | str x => exact ⟨x, rfl⟩
  | _ => exact absurd e (by decide)
theorem any2 {cls c1 c2 : Value} {b1 b2 : Bool} (h1 : PySem.W.exmOne K cls c1 = some b1) (h2 : PySem.W.exmOne K cls c2 = some b2) : PySem.W.exmAny K cls [c1, c2] = some (b1 || (b2 || false)) := by
  unfold PySem.W.exmAny PySem.W.exmAny PySem.W.exmAny
  rw [h1, h2]
/-- what an except clause of both classes must know of them -/
structure TwoX (K : PySem.W.Frag) : Prop where
  ll : PySem.W.exmOne K (.ref (He.ga K "BadLines")) (.ref (He.ga K "BadLines")) = some true
  lw : PySem.W.exmOne K (.ref (He.ga K "BadLines")) (.ref (He.ga K "BadWeb")) = some false
  wl : PySem.W.exmOne K (.ref (He.ga K "BadWeb")) (.ref (He.ga K "BadLines")) = some false
  ww : PySem.W.exmOne K (.ref (He.ga K "BadWeb")) (.ref (He.ga K "BadWeb")) = some true
theorem prs_of {H : Hp} {n : Nat} {ps : List Addr} {ws : List (List Nat)} (h1 : All2 (fun q w => H q = some (.tup (pairV w))) ps ws) : ∀ {cs : List Cmp}, All2 (fun w c => readC n w = some c) ws cs → Prs K H ps cs := by
  induction h1 with
  | nil => intro cs h2; cases h2; exact .nil
  | cons r1 _ ih =>
    intro cs h2
    cases h2 with
    | cons r2 h2 =>
      obtain ⟨e, _⟩ := pair_v2 r2
      exact .cons (.inl (.inl (by rw [← e]; exact r1))) (ih h2)
theorem same_xd {H H' : Hp} {d : Addr} {o : HO} (s : Same H H') (nd : H' d = none) : Same H (upd H' d o) := s.trans (same_new nd)
theorem rd_webof (X2 : TwoX K) (vs : List V) (H : Hp) (Q : VK) (E : XK) (h : sp_webof K vs H Q E) : r_webof K E { nx := fun _ H' => Q .non H', rt := Q } (L2.start N_webof vs) H := by
  obtain ⟨v, T, rfl, ht, q1, q2⟩ := h
  unfold r_webof N_webof
  walk_at "ev"
  refine ⟨v, T, rfl, ht, _, _, rfl, rfl, ?_⟩
  walk_at "ev"
  by_cases hT : T = "str"
  · obtain ⟨x, rfl⟩ := tyb_str ht hT
    subst hT
    · obtain ⟨hx, q3, q4⟩ := q1 x rfl
      rw [if_pos rfl]
      walk_at "ev"
      refine ⟨rfl, by decide +kernel, small_line (by omega), fun T1 n1 => ?_⟩
      obtain ⟨e1, e2, e3⟩ := partition_sign x 58
      rw [show (⟨#[58]⟩ : Str) = ":" by decide +kernel] at e1 e2 e3
      obtain ⟨pl1, pl2⟩ := part_len 58 (sg x)
      have s1 := same_new (o := .tup [V.str (Txt.partition x ":").1, .str (Txt.partition x ":").2.1, .str (Txt.partition x ":").2.2]) n1
      refine ⟨T1, _, rfl, .inl (.inl upd_same), rfl, ?_⟩
      generalize upd H T1 (.tup [V.str (Txt.partition x ":").1, .str (Txt.partition x ":").2.1, .str (Txt.partition x ":").2.2]) = H1 at s1
      generalize (Txt.partition x ":").1 = head at e1
      generalize (Txt.partition x ":").2.1 = colon at e2
      generalize (Txt.partition x ":").2.2 = tail at e3
      walk_at "ev"
      have hx' : (sg x).length ≤ 100000 := by rw [← sg_len]; exact hx
      have tl : tail.length ≤ 100000 := by rw [sg_len, e3]; omega
      refine ⟨rfl, by decide +kernel, small_line (by omega), fun L nL => ?_⟩
      have es := split_sign tail 32 (by decide)
      rw [show (⟨#[32]⟩ : Str) = " " by decide +kernel, e3] at es
      have s2 := s1.trans (same_new (o := .lst ((Txt.split tail " ").map V.str)) nL)
      have ct := cut_count 32 (part1 58 (sg x)).2.2
      have cm := cut_mem 32 (part1 58 (sg x)).2.2
      generalize hsp : Txt.split tail " " = parts at es s2
      cases parts with
      | nil => exact absurd es.symm (cutOn_ne 32 _)
      | cons first ws =>
        have es2 : cutOn 32 (part1 58 (sg x)).2.2 = sg first :: ws.map sg := by rw [← es] <;> rfl
        rw [es2, List.length_cons, List.length_map] at ct
        refine ⟨L, .str first, ws.map V.str, rfl, .inl (.inl upd_same), by rw [List.length_map]; omega, fun p np => ?_⟩
        have s3 := s2.trans (same_new (o := .lst (ws.map V.str)) np)
        generalize hH3 : upd (upd H1 L (.lst (List.map V.str (first :: ws)))) p (.lst (ws.map V.str)) = H3 at s3
        have hp3 : H3 p = some (.lst (ws.map V.str)) := by rw [← hH3, upd_same]
        clear hH3
        walk_at "ev"
        have out : readW (sg x) = none → ([V.str "lines, a colon and a blank ahead of each comparer make a web's text"]).length ≤ sizeLine ∧ E (.ref (He.ga K "BadText")) none H3 := fun e => ⟨small_line (by decide), q4 e H3 s3⟩
        by_cases hc : (part1 58 (sg x)).2.1 = true
        · rw [if_pos hc] at e2
          subst e2
          rw [if_pos rfl]
          by_cases hf : first = ""
          · subst hf
            rw [if_pos rfl]
            refine ⟨head, rfl, ?_⟩
            rw [e1]
            have es3 : cutOn 32 (part1 58 (sg x)).2.2 = [] :: ws.map sg := by rw [es2, sg_nil2]
            refine lc_each (a := p) (xs := ws.map V.str) rfl (.inl (.inl hp3)) (fun v => rfl) (fun D i acc H' => Same H3 H' ∧ ∃ ps : List Addr, acc = Rfs ps ∧ All2 (fun q w => H' q = some (.tup (pairV w))) ps ((ws.map sg).take i)) (fun D nD => ⟨same_new nD, [], rfl, .nil⟩) (fun D i acc H' nD g => g.1.seq (.inl (.inl hp3))) ?_ ?_
            · intro D i v acc H' nD hv hi hD g
              obtain ⟨s, ps, rfl, hps⟩ := g
              rw [List.getElem?_map] at hv
              cases gw : ws[i]? with
              | none => rw [gw] at hv; cases hv
              | some w =>
                rw [gw] at hv
                cases hv
                refine .yes ?_
                walk_at "ev"
                have wl : w.length ≤ 100000 := by
                  have := cm (sg w) (by rw [es2]; exact List.mem_cons_of_mem _ (List.mem_map_of_mem (List.mem_of_getElem? gw)))
                  rw [sg_len]
                  omega
                refine ⟨w, rfl, wl, fun H4 q s4 nq hq => ?_⟩
                have hD4 := s4 _ _ hD
                have pl : ps.length ≤ 100001 := by
                  have := hps.length
                  rw [List.length_take, List.length_map] at this
                  omega
                refine GoOn.mk hD4 (by rw [rfs_len]; omega) ⟨same_mut (s.trans s4) nD, ps ++ [q], ?_, ?_⟩
                · unfold Rfs
                  rw [List.map_append] <;> rfl
                · have keep : ∀ r u, H4 r = some (.tup u) → upd H4 D (.lst (Rfs ps ++ [.ref q])) r = some (.tup u) := fun r u hr => by
                    rw [upd_ne (fun z => by rw [z, hD4] at hr; cases hr)]
                    exact hr
                  rw [List.take_add_one, List.getElem?_map, gw]
                  exact (hps.imp fun r w' hr => keep r _ (s4 _ _ hr)).snoc (keep q _ hq)
            · intro D acc H' nD hD g
              obtain ⟨s, ps, rfl, hps⟩ := g
              rw [List.length_map, ← List.length_map (f := sg), List.take_length] at hps
              have sH := s3.trans s
              have hpv : Pvs K H' ps (ws.map sg) := hps.imp fun r w hr => .inl (.inl hr)
              have rd : ∀ cs n, readN (part1 58 (sg x)).1 = some n → 1 ≤ n → (ws.map sg).length ≤ 60 → getAll (readC n) (ws.map sg) = some cs → readW (sg x) = some (n, cs) := fun cs n hn hn1 hl hg => by
                unfold readW
                rw [if_pos hc, hn]
                show (if 1 ≤ n then _ else _) = _
                rw [if_pos hn1]
                unfold tailW
                rw [es3]
                show Option.map _ (if (ws.map sg).length ≤ 60 then _ else _) = _
                rw [if_pos hl, hg] <;> rfl
              rcases verd_of (readN (part1 58 (sg x)).1) (fun n z => (readN_some z).1) (.inl (.inl hD)) hpv with ⟨n, cs, en, hn1, hn10, hl, hg, hv⟩ | ⟨d, dn, dk, hv, no⟩
              · rw [en] at hv ⊢
                refine ⟨_, _, .good, rfl, hv, fun _ H4 s4 => ?_, fun z => absurd rfl z⟩
                refine ⟨small_line (by decide), fun r nr => ?_⟩
                have s5 := sH.trans (s4.trans (same_new (o := .tup [.int (n : Int), .ref D]) nr))
                have hD5 := (s4.trans (same_new (o := .tup [.int (n : Int), .ref D]) nr)) _ _ hD
                refine q3 n cs (rd cs n en hn1 hl hg) _ r D ps s5 ((sH.trans s4).free nr) upd_same (s3.free nD) hD5 ?_
                have all := getAll_some hg
                exact Same.prs (s4.trans (same_new nr)) (prs_of hps all)
              · have none : readW (sg x) = none := by
                  unfold readW
                  rw [if_pos hc]
                  cases en : readN (part1 58 (sg x)).1 with
                  | none => rfl
                  | some n =>
                    show (if 1 ≤ n then _ else _) = _
                    split
                    · rename_i hn1
                      unfold tailW
                      rw [es3]
                      show Option.map _ (if (ws.map sg).length ≤ 60 then _ else _) = _
                      split
                      · rename_i hl
                        rw [no n en hn1 hl] <;> rfl
                      · rfl
                    · rfl
                refine ⟨_, _, d, rfl, hv, (fun z => absurd z dn), fun _ => ?_⟩
                have fin : ∀ H4 : Hp, Same H' H4 → ∀ a, H4 a = .none → ([V.str "the text tells no web"]).length ≤ sizeLine ∧ E (.ref (He.ga K "BadText")) .none H4 := fun H4 s4 a na => ⟨small_line (by decide), q4 none H4 (sH.trans s4)⟩
                cases d with
                | good => exact absurd rfl dn
                | lines => exact fun H4 s4 => ⟨any2 X2.ll X2.lw, fin H4 s4⟩
                | web o => exact fun H4 dd s4 nd => ⟨any2 X2.wl X2.ww, fin _ (same_xd s4 nd)⟩
          · rw [if_neg hf]
            refine out ?_
            unfold readW
            rw [if_pos hc]
            have no : ∀ n, tailW n (part1 58 (sg x)).2.2 = none := fun n => by
              unfold tailW
              rw [es2]
              cases e : sg first with
              | nil => exact absurd (sg_inj (e.trans sg_nil2.symm)) hf
              | cons c l => rfl
            cases readN (part1 58 (sg x)).1 with
            | none => rfl
            | some n =>
              show (if 1 ≤ n then _ else _) = _
              rw [no n]
              split <;> rfl
        · have hc' : (part1 58 (sg x)).2.1 = false := by simpa using hc
          rw [if_neg hc] at e2
          subst e2
          rw [if_neg (by decide +kernel)]
          refine out ?_
          unfold readW
          rw [if_neg hc]
  · rw [if_neg hT]
    exact ⟨small_line (by decide), q2 hT H (.refl H)⟩
end Sw

set_option Elab.async false
set_option linter.all false
set_option maxRecDepth 100000
set_option maxHeartbeats 4000000
namespace Sw
open PySem PySem.Spec PyProof.Rows L2
local macro_rules | `(tactic| walk_at "ev") => `(tactic| simp only [tSeq, tCalW, quiet, tRzA, tRzO, tTryT, tTryK, tJoin, tJs, tBM, kStrI, kIntS, kLenS, mSplit, mPart, mIndex, tAsg, tRet, tRetN, tOp, tUn, tVar, tC, tNil, tCons, tCB, tDrop, tNext, tCont, tBreak, tIfS, tIf, tTest, tChain, tB, tTup, tLst, tAnd, tOr, tNot, tAndV, tOrV, tNotV, tPart, tNoPart, tSl, tCal, tAug, ipI, rI0, rI, rU, rEq, rNe, kMin, kMax, gName, gCons, gNil, L2.start, wipe, List.map_cons, List.map_nil, List.length_cons, List.length_nil, List.cons_append, List.nil_append, List.append_nil, Nat.reduceAdd, Nat.reduceSub, List.replicate_succ, List.replicate_zero, List.getElem?_cons_zero, List.getElem?_cons_succ, List.set_cons_succ, List.set_cons_zero, Option.some.injEq, exists_eq_left', exists_eq_left, V.int.injEq, V.bl.injEq, V.str.injEq, V.ref.injEq, List.cons.injEq, exists_and_left, and_assoc, and_true, true_and, scal_ii, scal_ss, scal_nn, scal_bb, scal_ni, scal_in, decide_eq_true_eq, Bool.not_true, Bool.not_false, Bool.not_eq_true', decide_eq_false_iff_not, ite_not, reduceCtorEq, if_true, if_false, Bool.false_eq_true, ne_eq, not_true_eq_false, not_false_eq_true, Int.reduceLT, Int.reduceLE, Int.reduceNeg])
local macro_rules | `(tactic| walk_at "cm") => `(tactic| first | exact Or.inr ⟨by decide, by decide⟩ | exact Or.inl ⟨by decide, by decide⟩ | exact Or.inl ⟨by omega, by omega⟩ | exact Or.inr ⟨by omega, by omega⟩)
variable {K : PySem.W.Frag}
theorem eqv_cs (x y : List Cmp) : PyData.eqv (dCs x) (dCs y) = decide (x = y) := enc_cmps.eq x y
theorem ne_nil {H : Hp} {D p : Addr} {Q : VK} (h1 : H D = some (.lst [])) (h2 : H p = some (.lst [])) (q : Q (.bl false) H) : rNeD K (.ref D) (.ref p) H Q :=
  ⟨.list [], .list [], .lst (.inl (.inl h1)) .nil, .lst (.inl (.inl h2)) .nil, by decide +kernel, by decide +kernel, q⟩
theorem rd_lisweb (vs : List V) (H : Hp) (Q : VK) (E : XK) (h : sp_lisweb K vs H Q E) : r_lisweb K { nx := fun _ H' => Q .non H', rt := Q } (L2.start N_lisweb vs) H := by
  obtain ⟨a, b, ps, qs, cs, rfl, ha, hp, hb, hq, h60, q⟩ := h
  unfold r_lisweb N_lisweb
  walk_at "ev"
  refine isk_ty (tyx_lst (.inl (.inl ha))) (b := true) (by decide +kernel) ⟨true, rfl, ?_⟩
  walk_at "ev"
  refine ⟨dCs cs, dCs cs, dp_web (.inl (.inl ha)) hp, dp_web hb hq, enc_cmps.shaped (by decide) cs, enc_cmps.shaped (by decide) cs, ?_⟩
  rw [eqv_cs, decide_eq_true rfl]
  walk_at "ev"
  rw [for_def]
  unfold iList
  refine ⟨.ref a, rfl, a, rfl, ⟨_, .inl (.inl ha)⟩, ?_⟩
  refine fork_list (xs := Rfs ps) (.inl (.inl ha)) (fun i σ H' => ∃ y z, σ = [some (.ref a), some (.ref b), y, z] ∧ Same H H') ⟨none, none, rfl, .refl H⟩ (fun i σ H' _ hW => ?_) (fun i x σ H' hx hi hW => ?_) (fun σ H' hW => ?_)
  · obtain ⟨_, _, _, s⟩ := hW
    exact s.seq (.inl (.inl ha))
  · obtain ⟨y, z, rfl, s⟩ := hW
    obtain ⟨p, rfl, gp⟩ := rfs_get hx
    obtain ⟨c, gc, hc⟩ := hp.getL gp
    have hc' := Same.sqt s hc
    unfold r_lisweb_f1
    walk_at "ev"
    refine isk_ty (tyx_tup hc') (b := true) (by decide +kernel) ⟨true, rfl, ?_⟩
    walk_at "ev"
    rw [lc_def]
    unfold iTup
    refine ⟨.ref p, rfl, p, rfl, ⟨_, hc'⟩, ?_⟩
    refine lck_tup (xs := V2 c) hc' (fun v => rfl) (fun D i acc H2 => Same H' H2 ∧ acc = []) (fun D nD => ⟨same_new nD, rfl⟩) (fun D i acc H2 nD g => Same.sqt g.1 hc') (fun D i x acc H2 nD hx hi hD g => ?_) (fun D acc H2 nD hD g => ?_)
    · obtain ⟨s2, rfl⟩ := g
      have hz : ∃ z : Int, x = .int z := by
        unfold V2 at hx
        match i, hx with
        | 0, hx => exact ⟨_, (Option.some.inj hx).symm⟩
        | 1, hx => exact ⟨_, (Option.some.inj hx).symm⟩
      obtain ⟨z, rfl⟩ := hz
      unfold Turn
      walk_at "ev"
      refine isk_ty (.base (.int z)) (b := false) (by decide +kernel) ⟨false, rfl, ?_⟩
      exact ⟨[], hD, s2, rfl⟩
    · obtain ⟨s2, rfl⟩ := g
      refine ⟨small_line (by decide), fun r nr => ?_⟩
      refine ne_nil (by rw [upd_ne (ne_of_none hD nr)]; exact hD) upd_same ?_
      walk_at "ev"
      exact (s.trans s2).trans (same_new nr)
  · obtain ⟨y, z, rfl, s⟩ := hW
    walk_at "ev"
    exact q H' s
theorem sign_mem {c : Nat} : (c ∈ sg ("0123456789" : Str)) ↔ isFig c = true := by
  have e : sg ("0123456789" : Str) = [48, 49, 50, 51, 52, 53, 54, 55, 56, 57] := by decide +kernel
  rw [e]
  unfold isFig
  simp only [List.mem_cons, List.not_mem_nil, or_false, decide_eq_true_eq]
  omega
/-- those of the signs that are no figures -/
def noFig (w : List Nat) : List V := (w.filter fun c => !isFig c).map fun c => V.str ⟨#[c]⟩
theorem noFig_nil {w : List Nat} : noFig w = [] ↔ w.all isFig = true := by
  unfold noFig
  rw [List.map_eq_nil_iff, List.filter_eq_nil_iff, List.all_eq_true]
  constructor
  · intro h c hc
    have := h c hc
    simpa using this
  · intro h c hc
    rw [h c hc]
    decide
theorem dp_strs {H : Hp} : ∀ l : List Nat, DpAll K H (l.map fun c => V.str ⟨#[c]⟩) (l.map fun c => PyData.str ⟨#[c]⟩)
  | [] => .nil
  | c :: l => .cons (.str _) (dp_strs l)
theorem shaped_strs : ∀ l : List Nat, (∀ c ∈ l, c < 128) → SeqAt.shaped (.list (l.map fun c => PyData.str ⟨#[c]⟩)) = true := fun l hl => by
  have h1 : PyData.canLayAll0 (l.map fun c => PyData.str ⟨#[c]⟩) = true := by
    induction l with
    | nil => rfl
    | cons c l ih =>
      show ((PyData.str ⟨#[c]⟩).canLay0 && PyData.canLayAll0 _) = true
      have e : (PyData.str ⟨#[c]⟩).canLay0 = true := by
        have := hl c List.mem_cons_self
        simp [PyData.canLay0, PyData.strOk]
        first | omega | skip
      rw [ih fun d hd => hl d (List.mem_cons_of_mem _ hd), e] <;> rfl
  have h2 : ∀ l : List Nat, PyData.depthAll (l.map fun c => PyData.str ⟨#[c]⟩) ≤ 0 := fun l => by
    induction l with
    | nil => exact Nat.le_refl _
    | cons c l ih =>
      show max (PyData.depth (.str ⟨#[c]⟩)) (PyData.depthAll _) ≤ 0
      have : PyData.depth (.str ⟨#[c]⟩) = 0 := rfl
      omega
  have h2 := h2 l
  unfold SeqAt.shaped
  have h3 : PyData.canLay0 (.list (l.map fun c => PyData.str ⟨#[c]⟩)) = true := h1
  have h4 : PyData.depth (.list (l.map fun c => PyData.str ⟨#[c]⟩)) ≤ 64 := by
    show PyData.depthAll _ + 1 ≤ 64
    omega
  rw [h3, decide_eq_true h4] <;> rfl
theorem int_val {w : Str} (h : (sg w).all isFig = true) (h1 : 1 ≤ (sg w).length) (h2 : (sg w).length ≤ 2) : PySem.intText? w = some ((NumText.digitsVal (sg w) : Nat) : Int) := by
  refine intText_digits (fun c hc => ?_) (fun z => ?_) (by rw [sg_len]; omega)
  · have := List.all_eq_true.mp h c hc
    exact of_decide_eq_true this
  · have e : sg w = [] := z
    rw [e] at h1
    exact absurd h1 (by decide)
theorem rd_lnumber (vs : List V) (H : Hp) (Q : VK) (E : XK) (h : sp_lnumber K vs H Q E) : r_lnumber K { nx := fun _ H' => Q .non H', rt := Q } (L2.start N_lnumber vs) H := by
  obtain ⟨w, rfl, hw, asc, q⟩ := h
  have el := sg_len w
  unfold r_lnumber N_lnumber
  walk_at "ev"
  refine ⟨small_line (by omega), ?_⟩
  by_cases h1 : 1 ≤ (sg w).length ∧ (sg w).length ≤ 2
  · rw [if_pos (by omega), if_pos (by omega)]
    rw [lc_def]
    unfold iStr
    refine ⟨.str w, rfl, w, rfl, ?_⟩
    refine lck_str (z := w) (fun v => rfl) (fun D i acc H2 => Same H H2 ∧ acc = noFig ((sg w).take i)) (fun D nD => ⟨same_new nD, rfl⟩) (fun D i c acc H2 nD hc hi hD g => ?_) (fun D acc H2 nD hD g => ?_)
    · obtain ⟨s, rfl⟩ := g
      unfold Turn
      walk_at "ev"
      refine ⟨c, _, rfl, rfl, _, rfl, ?_⟩
      have hs : noFig ((sg w).take (i + 1)) = noFig ((sg w).take i) ++ (if isFig c = true then [] else [.str ⟨#[c]⟩]) := by
        unfold noFig
        rw [List.take_add_one, hc, List.filter_append, List.map_append]
        congr 1
        by_cases e : isFig c = true
        · simp [e]
        · simp [e]
      by_cases e : isFig c = true
      · rw [decide_eq_true (sign_mem.mpr e)]
        rw [if_pos e, List.append_nil] at hs
        exact ⟨_, hD, s, hs.symm⟩
      · rw [decide_eq_false fun z => e (sign_mem.mp z)]
        rw [if_neg e] at hs
        walk_at "ev"
        refine GoOn.mk hD ?_ ⟨same_mut s nD, hs.symm⟩
        have : (noFig ((sg w).take i)).length ≤ 2 := by
          unfold noFig
          rw [List.length_map]
          have := List.length_filter_le (fun c => !isFig c) ((sg w).take i)
          rw [List.length_take] at this
          omega
        omega
    · obtain ⟨s, rfl⟩ := g
      rw [List.take_length] at hD
      refine ⟨small_line (by decide), fun r nr => ?_⟩
      have s2 := s.trans (same_new (o := .lst []) nr)
      have hDr : D ≠ r := ne_of_none hD nr
      unfold noFig at hD
      refine ⟨_, _, .lst (.inl (.inl (by rw [upd_ne hDr]; exact hD))) (dp_strs _), .lst (.inl (.inl upd_same)) .nil, shaped_strs _ (fun c hc => asc c (List.mem_filter.mp hc).1), by decide +kernel, ?_⟩
      by_cases e : (sg w).all isFig = true
      · have e2 := noFig_nil.mpr e
        unfold noFig at e2
        have e3 : ((sg w).filter fun c => !isFig c) = [] := List.map_eq_nil_iff.mp e2
        rw [e3]
        have e4 : PyData.eqv (.list (([] : List Nat).map fun c => PyData.str ⟨#[c]⟩)) (.list []) = true := by decide +kernel
        rw [e4]
        walk_at "ev"
        refine ⟨small_line (by omega), ?_⟩
        have iv := int_val e h1.1 h1.2
        have lv : lawN (sg w) = if (sg w).length = 2 ∧ (sg w).head? = some 48 then none else some (NumText.digitsVal (sg w)) := by
          unfold lawN
          rw [if_pos ⟨h1, e⟩]
        by_cases h2 : (sg w).length = 2
        · rw [if_pos (by omega)]
          obtain ⟨c, hc⟩ : ∃ c, (sg w)[0]? = some c := get_of (by omega)
          refine ⟨w, 0, c, rfl, rfl, small_line (by omega), atI_nat (j := 0) hc, ?_⟩
          walk_at "ev"
          have e5 : (sg w).head? = some c := by rw [List.head?_eq_getElem?, hc]
          have e6 : ((⟨#[c]⟩ : Str) = ("0" : Str)) ↔ c = 48 := by
            constructor
            · intro z
              have := congrArg sg z
              have e7 : sg ("0" : Str) = [48] := by decide +kernel
              rw [e7] at this
              exact (List.cons.inj this).1
            · rintro rfl
              decide +kernel
          by_cases h3 : c = 48
          · rw [if_pos (e6.mpr h3)]
            rw [e5, h3, if_pos ⟨h2, rfl⟩] at lv
            rw [lv] at q
            exact q _ s2
          · rw [if_neg fun z => h3 (e6.mp z)]
            rw [e5, if_neg fun z => h3 (Option.some.inj z.2)] at lv
            rw [lv] at q
            exact ⟨_, iv, by omega, q _ s2⟩
        · rw [if_neg (by omega)]
          rw [if_neg fun z => h2 z.1] at lv
          rw [lv] at q
          exact ⟨_, iv, by omega, q _ s2⟩
      · have lv : lawN (sg w) = none := by
          unfold lawN
          rw [if_neg fun z => e z.2]
        rw [lv] at q
        have e4 : PyData.eqv (.list (((sg w).filter fun c => !isFig c).map fun c => PyData.str ⟨#[c]⟩)) (.list []) = false := by
          cases e5 : ((sg w).filter fun c => !isFig c) with
          | nil => exact absurd (noFig_nil.mp (by unfold noFig; rw [e5] <;> rfl)) e
          | cons c l => rfl
        rw [e4]
        walk_at "ev"
        exact q _ s2
  · have lv : lawN (sg w) = none := by
      unfold lawN
      rw [if_neg fun z => h1 z.1]
    rw [lv] at q
    by_cases h2 : 1 ≤ (sg w).length
    · rw [if_pos (by omega), if_neg (by omega)]
      exact q H (.refl H)
    · rw [if_neg (by omega)]
      exact q H (.refl H)
/-! ### the law's words for errors -/
/-- v is None, or a kept error of the class C -/
def ErrIs (K : PySem.W.Frag) (H : Hp) (v : V) (o : Option Str) : Prop := (v = .non ∧ o = none) ∨ ∃ (a : Addr) (d : Option Addr) (C u : Str), v = .ref a ∧ H a = some (ErO (.ref (He.ga K C)) d a) ∧ DicOk H d ∧ (C, u) ∈ errWs ∧ o = some C
theorem dic_same {H H' : Hp} {d : Option Addr} (s : Same H H') (h : DicOk H d) : DicOk H' d := by
  rcases h with h | ⟨dd, fs, h, e⟩
  · exact .inl h
  · exact .inr ⟨dd, fs, h, s _ _ e⟩
theorem err_same {H H' : Hp} {v : V} {o : Option Str} (s : Same H H') (h : ErrIs K H v o) : ErrIs K H' v o := by
  rcases h with h | ⟨a, d, C, u, h1, h2, h3, h4⟩
  · exact .inl h
  · exact .inr ⟨a, d, C, u, h1, s _ _ h2, dic_same s h3, h4⟩
theorem err_isi (F : ErrF K) {H : Hp} {v : V} {o : Option Str} {D w : Str} {Q : VK} (h : ErrIs K H v o) (hD : (D, w) ∈ errWs) (q : Q (.bl (decide (o = some D))) H) : rIsK K [v, .ref (He.ga K D)] H Q := by
  rcases h with ⟨rfl, rfl⟩ | ⟨a, d, C, u, rfl, ha, hd, hC, rfl⟩
  · exact .inl ⟨.non, .ref (He.ga K D), .type "NoneType", .ref (He.ga K D), false, rfl, .own _, .base .non, F.n D w hD, q⟩
  · refine .inr ⟨a, He.ga K C, d, .ref (He.ga K D), .ref (He.ga K D), decide (C = D), rfl, ha, hd, F.e C u hC, .own _, F.k C u D w hC hD, ?_⟩
    have : decide (C = D) = decide (some C = some D) := decide_eq_decide.mpr ⟨fun z => by rw [z], fun z => Option.some.inj z⟩
    rw [this]
    exact q
theorem err_ve (F : ErrF K) {H : Hp} {v : V} {C : Str} {Q : VK} (h : ErrIs K H v (some C)) (q : Q (.bl true) H) : rIsK K [v, .ty "ValueError"] H Q := by
  rcases h with ⟨_, z⟩ | ⟨a, d, C, u, rfl, ha, hd, hC, _⟩
  · cases z
  · exact .inr ⟨a, He.ga K C, d, .ty "ValueError", .type "ValueError", true, rfl, ha, hd, F.e C u hC, .ty _, F.v C u hC, q⟩
/-- pairs of a word and a truth value -/
abbrev Wps (H : Hp) (ps : List Addr) (l : List (Str × Bool)) : Prop := All2 (fun p (w : Str × Bool) => H p = some (.tup [.str w.1, .bl w.2])) ps l
theorem Wps.step {H0 H : Hp} {ps : List Addr} {l : List (Str × Bool)} (s : Same H0 H) (h : Wps H ps l) {p : Addr} (np : H p = none) (w : Str) (b : Bool) : Same H0 (upd H p (.tup [.str w, .bl b])) ∧ Wps (upd H p (.tup [.str w, .bl b])) (ps ++ [p]) (l ++ [(w, b)]) :=
  ⟨s.trans (same_new np), (h.imp fun q u e => same_new np _ _ e).snoc upd_same⟩
theorem Wps.list {H0 H : Hp} {ps : List Addr} {l : List (Str × Bool)} (s : Same H0 H) (h : Wps H ps l) {p : Addr} {o : HO} (np : H p = none) : Same H0 (upd H p o) ∧ Wps (upd H p o) ps l :=
  ⟨s.trans (same_new np), h.imp fun q u e => same_new np _ _ e⟩
theorem Wps.last {H0 H : Hp} {ps : List Addr} {l : List (Str × Bool)} (s : Same H0 H) (h : Wps H ps l) {p : Addr} {o : HO} (np : H p = none) : ∃ H', upd H p o = H' ∧ Same H0 H' ∧ Wps H' ps l ∧ H' p = some o :=
  ⟨_, rfl, s.trans (same_new np), h.imp fun q u e => same_new np _ _ e, upd_same⟩
def wordU (l : List (Str × Bool)) (i : Nat) : V × V := match l[i]? with
  | some w => (.str w.1, .bl w.2)
  | none => (.non, .non)
def errL (o : Option Str) : List (Str × Bool) := errWs.map fun p => (p.2, decide (o = some p.1))
theorem rd_lword (F : ErrF K) (vs : List V) (H : Hp) (Q : VK) (E : XK) (h : sp_lword K vs H Q E) : r_lword K { nx := fun _ H' => Q .non H', rt := Q } (L2.start N_lword vs) H := by
  obtain ⟨v, u, rfl, hv, q⟩ := h
  obtain ⟨o, ho, hu⟩ : ∃ o, ErrIs K H v o ∧ ((o = none ∧ v = .non ∧ u = "") ∨ ∃ C, o = some C ∧ (C, u) ∈ errWs ∧ ∃ a, v = .ref a) := by
    rcases hv with ⟨rfl, rfl⟩ | ⟨a, d, C, rfl, ha, hd, hC⟩
    · exact ⟨none, .inl ⟨rfl, rfl⟩, .inl ⟨rfl, rfl, rfl⟩⟩
    · exact ⟨some C, .inr ⟨a, d, C, u, rfl, ha, hd, hC, rfl⟩, .inr ⟨C, rfl, hC, a, rfl⟩⟩
  unfold r_lword N_lword
  walk_at "ev"
  refine err_isi F (w := "lines") ho (by unfold errWs; simp) ⟨small_line (by decide), fun p1 n1 => ?_⟩
  obtain ⟨s1, w1⟩ := Wps.step (.refl H) .nil n1 "lines" (decide (o = some ("BadLines" : Str)))
  refine err_isi F (w := "web") (err_same s1 ho) (by unfold errWs; simp) ⟨small_line (by decide), fun p2 n2 => ?_⟩
  obtain ⟨s2, w2⟩ := Wps.step s1 w1 n2 "web" (decide (o = some ("BadWeb" : Str)))
  refine err_isi F (w := "row") (err_same s2 ho) (by unfold errWs; simp) ⟨small_line (by decide), fun p3 n3 => ?_⟩
  obtain ⟨s3, w3⟩ := Wps.step s2 w2 n3 "row" (decide (o = some ("BadRow" : Str)))
  refine ⟨small_line (by decide), fun L1 m1 => ?_⟩
  obtain ⟨t3, w3⟩ := Wps.list (o := .lst [.ref p1, .ref p2, .ref p3]) s3 w3 m1
  refine err_isi F (w := "place") (err_same t3 ho) (by unfold errWs; simp) ⟨small_line (by decide), fun p4 n4 => ?_⟩
  obtain ⟨s4, w4⟩ := Wps.step t3 w3 n4 "place" (decide (o = some ("BadPlace" : Str)))
  refine err_isi F (w := "order") (err_same s4 ho) (by unfold errWs; simp) ⟨small_line (by decide), fun p5 n5 => ?_⟩
  obtain ⟨s5, w5⟩ := Wps.step s4 w4 n5 "order" (decide (o = some ("BadOrder" : Str)))
  refine ⟨small_line (by decide), fun L2' m2 => ?_⟩
  obtain ⟨t5, w5⟩ := Wps.list (o := .lst [.ref p4, .ref p5]) s5 w5 m2
  have k45 := same_new (o := .tup [.str "place", .bl (decide (o = some ("BadPlace" : Str)))]) n4
  have k5 := same_new (o := .tup [.str "order", .bl (decide (o = some ("BadOrder" : Str)))]) n5
  have k6 := same_new (o := .lst [.ref p4, .ref p5]) m2
  refine ⟨L1, L2', _, _, rfl, rfl, k6 _ _ (k5 _ _ (k45 _ _ upd_same)), upd_same, small_line (by simp), fun L3 m3 => ?_⟩
  obtain ⟨t6, w5⟩ := Wps.list (o := .lst ([.ref p1, .ref p2, .ref p3] ++ [.ref p4, .ref p5])) t5 w5 m3
  refine err_isi F (w := "text") (err_same t6 ho) (by unfold errWs; simp) ⟨small_line (by decide), fun p6 n6 => ?_⟩
  obtain ⟨s6, w6⟩ := Wps.step t6 w5 n6 "text" (decide (o = some ("BadText" : Str)))
  refine err_isi F (w := "nothing") (err_same s6 ho) (by unfold errWs; simp) ⟨small_line (by decide), fun p7 n7 => ?_⟩
  obtain ⟨s7, w7⟩ := Wps.step s6 w6 n7 "nothing" (decide (o = some ("NothingPut" : Str)))
  refine ⟨small_line (by decide), fun L4 m4 => ?_⟩
  obtain ⟨t7, w7⟩ := Wps.list (o := .lst [.ref p6, .ref p7]) s7 w7 m4
  have j6 := same_new (o := .tup [.str "text", .bl (decide (o = some ("BadText" : Str)))]) n6
  have j7 := same_new (o := .tup [.str "nothing", .bl (decide (o = some ("NothingPut" : Str)))]) n7
  have j8 := same_new (o := .lst [.ref p6, .ref p7]) m4
  refine ⟨L3, L4, _, _, rfl, rfl, j8 _ _ (j7 _ _ (j6 _ _ upd_same)), upd_same, small_line (by simp), fun L5 m5 => ?_⟩
  obtain ⟨H8, eH, t8, w8, hL0⟩ := Wps.last (o := .lst ([.ref p1, .ref p2, .ref p3] ++ [.ref p4, .ref p5] ++ [.ref p6, .ref p7])) t7 w7 m5
  have hL : H8 L5 = some (.lst (Rfs [p1, p2, p3, p4, p5, p6, p7])) := hL0
  rw [eH]
  have w9 : Wps H8 [p1, p2, p3, p4, p5, p6, p7] (errL o) := w8
  clear w8
  refine lc_pairs (a := L5) (ps := [p1, p2, p3, p4, p5, p6, p7]) (wordU (errL o)) rfl (.inl (.inl hL)) (fun v w => rfl) (fun D i acc H' => Same H8 H' ∧ acc = (((errL o).take i).filter (·.2)).map fun w => V.str w.1) (fun D nD => ⟨same_new nD, rfl⟩) (fun D i acc H' nD g => g.1.seq (.inl (.inl hL))) ?_ ?_ ?_
  · intro D i p acc H' nD gp hD g
    obtain ⟨w, gw, hw⟩ := w9.getL gp
    unfold wordU
    rw [gw]
    exact .inl (.inl (g.1 _ _ hw))
  · intro D i acc H' nD hi hD g
    obtain ⟨s, rfl⟩ := g
    obtain ⟨w, gw⟩ := get_of (xs := errL o) (i := i) hi
    have hs : (((errL o).take (i + 1)).filter (·.2)).map (fun w => V.str w.1) = (((errL o).take i).filter (·.2)).map (fun w => V.str w.1) ++ (if w.2 = true then [V.str w.1] else []) := by
      rw [List.take_add_one, gw, List.filter_append, List.map_append]
      congr 1
      cases e : w.2 <;> simp [e]
    unfold wordU Turn
    rw [gw]
    walk_at "ev"
    cases e : w.2 with
    | false =>
      rw [e] at hs
      simp only [Bool.false_eq_true, if_false, List.append_nil] at hs
      exact ⟨_, hD, s, hs.symm⟩
    | true =>
      rw [e] at hs
      simp only [if_true] at hs
      refine GoOn.mk hD ?_ ⟨same_mut s nD, hs.symm⟩
      rw [List.length_map]
      have h1 := List.length_filter_le (fun w : Str × Bool => w.2) ((errL o).take i)
      have h2 : ((errL o).take i).length ≤ 7 := by
        rw [List.length_take]
        exact Nat.min_le_right _ _
      omega
  · intro D acc H' nD hD g
    obtain ⟨s, rfl⟩ := g
    have hT : (errL o).take [p1, p2, p3, p4, p5, p6, p7].length = errL o := rfl
    rw [hT] at hD
    have sH := t8.trans s
    rcases hu with ⟨rfl, rfl, rfl⟩ | ⟨C, rfl, hC, a, rfl⟩
    · refine ⟨rfl, _, rfl, ?_⟩
      rw [decide_eq_true rfl]
      walk_at "ev"
      exact q H' sH
    · have one : ((errL (some C)).filter (·.2)).map (fun w => V.str w.1) = [.str u] := by
        unfold errWs at hC
        simp only [List.mem_cons, Prod.mk.injEq, List.not_mem_nil, or_false] at hC
        rcases hC with ⟨rfl, rfl⟩ | ⟨rfl, rfl⟩ | ⟨rfl, rfl⟩ | ⟨rfl, rfl⟩ | ⟨rfl, rfl⟩ | ⟨rfl, rfl⟩ | ⟨rfl, rfl⟩ <;> decide +kernel
      rw [one] at hD
      refine ⟨rfl, _, rfl, ?_⟩
      rw [decide_eq_false (fun z => nomatch z)]
      walk_at "ev"
      refine ⟨D, _, rfl, .inl (.inl (.inl hD)), ?_⟩
      walk_at "ev"
      refine err_ve F (err_same sH ho) ⟨true, rfl, ?_⟩
      walk_at "ev"
      refine ⟨D, _, 0, .str u, rfl, rfl, .inl (.inl hD), rfl, ?_⟩
      exact q H' sH
/-! ### the law's text of a web -/
def cutT (c : Cmp) : Str := tx (cmpT c)
theorem cut_word {a b : Nat} (ha : a ≤ 10) (hb : b ≤ 10) (s2 : Str) (h2 : sg s2 = [45]) : Str.ofString (toString (a : Int)) ++ s2 ++ Str.ofString (toString (b : Int)) = cutT (a, b) := by
  refine eq_tx ?_
  rw [sg_app, sg_app, h2, num_str a ha, num_str b hb]
  show numT a ++ [45] ++ numT b = numT a ++ 45 :: numT b
  simp
theorem lens_cut (cs : List Cmp) : ((cs.map cutT).map (·.length)).sum ≤ 5 * cs.length := by
  induction cs with
  | nil => simp
  | cons c cs ih =>
    rw [List.map_cons, List.map_cons, List.sum_cons, List.length_cons]
    have e : (cutT c).length ≤ 5 := by
      unfold cutT
      rw [tx_len]
      exact cmp_len c
    omega
theorem rd_ltext (vs : List V) (H : Hp) (Q : VK) (E : XK) (h : sp_ltext K vs H Q E) : r_ltext K { nx := fun _ H' => Q .non H', rt := Q } (L2.start N_ltext vs) H := by
  obtain ⟨n, a, cs, rfl, ⟨ps, ha, hp, ok, n1, n10⟩, q⟩ := h
  have hl := hp.length
  have h60 := ok.1
  unfold r_ltext N_ltext
  walk_at "ev"
  have l1 := sg_num (a := n) n10
  have b3 : ((":" : Str)).length ≤ 1 := by decide +kernel
  have m2 := app_len (Str.ofString (toString (n : Int))) ":"
  refine ⟨rfl, log_small (by omega), _, _, rfl, rfl, small_line (by omega), small_line (by decide), fun f nf => ?_⟩
  have s1 := same_new (o := .lst [.str (Str.ofString (toString (n : Int)) ++ ":")]) nf
  refine lc_pairs (a := a) (ps := ps) (cmpU cs) rfl (s1.seq ha) (fun v w => rfl) (fun D i acc H' => Same H H' ∧ H' f = some (.lst [.str (Str.ofString (toString (n : Int)) ++ ":")]) ∧ acc = ((cs.take i).map cutT).map V.str) (fun D nD => ⟨s1.trans (same_new nD), same_new nD _ _ upd_same, rfl⟩) (fun D i acc H' nD g => g.1.seq ha) ?_ ?_ ?_
  · intro D i p acc H' nD gp hD g
    obtain ⟨c, gc, hc⟩ := hp.getL gp
    unfold cmpU
    rw [gc]
    exact Same.sqt g.1 hc
  · intro D i acc H' nD hi hD g
    obtain ⟨s, hf, rfl⟩ := g
    obtain ⟨c, gc⟩ := get_of (xs := cs) (i := i) (by omega)
    obtain ⟨c1, c2, _⟩ := ok.2 c (List.mem_of_getElem? gc)
    refine .yes ?_
    unfold cmpU
    rw [gc]
    walk_at "ev"
    have k1 := sg_num (a := c.1) (by omega)
    have k2 := sg_num (a := c.2) (by omega)
    have b4 : (("-" : Str)).length ≤ 1 := by decide +kernel
    have k3 := app_len (Str.ofString (toString (c.1 : Int))) "-"
    have k4 := app_len (Str.ofString (toString (c.1 : Int)) ++ "-") (Str.ofString (toString (c.2 : Int)))
    refine ⟨log_small (by omega), _, _, rfl, rfl, small_line (by omega), log_small (by omega), _, _, rfl, rfl, small_line (by omega), ?_⟩
    rw [cut_word (show c.1 ≤ 10 by omega) (show c.2 ≤ 10 by omega) "-" (by decide +kernel)]
    have hfD : f ≠ D := ne_of_none upd_same nD
    refine GoOn.mk hD (by simp; omega) ⟨same_mut s (s1.free nD), by rw [upd_ne hfD]; exact hf, ?_⟩
    rw [List.take_add_one, gc]
    simp
  · intro D acc H' nD hD g
    obtain ⟨s, hf, rfl⟩ := g
    have e : cs.take ps.length = cs := by rw [hl, List.take_length]
    rw [e] at hD
    refine ⟨f, D, _, _, rfl, rfl, hf, hD, small_line (by simp; omega), fun r nr => ?_⟩
    have s2 := s.trans (same_new (o := .lst ([.str (Str.ofString (toString (n : Int)) ++ ":")] ++ ((cs.map cutT).map V.str))) nr)
    refine ⟨" ", r, (Str.ofString (toString (n : Int)) ++ ":") :: cs.map cutT, rfl, rfl, .inl (.inl (.inl upd_same)), ?_, ?_⟩
    · have := lens_cut cs
      have e1 : (" " : Str).length = 1 := by decide +kernel
      rw [e1, List.map_cons, List.sum_cons, List.length_cons, List.length_map]
      omega
    · have e2 : Txt.join " " ((Str.ofString (toString (n : Int)) ++ ":") :: cs.map cutT) = webTx n cs := by
        refine eq_tx ?_
        rw [sg_join1 " " _ 32 (by decide +kernel), sg_app, num_str n n10, show sg (":" : Str) = [58] by decide +kernel, List.map_map]
        show numT n ++ [58] ++ tailT cs = numT n ++ 58 :: tailT cs
        simp
      rw [e2]
      exact q _ s2
end Sw

set_option Elab.async false
set_option linter.all false
set_option maxRecDepth 100000
set_option maxHeartbeats 4000000
namespace Sw
open PySem PySem.Spec PyProof.Rows L2
local macro_rules | `(tactic| walk_at "ev") => `(tactic| simp only [tSeq, tCalW, quiet, tRzA, tRzO, tTryT, tTryK, tJoin, tJs, tBM, kStrI, kIntS, kLenS, mSplit, mPart, mIndex, tAsg, tRet, tRetN, tOp, tUn, tVar, tC, tNil, tCons, tCB, tDrop, tNext, tCont, tBreak, tIfS, tIf, tTest, tChain, tB, tTup, tLst, tAnd, tOr, tNot, tAndV, tOrV, tNotV, tPart, tNoPart, tSl, tCal, tAug, ipI, rI0, rI, rU, rEq, rNe, kMin, kMax, gName, gCons, gNil, L2.start, wipe, List.map_cons, List.map_nil, List.length_cons, List.length_nil, List.cons_append, List.nil_append, List.append_nil, Nat.reduceAdd, Nat.reduceSub, List.replicate_succ, List.replicate_zero, List.getElem?_cons_zero, List.getElem?_cons_succ, List.set_cons_succ, List.set_cons_zero, Option.some.injEq, exists_eq_left', exists_eq_left, V.int.injEq, V.bl.injEq, V.str.injEq, V.ref.injEq, List.cons.injEq, exists_and_left, and_assoc, and_true, true_and, scal_ii, scal_ss, scal_nn, scal_bb, scal_ni, scal_in, decide_eq_true_eq, Bool.not_true, Bool.not_false, Bool.not_eq_true', decide_eq_false_iff_not, ite_not, reduceCtorEq, if_true, if_false, Bool.false_eq_true, ne_eq, not_true_eq_false, not_false_eq_true, Int.reduceLT, Int.reduceLE, Int.reduceNeg])
local macro_rules | `(tactic| walk_at "cm") => `(tactic| first | exact Or.inr ⟨by decide, by decide⟩ | exact Or.inl ⟨by decide, by decide⟩ | exact Or.inl ⟨by omega, by omega⟩ | exact Or.inr ⟨by omega, by omega⟩)
variable {K : PySem.W.Frag}
theorem part_sub (c : Nat) : ∀ l : List Nat, (∀ a ∈ (part1 c l).1, a ∈ l) ∧ ∀ a ∈ (part1 c l).2.2, a ∈ l
  | [] => ⟨fun a h => h, fun a h => h⟩
  | b :: l => by
    have ih := part_sub c l
    by_cases e : b = c
    · rw [e, part_same]
      exact ⟨(fun a h => nomatch h), fun a h => List.mem_cons_of_mem _ h⟩
    · rw [part_other e]
      refine ⟨fun a h => ?_, fun a h => List.mem_cons_of_mem _ (ih.2 a h)⟩
      rcases List.mem_cons.mp h with h | h
      · rw [h]; exact List.mem_cons_self
      · exact List.mem_cons_of_mem _ (ih.1 a h)
theorem cut_sub (c : Nat) : ∀ (l u : List Nat), u ∈ cutOn c l → ∀ a ∈ u, a ∈ l
  | [], u, h => by
    rw [List.mem_singleton.mp h]
    exact fun a h => h
  | b :: l, u, h => by
    have ih := cut_sub c l
    by_cases e : b = c
    · rw [e, cut_same] at h
      rcases List.mem_cons.mp h with h | h
      · rw [h]; exact fun a h => nomatch h
      · exact fun a ha => List.mem_cons_of_mem _ (ih u h a ha)
    · rw [cut_other e] at h
      cases q : cutOn c l with
      | nil => exact absurd q (cutOn_ne c l)
      | cons x t =>
        rw [q] at h ih
        rcases List.mem_cons.mp h with h | h
        · rw [h]
          intro a ha
          rcases List.mem_cons.mp ha with ha | ha
          · rw [ha]; exact List.mem_cons_self
          · exact List.mem_cons_of_mem _ (ih x List.mem_cons_self a ha)
        · exact fun a ha => List.mem_cons_of_mem _ (ih u (List.mem_cons_of_mem _ h) a ha)
theorem getAll_fail {α β : Type} {f : α → Option β} {l : List α} {i : Nat} {a : α} (h : l[i]? = some a) (e : f a = none) : getAll f l = none := by
  cases q : getAll f l with
  | none => rfl
  | some r =>
    obtain ⟨b, _, hb⟩ := (getAll_some q).getL h
    rw [e] at hb
    cases hb
theorem readW_eq {X : List Nat} {n : Nat} {W : List (List Nat)} (hc : (part1 58 X).2.1 = true) (hn : readN (part1 58 X).1 = some n) (n1 : 1 ≤ n) (hw : cutOn 32 (part1 58 X).2.2 = [] :: W) (hl : W.length ≤ 60) : readW X = (getAll (readC n) W).map fun cs => (n, cs) := by
  unfold readW
  rw [if_pos hc, hn]
  show (if 1 ≤ n then _ else _) = _
  rw [if_pos n1]
  unfold tailW
  rw [hw]
  show Option.map _ (if W.length ≤ 60 then _ else _) = _
  rw [if_pos hl]
theorem readW_tail {X : List Nat} (h : ∀ n, tailW n (part1 58 X).2.2 = none) : readW X = none := by
  unfold readW
  split
  · cases readN (part1 58 X).1 with
    | none => rfl
    | some n =>
      show (if 1 ≤ n then _ else _) = _
      rw [h n]
      split <;> rfl
  · rfl
theorem readW_head {X : List Nat} (h : ∀ n, readN (part1 58 X).1 = some n → n = 0) : readW X = none := by
  unfold readW
  split
  · cases e : readN (part1 58 X).1 with
    | none => rfl
    | some n =>
      show (if 1 ≤ n then _ else _) = _
      rw [if_neg (by rw [h n e]; decide)]
  · rfl
theorem law_pair {n a b : Nat} : pairOk n (some a) (some b) = if a < n ∧ b < n ∧ a ≠ b then some (a, b) else none := rfl
def Wlread (x : Str) (at_ n : Nat) (L F S : Addr) (ws : List Str) (H : Hp) (i : Nat) (σ : L2.St) (H' : Hp) : Prop :=
  ∃ y5 y6 y7 qs cs, σ = [some (.str x), some (.int (at_ : Int)), some (.int (n : Int)), some (.ref L), some (.ref F), y5, y6, y7] ∧ Same H H' ∧ H' S = some (.lst (ws.map V.str)) ∧ H' F = some (.lst (Rfs qs)) ∧
    All2 (fun q c => H' q = some (.tup (V2 c))) qs cs ∧ All2 (fun w c => readC n w = some c) ((ws.map sg).take i) cs
theorem rd_lread_f1 {x : Str} {at_ n : Nat} {L F S : Addr} {ws : List Str} {H : Hp} {D : Ends} {i : Nat} {w : Str} {σ : L2.St} {H1 : Hp} (hn : n ≤ 10) (hl : ws.length ≤ 60) (hw : w.length ≤ 100000) (asc : Asc w) (nF : H F = none) (SF : S ≠ F)
    (gw : ws[i]? = some w) (hW : Wlread x at_ n L F S ws H i σ H1) (bad : readC n (sg w) = none → ∀ H', Same H H' → D.rt .non H') :
    r_lread_f1 K { nx := Wlread x at_ n L F S ws H (i + 1), rt := D.rt, bk := D.nx, ct := Wlread x at_ n L F S ws H (i + 1) } (σ.set 5 (some (.str w))) H1 := by
  obtain ⟨y5, y6, y7, qs, cs, rfl, s, hS, hF, hq, hr⟩ := hW
  have ql : qs.length ≤ 60 := by
    have h1 := hq.length
    have h2 := hr.length
    rw [List.length_take, List.length_map] at h2
    omega
  unfold r_lread_f1
  walk_at "ev"
  rw [lc_def]
  unfold iList
  walk_at "ev"
  refine ⟨rfl, by decide +kernel, small_line (by omega), fun P nP => ?_⟩
  have es := split_sign w 45 (by decide)
  rw [show (⟨#[45]⟩ : Str) = "-" by decide +kernel] at es
  have s1 := same_new (o := .lst ((Txt.split w "-").map V.str)) nP
  have cc := cut_count 45 (sg w)
  have cm := cut_mem 45 (sg w)
  have cb := cut_sub 45 (sg w)
  generalize Txt.split w "-" = parts at es s1
  have hP : upd H1 P (.lst (parts.map V.str)) P = some (.lst (parts.map V.str)) := upd_same
  generalize upd H1 P (.lst (parts.map V.str)) = H2 at s1 hP
  have pl : parts.length ≤ 100001 := by
    have : (parts.map sg).length = (cutOn 45 (sg w)).length := by rw [es]
    rw [List.length_map] at this
    rw [← sg_len] at cc
    omega
  refine ⟨P, rfl, ⟨_, .inl (.inl hP)⟩, ?_⟩
  refine lck_list (xs := parts.map V.str) (.inl (.inl hP)) (fun v => rfl) (fun D i acc H' => Same H2 H' ∧ acc = (parts.take i).map fun p => onV (lawN (sg p))) (fun D nD => ⟨same_new nD, rfl⟩) (fun D i acc H' nD g => g.1.seq (.inl (.inl hP))) ?_ ?_
  · intro D j v acc H' nD hv hj hD g
    obtain ⟨s2, rfl⟩ := g
    rw [List.getElem?_map] at hv
    cases gp : parts[j]? with
    | none => rw [gp] at hv; cases hv
    | some p =>
      rw [gp] at hv
      cases hv
      refine .yes ?_
      walk_at "ev"
      have mp : sg p ∈ cutOn 45 (sg w) := by
        rw [← es]
        exact List.mem_map_of_mem (List.mem_of_getElem? gp)
      refine ⟨p, rfl, ?_, fun c hc => asc c (cb _ mp c hc), fun H3 s3 => ?_⟩
      · have := cm _ mp
        rw [sg_len]
        rw [sg_len] at hw
        omega
      · refine GoOn.mk (s3 _ _ hD) (by rw [List.length_map, List.length_take]; omega) ⟨same_mut (s2.trans s3) nD, ?_⟩
        rw [List.take_add_one, gp]
        simp
  · intro D acc H' nD hD g
    obtain ⟨s2, rfl⟩ := g
    rw [List.length_map, List.take_length] at hD
    have sH := (s.trans s1).trans s2
    have lc : lawC n (sg w) = readC n (sg w) := law_cmp hn (sg w)
    refine ⟨D, _, rfl, .inl (.inl (.inl hD)), ?_⟩
    rw [List.length_map]
    walk_at "ev"
    by_cases two : parts.length = 2
    · rw [if_pos (by omega)]
      obtain ⟨u, v, rfl⟩ : ∃ u v, parts = [u, v] := by
        match parts, two with
        | [u, v], _ => exact ⟨u, v, rfl⟩
      have ec : cutOn 45 (sg w) = [sg u, sg v] := es.symm
      have e1 : lawC n (sg w) = pairOk n (lawN (sg u)) (lawN (sg v)) := by
        unfold lawC
        rw [ec]
      have hD' : H' D = some (.lst [onV (lawN (sg u)), onV (lawN (sg v))]) := hD
      have flat : ∀ o : Option Nat, flatV (onV o) = true := fun o => by cases o <;> rfl
      refine ⟨D, _, rfl, .inl (.inl (.inl hD')), rfl, by simp [flat], ?_⟩
      cases eu : lawN (sg u) with
      | none =>
        rw [eu] at e1
        have : inV .non [onV none, onV (lawN (sg v))] = true := rfl
        rw [this]
        walk_at "ev"
        exact bad (by rw [← lc, e1] <;> rfl) H' sH
      | some a =>
        cases ev : lawN (sg v) with
        | none =>
          rw [eu, ev] at e1
          have : inV .non [onV (some a), onV none] = true := rfl
          rw [this]
          walk_at "ev"
          exact bad (by rw [← lc, e1] <;> rfl) H' sH
        | some b =>
          rw [eu, ev] at e1 hD'
          have : inV .non [onV (some a), onV (some b)] = false := rfl
          rw [this]
          walk_at "ev"
          refine ⟨D, _, 0, .int (a : Int), rfl, rfl, .inl (.inl hD'), rfl, D, _, 1, .int (b : Int), rfl, rfl, .inl (.inl hD'), rfl, ?_⟩
          walk_at "ev"
          rw [law_pair] at e1
          by_cases hab : a = b
          · rw [if_pos (by omega)]
            rw [if_neg fun z => z.2.2 hab] at e1
            exact bad (by rw [← lc, e1]) H' sH
          · rw [if_neg (by omega)]
            refine ⟨D, [(a : Int), (b : Int)], rfl, .inl (.inl hD'), by simp, fun m hm hmax => ?_⟩
            have ha := hmax (a : Int) List.mem_cons_self
            have hb := hmax (b : Int) (List.mem_cons_of_mem _ List.mem_cons_self)
            walk_at "ev"
            by_cases hmn : (n : Int) ≤ m
            · rw [if_pos hmn]
              have : ¬ (a < n ∧ b < n ∧ a ≠ b) := fun z => by
                rcases List.mem_cons.mp hm with h | h
                · omega
                · have := List.mem_singleton.mp h
                  omega
              rw [if_neg this] at e1
              exact bad (by rw [← lc, e1]) H' sH
            · rw [if_neg hmn]
              rw [if_pos ⟨by omega, by omega, hab⟩] at e1
              have s12 := s1.trans s2
              have hF' := s12 _ _ hF
              refine ⟨.inl ⟨rfl, _, .inl (.inl hF')⟩, D, _, 0, .int (a : Int), rfl, rfl, .inl (.inl hD'), rfl, D, _, 1, .int (b : Int), rfl, rfl, .inl (.inl hD'), rfl, small_line (by decide), fun T nT => ?_⟩
              have s3 := same_new (o := .tup [.int (a : Int), .int (b : Int)]) nT
              refine ⟨F, _, _, rfl, rfl, s3 _ _ hF', by rw [rfs_len]; exact small_lt (by omega), ?_⟩
              have s13 := s12.trans s3
              have hFT : F ≠ T := ne_of_none hF' nT
              have keep : ∀ r u, H1 r = some (.tup u) → upd (upd H' T (.tup [.int (a : Int), .int (b : Int)])) F (.lst (Rfs qs ++ [.ref T])) r = some (.tup u) := fun r u hr => by
                rw [upd_ne (fun z => by rw [z, hF] at hr; cases hr)]
                exact s13 _ _ hr
              refine ⟨_, _, _, qs ++ [T], cs ++ [(a, b)], rfl, same_mut (s.trans s13) nF, ?_, ?_, ?_, ?_⟩
              · rw [upd_ne SF]
                exact s13 _ _ hS
              · rw [upd_same]
                unfold Rfs
                rw [List.map_append] <;> rfl
              · refine (hq.imp fun r c hr => keep r _ hr).snoc ?_
                rw [upd_ne hFT.symm, upd_same] <;> rfl
              · rw [List.take_add_one, List.getElem?_map, gw]
                exact hr.snoc (by rw [← lc, e1])
    · rw [if_neg (by omega)]
      refine bad ?_ H' sH
      rw [← lc]
      unfold lawC
      rw [← es]
      match parts, two with
      | [], _ => rfl
      | [_], _ => rfl
      | _ :: _ :: _ :: _, _ => rfl
end Sw

set_option Elab.async false
set_option linter.all false
set_option maxRecDepth 100000
set_option maxHeartbeats 4000000
namespace Sw
open PySem PySem.Spec PyProof.Rows L2
local macro_rules | `(tactic| walk_at "ev") => `(tactic| simp only [tSeq, tCalW, quiet, tRzA, tRzO, tTryT, tTryK, tJoin, tJs, tBM, kStrI, kIntS, kLenS, mSplit, mPart, mIndex, tAsg, tRet, tRetN, tOp, tUn, tVar, tC, tNil, tCons, tCB, tDrop, tNext, tCont, tBreak, tIfS, tIf, tTest, tChain, tB, tTup, tLst, tAnd, tOr, tNot, tAndV, tOrV, tNotV, tPart, tNoPart, tSl, tCal, tAug, ipI, rI0, rI, rU, rEq, rNe, kMin, kMax, gName, gCons, gNil, L2.start, wipe, List.map_cons, List.map_nil, List.length_cons, List.length_nil, List.cons_append, List.nil_append, List.append_nil, Nat.reduceAdd, Nat.reduceSub, List.replicate_succ, List.replicate_zero, List.getElem?_cons_zero, List.getElem?_cons_succ, List.set_cons_succ, List.set_cons_zero, Option.some.injEq, exists_eq_left', exists_eq_left, V.int.injEq, V.bl.injEq, V.str.injEq, V.ref.injEq, List.cons.injEq, exists_and_left, and_assoc, and_true, true_and, scal_ii, scal_ss, scal_nn, scal_bb, scal_ni, scal_in, decide_eq_true_eq, Bool.not_true, Bool.not_false, Bool.not_eq_true', decide_eq_false_iff_not, ite_not, reduceCtorEq, if_true, if_false, Bool.false_eq_true, ne_eq, not_true_eq_false, not_false_eq_true, Int.reduceLT, Int.reduceLE, Int.reduceNeg])
local macro_rules | `(tactic| walk_at "cm") => `(tactic| first | exact Or.inr ⟨by decide, by decide⟩ | exact Or.inl ⟨by decide, by decide⟩ | exact Or.inl ⟨by omega, by omega⟩ | exact Or.inr ⟨by omega, by omega⟩)
variable {K : PySem.W.Frag}
theorem rd_lread (vs : List V) (H : Hp) (Q : VK) (E : XK) (h : sp_lread K vs H Q E) : r_lread K { nx := fun _ H' => Q .non H', rt := Q } (L2.start N_lread vs) H := by
  obtain ⟨v, rfl, odd, q1, q2⟩ := h
  unfold r_lread N_lread
  walk_at "ev"
  rcases odd with ⟨x, rfl, hx, asc⟩ | ⟨T, tb, tyo, hT⟩
  · obtain ⟨q3, q4⟩ := q1 x rfl
    have ex := sg_len x
    refine isk_ty (.base (.str x)) (b := true) (by decide +kernel) ⟨true, rfl, ?_⟩
    walk_at "ev"
    have e58 : (":" : Str) = ⟨#[58]⟩ := by decide +kernel
    have hin := part_in (c := 58) (w := sg x)
    refine ⟨58, x, by rw [e58], rfl, _, rfl, ?_⟩
    by_cases h58 : 58 ∈ sg x
    · have hc' : (part1 58 (sg x)).2.1 = true := by rw [hin, decide_eq_true h58]
      rw [decide_eq_true h58] at hin ⊢
      walk_at "ev"
      have hh := hits_head 58 (sg x) 0
      obtain ⟨p1, p2⟩ := part_sub 58 (sg x)
      obtain ⟨pl1, pl2⟩ := part_len 58 (sg x)
      have occ := occ_sign x 58 1
      cases eh : hits 58 (sg x) 0 with
      | nil =>
        have := hh.1 eh
        rw [this] at hin
        cases hin
      | cons i t =>
        obtain ⟨_, e2⟩ := hh.2 i t eh
        rw [Nat.sub_zero] at e2
        rw [eh, List.take_succ_cons, List.take_zero] at occ
        refine ⟨rfl, i, [], by rw [e58]; exact occ, ?_⟩
        have il : i ≤ 100000 := by
          have := congrArg (fun l => l.length) (show hits 58 (sg x) 0 = i :: t from eh)
          by_cases hi : i ≤ (sg x).length
          · omega
          · exfalso
            have e3 : (part1 58 (sg x)).1 = (sg x).take i := by rw [e2]
            rw [List.take_of_length_le (by omega)] at e3
            have e4 : (58 : Nat) ∉ (part1 58 (sg x)).1 := by
              have key : ∀ l : List Nat, 58 ∉ (part1 58 l).1 := fun l => by
                induction l with
                | nil => exact fun z => nomatch z
                | cons b l ih =>
                  by_cases e : b = 58
                  · rw [e, part_same]; exact fun z => nomatch z
                  · rw [part_other e]
                    intro z
                    rcases List.mem_cons.mp z with z | z
                    · exact e z.symm
                    · exact ih z
              exact key _
            rw [e3] at e4
            exact e4 h58
        refine ⟨x, rfl, small_line (by omega), ?_⟩
        have sh : sg (cutS x none (some (i : Int))) = (part1 58 (sg x)).1 := by rw [cutS_to, e2]
        have st : sg (cutS x (some ((i : Int) + 1)) none) = (part1 58 (sg x)).2.2 := by
          rw [show (i : Int) + 1 = ((i + 1 : Nat) : Int) from rfl, cutS_from, e2]
        generalize cutS x none (some (i : Int)) = head at sh
        refine ⟨head, rfl, by rw [sg_len, sh]; omega, fun c hc => asc c (p1 c (by rw [← sh]; exact hc)), fun H1 s1 => ?_⟩
        refine ⟨x, rfl, small_line (by omega), ?_⟩
        generalize cutS x (some ((i : Int) + 1)) none = tail at st
        have tl : tail.length ≤ 100000 := by rw [sg_len, st]; omega
        refine ⟨rfl, tail, rfl, by decide +kernel, small_line (by omega), fun L nL => ?_⟩
        have es := split_sign tail 32 (by decide)
        rw [show (⟨#[32]⟩ : Str) = " " by decide +kernel, st] at es
        have s2 := s1.trans (same_new (o := .lst ((Txt.split tail " ").map V.str)) nL)
        have hL : upd H1 L (.lst ((Txt.split tail " ").map V.str)) L = some (.lst ((Txt.split tail " ").map V.str)) := upd_same
        have ct := cut_count 32 (part1 58 (sg x)).2.2
        have cm := cut_mem 32 (part1 58 (sg x)).2.2
        have cb := cut_sub 32 (part1 58 (sg x)).2.2
        generalize upd H1 L (.lst ((Txt.split tail " ").map V.str)) = H2 at s2 hL
        generalize Txt.split tail " " = parts at es hL
        rw [sh]
        have bad : readW (sg x) = none → ∀ H', Same H H' → Q .non H' := q4
        cases eL : lawN (part1 58 (sg x)).1 with
        | none =>
          refine ⟨rfl, _, rfl, ?_⟩
          rw [show decide (onV none = V.non) = true from decide_eq_true rfl, if_pos rfl]
          refine bad (readW_head fun n hn => ?_) H2 s2
          rw [law_read hn] at eL
          cases eL
        | some n =>
          refine ⟨rfl, _, rfl, ?_⟩
          rw [show decide (onV (some n) = V.non) = false from decide_eq_false (fun z => nomatch z), if_neg Bool.false_ne_true]
          refine ⟨(n : Int), rfl, ?_⟩
          by_cases n1 : 1 ≤ n
          · rw [if_pos (by omega)]
            refine ⟨(n : Int), rfl, ?_⟩
            by_cases n10 : n ≤ 10
            · rw [if_pos (by omega)]
              have hn := read_law eL n10
              cases parts with
              | nil => exact absurd es.symm (cutOn_ne 32 _)
              | cons first ws =>
                have es2 : cutOn 32 (part1 58 (sg x)).2.2 = sg first :: ws.map sg := by rw [← es] <;> rfl
                rw [es2, List.length_cons, List.length_map] at ct
                refine ⟨L, _, 0, .str first, rfl, rfl, .inl (.inl hL), atI_nat (j := 0) rfl, rfl, ?_⟩
                by_cases hf : first = ""
                · subst hf
                  rw [if_pos rfl]
                  have es3 : cutOn 32 (part1 58 (sg x)).2.2 = [] :: ws.map sg := by rw [es2, sg_nil2]
                  refine ⟨L, _, rfl, .inl (.inl (.inl hL)), _, rfl, ?_⟩
                  rw [List.length_map, List.length_cons]
                  by_cases hl : ws.length ≤ 60
                  · rw [if_neg (by omega)]
                    refine ⟨Nat.zero_le _, fun F nF => ?_⟩
                    have s3 := s2.trans (same_new (o := .lst []) nF)
                    have hF : upd H2 F (.lst []) F = some (.lst (Rfs [])) := upd_same
                    have hL3 := same_new (o := .lst []) nF _ _ hL
                    have nFH := s2.free nF
                    generalize upd H2 F (.lst []) = H3 at s3 hF hL3
                    rw [for_def]
                    unfold iList
                    walk_at "ev"
                    refine ⟨L, _, rfl, .inl (.inl hL3), fun S nS => ?_⟩
                    have s4 := s3.trans (same_new (o := .lst (ws.map V.str)) nS)
                    have SF : S ≠ F := (ne_of_none hF nS).symm
                    have ecut : cutV (List.map V.str ("" :: ws)) (some 1) none = ws.map V.str := cutV_from _ 1
                    rw [ecut]
                    refine ⟨S, rfl, ⟨_, .inl (.inl upd_same)⟩, ?_⟩
                    refine fork_list (xs := ws.map V.str) (.inl (.inl upd_same)) (Wlread x i n L F S ws H) ⟨_, _, _, [], [], rfl, s4, upd_same, same_new nS _ _ hF, .nil, .nil⟩ (fun j σ H' _ hW => ?_) (fun j v σ H' hv hj hW => ?_) (fun σ H' hW => ?_)
                    · obtain ⟨_, _, _, _, _, _, _, hS, _⟩ := hW
                      exact .inl (.inl hS)
                    · rw [List.getElem?_map] at hv
                      cases gw : ws[j]? with
                      | none => rw [gw] at hv; cases hv
                      | some w =>
                        rw [gw] at hv
                        cases hv
                        have mw : sg w ∈ cutOn 32 (part1 58 (sg x)).2.2 := by
                          rw [es2]
                          exact List.mem_cons_of_mem _ (List.mem_map_of_mem (List.mem_of_getElem? gw))
                        refine rd_lread_f1 n10 hl ?_ (fun c hc => asc c (p2 c (cb _ mw c hc))) nFH SF gw hW fun hb => bad ?_
                        · have := cm _ mw
                          rw [sg_len]
                          omega
                        · rw [readW_eq hc' hn n1 es3 (by rw [List.length_map]; exact hl), getAll_fail (i := j) (a := sg w) (by rw [List.getElem?_map, gw] <;> rfl) hb] <;> rfl
                    · obtain ⟨y5, y6, y7, qs, cs, rfl, s, hS, hF', hq, hr⟩ := hW
                      rw [List.length_map, ← List.length_map (f := sg), List.take_length] at hr
                      walk_at "ev"
                      refine ⟨small_line (by decide), fun p np => ?_⟩
                      have k := same_new (o := .tup [.int (n : Int), .ref F]) np
                      refine q3 n cs ?_ _ p F qs (s.trans k) (s.free np) upd_same nFH (k _ _ hF') (hq.imp fun r c hr => .inl (.inl (k _ _ hr)))
                      rw [readW_eq hc' hn n1 es3 (by rw [List.length_map]; exact hl), getAll_of hr] <;> rfl
                  · rw [if_pos (by omega)]
                    refine bad (readW_tail fun m => ?_) H2 s2
                    unfold tailW
                    rw [es3]
                    show (if (ws.map sg).length ≤ 60 then _ else _) = _
                    rw [List.length_map, if_neg hl]
                · rw [if_neg (by simpa using hf)]
                  refine bad (readW_tail fun m => ?_) H2 s2
                  unfold tailW
                  rw [es2]
                  cases e : sg first with
                  | nil => exact absurd (sg_inj (e.trans sg_nil2.symm)) hf
                  | cons c l => rfl
            · rw [if_neg (by omega)]
              refine bad (readW_head fun m hm => ?_) H2 s2
              have h1 := law_read hm
              rw [eL] at h1
              have h2 := (readN_some hm).1
              have := Option.some.inj h1
              omega
          · rw [if_neg (by omega)]
            refine bad (readW_head fun m hm => ?_) H2 s2
            have h1 := law_read hm
            rw [eL] at h1
            have := Option.some.inj h1
            omega
    · rw [decide_eq_false h58]
      walk_at "ev"
      refine q4 ?_ H (.refl H)
      unfold readW
      rw [hin, decide_eq_false h58] <;> rfl
  · refine isk_ty (t := T) (.base tyo) (b := false) ?_ ⟨false, rfl, ?_⟩
    · simp only [List.mem_cons, List.not_mem_nil, or_false] at hT
      rcases hT with rfl | rfl | rfl | rfl | rfl | rfl <;> decide +kernel
    · walk_at "ev"
      refine q2 (fun x z => ?_) H (.refl H)
      subst z
      have : T = "str" := by
        cases tb
        rfl
      subst this
      revert hT
      decide
end Sw

set_option Elab.async false
set_option linter.all false
set_option maxRecDepth 100000
set_option maxHeartbeats 4000000
namespace Sw
open PySem PySem.Spec PyProof.Rows L2
local macro_rules | `(tactic| walk_at "ev") => `(tactic| simp only [tSeq, tCalW, quiet, tRzA, tRzO, tTryT, tTryK, tJoin, tJs, tBM, kStrI, kIntS, kLenS, mSplit, mPart, mIndex, tAsg, tRet, tRetN, tOp, tUn, tVar, tC, tNil, tCons, tCB, tDrop, tNext, tCont, tBreak, tIfS, tIf, tTest, tChain, tB, tTup, tLst, tAnd, tOr, tNot, tAndV, tOrV, tNotV, tPart, tNoPart, tSl, tCal, tAug, ipI, rI0, rI, rU, rEq, rNe, kMin, kMax, gName, gCons, gNil, L2.start, wipe, List.map_cons, List.map_nil, List.length_cons, List.length_nil, List.cons_append, List.nil_append, List.append_nil, Nat.reduceAdd, Nat.reduceSub, List.replicate_succ, List.replicate_zero, List.getElem?_cons_zero, List.getElem?_cons_succ, List.set_cons_succ, List.set_cons_zero, Option.some.injEq, exists_eq_left', exists_eq_left, V.int.injEq, V.bl.injEq, V.str.injEq, V.ref.injEq, List.cons.injEq, exists_and_left, and_assoc, and_true, true_and, scal_ii, scal_ss, scal_nn, scal_bb, scal_ni, scal_in, decide_eq_true_eq, Bool.not_true, Bool.not_false, Bool.not_eq_true', decide_eq_false_iff_not, ite_not, reduceCtorEq, if_true, if_false, Bool.false_eq_true, ne_eq, not_true_eq_false, not_false_eq_true, Int.reduceLT, Int.reduceLE, Int.reduceNeg])
local macro_rules | `(tactic| walk_at "cm") => `(tactic| first | exact Or.inr ⟨by decide, by decide⟩ | exact Or.inl ⟨by decide, by decide⟩ | exact Or.inl ⟨by omega, by omega⟩ | exact Or.inr ⟨by omega, by omega⟩)
variable {K : PySem.W.Frag}
theorem asc_app {x y : Str} (h1 : Asc x) (h2 : Asc y) : Asc (x ++ y) := fun c hc => by
  rw [sg_app] at hc
  exact (List.mem_append.mp hc).elim (h1 c) (h2 c)
theorem asc_to {x : Str} (h : Asc x) (k : Nat) : Asc (cutS x none (some (k : Int))) ∧ (cutS x none (some (k : Int))).length ≤ x.length := by
  refine ⟨fun c hc => ?_, cutS_length _ _ _⟩
  rw [cutS_to] at hc
  exact h c (List.mem_of_mem_take hc)
theorem asc_from {x : Str} (h : Asc x) (k : Nat) : Asc (cutS x (some (k : Int)) none) ∧ (cutS x (some (k : Int)) none).length ≤ x.length := by
  refine ⟨fun c hc => ?_, cutS_length _ _ _⟩
  rw [cutS_from] at hc
  exact h c (List.mem_of_mem_drop hc)
theorem asc_rep {x : Str} (h : Asc x) (k : Nat) : Asc (repS x k) ∧ (repS x k).length = x.length * k := by
  refine ⟨fun c hc => ?_, by rw [sg_len]; unfold repS; rw [sg_tx, len_flat, ← sg_len]⟩
  unfold repS at hc
  rw [sg_tx] at hc
  obtain ⟨l, hl, hc⟩ := List.mem_flatten.mp hc
  rw [List.eq_of_mem_replicate hl] at hc
  exact h c hc
def signs12 : List Str := ["0", "1", "9", "-", ":", " ", "a", "+", "\n", "2", "10", "."]
theorem signs_ok : ∀ z ∈ signs12, z.length ≤ 2 ∧ ∀ c ∈ sg z, c < 128 := by decide +kernel
theorem idx_colon {x : Str} (h : 58 ∈ sg x) : ∃ i, Builtin.Str.occurrences x (":" : Str) 0 x.length 1 = [i] ∧ i < (sg x).length ∧ part1 58 (sg x) = ((sg x).take i, true, (sg x).drop (i + 1)) := by
  have e58 : (":" : Str) = ⟨#[58]⟩ := by decide +kernel
  have hin := part_in (c := 58) (w := sg x)
  rw [decide_eq_true h] at hin
  have hh := hits_head 58 (sg x) 0
  have occ := occ_sign x 58 1
  cases eh : hits 58 (sg x) 0 with
  | nil =>
    rw [hh.1 eh] at hin
    cases hin
  | cons i t =>
    obtain ⟨_, e2⟩ := hh.2 i t eh
    rw [Nat.sub_zero] at e2
    rw [eh, List.take_succ_cons, List.take_zero] at occ
    refine ⟨i, by rw [e58]; exact occ, ?_, e2⟩
    by_cases hi : i < (sg x).length
    · exact hi
    · exfalso
      have e3 : (part1 58 (sg x)).1 = (sg x).take i := by rw [e2]
      rw [List.take_of_length_le (by omega)] at e3
      have key : ∀ l : List Nat, 58 ∉ (part1 58 l).1 := fun l => by
        induction l with
        | nil => exact fun z => nomatch z
        | cons b l ih =>
          by_cases e : b = 58
          · rw [e, part_same]; exact fun z => nomatch z
          · rw [part_other e]
            intro z
            rcases List.mem_cons.mp z with z | z
            · exact e z.symm
            · exact ih z
      exact key _ (by rw [e3]; exact h)
theorem rd_lbent (vs : List V) (H : Hp) (Q : VK) (E : XK) (h : sp_lbent K vs H Q E) : r_lbent K { nx := fun _ H' => Q .non H', rt := Q } (L2.start N_lbent vs) H := by
  obtain ⟨x, m, rfl, m0, h58, hx, asc, q⟩ := h
  have ex := sg_len x
  unfold r_lbent N_lbent
  walk_at "ev"
  refine ⟨⟨by decide, by decide⟩, small_line (by omega), by omega, small_line (by decide), fun f nf => ⟨⟨by decide, by decide⟩, ?_⟩⟩
  have s := same_new (o := .lst (signs12.map V.str)) nf
  obtain ⟨k, ek, kl⟩ := drawn_at (n := m / 1000) (m := 12) (by decide)
  obtain ⟨z, hz⟩ := get_of (xs := signs12) (i := k) (by show k < 12; omega)
  obtain ⟨zl, za⟩ := signs_ok z (List.mem_of_getElem? hz)
  rw [ek]
  refine ⟨f, signs12.map V.str, (k : Int), .str z, rfl, rfl, .inl (.inl upd_same), atI_nat (by rw [List.getElem?_map, hz] <;> rfl), ?_⟩
  obtain ⟨j, ej, jl⟩ := drawn_at (n := m / 5) (m := (x.length : Int) + 1) (by omega)
  rw [ej]
  obtain ⟨a1, b1⟩ := asc_to asc j
  obtain ⟨a2, b2⟩ := asc_from asc j
  obtain ⟨a3, b3⟩ := asc_from asc (j + 1)
  have ej1 : (j : Int) + 1 = ((j + 1 : Nat) : Int) := rfl
  rw [ej1]
  have one : ∀ y1 y2 : Str, Asc y1 → Asc y2 → y1.length ≤ 10000 → y2.length ≤ 10000 → oAddS (.str y1) (.str y2) (upd H f (.lst (signs12.map V.str))) Q := fun y1 y2 h1 h2 l1 l2 => by
    have := app_len y1 y2
    exact ⟨_, _, rfl, rfl, small_line (by omega), q _ _ s (by omega) (asc_app h1 h2)⟩
  split
  · exact ⟨x, rfl, small_line (by omega), x, rfl, small_line (by omega), one _ _ a1 a3 (by omega) (by omega)⟩
  · split
    · have l1 := app_len (cutS x none (some (j : Int))) z
      exact ⟨x, rfl, small_line (by omega), _, _, rfl, rfl, small_line (by omega), x, rfl, small_line (by omega), one _ _ (asc_app a1 za) a2 (by omega) (by omega)⟩
    · split
      · have l1 := app_len (cutS x none (some (j : Int))) z
        exact ⟨x, rfl, small_line (by omega), _, _, rfl, rfl, small_line (by omega), x, rfl, small_line (by omega), one _ _ (asc_app a1 za) a3 (by omega) (by omega)⟩
      · obtain ⟨i, oc, il, _⟩ := idx_colon h58
        obtain ⟨a4, b4⟩ := asc_from asc (i + 1)
        refine ⟨rfl, i, [], oc, x, rfl, small_line (by omega), ⟨by decide, by decide⟩, ?_⟩
        rw [show (i : Int) + 1 = ((i + 1 : Nat) : Int) from rfl]
        obtain ⟨g, eg, gl⟩ := drawn_at (n := m / 20000) (m := 4) (by decide)
        rw [eg]
        obtain ⟨a5, b5⟩ := asc_rep a4 (1 + g)
        have b6 : (cutS x (some ((i + 1 : Nat) : Int)) none).length * (1 + g) ≤ 1000 * 4 := Nat.mul_le_mul (by omega) (by omega)
        exact ⟨_, 1 + g, rfl, rfl, by omega, by omega, one _ _ asc a5 (by omega) (by omega)⟩
end Sw

set_option Elab.async false
set_option linter.all false
set_option maxRecDepth 100000
set_option maxHeartbeats 4000000
namespace Sw
open PySem PySem.Spec PyProof.Rows L2
local macro_rules | `(tactic| walk_at "ev") => `(tactic| simp only [tSeq, tCalW, quiet, tRzA, tRzO, tTryT, tTryK, tJoin, tJs, tBM, kStrI, kIntS, kLenS, mSplit, mPart, mIndex, tAsg, tRet, tRetN, tOp, tUn, tVar, tC, tNil, tCons, tCB, tDrop, tNext, tCont, tBreak, tIfS, tIf, tTest, tChain, tB, tTup, tLst, tAnd, tOr, tNot, tAndV, tOrV, tNotV, tPart, tNoPart, tSl, tCal, tAug, ipI, rI0, rI, rU, rEq, rNe, kMin, kMax, gName, gCons, gNil, L2.start, wipe, List.map_cons, List.map_nil, List.length_cons, List.length_nil, List.cons_append, List.nil_append, List.append_nil, Nat.reduceAdd, Nat.reduceSub, List.replicate_succ, List.replicate_zero, List.getElem?_cons_zero, List.getElem?_cons_succ, List.set_cons_succ, List.set_cons_zero, Option.some.injEq, exists_eq_left', exists_eq_left, V.int.injEq, V.bl.injEq, V.str.injEq, V.ref.injEq, List.cons.injEq, exists_and_left, and_assoc, and_true, true_and, scal_ii, scal_ss, scal_nn, scal_bb, scal_ni, scal_in, decide_eq_true_eq, Bool.not_true, Bool.not_false, Bool.not_eq_true', decide_eq_false_iff_not, ite_not, reduceCtorEq, if_true, if_false, Bool.false_eq_true, ne_eq, not_true_eq_false, not_false_eq_true, Int.reduceLT, Int.reduceLE, Int.reduceNeg])
local macro_rules | `(tactic| walk_at "cm") => `(tactic| first | exact Or.inr ⟨by decide, by decide⟩ | exact Or.inl ⟨by decide, by decide⟩ | exact Or.inl ⟨by omega, by omega⟩ | exact Or.inr ⟨by omega, by omega⟩)
variable {K : PySem.W.Frag}
theorem rd_lgood (eTW : PySem.W.exmOne K (.ref (He.ga K "BadText")) (.ref (He.ga K "WebError")) = some true) (vs : List V) (H : Hp) (Q : VK) (E : XK) (h : sp_lgood K vs H Q E) : r_lgood K { nx := fun _ H' => Q .non H', rt := Q } (L2.start N_lgood vs) H := by
  obtain ⟨v, rfl, odd, q⟩ := h
  unfold r_lgood N_lgood
  walk_at "ev"
  obtain ⟨T, tb⟩ : ∃ T, TyB K H v T := by
    rcases odd with ⟨x, rfl, _⟩ | ⟨T, tb, _⟩
    · exact ⟨_, .str x⟩
    · exact ⟨T, tb⟩
  by_cases good : ∃ x n cs, v = .str x ∧ readW (sg x) = some (n, cs)
  · obtain ⟨x, n, cs, rfl, hr⟩ := good
    have hx : x.length ≤ 100000 := by
      rcases odd with ⟨y, e, hy, _⟩ | ⟨T, _, _, hT⟩
      · cases e
        exact hy
      · exfalso
        rename_i h1 _
        cases h1
        revert hT
        decide
    obtain ⟨ok, n1, n10⟩ := readW_ok hr
    refine ⟨.str x, rfl, odd, (fun y e => ?_), fun no => absurd rfl (no x)⟩
    cases e
    refine ⟨(fun m ds e => ?_), fun e => by rw [hr] at e; cases e⟩
    rw [hr] at e
    cases e
    intro H1 p c ps s1 np hp nc hc hps
    refine ⟨.str x, "str", rfl, .str x, (fun y e => ?_), fun no => absurd rfl no⟩
    cases e
    refine ⟨hx, (fun m ds e => ?_), fun e => by rw [hr] at e; cases e⟩
    rw [hr] at e
    cases e
    intro H2 p2 c2 ps2 s2 np2 hp2 nc2 hc2 hps2
    refine ⟨rfl, _, rfl, ?_⟩
    rw [decide_eq_false (fun z => nomatch z)]
    simp only [Bool.false_eq_true, if_false]
    refine ⟨rfl, _, rfl, ?_⟩
    rw [decide_eq_true rfl]
    simp only [Bool.not_true, Bool.false_eq_true, if_false]
    have t2 : SqT K H2 p2 [.int (n : Int), .ref c2] := .inl (.inl hp2)
    have t1 : SqT K H2 p [.int (n : Int), .ref c] := .inl (.inl (s2 _ _ hp))
    refine isk_ty (tyx_tup t2) (b := true) (by decide +kernel) ⟨true, rfl, ?_⟩
    walk_at "ev"
    refine ⟨p2, _, rfl, .inr t2, ?_⟩
    walk_at "ev"
    refine ⟨p2, _, 0, .int (n : Int), rfl, rfl, t2, rfl, ?_⟩
    refine isk_ty (.base (.int _)) (b := false) (by decide +kernel) ⟨false, rfl, ?_⟩
    walk_at "ev"
    refine ⟨p2, _, 0, .int (n : Int), rfl, rfl, t2, rfl, p, _, 0, .int (n : Int), rfl, rfl, t1, rfl, ?_⟩
    walk_at "ev"
    refine ⟨p2, _, 1, .ref c2, rfl, rfl, t2, rfl, p, _, 1, .ref c, rfl, rfl, t1, rfl, ?_⟩
    exact ⟨c2, c, ps2, ps, cs, rfl, hc2, hps2, .inl (.inl (s2 _ _ hc)), Same.prs s2 hps, ok.1, fun H' s3 => q H' ((s1.trans s2).trans s3)⟩
  · have bad : ∀ x, v = .str x → readW (sg x) = none := fun x e => by
      cases e2 : readW (sg x) with
      | none => rfl
      | some r => exact absurd ⟨x, r.1, r.2, e, e2⟩ good
    have len : ∀ x, v = .str x → x.length ≤ 100000 := fun x e => by
      subst e
      rcases odd with ⟨y, e, hy, _⟩ | ⟨T, h1, _, hT⟩
      · cases e
        exact hy
      · exfalso
        cases h1
        revert hT
        decide
    have fin : ∀ H1, Same H H1 → ∀ H', Same H1 H' → ∀ a, H' a = none → sp_lword K [.ref a] (upd H' a (ErO (.ref (He.ga K "BadText")) none a)) (fun x H1 => scal x (V.str (Str.ofString "text")) = true ∧ Q (V.bl (decide (x = V.str (Str.ofString "text")))) H1) E0 := fun H1 s1 H' s2 a na => by
      refine ⟨.ref a, "text", rfl, .inr ⟨a, none, "BadText", rfl, upd_same, .inl rfl, by unfold errWs; simp⟩, fun H2 s3 => ⟨rfl, ?_⟩⟩
      rw [decide_eq_true rfl]
      exact q H2 ((s1.trans s2).trans ((same_new na).trans s3))
    refine ⟨v, rfl, odd, (fun x e => ⟨(fun m ds z => by rw [bad x e] at z; cases z), fun _ H1 s1 => ?_⟩), fun no H1 s1 => ?_⟩
    all_goals
      refine ⟨v, T, rfl, tyb_same s1 tb, (fun x e => ⟨len x e, (fun m ds z => by rw [bad x e] at z; cases z), fun _ H' s2 => ?_⟩), fun _ H' s2 => ?_⟩
    all_goals
      refine ⟨eTW, fun a na => ?_⟩
      walk_at "ev"
      refine ⟨rfl, _, rfl, ?_⟩
      rw [decide_eq_true rfl]
      simp only [if_true]
      exact fin H1 s1 H' s2 a na
end Sw

set_option Elab.async false
set_option linter.all false
set_option maxRecDepth 100000
set_option maxHeartbeats 4000000
namespace Sw
open PySem PySem.Spec PyProof.Rows L2
local macro_rules | `(tactic| walk_at "ev") => `(tactic| simp only [tSeq, tCalW, quiet, tRzA, tRzO, tTryT, tTryK, tJoin, tJs, tBM, kStrI, kIntS, kLenS, mSplit, mPart, mIndex, tAsg, tRet, tRetN, tOp, tUn, tVar, tC, tNil, tCons, tCB, tDrop, tNext, tCont, tBreak, tIfS, tIf, tTest, tChain, tB, tTup, tLst, tAnd, tOr, tNot, tAndV, tOrV, tNotV, tPart, tNoPart, tSl, tCal, tAug, ipI, rI0, rI, rU, rEq, rNe, kMin, kMax, gName, gCons, gNil, L2.start, wipe, List.map_cons, List.map_nil, List.length_cons, List.length_nil, List.cons_append, List.nil_append, List.append_nil, Nat.reduceAdd, Nat.reduceSub, List.replicate_succ, List.replicate_zero, List.getElem?_cons_zero, List.getElem?_cons_succ, List.set_cons_succ, List.set_cons_zero, Option.some.injEq, exists_eq_left', exists_eq_left, V.int.injEq, V.bl.injEq, V.str.injEq, V.ref.injEq, List.cons.injEq, exists_and_left, and_assoc, and_true, true_and, scal_ii, scal_ss, scal_nn, scal_bb, scal_ni, scal_in, decide_eq_true_eq, Bool.not_true, Bool.not_false, Bool.not_eq_true', decide_eq_false_iff_not, ite_not, reduceCtorEq, if_true, if_false, Bool.false_eq_true, ne_eq, not_true_eq_false, not_false_eq_true, Int.reduceLT, Int.reduceLE, Int.reduceNeg])
local macro_rules | `(tactic| walk_at "cm") => `(tactic| first | exact Or.inr ⟨by decide, by decide⟩ | exact Or.inl ⟨by decide, by decide⟩ | exact Or.inl ⟨by omega, by omega⟩ | exact Or.inr ⟨by omega, by omega⟩)
variable {K : PySem.W.Frag}
theorem fork_enum {σ : L2.St} {H : Hp} {tb : TS} {D : Ends} {a : Addr} {xs : List V} {j1 j2 : Nat} (hx : SqL K H a xs) (Pv : Nat → L2.St → Hp → Prop) (h0 : Pv 0 σ H) (hl : ∀ i σ H, i ≤ xs.length → Pv i σ H → SqL K H a xs)
    (turn : ∀ i x σ H H', xs[i]? = some x → i < xs.length → Pv i σ H → Same H H' → tb { D with nx := Pv (i + 1), ct := Pv (i + 1), bk := D.nx } ((σ.set j1 (some (.int (i : Int)))).set j2 (some x)) H')
    (done : ∀ σ H, Pv xs.length σ H → D.nx σ H) : ForK (gTup K 2 (gCons (gName j1) (gCons (gName j2) gNil))) tb D σ (Ite K a) H := by
  refine it_for (n := xs.length) Pv h0 (fun i σ H hi p => ?_) (fun σ H p => ?_) (fun i σ H hi p v H' y => ?_) done
  · obtain ⟨x, hx⟩ := get_of hi
    exact ⟨xs, x, hl i σ H (Nat.le_of_lt hi) p, hx⟩
  · exact ⟨xs, hl _ σ H (Nat.le_refl _) p, Nat.le_refl _⟩
  · obtain ⟨T, x, rfl, nT, rfl, f⟩ := y
    exact g2_run (.inl (.inl upd_same)) (turn i x σ H _ (f xs (hl i σ H (Nat.le_of_lt hi) p)) hi p (same_new nT))
def Wlaw (a c : Addr) (n : Nat) (x : Str) (H : Hp) (σ : L2.St) (H' : Hp) : Prop :=
  ∃ y4 y5 y6 y7 y8 y9 y10, σ = [some (.ref a), some (.int (n : Int)), some (.ref c), some (.str x), y4, y5, y6, y7, y8, y9, y10] ∧ Same H H'
theorem at_same {H H' : Hp} {c : Addr} {n : Nat} {cs : List Cmp} (s : Same H H') (h : WebAt K H c n cs) : WebAt K H' c n cs := by
  obtain ⟨ps, h1, h2, h3⟩ := h
  exact ⟨ps, s.seq h1, Same.prs s h2, h3⟩
theorem asc_web {n : Nat} {cs : List Cmp} (ok : WebOk n cs) (n10 : n ≤ 10) : Asc (webTx n cs) ∧ 58 ∈ sg (webTx n cs) ∧ (webTx n cs).length ≤ 363 := by
  have e : sg (webTx n cs) = numT n ++ 58 :: tailT cs := rfl
  refine ⟨fun c hc => ?_, by rw [e]; simp, ?_⟩
  · rw [e] at hc
    rcases List.mem_append.mp hc with h | h
    · have := num_sign n10 c h
      omega
    · rcases List.mem_cons.mp h with h | h
      · omega
      · unfold tailT at h
        obtain ⟨l, hl, h⟩ := List.mem_flatten.mp h
        obtain ⟨d, hd, rfl⟩ := List.mem_map.mp hl
        obtain ⟨d1, d2, _⟩ := ok.2 d hd
        rcases List.mem_cons.mp h with h | h
        · omega
        · unfold cmpT at h
          rcases List.mem_append.mp h with h | h
          · have := num_sign (show d.1 ≤ 10 by omega) c h
            omega
          · rcases List.mem_cons.mp h with h | h
            · omega
            · have := num_sign (show d.2 ≤ 10 by omega) c h
              omega
  · have := web_len n cs
    have := ok.1
    omega
theorem rd_law_f1 {a c : Addr} {n : Nat} {cs : List Cmp} {H : Hp} {D : Ends} {i : Nat} {σ : L2.St} {H1 : Hp} (at0 : WebAt K H c n cs) (hW : Wlaw a c n (webTx n cs) H σ H1) :
    r_law_f1 K { nx := Wlaw a c n (webTx n cs) H, rt := D.rt, bk := D.nx, ct := Wlaw a c n (webTx n cs) H } (σ.set 4 (some (.int (i : Int)))) H1 := by
  obtain ⟨y4, y5, y6, y7, y8, y9, y10, rfl, s⟩ := hW
  have at1 := at_same s at0
  obtain ⟨ps, hc, hps, ok, n1, n10⟩ := at1
  unfold r_law_f1
  walk_at "ev"
  refine ⟨c, _, rfl, .inl hc, fun h nh => ?_⟩
  have s1 := same_new (o := .lst (Rfs ps)) nh
  have hh : SqL K (upd H1 h (.lst (Rfs ps))) h (Rfs ps) := .inl (.inl upd_same)
  generalize upd H1 h (.lst (Rfs ps)) = H2 at s1 hh
  have ath : WebAt K H2 h n cs := ⟨ps, hh, Same.prs s1 hps, ok, n1, n10⟩
  refine ⟨_, _, .good, rfl, web_good ath, (fun _ => ⟨n, h, cs, rfl, rfl, ath, fun H3 s3 => ⟨rfl, ?_⟩⟩), fun z => absurd rfl z⟩
  rw [if_pos rfl]
  refine ⟨dCs cs, dCs cs, dp_web (s3.seq hh) (Same.prs (s1.trans s3) hps), dp_web ((s1.trans s3).seq hc) (Same.prs (s1.trans s3) hps), enc_cmps.shaped (by decide) cs, enc_cmps.shaped (by decide) cs, ?_⟩
  rw [eqv_cs, decide_eq_true rfl]
  walk_at "ev"
  refine ⟨small_line (by decide), fun T nT => ⟨small_line (by decide), fun l nl => ?_⟩⟩
  have s4 := same_new (o := .tup [.int 1, .int 0]) nT
  have s5 := same_new (o := .lst [.ref T]) nl
  have at2 : WebAt K (upd (upd H3 T (.tup [.int 1, .int 0])) l (.lst [.ref T])) l 2 [(1, 0)] := ⟨[T], .inl (.inl upd_same), .cons (.inl (.inl (s5 _ _ upd_same))) .nil, ⟨by decide, fun c hc => by rw [List.mem_singleton.mp hc]; exact ⟨by decide, by decide, by decide⟩⟩, by decide, by decide⟩
  have s14 : Same H1 (upd (upd H3 T (.tup [.int 1, .int 0])) l (.lst [.ref T])) := (s1.trans s3).trans (s4.trans s5)
  generalize upd (upd H3 T (.tup [.int 1, .int 0])) l (.lst [.ref T]) = H4 at at2 s14
  refine ⟨_, _, .good, rfl, web_good at2, (fun _ => ⟨2, l, [(1, 0)], rfl, rfl, at2, fun H5 s6 => ⟨rfl, ?_⟩⟩), fun z => absurd rfl z⟩
  rw [if_pos (by decide +kernel)]
  have s15 := s14.trans s6
  have rw1 : readW (sg (webTx n cs)) = some (n, cs) := readW_web ok n1 n10
  obtain ⟨_, _, wl⟩ := asc_web ok n10
  refine ⟨_, "str", rfl, .str _, (fun y e => ?_), fun z => absurd rfl z⟩
  cases e
  refine ⟨by omega, (fun m ds e => ?_), fun e => by rw [rw1] at e; cases e⟩
  rw [rw1] at e
  cases e
  intro H6 p d qs s7 np hp nd hd hqs
  have tp : SqT K H6 p [.int (n : Int), .ref d] := .inl (.inl hp)
  refine ⟨p, _, 0, .int (n : Int), rfl, rfl, tp, rfl, ?_⟩
  walk_at "ev"
  have s17 := s15.trans s7
  refine ⟨p, _, 1, .ref d, rfl, rfl, tp, rfl, d, c, qs, ps, cs, rfl, hd, hqs, s17.seq hc, Same.prs s17 hps, ok.1, fun H7 s8 => ?_⟩
  refine ⟨true, rfl, ?_⟩
  walk_at "ev"
  have tp7 : SqT K H7 p [.int (n : Int), .ref d] := Same.sqt s8 tp
  have hd7 := s8 _ _ hd
  have ql : qs.length ≤ 60 := by
    have := hqs.length
    have := ok.1
    omega
  refine ⟨p, _, 1, .ref d, rfl, rfl, tp7, rfl, .inl ⟨rfl, _, .inl (.inl hd7)⟩, small_line (by decide), fun T2 nT2 => ?_⟩
  have s9 := same_new (o := .tup [.int 0, .int 0]) nT2
  refine ⟨d, _, _, rfl, rfl, s9 _ _ hd7, by rw [rfs_len]; exact small_lt (by omega), ?_⟩
  have ndH1 : H1 d = none := s15.free nd
  exact ⟨_, _, _, _, _, _, _, rfl, s.trans (same_mut ((s17.trans s8).trans s9) ndH1)⟩
theorem rd_law_f2 {a c : Addr} {n k : Nat} {z : Int} {cs : List Cmp} {H : Hp} {D : Ends} {σ : L2.St} {H1 H2 : Hp} (ok : WebOk n cs) (n10 : n ≤ 10) (hk : k ≤ 64) (s2 : Same H1 H2) (hW : Wlaw a c n (webTx n cs) H σ H1) :
    r_law_f2 K { nx := Wlaw a c n (webTx n cs) H, rt := D.rt, bk := D.nx, ct := Wlaw a c n (webTx n cs) H } ((σ.set 7 (some (.int (k : Int)))).set 8 (some (.int z))) H2 := by
  obtain ⟨y4, y5, y6, y7, y8, y9, y10, rfl, s⟩ := hW
  obtain ⟨asc, h58, wl⟩ := asc_web ok n10
  unfold r_law_f2
  walk_at "ev"
  refine ⟨z, (k : Int), 40, rfl, ⟨by omega, by omega⟩, ⟨by decide, by decide⟩, fun m m0 m1 => ?_⟩
  refine ⟨webTx n cs, m, rfl, m0, h58, by omega, asc, fun H3 y s3 yl ya => ?_⟩
  refine ⟨.str y, rfl, .inl ⟨y, rfl, yl, ya⟩, fun H4 s4 => ⟨true, rfl, ?_⟩⟩
  walk_at "ev"
  exact ⟨_, _, _, _, _, _, _, rfl, ((s.trans s2).trans s3).trans s4⟩
theorem rd_law_f3 {a c : Addr} {n : Nat} {m : Nat} {cs : List Cmp} {H : Hp} {D : Ends} {σ : L2.St} {H1 : Hp} (n1 : 1 ≤ n) (n10 : n ≤ 10) (hm : m ≤ 61) (hW : Wlaw a c n (webTx n cs) H σ H1) :
    r_law_f3 K { nx := Wlaw a c n (webTx n cs) H, rt := D.rt, bk := D.nx, ct := Wlaw a c n (webTx n cs) H } (σ.set 9 (some (.int (m : Int)))) H1 := by
  obtain ⟨y4, y5, y6, y7, y8, y9, y10, rfl, s⟩ := hW
  unfold r_law_f3
  walk_at "ev"
  obtain ⟨g, eg, gl⟩ : ∃ g : Nat, (if (n : Int) > 2 then (n : Int) else 2) = (g : Int) ∧ g ≤ 10 := by
    split
    · exact ⟨n, rfl, n10⟩
    · exact ⟨2, rfl, by decide⟩
  rw [eg]
  have l1 := sg_num gl
  have b3 : ((":" : Str)).length ≤ 1 := by decide +kernel
  have b4 : ((" 1-0" : Str)).length = 4 := by decide +kernel
  have a4 : ∀ c ∈ sg (" 1-0" : Str), c < 128 := by decide +kernel
  have a3 : ∀ c ∈ sg (":" : Str), c < 128 := by decide +kernel
  have an : Asc (Str.ofString (toString (g : Int))) := fun c hc => by
    rw [num_str g gl] at hc
    have := num_sign gl c hc
    omega
  have m2 := app_len (Str.ofString (toString (g : Int))) ":"
  obtain ⟨a5, b5⟩ := asc_rep a4 m
  have m3 := app_len (Str.ofString (toString (g : Int)) ++ ":") (repS " 1-0" m)
  have b6 : (" 1-0" : Str).length * m ≤ 4 * 61 := by
    rw [b4]
    exact Nat.mul_le_mul (Nat.le_refl _) hm
  refine ⟨log_small (by omega), _, _, rfl, rfl, small_line (by omega), " 1-0", m, rfl, rfl, by omega, by omega, _, _, rfl, rfl, small_line (by omega), ?_⟩
  refine ⟨_, rfl, .inl ⟨_, rfl, by omega, asc_app (asc_app an a3) a5⟩, fun H4 s4 => ⟨true, rfl, ?_⟩⟩
  walk_at "ev"
  exact ⟨_, _, _, _, _, _, _, rfl, s.trans s4⟩
theorem rd_law (vs : List V) (H : Hp) (Q : VK) (E : XK) (h : spLaw K vs H Q E) : r_law K { nx := fun _ H' => Q .non H', rt := Q } (L2.start N_law vs) H := by
  obtain ⟨a, ns, rfl, ha, hn, q⟩ := h
  unfold r_law N_law
  walk_at "ev"
  refine ⟨a, ns, rfl, ha, hn, fun H1 p c ps n cs s1 np nc hp hc hps ok n1 n7 => ?_⟩
  refine g2_run (.inl (.inl hp)) ?_
  have at1 : WebAt K H1 c n cs := ⟨ps, .inl (.inl hc), hps, ok, n1, by omega⟩
  walk_at "ev"
  refine ⟨n, c, cs, rfl, at1, fun H2 s2 => ?_⟩
  have at2 := at_same s2 at1
  have s12 := s1.trans s2
  show tFor _ _ _ _ _ _
  refine for_rng (n := 2) (fun Q q => q) (by omega) (fun i => Wlaw a c n (webTx n cs) H2) ⟨_, _, _, _, _, _, _, rfl, .refl H2⟩ (fun i σ H' hi hW => rd_law_f1 at2 hW) (fun σ H3 hW => ?_)
  obtain ⟨y4, y5, y6, y7, y8, y9, y10, rfl, s3⟩ := hW
  have s13 := s12.trans s3
  walk_at "ev"
  rw [for_def]
  unfold iEnum
  walk_at "ev"
  have ha3 := s13.seq ha
  refine ⟨a, _, rfl, ha3, fun S nS => ?_⟩
  have e63 : cutV (ns.map V.int) none (some 63) = (ns.take 63).map V.int := cut_ints_to ns 63
  rw [e63]
  have s4 := s3.trans (same_new (o := .lst ((ns.take 63).map V.int)) nS)
  have hS : upd H3 S (.lst ((ns.take 63).map V.int)) S = some (.lst ((ns.take 63).map V.int)) := upd_same
  generalize upd H3 S (.lst ((ns.take 63).map V.int)) = H4 at s4 hS
  refine ⟨small_line (by decide), fun f nf => ?_⟩
  have k5 := same_new (o := .lst [.int 3]) nf
  have s5 := s4.trans k5
  have hl63 : (ns.take 63).length ≤ 63 := by rw [List.length_take]; omega
  refine ⟨S, f, _, _, rfl, rfl, k5 _ _ hS, upd_same, small_line (by simp; omega), fun r nr => ?_⟩
  have s6 := s5.trans (same_new (o := .lst ((ns.take 63).map V.int ++ [.int 3])) nr)
  have hr : upd (upd H4 f (.lst [.int 3])) r (.lst ((ns.take 63).map V.int ++ [.int 3])) r = some (.lst ((ns.take 63 ++ [3]).map V.int)) := by
    rw [upd_same, List.map_append] <;> rfl
  generalize upd (upd H4 f (.lst [.int 3])) r (.lst ((ns.take 63).map V.int ++ [.int 3])) = H5 at s6 hr
  refine ⟨r, rfl, _, .inl (.inl hr), ?_⟩
  refine fork_enum (xs := (ns.take 63 ++ [3]).map V.int) (.inl (.inl hr)) (fun i => Wlaw a c n (webTx n cs) H5) ⟨_, _, _, _, _, _, _, rfl, .refl H5⟩ (fun i σ H' hi hW => ?_) (fun i v σ H' H'' hv hi hW s => ?_) (fun σ H6 hW => ?_)
  · obtain ⟨_, _, _, _, _, _, _, _, s⟩ := hW
    exact s.seq (.inl (.inl hr))
  · obtain ⟨z, rfl, _⟩ := ints_get hv
    rw [List.length_map, List.length_append, List.length_singleton] at hi
    exact rd_law_f2 (H := H5) ok (by omega) (by omega) s hW
  · obtain ⟨y4, y5, y6, y7, y8, y9, y10, rfl, s7⟩ := hW
    walk_at "ev"
    rw [for_def]
    unfold iTup
    walk_at "ev"
    refine ⟨small_line (by decide), fun T nT => ⟨⟨_, .inl (.inl upd_same)⟩, ?_⟩⟩
    have kT := same_new (o := .tup [.int 60, .int 61]) nT
    have hT : upd H6 T (.tup [.int 60, .int 61]) T = some (.tup [.int 60, .int 61]) := upd_same
    generalize upd H6 T (.tup [.int 60, .int 61]) = H7 at kT hT
    have s8 := s6.trans (s7.trans kT)
    refine fork_tup (xs := [.int 60, .int 61]) (.inl (.inl hT)) (fun i => Wlaw a c n (webTx n cs) H7) ⟨_, _, _, _, _, _, _, rfl, .refl H7⟩ (fun i σ H' hi hW => ?_) (fun i v σ H' hv hi hW => ?_) (fun σ H8 hW => ?_)
    · obtain ⟨_, _, _, _, _, _, _, _, s⟩ := hW
      exact Same.sqt s (.inl (.inl hT))
    · obtain ⟨m, rfl, hm⟩ : ∃ m : Nat, v = .int (m : Int) ∧ m ≤ 61 := by
        match i, hv with
        | 0, hv => exact ⟨60, (Option.some.inj hv).symm, by decide⟩
        | 1, hv => exact ⟨61, (Option.some.inj hv).symm, by decide⟩
      exact rd_law_f3 (H := H7) n1 (by omega) hm hW
    · obtain ⟨y4, y5, y6, y7, y8, y9, y10, rfl, s9⟩ := hW
      walk_at "ev"
      have s18 := (s12.trans s8).trans s9
      refine ⟨small_line (by decide), fun l nl => ?_⟩
      have k1 := same_new (o := .lst [.str "2:"]) nl
      refine fun d nd => ⟨small_line (by decide), fun t nt => ⟨small_line (by decide), fun O nO => ?_⟩⟩
      have k2 := same_new (o := .dK []) nd
      have k3 := same_new (o := .tup [.str "2:"]) nt
      have k4 := same_new (o := .lst [.non, .int 5, .ref l, .bl true, .ref d, .ref t]) nO
      have hl : upd (upd (upd (upd H8 l (.lst [.str "2:"])) d (.dK [])) t (.tup [.str "2:"])) O (.lst [.non, .int 5, .ref l, .bl true, .ref d, .ref t]) l = some (.lst [.str "2:"]) := k4 _ _ (k3 _ _ (k2 _ _ upd_same))
      have hd : upd (upd (upd (upd H8 l (.lst [.str "2:"])) d (.dK [])) t (.tup [.str "2:"])) O (.lst [.non, .int 5, .ref l, .bl true, .ref d, .ref t]) d = some (.dK []) := k4 _ _ (k3 _ _ upd_same)
      have ht : upd (upd (upd (upd H8 l (.lst [.str "2:"])) d (.dK [])) t (.tup [.str "2:"])) O (.lst [.non, .int 5, .ref l, .bl true, .ref d, .ref t]) t = some (.tup [.str "2:"]) := k4 _ _ upd_same
      have hO : upd (upd (upd (upd H8 l (.lst [.str "2:"])) d (.dK [])) t (.tup [.str "2:"])) O (.lst [.non, .int 5, .ref l, .bl true, .ref d, .ref t]) O = some (.lst [.non, .int 5, .ref l, .bl true, .ref d, .ref t]) := upd_same
      have k14 := k1.trans (k2.trans (k3.trans k4))
      generalize upd (upd (upd (upd H8 l (.lst [.str "2:"])) d (.dK [])) t (.tup [.str "2:"])) O (.lst [.non, .int 5, .ref l, .bl true, .ref d, .ref t]) = H9 at hl hd ht hO k14
      have ha9 := (s18.trans k14).seq ha
      refine ⟨a, _, rfl, ha9, fun g ng => ?_⟩
      have e2 : cutV (ns.map V.int) none (some 2) = (ns.take 2).map V.int := cut_ints_to ns 2
      rw [e2]
      have k5 := same_new (o := .lst ((ns.take 2).map V.int)) ng
      refine ⟨g, ns.take 2, rfl, .inl (.inl upd_same), ?_⟩
      refine ⟨_, _, _, rfl, ⟨by decide, by decide⟩, ⟨by decide, by decide⟩, fun m m0 m1 => ?_⟩
      generalize upd H9 g (.lst ((ns.take 2).map V.int)) = H10 at k5
      refine ⟨m, rfl, ?_⟩
      obtain ⟨j, ej, jl⟩ := drawn_at (n := m) (m := 6) (by decide)
      rw [ej]
      have odd : ∃ v, [V.non, .int 5, .ref l, .bl true, .ref d, .ref t][j]? = some v ∧ OddV K H10 v := by
        match j, jl with
        | 0, _ => exact ⟨_, rfl, .inr ⟨_, .non, .non, by simp⟩⟩
        | 1, _ => exact ⟨_, rfl, .inr ⟨_, .int _, .int _, by simp⟩⟩
        | 2, _ => exact ⟨_, rfl, .inr ⟨_, .lst (.inl (.inl (k5 _ _ hl))), .lst (k5 _ _ hl), by simp⟩⟩
        | 3, _ => exact ⟨_, rfl, .inr ⟨_, .bl _, .bl _, by simp⟩⟩
        | 4, _ => exact ⟨_, rfl, .inr ⟨_, .dK (k5 _ _ hd), .dK (k5 _ _ hd), by simp⟩⟩
        | 5, _ => exact ⟨_, rfl, .inr ⟨_, .tup (.inl (.inl (k5 _ _ ht))), .tup (k5 _ _ ht), by simp⟩⟩
        | j + 6, h => omega
      obtain ⟨v, hv, ov⟩ := odd
      refine ⟨O, _, (j : Int), v, rfl, rfl, .inl (.inl (k5 _ _ hO)), atI_nat hv, ?_⟩
      refine ⟨v, rfl, ov, fun H11 _ => ⟨true, rfl, ?_⟩⟩
      rw [if_pos rfl]
      refine ⟨.str "", rfl, .inl ⟨"", rfl, by decide +kernel, fun c hc => by rw [sg_nil2] at hc; exact nomatch hc⟩, fun H12 _ => ⟨true, rfl, ?_⟩⟩
      rw [if_pos rfl]
      have l1 := sg_num (a := n) (by omega)
      have b3 : ((":" : Str)).length ≤ 1 := by decide +kernel
      have a3 : ∀ c ∈ sg (":" : Str), c < 128 := by decide +kernel
      have an : Asc (Str.ofString (toString (n : Int))) := fun c hc => by
        rw [num_str n (by omega)] at hc
        have := num_sign (show n ≤ 10 by omega) c hc
        omega
      have m2 := app_len (Str.ofString (toString (n : Int))) ":"
      exact ⟨log_small (by omega), _, _, rfl, rfl, small_line (by omega), _, rfl, .inl ⟨_, rfl, by omega, asc_app an a3⟩, fun H13 _ => q H13⟩
end Sw

set_option Elab.async false
set_option linter.all false
set_option maxRecDepth 100000
set_option maxHeartbeats 4000000
namespace Sw
open PySem PySem.Spec PyProof.Rows L2
/-! ## The head -/
def fnL : List He.DefD := [defD "is_whole" s_iswhole, defD "is_comparer" s_iscomparer, defD "_is_line" s_isline, defD "need_lines" s_needlines, defD "need_web" s_needweb, defD "web_text" s_webtext, defD "web_of" s_webof, defD "_pair" s_pair, defD "_number" s_number, defD "_law_draw" s_ldraw, defD "_law_bricks" s_lbricks, defD "_law_comparer" s_lcomparer, defD "_law_web" s_lweb, defD "_law_is_web" s_lisweb, defD "_law_word" s_lword, defD "_law_number" s_lnumber, defD "_law_read" s_lread, defD "_law_text" s_ltext, defD "_law_bent" s_lbent, defD "_law_good" s_lgood, defD "law" s_law, metD "BadWeb" "__init__" "BadWeb.__init__" s_initBadWeb]
def faL : List He.Fa := [.glo "is_whole", .glo "is_comparer", .glo "_is_line", .glo "need_lines", .glo "need_web", .glo "web_text", .glo "web_of", .glo "_pair", .glo "_number", .glo "_law_draw", .glo "_law_bricks", .glo "_law_comparer", .glo "_law_web", .glo "_law_is_web", .glo "_law_word", .glo "_law_number", .glo "_law_read", .glo "_law_text", .glo "_law_bent", .glo "_law_good", .glo "law", .glo "BadLines", .glo "BadOrder", .glo "BadPlace", .glo "BadRow", .glo "BadText", .glo "BadWeb", .glo "NothingPut", .glo "WebError", .free "ValueError", .free "bool", .free "enumerate", .free "int", .free "isinstance", .free "len", .free "list", .free "max", .free "min", .free "range", .free "str", .free "sum", .free "tuple", .free "type", .int "MOST_COMPARERS" 60, .int "MOST_LINES" 10, .exc "BadLines", .exc "BadText", .exm "BadLines" "BadLines" true, .exm "BadLines" "BadWeb" false, .exm "BadWeb" "BadLines" false, .exm "BadWeb" "BadWeb" true, .exm "BadText" "WebError" true]
def looseL : List Str := (["WebError", "BadLines", "BadRow", "BadPlace", "BadOrder", "BadText", "NothingPut", "BadWeb", "MOST_LINES", "MOST_COMPARERS", "is_whole", "is_comparer", "_is_line", "need_lines", "need_web", "web_text", "web_of", "_pair", "_number", "_law_draw", "_law_bricks", "_law_comparer", "_law_web", "_law_is_web", "_law_word", "_law_number", "_law_read", "_law_text", "_law_bent", "_law_good"] : List Str)
def exL (K : PySem.W.Frag) : Bool := winB K "WebError" && (owB K "BadWeb" "place" && errFB K)
abbrev rowL : PySem.W.OpenRow := PySem.W.OpenLaw.row PySem.Challenge.rw_sortweb_k02_texts_of_webs
abbrev hkL : PySem.W.Hook := hookZ 5 faL fnL exL
def obL (s : PySem.W.SharedT) : He.AlD × Bool := obsZ 5 faL fnL exL (HandSHeadRun.getT s)
theorem obL_eq (s : PySem.W.SharedT) : obL s = hkL.obs s.abs := obsZ_eq (HandSHeadRun.getT_eq s)
set_option maxHeartbeats 0 in
theorem runL (w : World) : HandSHeadRun.RunEq rowL (PySem.W.view rowL.prog [34]) hkL obL 3000 looseL w := by
  intro os
  kernel_rfl
theorem law_cal (w : World) (mg : Str → Option Value) (h : Heap) (K : PySem.W.Frag) (X : K.In h) (G : h.Ns mainGlobals mg) (c : SaysZ faL fnL exL K) (base : Heap) (KB : K.In base) (GB : base.Ns mainGlobals mg) :
    Cal (PySem.Challenge.rw_sortweb_k02_texts_of_webs).prog w K mg base CX0 7 "law" ["_law_script"] (spLaw K) := by
  have b_ValueError : mg "ValueError" = none := none_of c X G 29 rfl
  have b_bool : mg "bool" = none := none_of c X G 30 rfl
  have b_enumerate : mg "enumerate" = none := none_of c X G 31 rfl
  have b_int : mg "int" = none := none_of c X G 32 rfl
  have b_isinstance : mg "isinstance" = none := none_of c X G 33 rfl
  have b_len : mg "len" = none := none_of c X G 34 rfl
  have b_list : mg "list" = none := none_of c X G 35 rfl
  have b_max : mg "max" = none := none_of c X G 36 rfl
  have b_min : mg "min" = none := none_of c X G 37 rfl
  have b_range : mg "range" = none := none_of c X G 38 rfl
  have b_str : mg "str" = none := none_of c X G 39 rfl
  have b_sum : mg "sum" = none := none_of c X G 40 rfl
  have b_tuple : mg "tuple" = none := none_of c X G 41 rfl
  have b_type : mg "type" = none := none_of c X G 42 rfl
  have c_MOST_COMPARERS : ∃ t, mg "MOST_COMPARERS" = some (.int 60 t) := int_of c X G 43 rfl
  have c_MOST_LINES : ∃ t, mg "MOST_LINES" = some (.int 10 t) := int_of c X G 44 rfl
  have G_BadLines : mg "BadLines" = some (.ref (He.ga K "BadLines")) := cls_of c X G 21 rfl
  have G_BadOrder : mg "BadOrder" = some (.ref (He.ga K "BadOrder")) := cls_of c X G 22 rfl
  have G_BadPlace : mg "BadPlace" = some (.ref (He.ga K "BadPlace")) := cls_of c X G 23 rfl
  have G_BadRow : mg "BadRow" = some (.ref (He.ga K "BadRow")) := cls_of c X G 24 rfl
  have G_BadText : mg "BadText" = some (.ref (He.ga K "BadText")) := cls_of c X G 25 rfl
  have G_BadWeb : mg "BadWeb" = some (.ref (He.ga K "BadWeb")) := cls_of c X G 26 rfl
  have G_NothingPut : mg "NothingPut" = some (.ref (He.ga K "NothingPut")) := cls_of c X G 27 rfl
  have G_WebError : mg "WebError" = some (.ref (He.ga K "WebError")) := cls_of c X G 28 rfl
  have X_BadLines : ExK K mg "BadLines" := exk_of c X G 21 45 rfl rfl
  have X_BadText : ExK K mg "BadText" := exk_of c X G 25 46 rfl rfl
  obtain ⟨e1, e2⟩ := He.ba c.x
  obtain ⟨e2, e3⟩ := He.ba e2
  have W_WebError : InK K mg "WebError" := winB_ok X G e1
  have O_BadWeb : OwK K mg "BadWeb" "place" := owB_ok X G e2
  have F : ErrF K := errFB_ok e3
  have X2 : TwoX K := ⟨exm_of' c 47 rfl, exm_of' c 48 rfl, exm_of' c 49 rfl, exm_of' c 50 rfl⟩
  have eTW : PySem.W.exmOne K (.ref (He.ga K "BadText")) (.ref (He.ga K "WebError")) = some true := exm_of' c 51 rfl
  have I_BadWeb := ok_initBadWeb (P := (PySem.Challenge.rw_sortweb_k02_texts_of_webs).prog) (w := w) (base := base) (mg := mg) (met_of c 21 rfl) W_WebError O_BadWeb
  have C_iswhole := ok_iswhole (P := (PySem.Challenge.rw_sortweb_k02_texts_of_webs).prog) (w := w) (base := base) (here_of c X G 0 0 rfl rfl) b_int b_type (fun vs H Q E h => by obtain ⟨_, _, rfl, _⟩ := h; rfl) (rd_iswhole)
  have C_number := ok_number (P := (PySem.Challenge.rw_sortweb_k02_texts_of_webs).prog) (w := w) (base := base) (here_of c X G 8 8 rfl rfl) b_range b_str c_MOST_LINES (fun vs H Q E h => by obtain ⟨_, rfl, _⟩ := h; rfl) (rd_number)
  have C_ldraw := ok_ldraw (P := (PySem.Challenge.rw_sortweb_k02_texts_of_webs).prog) (w := w) (base := base) (here_of c X G 9 9 rfl rfl)  (fun vs H Q E h => by obtain ⟨_, _, _, rfl, _⟩ := h; rfl) (rd_ldraw)
  have C_lbricks := ok_lbricks (P := (PySem.Challenge.rw_sortweb_k02_texts_of_webs).prog) (w := w) (base := base) (here_of c X G 10 10 rfl rfl) b_range (fun vs H Q E h => by obtain ⟨_, rfl, _⟩ := h; rfl) (rd_lbricks)
  have C_lcomparer := ok_lcomparer (P := (PySem.Challenge.rw_sortweb_k02_texts_of_webs).prog) (w := w) (base := base) (here_of c X G 11 11 rfl rfl) b_max b_min (fun vs H Q E h => by obtain ⟨_, _, rfl, _⟩ := h; rfl) (rd_lcomparer)
  have C_lisweb := ok_lisweb (P := (PySem.Challenge.rw_sortweb_k02_texts_of_webs).prog) (w := w) (base := base) (here_of c X G 13 13 rfl rfl) b_bool b_isinstance b_list b_tuple (fun vs H Q E h => by obtain ⟨_, _, _, _, _, rfl, _⟩ := h; rfl) (rd_lisweb)
  have C_lword := ok_lword (P := (PySem.Challenge.rw_sortweb_k02_texts_of_webs).prog) (w := w) (base := base) (here_of c X G 14 14 rfl rfl) b_ValueError b_isinstance b_len G_BadLines G_BadOrder G_BadPlace G_BadRow G_BadText G_BadWeb G_NothingPut (fun vs H Q E h => by obtain ⟨_, _, rfl, _⟩ := h; rfl) (rd_lword F)
  have C_lnumber := ok_lnumber (P := (PySem.Challenge.rw_sortweb_k02_texts_of_webs).prog) (w := w) (base := base) (here_of c X G 15 15 rfl rfl) b_int b_len (fun vs H Q E h => by obtain ⟨_, rfl, _⟩ := h; rfl) (rd_lnumber)
  have C_ltext := ok_ltext (P := (PySem.Challenge.rw_sortweb_k02_texts_of_webs).prog) (w := w) (base := base) (here_of c X G 17 17 rfl rfl) b_str (fun vs H Q E h => by obtain ⟨_, _, _, rfl, _⟩ := h; rfl) (rd_ltext)
  have C_lbent := ok_lbent (P := (PySem.Challenge.rw_sortweb_k02_texts_of_webs).prog) (w := w) (base := base) (here_of c X G 18 18 rfl rfl) b_len (fun vs H Q E h => by obtain ⟨_, _, rfl, _⟩ := h; rfl) (rd_lbent)
  have C_isline := ok_isline (P := (PySem.Challenge.rw_sortweb_k02_texts_of_webs).prog) (w := w) (base := base) (here_of c X G 2 2 rfl rfl) C_iswhole (fun vs H Q E h => by obtain ⟨_, _, _, rfl, _⟩ := h; rfl) (rd_isline)
  have C_needlines := ok_needlines (P := (PySem.Challenge.rw_sortweb_k02_texts_of_webs).prog) (w := w) (base := base) (here_of c X G 3 3 rfl rfl) C_iswhole c_MOST_LINES X_BadLines (fun vs H Q E h => by obtain ⟨_, _, rfl, _⟩ := h; rfl) (rd_needlines)
  have C_pair := ok_pair (P := (PySem.Challenge.rw_sortweb_k02_texts_of_webs).prog) (w := w) (base := base) (here_of c X G 7 7 rfl rfl) C_number (fun vs H Q E h => by obtain ⟨_, rfl, _⟩ := h; rfl) (rd_pair)
  have C_lweb := ok_lweb (P := (PySem.Challenge.rw_sortweb_k02_texts_of_webs).prog) (w := w) (base := base) (here_of c X G 12 12 rfl rfl) C_ldraw C_lbricks C_lcomparer b_enumerate b_len b_sum (fun vs H Q E h => by obtain ⟨_, _, rfl, _⟩ := h; rfl) (rd_lweb)
  have C_lread := ok_lread (P := (PySem.Challenge.rw_sortweb_k02_texts_of_webs).prog) (w := w) (base := base) (here_of c X G 16 16 rfl rfl) C_lnumber b_isinstance b_len b_max b_str (fun vs H Q E h => by obtain ⟨_, rfl, _⟩ := h; rfl) (rd_lread)
  have C_iscomparer := ok_iscomparer (P := (PySem.Challenge.rw_sortweb_k02_texts_of_webs).prog) (w := w) (base := base) (here_of c X G 1 1 rfl rfl) C_isline b_len b_tuple b_type (fun vs H Q E h => by obtain ⟨_, _, _, rfl, _⟩ := h; rfl) (rd_iscomparer)
  have C_needweb := ok_needweb (P := (PySem.Challenge.rw_sortweb_k02_texts_of_webs).prog) (w := w) (base := base) (here_of c X G 4 4 rfl rfl) C_iscomparer C_needlines b_enumerate b_len b_list b_type c_MOST_COMPARERS O_BadWeb I_BadWeb (fun vs H Q E h => by obtain ⟨_, _, _, rfl, _⟩ := h; rfl) (rd_needweb)
  have C_webtext := ok_webtext (P := (PySem.Challenge.rw_sortweb_k02_texts_of_webs).prog) (w := w) (base := base) (here_of c X G 5 5 rfl rfl) C_needweb (fun vs H Q E h => by obtain ⟨_, _, _, rfl, _⟩ := h; rfl) (rd_webtext)
  have C_webof := ok_webof (P := (PySem.Challenge.rw_sortweb_k02_texts_of_webs).prog) (w := w) (base := base) (here_of c X G 6 6 rfl rfl) C_needweb C_pair C_number b_str b_type G_BadLines G_BadWeb X_BadText (fun vs H Q E h => by obtain ⟨_, _, rfl, _⟩ := h; rfl) (rd_webof X2)
  have C_lgood := ok_lgood (P := (PySem.Challenge.rw_sortweb_k02_texts_of_webs).prog) (w := w) (base := base) (here_of c X G 19 19 rfl rfl) C_webof C_lisweb C_lword C_lread b_bool b_isinstance b_len b_tuple G_WebError (fun vs H Q E h => by obtain ⟨_, rfl, _⟩ := h; rfl) (rd_lgood eTW)
  have C_law := ok_law (P := (PySem.Challenge.rw_sortweb_k02_texts_of_webs).prog) (w := w) (base := base) (here_of c X G 20 20 rfl rfl) C_webtext C_webof C_ldraw C_lweb C_lisweb C_ltext C_lbent C_lgood b_enumerate b_list b_max b_range b_str b_sum (fun vs H Q E h => by obtain ⟨_, _, rfl, _⟩ := h; rfl) (rd_law)
  exact C_law
end Sw
open PySem PySem.W PySem.Calls PyProof.Rows
set_option maxHeartbeats 0 in
theorem PySem.Challenge.cw_sortweb_k02_texts_of_webs_holds : PySem.Challenge.rw_sortweb_k02_texts_of_webs.Holds := by
  w_on; o_law
  refine HandSHeadRun.head_any (r := OpenLaw.row PySem.Challenge.rw_sortweb_k02_texts_of_webs) (q := view (OpenLaw.row PySem.Challenge.rw_sortweb_k02_texts_of_webs).prog [34]) (H := Sw.hkL) (ob := Sw.obL) (M := 3000) (loose := Sw.looseL) (d := HandSHeadRun.topDef (OpenLaw.row PySem.Challenge.rw_sortweb_k02_texts_of_webs).prog 34) (kwd := []) Sw.obL_eq
    (by kernel_rfl) (fun s => by kernel_rfl) Sw.runL (by kernel_rfl) (by kernel_rfl) (by kernel_rfl) (by rfl) (by first | assumption | decide +kernel) (by decide +kernel) ⟨rfl, rfl, rfl, rfl, rfl, by decide +kernel⟩ ?hw ?hc
  case hw => w_witness2
  case hc => exact Sw.law_end (l := PySem.Challenge.rw_sortweb_k02_texts_of_webs) (k := 7) (fa := Sw.faL) (fn := Sw.fnL) (ex := Sw.exL) (x := "_law_script") rfl (by kernel_rfl) ⟨rfl, by decide, by decide⟩ (by kernel_rfl) Sw.law_cal

