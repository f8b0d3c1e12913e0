import PyProof.Rows.All
import Wide.All
import OpenK.AllK
import Wide.FinOn
import KE.KExcIs
import PyProof.GenCompD
import KE.DataMinMax
import HandS.ForMost
import HandS.Exc
import HandS.TryOnly
import HandS.ExcOwn
import HandS.WordsExc
import HandS.ExcInit
import HandS.ExcIs
import HandS.ExcField
import HandS.IsInst
import HandS.FStr
import HandS.AnyAll
import HandS.SortKw
import HandS.CallSlots
import HandS.EndTab
import HandS.Nested
import HandS.RaiseMore
import HandS.Zip
import HandS.Walk
import KE.KEqDeep
import HandS.Deep
import HandS.DictComp
import HandS.Conv
import HandS.Iter
import KE.KDictZip
import PyProof.EnumMake
import PyProof.Rows.SeqMore
import HandS.List
import PySem.Challenge.RW_candleroom_k02_plans_gone_through
set_option Elab.async false
set_option linter.all false
set_option maxRecDepth 100000
set_option maxHeartbeats 4000000
/-! Further rules: max with a default, max of a tuple, the base's __init__ of an own error, all of a test over a tuple of ints, a class made in a try -/
namespace Cr
open PySem PySem.Spec PyProof.Rows L2

theorem dpAll_ints {K : PySem.W.Frag} {H : Hp} : ∀ ns : List Int, DpAll K H (ns.map V.int) (ns.map PyData.int)
  | [] => .nil
  | n :: r => .cons (.int n) (dpAll_ints r)
theorem alike_ints (ns : List Int) : PySem.W.AlikeAll (ns.map PyData.int) := by
  refine ⟨fun x hx y hy => ?_, fun x hx => ?_⟩
  · obtain ⟨i, _, rfl⟩ := List.mem_map.mp hx
    obtain ⟨j, _, rfl⟩ := List.mem_map.mp hy
    rfl
  · obtain ⟨i, _, rfl⟩ := List.mem_map.mp hx
    intro h
    cases h
theorem depth_ints : ∀ ns : List Int, PyData.depthAll (ns.map PyData.int) ≤ 1
  | [] => by simp [PyData.depthAll]
  | n :: r => by
    have ih := depth_ints r
    rw [List.map_cons]
    simp only [PyData.depthAll, PyData.depth]
    omega
theorem reads_int {h : Heap} {v : Value} {i : Int} {as : List Addr} (r : Reads h v (.int i) as) : ∃ t, v = .int i t := by
  cases r with
  | int i t => exact ⟨t, rfl⟩
section
variable {X : Cx}
/-- max(xs, default=d) of a list of ints -/
def rMaxDf (K : PySem.W.Frag) : List V → List V → Hp → VK → Prop := fun vs zs H Q => ∃ (a : Addr) (ns : List Int) (d : V), vs = [.ref a] ∧ zs = [d] ∧ SqL K H a (ns.map V.int) ∧ (ns = [] → Q d H) ∧ ∀ n r, ns = n :: r → Q (.int (r.foldl max n)) H
theorem cr_maxDf (hc : X.calm = true) (hu : X.A.units + 64 < cLine) : CallRK X (.builtin "max") [("default" : Str)] (rMaxDf X.K) := by
  intro pins s σ H xs zs us ws Q I r1 r2 h
  obtain ⟨a, ns, d, rfl, rfl, hs, h0, h1⟩ := h
  obtain ⟨its, rv, hl, _⟩ := I.list hs
  rw [Vals.ref1 r1]
  obtain ⟨u, rfl, ru⟩ := vals1 r2
  obtain ⟨as, hr⟩ := Dp.readsAll I (ns.map .int) _ its (dpAll_ints ns) rv
  have hd := depth_ints ns
  show wpAny _ _ (call (.builtin "max") [.ref a] [(Str.ofString "default", u)]) _ _ _
  refine PySem.W.max_list_default (I.ok.hd hc) hl.isList (by simpa using hr) (alike_ints ns) (by omega) (fun e h' tk k => ?_) (fun y ys i v h' tk bs e hv hrd k => ?_)
  · exact ⟨d, H, I.kept k, ru, h0 (List.map_eq_nil_iff.mp e)⟩
  · cases ns with
    | nil => cases e
    | cons n r =>
      obtain ⟨rfl, rfl⟩ := List.cons.inj e
      rw [PySem.W.maxD_ints] at hrd
      obtain ⟨t, rfl⟩ := reads_int hrd
      exact ⟨.int _, H, I.kept k, ⟨t, rfl⟩, h1 n r rfl⟩
/-- max(t) of a tuple of ints -/
def rMaxT (K : PySem.W.Frag) : List V → Hp → VK → Prop := fun vs H Q => ∃ (a : Addr) (n : Int) (r : List Int), vs = [.ref a] ∧ SqT K H a ((n :: r).map V.int) ∧ Q (.int (r.foldl max n)) H
theorem cr_maxT (hc : X.calm = true) (hu : X.A.units + 64 < cLine) : CallR X (.builtin "max") (rMaxT X.K) := by
  intro pins s σ H xs us Q I r1 h
  obtain ⟨a, n, r, rfl, hs, h1⟩ := h
  obtain ⟨its, rv, ht, _⟩ := I.tuple hs
  rw [Vals.ref1 r1]
  obtain ⟨as, hr⟩ := Dp.readsAll I ((n :: r).map .int) _ its (dpAll_ints (n :: r)) rv
  have hd := depth_ints (n :: r)
  obtain ⟨o, ho, hc1, m, hd1⟩ := ht
  refine PySem.W.max_tuple_data (x := .int n) (xs := r.map .int) (I.ok.hd hc) ⟨o, ho, hc1, ⟨m, hd1⟩⟩ (by simpa using hr) (alike_ints (n :: r)) (by rw [List.map_cons] at hd; omega) (fun i v h' tk bs hv hrd k => ?_)
  rw [PySem.W.maxD_ints] at hrd
  obtain ⟨t, rfl⟩ := reads_int hrd
  exact ⟨.int _, H, I.kept k, ⟨t, rfl⟩, h1⟩
end

/-! ### the base's __init__ -/
/-- what the written part says of a base class of own errors whose __init__ is ValueError's -/
structure BaseI (K : PySem.W.Frag) (C : Addr) (mc : Value) : Prop where
  rd : PySem.W.readsIn K C mc = true
  ga : PySem.W.specialIn K (.ref C) "__getattribute__" = some (some (.builtin "type.__getattribute__"))
  iv : PySem.W.findCls K (.ref C) mc "__init__" = some (.val (.builtin "ValueError.__init__"))
section
variable {X : Cx} {e : Expr} {es : List Expr} {ta : TA} {x : Str} {p1 p2 pos : Pos} {C : Addr} {mc : Value}
theorem pe_baseinit {pl : Sem Bool} (T : BaseI X.K C mc) (hg : Gl X x) (hm : X.mg x = some (.ref C)) (ha : PA X (e :: es) ta) (hdb : (x == ("__debug__" : Str)) = false := by decide)
    (hc : eval (.Call (.Attribute (.Name x p1) "__init__" p2) (e :: es) [] pos) X.env = (do
      let ov ← eval (.Name x p1) X.env
      standAt p2.atName
      let (f, first) ← holding [ov] (getMethod ov "__init__" pl)
      callWith pos f first (backTo pos (starEach (e :: es) X.env)) (backToKw pos (keywordEach [] X.env))) := by rfl)
    (he : starEach (e :: es) X.env = (false, eval e X.env) :: starEach es X.env := by rfl) (hpl : (backTo pos (starEach es X.env)).any (·.1) = false := by rfl) :
    PE X (.Call (.Attribute (.Name x p1) "__init__" p2) (e :: es) [] pos) (tVeI X.K ta) := by
  refine ⟨fun pins s σ H Q I h => ?_⟩
  refine PySem.W.methodCall_KW (ld_glob I hg hm ?_ hdb) hc
  refine PySem.W.method_cls I.kIn T.ga (PySem.W.cls_value I.kIn T.rd T.iv (by decide) (PyProof.Rows.callWith_method1 (thn (ha.run pos pins _ σ H _ (I.tok _) h) ?_) he hpl))
  rintro us s1 ⟨_, H1, I1, r1, a, D, ws, rfl, hl, O, ea, q⟩
  cases r1 with
  | cons ra rest =>
    cases ra
    exact oinit_ok O I1 ea (by have := Paired.length rest; rw [sizeLine_eq]; omega) fun s' J => ⟨.non, H1, J, rfl, q⟩
end

/-! ### a class made where what is raised is wished for at the slots (in a try) -/
section
variable {X : Cx} {CX : CXT} {k : Nat} {f C : Addr} {fd : FuncData} {ps : List Str} {sp : Sp} {dvs : List V} {ds : List Value} {E : L2.St → XK} {x : Str} {p pos : Pos} {e : Expr} {es : List Expr} {t : TA}
def tMakeS (C : Addr) (sp : Sp) (dvs : List V) (E : L2.St → XK) (t : TA) : TE := fun σ H Q => t σ H fun vs H1 => ∀ x dx, H1 x = none → H1 dx = none → dx ≠ x →
  sp (.ref x :: (vs ++ dvs)) (upd (upd H1 dx (.own x)) x (.ins C dx [])) (fun v H2 => v = .non ∧ Q (.ref x) H2) (E σ)
theorem pe_makeS (M : Mk X.K C f) (F : FnOk X.prog X.w X.K X.mg X.base CX k f fd ps sp) (hr : Room (k + 1) X.A) (hg : Gl X x) (hm : X.mg x = some (.ref C)) (hb : Binds X.K fd ps ds) (hd : Vals dvs ds) (hx : ∀ σ, PassesAt CX X σ (E σ))
    (ha : PA X (e :: es) t) (hdb : (x == ("__debug__" : Str)) = false := by decide) (he : starEach (e :: es) X.env = (false, eval e X.env) :: starEach es X.env := by rfl) (hpl : (backTo pos (starEach es X.env)).any (·.1) = false := by rfl) :
    PE X (.Call (.Name x p) (e :: es) [] pos) (tMakeS C sp dvs E t) := by
  refine ⟨fun pins s σ H Q I h => ?_⟩
  refine wpAny_Call_Name_kw (ld_glob I hg hm ?_ hdb)
  refine PySem.W.callWith_K (h₀ := X.base) I.ok.mod.kin M.kp (thn (ha.run pos pins s σ H _ I h) fun us s1 ⟨vs, H1, I1, r, q⟩ => ⟨I1.kIn, ?_⟩) he hpl
  have hq := q (s1.heap.objs.size + 1) s1.heap.objs.size (I1.hok.fresh (Nat.le_succ _)) (I1.hok.fresh (Nat.le_refl _)) (Nat.ne_of_lt (Nat.lt_succ_self _))
  have I2 := Inv.made (C := C) I1
  have r2 : Vals (V.ref (s1.heap.objs.size + 1) :: (vs ++ dvs)) (Value.ref (s1.heap.objs.size + 1) :: (us ++ ds)) := .cons rfl (r.append hd)
  have hl : (Value.ref (s1.heap.objs.size + 1) :: us ++ ds).length = ps.length := by
    have e := r2.length
    rw [F.len _ _ _ _ hq] at e
    exact e.symm
  refine wpAny_call (make_map (f := f) I1.kIn M.makes M.init (beq_iff_eq.mp M.fn) (codeAny_mono (F.run _ X.stack _ _ ⟨Value.ref (s1.heap.objs.size + 1) :: us, []⟩ (Value.ref (s1.heap.objs.size + 1) :: (us ++ ds)) _ _ (E σ) (hr.make C us [])
    (I2.env0.make C us []) (hb _ (Value.ref (s1.heap.objs.size + 1) :: us) I2.kIn hl) r2 hq) fun r s' hq' => ?_))
  cases r with
  | error e => exact hx σ pins _ _ e s' I2 hq'
  | ok fl =>
    cases fl with
    | ret u =>
      obtain ⟨v, H', I3, rv, ev, q3⟩ := I2.after hq'
      subst ev
      exact ⟨rv, ⟨V.ref (s1.heap.objs.size + 1), H', I3, rfl, q3⟩⟩
    | next => exact False.elim hq'
    | brk => exact False.elim hq'
    | cont => exact False.elim hq'
end
end Cr
set_option Elab.async false
set_option linter.all false
set_option maxRecDepth 100000
set_option maxHeartbeats 4000000
/-! all(test for x in xs): one rule, whatever xs is (a list, a tuple), for tests that only look -/
namespace Cr
open PySem PySem.Spec PyProof.Rows L2

/-- what the object at a gives to whoever walks over it: C says that it stands, T where its walker is -/
structure Src (prog : Program) (w : World) (a : Addr) (items : Array Value) (it : Obj) (C : Heap → Prop) (T : Nat → Heap → Addr → Prop) : Prop where
  begins : ∀ {A : Around} {s : Shared} {Q E : Value → Shared → Prop}, C s.heap → Q (.ref s.heap.objs.size) { s with heap := s.heap.push it } → wpAny (model prog w) A (pyIter (.ref a)) Q E s
  walks : ∀ (A : Around) (I : Addr), A.handled = none → a ≠ I → Walks prog w A I [I, a] [I] items.size (fun i v => items[i]? = some v) (fun i h => T i h I ∧ C h)
  first : ∀ h : Heap, T 0 (h.push it) h.objs.size
  stay : ∀ {h h' : Heap}, (∀ o, h.get? a = some o → h'.get? a = some o) → C h → C h'
  here : ∀ h, C h → ∃ o, h.get? a = some o ∧ ∀ vs, o.data ≠ .fields vs
variable {prog : Program} {w : World} {a : Addr} {items : Array Value}
theorem src_list : Src prog w a items { cls := .type "list_iterator", data := .fields #[.ref a, .int 0 0] } (fun h => h.IsList a items) (fun i h I => h.IsListIter I a i) where
  begins hc hq := wpAny_pyIter_list hc hq
  walks A I hA hne := Walks.list hA I a hne items
  first h := ⟨_, Heap.get?_push_size _ rfl, rfl, rfl⟩
  stay k hc := hc.at k
  here := fun h ⟨o, e, _, _, hd⟩ => ⟨o, e, fun vs z => by rw [hd] at z; cases z⟩
theorem src_tup : Src prog w a items { cls := .type "tuple_iterator", data := .fields #[.ref a, .int 0 0] } (fun h => h.IsTuple a items) (fun i h I => h.IsTupleIter I a i) where
  begins hc hq := wpAny_pyIter_tuple hc hq
  walks A I hA hne := Walks.tuple hA I a hne items
  first h := ⟨_, Heap.get?_push_size _ rfl, rfl, rfl⟩
  stay k hc := hc.at k
  here := fun h ⟨o, e, _, _, hd⟩ => ⟨o, e, fun vs z => by rw [hd] at z; cases z⟩

/-- from h to h' all stands but the table at P, which has grown by whole entries -/
structure Since (P : Addr) (ps : Array Value) (h h' : Heap) : Prop where
  up : ∀ b u, b ≠ P → h.get? b = some u → h'.get? b = some u
  tab : ∃ more, h'.get? P = some { cls := .none, data := .fields (ps ++ more) } ∧ TriplesOk (ps ++ more).toList
  size : h.objs.size ≤ h'.objs.size
section
variable {X : Cx} {pins : List (Addr × Obj)} {σ : L2.St} {H : Hp} {s : Shared} {c P : Addr} {ps : Array Value}
/-- the generator's code: it stands in the table, or is put there -/
theorem code_made {pos : Pos} {q : Str} {scope : Scope} {Q E : Value → Shared → Prop} (hcode : X.env.code = .ref c) (hd : PySem.W.CodeHd s.heap c P) (hP : s.heap.get? P = some { cls := .none, data := .fields ps }) (ht : TriplesOk ps.toList)
    (hQ : ∀ v h' tk, Since P ps s.heap h' → Q v { s with heap := h', toks := tk }) : wpAny (model X.prog X.w) X.A (genexprCode X.env pos q scope) Q E s := by
  match e : codeAmong pos ps.toList with
  | some v => exact wpAny_genexprCode_hit hcode (hd.code hP ht) e (hQ v s.heap s.toks ⟨fun _ _ _ z => z, ⟨#[], by simpa using hP, by simpa using ht⟩, Nat.le_refl _⟩)
  | none =>
    refine wpAny_genexprCodeX hcode (hd.code hP ht) (hd.tab hP) e fun c' h' tk up lo hi isC _ tab _ => hQ _ h' tk ⟨up, ⟨_, tab.2, ?_⟩, by omega⟩
    obtain ⟨_, _, _, _, _, _, _, _, _, _, _, _, _, _, _, _, _, _, _, tri, _⟩ := isC
    exact tri
/-- where a test runs: the names around it, and what stands of what was -/
structure Seen (X : Cx) (P : Addr) (scope : Scope) (cenv : Env) (s₁ s₂ : Shared) : Prop where
  sc : cenv.scope = scope
  gl : cenv.globals = mainGlobals
  bl : cenv.builtins = builtinsNs
  cells : cenv.cells = cloFrom X.env.cells scope.names []
  up : ∀ b u, b ≠ P → s₁.heap.get? b = some u → s₂.heap.get? b = some u
/-- the test looks at the item at place j and tells tr j -/
def Looks (X : Cx) (P : Addr) (scope : Scope) (x : Str) (elt : Expr) (s₁ : Shared) (vs : List V) (tr : Nat → Bool) : Prop :=
  ∀ (cenv : Env) (A : Around) (E : Value → Shared → Prop) (j : Nat) (v : V) (u : Value) (s₂ : Shared) (m : Str → Option Value), A.depth ≤ X.A.depth + 1 → Seen X P scope cenv s₁ s₂ → vs[j]? = some v → RelV v u →
    s₂.heap.Ns cenv.locals m → m x = some u → wpAny (model X.prog X.w) A (eval elt cenv) (fun y s₃ => y = .bool (tr j) ∧ Keeps s₂ s₃) E s₂
/-- the table is none of the things that the program's head has left -/
theorem tab_apart (I : Inv X pins σ H s) (hP : H P = some (.tbl ps)) {b : Addr} {u : Obj} (e : X.base.get? b = some u) : b ≠ P := fun z => by
  cases (show H P = none from z ▸ (I.bs b u e).2).symm.trans hP
theorem Seen.base {scope : Scope} {cenv : Env} {s₂ : Shared} (Z : Seen X P scope cenv s s₂) (I : Inv X pins σ H s) (hP : H P = some (.tbl ps)) {b : Addr} {u : Obj} (e : X.base.get? b = some u) : s₂.heap.get? b = some u :=
  Z.up b u (tab_apart I hP e) (I.bk b u e)
theorem Seen.globals {scope : Scope} {cenv : Env} {s₂ : Shared} (Z : Seen X P scope cenv s s₂) (I : Inv X pins σ H s) (hP : H P = some (.tbl ps)) : s₂.heap.Ns mainGlobals X.mg :=
  I.mod.glob.keeps fun _ _ => Z.base I hP
/-- a list or a tuple at v, with the items vs -/
def Walked (K : PySem.W.Frag) (H : Hp) (v : V) (vs : List V) : Prop := ∃ a, v = .ref a ∧ (SqL K H a vs ∨ SqT K H a vs)
theorem src_of (I : Inv X pins σ H s) {a : Addr} {vs : List V} (h : SqL X.K H a vs ∨ SqT X.K H a vs) :
    ∃ (items : Array Value) (it : Obj) (C : Heap → Prop) (T : Nat → Heap → Addr → Prop), Src X.prog X.w a items it C T ∧ C s.heap ∧ items.size = vs.length ∧ ∀ (i : Nat) u, items[i]? = some u → ∃ y, vs[i]? = some y ∧ RelV y u := by
  have rel : ∀ {its : List Value}, Vals vs its → ∀ (i : Nat) u, its.toArray[i]? = some u → ∃ y, vs[i]? = some y ∧ RelV y u := fun {its} rv i u e => by
    have e : its[i]? = some u := by simpa using e
    have lt := (List.getElem?_eq_some_iff.mp e).1
    rw [← rv.length] at lt
    obtain ⟨u', e', r⟩ := rv.get (List.getElem?_eq_getElem lt)
    cases e.symm.trans e'
    exact ⟨_, List.getElem?_eq_getElem lt, r⟩
  rcases h with h | h
  · obtain ⟨its, rv, hl, _⟩ := I.list h
    exact ⟨_, _, _, _, src_list, hl.isList, by rw [List.size_toArray, rv.length], rel rv⟩
  · obtain ⟨its, rv, hl, _⟩ := I.tuple h
    exact ⟨_, _, _, _, src_tup, hl, by rw [List.size_toArray, rv.length], rel rv⟩
/-- the generator is made; whoever takes it may walk it, and finds the frame as it was but for the table -/
theorem made {elt iter : Expr} {x : Str} {px pos : Pos} {scope : Scope} {te : TE} {k : Nat} {Q : Value → Shared → Prop} {κ : VK} (hr : Room k X.A) (TB : GxR.TabB X.base X.mg c P) (hcode : X.env.code = .ref c) (S : GxR.GenS X.env scope x) (hi : PE X iter te)
    (hs : ∀ v, genFold iter X.env v = pure v) (I : Inv X pins σ H s) (h : te σ H κ)
    (src : ∀ v H1, κ v H1 → ∃ vs tr, Walked X.K H1 v vs ∧ GxR.TabG H1 P ∧ (∀ ps s1, H1 P = some (.tbl ps) → Inv X pins σ H1 s1 → Looks X P scope x elt s1 vs tr) ∧
      ∀ g s5 fp wr G F St, WalksS X.prog X.w X.A.in1 g fp wr G vs.length F St → St 0 s5 → TruthOf X.prog X.w X.A.in1 F tr → (∀ s', Moved wr G s5 s' → ∃ H2, GxR.Tabbed P H1 H2 ∧ Inv X pins σ H2 s') → Q (.ref g) s5) :
    wpAny (model X.prog X.w) X.A (eval (.GeneratorExp elt [⟨.Name x px, iter, [], 0⟩] scope pos) X.env) Q X.xe s := by
  refine wpAny_GeneratorExp_walksQD hr.hd S.co (closure_ok S.free) S.cell S.dot S.loc S.kind (by have := hr.dp; omega) (thn (hi.run pins s σ H _ I h) ?_) hs
  intro u s1 ⟨v, H1, I1, r1, q⟩
  obtain ⟨vs, tr, ⟨a, rfl, hw⟩, ⟨ps, hP, ht⟩, look, fin⟩ := src v H1 q
  cases (show u = .ref a from r1)
  obtain ⟨items, it, C, T, so, hC, sz, rel⟩ := src_of I1 hw
  refine so.begins hC ⟨I1.nolimit.push it, ?_⟩
  have pAt := I1.hok P _ hP
  obtain ⟨oa, ea, na⟩ := so.here _ hC
  have aP : a ≠ P := fun z => na ps (by rw [z] at ea; cases pAt.symm.trans ea; rfl)
  have push : ∀ b u, s1.heap.get? b = some u → (s1.heap.push it).get? b = some u := fun b u e => Heap.get?_push_of_some _ e
  refine code_made hcode (TB.code.keeps fun b u e => push b u (I1.bk b u e)) (push _ _ pAt) ht fun cv h3 tk S3 => ?_
  have up : ∀ b u, b ≠ P → s1.heap.get? b = some u → h3.get? b = some u := fun b u hb e => S3.up b u hb (push b u e)
  have lt : s1.heap.objs.size < h3.objs.size := by
    have := S3.size
    rw [Heap.size_push] at this
    exact this
  have old : ∀ {b u}, s1.heap.get? b = some u → b < h3.objs.size := fun e => Nat.lt_trans (Heap.lt_size e) lt
  have fresh : ∀ {b u}, s1.heap.get? b = some u → b ≠ s1.heap.objs.size := fun e => Nat.ne_of_lt (Heap.lt_size e)
  have Z3 : ∀ {b u}, X.base.get? b = some u → h3.get? b = some u := fun {b u} e => up b u (tab_apart I1 hP e) (I1.bk b u e)
  -- the built-ins are the boot's own
  obtain ⟨bm, ob, e1, e2, _, _, e5, e6, e7, e8⟩ := TB.bm
  refine wpAny_builtinsFor (m := X.mg) (by rw [I1.ok.glob]; exact I1.mod.glob.keeps fun _ _ => Z3) e1 e2 (Z3 e5) e6 e7 e8 ?_
  obtain ⟨_, ⟨oc, _, _, ec, _⟩, _⟩ := id I1.nolimit
  have cP : cStatics ≠ P := fun z => by
    obtain ⟨_, ⟨o', _, _, e', hd, _⟩, _⟩ := id I1.nolimit
    rw [z, pAt] at e'
    cases e'
    cases hd
  have lim : h3.NoLimit := (I1.nolimit.push it).extBut S3.up cP
  have ready : T 0 h3 s1.heap.objs.size ∧ C h3 := by
    refine (so.walks X.A _ hr.hd (fresh ea)).frame 0 (s1.heap.push it) h3 ⟨so.first _, so.stay (fun o => push a o) hC⟩ fun b hb o e => S3.up b o (fun z => ?_) e
    rcases List.mem_cons.mp hb with y | y
    · exact absurd (z ▸ y) (fresh pAt)
    · exact aP (z ▸ (List.mem_singleton.mp y).symm)
  refine ⟨s1.heap.objs.size, [s1.heap.objs.size, a], [s1.heap.objs.size], items.size, _, _, fun _ => true, fun i y => y = .bool (tr i), rfl, fun A hA => so.walks A _ hA (fresh ea), ready, ?_, lim, fun z => fresh ec (List.mem_singleton.mp z), fun href keep => ⟨?_, ?_⟩, ?_⟩
  · simp only [List.mem_cons, List.not_mem_nil, or_false, forall_eq_or_imp, forall_eq]
    exact ⟨lt, old ea⟩
  · intros
    simp only [List.forIn_nil]
    exact wpAny_pure ⟨rfl, GxR.keeps_refl _⟩
  · intro A E i u s2 m _ dp _ hu _ hn hm stands
    obtain ⟨y, hy, r⟩ := rel i u hu
    refine look ps s1 hP I1 _ A E i y u s2 m dp ⟨rfl, I1.ok.glob, rfl, rfl, fun b o hb e => ?_⟩ hy r hn hm
    exact stands b (List.mem_range.mpr (old e)) (fun z => fresh e (List.mem_singleton.mp z)) o (keep b o (up b o hb e))
  · intro g h5 tk5 gs bare hg _ keep W begun
    have num : (passing (fun _ => true) items.size 0).length = vs.length := by rw [GxR.passing_true, List.length_range, sz]
    refine fin g _ _ _ _ _ _ (num ▸ W.in4_1) begun ?_ fun s' mv => ?_
    · rintro j y s6 Q6 E6 ⟨i, hi, rfl⟩ hq
      rw [GxR.passing_true] at hi
      obtain ⟨_, ej⟩ := List.getElem?_eq_some_iff.mp hi
      rw [List.getElem_range] at ej
      exact wpAny_truthy_bool (ej ▸ hq)
    · obtain ⟨more, hm, tri⟩ := S3.tab
      have far : ∀ {b u}, s1.heap.get? b = some u → b ∉ [h3.objs.size, s1.heap.objs.size] := fun e z => by
        simp only [List.mem_cons, List.not_mem_nil, or_false] at z
        rcases z with z | z
        · exact Nat.ne_of_lt (old e) z
        · exact fresh e z
      have J := GxR.inv_tab (more := more) (h' := s'.heap) (g' := s'.gens) (d' := s'.drawn) (t' := s'.toks) I1 hP (fun b u hb e => mv.heap b u (far e) (keep b u (up b u hb e))) (mv.heap P _ (far pAt) (keep P _ hm)) (AllBare.movedS (I1.bare.push bare) mv)
      exact ⟨_, ⟨⟨_, upd_same, tri⟩, fun b hb => upd_ne hb⟩, GxR.sh_eta s1 s' mv.os ▸ J⟩
/-- all(..): the built-in itself, over such a generator -/
theorem pe_all {elt iter : Expr} {x : Str} {px p pos gpos : Pos} {scope : Scope} {te t : TE} {k : Nat} (hr : Room k X.A) (hg : Gl X "all") (hm : X.mg "all" = none) (hb : bootBuiltins "all" = some (.builtin "all"))
    (TB : GxR.TabB X.base X.mg c P) (hcode : X.env.code = .ref c) (S : GxR.GenS X.env scope x) (hi : PE X iter te) (hs : ∀ v, genFold iter X.env v = pure v)
    (conv : ∀ σ H Q, t σ H Q → ∃ κ : VK, te σ H κ ∧ ∀ v H1, κ v H1 → ∃ vs tr, Walked X.K H1 v vs ∧ GxR.TabG H1 P ∧ (∀ pins ps s1, H1 P = some (.tbl ps) → Inv X pins σ H1 s1 → Looks X P scope x elt s1 vs tr) ∧ ∀ H2, GxR.Tabbed P H1 H2 → Q (.bl ((List.range vs.length).all tr)) H2)
    (he : starEach [.GeneratorExp elt [⟨.Name x px, iter, [], 0⟩] scope gpos] X.env = [(false, eval (.GeneratorExp elt [⟨.Name x px, iter, [], 0⟩] scope gpos) X.env)]) :
    PE X (.Call (.Name "all" p) [.GeneratorExp elt [⟨.Name x px, iter, [], 0⟩] scope gpos] [] pos) t := by
  refine ⟨fun pins s σ H Q I h => wpAny_Call_Name_kw (ld_blt I hg hm hb (PyProof.Rows.callWith_builtin1 ?_ he (by rfl)))⟩
  obtain ⟨κ, hκ, out⟩ := conv σ H Q h
  rw [he]
  refine Calls.spliced_cons (made hr TB hcode S hi hs I hκ fun v H1 q => ?_)
  obtain ⟨vs, tr, hw, hT, look, fin⟩ := out v H1 q
  refine ⟨vs, tr, hw, hT, look pins, fun g s5 fp wr G F St W st truth back => Calls.spliced_nil (call_all_walkS (W.self 0 _ _ _ st ⟨g, fp, wr, G, vs.length, F, St, tr, rfl, W, st, truth, fun s' mv => ?_⟩))⟩
  obtain ⟨H2, hT2, J⟩ := back s' mv
  exact ⟨.bl _, H2, J, rfl, fin H2 hT2⟩
end
theorem all_range {α : Type} (l : List α) (p : α → Bool) (t : Nat → Bool) (h : ∀ j x, l[j]? = some x → t j = p x) : (List.range l.length).all t = l.all p := by
  rw [Bool.eq_iff_iff, List.all_eq_true, List.all_eq_true]
  refine ⟨fun a x hx => ?_, fun a j hj => ?_⟩
  · obtain ⟨j, hj, rfl⟩ := List.getElem_of_mem hx
    rw [← h j _ (List.getElem?_eq_getElem hj)]
    exact a j (List.mem_range.mpr hj)
  · have hj' := List.mem_range.mp hj
    rw [h j _ (List.getElem?_eq_getElem hj')]
    exact a _ (List.getElem_mem hj')
/-- a test of items that is no matter of places -/
def byItem (l : List V) (pb : V → Bool) (j : Nat) : Bool := ((l[j]?).map pb).getD false
theorem byItem_at {l : List V} {pb : V → Bool} {j : Nat} {v : V} (h : l[j]? = some v) : byItem l pb j = pb v := by simp [byItem, h]
theorem all_byItem (l : List V) (pb : V → Bool) : (List.range l.length).all (byItem l pb) = l.all pb := all_range l pb _ fun _ _ e => byItem_at e
/-- the element: a test of an item that asks only the item and the module's names -/
def EltV (X : Cx) (scope : Scope) (x : Str) (elt : Expr) (Pz : V → Prop) (pb : V → Bool) : Prop :=
  ∀ (cenv : Env) (A' : Around) (E' : Value → Shared → Prop) (v : V) (u : Value) (s₂ : Shared) (m₂ : Str → Option Value), cenv.scope = scope → cenv.globals = mainGlobals → s₂.heap.Ns mainGlobals X.mg → Pz v → RelV v u → s₂.heap.Ns cenv.locals m₂ → m₂ x = some u →
    wpAny (model X.prog X.w) A' (eval elt cenv) (fun y s₃ => y = .bool (pb v) ∧ Keeps s₂ s₃) E' s₂
/-- lo <= x <= N, N a number of the module -/
theorem elt_between {X : Cx} {scope : Scope} {x g : Str} {lo hi : Int} {tk : Tok} {j : Nat} {p1 p2 p3 p4 : Pos} (hk : scope.kind = .function) (hl : scope.names.lookup x = some .local) (hgl : scope.names.lookup g = some .globalImplicit) (hm : X.mg g = some (.int hi tk))
    (hd : (x == ("__debug__" : Str)) = false := by decide) (hd2 : (g == ("__debug__" : Str)) = false := by decide) :
    EltV X scope x (.Compare (.Constant (.int lo) j p1) [.LtE, .LtE] [.Name x p2, .Name g p3] p4) (fun v => ∃ i, v = .int i) (fun v => match v with | .int i => decide (lo ≤ i) && decide (i ≤ hi) | _ => false) := by
  intro cenv A' E' v u s₂ m₂ hs hgl' hns hz ru hn hx
  obtain ⟨i, rfl⟩ := hz
  obtain ⟨t, rfl⟩ := ru
  have kk : ∀ k : Nat, Keeps s₂ { s₂ with toks := k } := fun k => ⟨s₂.heap, k, rfl, fun _ _ e => e⟩
  have hkf : cenv.scope.kind = .function := hs ▸ hk
  refine Compare_chain (wpAny_Constant_int (chain_link (wpAny_Name (wpAny_loadName_local hkf (show cenv.scope.names.lookup x = _ from hs ▸ hl) hn hx (PyProof.Rows.le_int (wpAny_truthy_bool ?_))) hd))) (by with_unfolding_all rfl)
  by_cases h1 : lo ≤ i
  · rw [decide_eq_true h1]
    refine ite_tt (chain_last (Calls.Name_function_global hkf (show cenv.scope.names.lookup g = _ from hs ▸ hgl) (Calls.loadGlobal_global (hgl' ▸ hns) hm (PyProof.Rows.le_int ⟨?_, kk _⟩)) hd2))
    simp [h1]
  · rw [decide_eq_false h1]
    refine ite_ff ⟨?_, kk _⟩
    simp [h1]
/-- all(test for x in e), e a tuple; behind it the def's table may have grown -/
def tAllT (K : PySem.W.Frag) (P : Addr) (Pz : V → Prop) (pb : V → Bool) (te : TE) : TE := fun σ H Q => te σ H fun v H1 => ∃ (a : Addr) (vs : List V), v = .ref a ∧ SqT K H1 a vs ∧ (∀ v ∈ vs, Pz v) ∧ GxR.TabG H1 P ∧ ∀ H2, GxR.Tabbed P H1 H2 → Q (.bl (vs.all pb)) H2
theorem pe_allT {X : Cx} {c P : Addr} {elt iter : Expr} {x : Str} {px p pos gpos : Pos} {scope : Scope} {Pz : V → Prop} {pb : V → Bool} {te : TE} {k : Nat} (hr : Room k X.A) (hg : Gl X "all") (hm : X.mg "all" = none) (hb : bootBuiltins "all" = some (.builtin "all"))
    (TB : GxR.TabB X.base X.mg c P) (hcode : X.env.code = .ref c) (S : GxR.GenS X.env scope x) (hi : PE X iter te) (hel : EltV X scope x elt Pz pb) (hs : ∀ v, genFold iter X.env v = pure v)
    (he : starEach [.GeneratorExp elt [⟨.Name x px, iter, [], 0⟩] scope gpos] X.env = [(false, eval (.GeneratorExp elt [⟨.Name x px, iter, [], 0⟩] scope gpos) X.env)] := by rfl) :
    PE X (.Call (.Name "all" p) [.GeneratorExp elt [⟨.Name x px, iter, [], 0⟩] scope gpos] [] pos) (tAllT X.K P Pz pb te) :=
  pe_all hr hg hm hb TB hcode S hi hs (fun σ H Q h => ⟨_, h, fun v H1 ⟨a, vs, ev, ht, hz, hT, q⟩ => ⟨vs, byItem vs pb, ⟨a, ev, .inr ht⟩, hT,
    fun pins ps s1 hP I1 cenv A E j y u s2 m _ Z hy r hn hmx => by
      rw [byItem_at hy]
      exact hel cenv A E y u s2 m Z.sc Z.gl (Z.globals I1 hP) (hz y (List.mem_of_getElem? hy)) r hn hmx,
    fun H2 h2 => by rw [all_byItem]; exact q H2 h2⟩⟩) he
end Cr
set_option Elab.async false
set_option linter.all false
set_option maxRecDepth 100000
set_option maxHeartbeats 4000000
/-! Calls that may raise, in short; the heaps: what is known (G) of what stands (H) -/
namespace Cr
open PySem PySem.Spec PyProof.Rows L2

/-! ### calls in short -/
section
variable {P : Program} {w : World} {K : PySem.W.Frag} {mg : Str → Option Value} {base : Heap}
/-- a def that may raise, called by its name -/
structure CalX (P : Program) (w : World) (K : PySem.W.Frag) (mg : Str → Option Value) (base : Heap) (k : Nat) (x : Str) (sp : Sp) : Prop where
  ex : ∃ (f : Addr) (fd : FuncData) (ps : List Str), FnOk P w K mg base (L2.CX P w) k f fd ps sp ∧ mg x = some (.ref f) ∧ PySem.W.keepIn K (.ref f) = true ∧ Binds K fd ps []
/-- a class that is made by its name, its __init__ raising nothing | perhaps something -/
structure Mak0 (P : Program) (w : World) (K : PySem.W.Frag) (mg : Str → Option Value) (base : Heap) (k : Nat) (x : Str) (C : Addr) (sp : Sp) : Prop where
  ex : ∃ (f : Addr) (fd : FuncData) (ps : List Str), Mk K C f ∧ FnOk P w K mg base CX0 k f fd ps sp ∧ mg x = some (.ref C) ∧ Binds K fd ps []
structure MakX (P : Program) (w : World) (K : PySem.W.Frag) (mg : Str → Option Value) (base : Heap) (k : Nat) (x : Str) (C : Addr) (sp : Sp) : Prop where
  ex : ∃ (f : Addr) (fd : FuncData) (ps : List Str), Mk K C f ∧ FnOk P w K mg base (L2.CX P w) k f fd ps sp ∧ mg x = some (.ref C) ∧ Binds K fd ps []
end
section
variable {X : Cx} {k j : Nat} {C : Addr} {x m : Str} {sp : Sp} {p pos apos : Pos} {e o : Expr} {es : List Expr} {ta : TE} {t : TA} {W : WX} {E : XK}
theorem pe_cx (c : CalX X.prog X.w X.K X.mg X.base k x sp) (hr : Room j X.A) (hk : k ≤ j) (tk : Takes X (fun cls d _ H => E cls d H)) (hg : Gl X x) (ha : PA X (e :: es) t)
    (hdb : (x == ("__debug__" : Str)) = false := by decide) (he : starEach (e :: es) X.env = (false, eval e X.env) :: starEach es X.env := by rfl) (hpl : (backTo pos (starEach es X.env)).any (·.1) = false := by rfl) :
    PE X (.Call (.Name x p) (e :: es) [] pos) (tCall sp [] E t) := by
  obtain ⟨f, fd, ps, F, hm, kp, b⟩ := c.ex
  exact pe_call F (hr.mono hk) hg hm kp b .nil (passes_call tk fun _ _ _ _ h => h) ha hdb he hpl
theorem pe_cxS (c : CalX X.prog X.w X.K X.mg X.base k x sp) (hr : Room j X.A) (hk : k ≤ j) (tk : Takes X W) (hg : Gl X x) (ha : PA X (e :: es) t)
    (hdb : (x == ("__debug__" : Str)) = false := by decide) (he : starEach (e :: es) X.env = (false, eval e X.env) :: starEach es X.env := by rfl) (hpl : (backTo pos (starEach es X.env)).any (·.1) = false := by rfl) :
    PE X (.Call (.Name x p) (e :: es) [] pos) (tCallSD sp [] (WE W) t) := by
  obtain ⟨f, fd, ps, F, hm, kp, b⟩ := c.ex
  exact pe_callSD F (hr.mono hk) hg hm kp b .nil (fun σ => passAt tk σ) ha hdb he hpl
theorem pe_mn (c : Mak0 X.prog X.w X.K X.mg X.base k x C sp) (hr : Room j X.A) (hk : k + 1 ≤ j) (hg : Gl X x) (ha : PA X (e :: es) t)
    (hdb : (x == ("__debug__" : Str)) = false := by decide) (he : starEach (e :: es) X.env = (false, eval e X.env) :: starEach es X.env := by rfl) (hpl : (backTo pos (starEach es X.env)).any (·.1) = false := by rfl) :
    PE X (.Call (.Name x p) (e :: es) [] pos) (tMake C sp [] E0 t) := by
  obtain ⟨f, fd, ps, M, F, hm, b⟩ := c.ex
  exact pe_make M F (hr.mono hk) hg hm b .nil pass0 ha hdb he hpl
theorem pe_mx (c : MakX X.prog X.w X.K X.mg X.base k x C sp) (hr : Room j X.A) (hk : k + 1 ≤ j) (tk : Takes X (fun cls d _ H => E cls d H)) (hg : Gl X x) (ha : PA X (e :: es) t)
    (hdb : (x == ("__debug__" : Str)) = false := by decide) (he : starEach (e :: es) X.env = (false, eval e X.env) :: starEach es X.env := by rfl) (hpl : (backTo pos (starEach es X.env)).any (·.1) = false := by rfl) :
    PE X (.Call (.Name x p) (e :: es) [] pos) (tMake C sp [] E t) := by
  obtain ⟨f, fd, ps, M, F, hm, b⟩ := c.ex
  exact pe_make M F (hr.mono hk) hg hm b .nil (passes_call tk fun _ _ _ _ h => h) ha hdb he hpl
theorem pe_mxS (c : MakX X.prog X.w X.K X.mg X.base k x C sp) (hr : Room j X.A) (hk : k + 1 ≤ j) (tk : Takes X W) (hg : Gl X x) (ha : PA X (e :: es) t)
    (hdb : (x == ("__debug__" : Str)) = false := by decide) (he : starEach (e :: es) X.env = (false, eval e X.env) :: starEach es X.env := by rfl) (hpl : (backTo pos (starEach es X.env)).any (·.1) = false := by rfl) :
    PE X (.Call (.Name x p) (e :: es) [] pos) (tMakeS C sp [] (WE W) t) := by
  obtain ⟨f, fd, ps, M, F, hm, b⟩ := c.ex
  exact pe_makeS M F (hr.mono hk) hg hm b .nil (fun σ => passAt tk σ) ha hdb he hpl
/-- a raising __init__ called in a def where a class may raise where no exception leaves: the caller promises that none does -/
theorem pe_mx0 (c : MakX X.prog X.w X.K X.mg X.base k x C sp) (hr : Room j X.A) (hk : k + 1 ≤ j) (hg : Gl X x) (ha : PA X (e :: es) t)
    (hdb : (x == ("__debug__" : Str)) = false := by decide) (he : starEach (e :: es) X.env = (false, eval e X.env) :: starEach es X.env := by rfl) (hpl : (backTo pos (starEach es X.env)).any (·.1) = false := by rfl) :
    PE X (.Call (.Name x p) (e :: es) [] pos) (tMake C sp [] E0 t) := by
  obtain ⟨f, fd, ps, M, F, hm, b⟩ := c.ex
  exact pe_make M F (hr.mono hk) hg hm b .nil passL ha hdb he hpl
theorem pe_cx0 (c : CalX X.prog X.w X.K X.mg X.base k x sp) (hr : Room j X.A) (hk : k ≤ j) (hg : Gl X x) (ha : PA X (e :: es) t)
    (hdb : (x == ("__debug__" : Str)) = false := by decide) (he : starEach (e :: es) X.env = (false, eval e X.env) :: starEach es X.env := by rfl) (hpl : (backTo pos (starEach es X.env)).any (·.1) = false := by rfl) :
    PE X (.Call (.Name x p) (e :: es) [] pos) (tCall sp [] E0 t) := by
  obtain ⟨f, fd, ps, F, hm, kp, b⟩ := c.ex
  exact pe_call F (hr.mono hk) hg hm kp b .nil passL ha hdb he hpl
end

/-! ### isinstance of a caught error that has its own dict -/
def rIsED (K : PySem.W.Frag) (cls : Value) (d : Option Addr) (a : Addr) : List V → Hp → VK → Prop := fun xs H Q => ∃ (D dd : Addr) (fs : List (Str × V)) (c : V) (cv : Value) (b : Bool), xs = [.ref a, c] ∧ cls = .ref D ∧ ExcC K D ∧ d = some dd ∧ H dd = some (.xd fs) ∧ ClsV c cv ∧ PySem.W.kitOne K (.ref D) cv = some b ∧ Q (.bl b) H
theorem call_isED {X : Cx} {a : Addr} {oe : Obj} {cls : Value} {d : Option Addr} {pn : List (Addr × Obj)} (hz : Zc cls d oe) (hf : ∃ vs, oe.data = .fields vs) : CallR (X.suite a ((a, oe) :: pn)) (.builtin "isinstance") (rIsED X.K cls d a) := by
  intro pins s σ H xs us Q I r h
  obtain ⟨D, dd, fs, c, cv, b, rfl, rfl, C, rfl, hdd, hcv, e, q⟩ := h
  obtain ⟨u1, u2, rfl, r1, r2⟩ := vals2 r
  cases (show u1 = Value.ref a from r1)
  have ec := hcv.eq r2
  subst ec
  obtain ⟨hget, _⟩ := I.pin (a, oe) (List.mem_append.mpr (.inl List.mem_cons_self))
  obtain ⟨vs, hv⟩ := hf
  have hx : ObjOk X.prog X.w H s.heap dd (.xd fs) := I.hok dd _ hdd
  obtain ⟨mA, hns, hr⟩ := hx
  obtain ⟨od, ho, hl⟩ := lookIn_ns hns
  have J : PySem.W.InstAt s.heap a oe D (some od) := ⟨hget, hz.1, by unfold PySem.W.notCls; rw [hv] <;> rfl, by rw [hz.2]; exact ho⟩
  exact PySem.W.kia_one (PySem.W.kitx_exc (by obtain ⟨cd, hc, _⟩ := PySem.W.any_some C.hd; rw [hc]; rfl) C.hg C.hk C.hs C.ha C.hn C.ht C.hm) I.kIn J e (fun z => nomatch z) fun tk => ⟨.bl b, H, I.kept (t' := tk) fun _ _ z => z, rfl, q⟩

/-! ### heaps -/
theorem Same.tup {K : PySem.W.Frag} {H H' : Hp} {a : Addr} {xs : List V} (e : Same H H') (h : SqT K H a xs) : SqT K H' a xs := by
  rcases h with (h | ⟨o, h⟩) | h
  · exact .inl (.inl (e _ _ h))
  · exact .inl (.inr ⟨o, e _ _ h⟩)
  · exact .inr h
mutual
theorem dp_same {K : PySem.W.Frag} {H H' : Hp} (e : Same H H') : ∀ {v : V} {d : PyData}, Dp K H v d → Dp K H' v d
  | _, _, .non => .non
  | _, _, .bl b => .bl b
  | _, _, .int i => .int i
  | _, _, .str x => .str x
  | _, _, .lst h r => .lst (e.seq h) (dpAll_same e r)
  | _, _, .tup h r => .tup (Same.tup e h) (dpAll_same e r)
theorem dpAll_same {K : PySem.W.Frag} {H H' : Hp} (e : Same H H') : ∀ {vs : List V} {ds : List PyData}, DpAll K H vs ds → DpAll K H' vs ds
  | _, _, .nil => .nil
  | _, _, .cons h r => .cons (dp_same e h) (dpAll_same e r)
end
/-- G: what is known; H: what stands; Fs: what stands apart (tables, things that are changed) -/
structure Wd (Fs : List Addr) (G H : Hp) : Prop where
  same : Same G H
  off : ∀ c ∈ Fs, G c = none
  on : ∀ c ∈ Fs, H c ≠ none
/-- G', H' come of G, H -/
structure Gr (Fs : List Addr) (G H G' H' : Hp) : Prop where
  up : Same G G'
  wd : Wd Fs G' H'
  keep : ∀ c o, c ∉ Fs → H c = some o → H' c = some o
  fresh : ∀ c, G c = none → H c ≠ none → G' c = none
section
variable {Fs Fs' : List Addr} {G H G1 H1 G2 H2 : Hp} {p P : Addr} {o u : HO}
theorem Wd.nin (w : Wd Fs G H) (hp : H p = none) : p ∉ Fs := fun h => w.on p h hp
theorem Wd.free (w : Wd Fs G H) (hp : H p = none) : G p = none := w.same.free hp
theorem Gr.refl (w : Wd Fs G H) : Gr Fs G H G H := ⟨Same.refl _, w, fun _ _ _ e => e, fun _ e _ => e⟩
theorem Gr.trans (a : Gr Fs G H G1 H1) (b : Gr Fs G1 H1 G2 H2) : Gr Fs G H G2 H2 := by
  refine ⟨a.up.trans b.up, b.wd, fun c o n e => b.keep c o n (a.keep c o n e), fun c e n => ?_⟩
  by_cases hc : c ∈ Fs
  · exact b.wd.off c hc
  · refine b.fresh c (a.fresh c e n) fun z => ?_
    cases q : H c with
    | none => exact n q
    | some o => rw [a.keep c o hc q] at z; cases z
/-- a new thing that is known from now on -/
theorem Gr.alloc (w : Wd Fs G H) (hp : H p = none) : Gr Fs G H (upd G p o) (upd H p o) := by
  have hn := w.nin hp
  refine ⟨fun b u e => ?_, ⟨fun b u e => ?_, fun c hc => ?_, fun c hc => ?_⟩, fun c u _ e => ?_, fun c e n => ?_⟩
  · rw [upd_ne (ne_of_none (w.same _ _ e) hp)]; exact e
  · by_cases hb : b = p
    · subst hb; rw [upd_same] at e ⊢; exact e
    · rw [upd_ne hb] at e ⊢; exact w.same _ _ e
  · rw [upd_ne (fun z => hn (by rw [← z]; exact hc))]; exact w.off c hc
  · rw [upd_ne (fun z => hn (by rw [← z]; exact hc))]; exact w.on c hc
  · rw [upd_ne (ne_of_none e hp)]; exact e
  · rw [upd_ne (fun z => n (by rw [z]; exact hp))]; exact e
/-- what stands changes, what is known does not -/
theorem Gr.of_keep (w : Wd Fs G H) (k : ∀ c o, c ∉ Fs → H c = some o → H1 c = some o) (on : ∀ c ∈ Fs, H1 c ≠ none) : Gr Fs G H G H1 := by
  refine ⟨Same.refl _, ⟨fun b u e => ?_, w.off, on⟩, k, fun c e _ => e⟩
  refine k b u (fun hb => ?_) (w.same _ _ e)
  rw [w.off b hb] at e; cases e
theorem Gr.skip (w : Wd Fs G H) (s : Same H H1) : Gr Fs G H G H1 := Gr.of_keep w (fun c o _ e => s c o e) fun c hc z => by
  cases q : H c with
  | none => exact w.on c hc q
  | some o => rw [s c o q] at z; cases z
theorem same_new (hp : H p = none) : Same H (upd H p o) := fun b u e => by rw [upd_ne (ne_of_none e hp)]; exact e
theorem Gr.new (w : Wd Fs G H) (hp : H p = none) : Gr Fs G H G (upd H p o) := Gr.skip w (same_new hp)
theorem Gr.tab (w : Wd Fs G H) (hP : P ∈ Fs) (t : GxR.Tabbed P H H1) : Gr Fs G H G H1 := by
  obtain ⟨⟨ps, e, _⟩, k⟩ := t
  refine Gr.of_keep w (fun c o n q => ?_) fun c hc z => ?_
  · rw [k c (fun z => n (z ▸ hP))]; exact q
  · by_cases hcP : c = P
    · rw [hcP, e] at z; cases z
    · rw [k c hcP] at z; exact w.on c hc z
/-- a write at a thing that was not there at the start and is not known -/
theorem Gr.poke (g : Gr Fs G H G1 H1) (hp : H p = none) (hg : G1 p = none) : Gr Fs G H G1 (upd H1 p o) := by
  refine ⟨g.up, ⟨fun b u e => ?_, g.wd.off, fun c hc z => ?_⟩, fun c u n e => ?_, g.fresh⟩
  · rw [upd_ne (fun z => by rw [z, hg] at e; cases e)]; exact g.wd.same _ _ e
  · by_cases hcp : c = p
    · rw [hcp, upd_same] at z; cases z
    · rw [upd_ne hcp] at z; exact g.wd.on c hc z
  · rw [upd_ne (fun z => by rw [z, hp] at e; cases e)]; exact g.keep c u n e
/-- .. is known from now on -/
theorem Gr.close (g : Gr Fs G H G1 H1) (hp : H p = none) (h1 : H1 p = some o) (hn : p ∉ Fs) (hg : G1 p = none) : Gr Fs G H (upd G1 p o) H1 := by
  refine ⟨fun b u e => ?_, ⟨fun b u e => ?_, fun c hc => ?_, g.wd.on⟩, g.keep, fun c e n => ?_⟩
  · have e1 := g.up _ _ e
    rw [upd_ne (fun z => by rw [z, hg] at e1; cases e1)]; exact e1
  · by_cases hb : b = p
    · subst hb; rw [upd_same] at e; rw [h1]; exact e
    · rw [upd_ne hb] at e; exact g.wd.same _ _ e
  · rw [upd_ne (fun z => hn (by rw [← z]; exact hc))]; exact g.wd.off c hc
  · rw [upd_ne (fun z => n (by rw [z]; exact hp))]; exact g.fresh c e n
theorem Gr.widen (g : Gr Fs G H G1 H1) (w : Wd Fs' G H) (sub : ∀ c ∈ Fs, c ∈ Fs') : Gr Fs' G H G1 H1 := by
  refine ⟨g.up, ⟨g.wd.same, fun c hc => g.fresh c (w.off c hc) (w.on c hc), fun c hc z => ?_⟩, fun c o n e => g.keep c o (fun hc => n (sub c hc)) e, g.fresh⟩
  by_cases h : c ∈ Fs
  · exact g.wd.on c h z
  · cases q : H c with
    | none => exact w.on c hc q
    | some o => rw [g.keep c o h q] at z; cases z
theorem Wd.sub (w : Wd Fs' G H) (sub : ∀ c ∈ Fs, c ∈ Fs') : Wd Fs G H := ⟨w.same, fun c hc => w.off c (sub c hc), fun c hc => w.on c (sub c hc)⟩
theorem Gr.at_ (g : Gr Fs G H G1 H1) (e : H p = some o) (n : p ∉ Fs) : H1 p = some o := g.keep p o n e
theorem Gr.dp {K : PySem.W.Frag} {v : V} {d : PyData} (g : Gr Fs G H G1 H1) (h : Dp K G v d) : Dp K G1 v d := dp_same g.up h
end
abbrev Tabs (Ps : List Addr) (H : Hp) : Prop := ∀ P ∈ Ps, GxR.TabG H P
/-- the tables are kept where nothing else than they may change -/
theorem Tabs.keep {Ps Fs : List Addr} {G H G' H' : Hp} (t : Tabs Ps H) (g : Gr Fs G H G' H') (d : ∀ P ∈ Ps, P ∉ Fs) : Tabs Ps H' := fun P hP => by
  obtain ⟨ps, e, r⟩ := t P hP
  exact ⟨ps, g.keep P _ (d P hP) e, r⟩

/-! ### rows: lists of tuples of ints -/
abbrev tI (ns : List Int) : PyData := .tuple (ns.map .int)
abbrev dI (rs : List (List Int)) : PyData := .list (rs.map tI)
def RowT (K : PySem.W.Frag) (G : Hp) (v : V) (ns : List Int) : Prop := ∃ t, v = .ref t ∧ SqT K G t (ns.map V.int)
abbrev RowsV (K : PySem.W.Frag) (G : Hp) : List V → List (List Int) → Prop := Paired (RowT K G)
def Rows (K : PySem.W.Frag) (G : Hp) (a : Addr) (rs : List (List Int)) : Prop := ∃ xs, SqL K G a xs ∧ RowsV K G xs rs
section
variable {K : PySem.W.Frag} {G G' : Hp} {v : V} {ns : List Int} {xs : List V} {rs : List (List Int)} {a : Addr}
theorem RowT.same (e : Same G G') (h : RowT K G v ns) : RowT K G' v ns := let ⟨t, q, r⟩ := h; ⟨t, q, Same.tup e r⟩
theorem rowsV_same (e : Same G G') : ∀ {xs : List V} {rs : List (List Int)}, RowsV K G xs rs → RowsV K G' xs rs
  | _, _, .nil => .nil
  | _, _, .cons h r => .cons (RowT.same e h) (rowsV_same e r)
theorem Rows.same (e : Same G G') (h : Rows K G a rs) : Rows K G' a rs := let ⟨xs, q, r⟩ := h; ⟨xs, e.seq q, rowsV_same e r⟩
theorem RowT.dp (h : RowT K G v ns) : Dp K G v (tI ns) := by
  obtain ⟨t, rfl, r⟩ := h
  exact .tup r (dpAll_ints ns)
theorem rowsV_dp : ∀ {xs : List V} {rs : List (List Int)}, RowsV K G xs rs → DpAll K G xs (rs.map tI)
  | _, _, .nil => .nil
  | _, _, .cons h r => .cons h.dp (rowsV_dp r)
theorem Rows.dp (h : Rows K G a rs) : Dp K G (.ref a) (dI rs) := by
  obtain ⟨xs, q, r⟩ := h
  exact .lst q (rowsV_dp r)
theorem paired_get {α β : Type} {F : α → β → Prop} : ∀ {l : List α} {m : List β} {i : Nat} {x : α}, Paired F l m → l[i]? = some x → ∃ y, m[i]? = some y ∧ F x y
  | _, _, _, _, .nil, e => by simp at e
  | _, _, 0, _, .cons r _, e => by simp at e; subst e; exact ⟨_, rfl, r⟩
  | _, _, i + 1, x, .cons _ t, e => by
    obtain ⟨y, h1, h2⟩ := paired_get (i := i) (x := x) t (by simpa using e)
    exact ⟨y, by simpa using h1, h2⟩
theorem paired_get' {α β : Type} {F : α → β → Prop} : ∀ {l : List α} {m : List β} {i : Nat} {y : β}, Paired F l m → m[i]? = some y → ∃ x, l[i]? = some x ∧ F x y
  | _, _, _, _, .nil, e => by simp at e
  | _, _, 0, _, .cons r _, e => by simp at e; subst e; exact ⟨_, rfl, r⟩
  | _, _, i + 1, x, .cons _ t, e => by
    obtain ⟨y, h1, h2⟩ := paired_get' (i := i) (y := x) t (by simpa using e)
    exact ⟨y, by simpa using h1, h2⟩
theorem paired_append {α β : Type} {F : α → β → Prop} : ∀ {l l' : List α} {m m' : List β}, Paired F l m → Paired F l' m' → Paired F (l ++ l') (m ++ m')
  | _, _, _, _, .nil, s => s
  | _, _, _, _, .cons r t, s => .cons r (paired_append t s)
theorem paired_snoc {α β : Type} {F : α → β → Prop} {l : List α} {m : List β} {x : α} {y : β} (h : Paired F l m) (r : F x y) : Paired F (l ++ [x]) (m ++ [y]) := paired_append h (.cons r .nil)
theorem paired_take {α β : Type} {F : α → β → Prop} : ∀ {l : List α} {m : List β} (n : Nat), Paired F l m → Paired F (l.take n) (m.take n)
  | _, _, 0, _ => .nil
  | _, _, n + 1, .nil => by simp; exact .nil
  | _, _, n + 1, .cons r t => .cons r (paired_take n t)
theorem paired_drop {α β : Type} {F : α → β → Prop} : ∀ {l : List α} {m : List β} (n : Nat), Paired F l m → Paired F (l.drop n) (m.drop n)
  | _, _, 0, r => r
  | _, _, n + 1, .nil => by simp; exact .nil
  | _, _, n + 1, .cons r t => by simpa using paired_drop n t
theorem paired_rep {α β : Type} {F : α → β → Prop} {x : α} {y : β} (r : F x y) : ∀ n, Paired F (List.replicate n x) (List.replicate n y)
  | 0 => .nil
  | n + 1 => .cons r (paired_rep r n)
end
end Cr
set_option Elab.async false
set_option linter.all false
set_option maxRecDepth 100000
set_option maxHeartbeats 4000000
/-! Defs, methods, classes as the top has left them, and their promises by their bodies -/
namespace Cr
open PySem PySem.Spec PyProof.Rows L2
section
variable (K : PySem.W.Frag) (mg : Str → Option Value) (base : Heap)
def DefR (x : Str) (st : Stmt) (ps : List Str) : Prop := ∃ (f : Addr) (fd : FuncData), Fun K x x st f fd ∧ mg x = some (.ref f) ∧ Binds K fd ps []
def MetR (C : Addr) (m qual : Str) (st : Stmt) (ps : List Str) : Prop := ∃ (f : Addr) (fd : FuncData), Meth K C m f ∧ Fun K m qual st f fd ∧ Binds K fd ps []
def IniR (C : Addr) (x qual : Str) (st : Stmt) (ps : List Str) : Prop := ∃ (f : Addr) (fd : FuncData), Mk K C f ∧ Fun K "__init__" qual st f fd ∧ mg x = some (.ref C) ∧ Binds K fd ps []
def ErrR (C : Addr) (x qual : Str) (st : Stmt) (ps : List Str) : Prop := ∃ (f : Addr) (fd : FuncData), OexC K C ∧ PySem.W.findIn K (.ref C) "__init__" = some (some (.ref f)) ∧ PySem.W.typeIn K (.ref f) = some (.type "function") ∧ Fun K "__init__" qual st f fd ∧ mg x = some (.ref C) ∧ Binds K fd ps []
def CodR (x : Str) (st : Stmt) (ps : List Str) (c T : Addr) : Prop := ∃ (f : Addr) (oc : Value) (od : Option Addr) (kV doc pm : Value) (an : Option Addr) (ct : Value) (osl : Array (Option Value)),
  K.lookup f = some ⟨oc, od, .func (PySem.W.fnOf x x (defArgs st) (defBody st) (defScope st) .none kV doc pm an (.ref c) ct), osl⟩ ∧ PySem.W.codeIn K (.ref c) x = true ∧ mg x = some (.ref f) ∧ PySem.W.keepIn K (.ref f) = true ∧
    Binds K (PySem.W.fnOf x x (defArgs st) (defBody st) (defScope st) .none kV doc pm an (.ref c) ct) ps [] ∧ GxR.TabB base mg c T
end
/-- an own error made -/
structure MakE (P : Program) (w : World) (K : PySem.W.Frag) (mg : Str → Option Value) (base : Heap) (k : Nat) (x : Str) (C : Addr) (sp : Sp) : Prop where
  ex : ∃ (f : Addr) (fd : FuncData) (ps : List Str), OexC K C ∧ PySem.W.findIn K (.ref C) "__init__" = some (some (.ref f)) ∧ PySem.W.typeIn K (.ref f) = some (.type "function") ∧ FnOk P w K mg base CX0 k f fd ps sp ∧ mg x = some (.ref C) ∧ Binds K fd ps []
theorem pmk_c {X : Cx} {k j : Nat} {C : Addr} {x : Str} {sp : Sp} {p pos : Pos} {e : Expr} {es : List Expr} {ta : TA} (c : MakE X.prog X.w X.K X.mg X.base k x C sp) (hr : Room j X.A) (hk : k + 1 ≤ j) (hg : Gl X x) (ha : PA X (e :: es) ta)
    (hdb : (x == ("__debug__" : Str)) = false := by decide) (he : starEach (e :: es) X.env = (false, eval e X.env) :: starEach es X.env := by rfl) (hpl : (backTo pos (starEach es X.env)).any (·.1) = false := by rfl) :
    PMk X (.Call (.Name x p) (e :: es) [] pos) (tMkO C sp [] ta) := by
  obtain ⟨f, fd, ps, T, iC, tI, F, hm, b⟩ := c.ex
  exact pmk_oex T iC tI F (hr.mono hk) b .nil pass0 hg hm ha hdb he hpl
section
variable {P : Program} {w : World} {K : PySem.W.Frag} {mg : Str → Option Value} {base : Heap} {x m qual : Str} {st : Stmt} {N ps : List Str} {k : Nat} {sp : Sp} {C c T : Addr}
/-- what a body is to show: nothing leaves it | something may -/
def Body0 (P : Program) (w : World) (K : PySem.W.Frag) (mg : Str → Option Value) (base : Heap) (N : List Str) (qual : Str) (st : Stmt) (k : Nat) (sp : Sp) : Prop :=
  ∀ (f : Addr) (cdv : Value) (A : Around) (outer : List Env) (s : Shared) (H : Hp) (vs : List V) (Q : VK) (E : XK), Room k (A.deeper (envOfC qual (defScope st) s.heap.objs.size f cdv)) → sp vs H Q E →
    ∃ t, PSs (cxOf CX0 P w K mg base N qual (defScope st) f cdv A outer s H E).nox (defBody st) t ∧ t { nx := fun _ H' => Q .non H', rt := Q } (start N vs) H
def BodyX (P : Program) (w : World) (K : PySem.W.Frag) (mg : Str → Option Value) (base : Heap) (N : List Str) (qual : Str) (st : Stmt) (k : Nat) (sp : Sp) : Prop :=
  ∀ (f : Addr) (cdv : Value) (A : Around) (outer : List Env) (s : Shared) (H : Hp) (vs : List V) (Q : VK) (E : XK), Room k (A.deeper (envOfC qual (defScope st) s.heap.objs.size f cdv)) → sp vs H Q E →
    ∃ t, PSs (cxOf (L2.CX P w) P w K mg base N qual (defScope st) f cdv A outer s H E) (defBody st) t ∧ t { nx := fun _ H' => Q .non H', rt := Q } (start N vs) H
theorem DefR.cal (d : DefR K mg x st ps) (S : FnScope N ps (defScope st)) (len : ∀ vs H Q E, sp vs H Q E → vs.length = ps.length) (b : Body0 P w K mg base N x st k sp) : C8.Cal P w K mg base (k + 1) x sp [] := by
  obtain ⟨f, fd, F, hm, bi⟩ := d
  exact ⟨f, fd, ps, [], F.ok S len (fun cdv A outer s H vs Q E hr h => b f cdv A outer s H vs Q E hr h), hm, F.kp, bi, .nil⟩
theorem DefR.calX (d : DefR K mg x st ps) (S : FnScope N ps (defScope st)) (len : ∀ vs H Q E, sp vs H Q E → vs.length = ps.length) (b : BodyX P w K mg base N x st k sp) : CalX P w K mg base (k + 1) x sp := by
  obtain ⟨f, fd, F, hm, bi⟩ := d
  exact ⟨f, fd, ps, F.okX S len (fun cdv A outer s H vs Q E hr h => b f cdv A outer s H vs Q E hr h), hm, F.kp, bi⟩
theorem MetR.met (d : MetR K C m qual st ps) (cl : Cls K C) (S : FnScope N ps (defScope st)) (len : ∀ vs H Q E, sp vs H Q E → vs.length = ps.length) (b : Body0 P w K mg base N qual st k sp) : C8.Met P w K mg base (k + 1) C m sp [] := by
  obtain ⟨f, fd, M, F, bi⟩ := d
  exact ⟨f, fd, ps, [], cl, M, F.ok S len (fun cdv A outer s H vs Q E hr h => b f cdv A outer s H vs Q E hr h), bi, .nil⟩
theorem IniR.makX (d : IniR K mg C x qual st ps) (S : FnScope N ps (defScope st)) (len : ∀ vs H Q E, sp vs H Q E → vs.length = ps.length) (b : BodyX P w K mg base N qual st k sp) : MakX P w K mg base (k + 1) x C sp := by
  obtain ⟨f, fd, M, F, hm, bi⟩ := d
  exact ⟨f, fd, ps, M, F.okX S len (fun cdv A outer s H vs Q E hr h => b f cdv A outer s H vs Q E hr h), hm, bi⟩
theorem ErrR.make (d : ErrR K mg C x qual st ps) (S : FnScope N ps (defScope st)) (len : ∀ vs H Q E, sp vs H Q E → vs.length = ps.length) (b : Body0 P w K mg base N qual st k sp) : MakE P w K mg base (k + 1) x C sp := by
  obtain ⟨f, fd, O, iC, tI, F, hm, bi⟩ := d
  exact ⟨f, fd, ps, O, iC, tI, F.ok S len (fun cdv A outer s H vs Q E hr h => b f cdv A outer s H vs Q E hr h), hm, bi⟩
theorem CodR.cal (d : CodR K mg base x st ps c T) (S : FnScope N ps (defScope st)) (len : ∀ vs H Q E, sp vs H Q E → vs.length = ps.length)
    (b : GxR.TabB base mg c T → ∀ (f : Addr) (A : Around) (outer : List Env) (s : Shared) (H : Hp) (vs : List V) (Q : VK) (E : XK), Room k (A.deeper (envOfC x (defScope st) s.heap.objs.size f (.ref c))) → sp vs H Q E →
      ∃ t, PSs (cxOf CX0 P w K mg base N x (defScope st) f (.ref c) A outer s H E).nox (defBody st) t ∧ t { nx := fun _ H' => Q .non H', rt := Q } (start N vs) H) : C8.Cal P w K mg base (k + 1) x sp [] := by
  obtain ⟨f, oc, od, kV, doc, pm, an, ct, osl, lk, hcd, hm, kp, bi, tb⟩ := d
  refine ⟨f, _, ps, [], fn_of lk hcd S len fun A outer s H vs Q E hr h => ?_, hm, kp, bi, .nil⟩
  obtain ⟨t, h1, q⟩ := b tb f A outer s H vs Q E hr h
  exact ⟨t, h1.nox, q⟩
end
/-! ### the same rules with the written part said (within a comprehension's block) -/
section
variable {X : Cx} {K : PySem.W.Frag} {e : Expr} {es : List Expr} {f : Str} {ta : TE} {t : TGs} {pos : Pos} {k n : Nat}
theorem pg_tupK (hK : X.K = K) (hc : X.calm = true) (h : PGs X es t) (hn : (assignEach es X.env).length = n := by rfl) (hst : (assignEach es X.env).findIdx? (·.1) = none := by rfl) : PG X (.Tuple es k pos) (gTup K n t) := by
  subst hK
  exact pg_tup hc h hn hst
theorem ix_seqK (hK : X.K = K) : IxR X (rIx K) := by
  subst hK
  exact ix_seq
theorem pe_fldK (hK : X.K = K) (he : PE X e ta) (hb : attributeBase e f X.env (eval e X.env) = eval e X.env) : PE X (.Attribute e f pos) (tFld K ta f) := by
  subst hK
  exact pe_fld he hb
def rLenS (K : PySem.W.Frag) : List V → Hp → VK → Prop := fun xs H Q => ∃ p ys, xs = [.ref p] ∧ (SqL K H p ys ∨ SqT K H p ys) ∧ Q (.int ys.length) H
theorem call_len_seqK (hK : X.K = K) : CallR X (.builtin "len") (rLenS K) := by
  subst hK
  exact call_len_seq
theorem cr_sumK (hK : X.K = K) (hc : X.calm = true) : CallR X (.builtin "sum") (rSum K) := by
  subst hK
  exact cr_sum hc
theorem cr_maxK (hK : X.K = K) (hc : X.calm = true) : CallR X (.builtin "max") (rMax K) := by
  subst hK
  exact cr_max hc
theorem cr_maxTK (hK : X.K = K) (hc : X.calm = true) (hu : X.A.units + 64 < cLine) : CallR X (.builtin "max") (rMaxT K) := by
  subst hK
  exact cr_maxT hc hu
theorem op_in_seqK (hK : X.K = K) : OpR X (compareOp .In) (rIn K false) := by
  subst hK
  exact op_in_seq
theorem op_notIn_seqK (hK : X.K = K) : OpR X (compareOp .NotIn) (rIn K true) := by
  subst hK
  exact op_notIn_seq
theorem sl_listK (hK : X.K = K) : SlR X (rSlL K) := by
  subst hK
  exact sl_list
theorem sl_tupK (hK : X.K = K) : SlR X (rSlT K) := by
  subst hK
  exact sl_tup
theorem op_eqDK (hK : X.K = K) (hu : X.A.units + 64 < cLine) : OpR X (compareOp .Eq) (rEqD K) := by
  subst hK
  exact op_eqD hu
def rListOf (K : PySem.W.Frag) : List V → Hp → VK → Prop := fun xs H Q => ∃ p ys, xs = [.ref p] ∧ (SqL K H p ys ∨ SqT K H p ys) ∧ ∀ l, H l = none → Q (.ref l) (upd H l (.lst ys))
theorem call_list_ofK (hK : X.K = K) : CallR X (.type "list") (rListOf K) := by
  subst hK
  exact call_list_of
end
/-! ### the slots of a comprehension's block -/
theorem wipe_comm {σ : L2.St} {i : Nat} {x : Option V} : ∀ {vs : List Nat}, i ∉ vs → wipe (σ.set i x) vs = (wipe σ vs).set i x
  | [], _ => rfl
  | v :: vs, h => by
    have h1 : i ≠ v := fun e => h (by rw [e]; exact List.mem_cons_self)
    have h2 : i ∉ vs := fun e => h (List.mem_cons_of_mem _ e)
    show (wipe (σ.set i x) vs).set v none = ((wipe σ vs).set v none).set i x
    rw [wipe_comm h2, List.set_comm _ _ h1]
theorem wipe_set {σ : L2.St} {i : Nat} {x : Option V} : ∀ {vs : List Nat}, i ∈ vs → wipe (σ.set i x) vs = wipe σ vs
  | v :: vs, h => by
    show (wipe (σ.set i x) vs).set v none = (wipe σ vs).set v none
    by_cases h2 : i ∈ vs
    · rw [wipe_set h2]
    · have e : i = v := by
        rcases List.mem_cons.mp h with e | e
        · exact e
        · exact absurd e h2
      subst e
      rw [wipe_comm h2, List.set_set]
theorem wipe_wipe (σ : L2.St) (vs : List Nat) : wipe (wipe σ vs) vs = wipe σ vs := by
  have key : ∀ (us : List Nat), (∀ u ∈ us, u ∈ vs) → wipe (wipe σ us) vs = wipe σ vs := by
    intro us
    induction us with
    | nil => intro _; rfl
    | cons u us ih =>
      intro h
      show wipe ((wipe σ us).set u none) vs = wipe σ vs
      rw [wipe_set (h u List.mem_cons_self)]
      exact ih fun z hz => h z (List.mem_cons_of_mem _ hz)
  exact key vs fun _ h => h
theorem Tabs.tab {Ps : List Addr} {H H2 : Hp} {T : Addr} (t : Tabs Ps H) (d : GxR.Tabbed T H H2) : Tabs Ps H2 := fun P hP => by
  by_cases e : P = T
  · rw [e]; exact d.1
  · obtain ⟨ps, q, r⟩ := t P hP
    exact ⟨ps, (d.2 P e).trans q, r⟩
theorem Tabs.same {Ps : List Addr} {H H2 : Hp} (t : Tabs Ps H) (s : Same H H2) : Tabs Ps H2 := fun P hP => by
  obtain ⟨ps, q, r⟩ := t P hP
  exact ⟨ps, s _ _ q, r⟩
end Cr
set_option Elab.async false
set_option linter.all false
set_option maxRecDepth 100000
set_option maxHeartbeats 4000000
/-! What a text's top has left, as facts of the written part; the walk's ground -/
namespace Cr
open PySem PySem.Spec PyProof.Rows L2
section
variable {K : PySem.W.Frag} {mg : Str → Option Value} {base h : Heap}
def DefF (K : PySem.W.Frag) (x : Str) (st : Stmt) : Prop := ∃ (f : Addr) (oc : Value) (od : Option Addr) (kV doc pm : Value) (an : Option Addr) (cd ct : Value) (sl : Array (Option Value)),
  PySem.W.nsIn K mainGlobals x = some (some (.ref f)) ∧ K.lookup f = some ⟨oc, od, .func (PySem.W.fnOf x x (defArgs st) (defBody st) (defScope st) .none kV doc pm an cd ct), sl⟩ ∧ PySem.W.codeIn K cd x = true ∧ PySem.W.keepIn K (.ref f) = true
theorem DefF.mk {x : Str} {st : Stmt} {f : Addr} {oc : Value} {od : Option Addr} {kV doc pm : Value} {an : Option Addr} {cd ct : Value} {sl : Array (Option Value)} (a : PySem.W.nsIn K mainGlobals x = some (some (.ref f))) (l : K.lookup f = some ⟨oc, od, .func (PySem.W.fnOf x x (defArgs st) (defBody st) (defScope st) .none kV doc pm an cd ct), sl⟩) (c : PySem.W.codeIn K cd x = true) (k : PySem.W.keepIn K (.ref f) = true) : DefF K x st := ⟨f, oc, od, kV, doc, pm, an, cd, ct, sl, a, l, c, k⟩
theorem DefF.r {x : Str} {st : Stmt} {ps : List Str} (d : DefF K x st) (X : K.In h) (G : h.Ns mainGlobals mg)
    (hb : ∀ (kV doc pm : Value) (an : Option Addr) (cdv ct : Value) (us : List Value), us.length = ps.length → bindArgs (PySem.W.fnOf x x (defArgs st) (defBody st) (defScope st) .none kV doc pm an cdv ct) ⟨us, []⟩ = pure (ps.zip us)) : DefR K mg x st ps := by
  obtain ⟨f, oc, od, kV, doc, pm, an, cd, ct, sl, a, l, c, k⟩ := d
  have F := fun_mk (st := st) l c k
  exact ⟨f, _, F, PySem.W.mg_of X G a, F.binds (ps := ps) hb⟩
def MetF (K : PySem.W.Frag) (C : Addr) (m qual : Str) (st : Stmt) : Prop := ∃ (f : Addr) (oc : Value) (od : Option Addr) (kV doc pm : Value) (an : Option Addr) (cd ct : Value) (sl : Array (Option Value)),
  PySem.W.findIn K (.ref C) m = some (some (.ref f)) ∧ PySem.W.isFn K (.ref f) = true ∧ K.lookup f = some ⟨oc, od, .func (PySem.W.fnOf m qual (defArgs st) (defBody st) (defScope st) .none kV doc pm an cd ct), sl⟩ ∧ PySem.W.codeIn K cd qual = true ∧ PySem.W.keepIn K (.ref f) = true
theorem MetF.mk {C : Addr} {m qual : Str} {st : Stmt} {f : Addr} {oc : Value} {od : Option Addr} {kV doc pm : Value} {an : Option Addr} {cd ct : Value} {sl : Array (Option Value)} (a : PySem.W.findIn K (.ref C) m = some (some (.ref f))) (i : PySem.W.isFn K (.ref f) = true) (l : K.lookup f = some ⟨oc, od, .func (PySem.W.fnOf m qual (defArgs st) (defBody st) (defScope st) .none kV doc pm an cd ct), sl⟩) (c : PySem.W.codeIn K cd qual = true) (k : PySem.W.keepIn K (.ref f) = true) : MetF K C m qual st := ⟨f, oc, od, kV, doc, pm, an, cd, ct, sl, a, i, l, c, k⟩
theorem MetF.r {C : Addr} {m qual : Str} {st : Stmt} {ps : List Str} (d : MetF K C m qual st)
    (hb : ∀ (kV doc pm : Value) (an : Option Addr) (cdv ct : Value) (us : List Value), us.length = ps.length → bindArgs (PySem.W.fnOf m qual (defArgs st) (defBody st) (defScope st) .none kV doc pm an cdv ct) ⟨us, []⟩ = pure (ps.zip us)) : MetR K C m qual st ps := by
  obtain ⟨f, oc, od, kV, doc, pm, an, cd, ct, sl, a, i, l, c, k⟩ := d
  have F := fun_mk (st := st) l c k
  exact ⟨f, _, ⟨a, i, k⟩, F, F.binds (ps := ps) hb⟩
theorem MetF.ini {C : Addr} {x qual : Str} {st : Stmt} {ps : List Str} (d : MetF K C "__init__" qual st) (hm : mg x = some (.ref C)) (mk : PySem.W.makesIn K C = true) (kc : PySem.W.keepIn K (.ref C) = true)
    (hb : ∀ (kV doc pm : Value) (an : Option Addr) (cdv ct : Value) (us : List Value), us.length = ps.length → bindArgs (PySem.W.fnOf "__init__" qual (defArgs st) (defBody st) (defScope st) .none kV doc pm an cdv ct) ⟨us, []⟩ = pure (ps.zip us)) : IniR K mg C x qual st ps := by
  obtain ⟨f, oc, od, kV, doc, pm, an, cd, ct, sl, a, i, l, c, k⟩ := d
  have F := fun_mk (st := st) l c k
  exact ⟨f, _, ⟨mk, a, i, kc⟩, F, hm, F.binds (ps := ps) hb⟩
def ErrF (K : PySem.W.Frag) (C : Addr) (qual : Str) (st : Stmt) : Prop := ∃ (f : Addr) (oc : Value) (od : Option Addr) (kV doc pm : Value) (an : Option Addr) (cd ct : Value) (sl : Array (Option Value)),
  PySem.W.findIn K (.ref C) "__init__" = some (some (.ref f)) ∧ PySem.W.typeIn K (.ref f) = some (.type "function") ∧ K.lookup f = some ⟨oc, od, .func (PySem.W.fnOf "__init__" qual (defArgs st) (defBody st) (defScope st) .none kV doc pm an cd ct), sl⟩ ∧ PySem.W.codeIn K cd qual = true ∧ PySem.W.keepIn K (.ref f) = true
theorem ErrF.mk {C : Addr} {qual : Str} {st : Stmt} {f : Addr} {oc : Value} {od : Option Addr} {kV doc pm : Value} {an : Option Addr} {cd ct : Value} {sl : Array (Option Value)} (a : PySem.W.findIn K (.ref C) "__init__" = some (some (.ref f))) (i : PySem.W.typeIn K (.ref f) = some (.type "function")) (l : K.lookup f = some ⟨oc, od, .func (PySem.W.fnOf "__init__" qual (defArgs st) (defBody st) (defScope st) .none kV doc pm an cd ct), sl⟩) (c : PySem.W.codeIn K cd qual = true) (k : PySem.W.keepIn K (.ref f) = true) : ErrF K C qual st := ⟨f, oc, od, kV, doc, pm, an, cd, ct, sl, a, i, l, c, k⟩
theorem ErrF.r {C : Addr} {x qual : Str} {st : Stmt} {ps : List Str} (d : ErrF K C qual st) (O : OexC K C) (hm : mg x = some (.ref C))
    (hb : ∀ (kV doc pm : Value) (an : Option Addr) (cdv ct : Value) (us : List Value), us.length = ps.length → bindArgs (PySem.W.fnOf "__init__" qual (defArgs st) (defBody st) (defScope st) .none kV doc pm an cdv ct) ⟨us, []⟩ = pure (ps.zip us)) : ErrR K mg C x qual st ps := by
  obtain ⟨f, oc, od, kV, doc, pm, an, cd, ct, sl, a, i, l, c, k⟩ := d
  have F := fun_mk (st := st) l c k
  exact ⟨f, _, O, a, i, F, hm, F.binds (ps := ps) hb⟩
def CodF (K : PySem.W.Frag) (x : Str) (st : Stmt) (cc : Addr) : Prop := ∃ (f : Addr) (oc : Value) (od : Option Addr) (kV doc pm : Value) (an : Option Addr) (ct : Value) (sl : Array (Option Value)),
  PySem.W.nsIn K mainGlobals x = some (some (.ref f)) ∧ K.lookup f = some ⟨oc, od, .func (PySem.W.fnOf x x (defArgs st) (defBody st) (defScope st) .none kV doc pm an (.ref cc) ct), sl⟩ ∧ PySem.W.codeIn K (.ref cc) x = true ∧ PySem.W.keepIn K (.ref f) = true
theorem CodF.mk {x : Str} {st : Stmt} {cc f : Addr} {oc : Value} {od : Option Addr} {kV doc pm : Value} {an : Option Addr} {ct : Value} {sl : Array (Option Value)} (a : PySem.W.nsIn K mainGlobals x = some (some (.ref f))) (l : K.lookup f = some ⟨oc, od, .func (PySem.W.fnOf x x (defArgs st) (defBody st) (defScope st) .none kV doc pm an (.ref cc) ct), sl⟩) (c : PySem.W.codeIn K (.ref cc) x = true) (k : PySem.W.keepIn K (.ref f) = true) : CodF K x st cc := ⟨f, oc, od, kV, doc, pm, an, ct, sl, a, l, c, k⟩
theorem CodF.r {x : Str} {st : Stmt} {ps : List Str} {cc T : Addr} (d : CodF K x st cc) (X : K.In h) (G : h.Ns mainGlobals mg) (tb : GxR.TabB base mg cc T)
    (hb : ∀ (kV doc pm : Value) (an : Option Addr) (cdv ct : Value) (us : List Value), us.length = ps.length → bindArgs (PySem.W.fnOf x x (defArgs st) (defBody st) (defScope st) .none kV doc pm an cdv ct) ⟨us, []⟩ = pure (ps.zip us)) : CodR K mg base x st ps cc T := by
  obtain ⟨f, oc, od, kV, doc, pm, an, ct, sl, a, l, c, k⟩ := d
  have F := fun_mk (st := st) l c k
  exact ⟨f, oc, od, kV, doc, pm, an, ct, sl, l, c, PySem.W.mg_of X G a, k, F.binds (ps := ps) hb, tb⟩
theorem kit_own {D C : Addr} {b : Bool} (ne : (Value.ref D == Value.ref C) = false) (h2 : PySem.W.isClsIn K C = true) (h3 : PySem.W.typeIn K (.ref C) = some (.type "type")) (h4 : PySem.W.subIn K (.ref D) (.ref C) = some b) : PySem.W.kitOne K (.ref D) (.ref C) = some b := by
  have e2 : ((PySem.W.clsIn K C).isSome && PySem.W.typeIn K (.ref C) == some (.type "type")) = true := by
    have h2' : (PySem.W.clsIn K C).isSome = true := h2
    rw [h2', h3] <;> rfl
  unfold PySem.W.kitOne
  rw [ne, if_neg Bool.false_ne_true]
  show (if ((PySem.W.clsIn K C).isSome && PySem.W.typeIn K (.ref C) == some (.type "type")) = true then PySem.W.subIn K (.ref D) (.ref C) else none) = some b
  rw [if_pos e2]
  exact h4
theorem kit_self {C : Addr} (h : (Value.ref C == Value.ref C) = true) : PySem.W.kitOne K (.ref C) (.ref C) = some true := by
  unfold PySem.W.kitOne
  rw [if_pos h]
theorem kit_bltn {D : Addr} {T : String} {b : Bool} (ne : (Value.ref D == Value.type T) = false) (h2 : PySem.W.kitMeta T = true) (h4 : PySem.W.subIn K (.ref D) (.type T) = some b) : PySem.W.kitOne K (.ref D) (.type T) = some b := by
  unfold PySem.W.kitOne
  rw [ne, if_neg Bool.false_ne_true]
  show (if PySem.W.kitMeta T = true then PySem.W.subIn K (.ref D) (.type T) else none) = some b
  rw [if_pos h2]
  exact h4
theorem exm_own {D C : Addr} {b : Bool} (h1 : PySem.W.subIn K (.ref C) (.type "BaseException") = some true) (h2 : PySem.W.isClsIn K C = true) (h3 : PySem.W.typeIn K (.ref C) = some (.type "type")) (h4 : PySem.W.subIn K (.ref D) (.ref C) = some b) : PySem.W.exmOne K (.ref D) (.ref C) = some b := by
  have e1 : (PySem.W.subIn K (.ref C) (.type "BaseException") == some true) = true := by rw [h1] <;> rfl
  have e2 : ((PySem.W.clsIn K C).isSome && PySem.W.typeIn K (.ref C) == some (.type "type")) = true := by
    have h2' : (PySem.W.clsIn K C).isSome = true := h2
    rw [h2', h3] <;> rfl
  show (if (PySem.W.subIn K (.ref C) (.type "BaseException") == some true) = true then (if ((PySem.W.clsIn K C).isSome && PySem.W.typeIn K (.ref C) == some (.type "type")) = true then PySem.W.subIn K (.ref D) (.ref C) else none) else none) = some b
  rw [if_pos e1, if_pos e2]
  exact h4
end
theorem walk_tab {l : PySem.W.OpenLaw} {n k : Nat} {q : Program} {loose : List Str} {XP : (Str → Option Value) → Heap → Prop} {YP : World → Heap → Prop} {d : DefRec} {K : Params → PySem.W.Frag} {CX : World → CXT} {x : Str}
    (hn : l.most = some n) (hn2 : n ≤ sizeLine) (hdf : d.params.defaults = []) (hr : Room k callerA) (hY : ∀ (w : World) (h : Heap), YP w h → (K w.params).In h)
    (F : ∀ (w : World) (s₀ : Shared) (mg mb : Str → Option Value) (fa : Addr) (h : Heap), PySem.W.Ground q loose [] XP w s₀ mg mb h → (K w.params).In h → h.Ns mainGlobals mg → mg d.name = some (.ref fa) → LamX.LawAtS l w (K w.params) (CX w) k n x mg fa h)
    (hCX : ∀ (w : World) (H : Hp) (s : Shared) (e : Value) (s' : Shared), CX w [] H s (fun _ _ _ => False) e s' → False) :
    PySem.W.WalkO q loose XP YP l.row.toRowW d [] (fun f vs => PySem.call f vs) := by
  refine Att.attach_callB hn hdf fun w s₀ s₁ mg mb fa o pm cd doc a vs ns G Y ho hd hcd hmg hobj hints hlen hbits hg => ?_
  have KX := hY w _ Y
  obtain ⟨fd, cs, sp, hT, nT, C, hb, hsp, hF⟩ := F w s₀ mg mb fa _ G KX G.T.g hmg
  exact LamX.law_callTs KX G.T.g G.T.b G.T.builtins G.T.nolimit hg hT nT C G.T.bmain hobj hints (Nat.le_trans hlen hn2) hr hF hb (fun H hH hS => hsp H a ns hlen hbits hH hS) fun H e s' => hCX w H s₁ e s'
end Cr
set_option Elab.async false
set_option linter.all false
set_option maxRecDepth 100000
set_option maxHeartbeats 4000000
/-! Lambdas that are kept in a list and called later, from a comprehension of the def that made them -/
namespace Cr
open PySem PySem.Spec PyProof.Rows L2 LamX NdefX
/-- a lambda's words, the cells that it captured, its code object -/
structure LF where
  qual : Str
  params : Arguments
  body : Expr
  scope : Scope
  cl : List (Str × Addr)
  c : Addr
abbrev LF.nf (F : LF) : NF := ⟨"<lambda>", F.qual, F.params, [], F.scope, F.cl, F.c⟩
abbrev LF.obj (F : LF) (pm ctv : Value) : Obj := PySem.W.kla_obj "<lambda>" F.qual F.params F.body F.scope F.cl pm F.c ctv
/-- the object at f is the lambda F -/
def LamO (f : Addr) (F : LF) : HO := .ext fun h => ∃ pm ctv : Value, h.get? f = some (F.obj pm ctv)
section
variable {X : Cx} {pins : List (Addr × Obj)} {σ : L2.St} {H : Hp} {s : Shared}
theorem lamO_at {P : Program} {w : World} {h : Heap} {f : Addr} {F : LF} (ok : HOk P w H h) (e : H f = some (LamO f F)) : ∃ pm ctv : Value, h.get? f = some (F.obj pm ctv) := (ok f _ e).1
theorem codeO_get {P : Program} {w : World} {h : Heap} {c : Addr} {q : Str} (ok : HOk P w H h) (e : H c = some (CodeO c q)) : ∃ (oc : Obj) (vs : Array Value) (t : Tok), h.get? c = some oc ∧ oc.data = .fields vs ∧ vs[1]? = some (.str q t) := (ok c _ e).1
/-- it is known from its making on -/
theorem inv_lam {F : LF} {tk : Nat} {pm ctv : Value} (I : Inv X pins σ H s) : Inv X pins σ (upd H s.heap.objs.size (LamO s.heap.objs.size F)) { s with heap := s.heap.push (F.obj pm ctv), toks := tk } := by
  have e : (s.heap.push (F.obj pm ctv)).get? s.heap.objs.size = some (F.obj pm ctv) := Heap.get?_push_size _ rfl
  exact I.laid (t' := tk) (fun b u z => Heap.get?_push_of_some _ z) (Nat.le_refl _) ⟨⟨pm, ctv, e⟩, ⟨_, e⟩, fun h1 h2 ⟨p, c, z⟩ st => ⟨p, c, st _ z⟩⟩
/-- what the making of a lambda leaves: all but the table at P stands, which tells its name's code objects still -/
structure Lam1 (P : Addr) (q : Str) (H H1 : Hp) (f : Addr) (F : LF) : Prop where
  keep : ∀ b o, b ≠ P → H b = some o → H1 b = some o
  tab : TabS H1 P q
  new : H f = none
  fn : H1 f = some (LamO f F)
  code : H1 F.c = some (CodeO F.c q)
abbrev lfOf (X : Cx) (params : Arguments) (body : Expr) (scope : Scope) (c' : Addr) : LF := ⟨X.env.qual ++ "<lambda>", params, body, scope, cloFrom X.env.cells scope.names [], c'⟩
theorem lam_made {c P : Addr} {params : Arguments} {body : Expr} {scope : Scope} {pos : Pos} {E Q : Value → Shared → Prop} (I : Inv X pins σ H s) (TB : TabB X.base X.mg c P) (hcode : X.env.code = .ref c)
    (hT : TabS H P (X.env.qual ++ "<lambda>")) (hdef : defaultsOf params X.env = ([], [])) (hfree : ∀ y ∈ scope.names, y.2 = .free → ∃ c, X.env.cells.lookup y.1 = some c)
    (h : ∀ (f c' : Addr) (H1 : Hp) (s' : Shared), Inv X pins σ H1 s' → Lam1 P (X.env.qual ++ "<lambda>") H H1 f (lfOf X params body scope c') → Q (.ref f) s') :
    wpAny (model X.prog X.w) X.A (eval (.Lambda params body scope pos) X.env) Q E s := by
  obtain ⟨ps, hP, ht, ha⟩ := hT
  have bP : s.heap.BuiltinsAt X.mg P := TB.bm.keeps I.bk
  have oP : s.heap.get? P = some { cls := .none, data := .fields ps } := I.hok P _ hP
  refine PySem.W.kla_eval hdef ?_
  cases hc : codeAmong pos ps.toList with
  | some cv =>
    obtain ⟨c', rfl, hco⟩ := ha pos cv hc
    refine PySem.W.kla_makeFunctionHit (mg := X.mg) (closure_ok hfree) I.ok.glob (I.mod.glob.keeps I.bk) hcode (TB.code.keeps I.bk) oP ht hc bP fun ctv h' tk hx _ => ?_
    have J : Inv X pins σ H { s with heap := h', toks := tk } := I.kept hx
    have nF : H h'.objs.size = none := J.hok.fresh (Nat.le_refl _)
    have st : ∀ b o, H b = some o → upd H h'.objs.size (LamO h'.objs.size (lfOf X params body scope c')) b = some o := fun b o e => (upd_ne (ne_of_none e nF)).trans e
    exact h h'.objs.size c' _ _ (inv_lam (F := lfOf X params body scope c') (tk := tk) (ctv := ctv) J) ⟨fun b o _ e => st b o e, TabS.ext ⟨ps, hP, ht, ha⟩ st, nF, upd_same, st _ _ hco⟩
  | none =>
    refine PySem.W.kla_makeFunction (mg := X.mg) (closure_ok hfree) I.ok.glob (I.mod.glob.keeps I.bk) hcode (TB.code.keeps I.bk) oP ht hc TB.gP bP fun c' ctv h' tk hx hge hlt hrec htb => ?_
    obtain ⟨_, oc, vs, t, e, hoc, hd, hv⟩ := hrec
    cases e
    have nC : H c' = none := I.hok.fresh hge
    have hPc : P ≠ c' := ne_of_none hP nC
    have J := inv_table (q := X.env.qual ++ "<lambda>") (t' := tk) (more := #[rawInt pos.line, rawInt pos.col, .ref c']) I hP (fun b o n e => hx b o n e) htb hge ⟨oc, vs, t, hoc, hd, hv⟩
    generalize hH2 : upd (upd H P (.tbl (ps ++ #[rawInt pos.line, rawInt pos.col, .ref c']))) c' (CodeO c' (X.env.qual ++ "<lambda>")) = H2 at J
    have k2 : ∀ b o, b ≠ P → H b = some o → H2 b = some o := fun b o n e => by rw [← hH2, upd_ne (ne_of_none e nC), upd_ne n]; exact e
    have cH : H2 c' = some (CodeO c' (X.env.qual ++ "<lambda>")) := by rw [← hH2]; exact upd_same
    have T2 : TabS H2 P (X.env.qual ++ "<lambda>") := by
      refine ⟨ps ++ #[rawInt pos.line, rawInt pos.col, .ref c'], by rw [← hH2, upd_ne hPc, upd_same], ?_, fun p' cv hcv => ?_⟩
      · rw [Array.toList_append]
        exact PySem.TriplesOk_snoc _ _ _ _ ht
      · rw [Array.toList_append] at hcv
        rcases among_app _ ht hcv with z | z
        · obtain ⟨c0, e1, e2⟩ := ha p' cv z
          refine ⟨c0, e1, k2 _ _ (fun e => ?_) e2⟩
          rw [e, hP] at e2
          exact codeO_ne ps (Option.some.inj e2).symm
        · exact ⟨c', z, cH⟩
    have nF : H2 h'.objs.size = none := J.hok.fresh (Nat.le_refl _)
    have st : ∀ b o, H2 b = some o → upd H2 h'.objs.size (LamO h'.objs.size (lfOf X params body scope c')) b = some o := fun b o e => (upd_ne (ne_of_none e nF)).trans e
    exact h h'.objs.size c' _ _ (inv_lam (F := lfOf X params body scope c') (tk := tk) (ctv := ctv) J) ⟨fun b o n e => st b o (k2 b o n e), T2.ext st, I.hok.fresh (Nat.le_trans hge (Nat.le_of_lt hlt)), upd_same, st _ _ cH⟩
/-- lambda: .. as a value -/
def tLamV (X : Cx) (P : Addr) (params : Arguments) (body : Expr) (scope : Scope) : TE := fun _ H Q => TabS H P (X.env.qual ++ "<lambda>") ∧ ∀ (f c' : Addr) (H1 : Hp), Lam1 P (X.env.qual ++ "<lambda>") H H1 f (lfOf X params body scope c') → Q (.ref f) H1
theorem pe_lam {c P : Addr} {params : Arguments} {body : Expr} {scope : Scope} {pos : Pos} (TB : TabB X.base X.mg c P) (hcode : X.env.code = .ref c) (L : LamS X.env.scope scope) (hdef : defaultsOf params X.env = ([], [])) :
    PE X (.Lambda params body scope pos) (tLamV X P params body scope) :=
  ⟨fun pins s σ H Q I h => lam_made I TB hcode h.1 hdef (L.has I.ok) fun f c' H1 s' J l => ⟨.ref f, H1, J, rfl, h.2 f c' H1 l⟩⟩
end
/-! ### what it promises -/
abbrev LSp := List (Option V) → Hp → VK → XK → Prop
structure LOk (P : Program) (w : World) (K : PySem.W.Frag) (mg : Str → Option Value) (base : Heap) (CX : CXT) (k : Nat) (F : LF) (fr : List Str) (sp : LSp) : Prop where
  run : ∀ (f : Addr) (A : Around) (outer : List Env) (s : Shared) (H : Hp) (ws : List (Option V)) (Q : VK) (E : XK), Room k A → Env0 P w K mg base A outer s H → H f = some (LamO f F) → H F.c = some (CodeO F.c F.qual) → CellsAt F.cl fr ws s.heap H → sp ws H Q E →
    codeAny (model P w) A (.call (.ref f) ⟨[], []⟩) (CR CX outer P w H s Q E) s
section
variable {CX : CXT} {P : Program} {w : World} {K : PySem.W.Frag} {mg : Str → Option Value} {base : Heap} {N fr : List Str} {F : LF} {k : Nat} {sp : LSp}
/-- a lambda without parameters, by its body -/
theorem lok_of (S : NScope N [] fr F.scope) (hb : ∀ pm ctv : Value, bindArgs (PySem.W.kla_fn "<lambda>" F.qual F.params F.body F.scope F.cl pm (.ref F.c) ctv) ⟨[], []⟩ = pure [])
    (hbody : ∀ (f : Addr) (A : Around) (outer : List Env) (s : Shared) (H : Hp) (ws : List (Option V)) (Q : VK) (E : XK), Room k (A.deeper (envF F.nf f s.heap.objs.size)) → ws.length = fr.length → sp ws H Q E →
      ∃ t, PE (ncx CX P w K mg base N F.nf f A outer s H E) F.body t ∧ t (startF N [] ws) H Q) : LOk P w K mg base CX (k + 1) F fr sp := by
  refine ⟨fun f A outer s H ws Q E hr e0 hf hc C hsp => ?_⟩
  have lim : s.heap.NoLimit := e0.mod.nolimit.keeps fun b o e => (e0.bs b o e).1
  obtain ⟨pm, ctv, ho⟩ := lamO_at e0.hok hf
  obtain ⟨oc, vs, t, g1, g2, g3⟩ := codeO_get e0.hok hc
  refine PySem.W.kla_callFunE hr.depth ho rfl S.co S.gen rfl ⟨F.c, oc, vs, t, rfl, g1, g2, g3⟩ ?_
  rw [hb pm ctv]
  refine wpAny_pure (wpAny_newFunctionEnv S.nocell (fun y hy => absurd hy (by simp)) (fun h₁ hns hsb => ⟨lim.fresh _ hsb, ?_⟩) S.kind)
  show codeAny _ _ (.expr F.body (envF F.nf f s.heap.objs.size)) _ _
  obtain ⟨t, ht, hq⟩ := hbody f A outer s H ws Q E (hr.deeper _) C.len hsp
  have I : Inv (ncx CX P w K mg base N F.nf f A outer s H E) [] (startF N [] ws) H { s with heap := h₁, toks := s.toks + ([] : List (Str × Value)).length } :=
    inv_startN (ps := []) (us := []) S hr.hd e0 rfl .nil C hns fun b o e => hsb.extBut b o (Nat.ne_of_lt (Heap.lt_size e)) (Heap.get?_push_of_some _ e)
  exact PySem.W.kla_codeExpr (wpAny_mono (ht.run [] _ _ H Q I hq) (fun v s' ⟨x, H', J, r, q⟩ => ⟨x, H', J.os, J.bare, J.base, J.hok, r, q⟩) fun e s' z => z)
end
/-! ### a lambda called by the name that holds it -/
/-- the cells of a def are no frames -/
theorem cells_nf {X : Cx} {pins : List (Addr × Obj)} {σ : L2.St} {H : Hp} {s : Shared} {y : Str} {c : Addr} (I : Inv X pins σ H s) (hfn : X.fn y = true) (e : X.env.cells.lookup y = some c) : c ∉ frs X.stack := fun hc => by
  rcases List.mem_cons.mp (I.stkSub c hc) with z | z
  · exact I.cne y c e z
  · obtain ⟨_, o, ho, _⟩ := I.ok.funs.mem z
    exact absurd (Nat.lt_of_lt_of_le (Heap.lt_size ho) (I.ok.cab y c hfn e)) (Nat.lt_irrefl _)
/-- what a running def knows of the cells: they hold ws, they are none of its callers' frames -/
structure Cel (X : Cx) (cl : List (Str × Addr)) (fr : List Str) (ws : List (Option V)) : Prop where
  at_ : CellsAt cl fr ws X.s_0.heap X.H_0
  nf : ∀ y c, cl.lookup y = some c → c ∉ X.fs
  nx : ∀ y c, cl.lookup y = some c → c ∉ X.ex
theorem Cel.now {X : Cx} {pins : List (Addr × Obj)} {σ : L2.St} {H : Hp} {s : Shared} {cl : List (Str × Addr)} {fr : List Str} {ws : List (Option V)} (c : Cel X cl fr ws) (I : Inv X pins σ H s) : CellsAt cl fr ws s.heap H := c.at_.later c.nf c.nx I
/-- x(), x in the slot i: one of the lambdas that Lm tells of -/
def tLCall (Lm : LF → Prop) (i : Nat) (ws : List (Option V)) (sp : LSp) (E : L2.St → XK) : TE := fun σ H Q => ∃ (f : Addr) (F : LF), Lm F ∧ σ[i]? = some (some (.ref f)) ∧ H f = some (LamO f F) ∧ H F.c = some (CodeO F.c F.qual) ∧ sp ws H Q (E σ)
section
variable {X : Cx} {CX : CXT} {k j : Nat} {fr : List Str} {ws : List (Option V)} {Lm : LF → Prop} {sp : LSp} {i : Nat} {a : Str} {p pos : Pos} {E : L2.St → XK}
theorem pe_lcall (hL : ∀ F, Lm F → LOk X.prog X.w X.K X.mg X.base CX k F fr sp ∧ Cel X F.cl fr ws) (hr : Room j X.A) (hk : k ≤ j) (hx : ∀ σ, PassesAt CX X σ (E σ)) (hN : X.N[i]? = some a) (hv : Vis X.env.scope a)
    (hd : (a == ("__debug__" : Str)) = false := by decide) (hcd : (a == ("__classdict__" : Str)) = false := by decide) : PE X (.Call (.Name a p) [] [] pos) (tLCall Lm i ws sp E) := by
  refine ⟨fun pins s σ H Q I ⟨f, F, hF, hs, h1, h2, q⟩ => ?_⟩
  refine wpAny_Call_Name_kw (thn ((pe_var (pos := p) hN hv hd hcd).run pins s σ H (fun v H1 => v = .ref f ∧ H1 = H) I ⟨.ref f, hs, rfl, rfl⟩) fun u s1 ⟨v, H1, J, r1, ev, eH⟩ => ?_)
  subst ev eH
  obtain rfl : u = Value.ref f := r1
  obtain ⟨pm, ctv, ho⟩ := lamO_at J.hok h1
  refine PySem.W.callWith_F0 (first := []) ⟨_, _, _, _, ho⟩ ?_
  obtain ⟨o, c⟩ := hL F hF
  refine wpAny_call (codeAny_mono (o.run f X.A X.stack s1 H1 ws Q (E σ) (hr.mono hk) J.env0 h1 h2 (c.now J) q) fun r s' hq => ?_)
  cases r with
  | error e => exact hx σ pins H1 s1 e s' J hq
  | ok fl =>
    cases fl with
    | ret u => exact J.after hq
    | next => exact hq.elim
    | brk => exact hq.elim
    | cont => exact hq.elim
end
/-! ### a comprehension that keeps none: what its tests call may lean on the def's own cells -/
section
variable {X : Cx} {elt tg iter : Expr} {ifs : List Expr} {scope : Scope} {own : List (Str × Nat)} {pos : Pos} {wi : TI} {g : TG} {tt : TT}
/-- the block knows what the def knows of its cells -/
theorem Cel.blk {pins : List (Addr × Obj)} {σ : L2.St} {s : Shared} {H : Hp} {cl : List (Str × Addr)} {fr : List Str} {js : List Nat} {fp : List Addr} {cenv : Env} (I : Inv X pins σ H s) (cp : Caps X cl fr js) (hfn : ∀ y, X.fn y = true) (hfp : ∀ b ∈ fp, FpOk X pins H b) :
    Cel (X.blk s H scope cenv fp) cl fr (js.map (slotAt σ)) :=
  ⟨cells_of I cp, fun y c e => cells_nf I (hfn y) (cp.sub y c e), fun y c e hc => (hfp c hc).2.2.2.2.1 y c (cp.sub y c e) rfl⟩
/-- from within a block: the def's own view -/
theorem blk_back {pins p2 : List (Addr × Obj)} {σ σ2 : L2.St} {s s2 : Shared} {H H2 : Hp} {fp : List Addr} {ce : Env} (I : Inv X pins σ H s) (hfp : ∀ b ∈ fp, FpOk X pins H b) (J : Inv (X.blk s H scope ce fp) p2 σ2 H2 s2) : Inv X pins σ H2 s2 :=
  I.call' (ch := fp) J.os J.base J.hok J.bare fun b hb => let ⟨_, h1, _, h3, h4, h5⟩ := hfp b hb; ⟨h3, h1, h4, h5⟩
theorem blk_fp {σ2 : L2.St} {s s2 : Shared} {H H2 : Hp} {fp : List Addr} {ce : Env} (J : Inv (X.blk s H scope ce fp) [] σ2 H2 s2) (n : ∀ b ∈ fp, H2 b = none) : ∀ b ∈ fp, FpOk (X.blk s H scope ce fp) [] H2 b := fun b hb => by
  obtain ⟨h1, h2⟩ := J.ok.exf b hb
  exact ⟨n b hb, h1, J.ok.exfs b hb, .inl hb, h2, fun p hp => nomatch (show p ∈ ([] : List (Addr × Obj)) from hp)⟩
end
/-- a comprehension's loop in which no test holds -/
theorem loop_none {Y : Cx} {elt tg iter : Expr} {ifs : List Expr} {scope : Scope} {pos : Pos} {g : TG} {tt : TT} {J : It} {fp : List Addr} {it : Addr} {acc : Value} {tn : Nat → Heap → Prop} {vs : List Nat} {σ : L2.St} {W : Nat → Nat → Hp → Prop} {R : Result → Shared → Prop}
    (hc : Y.calm = true) (h0 : ∀ e s, ¬ Y.xe e s) (pg : PG Y tg g) (pt : PTs Y ifs tt) (T : Turn Y.prog Y.w Y.K tg J fp it tn)
    (fpok : ∀ (σ2 : L2.St) (H2 : Hp) (s2 : Shared), Inv Y [] σ2 H2 s2 → (∀ b ∈ fp, H2 b = none) → ∀ b ∈ fp, FpOk Y [] H2 b)
    (turn : ∀ i m H, W i m H → (J.stop i H ∧ ∀ s', Inv Y [] (wipe σ vs) H s' → R (.ok .next) s') ∨
      (J.go i H ∧ ∃ Nx : Hp → Prop, (∀ H', Nx H' → ∃ m', m' < m ∧ W (i + 1) m' H') ∧ ∀ x H', J.yld i H x H' → g x (wipe σ vs) H' fun σ2 H2 => wipe σ2 vs = wipe σ vs ∧ tt σ2 H2 fun b H3 => if b = true then False else Nx H3))
    {m : Nat} {s : Shared} {H : Hp} (I : Inv Y [] (wipe σ vs) H s) (st : tn 0 s.heap) (n : ∀ b ∈ fp, H b = none) (w : W 0 m H) :
    codeAny (model Y.prog Y.w) Y.A (.compLoop (.ListComp elt [⟨tg, iter, ifs, 0⟩] scope pos) 0 (.ref it) acc Y.env) R s := by
  have go : ∀ {α : Type} {t : Sem α} {Q Q' : α → Shared → Prop} {E : Value → Shared → Prop} {s : Shared}, wpAny (model Y.prog Y.w) Y.A t Q Y.xe s → (∀ a s, Q a s → Q' a s) → wpAny (model Y.prog Y.w) Y.A t Q' E s := fun h k => wpAny_mono h k fun e s z => (h0 e s z).elim
  refine compLoop_any (fun m' s' => ∃ i H', Inv Y [] (wipe σ vs) H' s' ∧ tn i s'.heap ∧ (∀ b ∈ fp, H' b = none) ∧ W i m' H') ?_ m ⟨0, H, I, st, n, w⟩
  clear I st n w
  rintro m s ⟨i, H, I, st, n, w⟩
  rcases turn i m H w with ⟨stop, fin⟩ | ⟨more, Nx, next, read⟩
  · exact go (T.done Y rfl rfl rfl hc i [] s _ H Y.xe I (fpok _ _ _ I n) st stop) fun r s' ⟨e, I'⟩ => by
      subst e
      exact fin s' I'
  · refine go (T.item Y rfl rfl rfl hc i [] s _ H Y.xe I (fpok _ _ _ I n) st more) fun r s1 ⟨u, e, h1⟩ => ?_
    subst e
    refine go h1 fun _ s2 ⟨x, H2, I2, rx, yx, st2, n2⟩ => ?_
    have P2 := I2.pinned (fpok _ _ _ I2 n2) (T.obj _ _ st2)
    refine go (pg.run _ s2 _ H2 x u _ P2 rx (read x H2 yx)) fun _ s3 ⟨σ3, H3, I3, e3, q3⟩ => ?_
    refine go (pt.run _ s3 σ3 H3 _ I3 q3) fun b s4 ⟨H4, I4, q4⟩ => ?_
    cases b with
    | true => exact (show False from q4).elim
    | false =>
      obtain ⟨m', lt, w'⟩ := next H4 q4
      have stay : ∀ b ∈ fp, ∀ o, s2.heap.get? b = some o → s4.heap.get? b = some o ∧ H4 b = none := fun b hb o e =>
        let ⟨z1, z2, _⟩ := I4.pin (b, o) (List.mem_append_right _ (List.mem_append_right _ (mem_pinsAt hb e)))
        ⟨z1, z2⟩
      refine ⟨m', lt, i + 1, H4, (I4.unpinned (pins := [])).weak (by rw [← e3, wipe_length]) (fun j v e => (wipe_some (e3.symm ▸ e)).1), T.keep _ _ _ st2 fun b hb o e => (stay b hb o e).1, fun b hb => ?_, w'⟩
      obtain ⟨o, e, _⟩ := T.obj _ _ st2 b hb
      exact (stay b hb o e).2
section
variable {X : Cx} {elt tg iter : Expr} {ifs : List Expr} {scope : Scope} {own : List (Str × Nat)} {pos : Pos} {wi : TI} {g : TG} {tt : L2.St → TT}
/-- [.. if test], the tests reading what the def's cells hold; none holds -/
theorem pe_lcE (hc : X.calm = true) (hN : X.N.Nodup) (hi : PI X tg iter wi) (ok : BlkOk X.N X.env.scope scope own)
    (hg : ∀ (s : Shared) (H : Hp) (C : Addr) (cl : List (Str × Addr)) (fp : List Addr), PG (X.blk s H scope (compEnvC scope cl C X.env) fp) tg g)
    (ht : ∀ (pins : List (Addr × Obj)) (σ : L2.St) (s : Shared) (H : Hp) (C : Addr) (cl : List (Str × Addr)) (fp : List Addr), Inv X pins σ H s → (∀ b ∈ fp, FpOk X pins H b) → PTs (X.blk s H scope (compEnvC scope cl C X.env) fp) ifs (tt σ))
    (hs : ∀ x, foldedSetIterable iter X.env x = pure x := by intro _; rfl) :
    PE X (.ListComp elt [⟨tg, iter, ifs, 0⟩] scope pos) (fun σ => tLc wi g (tt σ) (fun _ _ _ => False) (own.map (·.2)) σ) := by
  refine ⟨fun pins s σ H Q I h => ?_⟩
  have hfree : ∀ y ∈ scope.names, y.2 = .free → ∃ c, X.env.cells.lookup y.1 = some c := fun y hy e => (ok.free y hy e).elim (fun k => I.ok.has _ (.inl k)) fun k => I.ok.has _ (.inr k)
  rw [eval_ListComp]
  refine wpAny_comprehension_free rfl hs (closure_ok hfree) ok.kind (fun y hy e => (ok.uniq y hy).trans (congrArg some e)) (thn (hi.run pins s σ H _ I h) fun xv s1 hx => thn hx fun itv s2 ⟨it, fp, tn, J, H2, e, I2, T, st2, f2, h2⟩ => ?_)
  subst e
  refine wpAny_newObj_type (newEnv_comp ?_) (Nat.zero_le _)
  obtain ⟨W, ⟨m, w⟩, turn⟩ := h2 _ (I2.hok.fresh (Nat.le_refl _))
  have lt : ∀ b ∈ fp, b < s2.heap.objs.size := fun b hb => let ⟨o, e, _⟩ := T.obj _ _ st2 b hb; Heap.lt_size e
  have I3 : Inv X pins σ (upd H2 s2.heap.objs.size (.lst [])) { s2 with heap := s2.heap.push { cls := .type "list", data := .seq ([] : List Value).toArray } } :=
    I2.laid (t' := s2.toks) (fun b o e => Heap.get?_push_of_some _ e) (Nat.le_refl _) ⟨Nat.zero_le _, [], 0, .nil, Heap.get?_push_size _ rfl⟩
  have f3 : ∀ b ∈ fp, FpOk X pins (upd H2 s2.heap.objs.size (.lst [])) b := fun b hb => ⟨by rw [upd_ne (Nat.ne_of_lt (lt b hb))]; exact (f2 b hb).1, (f2 b hb).2⟩
  have st3 : tn 0 (s2.heap.push { cls := .type "list", data := .seq ([] : List Value).toArray }) := T.keep _ _ _ st2 fun b _ o e => Heap.get?_push_of_some _ e
  generalize hs3 : ({ s2 with heap := s2.heap.push { cls := .type "list", data := .seq ([] : List Value).toArray } } : Shared) = s3 at *
  have hp3 : s3.heap = s2.heap.push { cls := .type "list", data := .seq ([] : List Value).toArray } := by rw [← hs3]
  have lt3 : ∀ b ∈ fp, b < s3.heap.objs.size := fun b hb => by rw [hp3, Heap.size_push]; exact Nat.lt_succ_of_lt (lt b hb)
  rw [← hp3] at st3
  generalize s2.heap.objs.size = D at *
  generalize upd H2 D (.lst []) = H3 at *
  -- the block
  have I4 := block_start I3 ok hN fun b hb => ⟨f3 b hb, lt3 b hb⟩
  have pg := hg s3 H3 s3.heap.objs.size (cellsFrom (s3.heap.objs.size + 1) scope.names (cloFrom X.env.cells scope.names [])) fp
  have pt := ht pins σ s3 H3 s3.heap.objs.size (cellsFrom (s3.heap.objs.size + 1) scope.names (cloFrom X.env.cells scope.names [])) fp I3 f3
  have st4 : tn 0 (pushCells (s3.heap.push { cls := .type "dict", data := .dict #[] }) scope.names) := T.keep _ _ _ st3 fun b _ o e => pushCells_keeps _ _ _ _ (Heap.get?_push_of_some _ e)
  show codeAny _ _ (.compStart (.ListComp elt [⟨tg, iter, ifs, 0⟩] scope pos) 0 (.ref it) (.ref D) (compEnvC scope (cellsFrom (s3.heap.objs.size + 1) scope.names (cloFrom X.env.cells scope.names [])) s3.heap.objs.size X.env))
    (compPost (model X.prog X.w) X.A X.xe none (EP X pins σ Q) (.ref D) s3.heap.objs.size) { s3 with heap := pushCells (s3.heap.push { cls := .type "dict", data := .dict #[] }) scope.names }
  have cL : (compEnvC scope (cellsFrom (s3.heap.objs.size + 1) scope.names (cloFrom X.env.cells scope.names [])) s3.heap.objs.size X.env).locals = s3.heap.objs.size := rfl
  generalize compEnvC scope (cellsFrom (s3.heap.objs.size + 1) scope.names (cloFrom X.env.cells scope.names [])) s3.heap.objs.size X.env = ce at *
  refine codeAny_compStart_list (loop_none (Y := X.blk s3 H3 scope ce fp) (σ := σ) (vs := own.map (·.2)) (J := J) (W := W) hc (fun _ _ z => z) pg pt T (fun σ2 H2 s2 J2 n2 => blk_fp J2 n2) (fun i m H w => ?_) I4 st4 (fun b hb => (f3 b hb).1) w) (T.self X.A 0 _ _ _ st4 (loop_none (Y := X.blk s3 H3 scope ce fp) (σ := σ) (vs := own.map (·.2)) (J := J) (W := W) hc (fun _ _ z => z) pg pt T (fun σ2 H2 s2 J2 n2 => blk_fp J2 n2) (fun i m H w => ?_) I4 st4 (fun b hb => (f3 b hb).1) w))
  all_goals
    rcases turn i m H w with ⟨stop, q⟩ | ⟨more, Nx, next, read⟩
    · refine .inl ⟨stop, fun s' J' => ?_⟩
      have back := blk_back I3 f3 J'
      obtain ⟨m', hn, _⟩ := J'.loc
      have hn : s'.heap.Ns s3.heap.objs.size m' := cL ▸ hn
      have nC : H s3.heap.objs.size = none := cL ▸ J'.free
      obtain ⟨z0, z1, z2, z3, z4, z5⟩ := I3.fpOk (Nat.le_refl _) nC
      exact ⟨m', hn, fun h'' sb => ⟨.ref D, H, back.turned (t' := s'.toks) (fun b o hb e => (sb.2 b hb).trans e) z0 z1 z3 z4 z5, rfl, q⟩⟩
    · exact .inr ⟨more, Nx, next, read⟩
end
end Cr
set_option Elab.async false
set_option linter.all false
set_option maxRecDepth 100000
set_option maxHeartbeats 4000000
/-! isinstance of a caught error, with or without a dict of its own, by one class or a tuple of classes -/
namespace Cr
open PySem PySem.Spec PyProof.Rows L2
def rIsEX (K : PySem.W.Frag) (cls : Value) (d : Option Addr) (a : Addr) : List V → Hp → VK → Prop := fun xs H Q => ∃ (D : Addr) (c : V) (b : Bool), xs = [.ref a, c] ∧ cls = .ref D ∧ ExcC K D ∧ (match d with | none => True | some dd => ∃ fs, H dd = some (.xd fs)) ∧
  ((∃ cv, ClsV c cv ∧ PySem.W.kitOne K (.ref D) cv = some b) ∨ (∃ tp cs us, c = .ref tp ∧ H tp = some (.tup cs) ∧ Paired ClsV cs us ∧ PySem.W.kitAny K (.ref D) us = some b)) ∧ Q (.bl b) H
theorem call_isEX {X : Cx} {a : Addr} {oe : Obj} {cls : Value} {d : Option Addr} {pn : List (Addr × Obj)} (hz : Zc cls d oe) (hf : ∃ vs, oe.data = .fields vs) : CallR (X.suite a ((a, oe) :: pn)) (.builtin "isinstance") (rIsEX X.K cls d a) := by
  intro pins s σ H xs us Q I r h
  obtain ⟨D, c, b, rfl, rfl, C, hd, hc, q⟩ := h
  obtain ⟨u1, u2, rfl, r1, r2⟩ := vals2 r
  cases (show u1 = Value.ref a from r1)
  obtain ⟨hget, _⟩ := I.pin (a, oe) (List.mem_append.mpr (.inl List.mem_cons_self))
  obtain ⟨vs, hv⟩ := hf
  obtain ⟨od, J⟩ : ∃ od, PySem.W.InstAt s.heap a oe D od := by
    cases d with
    | none =>
      exact ⟨none, hget, hz.1, by unfold PySem.W.notCls; rw [hv] <;> rfl, by rw [hz.2]; exact True.intro⟩
    | some dd =>
      obtain ⟨fs, hdd⟩ := hd
      have hx : ObjOk X.prog X.w H s.heap dd (.xd fs) := I.hok dd _ hdd
      obtain ⟨mA, hns, hr⟩ := hx
      obtain ⟨od, ho, hl⟩ := lookIn_ns hns
      exact ⟨some od, hget, hz.1, by unfold PySem.W.notCls; rw [hv] <;> rfl, by rw [hz.2]; exact ho⟩
  have Z := PySem.W.kitx_exc (K := X.K) (C := D) (x := a) (ox := oe) (od := od) (gt := none) (by obtain ⟨cd, hc, _⟩ := PySem.W.any_some C.hd; rw [hc]; rfl) C.hg C.hk C.hs C.ha C.hn C.ht C.hm
  rcases hc with ⟨cv, hcv, e⟩ | ⟨tp, cs, us', rfl, hT, k, e⟩
  · have ec := hcv.eq r2
    subst ec
    exact PySem.W.kia_one Z I.kIn J e (fun z => nomatch z) fun tk => ⟨.bl b, H, I.kept (t' := tk) fun _ _ z => z, rfl, q⟩
  · cases (show u2 = Value.ref tp from r2)
    obtain ⟨_, its, rv, o, h1, h2, n, h3⟩ := (show ObjOk X.prog X.w H s.heap tp (.tup cs) from I.hok tp _ hT)
    have e3 := ClsV.all k rv
    subst e3
    obtain ⟨oc, od', dt, sl⟩ := o
    simp only at h2 h3
    subst h2 h3
    exact PySem.W.kia_tup Z I.kIn J h1 e (fun z => nomatch z) fun tk => ⟨.bl b, H, I.tok tk, rfl, q⟩
theorem kitAny_f {K : PySem.W.Frag} {t : Value} : ∀ {cs : List Value}, (∀ c ∈ cs, PySem.W.kitOne K t c = some false) → PySem.W.kitAny K t cs = some false
  | [], _ => rfl
  | c :: r, h => by
    unfold PySem.W.kitAny
    rw [h c List.mem_cons_self]
    exact kitAny_f fun z hz => h z (List.mem_cons_of_mem _ hz)
end Cr
set_option Elab.async false
set_option linter.all false
set_option maxRecDepth 100000
set_option maxHeartbeats 4000000
/-! Slices, joins behind an if -/
namespace Cr
open PySem PySem.Spec PyProof.Rows L2
theorem Gr.down {Fs : List Addr} {G H G1 H1 : Hp} (g : Gr Fs G H G1 H1) (w : Wd Fs G H) : Gr Fs G H G H1 := ⟨Same.refl _, ⟨g.up.trans g.wd.same, w.off, g.wd.on⟩, g.keep, fun _ e _ => e⟩
theorem lcG {J : It} {n : Nat} {Gd : Hp → Prop} {Y : Nat → Hp → V → Hp → Prop} {B : V → Hp → (Hp → Prop) → Prop} {H0 : Hp} {Qd : Hp → Prop} (w : Walk J n Gd Y) (Pv : Nat → Hp → Prop) (h0 : Pv 0 H0) (hG : ∀ i H, i ≤ n → Pv i H → Gd H)
    (hs : ∀ i x H H', i < n → Pv i H → Y i H x H' → B x H' (Pv (i + 1))) (hd : ∀ H, Pv n H → Qd H) :
    ∃ W : Nat → Nat → Hp → Prop, (∃ m, W 0 m H0) ∧ ∀ i m H, W i m H → (J.stop i H ∧ Qd H) ∨ (J.go i H ∧ ∃ Nx : Hp → Prop, (∀ H', Nx H' → ∃ m', m' < m ∧ W (i + 1) m' H') ∧ ∀ x H', J.yld i H x H' → B x H' Nx) := by
  refine ⟨fun i m H => m = n - i ∧ i ≤ n ∧ Pv i H, ⟨n, by simp, Nat.zero_le _, h0⟩, ?_⟩
  rintro i m H ⟨rfl, hi, p⟩
  have q := hG i H hi p
  by_cases hlt : i < n
  · exact .inr ⟨w.goes i H hlt q, Pv (i + 1), fun H' p' => ⟨n - (i + 1), by omega, rfl, hlt, p'⟩, fun x H' y => hs i x H H' hlt p (w.yields i H x H' hlt q y)⟩
  · have e : i = n := by omega
    subst e
    exact .inl ⟨w.stops H q, hd H p⟩
theorem pi_zipK {X : Cx} {K : PySem.W.Frag} {e e2 : Expr} {ta : TA} {p pos tpos : Pos} {elts : List Expr} {kk : Nat} (hK : X.K = K) (hg : Gl X "zip") (hm : X.mg "zip" = none) (ha : PA X [e, e2] ta)
    (hs : starEach [e, e2] X.env = (false, eval e X.env) :: starEach [e2] X.env := by rfl) (hpl : (backTo pos (starEach [e2] X.env)).any (·.1) = false := by rfl) :
    PI X (.Tuple elts kk tpos) (.Call (.Name "zip" p) [e, e2] [] pos) (iZip K ta) := by
  subst hK
  exact pi_zip hg hm ha hs hpl
theorem le1000 {n : Nat} (h : n ≤ 1000) : n ≤ sizeLine := Nat.le_trans h (by rw [sizeLine_eq]; decide)
theorem cutTo (xs : List V) (k : Nat) : cutV xs none (some (k : Int)) = xs.take k := by
  unfold cutV
  rw [HT.sIx_none, HT.sIx_nat, List.drop_zero, Nat.sub_zero]
  by_cases h : k ≤ xs.length
  · rw [Nat.min_eq_left h]
  · rw [Nat.min_eq_right (by omega), List.take_of_length_le (Nat.le_refl _), List.take_of_length_le (by omega)]
theorem cutFrom (xs : List V) (k : Nat) : cutV xs (some ((k : Int) + 1)) none = xs.drop (k + 1) := by
  rw [show ((k : Int) + 1) = ((k + 1 : Nat) : Int) by omega]
  unfold cutV
  rw [HT.sIx_none, HT.sIx_nat]
  by_cases h : k + 1 ≤ xs.length
  · rw [Nat.min_eq_left h, List.take_of_length_le (by rw [List.length_drop]; omega)]
  · rw [Nat.min_eq_right (by omega), Nat.sub_self, List.take_zero, List.drop_of_length_le (by omega)]
/-- one item changed -/
theorem spliced {ns : List Int} {k : Nat} (x : Int) (h : k < ns.length) : ∃ ns' : List Int, ns'.length = ns.length ∧ (cutV (ns.map V.int) none (some (k : Int)) ++ [V.int x]) ++ cutV (ns.map V.int) (some ((k : Int) + 1)) none = ns'.map V.int := by
  refine ⟨(ns.take k ++ [x]) ++ ns.drop (k + 1), ?_, ?_⟩
  · rw [List.length_append, List.length_append, List.length_take, List.length_drop]
    show min k ns.length + 1 + _ = _
    omega
  · rw [cutTo, cutFrom, List.map_append, List.map_append, List.map_take, List.map_drop]
    rfl
theorem cut_small {xs : List V} {lo hi : Option Int} (h : xs.length < 32) : (cutV xs lo hi).length < 32 := Nat.lt_of_le_of_lt (cutV_length xs lo hi) h
theorem seq_ifS {c : TT} {t u rest : TS} {D : Ends} {σ : L2.St} {H : Hp} (Pv : L2.St → Hp → Prop) (hd : ∀ σ H, Pv σ H → rest D σ H) (h : ∀ κ : L2.St → Hp → Prop, (∀ σ H, Pv σ H → κ σ H) → tIfS c t u { D with nx := κ } σ H) : tSeq (tIfS c t u) rest D σ H := h (rest D) hd
def IntsL (K : PySem.W.Frag) (G : Hp) (v : V) (ns : List Int) : Prop := ∃ a, v = .ref a ∧ SqL K G a (ns.map V.int)
theorem ints_same {K : PySem.W.Frag} {G G' : Hp} (e : Same G G') : ∀ {xs : List V} {ls : List (List Int)}, Paired (IntsL K G) xs ls → Paired (IntsL K G') xs ls
  | _, _, .nil => .nil
  | _, _, .cons ⟨a, h1, h2⟩ r => .cons ⟨a, h1, e.seq h2⟩ (ints_same e r)
theorem seq_cut {t u : TS} {D : Ends} {σ : L2.St} {H : Hp} (Pv : L2.St → Hp → Prop) (hd : ∀ σ H, Pv σ H → u D σ H) (h : ∀ κ : L2.St → Hp → Prop, (∀ σ H, Pv σ H → κ σ H) → t { D with nx := κ } σ H) : tSeq t u D σ H := h (u D) hd
theorem u65 {k : Nat} {A : Around} (r : Room k A) : A.units + 65 < cLine := by have := r.un; omega
/-- a sum over the numbers below n -/
def sumTo (f : Nat → Int) : Nat → Int
  | 0 => 0
  | n + 1 => sumTo f n + f n
theorem sumTo_succ (f : Nat → Int) (n : Nat) : sumTo f (n + 1) = sumTo f n + f n := rfl
theorem sumTo_congr {f g : Nat → Int} : ∀ {n : Nat}, (∀ i, i < n → f i = g i) → sumTo f n = sumTo g n
  | 0, _ => rfl
  | n + 1, h => by rw [sumTo_succ, sumTo_succ, sumTo_congr fun i hi => h i (Nat.lt_succ_of_lt hi), h n (Nat.lt_succ_self n)]
theorem sumTo_add (f g : Nat → Int) : ∀ n : Nat, sumTo (fun i => f i + g i) n = sumTo f n + sumTo g n
  | 0 => rfl
  | n + 1 => by rw [sumTo_succ, sumTo_succ, sumTo_succ, sumTo_add f g n]; omega
theorem sumTo_sub (f g : Nat → Int) : ∀ n : Nat, sumTo (fun i => f i - g i) n = sumTo f n - sumTo g n
  | 0 => rfl
  | n + 1 => by rw [sumTo_succ, sumTo_succ, sumTo_succ, sumTo_sub f g n]; omega
theorem sumTo_zero : ∀ n : Nat, sumTo (fun _ => 0) n = 0
  | 0 => rfl
  | n + 1 => by rw [sumTo_succ, sumTo_zero n]; rfl
theorem max_if' (a b : Int) : (if b > a then b else a) = max a b := by
  by_cases h : b > a
  · rw [if_pos h]; omega
  · rw [if_neg h]; omega
theorem min_if' (a b : Int) : (if b < a then b else a) = min a b := by
  by_cases h : b < a
  · rw [if_pos h]; omega
  · rw [if_neg h]; omega
/-! ### prices: a list of lists of ints -/
def PricesA (K : PySem.W.Frag) (G : Hp) (a : Addr) (ps : List (List Int)) : Prop := ∃ xs, SqL K G a xs ∧ Paired (IntsL K G) xs ps
theorem PricesA.same {K : PySem.W.Frag} {G G' : Hp} {a : Addr} {ps : List (List Int)} (e : Same G G') (h : PricesA K G a ps) : PricesA K G' a ps := let ⟨xs, h1, h2⟩ := h; ⟨xs, e.seq h1, ints_same e h2⟩
/-- the price of room r in hour t, 0 where there is none -/
def pr (ps : List (List Int)) (r t : Nat) : Int := (ps.getD t []).getD r 0
def fitP (h : Int) (nr : Nat) (ps : List (List Int)) : Prop := (ps.length : Int) = h ∧ ∀ row ∈ ps, row.length = nr ∧ ∀ p ∈ row, -1000000 ≤ p ∧ p ≤ 1000000
theorem getD_out {α : Type} {l : List α} {i : Nat} {d : α} (h : l.length ≤ i) : l.getD i d = d := by
  rw [List.getD_eq_getElem?_getD, List.getElem?_eq_none h]
  rfl
theorem pr_out {ps : List (List Int)} {r t : Nat} (h : ps.length ≤ t) : pr ps r t = 0 := by
  unfold pr
  rw [getD_out h]
  rfl
theorem getD_at {α : Type} {l : List α} {i : Nat} {d : α} (h : i < l.length) : l.getD i d = l[i] := by
  rw [List.getD_eq_getElem?_getD, List.getElem?_eq_getElem h]
  rfl
theorem pr_in {h : Int} {nr : Nat} {ps : List (List Int)} (f : fitP h nr ps) {r t : Nat} : -1000000 ≤ pr ps r t ∧ pr ps r t ≤ 1000000 := by
  unfold pr
  by_cases ht : t < ps.length
  · rw [getD_at ht]
    by_cases hr : r < (ps[t]).length
    · rw [getD_at hr]
      exact (f.2 _ (List.getElem_mem ht)).2 _ (List.getElem_mem hr)
    · rw [getD_out (by omega)]
      decide
  · rw [show ps.getD t [] = [] from getD_out (by omega)]
    show -1000000 ≤ (0 : Int) ∧ (0 : Int) ≤ 1000000
    decide
/-- what stands at row t of prices -/
theorem pr_row {K : PySem.W.Frag} {G : Hp} {h : Int} {nr : Nat} {ps : List (List Int)} {xs : List V} (f : fitP h nr ps) (hp : Paired (IntsL K G) xs ps) {t : Nat} (ht : t < ps.length) :
    ∃ a, xs[t]? = some (.ref a) ∧ SqL K G a ((ps.getD t []).map V.int) ∧ (ps.getD t []).length = nr := by
  obtain ⟨v, hv, a, rfl, hs⟩ := paired_get' hp (List.getElem?_eq_getElem ht)
  rw [getD_at ht]
  exact ⟨a, hv, hs, (f.2 _ (List.getElem_mem ht)).1⟩
theorem ints_getD {ns : List Int} {k : Nat} (hk : k < ns.length) : atI (ns.map V.int) ((k : Nat) : Int) = some (.int (ns.getD k 0)) := by
  rw [getD_at hk]
  exact atI_nat (by rw [List.getElem?_map, List.getElem?_eq_getElem hk]; rfl)
/-- prices whose list is the heap's own -/
def PricesL (K : PySem.W.Frag) (G : Hp) (a : Addr) (ps : List (List Int)) : Prop := ∃ xs, G a = some (.lst xs) ∧ Paired (IntsL K G) xs ps
theorem PricesL.same {K : PySem.W.Frag} {G G' : Hp} {a : Addr} {ps : List (List Int)} (e : Same G G') (h : PricesL K G a ps) : PricesL K G' a ps := let ⟨xs, h1, h2⟩ := h; ⟨xs, e _ _ h1, ints_same e h2⟩
theorem PricesL.toA {K : PySem.W.Frag} {G : Hp} {a : Addr} {ps : List (List Int)} (h : PricesL K G a ps) : PricesA K G a ps := let ⟨xs, h1, h2⟩ := h; ⟨xs, SqL.of h1, h2⟩
end Cr
set_option Elab.async false
set_option linter.all false
set_option maxRecDepth 100000
set_option maxHeartbeats 4000000
/-! Equality and membership of rows, of lists of lists of ints -/
namespace Cr
open PySem PySem.Spec PyProof.Rows L2
abbrev lI (ns : List Int) : PyData := .list (ns.map .int)
abbrev dLL (ps : List (List Int)) : PyData := .list (ps.map lI)
theorem eqv_tI (a b : List Int) : PyData.eqv (tI a) (tI b) = decide (a = b) := by
  have := PySem.W.ked_eqvAll a b
  simp only [PyData.eqv]
  exact this
theorem eqv_lI (a b : List Int) : PyData.eqv (lI a) (lI b) = decide (a = b) := by
  have := PySem.W.ked_eqvAll a b
  simp only [PyData.eqv]
  exact this
theorem any_tI (rs : List (List Int)) (p : List Int) : ((rs.map tI).any fun z => PyData.eqv z (tI p)) = decide (p ∈ rs) := by
  induction rs with
  | nil => simp
  | cons r rs ih =>
    rw [List.map_cons, List.any_cons, ih, eqv_tI]
    by_cases h : r = p
    · simp [h]
    · simp [h, Ne.symm h]
theorem eqvAll_lI : ∀ a b : List (List Int), PyData.eqvAll (a.map lI) (b.map lI) = decide (a = b)
  | [], [] => rfl
  | [], b :: bs => rfl
  | a :: as, [] => rfl
  | a :: as, b :: bs => by
    rw [List.map_cons, List.map_cons]
    simp only [PyData.eqvAll]
    rw [eqv_lI, eqvAll_lI as bs]
    by_cases h : a = b <;> by_cases h2 : as = bs <;> simp [h, h2]
theorem eqv_dLL (a b : List (List Int)) : PyData.eqv (dLL a) (dLL b) = decide (a = b) := by
  have := eqvAll_lI a b
  simp only [PyData.eqv]
  exact this
theorem canAll_ints (ns : List Int) : PyData.canLayAll0 (ns.map PyData.int) = true := by
  induction ns with
  | nil => rfl
  | cons n r ih => simp only [List.map_cons, PyData.canLayAll0, PyData.canLay0, ih]; rfl
theorem canAll_tI (rs : List (List Int)) : PyData.canLayAll0 (rs.map tI) = true := by
  induction rs with
  | nil => rfl
  | cons r rs ih => simp only [List.map_cons, PyData.canLayAll0, PyData.canLay0, ih, canAll_ints]; rfl
theorem canAll_lI (rs : List (List Int)) : PyData.canLayAll0 (rs.map lI) = true := by
  induction rs with
  | nil => rfl
  | cons r rs ih => simp only [List.map_cons, PyData.canLayAll0, PyData.canLay0, ih, canAll_ints]; rfl
theorem depth_tI (rs : List (List Int)) : PyData.depthAll (rs.map tI) ≤ 3 := by
  induction rs with
  | nil => simp [PyData.depthAll]
  | cons r rs ih =>
    have := depth_ints r
    rw [List.map_cons]
    simp only [PyData.depthAll, PyData.depth]
    omega
theorem depth_lI (rs : List (List Int)) : PyData.depthAll (rs.map lI) ≤ 3 := by
  induction rs with
  | nil => simp [PyData.depthAll]
  | cons r rs ih =>
    have := depth_ints r
    rw [List.map_cons]
    simp only [PyData.depthAll, PyData.depth]
    omega
theorem shaped_tI (ns : List Int) : SeqAt.shaped (tI ns) = true := by
  unfold SeqAt.shaped
  rw [Bool.and_eq_true, decide_eq_true_eq]
  refine ⟨?_, ?_⟩
  · simp only [PyData.canLay0]
    exact canAll_ints ns
  · have := depth_ints ns
    simp only [PyData.depth]
    omega
theorem shaped_dI (rs : List (List Int)) : SeqAt.shaped (dI rs) = true := by
  unfold SeqAt.shaped
  rw [Bool.and_eq_true, decide_eq_true_eq]
  refine ⟨?_, ?_⟩
  · simp only [PyData.canLay0]
    exact canAll_tI rs
  · have := depth_tI rs
    simp only [PyData.depth]
    omega
theorem shaped_dLL (rs : List (List Int)) : SeqAt.shaped (dLL rs) = true := by
  unfold SeqAt.shaped
  rw [Bool.and_eq_true, decide_eq_true_eq]
  refine ⟨?_, ?_⟩
  · simp only [PyData.canLay0]
    exact canAll_lI rs
  · have := depth_lI rs
    simp only [PyData.depth]
    omega
theorem eqvAll_tI : ∀ a b : List (List Int), PyData.eqvAll (a.map tI) (b.map tI) = decide (a = b)
  | [], [] => rfl
  | [], b :: bs => rfl
  | a :: as, [] => rfl
  | a :: as, b :: bs => by
    rw [List.map_cons, List.map_cons]
    simp only [PyData.eqvAll]
    rw [eqv_tI, eqvAll_tI as bs]
    by_cases h : a = b <;> by_cases h2 : as = bs <;> simp [h, h2]
theorem eqv_dI (a b : List (List Int)) : PyData.eqv (dI a) (dI b) = decide (a = b) := by
  have := eqvAll_tI a b
  simp only [PyData.eqv]
  exact this
section
variable {K : PySem.W.Frag} {G : Hp}
theorem intsL_dp : ∀ {xs : List V} {ps : List (List Int)}, Paired (IntsL K G) xs ps → DpAll K G xs (ps.map lI)
  | _, _, .nil => .nil
  | _, _, .cons ⟨a, h1, h2⟩ r => .cons (by rw [h1]; exact .lst h2 (dpAll_ints _)) (intsL_dp r)
theorem PricesA.dp {a : Addr} {ps : List (List Int)} (h : PricesA K G a ps) : Dp K G (.ref a) (dLL ps) := by
  obtain ⟨xs, q, r⟩ := h
  exact .lst q (intsL_dp r)
end
end Cr
set_option Elab.async false
set_option linter.all false
set_option maxRecDepth 100000
set_option maxHeartbeats 4000000

namespace Cr
open PySem PySem.Spec PyProof.Rows L2
def top (i : Nat) : Stmt := PySem.Challenge.pw_candleroom_k02_plans_gone_through.main.body.getD i (.Pass ⟨0, 0, 0, 0⟩)
abbrev sBadHouse_init : Stmt := inClass (top 2) 0
abbrev nBadHouse_init : List Str := ["self", "word", "number"]
abbrev aBadHouse_init : List Str := ["self", "word", "number"]
theorem scBadHouse_init : FnScope nBadHouse_init aBadHouse_init (defScope sBadHouse_init) := ⟨rfl, rfl, rfl, by decide +kernel, rfl, by decide +kernel, by decide +kernel⟩
abbrev sHouse_init : Stmt := inClass (top 20) 0
abbrev nHouse_init : List Str := ["self", "hours", "rooms", "doors", "stays"]
abbrev aHouse_init : List Str := ["self", "hours", "rooms", "doors", "stays"]
theorem scHouse_init : FnScope nHouse_init aHouse_init (defScope sHouse_init) := ⟨rfl, rfl, rfl, by decide +kernel, rfl, by decide +kernel, by decide +kernel⟩
abbrev sHouse_rooms : Stmt := inClass (top 20) 1
abbrev nHouse_rooms : List Str := ["self"]
abbrev aHouse_rooms : List Str := ["self"]
theorem scHouse_rooms : FnScope nHouse_rooms aHouse_rooms (defScope sHouse_rooms) := ⟨rfl, rfl, rfl, by decide +kernel, rfl, by decide +kernel, by decide +kernel⟩
abbrev sHouse_doors : Stmt := inClass (top 20) 2
abbrev nHouse_doors : List Str := ["self"]
abbrev aHouse_doors : List Str := ["self"]
theorem scHouse_doors : FnScope nHouse_doors aHouse_doors (defScope sHouse_doors) := ⟨rfl, rfl, rfl, by decide +kernel, rfl, by decide +kernel, by decide +kernel⟩
abbrev sHouse_stays : Stmt := inClass (top 20) 3
abbrev nHouse_stays : List Str := ["self"]
abbrev aHouse_stays : List Str := ["self"]
theorem scHouse_stays : FnScope nHouse_stays aHouse_stays (defScope sHouse_stays) := ⟨rfl, rfl, rfl, by decide +kernel, rfl, by decide +kernel, by decide +kernel⟩
abbrev sHouse_use : Stmt := inClass (top 20) 4
abbrev nHouse_use : List Str := ["self", "room", "hour", "use", "_"]
abbrev aHouse_use : List Str := ["self", "room", "hour"]
theorem scHouse_use : FnScope nHouse_use aHouse_use (defScope sHouse_use) := ⟨rfl, rfl, rfl, by decide +kernel, rfl, by decide +kernel, by decide +kernel⟩
abbrev sHouse_least : Stmt := inClass (top 20) 5
abbrev nHouse_least : List Str := ["self", "room", "hour", "_", "need"]
abbrev aHouse_least : List Str := ["self", "room", "hour"]
theorem scHouse_least : FnScope nHouse_least aHouse_least (defScope sHouse_least) := ⟨rfl, rfl, rfl, by decide +kernel, rfl, by decide +kernel, by decide +kernel⟩
abbrev sHouse__wants : Stmt := inClass (top 20) 6
abbrev nHouse__wants : List Str := ["self", "room", "hour", "place", "begin", "end", "use", "need"]
abbrev aHouse__wants : List Str := ["self", "room", "hour"]
theorem scHouse__wants : FnScope nHouse__wants aHouse__wants (defScope sHouse__wants) := ⟨rfl, rfl, rfl, by decide +kernel, rfl, by decide +kernel, by decide +kernel⟩
abbrev s_check_counts : Stmt := top 21
abbrev n_check_counts : List Str := ["hours", "rooms", "doors", "stays"]
abbrev a_check_counts : List Str := ["hours", "rooms", "doors", "stays"]
theorem sc_check_counts : FnScope n_check_counts a_check_counts (defScope s_check_counts) := ⟨rfl, rfl, rfl, by decide +kernel, rfl, by decide +kernel, by decide +kernel⟩
abbrev s_check_parts : Stmt := top 22
abbrev n_check_parts : List Str := ["hours", "rooms", "doors", "stays", "number", "room", "door", "stay"]
abbrev a_check_parts : List Str := ["hours", "rooms", "doors", "stays"]
theorem sc_check_parts : FnScope n_check_parts a_check_parts (defScope s_check_parts) := ⟨rfl, rfl, rfl, by decide +kernel, rfl, by decide +kernel, by decide +kernel⟩
abbrev s_numbers_can_be : Stmt := top 23
abbrev n_numbers_can_be : List Str := ["numbers"]
abbrev a_numbers_can_be : List Str := ["numbers"]
theorem sc_numbers_can_be : FnScope n_numbers_can_be a_numbers_can_be (defScope s_numbers_can_be) := ⟨rfl, rfl, rfl, by decide +kernel, rfl, by decide +kernel, by decide +kernel⟩
abbrev s_room_can_be : Stmt := top 24
abbrev n_room_can_be : List Str := ["room", "air", "most", "_"]
abbrev a_room_can_be : List Str := ["room"]
theorem sc_room_can_be : FnScope n_room_can_be a_room_can_be (defScope s_room_can_be) := ⟨rfl, rfl, rfl, by decide +kernel, rfl, by decide +kernel, by decide +kernel⟩
abbrev s_door_can_be : Stmt := top 25
abbrev n_door_can_be : List Str := ["door", "rooms", "one", "other", "_"]
abbrev a_door_can_be : List Str := ["door", "rooms"]
theorem sc_door_can_be : FnScope n_door_can_be a_door_can_be (defScope s_door_can_be) := ⟨rfl, rfl, rfl, by decide +kernel, rfl, by decide +kernel, by decide +kernel⟩
abbrev s_stay_can_be : Stmt := top 26
abbrev n_stay_can_be : List Str := ["stay", "hours", "rooms", "place", "begin", "end", "_", "need", "most"]
abbrev a_stay_can_be : List Str := ["stay", "hours", "rooms"]
theorem sc_stay_can_be : FnScope n_stay_can_be a_stay_can_be (defScope s_stay_can_be) := ⟨rfl, rfl, rfl, by decide +kernel, rfl, by decide +kernel, by decide +kernel⟩

/-! ### the mathematics: which house can be -/
def numOk (n : Int) : Bool := decide (0 ≤ n) && decide (n ≤ 999)
def numV (v : V) : Bool := match v with
  | .int i => decide (0 ≤ i) && decide (i ≤ 999)
  | _ => false
theorem all_num : ∀ ns : List Int, (ns.map V.int).all numV = ns.all numOk
  | [] => rfl
  | n :: r => by
    rw [List.map_cons, List.all_cons, List.all_cons, all_num r]
    all_goals rfl
def roomOk : List Int → Bool
  | [a, m, l, p] => ([a, m, l, p] : List Int).all numOk && decide (a ≤ m)
  | _ => false
def doorOk (nr : Nat) : List Int → Bool
  | [o, t, l] => ([o, t, l] : List Int).all numOk && (!decide (o = t) && decide (max o t < (nr : Int)))
  | _ => false
def mostOf (rooms : List (List Int)) (r : Int) : Int := ((rooms.getD r.toNat []).getD 1 0)
def stayOk (h : Int) (rooms : List (List Int)) : List Int → Bool
  | [r, b, e, u, n] => ([r, b, e, u, n] : List Int).all numOk && (decide (r < (rooms.length : Int)) && (decide (b < e) && decide (e ≤ h) && decide (n ≤ mostOf rooms r)))
  | _ => false
/-- the first place where ok does not hold -/
def firstNot (ok : List Int → Bool) (rs : List (List Int)) : Option Nat := rs.findIdx? fun r => !ok r
def countBad (h : Int) (rooms doors stays : List (List Int)) : Option (Str × Int) :=
  if ¬ (1 ≤ h ∧ h ≤ 12) then some ("hours", 0) else if ¬ (1 ≤ rooms.length ∧ rooms.length ≤ 6) then some ("rooms", 0) else if doors.length > 8 then some ("doors", 0) else if stays.length > 20 then some ("stays", 0) else none
def partBad (h : Int) (rooms doors stays : List (List Int)) : Option (Str × Int) := match firstNot roomOk rooms with
  | some i => some ("room", (i : Int))
  | none => match firstNot (doorOk rooms.length) doors with
    | some i => some ("door", (i : Int))
    | none => match firstNot (stayOk h rooms) stays with
      | some i => some ("stay", (i : Int))
      | none => none
def houseBad (h : Int) (rooms doors stays : List (List Int)) : Option (Str × Int) := match countBad h rooms doors stays with
  | some z => some z
  | none => partBad h rooms doors stays
/-- the rows are of the right width -/
def Wide (n : Nat) (rs : List (List Int)) : Prop := ∀ r ∈ rs, r.length = n

/-! ### what the text's top has left -/
/-- the addresses of the text's classes, of a code object and its table -/
structure Ad where
  cH : Addr
  cA : Addr
  mA : Value
  cBH : Addr
  cNum : Addr
  tNum : Addr
structure RawP (K : PySem.W.Frag) (mg : Str → Option Value) (base : Heap) (ad : Ad) : Prop where
  airI : BaseI K ad.cA ad.mA
  m_AirError : mg "AirError" = some (.ref ad.cA)
  bh : ErrR K mg ad.cBH "BadHouse" "BadHouse.__init__" sBadHouse_init aBadHouse_init
  bhw : PySem.W.findIn K (.ref ad.cBH) "word" = some none
  bhn : PySem.W.findIn K (.ref ad.cBH) "number" = some none
  hi : IniR K mg ad.cH "House" "House.__init__" sHouse_init aHouse_init
  hcl : Cls K ad.cH
  hnh : NoAttr K ad.cH "hours"
  hnr : NoAttr K ad.cH "_rooms"
  hnd : NoAttr K ad.cH "_doors"
  hns : NoAttr K ad.cH "_stays"
  hro : MetR K ad.cH "rooms" "House.rooms" sHouse_rooms aHouse_rooms
  hdo : MetR K ad.cH "doors" "House.doors" sHouse_doors aHouse_doors
  hst : MetR K ad.cH "stays" "House.stays" sHouse_stays aHouse_stays
  hus : MetR K ad.cH "use" "House.use" sHouse_use aHouse_use
  hle : MetR K ad.cH "least" "House.least" sHouse_least aHouse_least
  hwa : MetR K ad.cH "_wants" "House._wants" sHouse__wants aHouse__wants
  cc : DefR K mg "_check_counts" s_check_counts a_check_counts
  cp : DefR K mg "_check_parts" s_check_parts a_check_parts
  nc : CodR K mg base "_numbers_can_be" s_numbers_can_be a_numbers_can_be ad.cNum ad.tNum
  rc : DefR K mg "_room_can_be" s_room_can_be a_room_can_be
  dc : DefR K mg "_door_can_be" s_door_can_be a_door_can_be
  sc : DefR K mg "_stay_can_be" s_stay_can_be a_stay_can_be
  gH : ∃ t, mg "MOST_HOURS" = some (.int 12 t)
  gR : ∃ t, mg "MOST_ROOMS" = some (.int 6 t)
  gD : ∃ t, mg "MOST_DOORS" = some (.int 8 t)
  gS : ∃ t, mg "MOST_STAYS" = some (.int 20 t)
  gN : ∃ t, mg "MOST_NUMBER" = some (.int 999 t)
  b_all : mg "all" = none
  b_len : mg "len" = none
  b_max : mg "max" = none
  b_sum : mg "sum" = none
  b_list : mg "list" = none
  b_enumerate : mg "enumerate" = none

section
variable {P : Program} {w : World} {K : PySem.W.Frag} {mg : Str → Option Value} {base : Heap} {ad : Ad}
/-! ### BadHouse -/
theorem small_num : ∀ k : Nat, k < 32 → (toString ((k : Nat) : Int) : Str).length ≤ 2 := by decide +kernel
theorem small_log : ∀ k : Nat, k < 32 → ((k : Nat) : Int).natAbs.log2 < 1920 := by decide +kernel
/-- BadHouse.__init__ -/
def spBHi (ad : Ad) : Sp := fun vs H Q _ => ∃ (a : Addr) (wd : Str) (k : Nat), vs = [.ref a, .str wd, .int (k : Int)] ∧ wd.length ≤ 10 ∧ k < 32 ∧ H a = some (exo a ad.cBH none) ∧
  ∀ dx, H dx = none → dx ≠ a → Q .non (upd (upd (upd H dx (exd dx [("word", .str wd)])) a (exo a ad.cBH (some dx))) dx (exd dx [("number", .int (k : Int)), ("word", .str wd)]))
theorem len_app (a b : Str) : (a ++ b).length = a.length + b.length := by
  show (a.cps ++ b.cps).size = _
  rw [Array.size_append] <;> rfl
theorem mk_bh (T : RawP K mg base ad) : MakE P w K mg base 1 "BadHouse" ad.cBH (spBHi ad) := by
  obtain ⟨_, _, O, _⟩ := id T.bh
  refine T.bh.make scBadHouse_init (fun vs H Q E h => ?_) (fun f cdv A outer s H vs Q E hr h => ?_)
  · obtain ⟨a, wd, k, rfl, _⟩ := h
    rfl
  · obtain ⟨a, wd, k, rfl, hw, hk, ha, q⟩ := h
    have m_AirError := T.m_AirError
    have i_AirError := T.airI
    refine ⟨_, (pss_cons (ps_expr (pe_baseinit i_AirError (by rfl) m_AirError (pa_cons (pv 0) (pa_cons (pe_joined (PJ.cons pe_str (PJ.cons (pe_fmt (pv 1)) (PJ.cons pe_str (PJ.cons (pe_fmt (pv 2)) PJ.nil))))) pa_nil))))
      (pss_cons (ps_ost (pv 0) (pv 1))
      (pss_one (ps_ost (pv 0) (pv 2))))), ?_⟩
    have hlw : wd.length ≤ 10 := hw
    have hz := small_num k hk
    have e1 : (Str.empty ++ ("a house cannot be so: " : Str)).length = 22 := by decide +kernel
    have e2 : ((" " : Str)).length = 1 := by decide +kernel
    have ez : ∀ n : Nat, n ≤ 100 → n ≤ sizeLine := fun n h => by rw [sizeLine_eq]; omega
    refine ⟨_, rfl, _, rfl, ez _ (by omega), _, rfl, .inl ⟨_, rfl, ez _ (by omega), _, rfl, ez _ (by rw [len_app, e1]; omega), _, rfl, ez _ (by rw [len_app, len_app, e1, e2]; omega), _, rfl, .inr ⟨_, rfl, small_log k hk, _, rfl, ez _ (by rw [len_app, len_app, len_app, e1, e2]; omega), ?_⟩⟩⟩
    refine ⟨a, ad.cBH, _, rfl, by show 1 ≤ 1000; decide, O, ha, ?_⟩
    refine ⟨_, rfl, _, rfl, a, ad.cBH, rfl, O, T.bhw, .inl ⟨ha, fun dx hdx hne => ?_⟩⟩
    refine ⟨_, rfl, _, rfl, a, ad.cBH, rfl, O, T.bhn, .inr ⟨dx, [("word", .str wd)], upd_same, ?_, ?_, ?_⟩⟩
    · rw [upd_ne hne, upd_same]
    · show 1 ≤ 900
      decide
    · exact q dx hdx hne
end
end Cr
set_option Elab.async false
set_option linter.all false
set_option maxRecDepth 100000
set_option maxHeartbeats 4000000

namespace Cr
open PySem PySem.Spec PyProof.Rows L2
theorem noFree {names : List (Str × NameKind)} {Q : Str × NameKind → Prop} (h : (names.all fun y => !decide (y.2 = .free)) = true) : ∀ y ∈ names, y.2 = .free → Q y := fun y hy e => by
  have z := List.all_eq_true.mp h y hy
  rw [decide_eq_true e] at z
  cases z
theorem len4 {α : Type} {l : List α} (h : l.length = 4) : ∃ a b c d, l = [a, b, c, d] := match l, h with
  | [a, b, c, d], _ => ⟨a, b, c, d, rfl⟩
theorem len3 {α : Type} {l : List α} (h : l.length = 3) : ∃ a b c, l = [a, b, c] := match l, h with
  | [a, b, c], _ => ⟨a, b, c, rfl⟩
theorem len5 {α : Type} {l : List α} (h : l.length = 5) : ∃ a b c d e, l = [a, b, c, d, e] := match l, h with
  | [a, b, c, d, e], _ => ⟨a, b, c, d, e, rfl⟩
section
variable {P : Program} {w : World} {K : PySem.W.Frag} {mg : Str → Option Value} {base : Heap} {ad : Ad} {Ps : List Addr}
def spNum (K : PySem.W.Frag) (Ps : List Addr) : Sp := fun vs H Q _ => ∃ (G : Hp) (t : Addr) (ns : List Int), vs = [.ref t] ∧ Wd Ps G H ∧ Tabs Ps H ∧ SqT K G t (ns.map V.int) ∧ ∀ H', Gr Ps G H G H' → Tabs Ps H' → Q (.bl (ns.all numOk)) H'
theorem c_num (T : RawP K mg base ad) (hP : ad.tNum ∈ Ps) : C8.Cal P w K mg base 1 "_numbers_can_be" (spNum K Ps) [] := by
  refine T.nc.cal sc_numbers_can_be (fun vs H Q E h => ?_) (fun tb f A outer s H vs Q E hr h => ?_)
  · obtain ⟨G, t, ns, rfl, _⟩ := h
    rfl
  · obtain ⟨G, t, ns, rfl, wd, tbs, ht, q⟩ := h
    have b_all := T.b_all
    obtain ⟨tk, g_MOST_NUMBER⟩ := T.gN
    refine ⟨_, (pss_one (ps_ret (pe_allT hr (by rfl) b_all (by decide +kernel) tb rfl ⟨rfl, rfl, by decide +kernel, rfl, rfl, noFree (by decide +kernel)⟩ (pv 0) (elt_between rfl rfl rfl g_MOST_NUMBER) (fun _ => rfl)))), ?_⟩
    refine ⟨_, rfl, t, ns.map V.int, rfl, Same.tup wd.same ht, fun v hv => ?_, tbs _ hP, fun H2 ht2 => ?_⟩
    · obtain ⟨i, _, rfl⟩ := List.mem_map.mp hv
      exact ⟨i, rfl⟩
    · have e : (ns.map V.int).all (fun v => match v with | .int i => decide (0 ≤ i) && decide (i ≤ 999) | _ => false) = ns.all numOk := by
        rw [List.all_map]
        all_goals rfl
      have z := q H2 (Gr.tab wd hP ht2) (Tabs.tab tbs ht2)
      rw [← e] at z
      exact z
/-- a test of one row: its value -/
def spRow (K : PySem.W.Frag) (Ps : List Addr) (n : Nat) (ok : List Int → Bool) : Sp := fun vs H Q _ => ∃ (G : Hp) (v : V) (ns : List Int), vs = [v] ∧ Wd Ps G H ∧ Tabs Ps H ∧ RowT K G v ns ∧ ns.length = n ∧ ∀ H', Gr Ps G H G H' → Tabs Ps H' → Q (.bl (ok ns)) H'
theorem c_room (T : RawP K mg base ad) (hP : ad.tNum ∈ Ps) : C8.Cal P w K mg base 2 "_room_can_be" (spRow K Ps 4 roomOk) [] := by
  refine T.rc.cal sc_room_can_be (fun vs H Q E h => ?_) (fun f cdv A outer s H vs Q E hr h => ?_)
  · obtain ⟨G, t, ns, rfl, _⟩ := h
    rfl
  · obtain ⟨G, v, ns, rfl, wd, tbs, ⟨t, rfl, ht⟩, hl, q⟩ := h
    obtain ⟨a, m, l, p, rfl⟩ := len4 hl
    have k__numbers_can_be : C8.Cal P w K mg base 1 "_numbers_can_be" (spNum K Ps) [] := c_num T hP
    refine ⟨_, (pss_cons (ps_asg (pv 0) (pg_tup rfl (pgs_cons (pg_name (i := 1) sc_room_can_be.nd rfl (Or.inl rfl)) (pgs_cons (pg_name (i := 2) sc_room_can_be.nd rfl (Or.inl rfl)) (pgs_cons (pg_name (i := 3) sc_room_can_be.nd rfl (Or.inl rfl)) (pgs_cons (pg_name (i := 3) sc_room_can_be.nd rfl (Or.inl rfl)) pgs_nil))))))
      (pss_one (ps_ret (pe_and (C8.pe_c k__numbers_can_be hr (by decide) rfl (pa_cons (pv 0) pa_nil)) (pe_one (pe_cmpR op_le (pv 1) (pv 2) (nomark _))))))), ?_⟩
    refine ⟨_, rfl, t, _, rfl, Same.tup wd.same ht, rfl, _, _, rfl, _, _, rfl, _, _, rfl, _, _, rfl, rfl, ?_⟩
    refine ⟨_, rfl, G, t, _, rfl, wd, tbs, ht, fun H' g tb' => ⟨_, rfl, ?_⟩⟩
    have z := q H' g tb'
    refine ite2 (fun hc => ?_) (fun hc => ?_)
    · refine ⟨_, rfl, _, rfl, _, _, rfl, rfl, ?_⟩
      have e : roomOk [a, m, l, p] = decide (a ≤ m) := by
        show (([a, m, l, p] : List Int).all numOk && decide (a ≤ m)) = _
        rw [hc, Bool.true_and]
      rw [e] at z
      exact z
    · have e : roomOk [a, m, l, p] = false := by
        show (([a, m, l, p] : List Int).all numOk && decide (a ≤ m)) = _
        rw [Bool.eq_false_iff.mpr hc, Bool.false_and]
      rw [e] at z
      exact z
theorem max_if (a b : Int) : (if b > a then b else a) = max a b := by
  by_cases h : b > a
  · rw [if_pos h]; omega
  · rw [if_neg h]; omega
def spDoor (K : PySem.W.Frag) (Ps : List Addr) : Sp := fun vs H Q _ => ∃ (G : Hp) (v : V) (ra : Addr) (ns : List Int) (rs : List (List Int)), vs = [v, .ref ra] ∧ Wd Ps G H ∧ Tabs Ps H ∧ RowT K G v ns ∧ ns.length = 3 ∧ Rows K G ra rs ∧ ∀ H', Gr Ps G H G H' → Tabs Ps H' → Q (.bl (doorOk rs.length ns)) H'
theorem c_door (T : RawP K mg base ad) (hP : ad.tNum ∈ Ps) : C8.Cal P w K mg base 2 "_door_can_be" (spDoor K Ps) [] := by
  refine T.dc.cal sc_door_can_be (fun vs H Q E h => ?_) (fun f cdv A outer s H vs Q E hr h => ?_)
  · obtain ⟨G, v, ra, ns, rs, rfl, _⟩ := h
    rfl
  · obtain ⟨G, v, ra, ns, rs, rfl, wd, tbs, ⟨t, rfl, ht⟩, hl, hR, q⟩ := h
    obtain ⟨o, d, l, rfl⟩ := len3 hl
    have b_max := T.b_max
    have b_len := T.b_len
    have k__numbers_can_be : C8.Cal P w K mg base 1 "_numbers_can_be" (spNum K Ps) [] := c_num T hP
    refine ⟨_, (pss_cons (ps_asg (pv 0) (pg_tup rfl (pgs_cons (pg_name (i := 2) sc_door_can_be.nd rfl (Or.inl rfl)) (pgs_cons (pg_name (i := 3) sc_door_can_be.nd rfl (Or.inl rfl)) (pgs_cons (pg_name (i := 4) sc_door_can_be.nd rfl (Or.inl rfl)) pgs_nil)))))
      (pss_one (ps_ret (pe_and (C8.pe_c k__numbers_can_be hr (by decide) rfl (pa_cons (pv 0) pa_nil)) (pe_and (pe_cmpR op_ne (pv 2) (pv 3) (nomark _)) (pe_one (pe_cmpR op_lt (pe_callB (call_max2 rfl) (by rfl) b_max (by decide +kernel) (pa_cons (pv 2) (pa_cons (pv 3) pa_nil))) (pe_callB call_len_seq (by rfl) b_len (by decide +kernel) (pa_cons (pv 1) pa_nil)) (nomark _)))))))), ?_⟩
    refine ⟨_, rfl, t, _, rfl, Same.tup wd.same ht, rfl, _, _, rfl, _, _, rfl, _, _, rfl, rfl, ?_⟩
    refine ⟨_, rfl, G, t, _, rfl, wd, tbs, ht, fun H' g tb' => ⟨_, rfl, ?_⟩⟩
    have z := q H' g tb'
    have e : doorOk rs.length [o, d, l] = (([o, d, l] : List Int).all numOk && (!decide (o = d) && decide (max o d < (rs.length : Int)))) := rfl
    rw [e] at z
    refine ite2 (fun hc => ?_) (fun hc => ?_)
    · rw [hc, Bool.true_and] at z
      obtain ⟨xs, hq, hr2⟩ := hR
      have hlen : xs.length = rs.length := Paired.length hr2
      refine ⟨_, rfl, _, rfl, rfl, _, rfl, ?_⟩
      have e2 : decide (V.int o = V.int d) = decide (o = d) := by simp
      rw [e2]
      refine ite2 (fun hd => ?_) (fun hd => ?_)
      · rw [hd, Bool.true_and] at z
        refine ⟨_, rfl, _, rfl, _, _, rfl, _, rfl, ra, xs, rfl, .inl (g.wd.same.seq hq), _, _, rfl, rfl, ?_⟩
        rw [max_if, hlen]
        exact z
      · rw [Bool.eq_false_iff.mpr hd, Bool.false_and] at z
        exact z
    · rw [Bool.eq_false_iff.mpr hc, Bool.false_and] at z
      exact z
def spStay (K : PySem.W.Frag) (Ps : List Addr) : Sp := fun vs H Q _ => ∃ (G : Hp) (v : V) (h : Int) (ra : Addr) (ns : List Int) (rs : List (List Int)), vs = [v, .int h, .ref ra] ∧ Wd Ps G H ∧ Tabs Ps H ∧ RowT K G v ns ∧ ns.length = 5 ∧ Rows K G ra rs ∧ Wide 4 rs ∧
  ∀ H', Gr Ps G H G H' → Tabs Ps H' → Q (.bl (stayOk h rs ns)) H'
theorem num_all5 {r b e u n : Int} (h : ([r, b, e, u, n] : List Int).all numOk = true) : 0 ≤ r := by
  have := List.all_eq_true.mp h r (by simp)
  unfold numOk at this
  simp at this
  exact this.1
theorem c_stay (T : RawP K mg base ad) (hP : ad.tNum ∈ Ps) : C8.Cal P w K mg base 2 "_stay_can_be" (spStay K Ps) [] := by
  refine T.sc.cal sc_stay_can_be (fun vs H Q E h => ?_) (fun f cdv A outer s H vs Q E hr h => ?_)
  · obtain ⟨G, v, h, ra, ns, rs, rfl, _⟩ := h
    rfl
  · obtain ⟨G, v, h, ra, ns, rs, rfl, wd, tbs, ⟨t, rfl, ht⟩, hl, hR, hW, q⟩ := h
    obtain ⟨r, b, e, u, n, rfl⟩ := len5 hl
    have b_len := T.b_len
    have k__numbers_can_be : C8.Cal P w K mg base 1 "_numbers_can_be" (spNum K Ps) [] := c_num T hP
    refine ⟨_, (pss_cons (ps_asg (pv 0) (pg_tup rfl (pgs_cons (pg_name (i := 3) sc_stay_can_be.nd rfl (Or.inl rfl)) (pgs_cons (pg_name (i := 4) sc_stay_can_be.nd rfl (Or.inl rfl)) (pgs_cons (pg_name (i := 5) sc_stay_can_be.nd rfl (Or.inl rfl)) (pgs_cons (pg_name (i := 6) sc_stay_can_be.nd rfl (Or.inl rfl)) (pgs_cons (pg_name (i := 7) sc_stay_can_be.nd rfl (Or.inl rfl)) pgs_nil)))))))
      (pss_cons (ps_if (PW.pt (pw_or (pt_not (pt_val (C8.pe_c k__numbers_can_be hr (by decide) rfl (pa_cons (pv 0) pa_nil)))) (pw_or1 (pt_cmpR op_ge (pv 3) (pe_callB call_len_seq (by rfl) b_len (by decide +kernel) (pa_cons (pv 2) pa_nil)) (nomark _)))))
        (pss_one (ps_ret pe_bl))
        pss_nil)
      (pss_cons (ps_asg (pe_ix ix_seq (pv 2) (pv 3) (fun _ _ => rfl)) (pg_tup rfl (pgs_cons (pg_name (i := 6) sc_stay_can_be.nd rfl (Or.inl rfl)) (pgs_cons (pg_name (i := 8) sc_stay_can_be.nd rfl (Or.inl rfl)) (pgs_cons (pg_name (i := 6) sc_stay_can_be.nd rfl (Or.inl rfl)) (pgs_cons (pg_name (i := 6) sc_stay_can_be.nd rfl (Or.inl rfl)) pgs_nil))))))
      (pss_one (ps_ret (pe_and (pe_chain op_lt op_le (pv 4) (pv 5) (pv 1)) (pe_one (pe_cmpR op_le (pv 7) (pv 8) (nomark _))))))))), ?_⟩
    refine ⟨_, rfl, t, _, rfl, Same.tup wd.same ht, rfl, _, _, rfl, _, _, rfl, _, _, rfl, _, _, rfl, _, _, rfl, rfl, ?_⟩
    refine ⟨_, rfl, G, t, _, rfl, wd, tbs, ht, fun H' g tb' => ⟨_, rfl, ?_⟩⟩
    have z := q H' g tb'
    have ez : stayOk h rs [r, b, e, u, n] = (([r, b, e, u, n] : List Int).all numOk && (decide (r < (rs.length : Int)) && (decide (b < e) && decide (e ≤ h) && decide (n ≤ mostOf rs r)))) := rfl
    rw [ez] at z
    obtain ⟨xs, hq, hr2⟩ := hR
    have hlen : xs.length = rs.length := Paired.length hr2
    have hq' := g.wd.same.seq hq
    cases hc : ([r, b, e, u, n] : List Int).all numOk with
    | false =>
      rw [hc, Bool.false_and] at z
      refine iteT ?_
      refine iteT ?_
      exact z
    | true =>
      rw [hc, Bool.true_and] at z
      have hr0 := num_all5 hc
      refine iteF ?_
      refine ⟨_, rfl, _, rfl, ra, xs, rfl, .inl hq', _, _, rfl, rfl, _, rfl, ?_⟩
      rw [hlen]
      cases hd : decide ((rs.length : Int) ≤ r) with
      | true =>
        have hd' := of_decide_eq_true hd
        rw [decide_eq_false (show ¬ r < (rs.length : Int) by omega), Bool.false_and] at z
        refine iteT ?_
        exact z
      | false =>
        have hd' := of_decide_eq_false hd
        rw [decide_eq_true (show r < (rs.length : Int) by omega), Bool.true_and] at z
        refine iteF ?_
        have hi : r.toNat < rs.length := by omega
        have hg : rs[r.toNat]? = some rs[r.toNat] := List.getElem?_eq_getElem hi
        obtain ⟨y, hy, ty, rfl, hty⟩ := paired_get' hr2 hg
        have hw4 := hW _ (List.getElem_mem hi)
        obtain ⟨ra', m, rl, rp, em⟩ := len4 hw4
        have hr' : r = ((r.toNat : Nat) : Int) := by omega
        refine ⟨_, rfl, _, rfl, .inl ⟨ra, xs, r, .ref ty, rfl, rfl, hq', ?_, ty, _, rfl, Same.tup g.wd.same hty, ?_, ?_⟩⟩
        · rw [hr']
          exact atI_nat hy
        · rw [em]
          rfl
        · rw [em]
          have hm : mostOf rs r = m := by
            have e1 : rs.getD r.toNat [] = [ra', m, rl, rp] := by rw [List.getD_eq_getElem?_getD, hg, Option.getD_some, em]
            unfold mostOf
            rw [e1]
            rfl
          rw [hm] at z
          refine ⟨_, _, rfl, _, _, rfl, _, _, rfl, _, _, rfl, rfl, ?_⟩
          refine ⟨_, rfl, _, rfl, _, _, rfl, rfl, _, rfl, ?_⟩
          refine ite2 (fun h1 => ?_) (fun h1 => ?_)
          · refine ⟨_, rfl, _, _, rfl, rfl, _, rfl, ?_⟩
            have h1' : decide (b < e) = true := h1
            rw [h1', Bool.true_and] at z
            refine ite2 (fun h2 => ?_) (fun h2 => ?_)
            · rw [h2, Bool.true_and] at z
              exact ⟨_, rfl, _, rfl, _, _, rfl, rfl, z⟩
            · rw [Bool.eq_false_iff.mpr h2, Bool.false_and] at z
              exact z
          · have h1' : decide (b < e) = false := Bool.eq_false_iff.mpr h1
            rw [h1', Bool.false_and, Bool.false_and] at z
            exact ⟨_, rfl, iteF z⟩
end
end Cr
set_option Elab.async false
set_option linter.all false
set_option maxRecDepth 100000
set_option maxHeartbeats 4000000

namespace Cr
open PySem PySem.Spec PyProof.Rows L2
theorem for_enum {K : PySem.W.Frag} {a : Addr} {xs : List V} {g : TG} {tb : TS} {D : Ends} {σ : L2.St} {H : Hp} (Pv : Nat → L2.St → Hp → Prop) (h0 : Pv 0 σ H) (hl : ∀ i σ H, i ≤ xs.length → Pv i σ H → SqL K H a xs)
    (hs : ∀ i x σ H T, xs[i]? = some x → Pv i σ H → H T = none → g (.ref T) σ (upd H T (.tup [.int (i : Nat), x])) fun σ2 H2 => tb { D with nx := Pv (i + 1), ct := Pv (i + 1), bk := D.nx } σ2 H2) (hd : ∀ σ H, Pv xs.length σ H → D.nx σ H) :
    ∃ W : Nat → Nat → L2.St → Hp → Prop, (∃ m, W 0 m σ H) ∧ ∀ i m σ H, W i m σ H →
      ((Ite K a).stop i H ∧ D.nx σ H) ∨ ((Ite K a).go i H ∧ ∃ N : L2.St → Hp → Prop, (∀ σ' H', N σ' H' → ∃ m', m' < m ∧ W (i + 1) m' σ' H') ∧ ∀ x H', (Ite K a).yld i H x H' → g x σ H' fun σ2 H2 => tb { D with nx := N, ct := N, bk := D.nx } σ2 H2) := by
  refine ⟨fun i m σ H => i + m = xs.length ∧ Pv i σ H, ⟨xs.length, Nat.zero_add _, h0⟩, fun i m σ H ⟨left, p⟩ => ?_⟩
  have q := hl i σ H (by omega) p
  cases m with
  | zero =>
    cases left
    exact .inl ⟨⟨xs, q, Nat.le_refl _⟩, hd σ H p⟩
  | succ m =>
    refine .inr ⟨⟨xs, xs[i]'(by omega), q, List.getElem?_eq_getElem _⟩, Pv (i + 1), fun _ _ p' => ⟨m, Nat.lt_succ_self m, by omega, p'⟩, ?_⟩
    rintro _ _ ⟨T, z, rfl, hT, rfl, hz⟩
    exact hs i z σ H T (hz xs q) p hT
theorem firstNot_none {ok : List Int → Bool} {rs : List (List Int)} (h : ∀ (j : Nat) r, j < rs.length → rs[j]? = some r → ok r = true) : firstNot ok rs = none := by
  unfold firstNot
  rw [List.findIdx?_eq_none_iff]
  intro x hx
  obtain ⟨j, hj, e⟩ := List.getElem_of_mem hx
  rw [h j x hj (by rw [List.getElem?_eq_getElem hj, e])]
  rfl
theorem firstNot_some {ok : List Int → Bool} {rs : List (List Int)} {i : Nat} {r : List Int} (e : rs[i]? = some r) (hn : ok r = false) (h : ∀ (j : Nat) r, j < i → rs[j]? = some r → ok r = true) : firstNot ok rs = some i := by
  obtain ⟨hi, e1⟩ := List.getElem?_eq_some_iff.mp e
  unfold firstNot
  rw [List.findIdx?_eq_some_iff_getElem]
  refine ⟨hi, by rw [e1, hn]; rfl, fun j hj => ?_⟩
  have hj2 : j < rs.length := Nat.lt_trans hj hi
  rw [h j _ hj (List.getElem?_eq_getElem hj2)]
  simp
section
variable {P : Program} {w : World} {K : PySem.W.Frag} {mg : Str → Option Value} {base : Heap} {ad : Ad} {Ps : List Addr} {H : Hp}
/-- a BadHouse with this word and number -/
def Raised (ad : Ad) (z : Str × Int) (cls : Value) (d : Option Addr) (H : Hp) : Prop := cls = .ref ad.cBH ∧ ∃ dd, d = some dd ∧ H dd = some (.xd [("number", .int z.2), ("word", .str z.1)])
theorem raise_heap {a dx : Addr} {o1 o2 o3 o4 o5 : HO} (ha : H a = none) (hne : dx ≠ a) : upd (del (upd (upd (upd (upd H a o1) dx o2) a o3) dx o4) a) dx o5 = upd H dx o5 := by
  funext b
  by_cases h1 : b = dx
  · rw [h1, upd_same, upd_same]
  · rw [upd_ne h1, upd_ne h1]
    by_cases h2 : b = a
    · rw [h2, del_same, ha]
    · rw [del_ne h2, upd_ne h1, upd_ne h2, upd_ne h1, upd_ne h2]
theorem raise_bh {wd : Str} {k : Nat} {W : XK} (hw : wd.length ≤ 10) (hk : k < 32) (q : ∀ dx, H dx = none → W (.ref ad.cBH) (some dx) (upd H dx (.xd [("number", .int (k : Int)), ("word", .str wd)]))) :
    [V.str wd, V.int (k : Int)].length ≤ 1000 ∧ ∀ a, H a = none → spBHi ad (.ref a :: ([V.str wd, V.int (k : Int)] ++ [])) (upd H a (exo a ad.cBH none))
      (fun v H2 => v = .non ∧ ∃ (d : Addr) (fs : List (Str × V)), H2 a = some (exo a ad.cBH (some d)) ∧ H2 d = some (exd d fs) ∧ H d = none ∧ W (.ref ad.cBH) (some d) (upd (del H2 a) d (.xd fs))) (fun _ _ _ => False) := by
  refine ⟨by show 2 ≤ 1000; decide, fun a ha => ⟨a, wd, k, rfl, hw, hk, upd_same, fun dx hdx hne => ⟨rfl, dx, _, ?_, upd_same, ?_, ?_⟩⟩⟩
  · rw [upd_ne (Ne.symm hne), upd_same]
  · rw [upd_ne hne] at hdx
    exact hdx
  · rw [raise_heap ha hne]
    rw [upd_ne hne] at hdx
    exact q dx hdx
/-- a def that looks at the parts of a house: nothing, or a BadHouse -/
def spChk (ad : Ad) (K : PySem.W.Frag) (Ps : List Addr) (C : Int → List (List Int) → List (List Int) → List (List Int) → Prop) (bad : Int → List (List Int) → List (List Int) → List (List Int) → Option (Str × Int)) : Sp := fun vs H Q E =>
  ∃ (G : Hp) (h : Int) (ra da sa : Addr) (rs ds ss : List (List Int)), vs = [.int h, .ref ra, .ref da, .ref sa] ∧ Wd Ps G H ∧ Tabs Ps H ∧ Rows K G ra rs ∧ Rows K G da ds ∧ Rows K G sa ss ∧ C h rs ds ss ∧
    (bad h rs ds ss = none → ∀ H', Gr Ps G H G H' → Tabs Ps H' → Q .non H') ∧
    (∀ z, bad h rs ds ss = some z → ∀ cls d H', Raised ad z cls d H' → Gr Ps G H G H' → Tabs Ps H' → E cls d H')
theorem c_counts (T : RawP K mg base ad) : CalX P w K mg base 3 "_check_counts" (spChk ad K Ps (fun _ _ _ _ => True) countBad) := by
  refine T.cc.calX sc_check_counts (fun vs H Q E h => ?_) (fun f cdv A outer s H vs Q E hr h => ?_)
  · obtain ⟨G, h, ra, da, sa, rs, ds, ss, rfl, _⟩ := h
    rfl
  · obtain ⟨G, h, ra, da, sa, rs, ds, ss, rfl, wd, tbs, ⟨xr, qr, rr⟩, ⟨xd, qd, rd⟩, ⟨xs, qs, rS⟩, _, q0, qx⟩ := h
    have b_len := T.b_len
    obtain ⟨_, g_MOST_HOURS⟩ := T.gH
    obtain ⟨_, g_MOST_ROOMS⟩ := T.gR
    obtain ⟨_, g_MOST_DOORS⟩ := T.gD
    obtain ⟨_, g_MOST_STAYS⟩ := T.gS
    have k_BadHouse : MakE P w K mg base 1 "BadHouse" ad.cBH (spBHi ad) := mk_bh T
    have lr : xr.length = rs.length := Paired.length rr
    have ld : xd.length = ds.length := Paired.length rd
    have ls : xs.length = ss.length := Paired.length rS
    have out : ∀ (wd' : Str), wd'.length ≤ 10 → countBad h rs ds ss = some (wd', 0) → ∀ dx, H dx = none → E (.ref ad.cBH) (some dx) (upd H dx (.xd [("number", .int ((0 : Nat) : Int)), ("word", .str wd')])) := fun wd' _ e dx hdx =>
      qx _ e _ _ _ ⟨rfl, dx, rfl, upd_same⟩ (Gr.new wd hdx) (tbs.same (same_new hdx))
    refine ⟨_, (pss_cons (ps_if (pt_not (pt_chain op_le op_le pe_int (pv 0) (pe_glob (v := .int _) rfl g_MOST_HOURS ⟨_, rfl⟩)))
        (pss_one (ps_raise rfl (takes_of rfl rfl rfl rfl) (pmk_c k_BadHouse hr (by decide) rfl (pa_cons pe_str (pa_cons pe_int pa_nil)))))
        pss_nil)
      (pss_cons (ps_if (pt_not (pt_chain op_le op_le pe_int (pe_callB call_len_seq (by rfl) b_len (by decide +kernel) (pa_cons (pv 1) pa_nil)) (pe_glob (v := .int _) rfl g_MOST_ROOMS ⟨_, rfl⟩)))
        (pss_one (ps_raise rfl (takes_of rfl rfl rfl rfl) (pmk_c k_BadHouse hr (by decide) rfl (pa_cons pe_str (pa_cons pe_int pa_nil)))))
        pss_nil)
      (pss_cons (ps_if (pt_cmpR op_gt (pe_callB call_len_seq (by rfl) b_len (by decide +kernel) (pa_cons (pv 2) pa_nil)) (pe_glob (v := .int _) rfl g_MOST_DOORS ⟨_, rfl⟩) (nomark _))
        (pss_one (ps_raise rfl (takes_of rfl rfl rfl rfl) (pmk_c k_BadHouse hr (by decide) rfl (pa_cons pe_str (pa_cons pe_int pa_nil)))))
        pss_nil)
      (pss_one (ps_if (pt_cmpR op_gt (pe_callB call_len_seq (by rfl) b_len (by decide +kernel) (pa_cons (pv 3) pa_nil)) (pe_glob (v := .int _) rfl g_MOST_STAYS ⟨_, rfl⟩) (nomark _))
        (pss_one (ps_raise rfl (takes_of rfl rfl rfl rfl) (pmk_c k_BadHouse hr (by decide) rfl (pa_cons pe_str (pa_cons pe_int pa_nil)))))
        pss_nil))))), ?_⟩
    refine ⟨_, rfl, _, _, rfl, rfl, _, rfl, ?_⟩
    unfold countBad at q0 out
    by_cases h1 : ¬ (1 ≤ h ∧ h ≤ 12)
    · rw [if_pos h1] at out
      by_cases h2 : 1 ≤ h
      · rw [decide_eq_true h2]
        refine iteT ⟨_, _, rfl, rfl, _, rfl, ?_⟩
        rw [decide_eq_false (show ¬ h ≤ 12 from fun z => h1 ⟨h2, z⟩)]
        exact iteT (raise_bh (by decide +kernel) (by decide) (out _ (by decide +kernel) rfl))
      · rw [decide_eq_false h2]
        refine iteF ⟨_, rfl, ?_⟩
        exact iteT (raise_bh (by decide +kernel) (by decide) (out _ (by decide +kernel) rfl))
    rw [if_neg h1] at out q0
    replace h1 := Decidable.not_not.mp h1
    rw [decide_eq_true h1.1]
    refine iteT ⟨_, _, rfl, rfl, _, rfl, ?_⟩
    rw [decide_eq_true h1.2]
    refine iteF ?_
    refine ⟨_, rfl, ra, xr, rfl, .inl (wd.same.seq qr), _, _, rfl, rfl, _, rfl, ?_⟩
    rw [lr]
    by_cases h2 : ¬ (1 ≤ rs.length ∧ rs.length ≤ 6)
    · rw [if_pos h2] at out
      by_cases h3 : (1 : Int) ≤ (rs.length : Int)
      · rw [decide_eq_true h3]
        refine iteT ⟨_, _, rfl, rfl, _, rfl, ?_⟩
        rw [decide_eq_false (show ¬ ((rs.length : Int) ≤ 6) by omega)]
        exact iteT (raise_bh (by decide +kernel) (by decide) (out _ (by decide +kernel) rfl))
      · rw [decide_eq_false h3]
        refine iteF ⟨_, rfl, ?_⟩
        exact iteT (raise_bh (by decide +kernel) (by decide) (out _ (by decide +kernel) rfl))
    rw [if_neg h2] at out q0
    replace h2 := Decidable.not_not.mp h2
    rw [decide_eq_true (show (1 : Int) ≤ (rs.length : Int) by omega)]
    refine iteT ⟨_, _, rfl, rfl, _, rfl, ?_⟩
    rw [decide_eq_true (show (rs.length : Int) ≤ 6 by omega)]
    refine iteF ?_
    refine ⟨_, rfl, da, xd, rfl, .inl (wd.same.seq qd), _, _, rfl, rfl, _, rfl, ?_⟩
    rw [ld]
    by_cases h3 : ds.length > 8
    · rw [if_pos h3] at out
      rw [decide_eq_true (show (8 : Int) < (ds.length : Int) by omega)]
      exact iteT (raise_bh (by decide +kernel) (by decide) (out _ (by decide +kernel) rfl))
    rw [if_neg h3] at out q0
    rw [decide_eq_false (show ¬ ((8 : Int) < (ds.length : Int)) by omega)]
    refine iteF ?_
    refine ⟨_, rfl, sa, xs, rfl, .inl (wd.same.seq qs), _, _, rfl, rfl, _, rfl, ?_⟩
    rw [ls]
    by_cases h4 : ss.length > 20
    · rw [if_pos h4] at out
      rw [decide_eq_true (show (20 : Int) < (ss.length : Int) by omega)]
      exact iteT (raise_bh (by decide +kernel) (by decide) (out _ (by decide +kernel) rfl))
    rw [if_neg h4] at out q0
    rw [decide_eq_false (show ¬ ((20 : Int) < (ss.length : Int)) by omega)]
    exact iteF (q0 rfl H (Gr.refl wd) tbs)
end
end Cr
set_option Elab.async false
set_option linter.all false
set_option maxRecDepth 100000
set_option maxHeartbeats 4000000

namespace Cr
open PySem PySem.Spec PyProof.Rows L2
section
variable {P : Program} {w : World} {K : PySem.W.Frag} {mg : Str → Option Value} {base : Heap} {ad : Ad} {Ps : List Addr} {H : Hp}
/-- what is asked of the rows' widths and counts ahead -/
def WideH (h : Int) (rs ds ss : List (List Int)) : Prop := Wide 4 rs ∧ Wide 3 ds ∧ Wide 5 ss ∧ rs.length < 32 ∧ ds.length < 32 ∧ ss.length < 32
theorem c_parts (T : RawP K mg base ad) (hP : ad.tNum ∈ Ps) : CalX P w K mg base 3 "_check_parts" (spChk ad K Ps WideH partBad) := by
  refine T.cp.calX sc_check_parts (fun vs H Q E h => ?_) (fun f cdv A outer s H vs Q E hr h => ?_)
  · obtain ⟨G, h, ra, da, sa, rs, ds, ss, rfl, _⟩ := h
    rfl
  · obtain ⟨G, h, ra, da, sa, rs, ds, ss, rfl, wd, tbs, hR, hD, hS, ⟨w4, w3, w5, lr, ld, ls⟩, q0, qx⟩ := h
    obtain ⟨xr, qr, rr⟩ := id hR
    obtain ⟨xd, qd, rd⟩ := id hD
    obtain ⟨xs, qs, rS⟩ := id hS
    have b_enumerate := T.b_enumerate
    have k_BadHouse : MakE P w K mg base 1 "BadHouse" ad.cBH (spBHi ad) := mk_bh T
    have k__room_can_be : C8.Cal P w K mg base 2 "_room_can_be" (spRow K Ps 4 roomOk) [] := c_room T hP
    have k__door_can_be : C8.Cal P w K mg base 2 "_door_can_be" (spDoor K Ps) [] := c_door T hP
    have k__stay_can_be : C8.Cal P w K mg base 2 "_stay_can_be" (spStay K Ps) [] := c_stay T hP
    have out : ∀ (wd' : Str) (i : Nat) H', partBad h rs ds ss = some (wd', (i : Int)) → Gr Ps G H G H' → Tabs Ps H' → ∀ dx, H' dx = none → E (.ref ad.cBH) (some dx) (upd H' dx (.xd [("number", .int (i : Int)), ("word", .str wd')])) := fun wd' i H' e g t dx hdx =>
      qx _ e _ _ _ ⟨rfl, dx, rfl, upd_same⟩ (g.trans (Gr.new g.wd hdx)) (t.same (same_new hdx))
    refine ⟨_, (pss_cons (ps_for (passes_of rfl) rfl (pi_enum (by rfl) b_enumerate (pa_cons (pv 1) pa_nil)) (pg_tup rfl (pgs_cons (pg_name (i := 4) sc_check_parts.nd rfl (Or.inl rfl)) (pgs_cons (pg_name (i := 5) sc_check_parts.nd rfl (Or.inl rfl)) pgs_nil)))
        (pss_one (ps_if (pt_not (pt_val (C8.pe_c k__room_can_be hr (by decide) rfl (pa_cons (pv 5) pa_nil))))
        (pss_one (ps_raise rfl (takes_of rfl rfl rfl rfl) (pmk_c k_BadHouse hr (by decide) rfl (pa_cons pe_str (pa_cons (pv 4) pa_nil)))))
        pss_nil)))
      (pss_cons (ps_for (passes_of rfl) rfl (pi_enum (by rfl) b_enumerate (pa_cons (pv 2) pa_nil)) (pg_tup rfl (pgs_cons (pg_name (i := 4) sc_check_parts.nd rfl (Or.inl rfl)) (pgs_cons (pg_name (i := 6) sc_check_parts.nd rfl (Or.inl rfl)) pgs_nil)))
        (pss_one (ps_if (pt_not (pt_val (C8.pe_c k__door_can_be hr (by decide) rfl (pa_cons (pv 6) (pa_cons (pv 1) pa_nil)))))
        (pss_one (ps_raise rfl (takes_of rfl rfl rfl rfl) (pmk_c k_BadHouse hr (by decide) rfl (pa_cons pe_str (pa_cons (pv 4) pa_nil)))))
        pss_nil)))
      (pss_one (ps_for (passes_of rfl) rfl (pi_enum (by rfl) b_enumerate (pa_cons (pv 3) pa_nil)) (pg_tup rfl (pgs_cons (pg_name (i := 4) sc_check_parts.nd rfl (Or.inl rfl)) (pgs_cons (pg_name (i := 7) sc_check_parts.nd rfl (Or.inl rfl)) pgs_nil)))
        (pss_one (ps_if (pt_not (pt_val (C8.pe_c k__stay_can_be hr (by decide) rfl (pa_cons (pv 7) (pa_cons (pv 0) (pa_cons (pv 1) pa_nil))))))
        (pss_one (ps_raise rfl (takes_of rfl rfl rfl rfl) (pmk_c k_BadHouse hr (by decide) rfl (pa_cons pe_str (pa_cons (pv 4) pa_nil)))))
        pss_nil)))))), ?_⟩
    refine ⟨_, rfl, ra, xr, rfl, wd.same.seq qr, for_enum (K := K) (a := ra) (xs := xr) (fun i σ H' => ∃ v4 v5, σ = [some (.int h), some (.ref ra), some (.ref da), some (.ref sa), v4, v5, none, none] ∧ Gr Ps G H G H' ∧ Tabs Ps H' ∧ ∀ (j : Nat) r, j < i → rs[j]? = some r → roomOk r = true)
      ⟨none, none, rfl, Gr.refl wd, tbs, fun j r hj => absurd hj (Nat.not_lt_zero _)⟩ (fun i σ H' _ ⟨_, _, _, g, _⟩ => g.wd.same.seq qr) ?_ ?_⟩
    · rintro i x σ H' U hx ⟨v4, v5, rfl, g, tb', hj⟩ hU
      obtain ⟨r, er, hrow⟩ := paired_get rr hx
      have hi : i < rs.length := (List.getElem?_eq_some_iff.mp er).1
      have g2 := g.trans (Gr.new (o := .tup [.int (i : Nat), x]) g.wd hU)
      refine ⟨U, _, rfl, SqT.of upd_same, rfl, _, _, rfl, _, _, rfl, rfl, ?_⟩
      refine ⟨_, rfl, G, x, r, rfl, g2.wd, tb'.same (same_new hU), hrow, w4 r (List.mem_of_getElem? er), fun H3 g3 tb3 => ⟨_, rfl, ?_⟩⟩
      cases hok : roomOk r with
      | false =>
        refine iteT ⟨_, rfl, ?_⟩
        refine raise_bh (by decide +kernel) (by omega) (out _ i H3 ?_ (g2.trans g3) tb3)
        unfold partBad
        rw [firstNot_some er hok hj]
      | true =>
        refine iteF ⟨_, _, rfl, g2.trans g3, tb3, fun j r' h1 h2 => ?_⟩
        by_cases e : j = i
        · subst e
          rw [er] at h2
          cases h2
          exact hok
        · exact hj j r' (by omega) h2
    rintro σ H1 ⟨v4, v5, rfl, g1, tb1, hj1⟩
    have f1 : firstNot roomOk rs = none := firstNot_none fun j r a b => hj1 j r (by rw [Paired.length rr]; exact a) b
    refine ⟨_, rfl, da, xd, rfl, g1.wd.same.seq qd, for_enum (K := K) (a := da) (xs := xd) (fun i σ H' => ∃ v4 v6, σ = [some (.int h), some (.ref ra), some (.ref da), some (.ref sa), v4, v5, v6, none] ∧ Gr Ps G H G H' ∧ Tabs Ps H' ∧ ∀ (j : Nat) r, j < i → ds[j]? = some r → doorOk rs.length r = true)
      ⟨_, none, rfl, g1, tb1, fun j r hj => absurd hj (Nat.not_lt_zero _)⟩ (fun i σ H' _ ⟨_, _, _, g, _⟩ => g.wd.same.seq qd) ?_ ?_⟩
    · rintro i x σ H' U hx ⟨v4, v6, rfl, g, tb', hj⟩ hU
      obtain ⟨r, er, hrow⟩ := paired_get rd hx
      have hi : i < ds.length := (List.getElem?_eq_some_iff.mp er).1
      have g2 := g.trans (Gr.new (o := .tup [.int (i : Nat), x]) g.wd hU)
      refine ⟨U, _, rfl, SqT.of upd_same, rfl, _, _, rfl, _, _, rfl, rfl, ?_⟩
      refine ⟨_, rfl, _, rfl, G, x, ra, r, rs, rfl, g2.wd, tb'.same (same_new hU), hrow, w3 r (List.mem_of_getElem? er), hR, fun H3 g3 tb3 => ⟨_, rfl, ?_⟩⟩
      cases hok : doorOk rs.length r with
      | false =>
        refine iteT ⟨_, rfl, ?_⟩
        refine raise_bh (by decide +kernel) (by omega) (out _ i H3 ?_ (g2.trans g3) tb3)
        unfold partBad
        rw [f1]
        show (match firstNot (doorOk rs.length) ds with | some i => some (("door" : Str), (i : Int)) | none => _) = _
        rw [firstNot_some er hok hj]
      | true =>
        refine iteF ⟨_, _, rfl, g2.trans g3, tb3, fun j r' h1 h2 => ?_⟩
        by_cases e : j = i
        · subst e
          rw [er] at h2
          cases h2
          exact hok
        · exact hj j r' (by omega) h2
    rintro σ H2 ⟨v4', v6, rfl, g2, tb2, hj2⟩
    have f2 : firstNot (doorOk rs.length) ds = none := firstNot_none fun j r a b => hj2 j r (by rw [Paired.length rd]; exact a) b
    refine ⟨_, rfl, sa, xs, rfl, g2.wd.same.seq qs, for_enum (K := K) (a := sa) (xs := xs) (fun i σ H' => ∃ v4 v7, σ = [some (.int h), some (.ref ra), some (.ref da), some (.ref sa), v4, v5, v6, v7] ∧ Gr Ps G H G H' ∧ Tabs Ps H' ∧ ∀ (j : Nat) r, j < i → ss[j]? = some r → stayOk h rs r = true)
      ⟨_, none, rfl, g2, tb2, fun j r hj => absurd hj (Nat.not_lt_zero _)⟩ (fun i σ H' _ ⟨_, _, _, g, _⟩ => g.wd.same.seq qs) ?_ ?_⟩
    · rintro i x σ H' U hx ⟨v4, v7, rfl, g, tb', hj⟩ hU
      obtain ⟨r, er, hrow⟩ := paired_get rS hx
      have hi : i < ss.length := (List.getElem?_eq_some_iff.mp er).1
      have g2 := g.trans (Gr.new (o := .tup [.int (i : Nat), x]) g.wd hU)
      refine ⟨U, _, rfl, SqT.of upd_same, rfl, _, _, rfl, _, _, rfl, rfl, ?_⟩
      refine ⟨_, rfl, _, rfl, _, rfl, G, x, h, ra, r, rs, rfl, g2.wd, tb'.same (same_new hU), hrow, w5 r (List.mem_of_getElem? er), hR, w4, fun H3 g3 tb3 => ⟨_, rfl, ?_⟩⟩
      cases hok : stayOk h rs r with
      | false =>
        refine iteT ⟨_, rfl, ?_⟩
        refine raise_bh (by decide +kernel) (by omega) (out _ i H3 ?_ (g2.trans g3) tb3)
        unfold partBad
        rw [f1]
        show (match firstNot (doorOk rs.length) ds with | some i => some (("door" : Str), (i : Int)) | none => _) = _
        rw [f2]
        show (match firstNot (stayOk h rs) ss with | some i => some (("stay" : Str), (i : Int)) | none => _) = _
        rw [firstNot_some er hok hj]
      | true =>
        refine iteF ⟨_, _, rfl, g2.trans g3, tb3, fun j r' h1 h2 => ?_⟩
        by_cases e : j = i
        · subst e
          rw [er] at h2
          cases h2
          exact hok
        · exact hj j r' (by omega) h2
    rintro σ H3 ⟨_, _, rfl, g3, tb3, hj3⟩
    have f3 : firstNot (stayOk h rs) ss = none := firstNot_none fun j r a b => hj3 j r (by rw [Paired.length rS]; exact a) b
    refine q0 ?_ H3 g3 tb3
    unfold partBad
    rw [f1]
    show (match firstNot (doorOk rs.length) ds with | some i => some (("door" : Str), (i : Int)) | none => _) = _
    rw [f2]
    show (match firstNot (stayOk h rs) ss with | some i => some (("stay" : Str), (i : Int)) | none => _) = _
    rw [f3]
end
end Cr
set_option Elab.async false
set_option linter.all false
set_option maxRecDepth 100000
set_option maxHeartbeats 4000000

namespace Cr
open PySem PySem.Spec PyProof.Rows L2
/-! ### more of the heaps -/
section
variable {Fs Fs' : List Addr} {G H G1 H1 : Hp} {p : Addr} {o : HO}
theorem Gr.pokeF (g : Gr Fs G H G1 H1) (hp : p ∈ Fs) : Gr Fs G H G1 (upd H1 p o) := by
  have ne : ∀ {b u}, G1 b = some u → b ≠ p := fun {b u} e z => by
    rw [z, g.wd.off p hp] at e; cases e
  refine ⟨g.up, ⟨fun b u e => ?_, g.wd.off, fun c hc z => ?_⟩, fun c u n e => ?_, g.fresh⟩
  · rw [upd_ne (ne e)]; exact g.wd.same _ _ e
  · by_cases hcp : c = p
    · rw [hcp, upd_same] at z; cases z
    · rw [upd_ne hcp] at z; exact g.wd.on c hc z
  · rw [upd_ne (fun z => n (by rw [z]; exact hp))]; exact g.keep c u n e
theorem Gr.free' (g : Gr Fs G H G1 H1) (h : H1 p = none) : H p = none := by
  cases q : H p with
  | none => rfl
  | some o => rw [g.keep p o (g.wd.nin h) q] at h; cases h
theorem Tabs.upd {Ps : List Addr} (t : Tabs Ps H) (n : p ∉ Ps) : Tabs Ps (upd H p o) := fun P hP => by
  obtain ⟨ps, q, r⟩ := t P hP
  exact ⟨ps, by rw [upd_ne (fun z => n (by rw [← z]; exact hP))]; exact q, r⟩
theorem Tabs.nin {Ps : List Addr} (t : Tabs Ps H) (h : H p = none) : p ∉ Ps := fun hP => by
  obtain ⟨ps, q, r⟩ := t p hP
  rw [h] at q; cases q
/-- an instance made and filled stands known in the end -/
theorem Gr.made {H2 : Hp} (w : Wd Fs G H) (hx : H p = none) (s : Same H H2) (g : Gr (p :: Fs) G H2 G1 H1) (e : H1 p = some o) : Gr Fs G H (L2.upd G1 p o) H1 := by
  have hn := w.nin hx
  have gp : G1 p = none := g.wd.off p List.mem_cons_self
  refine ⟨fun b u q => ?_, ⟨fun b u q => ?_, fun c hc => ?_, fun c hc => g.wd.on c (List.mem_cons_of_mem _ hc)⟩, fun c u n q => ?_, fun c q n => ?_⟩
  · have q1 := g.up _ _ q
    rw [upd_ne (fun z => by rw [z, gp] at q1; cases q1)]; exact q1
  · by_cases hb : b = p
    · subst hb; rw [upd_same] at q; rw [e]; exact q
    · rw [upd_ne hb] at q; exact g.wd.same _ _ q
  · rw [upd_ne (fun z => hn (by rw [← z]; exact hc))]; exact g.wd.off c (List.mem_cons_of_mem _ hc)
  · have hcp : c ≠ p := fun z => by rw [z, hx] at q; cases q
    exact g.keep c u (fun hc => by
      rcases List.mem_cons.mp hc with z | z
      · exact hcp z
      · exact n z) (s _ _ q)
  · have hcp : c ≠ p := fun z => n (by rw [z]; exact hx)
    rw [upd_ne hcp]
    refine g.fresh c q fun z => n ?_
    cases h : H c with
    | none => rfl
    | some u => rw [s _ _ h] at z; cases z
end
/-! ### a house: what is used, what must be left -/
def inHere (r t : Int) (s : List Int) : Bool := decide (s.getD 0 0 = r) && (decide (s.getD 1 0 ≤ t) && decide (t < s.getD 2 0))
def wantsOf (ss : List (List Int)) (r t : Int) : List (List Int) := (ss.filter (inHere r t)).map fun s => [s.getD 3 0, s.getD 4 0]
def useOf (ss : List (List Int)) (r t : Int) : Int := ((wantsOf ss r t).map fun s => s.getD 0 0).sum
def leastOf (ss : List (List Int)) (r t : Int) : Int := ((wantsOf ss r t).map fun s => s.getD 1 0).foldl max 0
theorem wantsOf_take {ss : List (List Int)} {i : Nat} {s : List Int} (r t : Int) (e : ss[i]? = some s) : wantsOf (ss.take (i + 1)) r t = wantsOf (ss.take i) r t ++ (if inHere r t s = true then [[s.getD 3 0, s.getD 4 0]] else []) := by
  unfold wantsOf
  rw [List.take_add_one, e]
  rw [List.filter_append, List.map_append]
  congr 1
  by_cases h : inHere r t s = true
  · rw [if_pos h]; simp [h]
  · rw [if_neg h]; simp [h]
/-- the fields of a House, as __init__ stores them -/
def hf (h : Int) (a b c : Addr) : List (Str × V) := putF "_stays" (.ref c) (putF "_doors" (.ref b) (putF "_rooms" (.ref a) (putF "hours" (.int h) [])))
theorem n1 : ¬ (("hours" : Str) = "_rooms") := by decide +kernel
theorem n2 : ¬ (("hours" : Str) = "_doors") := by decide +kernel
theorem n3 : ¬ (("hours" : Str) = "_stays") := by decide +kernel
theorem n4 : ¬ (("_rooms" : Str) = "_doors") := by decide +kernel
theorem n5 : ¬ (("_rooms" : Str) = "_stays") := by decide +kernel
theorem n6 : ¬ (("_doors" : Str) = "_stays") := by decide +kernel
theorem hf_h (h : Int) (a b c : Addr) : (hf h a b c).lookup ("hours" : Str) = some (.int h) := by
  unfold hf
  rw [lookup_putF, if_neg n3, lookup_putF, if_neg n2, lookup_putF, if_neg n1, lookup_putF, if_pos rfl]
theorem hf_r (h : Int) (a b c : Addr) : (hf h a b c).lookup ("_rooms" : Str) = some (.ref a) := by
  unfold hf
  rw [lookup_putF, if_neg n5, lookup_putF, if_neg n4, lookup_putF, if_pos rfl]
theorem hf_d (h : Int) (a b c : Addr) : (hf h a b c).lookup ("_doors" : Str) = some (.ref b) := by
  unfold hf
  rw [lookup_putF, if_neg n6, lookup_putF, if_pos rfl]
theorem hf_s (h : Int) (a b c : Addr) : (hf h a b c).lookup ("_stays" : Str) = some (.ref c) := by
  unfold hf
  rw [lookup_putF, if_pos rfl]
theorem hf_no (h : Int) (a b c : Addr) {m : Str} (h1 : ¬ m = "_stays") (h2 : ¬ m = "_doors") (h3 : ¬ m = "_rooms") (h4 : ¬ m = "hours") : (hf h a b c).lookup m = none := by
  unfold hf
  rw [lookup_putF, if_neg h1, lookup_putF, if_neg h2, lookup_putF, if_neg h3, lookup_putF, if_neg h4]
  all_goals rfl
structure HouseAt (ad : Ad) (K : PySem.W.Frag) (G : Hp) (x : Addr) (h : Int) (rs ds ss : List (List Int)) : Prop where
  ob : ∃ dx a b c, G x = some (.ins ad.cH dx (hf h a b c)) ∧ Rows K G a rs ∧ Rows K G b ds ∧ Rows K G c ss
  ok : houseBad h rs ds ss = none
  w4 : Wide 4 rs
  w3 : Wide 3 ds
  w5 : Wide 5 ss
theorem HouseAt.same {ad : Ad} {K : PySem.W.Frag} {G G' : Hp} {x : Addr} {h : Int} {rs ds ss : List (List Int)} (e : Same G G') (a : HouseAt ad K G x h rs ds ss) : HouseAt ad K G' x h rs ds ss := by
  obtain ⟨⟨dx, a, b, c, q, r1, r2, r3⟩, h1, h2, h3, h4⟩ := a
  exact ⟨⟨dx, a, b, c, e _ _ q, r1.same e, r2.same e, r3.same e⟩, h1, h2, h3, h4⟩
section
variable {P : Program} {w : World} {K : PySem.W.Frag} {mg : Str → Option Value} {base : Heap} {ad : Ad} {Ps : List Addr} {H : Hp}
def spHi (ad : Ad) (K : PySem.W.Frag) (Ps : List Addr) : Sp := fun vs H Q E =>
  ∃ (G : Hp) (x dx : Addr) (h : Int) (ra da sa : Addr) (rs ds ss : List (List Int)), vs = [.ref x, .int h, .ref ra, .ref da, .ref sa] ∧ Wd (x :: Ps) G H ∧ Tabs Ps H ∧ x ∉ Ps ∧ H x = some (.ins ad.cH dx []) ∧ Rows K G ra rs ∧ Rows K G da ds ∧ Rows K G sa ss ∧ Wide 4 rs ∧ Wide 3 ds ∧ Wide 5 ss ∧
    (houseBad h rs ds ss = none → ∀ G' H' a b c, H a = none → H b = none → H c = none → Gr (x :: Ps) G H G' H' → Tabs Ps H' → H' x = some (.ins ad.cH dx (hf h a b c)) → Rows K G' a rs → Rows K G' b ds → Rows K G' c ss → Q .non H') ∧
    (∀ z, houseBad h rs ds ss = some z → ∀ cls d H', Raised ad z cls d H' → Gr (x :: Ps) G H G H' → Tabs Ps H' → E cls d H')
theorem count_lens {h : Int} {rs ds ss : List (List Int)} (e : countBad h rs ds ss = none) : rs.length < 32 ∧ ds.length < 32 ∧ ss.length < 32 := by
  unfold countBad at e
  split at e
  · cases e
  split at e
  · cases e
  rename_i h1 h2
  split at e
  · cases e
  split at e
  · cases e
  omega
theorem putF_len (f : Str) (v : V) {fs : List (Str × V)} {n : Nat} (h : fs.length ≤ n) : (putF f v fs).length ≤ n + 1 := Nat.le_trans (length_putF f v fs) (Nat.succ_le_succ h)
theorem mk_house (T : RawP K mg base ad) (hP : ad.tNum ∈ Ps) : MakX P w K mg base 4 "House" ad.cH (spHi ad K Ps) := by
  refine T.hi.makX scHouse_init (fun vs H Q E h => ?_) (fun f cdv A outer s H vs Q E hr h => ?_)
  · obtain ⟨G, x, dx, h, ra, da, sa, rs, ds, ss, rfl, _⟩ := h
    rfl
  · obtain ⟨G, x, dx, h, ra, da, sa, rs, ds, ss, rfl, wd, tbs, hxP, hx, hR, hD, hS, w4, w3, w5, q0, qx⟩ := h
    have b_list := T.b_list
    have k__check_counts : CalX P w K mg base 3 "_check_counts" (spChk ad K Ps (fun _ _ _ _ => True) countBad) := c_counts T
    have k__check_parts : CalX P w K mg base 3 "_check_parts" (spChk ad K Ps WideH partBad) := c_parts T hP
    have sub : ∀ c ∈ Ps, c ∈ x :: Ps := fun c hc => List.mem_cons_of_mem _ hc
    have wdP : Wd Ps G H := wd.sub sub
    refine ⟨_, (pss_cons (ps_expr (pe_cx k__check_counts hr (by decide) (takes_of rfl rfl rfl rfl) rfl (pa_cons (pv 1) (pa_cons (pv 2) (pa_cons (pv 3) (pa_cons (pv 4) pa_nil))))))
      (pss_cons (ps_expr (pe_cx k__check_parts hr (by decide) (takes_of rfl rfl rfl rfl) rfl (pa_cons (pv 1) (pa_cons (pv 2) (pa_cons (pv 3) (pa_cons (pv 4) pa_nil))))))
      (pss_cons (ps_fld (pv 0) (pv 1) rfl)
      (pss_cons (ps_fld (pv 0) (pe_callTy call_list_of (by rfl) b_list (by decide +kernel) (pa_cons (pv 2) pa_nil)) rfl)
      (pss_cons (ps_fld (pv 0) (pe_callTy call_list_of (by rfl) b_list (by decide +kernel) (pa_cons (pv 3) pa_nil)) rfl)
      (pss_one (ps_fld (pv 0) (pe_callTy call_list_of (by rfl) b_list (by decide +kernel) (pa_cons (pv 4) pa_nil)) rfl))))))), ?_⟩
    refine ⟨_, rfl, _, rfl, _, rfl, _, rfl, G, h, ra, da, sa, rs, ds, ss, rfl, wdP, tbs, hR, hD, hS, True.intro, fun e1 H1 g1 t1 => ?_, fun z e1 cls d H1 rz g1 t1 => ?_⟩
    rotate_left
    · refine qx z ?_ cls d H1 rz (g1.widen wd sub) t1
      unfold houseBad
      rw [e1]
    obtain ⟨lr, ld, ls⟩ := count_lens e1
    refine ⟨_, rfl, _, rfl, _, rfl, _, rfl, G, h, ra, da, sa, rs, ds, ss, rfl, g1.wd, t1, hR, hD, hS, ⟨w4, w3, w5, lr, ld, ls⟩, fun e2 H2 g2 t2 => ?_, fun z e2 cls d H2 rz g2 t2 => ?_⟩
    rotate_left
    · refine qx z ?_ cls d H2 rz ((g1.trans g2).widen wd sub) t2
      unfold houseBad
      rw [e1]
      exact e2
    have ok : houseBad h rs ds ss = none := by
      unfold houseBad
      rw [e1]
      exact e2
    have gx := (g1.trans g2).widen wd sub
    have hx2 : H2 x = some (.ins ad.cH dx []) := (g1.trans g2).keep x _ hxP hx
    have hxF : x ∈ x :: Ps := List.mem_cons_self
    obtain ⟨xr, qr, rr⟩ := id hR
    obtain ⟨xd, qd, rd⟩ := id hD
    obtain ⟨xs, qs, rS⟩ := id hS
    -- self.hours = hours
    refine ⟨_, rfl, _, rfl, x, ad.cH, dx, _, rfl, hx2, T.hcl, T.hnh, by show 0 < 1000; decide, ?_⟩
    have g3 : Gr (x :: Ps) G H G (upd H2 x (.ins ad.cH dx (putF "hours" (.int h) []))) := gx.pokeF hxF
    have t3 : Tabs Ps (upd H2 x (.ins ad.cH dx (putF "hours" (.int h) []))) := t2.upd hxP
    have l1 : (putF "hours" (V.int h) []).length ≤ 1 := putF_len _ _ (Nat.le_refl 0)
    -- self._rooms = list(rooms)
    refine ⟨_, rfl, ra, xr, rfl, .inl (g3.wd.same.seq qr), fun a ha => ?_⟩
    have nax : x ≠ a := fun z => by rw [← z, upd_same] at ha; cases ha
    have g4 := g3.trans (Gr.alloc (o := .lst xr) g3.wd ha)
    have t4 := t3.same (same_new (o := .lst xr) ha)
    refine ⟨_, rfl, x, ad.cH, dx, _, rfl, by rw [upd_ne nax, upd_same], T.hcl, T.hnr, by show _ < 1000; omega, ?_⟩
    have g5 := g4.pokeF (o := .ins ad.cH dx (putF "_rooms" (.ref a) (putF "hours" (.int h) []))) hxF
    have t5 := t4.upd (o := .ins ad.cH dx (putF "_rooms" (.ref a) (putF "hours" (.int h) []))) hxP
    have l2 : (putF "_rooms" (V.ref a) (putF "hours" (V.int h) [])).length ≤ 2 := putF_len _ _ l1
    have ra5 : Rows K (upd G a (.lst xr)) a rs := ⟨xr, SqL.of upd_same, rowsV_same g4.up rr⟩
    -- self._doors = list(doors)
    refine ⟨_, rfl, da, xd, rfl, .inl (g5.wd.same.seq (g4.up.seq qd)), fun b hb => ?_⟩
    have nbx : x ≠ b := fun z => by rw [← z, upd_same] at hb; cases hb
    have g6 := g5.trans (Gr.alloc (o := .lst xd) g5.wd hb)
    have t6 := t5.same (same_new (o := .lst xd) hb)
    refine ⟨_, rfl, x, ad.cH, dx, _, rfl, by rw [upd_ne nbx, upd_same], T.hcl, T.hnd, by show _ < 1000; omega, ?_⟩
    have g7 := g6.pokeF (o := .ins ad.cH dx (putF "_doors" (.ref b) (putF "_rooms" (.ref a) (putF "hours" (.int h) [])))) hxF
    have t7 := t6.upd (o := .ins ad.cH dx (putF "_doors" (.ref b) (putF "_rooms" (.ref a) (putF "hours" (.int h) [])))) hxP
    have l3 : (putF "_doors" (V.ref b) (putF "_rooms" (V.ref a) (putF "hours" (V.int h) []))).length ≤ 3 := putF_len _ _ l2
    have rb7 : Rows K (upd (upd G a (.lst xr)) b (.lst xd)) b ds := ⟨xd, SqL.of upd_same, rowsV_same g6.up rd⟩
    have s67 := (Gr.alloc (o := .lst xd) g5.wd hb).up
    -- self._stays = list(stays)
    refine ⟨_, rfl, sa, xs, rfl, .inl (g7.wd.same.seq (g6.up.seq qs)), fun c hc => ?_⟩
    have ncx : x ≠ c := fun z => by rw [← z, upd_same] at hc; cases hc
    have g8 := g7.trans (Gr.alloc (o := .lst xs) g7.wd hc)
    have t8 := t7.same (same_new (o := .lst xs) hc)
    refine ⟨_, rfl, x, ad.cH, dx, _, rfl, by rw [upd_ne ncx, upd_same], T.hcl, T.hns, by show _ < 1000; omega, ?_⟩
    have s89 := (Gr.alloc (o := .lst xs) g7.wd hc).up
    have fa : H a = none := g3.free' ha
    have fb : H b = none := g5.free' hb
    have fc : H c = none := g7.free' hc
    exact q0 ok _ _ a b c fa fb fc (g8.pokeF hxF) (t8.upd hxP) upd_same ((ra5.same s67).same s89) (rb7.same s89) ⟨xs, SqL.of upd_same, rowsV_same g8.up rS⟩
/-- a new list of rows is told -/
def spNewRows (ad : Ad) (K : PySem.W.Frag) (Ps : List Addr) (R : Int → List (List Int) → List (List Int) → List (List Int) → List (List Int)) : Sp := fun vs H Q _ =>
  ∃ (G : Hp) (x : Addr) (h : Int) (rs ds ss : List (List Int)), vs = [.ref x] ∧ Wd Ps G H ∧ Tabs Ps H ∧ HouseAt ad K G x h rs ds ss ∧
    ∀ l xs H', H l = none → Gr Ps G H G H' → H' l = some (.lst xs) → RowsV K G xs (R h rs ds ss) → Tabs Ps H' → Q (.ref l) H'
theorem c_rooms (T : RawP K mg base ad) : C8.Met P w K mg base 1 ad.cH "rooms" (spNewRows ad K Ps fun _ rs _ _ => rs) [] := by
  refine T.hro.met T.hcl scHouse_rooms (fun vs H Q E h => ?_) (fun f cdv A outer s H vs Q E hr h => ?_)
  · obtain ⟨G, x, h, rs, ds, ss, rfl, _⟩ := h
    rfl
  · obtain ⟨G, x, h, rs, ds, ss, rfl, wd, tbs, ⟨⟨dx, a, b, c, hx, ⟨xr, qr, rr⟩, _, _⟩, _, _, _, _⟩, q⟩ := h
    have b_list := T.b_list
    refine ⟨_, (pss_one (ps_ret (pe_callTy call_list_of (by rfl) b_list (by decide +kernel) (pa_cons (pe_fld (pv 0) rfl) pa_nil)))), ?_⟩
    exact ⟨_, rfl, x, ad.cH, dx, _, _, rfl, wd.same _ _ hx, T.hcl, T.hnr, hf_r _ _ _ _, a, xr, rfl, .inl (wd.same.seq qr), fun l hl => q l xr _ hl (Gr.new wd hl) upd_same rr (tbs.same (same_new hl))⟩
theorem c_doors (T : RawP K mg base ad) : C8.Met P w K mg base 1 ad.cH "doors" (spNewRows ad K Ps fun _ _ ds _ => ds) [] := by
  refine T.hdo.met T.hcl scHouse_doors (fun vs H Q E h => ?_) (fun f cdv A outer s H vs Q E hr h => ?_)
  · obtain ⟨G, x, h, rs, ds, ss, rfl, _⟩ := h
    rfl
  · obtain ⟨G, x, h, rs, ds, ss, rfl, wd, tbs, ⟨⟨dx, a, b, c, hx, _, ⟨xr, qr, rr⟩, _⟩, _, _, _, _⟩, q⟩ := h
    have b_list := T.b_list
    refine ⟨_, (pss_one (ps_ret (pe_callTy call_list_of (by rfl) b_list (by decide +kernel) (pa_cons (pe_fld (pv 0) rfl) pa_nil)))), ?_⟩
    exact ⟨_, rfl, x, ad.cH, dx, _, _, rfl, wd.same _ _ hx, T.hcl, T.hnd, hf_d _ _ _ _, b, xr, rfl, .inl (wd.same.seq qr), fun l hl => q l xr _ hl (Gr.new wd hl) upd_same rr (tbs.same (same_new hl))⟩
theorem c_stays (T : RawP K mg base ad) : C8.Met P w K mg base 1 ad.cH "stays" (spNewRows ad K Ps fun _ _ _ ss => ss) [] := by
  refine T.hst.met T.hcl scHouse_stays (fun vs H Q E h => ?_) (fun f cdv A outer s H vs Q E hr h => ?_)
  · obtain ⟨G, x, h, rs, ds, ss, rfl, _⟩ := h
    rfl
  · obtain ⟨G, x, h, rs, ds, ss, rfl, wd, tbs, ⟨⟨dx, a, b, c, hx, _, _, ⟨xr, qr, rr⟩⟩, _, _, _, _⟩, q⟩ := h
    have b_list := T.b_list
    refine ⟨_, (pss_one (ps_ret (pe_callTy call_list_of (by rfl) b_list (by decide +kernel) (pa_cons (pe_fld (pv 0) rfl) pa_nil)))), ?_⟩
    exact ⟨_, rfl, x, ad.cH, dx, _, _, rfl, wd.same _ _ hx, T.hcl, T.hns, hf_s _ _ _ _, c, xr, rfl, .inl (wd.same.seq qr), fun l hl => q l xr _ hl (Gr.new wd hl) upd_same rr (tbs.same (same_new hl))⟩
end
end Cr
set_option Elab.async false
set_option linter.all false
set_option maxRecDepth 100000
set_option maxHeartbeats 4000000

namespace Cr
open PySem PySem.Spec PyProof.Rows L2
theorem wants_two {ss : List (List Int)} {r t : Int} {z : List Int} (h : z ∈ wantsOf ss r t) : ∃ u n, z = [u, n] := by
  unfold wantsOf at h
  obtain ⟨s, _, rfl⟩ := List.mem_map.mp h
  exact ⟨_, _, rfl⟩
theorem wants_len (ss : List (List Int)) (r t : Int) : (wantsOf ss r t).length ≤ ss.length := by
  unfold wantsOf
  rw [List.length_map]
  exact List.length_filter_le ..
theorem foldl_max_start : ∀ (l : List Int) (a b : Int), l.foldl max (max a b) = max a (l.foldl max b)
  | [], _, _ => rfl
  | x :: l, a, b => by
    rw [List.foldl_cons, List.foldl_cons, show max (max a b) x = max a (max b x) by omega, foldl_max_start l a (max b x)]
theorem map_take_succ {α β : Type} {l : List α} {i : Nat} {a : α} (f : α → β) (e : l[i]? = some a) : (l.take (i + 1)).map f = (l.take i).map f ++ [f a] := by
  rw [List.take_add_one, e, List.map_append]
  rfl
theorem houseBad_lens {h : Int} {rs ds ss : List (List Int)} (e : houseBad h rs ds ss = none) : rs.length < 32 ∧ ds.length < 32 ∧ ss.length < 32 := by
  unfold houseBad at e
  cases q : countBad h rs ds ss with
  | some z => rw [q] at e; cases e
  | none => exact count_lens q
/-- a house has been checked: its stays are so -/
theorem houseBad_stay {h : Int} {rs ds ss : List (List Int)} (e : houseBad h rs ds ss = none) {s : List Int} (hs : s ∈ ss) : stayOk h rs s = true := by
  unfold houseBad at e
  cases q : countBad h rs ds ss with
  | some z => rw [q] at e; cases e
  | none =>
    rw [q] at e
    have e' : partBad h rs ds ss = none := e
    unfold partBad at e'
    split at e'
    · cases e'
    split at e'
    · cases e'
    split at e'
    · cases e'
    rename_i q3
    unfold firstNot at q3
    have z := (List.findIdx?_eq_none_iff.mp q3) s hs
    simpa using z
theorem stayOk_need {h : Int} {rs : List (List Int)} {s : List Int} (e : stayOk h rs s = true) : 0 ≤ s.getD 4 0 := by
  unfold stayOk at e
  split at e
  · rename_i r b e1 u n
    rw [Bool.and_eq_true] at e
    have := List.all_eq_true.mp e.1 n (by simp)
    unfold numOk at this
    simp at this
    exact this.1
  · cases e
section
variable {P : Program} {w : World} {K : PySem.W.Frag} {mg : Str → Option Value} {base : Heap} {ad : Ad} {Ps : List Addr} {H : Hp}
def spWants (ad : Ad) (K : PySem.W.Frag) (Ps : List Addr) : Sp := fun vs H Q _ =>
  ∃ (G : Hp) (x : Addr) (h : Int) (rs ds ss : List (List Int)) (r t : Int), vs = [.ref x, .int r, .int t] ∧ Wd Ps G H ∧ Tabs Ps H ∧ HouseAt ad K G x h rs ds ss ∧
    ∀ l xs G' H', H l = none → Gr Ps G H G' H' → G' l = none → H' l = some (.lst xs) → RowsV K G' xs (wantsOf ss r t) → Tabs Ps H' → Q (.ref l) H'
theorem c_wants (T : RawP K mg base ad) : C8.Met P w K mg base 1 ad.cH "_wants" (spWants ad K Ps) [] := by
  refine T.hwa.met T.hcl scHouse__wants (fun vs H Q E h => ?_) (fun f cdv A outer s H vs Q E hr h => ?_)
  · obtain ⟨G, x, h, rs, ds, ss, r, t, rfl, _⟩ := h
    rfl
  · obtain ⟨G, x, h, rs, ds, ss, r, t, rfl, wd, tbs, ⟨⟨dx, a, b, c, hx, _, _, ⟨xr, qr, rr⟩⟩, hok, _, _, w5⟩, q⟩ := h
    have lens := houseBad_lens hok
    have hlen : xr.length = ss.length := Paired.length rr
    refine ⟨_, (pss_one (ps_ret (pe_lc (own := [("place", 3), ("begin", 4), ("end", 5), ("use", 6), ("need", 7)]) rfl scHouse__wants.nd (pi_list (pe_fld (pv 0) rfl)) (blkOk_by (own := [("place", 3), ("begin", 4), ("end", 5), ("use", 6), ("need", 7)]) (N := nHouse__wants) (sc := defScope sHouse__wants) (by decide +kernel)) (fun _ _ _ _ _ => (pg_tupK (K := K) (n := 5) rfl rfl (pgs_cons (pg_name (i := 3) scHouse__wants.nd rfl (Or.inl rfl) (Or.inr rfl)) (pgs_cons (pg_name (i := 4) scHouse__wants.nd rfl (Or.inl rfl) (Or.inr rfl)) (pgs_cons (pg_name (i := 5) scHouse__wants.nd rfl (Or.inl rfl) (Or.inr rfl)) (pgs_cons (pg_name (i := 6) scHouse__wants.nd rfl (Or.inl rfl) (Or.inr rfl)) (pgs_cons (pg_name (i := 7) scHouse__wants.nd rfl (Or.inl rfl) (Or.inr rfl)) pgs_nil))))))) (fun _ _ _ _ _ => pts_one (PW.pt (pw_and (pt_cmpR op_eq (pv 3 rfl (Or.inl rfl)) (pv 1 rfl (Or.inr (Or.inl rfl))) (nomark _)) (pw_and1 (pt_chain op_le op_lt (pv 4 rfl (Or.inl rfl)) (pv 2 rfl (Or.inr (Or.inl rfl))) (pv 5 rfl (Or.inl rfl))))))) (fun _ _ _ _ _ => (pe_tup (pa_cons (pv 6 rfl (Or.inl rfl)) (pa_cons (pv 7 rfl (Or.inl rfl)) pa_nil))))))), ?_⟩
    refine ⟨_, rfl, x, ad.cH, dx, _, _, rfl, wd.same _ _ hx, T.hcl, T.hns, hf_s _ _ _ _, c, rfl, ⟨xr, wd.same.seq qr⟩, fun D hD => ?_⟩
    have hDP := tbs.nin hD
    refine lc_list (K := K) (a := c) (xs := xr) (fun i H' => ∃ G' acc, Gr Ps G H G' H' ∧ Tabs Ps H' ∧ G' D = none ∧ H' D = some (.lst acc) ∧ RowsV K G' acc (wantsOf (ss.take i) r t))
      ⟨G, [], Gr.new wd hD, tbs.upd hDP, wd.free hD, upd_same, .nil⟩ (fun i H' _ ⟨G', acc, g, _⟩ => g.wd.same.seq (g.up.seq qr)) ?_ ?_
    · rintro i y H' hy ⟨G', acc, g, tb, gD, hacc, hrv⟩
      obtain ⟨z, ez, ty, rfl, hty⟩ := paired_get rr hy
      have hz5 := w5 z (List.mem_of_getElem? ez)
      obtain ⟨pl, bg, en, us, nd, rfl⟩ := len5 hz5
      have hlt : i < ss.length := (List.getElem?_eq_some_iff.mp ez).1
      have hal : acc.length ≤ ss.length := by
        rw [Paired.length hrv]
        exact Nat.le_trans (wants_len _ _ _) (by rw [List.length_take]; omega)
      have hstep := wantsOf_take r t ez
      refine ⟨ty, _, rfl, Same.tup g.wd.same (Same.tup g.up hty), rfl, _, _, rfl, _, _, rfl, _, _, rfl, _, _, rfl, _, _, rfl, rfl, (by (repeat rw [wipe_set (by decide)]); exact wipe_wipe _ _), ?_⟩
      refine ⟨_, rfl, _, rfl, rfl, _, rfl, ?_⟩
      have e0 : decide (V.int pl = V.int r) = decide (pl = r) := by simp
      rw [e0]
      have ein : inHere r t [pl, bg, en, us, nd] = (decide (pl = r) && (decide (bg ≤ t) && decide (t < en))) := rfl
      rw [ein] at hstep
      have stay : (decide (pl = r) && (decide (bg ≤ t) && decide (t < en))) = false → ∃ G' acc, Gr Ps G H G' H' ∧ Tabs Ps H' ∧ G' D = none ∧ H' D = some (.lst acc) ∧ RowsV K G' acc (wantsOf (ss.take (i + 1)) r t) := fun e => by
        rw [e, if_neg Bool.false_ne_true, List.append_nil] at hstep
        exact ⟨G', acc, g, tb, gD, hacc, by rw [hstep]; exact hrv⟩
      refine ite2 (fun h1 => ?_) (fun h1 => ?_)
      · rw [h1, Bool.true_and] at stay hstep
        refine ⟨_, rfl, _, rfl, _, _, rfl, rfl, _, rfl, ?_⟩
        refine ite2 (fun h2 => ?_) (fun h2 => ?_)
        · rw [h2, Bool.true_and] at stay hstep
          refine ⟨_, rfl, _, _, rfl, rfl, _, rfl, ?_⟩
          refine ite2 (fun h3 => ?_) (fun h3 => ?_)
          · have h3' : decide (t < en) = true := h3
            rw [h3', if_pos rfl] at hstep
            refine ⟨_, rfl, _, rfl, by show 2 ≤ sizeLine; decide, fun p hp => ?_⟩
            have npD : D ≠ p := fun z => by rw [z, hp] at hacc; cases hacc
            have g2 := g.trans (Gr.alloc (o := .tup [.int us, .int nd]) g.wd hp)
            have gD2 : upd G' p (.tup [.int us, .int nd]) D = none := by rw [upd_ne npD]; exact gD
            refine ⟨acc, by rw [upd_ne npD]; exact hacc, small1000 (by omega), _, acc ++ [.ref p], g2.poke hD gD2, (tb.same (same_new hp)).upd hDP, gD2, upd_same, ?_⟩
            rw [hstep]
            exact paired_snoc (rowsV_same (Gr.alloc (o := .tup [.int us, .int nd]) g.wd hp).up hrv) ⟨p, rfl, SqT.of upd_same⟩
          · exact stay (Bool.eq_false_iff.mpr h3)
        · rw [Bool.eq_false_iff.mpr h2, Bool.false_and] at stay
          exact ⟨_, rfl, iteF (stay rfl)⟩
      · rw [Bool.eq_false_iff.mpr h1, Bool.false_and] at stay
        exact stay rfl
    · rintro H' ⟨G', acc, g, tb, gD, hacc, hrv⟩
      rw [List.take_of_length_le (by omega)] at hrv
      exact q D acc G' H' hD g gD hacc hrv tb
def spTwo (ad : Ad) (K : PySem.W.Frag) (Ps : List Addr) (F : List (List Int) → Int → Int → Int) : Sp := fun vs H Q _ =>
  ∃ (G : Hp) (x : Addr) (h : Int) (rs ds ss : List (List Int)) (r t : Int), vs = [.ref x, .int r, .int t] ∧ Wd Ps G H ∧ Tabs Ps H ∧ HouseAt ad K G x h rs ds ss ∧
    ∀ G' H', Gr Ps G H G' H' → Tabs Ps H' → Q (.int (F ss r t)) H'
theorem hf_wants (h : Int) (a b c : Addr) : (hf h a b c).lookup ("_wants" : Str) = none := hf_no _ _ _ _ (by decide +kernel) (by decide +kernel) (by decide +kernel) (by decide +kernel)
theorem c_use (T : RawP K mg base ad) : C8.Met P w K mg base 2 ad.cH "use" (spTwo ad K Ps useOf) [] := by
  refine T.hus.met T.hcl scHouse_use (fun vs H Q E h => ?_) (fun f cdv A outer s H vs Q E hr h => ?_)
  · obtain ⟨G, x, h, rs, ds, ss, r, t, rfl, _⟩ := h
    rfl
  · obtain ⟨G, x, h, rs, ds, ss, r, t, rfl, wd, tbs, hH, q⟩ := h
    have b_sum := T.b_sum
    have k_House__wants : C8.Met P w K mg base 1 ad.cH "_wants" (spWants ad K Ps) [] := c_wants T
    obtain ⟨dx, a, b, c, hx, _⟩ := hH.ob
    have lens := houseBad_lens hH.ok
    refine ⟨_, (pss_one (ps_ret (pe_callB (cr_sum rfl) (by rfl) b_sum (by decide +kernel) (pa_cons (pe_lc (own := [("use", 3), ("_", 4)]) rfl scHouse_use.nd (pi_list (C8.pe_mt k_House__wants hr (by decide) (pv 0) (pa_cons (pv 1) (pa_cons (pv 2) pa_nil)))) (blkOk_by (own := [("use", 3), ("_", 4)]) (N := nHouse_use) (sc := defScope sHouse_use) (by decide +kernel)) (fun _ _ _ _ _ => (pg_tupK (K := K) (n := 2) rfl rfl (pgs_cons (pg_name (i := 3) scHouse_use.nd rfl (Or.inl rfl) (Or.inr rfl)) (pgs_cons (pg_name (i := 4) scHouse_use.nd rfl (Or.inl rfl) (Or.inr rfl)) pgs_nil)))) (fun _ _ _ _ _ => pts_nil) (fun _ _ _ _ _ => (pv 3 rfl (Or.inl rfl)))) pa_nil)))), ?_⟩
    refine ⟨_, rfl, x, dx, _, rfl, wd.same _ _ hx, hf_wants _ _ _ _, _, rfl, _, rfl, G, x, h, rs, ds, ss, r, t, rfl, wd, tbs, hH, fun l xs G1 H1 hl g1 gl hxs hrv t1 => ⟨l, rfl, ⟨xs, SqL.of hxs⟩, fun D hD => ?_⟩⟩
    have hDP := t1.nin hD
    have nlD : l ≠ D := ne_of_none hxs hD
    have hlen : xs.length = (wantsOf ss r t).length := Paired.length hrv
    have hln : xs.length < 32 := by
      have := wants_len ss r t
      omega
    refine lc_list (K := K) (a := l) (xs := xs) (fun i H' => Gr Ps G H G1 H' ∧ Tabs Ps H' ∧ H' l = some (.lst xs) ∧ H' D = some (.lst (((wantsOf ss r t).take i).map fun z => V.int (z.getD 0 0))))
      ⟨g1.trans (Gr.new g1.wd hD), t1.upd hDP, by rw [upd_ne nlD]; exact hxs, upd_same⟩ (fun i H' _ ⟨_, _, e, _⟩ => SqL.of e) ?_ ?_
    · rintro i y H' hy ⟨g, tb, hl', hacc⟩
      obtain ⟨z, ez, ty, rfl, hty⟩ := paired_get hrv hy
      obtain ⟨u, n, rfl⟩ := wants_two (List.mem_of_getElem? ez)
      refine ⟨ty, _, rfl, Same.tup g.wd.same hty, rfl, _, _, rfl, _, _, rfl, rfl, (by (repeat rw [wipe_set (by decide)]); exact wipe_wipe _ _), ?_⟩
      have hi : i < xs.length := (List.getElem?_eq_some_iff.mp hy).1
      refine ⟨_, rfl, _, hacc, small1000 (by rw [List.length_map, List.length_take]; omega), g.poke (g1.free' hD) (g1.wd.free hD), tb.upd hDP, by rw [upd_ne nlD]; exact hl', ?_⟩
      rw [upd_same, map_take_succ _ ez]
      rfl
    · rintro H' ⟨g, tb, hl', hacc⟩
      rw [List.take_of_length_le (by omega)] at hacc
      refine ⟨D, (wantsOf ss r t).map fun z => z.getD 0 0, rfl, SqL.of (by rw [hacc, List.map_map]; rfl), ?_⟩
      exact q G1 H' g tb
theorem c_least (T : RawP K mg base ad) : C8.Met P w K mg base 2 ad.cH "least" (spTwo ad K Ps leastOf) [] := by
  refine T.hle.met T.hcl scHouse_least (fun vs H Q E h => ?_) (fun f cdv A outer s H vs Q E hr h => ?_)
  · obtain ⟨G, x, h, rs, ds, ss, r, t, rfl, _⟩ := h
    rfl
  · obtain ⟨G, x, h, rs, ds, ss, r, t, rfl, wd, tbs, hH, q⟩ := h
    have b_max := T.b_max
    have k_House__wants : C8.Met P w K mg base 1 ad.cH "_wants" (spWants ad K Ps) [] := c_wants T
    obtain ⟨dx, a, b, c, hx, _⟩ := hH.ob
    have lens := houseBad_lens hH.ok
    refine ⟨_, (pss_one (ps_ret (pe_callBK (cr_maxDf rfl hr.units) (by rfl) b_max (by decide +kernel) (pa_cons (pe_lc (own := [("_", 3), ("need", 4)]) rfl scHouse_least.nd (pi_list (C8.pe_mt k_House__wants hr (by decide) (pv 0) (pa_cons (pv 1) (pa_cons (pv 2) pa_nil)))) (blkOk_by (own := [("_", 3), ("need", 4)]) (N := nHouse_least) (sc := defScope sHouse_least) (by decide +kernel)) (fun _ _ _ _ _ => (pg_tupK (K := K) (n := 2) rfl rfl (pgs_cons (pg_name (i := 3) scHouse_least.nd rfl (Or.inl rfl) (Or.inr rfl)) (pgs_cons (pg_name (i := 4) scHouse_least.nd rfl (Or.inl rfl) (Or.inr rfl)) pgs_nil)))) (fun _ _ _ _ _ => pts_nil) (fun _ _ _ _ _ => (pv 4 rfl (Or.inl rfl)))) pa_nil) (pk_cons pe_int pk_nil)))), ?_⟩
    refine ⟨_, rfl, x, dx, _, rfl, wd.same _ _ hx, hf_wants _ _ _ _, _, rfl, _, rfl, G, x, h, rs, ds, ss, r, t, rfl, wd, tbs, hH, fun l xs G1 H1 hl g1 gl hxs hrv t1 => ⟨l, rfl, ⟨xs, SqL.of hxs⟩, fun D hD => ?_⟩⟩
    have hDP := t1.nin hD
    have nlD : l ≠ D := ne_of_none hxs hD
    have hlen : xs.length = (wantsOf ss r t).length := Paired.length hrv
    have hln : xs.length < 32 := by
      have := wants_len ss r t
      omega
    refine lc_list (K := K) (a := l) (xs := xs) (fun i H' => Gr Ps G H G1 H' ∧ Tabs Ps H' ∧ H' l = some (.lst xs) ∧ H' D = some (.lst (((wantsOf ss r t).take i).map fun z => V.int (z.getD 1 0))))
      ⟨g1.trans (Gr.new g1.wd hD), t1.upd hDP, by rw [upd_ne nlD]; exact hxs, upd_same⟩ (fun i H' _ ⟨_, _, e, _⟩ => SqL.of e) ?_ ?_
    · rintro i y H' hy ⟨g, tb, hl', hacc⟩
      obtain ⟨z, ez, ty, rfl, hty⟩ := paired_get hrv hy
      obtain ⟨u, n, rfl⟩ := wants_two (List.mem_of_getElem? ez)
      refine ⟨ty, _, rfl, Same.tup g.wd.same hty, rfl, _, _, rfl, _, _, rfl, rfl, (by (repeat rw [wipe_set (by decide)]); exact wipe_wipe _ _), ?_⟩
      have hi : i < xs.length := (List.getElem?_eq_some_iff.mp hy).1
      refine ⟨_, rfl, _, hacc, small1000 (by rw [List.length_map, List.length_take]; omega), g.poke (g1.free' hD) (g1.wd.free hD), tb.upd hDP, by rw [upd_ne nlD]; exact hl', ?_⟩
      rw [upd_same, map_take_succ _ ez]
      rfl
    · rintro H' ⟨g, tb, hl', hacc⟩
      rw [List.take_of_length_le (by omega)] at hacc
      refine ⟨D, (wantsOf ss r t).map fun z => z.getD 1 0, .int 0, rfl, rfl, SqL.of (by rw [hacc, List.map_map]; rfl), fun e => ?_, fun n rr e => ?_⟩
      · have z := q G1 H' g tb
        unfold leastOf at z
        rw [e] at z
        exact z
      · have z := q G1 H' g tb
        unfold leastOf at z
        rw [e, List.foldl_cons] at z
        have hn : 0 ≤ n := by
          have hm : n ∈ (wantsOf ss r t).map (fun z => z.getD 1 0) := by rw [e]; exact List.mem_cons_self
          obtain ⟨y, hy, rfl⟩ := List.mem_map.mp hm
          unfold wantsOf at hy
          obtain ⟨s', hs', rfl⟩ := List.mem_map.mp hy
          exact stayOk_need (houseBad_stay hH.ok (List.mem_filter.mp hs').1)
        rw [show max 0 n = n by omega] at z
        exact z
end
end Cr
set_option Elab.async false
set_option linter.all false
set_option maxRecDepth 100000
set_option maxHeartbeats 4000000
/-! What a house that can be says of its numbers -/
namespace Cr
open PySem PySem.Spec PyProof.Rows L2
theorem firstNot_mem {ok : List Int → Bool} {rs : List (List Int)} (e : firstNot ok rs = none) {s : List Int} (hs : s ∈ rs) : ok s = true := by
  unfold firstNot at e
  have z := (List.findIdx?_eq_none_iff.mp e) s hs
  simpa using z
theorem houseBad_all {h : Int} {rs ds ss : List (List Int)} (e : houseBad h rs ds ss = none) :
    countBad h rs ds ss = none ∧ firstNot roomOk rs = none ∧ firstNot (doorOk rs.length) ds = none ∧ firstNot (stayOk h rs) ss = none := by
  unfold houseBad at e
  split at e
  · cases e
  rename_i e0
  refine ⟨e0, ?_⟩
  unfold partBad at e
  split at e
  · cases e
  rename_i e1
  split at e
  · cases e
  rename_i e2
  split at e
  · cases e
  rename_i e3
  exact ⟨e1, e2, e3⟩
theorem houseBad_room {h : Int} {rs ds ss : List (List Int)} (e : houseBad h rs ds ss = none) {s : List Int} (hs : s ∈ rs) : roomOk s = true := firstNot_mem (houseBad_all e).2.1 hs
theorem houseBad_door {h : Int} {rs ds ss : List (List Int)} (e : houseBad h rs ds ss = none) {s : List Int} (hs : s ∈ ds) : doorOk rs.length s = true := firstNot_mem (houseBad_all e).2.2.1 hs
theorem house_counts {h : Int} {rs ds ss : List (List Int)} (e : houseBad h rs ds ss = none) : (1 ≤ h ∧ h ≤ 12) ∧ (1 ≤ rs.length ∧ rs.length ≤ 6) ∧ ds.length ≤ 8 ∧ ss.length ≤ 20 := by
  have e0 := (houseBad_all e).1
  unfold countBad at e0
  split at e0
  · cases e0
  split at e0
  · cases e0
  split at e0
  · cases e0
  split at e0
  · cases e0
  rename_i h1 h2 h3 h4
  exact ⟨Decidable.not_not.mp h1, Decidable.not_not.mp h2, by omega, by omega⟩
theorem all_numOk {ns : List Int} (h : ns.all numOk = true) {n : Int} (hn : n ∈ ns) : 0 ≤ n ∧ n ≤ 999 := by
  have z := List.all_eq_true.mp h n hn
  unfold numOk at z
  simp at z
  exact z
theorem room_num {h : Int} {rs ds ss : List (List Int)} (e : houseBad h rs ds ss = none) (w : Wide 4 rs) {s : List Int} (hs : s ∈ rs) : ∃ a m l p, s = [a, m, l, p] ∧ (0 ≤ a ∧ a ≤ m ∧ m ≤ 999) ∧ (0 ≤ l ∧ l ≤ 999) ∧ 0 ≤ p ∧ p ≤ 999 := by
  obtain ⟨a, m, l, p, rfl⟩ := len4 (w s hs)
  have z := houseBad_room e hs
  replace z : (([a, m, l, p] : List Int).all numOk && decide (a ≤ m)) = true := z
  rw [Bool.and_eq_true] at z
  have n := fun x hx => all_numOk z.1 (n := x) hx
  exact ⟨a, m, l, p, rfl, ⟨(n a (by simp)).1, of_decide_eq_true z.2, (n m (by simp)).2⟩, n l (by simp), n p (by simp)⟩
theorem door_num {h : Int} {rs ds ss : List (List Int)} (e : houseBad h rs ds ss = none) (w : Wide 3 ds) {s : List Int} (hs : s ∈ ds) : ∃ (o t : Nat) (l : Int), s = [(o : Int), (t : Int), l] ∧ o < rs.length ∧ t < rs.length ∧ o ≠ t ∧ 0 ≤ l ∧ l ≤ 999 := by
  obtain ⟨o, t, l, rfl⟩ := len3 (w s hs)
  have z := houseBad_door e hs
  replace z : (([o, t, l] : List Int).all numOk && (!decide (o = t) && decide (max o t < (rs.length : Int)))) = true := z
  rw [Bool.and_eq_true, Bool.and_eq_true] at z
  have n := fun x hx => all_numOk z.1 (n := x) hx
  have z3 := of_decide_eq_true z.2.2
  have z2 : o ≠ t := by simpa using z.2.1
  have no := n o (by simp)
  have nt := n t (by simp)
  exact ⟨o.toNat, t.toNat, l, by rw [Int.toNat_of_nonneg no.1, Int.toNat_of_nonneg nt.1], by omega, by omega, by omega, n l (by simp)⟩
theorem stay_num {h : Int} {rs ds ss : List (List Int)} (e : houseBad h rs ds ss = none) (w : Wide 5 ss) {s : List Int} (hs : s ∈ ss) : ∃ (r b t : Nat) (u n : Int), s = [(r : Int), (b : Int), (t : Int), u, n] ∧ r < rs.length ∧ b < t ∧ (t : Int) ≤ h ∧ (0 ≤ u ∧ u ≤ 999) ∧ 0 ≤ n ∧ n ≤ mostOf rs r := by
  obtain ⟨r, b, t, u, n, rfl⟩ := len5 (w s hs)
  have z := firstNot_mem (houseBad_all e).2.2.2 hs
  replace z : (([r, b, t, u, n] : List Int).all numOk && (decide (r < (rs.length : Int)) && (decide (b < t) && decide (t ≤ h) && decide (n ≤ mostOf rs r)))) = true := z
  rw [Bool.and_eq_true, Bool.and_eq_true, Bool.and_eq_true, Bool.and_eq_true] at z
  have m := fun x hx => all_numOk z.1 (n := x) hx
  have mr := m r (by simp)
  have mb := m b (by simp)
  have mt := m t (by simp)
  have z2 := of_decide_eq_true z.2.1
  have z3 := of_decide_eq_true z.2.2.1.1
  have z4 := of_decide_eq_true z.2.2.1.2
  have z5 := of_decide_eq_true z.2.2.2
  exact ⟨r.toNat, b.toNat, t.toNat, u, n, by rw [Int.toNat_of_nonneg mr.1, Int.toNat_of_nonneg mb.1, Int.toNat_of_nonneg mt.1], by omega, by omega, by omega, m u (by simp), (m n (by simp)).1, by rw [Int.toNat_of_nonneg mr.1]; exact z5⟩
theorem room_num2 {h : Int} {rs ds ss : List (List Int)} {a m l p : Int} (e : houseBad h rs ds ss = none) (w : Wide 4 rs) (hs : [a, m, l, p] ∈ rs) : 0 ≤ p ∧ p ≤ 999 := by
  obtain ⟨a', m', l', p', e', _, _, h⟩ := room_num e w hs
  have : p = p' := by injection e' with _ e'; injection e' with _ e'; injection e' with _ e'; injection e'
  rw [this]; exact h
theorem doorOk_inv2 {n : Nat} {o t l : Int} (h : doorOk n [o, t, l] = true) : (0 ≤ o ∧ o ≤ 999) ∧ (0 ≤ t ∧ t ≤ 999) ∧ (0 ≤ l ∧ l ≤ 999) ∧ o ≠ t ∧ o < n ∧ t < n := by
  replace h : (([o, t, l] : List Int).all numOk && (!decide (o = t) && decide (max o t < (n : Int)))) = true := h
  rw [Bool.and_eq_true] at h
  obtain ⟨h1, h2⟩ := h
  have z := fun x hx => all_numOk h1 (n := x) hx
  simp at h2
  exact ⟨z o (by simp), z t (by simp), z l (by simp), h2.1, by omega, by omega⟩
end Cr
set_option Elab.async false
set_option linter.all false
set_option maxRecDepth 100000
set_option maxHeartbeats 4000000
/-! Bounds and lacks: the mathematics -/
namespace Cr
open PySem PySem.Spec PyProof.Rows L2
/-! ### the bound by prices -/
def roomPart (rs ss ps : List (List Int)) (t r : Nat) : Int :=
  pr ps r t * useOf ss r t - (rs.getD r []).getD 2 0 * max (pr ps r t - (rs.getD r []).getD 3 0) 0 + (pr ps r t - pr ps r (t + 1)) * (if pr ps r t - pr ps r (t + 1) > 0 then leastOf ss r t else (rs.getD r []).getD 1 0) - (if t = 0 then (rs.getD r []).getD 0 0 * pr ps r t else 0)
def doorPart (ds ps : List (List Int)) (t j : Nat) : Int := (ds.getD j []).getD 2 0 * (((pr ps ((ds.getD j []).getD 0 0).toNat t - pr ps ((ds.getD j []).getD 1 0).toNat t).natAbs : Nat) : Int)
def hourBound (rs ds ss ps : List (List Int)) (t : Nat) : Int := sumTo (roomPart rs ss ps t) rs.length - sumTo (doorPart ds ps t) ds.length
def boundOf (h : Nat) (rs ds ss ps : List (List Int)) : Int := sumTo (hourBound rs ds ss ps) h
theorem abs_if (n : Int) : (if n < 0 then -n else n) = ((n.natAbs : Nat) : Int) := by
  by_cases h : n < 0
  · rw [if_pos h]; omega
  · rw [if_neg h]; omega
theorem hf_nf (m : Str) (h : Int) (a b c : Addr) (h1 : ¬ m = "_stays") (h2 : ¬ m = "_doors") (h3 : ¬ m = "_rooms") (h4 : ¬ m = "hours") : (hf h a b c).lookup m = none := hf_no _ _ _ _ h1 h2 h3 h4
/-! ### what places lack -/
def inP (pls : List (List Int)) (t r : Int) : Bool := decide ([t, r] ∈ pls)
def placeDoor (ds pls : List (List Int)) (t r j : Nat) : Int :=
  (if (r : Int) = (ds.getD j []).getD 0 0 ∧ inP pls t ((ds.getD j []).getD 1 0) = false then (ds.getD j []).getD 2 0 else 0) + (if (r : Int) = (ds.getD j []).getD 1 0 ∧ inP pls t ((ds.getD j []).getD 0 0) = false then (ds.getD j []).getD 2 0 else 0)
def placePart (rs ds ss pls : List (List Int)) (t r : Nat) : Int :=
  useOf ss r t - (rs.getD r []).getD 2 0 + (if inP pls ((t : Int) + 1) r = true then 0 else leastOf ss r t) - (if t = 0 then (rs.getD r []).getD 0 0 else if inP pls ((t : Int) - 1) r = true then 0 else (rs.getD r []).getD 1 0) - sumTo (placeDoor ds pls t r) ds.length
def partAt (rs ds ss pls : List (List Int)) (p : List Int) : Int := placePart rs ds ss pls (p.getD 0 0).toNat (p.getD 1 0).toNat
def lackOf (rs ds ss pls : List (List Int)) : Int := (pls.map (partAt rs ds ss pls)).sum
def placesOk (h nr : Nat) (pls : List (List Int)) : Prop := ∀ p ∈ pls, ∃ t r : Nat, p = [(t : Int), (r : Int)] ∧ t < h ∧ r < nr
theorem inP_out {h nr : Nat} {pls : List (List Int)} (ok : placesOk h nr pls) (r : Int) : inP pls (h : Int) r = false := by
  unfold inP
  rw [decide_eq_false_iff_not]
  intro z
  obtain ⟨t, r', e, ht, _⟩ := ok _ z
  simp at e
  omega
theorem notIn_inP (pls : List (List Int)) (a b : Int) : (!((pls.map tI).any fun z => PyData.eqv z (tI [a, b]))) = !inP pls a b := by
  rw [any_tI]
  rfl
def isPl (h nr : Nat) (t r : Int) : Bool := (decide (0 ≤ t) && decide (t < (h : Int))) && (decide (0 ≤ r) && decide (r < (nr : Int)))
end Cr
set_option Elab.async false
set_option linter.all false
set_option maxRecDepth 100000
set_option maxHeartbeats 4000000
/-! Plans: the mathematics -/
namespace Cr
open PySem PySem.Spec PyProof.Rows L2
/-! ### a plan: for each hour the vents and the flows -/
abbrev Hours := List (List Int × List Int)
def HourT (K : PySem.W.Frag) (G : Hp) (v : V) (p : List Int × List Int) : Prop := ∃ t va fa, v = .ref t ∧ SqT K G t [.ref va, .ref fa] ∧ SqL K G va (p.1.map V.int) ∧ SqL K G fa (p.2.map V.int)
def PlanA (K : PySem.W.Frag) (G : Hp) (a : Addr) (pl : Hours) : Prop := ∃ xs, SqL K G a xs ∧ Paired (HourT K G) xs pl
theorem HourT.same {K : PySem.W.Frag} {G G' : Hp} {v : V} {p : List Int × List Int} (e : Same G G') (h : HourT K G v p) : HourT K G' v p := by
  obtain ⟨t, va, fa, r, h1, h2, h3⟩ := h
  exact ⟨t, va, fa, r, Same.tup e h1, e.seq h2, e.seq h3⟩
theorem hours_same {K : PySem.W.Frag} {G G' : Hp} (e : Same G G') : ∀ {xs : List V} {pl : Hours}, Paired (HourT K G) xs pl → Paired (HourT K G') xs pl
  | _, _, .nil => .nil
  | _, _, .cons h r => .cons (h.same e) (hours_same e r)
theorem PlanA.same {K : PySem.W.Frag} {G G' : Hp} {a : Addr} {pl : Hours} (e : Same G G') (h : PlanA K G a pl) : PlanA K G' a pl := let ⟨xs, h1, h2⟩ := h; ⟨xs, e.seq h1, hours_same e h2⟩
/-- .. its lists being the heap's own -/
def HourL (K : PySem.W.Frag) (G : Hp) (v : V) (p : List Int × List Int) : Prop := ∃ t va fa, v = .ref t ∧ SqT K G t [.ref va, .ref fa] ∧ G va = some (.lst (p.1.map V.int)) ∧ G fa = some (.lst (p.2.map V.int))
def PlanL (K : PySem.W.Frag) (G : Hp) (a : Addr) (pl : Hours) : Prop := ∃ xs, G a = some (.lst xs) ∧ Paired (HourL K G) xs pl
theorem HourL.same {K : PySem.W.Frag} {G G' : Hp} {v : V} {p : List Int × List Int} (e : Same G G') (h : HourL K G v p) : HourL K G' v p := by
  obtain ⟨t, va, fa, r, h1, h2, h3⟩ := h
  exact ⟨t, va, fa, r, Same.tup e h1, e _ _ h2, e _ _ h3⟩
theorem HourL.toT {K : PySem.W.Frag} {G : Hp} {v : V} {p : List Int × List Int} (h : HourL K G v p) : HourT K G v p := by
  obtain ⟨t, va, fa, r, h1, h2, h3⟩ := h
  exact ⟨t, va, fa, r, h1, SqL.of h2, SqL.of h3⟩
theorem hoursL_same {K : PySem.W.Frag} {G G' : Hp} (e : Same G G') : ∀ {xs : List V} {pl : Hours}, Paired (HourL K G) xs pl → Paired (HourL K G') xs pl
  | _, _, .nil => .nil
  | _, _, .cons h r => .cons (h.same e) (hoursL_same e r)
theorem hoursL_toT {K : PySem.W.Frag} {G : Hp} : ∀ {xs : List V} {pl : Hours}, Paired (HourL K G) xs pl → Paired (HourT K G) xs pl
  | _, _, .nil => .nil
  | _, _, .cons h r => .cons h.toT (hoursL_toT r)
theorem PlanL.same {K : PySem.W.Frag} {G G' : Hp} {a : Addr} {pl : Hours} (e : Same G G') (h : PlanL K G a pl) : PlanL K G' a pl := let ⟨xs, h1, h2⟩ := h; ⟨xs, e _ _ h1, hoursL_same e h2⟩
theorem PlanL.toA {K : PySem.W.Frag} {G : Hp} {a : Addr} {pl : Hours} (h : PlanL K G a pl) : PlanA K G a pl := let ⟨xs, h1, h2⟩ := h; ⟨xs, SqL.of h1, hoursL_toT h2⟩
/-- the plan is of the house's counts -/
def fits (h : Int) (nr nd : Nat) (pl : Hours) : Prop := (pl.length : Int) = h ∧ ∀ p ∈ pl, p.1.length = nr ∧ p.2.length = nd
/-- no count is greater than a house's by much -/
def slim (pl : Hours) : Prop := pl.length < 32 ∧ ∀ p ∈ pl, p.1.length < 32 ∧ p.2.length < 32
/-! ### the limits of an hour -/
def ventOk (p : List Int × Int) : Bool := decide (0 ≤ p.2) && decide (p.2 ≤ p.1.getD 2 0)
def flowOk (p : List Int × Int) : Bool := decide (-(p.1.getD 2 0) ≤ p.2) && decide (p.2 ≤ p.1.getD 2 0)
def limitsOk (rs ds : List (List Int)) (p : List Int × List Int) : Bool := (rs.zip p.1).all ventOk && (ds.zip p.2).all flowOk
theorem all_step {α : Type} {f : α → Bool} {l : List α} {i : Nat} {a : α} (e : l[i]? = some a) : (l.take (i + 1)).all f = ((l.take i).all f && f a) := by
  rw [List.take_add_one, e, List.all_append]
  simp
theorem all_not {α : Type} {f : α → Bool} {l : List α} {i : Nat} {a : α} (e : l[i]? = some a) (h : f a = false) : l.all f = false := by
  rw [List.all_eq_false]
  exact ⟨a, List.mem_of_getElem? e, by rw [h]; exact Bool.false_ne_true⟩
theorem zip_at {α β : Type} {l : List α} {m : List β} {i : Nat} {a : α} {b : β} (h1 : l[i]? = some a) (h2 : m[i]? = some b) : (l.zip m)[i]? = some (a, b) := by
  rw [List.getElem?_zip_eq_some]
  exact ⟨h1, h2⟩
theorem ints_at {ns : List Int} {i : Nat} {y : V} (h : (ns.map V.int)[i]? = some y) : ∃ n, ns[i]? = some n ∧ y = .int n := by
  rw [List.getElem?_map] at h
  obtain ⟨n, h1, h2⟩ := Option.map_eq_some_iff.mp h
  exact ⟨n, h1, h2.symm⟩
def pricesOf (rs : List (List Int)) : List Int := rs.map fun r => r.getD 3 0
def costList (rs : List (List Int)) (pl : Hours) : List Int := (pl.map fun p => (p.1.zip (pricesOf rs)).map fun q => q.1 * q.2).flatten
def costOf (rs : List (List Int)) (pl : Hours) : Int := (costList rs pl).sum
theorem cost_step {rs : List (List Int)} {pl : Hours} {i : Nat} {p : List Int × List Int} (e : pl[i]? = some p) : costList rs (pl.take (i + 1)) = costList rs (pl.take i) ++ (p.1.zip (pricesOf rs)).map fun q => q.1 * q.2 := by
  unfold costList
  rw [List.take_add_one, e]
  simp
theorem cost_len {rs : List (List Int)} : ∀ {pl : Hours}, (∀ p ∈ pl, p.1.length < 32) → (costList rs pl).length ≤ 31 * pl.length
  | [], _ => Nat.le_refl _
  | p :: r, h => by
    have h1 := cost_len (rs := rs) (pl := r) fun q hq => h q (List.mem_cons_of_mem _ hq)
    have h2 := h p List.mem_cons_self
    unfold costList at h1 ⊢
    rw [List.map_cons, List.flatten_cons, List.length_append, List.length_map, List.length_zip, List.length_cons]
    omega
theorem prices_ok {h : Int} {rs ds ss : List (List Int)} (e : houseBad h rs ds ss = none) (w : Wide 4 rs) {n : Int} (hn : n ∈ pricesOf rs) : 0 ≤ n ∧ n ≤ 999 := by
  obtain ⟨r, hr, rfl⟩ := List.mem_map.mp hn
  obtain ⟨c1, c2, c3, c4, rfl⟩ := len4 (w r hr)
  exact (room_num2 e w hr)
/-! ### the air behind an hour -/
def leftOf (ss : List (List Int)) (t : Int) (held v : List Int) : List Int := (held.zip v).zipIdx.map fun q => q.1.1 + q.1.2 - useOf ss (q.2 : Int) t
def pushAir (left : List Int) (q : List Int × Int) : List Int :=
  ((left.set (q.1.getD 0 0).toNat (left.getD (q.1.getD 0 0).toNat 0 - q.2)).set (q.1.getD 1 0).toNat ((left.set (q.1.getD 0 0).toNat (left.getD (q.1.getD 0 0).toNat 0 - q.2)).getD (q.1.getD 1 0).toNat 0 + q.2))
def airStep (ds ss : List (List Int)) (t : Int) (held v f : List Int) : List Int := (ds.zip f).foldl pushAir (leftOf ss t held v)
theorem push_len (left : List Int) (q : List Int × Int) : (pushAir left q).length = left.length := by
  unfold pushAir
  rw [List.length_set, List.length_set]
theorem air_len (ds ss : List (List Int)) (t : Int) (held v f : List Int) (h : held.length = v.length) : (airStep ds ss t held v f).length = held.length := by
  unfold airStep
  have key : ∀ (l : List (List Int × Int)) (left : List Int), (l.foldl pushAir left).length = left.length := by
    intro l
    induction l with
    | nil => intro left; rfl
    | cons q l ih => intro left; rw [List.foldl_cons, ih, push_len]
  rw [key]
  unfold leftOf
  rw [List.length_map, List.length_zipIdx, List.length_zip]
  omega
/-- the airs of the hours: the list, and what is held behind the last -/
def airsFrom (ds ss : List (List Int)) : Nat → List Int → Hours → List (List Int)
  | _, _, [] => []
  | t, held, p :: r => airStep ds ss (t : Int) held p.1 p.2 :: airsFrom ds ss (t + 1) (airStep ds ss (t : Int) held p.1 p.2) r
def airsOf (rs ds ss : List (List Int)) (pl : Hours) : List (List Int) := airsFrom ds ss 0 (rs.map fun r => r.getD 0 0) pl
theorem airs_step (ds ss : List (List Int)) : ∀ (pl : Hours) (t : Nat) (held : List Int) (p : List Int × List Int), airsFrom ds ss t held (pl ++ [p]) = airsFrom ds ss t held pl ++ [airStep ds ss ((t + pl.length : Nat) : Int) ((airsFrom ds ss t held pl).getLast?.getD held) p.1 p.2]
  | [], t, held, p => rfl
  | p0 :: r, t, held, p => by
    have ih := airs_step ds ss r (t + 1) (airStep ds ss (t : Int) held p0.1 p0.2) p
    show airStep ds ss (t : Int) held p0.1 p0.2 :: airsFrom ds ss (t + 1) (airStep ds ss (t : Int) held p0.1 p0.2) (r ++ [p]) = _
    rw [ih]
    have e : (airsFrom ds ss t held (p0 :: r)).getLast?.getD held = (airsFrom ds ss (t + 1) (airStep ds ss (t : Int) held p0.1 p0.2) r).getLast?.getD (airStep ds ss (t : Int) held p0.1 p0.2) := by
      show (airStep ds ss (t : Int) held p0.1 p0.2 :: airsFrom ds ss (t + 1) (airStep ds ss (t : Int) held p0.1 p0.2) r).getLast?.getD held = _
      rw [List.getLast?_cons]
      rfl
    have e2 : (t + 1 + r.length : Nat) = t + (p0 :: r).length := by rw [List.length_cons]; omega
    rw [e, e2]
    rfl
theorem airs_len (ds ss : List (List Int)) : ∀ (pl : Hours) (t : Nat) (held : List Int), (airsFrom ds ss t held pl).length = pl.length
  | [], _, _ => rfl
  | p :: r, t, held => congrArg (· + 1) (airs_len ds ss r (t + 1) _)
/-! ### where a plan fails first -/
def roomGood (rs ss : List (List Int)) (t : Int) (air : List Int) (k : Nat) : Bool := decide (leastOf ss (k : Int) t ≤ air.getD k 0) && decide (air.getD k 0 ≤ (rs.getD k []).getD 1 0)
def roomBad (rs ss : List (List Int)) (t : Int) (air : List Int) (k : Nat) : Option Int := if roomGood rs ss t air k = true then none else some (k : Int)
def hourBad (rs ds ss : List (List Int)) (airs : List (List Int)) (pl : Hours) (t : Nat) : Option Int := if limitsOk rs ds (pl.getD t ([], [])) = true then (List.range rs.length).findSome? (roomBad rs ss (t : Int) (airs.getD t [])) else some (-1)
def faultOf (rs ds ss : List (List Int)) (pl : Hours) : Option (Int × Int) := (List.range pl.length).findSome? fun t => (hourBad rs ds ss (airsOf rs ds ss pl) pl t).map fun k => ((t : Int), k)
theorem some_step {α : Type} {f : Nat → Option α} {i : Nat} (h : (List.range i).findSome? f = none) (hi : f i = none) : (List.range (i + 1)).findSome? f = none := by
  rw [List.range_succ, List.findSome?_append, h]
  show ([i].findSome? f) = none
  rw [List.findSome?_cons, hi]
  rfl
theorem some_early {α : Type} {f : Nat → Option α} {i : Nat} {z : α} (h : (List.range i).findSome? f = none) (hi : f i = some z) : ∀ n, i < n → (List.range n).findSome? f = some z
  | 0, hn => absurd hn (Nat.not_lt_zero _)
  | n + 1, hn => by
    rw [List.range_succ, List.findSome?_append]
    by_cases e : i = n
    · subst e
      rw [h]
      show ([i].findSome? f) = some z
      rw [List.findSome?_cons, hi]
    · rw [some_early h hi n (by omega)]
      rfl
theorem airs_wide (ds ss : List (List Int)) : ∀ (pl : Hours) (t : Nat) (held : List Int), (∀ p ∈ pl, p.1.length = held.length) → ∀ a ∈ airsFrom ds ss t held pl, a.length = held.length
  | [], _, _, _, _, h => nomatch h
  | p :: r, t, held, hp, a, ha => by
    have h1 := air_len ds ss (t : Int) held p.1 p.2 (hp p List.mem_cons_self).symm
    rcases List.mem_cons.mp ha with e | ha
    · rw [e]; exact h1
    · rw [← h1]
      exact airs_wide ds ss r (t + 1) _ (fun q hq => by rw [h1]; exact hp q (List.mem_cons_of_mem _ hq)) a ha
theorem left_at {ss : List (List Int)} {t : Int} {held v : List Int} {k : Nat} {a n : Int} (h1 : held[k]? = some a) (h2 : v[k]? = some n) : (leftOf ss t held v)[k]? = some (a + n - useOf ss (k : Int) t) := by
  unfold leftOf
  rw [List.getElem?_map, List.getElem?_zipIdx, zip_at h1 h2]
  simp
theorem left_len (ss : List (List Int)) (t : Int) {held v : List Int} (h : held.length = v.length) : (leftOf ss t held v).length = held.length := by
  unfold leftOf
  rw [List.length_map, List.length_zipIdx, List.length_zip]
  omega
theorem fold_step {α β : Type} {f : β → α → β} {l : List α} {i : Nat} {a : α} (b : β) (e : l[i]? = some a) : (l.take (i + 1)).foldl f b = f ((l.take i).foldl f b) a := by
  rw [List.take_add_one, e, List.foldl_append]
  rfl
theorem fold_len : ∀ (l : List (List Int × Int)) (left : List Int), (l.foldl pushAir left).length = left.length
  | [], _ => rfl
  | q :: l, left => by rw [List.foldl_cons, fold_len l, push_len]
theorem ints_get {ns : List Int} {k : Nat} (hk : k < ns.length) : atI (ns.map V.int) (k : Int) = some (.int (ns.getD k 0)) := atI_nat (by
  rw [List.getElem?_map, List.getElem?_eq_getElem hk, List.getD_eq_getElem?_getD, List.getElem?_eq_getElem hk]
  rfl)
theorem ixN_nat {n k : Nat} (h : k < n) : ixN n (k : Int) = some k := by
  unfold ixN
  rw [if_pos (by omega), if_pos (by omega)]
  congr 1
end Cr
set_option Elab.async false
set_option linter.all false
set_option maxRecDepth 100000
set_option maxHeartbeats 4000000

namespace Cr
open PySem PySem.Spec PyProof.Rows L2
abbrev scheck_plan : Stmt := top 11
abbrev ncheck_plan : List Str := ["house", "plan", "rooms", "doors", "hour", "vents", "flows"]
abbrev acheck_plan : List Str := ["house", "plan"]
theorem sccheck_plan : FnScope ncheck_plan acheck_plan (defScope scheck_plan) := ⟨rfl, rfl, rfl, by decide +kernel, rfl, by decide +kernel, by decide +kernel⟩
section
variable {P : Program} {w : World} {K : PySem.W.Frag} {mg : Str → Option Value} {base : Heap} {ad : Ad} {cBP : Addr} {Ps : List Addr} {H : Hp}
structure RawPl (K : PySem.W.Frag) (mg : Str → Option Value) (base : Heap) (ad : Ad) (cBP : Addr) : Prop extends RawP K mg base ad where
  chk : DefR K mg "check_plan" scheck_plan acheck_plan
  bpQ : PySem.W.excIn K cBP [.type "ValueError", .type "Exception", .type "BaseException", .type "object"] "ValueError.__new__" = true
  bpM : mg "BadPlan" = some (.ref cBP)
  bpK : PySem.W.keepIn K (.ref cBP) = true
  bpS : PySem.W.subIn K (.ref cBP) (.type "BaseException") = some true
  bpT : PySem.W.typeIn K (.ref cBP) = some (.type "type")
def spCheck (ad : Ad) (K : PySem.W.Frag) (Ps : List Addr) (cBP : Addr) : Sp := fun vs H Q E =>
  ∃ (G : Hp) (x pa : Addr) (h : Int) (rs ds ss : List (List Int)) (pl : Hours), vs = [.ref x, .ref pa] ∧ Wd Ps G H ∧ Tabs Ps H ∧ HouseAt ad K G x h rs ds ss ∧ PlanA K G pa pl ∧ slim pl ∧ 0 ≤ h ∧ h < 32 ∧
    (fits h rs.length ds.length pl → ∀ H', Gr Ps G H G H' → Tabs Ps H' → Q .non H') ∧ (¬ fits h rs.length ds.length pl → ∀ H', Gr Ps G H G H' → Tabs Ps H' → E (.ref cBP) none H')
theorem c_check (T : RawPl K mg base ad cBP) : CalX P w K mg base 2 "check_plan" (spCheck ad K Ps cBP) := by
  refine T.chk.calX sccheck_plan (fun vs H Q E h => ?_) (fun f cdv A outer s H vs Q E hr h => ?_)
  · obtain ⟨G, x, pa, h, rs, ds, ss, pl, rfl, _⟩ := h
    rfl
  · obtain ⟨G, x, pa, h, rs, ds, ss, pl, rfl, wd, tbs, hH, ⟨xs, hxs, hpl⟩, hsl, h0, h32, q, qx⟩ := h
    have b_len := T.b_len
    have b_enumerate := T.b_enumerate
    have q_BadPlan := T.bpQ
    have m_BadPlan := T.bpM
    have kp_BadPlan := T.bpK
    have xs_BadPlan := T.bpS
    have xt_BadPlan := T.bpT
    have k_House_rooms : C8.Met P w K mg base 1 ad.cH "rooms" (spNewRows ad K Ps fun _ rs _ _ => rs) [] := c_rooms T.toRawP
    have k_House_doors : C8.Met P w K mg base 1 ad.cH "doors" (spNewRows ad K Ps fun _ _ ds _ => ds) [] := c_doors T.toRawP
    obtain ⟨dx, ra, da, sa, hx, hRa, hDa, hSa⟩ := hH.ob
    refine ⟨_, (pss_cons (ps_if (pt_cmpR op_ne (pe_callB call_len_seq (by rfl) b_len (by decide +kernel) (pa_cons (pv 1) pa_nil)) (pe_fld (pv 0) rfl) (nomark _))
        (pss_one (ps_raise rfl (takes_of rfl rfl rfl rfl) (SkE.pmk_own1 PySem.F.excBase_ValueError q_BadPlan m_BadPlan kp_BadPlan (raises_own xs_BadPlan xt_BadPlan) rfl (pe_joined (PJ.cons pe_str (PJ.cons (pe_fmt (pe_callB call_len_seq (by rfl) b_len (by decide +kernel) (pa_cons (pv 1) pa_nil))) (PJ.cons pe_str (PJ.cons (pe_fmt (pe_fld (pv 0) rfl)) PJ.nil))))))))
        pss_nil)
      (pss_cons (ps_set (i := 2) sccheck_plan.nd rfl (Or.inl rfl) (pe_callB call_len_seq (by rfl) b_len (by decide +kernel) (pa_cons (C8.pe_mt0 k_House_rooms hr (by decide) (pv 0)) pa_nil)))
      (pss_cons (ps_set (i := 3) sccheck_plan.nd rfl (Or.inl rfl) (pe_callB call_len_seq (by rfl) b_len (by decide +kernel) (pa_cons (C8.pe_mt0 k_House_doors hr (by decide) (pv 0)) pa_nil)))
      (pss_one (ps_for (passes_of rfl) rfl (pi_enum (by rfl) b_enumerate (pa_cons (pv 1) pa_nil)) (pg_tup rfl (pgs_cons (pg_name (i := 4) sccheck_plan.nd rfl (Or.inl rfl)) (pgs_cons (pg_tup rfl (pgs_cons (pg_name (i := 5) sccheck_plan.nd rfl (Or.inl rfl)) (pgs_cons (pg_name (i := 6) sccheck_plan.nd rfl (Or.inl rfl)) pgs_nil))) pgs_nil)))
        (pss_cons (ps_if (pt_cmpR op_ne (pe_callB call_len_seq (by rfl) b_len (by decide +kernel) (pa_cons (pv 5) pa_nil)) (pv 2) (nomark _))
        (pss_one (ps_raise rfl (takes_of rfl rfl rfl rfl) (SkE.pmk_own1 PySem.F.excBase_ValueError q_BadPlan m_BadPlan kp_BadPlan (raises_own xs_BadPlan xt_BadPlan) rfl (pe_joined (PJ.cons (pe_fmt (pe_callB call_len_seq (by rfl) b_len (by decide +kernel) (pa_cons (pv 5) pa_nil))) (PJ.cons pe_str (PJ.cons (pe_fmt (pv 2)) (PJ.cons pe_str (PJ.cons (pe_fmt (pv 4)) PJ.nil)))))))))
        pss_nil)
      (pss_one (ps_if (pt_cmpR op_ne (pe_callB call_len_seq (by rfl) b_len (by decide +kernel) (pa_cons (pv 6) pa_nil)) (pv 3) (nomark _))
        (pss_one (ps_raise rfl (takes_of rfl rfl rfl rfl) (SkE.pmk_own1 PySem.F.excBase_ValueError q_BadPlan m_BadPlan kp_BadPlan (raises_own xs_BadPlan xt_BadPlan) rfl (pe_joined (PJ.cons (pe_fmt (pe_callB call_len_seq (by rfl) b_len (by decide +kernel) (pa_cons (pv 6) pa_nil))) (PJ.cons pe_str (PJ.cons (pe_fmt (pv 3)) (PJ.cons pe_str (PJ.cons (pe_fmt (pv 4)) PJ.nil)))))))))
        pss_nil)))))))), ?_⟩
    have ez : ∀ n : Nat, n ≤ 100 → n ≤ sizeLine := fun n h => by rw [sizeLine_eq]; omega
    have l1 : (Str.empty ++ ("a plan of " : Str)).length = 10 := by decide +kernel
    have l2 : ((" hours for a house of " : Str)).length = 22 := by decide +kernel
    have l3 : (Str.empty : Str).length = 0 := by decide +kernel
    have l4 : ((" vents for " : Str)).length = 11 := by decide +kernel
    have l5 : ((" rooms in hour " : Str)).length = 15 := by decide +kernel
    have l6 : ((" flows for " : Str)).length = 11 := by decide +kernel
    have l7 : ((" doors in hour " : Str)).length = 15 := by decide +kernel
    have hlen : xs.length = pl.length := Paired.length hpl
    obtain ⟨nh, rfl⟩ : ∃ nh : Nat, h = (nh : Int) := ⟨h.toNat, by omega⟩
    have zh := small_num nh (by omega)
    have zp := small_num xs.length (by rw [hlen]; exact hsl.1)
    have hxH := wd.same _ _ hx
    refine ⟨_, rfl, pa, xs, rfl, .inl (wd.same.seq hxs), _, rfl, x, ad.cH, dx, _, _, rfl, hxH, T.hcl, T.hnh, hf_h _ _ _ _, rfl, _, rfl, ?_⟩
    refine ite2 (fun hne => ?_) (fun hne => ?_)
    · have nf : ¬ fits nh rs.length ds.length pl := fun z => by
        rw [hlen, z.1] at hne
        simp at hne
      refine ⟨_, rfl, ez _ (by omega), _, rfl, pa, xs, rfl, .inl (wd.same.seq hxs), .inr ⟨_, rfl, small_log _ (by rw [hlen]; exact hsl.1), _, rfl, ez _ (by rw [len_app]; omega), _, rfl, ez _ (by rw [len_app, len_app]; omega), _, rfl, x, ad.cH, dx, _, _, rfl, hxH, T.hcl, T.hnh, hf_h _ _ _ _, .inr ⟨_, rfl, small_log _ (by omega), _, rfl, ez _ (by rw [len_app, len_app, len_app]; omega), ?_⟩⟩⟩
      exact qx nf H (Gr.refl wd) tbs
    have hl : (pl.length : Int) = nh := by
      rw [hlen] at hne
      simpa using hne
    -- the counts
    have nfN : ∀ m : Str, ¬ m = "_stays" → ¬ m = "_doors" → ¬ m = "_rooms" → ¬ m = "hours" → (hf nh ra da sa).lookup m = none := fun m h1 h2 h3 h4 => hf_no _ _ _ _ h1 h2 h3 h4
    refine ⟨_, rfl, x, dx, _, rfl, hxH, nfN _ (by decide +kernel) (by decide +kernel) (by decide +kernel) (by decide +kernel), ?_⟩
    refine ⟨G, x, nh, rs, ds, ss, rfl, wd, tbs, hH, fun p1 y1 H1 hp1 g1 e1 rv1 t1 => ⟨p1, y1, rfl, .inl (SqL.of e1), ?_⟩⟩
    refine ⟨_, rfl, x, dx, _, rfl, g1.wd.same _ _ hx, nfN _ (by decide +kernel) (by decide +kernel) (by decide +kernel) (by decide +kernel), ?_⟩
    refine ⟨G, x, nh, rs, ds, ss, rfl, g1.wd, t1, hH, fun p2 y2 H2 hp2 g2 e2 rv2 t2 => ⟨p2, y2, rfl, .inl (SqL.of e2), ?_⟩⟩
    have k1 : y1.length = rs.length := Paired.length rv1
    have k2 : y2.length = ds.length := Paired.length rv2
    have gg := g1.trans g2
    have lens := houseBad_lens hH.ok
    refine ⟨_, rfl, pa, xs, rfl, gg.wd.same.seq hxs, for_enum (K := K) (a := pa) (xs := xs) (fun i σ H' => ∃ (o4 o5 o6 : Option V), σ = [some (.ref x), some (.ref pa), some (.int (y1.length : Int)), some (.int (y2.length : Int)), o4, o5, o6] ∧ Gr Ps G H G H' ∧ Tabs Ps H' ∧ ∀ p ∈ pl.take i, p.1.length = rs.length ∧ p.2.length = ds.length) ⟨_, _, _, rfl, gg, t2, by simp⟩ (fun i σ H' _ ⟨_, _, _, _, g, _⟩ => g.wd.same.seq hxs) ?_ ?_⟩
    · rintro i v σ H' T' hv ⟨o4, o5, o6, rfl, g, tb, hok⟩ hT'
      obtain ⟨p, ep, ty, va, fa, rfl, hty, hva, hfa⟩ := paired_get hpl hv
      have hpm := List.mem_of_getElem? ep
      have hsp := hsl.2 p hpm
      have sN := same_new (o := .tup [.int (i : Nat), .ref ty]) hT'
      have sG : Same G (upd H' T' (.tup [.int (i : Nat), .ref ty])) := g.wd.same.trans sN
      have gN := g.trans (Gr.new (o := .tup [.int (i : Nat), .ref ty]) g.wd hT')
      have tN := tb.same sN
      have hi : i < pl.length := (List.getElem?_eq_some_iff.mp ep).1
      have zi := small_num i (by have := hsl.1; omega)
      have zi2 := small_log i (by have := hsl.1; omega)
      refine ⟨T', _, rfl, SqT.of upd_same, rfl, _, _, rfl, _, _, rfl, ty, _, rfl, Same.tup sG hty, rfl, _, _, rfl, _, _, rfl, rfl, rfl, ?_⟩
      have hvS : SqL K (upd H' T' (.tup [.int (i : Nat), .ref ty])) va (p.1.map V.int) := sG.seq hva
      have hfS : SqL K (upd H' T' (.tup [.int (i : Nat), .ref ty])) fa (p.2.map V.int) := sG.seq hfa
      have lv : (p.1.map V.int).length = p.1.length := List.length_map _
      have lf : (p.2.map V.int).length = p.2.length := List.length_map _
      have out : ¬ (p.1.length = rs.length ∧ p.2.length = ds.length) → E (.ref cBP) none (upd H' T' (.tup [.int (i : Nat), .ref ty])) := fun z => qx (fun f => z (f.2 p hpm)) _ gN tN
      have zr := small_num y1.length (by rw [k1]; exact lens.1)
      have zd := small_num y2.length (by rw [k2]; exact lens.2.1)
      have zv := small_num (p.1.map V.int).length (by rw [lv]; exact hsp.1)
      have zf := small_num (p.2.map V.int).length (by rw [lf]; exact hsp.2)
      refine ⟨_, rfl, va, _, rfl, .inl hvS, _, rfl, rfl, _, rfl, ?_⟩
      refine ite2 (fun hne => ?_) (fun hne => ?_)
      · refine ⟨_, rfl, va, _, rfl, .inl hvS, .inr ⟨_, rfl, small_log _ (by rw [lv]; exact hsp.1), _, rfl, ez _ (by rw [len_app, l3]; omega), _, rfl, ez _ (by rw [len_app, len_app, l3, l4]; omega), _, rfl, .inr ⟨_, rfl, small_log _ (by rw [k1]; exact lens.1), _, rfl, ez _ (by rw [len_app, len_app, len_app, l3, l4]; omega), _, rfl, ez _ (by rw [len_app, len_app, len_app, len_app, l3, l4, l5]; omega), _, rfl, .inr ⟨_, rfl, zi2, _, rfl, ez _ (by rw [len_app, len_app, len_app, len_app, len_app, l3, l4, l5]; omega), ?_⟩⟩⟩⟩
        refine out fun z => ?_
        rw [lv, k1, z.1] at hne
        simp at hne
      have hv1 : p.1.length = rs.length := by
        rw [lv, k1] at hne
        simp at hne
        omega
      refine ⟨_, rfl, fa, _, rfl, .inl hfS, _, rfl, rfl, _, rfl, ?_⟩
      refine ite2 (fun hne => ?_) (fun hne => ?_)
      · refine ⟨_, rfl, fa, _, rfl, .inl hfS, .inr ⟨_, rfl, small_log _ (by rw [lf]; exact hsp.2), _, rfl, ez _ (by rw [len_app, l3]; omega), _, rfl, ez _ (by rw [len_app, len_app, l3, l6]; omega), _, rfl, .inr ⟨_, rfl, small_log _ (by rw [k2]; exact lens.2.1), _, rfl, ez _ (by rw [len_app, len_app, len_app, l3, l6]; omega), _, rfl, ez _ (by rw [len_app, len_app, len_app, len_app, l3, l6, l7]; omega), _, rfl, .inr ⟨_, rfl, zi2, _, rfl, ez _ (by rw [len_app, len_app, len_app, len_app, len_app, l3, l6, l7]; omega), ?_⟩⟩⟩⟩
        refine out fun z => ?_
        rw [lf, k2, z.2] at hne
        simp at hne
      have hf1 : p.2.length = ds.length := by
        rw [lf, k2] at hne
        simp at hne
        omega
      refine ⟨_, _, _, rfl, gN, tN, fun p' hp' => ?_⟩
      rw [List.take_add_one, ep] at hp'
      rcases List.mem_append.mp hp' with z | z
      · exact hok p' z
      · simp at z; rw [z]; exact ⟨hv1, hf1⟩
    · rintro σ H' ⟨o4, o5, o6, rfl, g, tb, hok⟩
      rw [List.take_of_length_le (by omega)] at hok
      exact q ⟨hl, hok⟩ H' g tb
end
end Cr
set_option Elab.async false
set_option linter.all false
set_option maxRecDepth 100000
set_option maxHeartbeats 4000000

namespace Cr
open PySem PySem.Spec PyProof.Rows L2
abbrev slimits_kept : Stmt := top 13
abbrev nlimits_kept : List Str := ["house", "vents", "flows", "_", "limit", "vent", "flow"]
abbrev alimits_kept : List Str := ["house", "vents", "flows"]
theorem sclimits_kept : FnScope nlimits_kept alimits_kept (defScope slimits_kept) := ⟨rfl, rfl, rfl, by decide +kernel, rfl, by decide +kernel, by decide +kernel⟩
section
variable {P : Program} {w : World} {K : PySem.W.Frag} {mg : Str → Option Value} {base : Heap} {ad : Ad} {cBP : Addr} {Ps : List Addr} {H : Hp}
structure RawLk (K : PySem.W.Frag) (mg : Str → Option Value) (base : Heap) (ad : Ad) (cBP : Addr) : Prop extends RawPl K mg base ad cBP where
  lk : DefR K mg "limits_kept" slimits_kept alimits_kept
  b_zip : mg "zip" = none
def spLim (ad : Ad) (K : PySem.W.Frag) (Ps : List Addr) : Sp := fun vs H Q _ =>
  ∃ (G : Hp) (x va fa : Addr) (h : Int) (rs ds ss : List (List Int)) (v f : List Int), vs = [.ref x, .ref va, .ref fa] ∧ Wd Ps G H ∧ Tabs Ps H ∧ HouseAt ad K G x h rs ds ss ∧ SqL K G va (v.map V.int) ∧ SqL K G fa (f.map V.int) ∧ v.length = rs.length ∧ f.length = ds.length ∧
    ∀ H', Gr Ps G H G H' → Tabs Ps H' → Q (.bl (limitsOk rs ds (v, f))) H'
theorem c_lim (T : RawLk K mg base ad cBP) : C8.Cal P w K mg base 2 "limits_kept" (spLim ad K Ps) [] := by
  refine T.lk.cal sclimits_kept (fun vs H Q E h => ?_) (fun fn cdv A outer s H vs Q E hr h => ?_)
  · obtain ⟨G, x, va, fa, h, rs, ds, ss, v, f, rfl, _⟩ := h
    rfl
  · obtain ⟨G, x, va, fa, h, rs, ds, ss, v, f, rfl, wd, tbs, hH, hva, hfa, lv, lf, q⟩ := h
    have b_zip := T.b_zip
    have k_House_rooms : C8.Met P w K mg base 1 ad.cH "rooms" (spNewRows ad K Ps fun _ rs _ _ => rs) [] := c_rooms T.toRawP
    have k_House_doors : C8.Met P w K mg base 1 ad.cH "doors" (spNewRows ad K Ps fun _ _ ds _ => ds) [] := c_doors T.toRawP
    obtain ⟨dx, ra, da, sa, hx, hRa, hDa, hSa⟩ := hH.ob
    have w4 := hH.w4
    have w3 := hH.w3
    refine ⟨_, (pss_cons (ps_for PassesOwn.never rfl (pi_zip (by rfl) b_zip (pa_cons (C8.pe_mt0 k_House_rooms hr (by decide) (pv 0)) (pa_cons (pv 1) pa_nil))) (pg_tup rfl (pgs_cons (pg_tup rfl (pgs_cons (pg_name (i := 3) sclimits_kept.nd rfl (Or.inl rfl)) (pgs_cons (pg_name (i := 3) sclimits_kept.nd rfl (Or.inl rfl)) (pgs_cons (pg_name (i := 4) sclimits_kept.nd rfl (Or.inl rfl)) (pgs_cons (pg_name (i := 3) sclimits_kept.nd rfl (Or.inl rfl)) pgs_nil))))) (pgs_cons (pg_name (i := 5) sclimits_kept.nd rfl (Or.inl rfl)) pgs_nil)))
        (pss_one (ps_if (pt_not (pt_chain op_le op_le pe_int (pv 5) (pv 4)))
        (pss_one (ps_ret pe_bl))
        pss_nil)))
      (pss_cons (ps_for PassesOwn.never rfl (pi_zip (by rfl) b_zip (pa_cons (C8.pe_mt0 k_House_doors hr (by decide) (pv 0)) (pa_cons (pv 2) pa_nil))) (pg_tup rfl (pgs_cons (pg_tup rfl (pgs_cons (pg_name (i := 3) sclimits_kept.nd rfl (Or.inl rfl)) (pgs_cons (pg_name (i := 3) sclimits_kept.nd rfl (Or.inl rfl)) (pgs_cons (pg_name (i := 4) sclimits_kept.nd rfl (Or.inl rfl)) pgs_nil)))) (pgs_cons (pg_name (i := 6) sclimits_kept.nd rfl (Or.inl rfl)) pgs_nil)))
        (pss_one (ps_if (pt_not (pt_chain op_le op_le (pe_un un_neg (pv 4)) (pv 6) (pv 4)))
        (pss_one (ps_ret pe_bl))
        pss_nil)))
      (pss_one (ps_ret pe_bl)))), ?_⟩
    have hxH := wd.same _ _ hx
    have nfN : ∀ m : Str, ¬ m = "_stays" → ¬ m = "_doors" → ¬ m = "_rooms" → ¬ m = "hours" → (hf h ra da sa).lookup m = none := fun m h1 h2 h3 h4 => hf_no _ _ _ _ h1 h2 h3 h4
    refine ⟨_, rfl, x, dx, _, rfl, hxH, nfN _ (by decide +kernel) (by decide +kernel) (by decide +kernel) (by decide +kernel), ?_⟩
    refine ⟨G, x, h, rs, ds, ss, rfl, wd, tbs, hH, fun p1 y1 H1 hp1 g1 e1 rv1 t1 => ?_⟩
    have l1 : y1.length = rs.length := Paired.length rv1
    have p1P : p1 ∉ Ps := tbs.nin hp1
    refine ⟨_, rfl, p1, va, y1, v.map V.int, rfl, SqL.of e1, g1.wd.same.seq hva, RZ.for_zipL (K := K) (a := p1) (b := va) (xs := y1) (ys := v.map V.int) (by rw [List.length_map]; omega) (fun i σ H' => ∃ (o3 o4 o5 o6 : Option V), σ = [some (.ref x), some (.ref va), some (.ref fa), o3, o4, o5, o6] ∧ Gr Ps G H1 G H' ∧ Tabs Ps H' ∧ ((rs.zip v).take i).all ventOk = true) ⟨_, _, _, _, rfl, Gr.refl g1.wd, t1, rfl⟩ (fun i σ H' ⟨_, _, _, _, _, g, _⟩ => ⟨SqL.of (g.keep _ _ p1P e1), g.wd.same.seq hva⟩) ?_ ?_⟩
    · rintro i a b T' σ H' ha hb ⟨o3, o4, o5, o6, rfl, g, tb, hok⟩ hT'
      obtain ⟨z, ez, ty, rfl, hty⟩ := paired_get rv1 ha
      obtain ⟨n, en, rfl⟩ := ints_at hb
      obtain ⟨c1, c2, lim, c4, rfl⟩ := len4 (w4 z (List.mem_of_getElem? ez))
      have sN := same_new (o := .tup [.ref ty, .int n]) hT'
      have gN := g.trans (Gr.new (o := .tup [.ref ty, .int n]) g.wd hT')
      have ezip := zip_at ez en
      have hstep := all_step (f := ventOk) ezip
      refine ⟨T', _, rfl, SqT.of upd_same, rfl, _, _, rfl, ty, _, rfl, Same.tup (g.wd.same.trans sN) hty, rfl, _, _, rfl, _, _, rfl, _, _, rfl, _, _, rfl, rfl, _, _, rfl, rfl, ?_⟩
      have eok : ventOk ([c1, c2, lim, c4], n) = (decide (0 ≤ n) && decide (n ≤ lim)) := rfl
      refine ⟨_, rfl, _, _, rfl, rfl, _, rfl, ?_⟩
      by_cases h0 : 0 ≤ n
      · rw [decide_eq_true h0]
        refine iteT ?_
        refine ⟨_, rfl, _, _, rfl, rfl, _, rfl, ?_⟩
        by_cases h1 : n ≤ lim
        · rw [decide_eq_true h1]
          refine iteF ⟨_, _, _, _, rfl, gN, tb.same sN, ?_⟩
          rw [hstep, hok, eok, decide_eq_true h0, decide_eq_true h1]; rfl
        · rw [decide_eq_false h1]
          refine iteT ?_
          have e : limitsOk rs ds (v, f) = false := by
            unfold limitsOk
            rw [all_not ezip (by rw [eok, decide_eq_false h1, Bool.and_false])]; rfl
          rw [← e]
          exact q _ (g1.trans gN) (tb.same sN)
      · rw [decide_eq_false h0]
        refine iteF ⟨_, rfl, ?_⟩
        refine iteT ?_
        have e : limitsOk rs ds (v, f) = false := by
          unfold limitsOk
          rw [all_not ezip (by rw [eok, decide_eq_false h0, Bool.false_and])]; rfl
        rw [← e]
        exact q _ (g1.trans gN) (tb.same sN)
    · rintro σ H2 ⟨o3, o4, o5, o6, rfl, g, tb, hok⟩
      have hzl : (rs.zip v).length = y1.length := by rw [List.length_zip]; omega
      rw [← hzl, List.take_of_length_le (Nat.le_refl _)] at hok
      have gg := g1.trans g
      refine ⟨_, rfl, x, dx, _, rfl, gg.wd.same _ _ hx, nfN _ (by decide +kernel) (by decide +kernel) (by decide +kernel) (by decide +kernel), ?_⟩
      refine ⟨G, x, h, rs, ds, ss, rfl, gg.wd, tb, hH, fun p2 y2 H3 hp2 g2 e2 rv2 t2 => ?_⟩
      have l2 : y2.length = ds.length := Paired.length rv2
      have p2P : p2 ∉ Ps := tb.nin hp2
      have gg2 := gg.trans g2
      refine ⟨_, rfl, p2, fa, y2, f.map V.int, rfl, SqL.of e2, gg2.wd.same.seq hfa, RZ.for_zipL (K := K) (a := p2) (b := fa) (xs := y2) (ys := f.map V.int) (by rw [List.length_map]; omega) (fun i σ H' => ∃ (o3 o4 o5 o6 : Option V), σ = [some (.ref x), some (.ref va), some (.ref fa), o3, o4, o5, o6] ∧ Gr Ps G H3 G H' ∧ Tabs Ps H' ∧ ((ds.zip f).take i).all flowOk = true) ⟨_, _, _, _, rfl, Gr.refl gg2.wd, t2, rfl⟩ (fun i σ H' ⟨_, _, _, _, _, g, _⟩ => ⟨SqL.of (g.keep _ _ p2P e2), g.wd.same.seq hfa⟩) ?_ ?_⟩
      · rintro i a b T' σ H' ha hb ⟨o3, o4, o5, o6, rfl, g, tb, hok2⟩ hT'
        obtain ⟨z, ez, ty, rfl, hty⟩ := paired_get rv2 ha
        obtain ⟨n, en, rfl⟩ := ints_at hb
        obtain ⟨c1, c2, lim, rfl⟩ := len3 (w3 z (List.mem_of_getElem? ez))
        have sN := same_new (o := .tup [.ref ty, .int n]) hT'
        have gN := g.trans (Gr.new (o := .tup [.ref ty, .int n]) g.wd hT')
        have ezip := zip_at ez en
        have hstep := all_step (f := flowOk) ezip
        refine ⟨T', _, rfl, SqT.of upd_same, rfl, _, _, rfl, ty, _, rfl, Same.tup (g.wd.same.trans sN) hty, rfl, _, _, rfl, _, _, rfl, _, _, rfl, rfl, _, _, rfl, rfl, ?_⟩
        have eok : flowOk ([c1, c2, lim], n) = (decide (-lim ≤ n) && decide (n ≤ lim)) := rfl
        refine ⟨_, rfl, _, rfl, _, rfl, _, _, rfl, rfl, _, rfl, ?_⟩
        by_cases h0 : -lim ≤ n
        · rw [decide_eq_true h0]
          refine iteT ?_
          refine ⟨_, rfl, _, _, rfl, rfl, _, rfl, ?_⟩
          by_cases h1 : n ≤ lim
          · rw [decide_eq_true h1]
            refine iteF ⟨_, _, _, _, rfl, gN, tb.same sN, ?_⟩
            rw [hstep, hok2, eok, decide_eq_true h0, decide_eq_true h1]; rfl
          · rw [decide_eq_false h1]
            refine iteT ?_
            have e : limitsOk rs ds (v, f) = false := by
              unfold limitsOk
              rw [show (ds.zip f).all flowOk = false from all_not ezip (by rw [eok, decide_eq_false h1, Bool.and_false]), Bool.and_false]
            rw [← e]
            exact q _ (gg2.trans gN) (tb.same sN)
        · rw [decide_eq_false h0]
          refine iteF ⟨_, rfl, ?_⟩
          refine iteT ?_
          have e : limitsOk rs ds (v, f) = false := by
            unfold limitsOk
            rw [show (ds.zip f).all flowOk = false from all_not ezip (by rw [eok, decide_eq_false h0, Bool.false_and]), Bool.and_false]
          rw [← e]
          exact q _ (gg2.trans gN) (tb.same sN)
      · rintro σ H4 ⟨o3, o4, o5, o6, rfl, g3, tb3, hok2⟩
        have hzl2 : (ds.zip f).length = y2.length := by rw [List.length_zip]; omega
        rw [← hzl2, List.take_of_length_le (Nat.le_refl _)] at hok2
        have e : limitsOk rs ds (v, f) = true := by
          unfold limitsOk
          rw [hok, hok2]; rfl
        have z := q H4 (gg2.trans g3) tb3
        rw [e] at z
        exact z
end
end Cr
set_option Elab.async false
set_option linter.all false
set_option maxRecDepth 100000
set_option maxHeartbeats 4000000

namespace Cr
open PySem PySem.Spec PyProof.Rows L2
abbrev scost : Stmt := top 9
abbrev ncost : List Str := ["house", "plan", "prices", "_", "price", "vents", "vent"]
abbrev acost : List Str := ["house", "plan"]
theorem sccost : FnScope ncost acost (defScope scost) := ⟨rfl, rfl, rfl, by decide +kernel, rfl, by decide +kernel, by decide +kernel⟩
section
variable {P : Program} {w : World} {K : PySem.W.Frag} {mg : Str → Option Value} {base : Heap} {ad : Ad} {cBP : Addr} {Ps : List Addr} {H : Hp}
structure RawCo (K : PySem.W.Frag) (mg : Str → Option Value) (base : Heap) (ad : Ad) (cBP : Addr) : Prop extends RawPl K mg base ad cBP where
  b_zip : mg "zip" = none
  co : DefR K mg "cost" scost acost
def spCost (ad : Ad) (K : PySem.W.Frag) (Ps : List Addr) (cBP : Addr) : Sp := fun vs H Q E =>
  ∃ (G : Hp) (x pa : Addr) (h : Int) (rs ds ss : List (List Int)) (pl : Hours), vs = [.ref x, .ref pa] ∧ Wd Ps G H ∧ Tabs Ps H ∧ HouseAt ad K G x h rs ds ss ∧ PlanA K G pa pl ∧ slim pl ∧ 0 ≤ h ∧ h < 32 ∧
    (fits h rs.length ds.length pl → ∀ H', Gr Ps G H G H' → Tabs Ps H' → Q (.int (costOf rs pl)) H') ∧ (¬ fits h rs.length ds.length pl → ∀ H', Gr Ps G H G H' → Tabs Ps H' → E (.ref cBP) none H')
theorem c_cost (T : RawCo K mg base ad cBP) : CalX P w K mg base 3 "cost" (spCost ad K Ps cBP) := by
  refine T.co.calX sccost (fun vs H Q E h => ?_) (fun f cdv A outer s H vs Q E hr h => ?_)
  · obtain ⟨G, x, pa, h, rs, ds, ss, pl, rfl, _⟩ := h
    rfl
  · obtain ⟨G, x, pa, h, rs, ds, ss, pl, rfl, wd, tbs, hH, ⟨xs, hxs, hpl⟩, hsl, h0, h32, q, qx⟩ := h
    have b_sum := T.b_sum
    have b_zip := T.b_zip
    have k_check_plan : CalX P w K mg base 2 "check_plan" (spCheck ad K Ps cBP) := c_check T.toRawPl
    have kcheck_plan := k_check_plan
    have k_House_rooms : C8.Met P w K mg base 1 ad.cH "rooms" (spNewRows ad K Ps fun _ rs _ _ => rs) [] := c_rooms T.toRawP
    obtain ⟨dx, ra, da, sa, hx, hRa, hDa, hSa⟩ := hH.ob
    refine ⟨_, (pss_cons (ps_expr (pe_cx k_check_plan hr (by decide) (takes_of rfl rfl rfl rfl) rfl (pa_cons (pv 0) (pa_cons (pv 1) pa_nil))))
      (pss_cons (ps_set (i := 2) sccost.nd rfl (Or.inr rfl) (pe_lc (own := [("_", 3), ("price", 4)]) rfl sccost.nd (pi_list (C8.pe_mt0 k_House_rooms hr (by decide) (pv 0))) (blkOk_by (own := [("_", 3), ("price", 4)]) (N := ncost) (sc := defScope scost) (by decide +kernel)) (fun _ _ _ _ _ => (pg_tupK (K := K) (n := 4) rfl rfl (pgs_cons (pg_name (i := 3) sccost.nd rfl (Or.inl rfl) (Or.inr rfl)) (pgs_cons (pg_name (i := 3) sccost.nd rfl (Or.inl rfl) (Or.inr rfl)) (pgs_cons (pg_name (i := 3) sccost.nd rfl (Or.inl rfl) (Or.inr rfl)) (pgs_cons (pg_name (i := 4) sccost.nd rfl (Or.inl rfl) (Or.inr rfl)) pgs_nil)))))) (fun _ _ _ _ _ => pts_nil) (fun _ _ _ _ _ => (pv 4 rfl (Or.inl rfl)))))
      (pss_one (ps_ret (pe_callB (cr_sum rfl) (by rfl) b_sum (by decide +kernel) (pa_cons (pe_lc2 (own := [("vents", 5), ("_", 3), ("vent", 6), ("price", 4)]) (vs1 := [6, 4]) rfl sccost.nd (pi_list (pv 1)) (blkOk_by (own := [("vents", 5), ("_", 3), ("vent", 6), ("price", 4)]) (N := ncost) (sc := defScope scost) (by decide +kernel)) (by decide) (fun _ _ _ _ _ => (pg_tupK (K := K) (n := 2) rfl rfl (pgs_cons (pg_name (i := 5) sccost.nd rfl (Or.inl rfl) (Or.inr rfl)) (pgs_cons (pg_name (i := 3) sccost.nd rfl (Or.inl rfl) (Or.inr rfl)) pgs_nil)))) (fun _ _ _ _ _ => pts_nil) (fun _ _ _ _ _ => (pi_zipK (K := K) rfl (by rfl) b_zip (pa_cons (pv 5 rfl (Or.inl rfl)) (pa_cons (pv 2 rfl (Or.inr (Or.inl rfl))) pa_nil)))) (fun _ _ _ _ _ => (pg_tupK (K := K) (n := 2) rfl rfl (pgs_cons (pg_name (i := 6) sccost.nd rfl (Or.inl rfl) (Or.inr rfl)) (pgs_cons (pg_name (i := 4) sccost.nd rfl (Or.inl rfl) (Or.inr rfl)) pgs_nil)))) (fun _ _ _ _ _ => pts_nil) (fun _ _ _ _ _ => (pe_op op_mul (pv 6 rfl (Or.inl rfl)) (pv 4 rfl (Or.inl rfl))))) pa_nil)))))), ?_⟩
    have hlen : xs.length = pl.length := Paired.length hpl
    have hxH := wd.same _ _ hx
    have nfN : ∀ m : Str, ¬ m = "_stays" → ¬ m = "_doors" → ¬ m = "_rooms" → ¬ m = "hours" → (hf h ra da sa).lookup m = none := fun m h1 h2 h3 h4 => hf_no _ _ _ _ h1 h2 h3 h4
    have lens := houseBad_lens hH.ok
    refine ⟨_, rfl, _, rfl, G, x, pa, h, rs, ds, ss, pl, rfl, wd, tbs, hH, ⟨xs, hxs, hpl⟩, hsl, h0, h32, fun hfit H1 g1 t1 => ?_, fun hno H1 g1 t1 => qx hno H1 g1 t1⟩
    refine ⟨_, rfl, x, dx, _, rfl, g1.wd.same _ _ hx, nfN _ (by decide +kernel) (by decide +kernel) (by decide +kernel) (by decide +kernel), ?_⟩
    refine ⟨G, x, h, rs, ds, ss, rfl, g1.wd, t1, hH, fun p1 y1 H2 hp1 g2 e1 rv1 t2 => ⟨p1, rfl, ⟨y1, SqL.of e1⟩, fun D hD => ?_⟩⟩
    have p1P : p1 ∉ Ps := t1.nin hp1
    have hDP := t2.nin hD
    have l1 : y1.length = rs.length := Paired.length rv1
    have np1D : p1 ≠ D := ne_of_none e1 hD
    refine lc_list (K := K) (a := p1) (xs := y1) (fun i H' => Gr Ps G H2 G H' ∧ Tabs Ps H' ∧ H' p1 = some (.lst y1) ∧ H' D = some (.lst ((pricesOf (rs.take i)).map V.int))) ⟨Gr.new g2.wd hD, t2.upd hDP, by rw [upd_ne np1D]; exact e1, upd_same⟩ (fun i H' _ ⟨_, _, e, _⟩ => SqL.of e) ?_ ?_
    · rintro i y H' hy ⟨g, tb, ep, hacc⟩
      obtain ⟨z, ez, ty, rfl, hty⟩ := paired_get rv1 hy
      obtain ⟨c1, c2, c3, c4, rfl⟩ := len4 (hH.w4 z (List.mem_of_getElem? ez))
      have hi : i < rs.length := (List.getElem?_eq_some_iff.mp ez).1
      refine ⟨ty, _, rfl, Same.tup g.wd.same hty, rfl, _, _, rfl, _, _, rfl, _, _, rfl, _, _, rfl, rfl, (by (repeat rw [wipe_set (by decide)]); exact wipe_wipe _ _), ?_⟩
      refine ⟨_, rfl, _, hacc, small1000 (by unfold pricesOf; rw [List.length_map, List.length_map, List.length_take]; omega), g.poke hD (g2.wd.free hD), tb.upd hDP, by rw [upd_ne np1D]; exact ep, ?_⟩
      rw [upd_same]
      unfold pricesOf
      rw [List.take_add_one, ez]
      simp
    rintro H3 ⟨g3, t3, _, hacc⟩
    rw [l1, List.take_of_length_le (Nat.le_refl _)] at hacc
    obtain ⟨G4, g4, s4, hpr⟩ : ∃ G4, Gr Ps G H2 G4 H3 ∧ Same G G4 ∧ G4 D = some (.lst ((pricesOf rs).map V.int)) := ⟨_, g3.close hD hacc hDP (g2.wd.free hD), same_new (g2.wd.free hD), upd_same⟩
    have gA := (g1.trans g2).trans g4
    refine ⟨_, rfl, pa, rfl, ⟨xs, g4.wd.same.seq (s4.seq hxs)⟩, fun D2 hD2 => ?_⟩
    have hD2P := t3.nin hD2
    have gD2 : G4 D2 = none := g4.wd.free hD2
    have hq : ∀ {H'}, Gr Ps G4 H3 G4 H' → SqL K H' pa xs := fun g => g.wd.same.seq (s4.seq hxs)
    have cl : ∀ i, i < pl.length → (costList rs (pl.take i)).length ≤ 930 := fun i hi => by
      have z := cost_len (rs := rs) (pl := pl.take i) fun p hp => (hsl.2 p (List.mem_of_mem_take hp)).1
      have := hsl.1
      rw [List.length_take] at z
      omega
    refine lcG (walk_list (xs := xs)) (fun i H' => Gr Ps G4 H3 G4 H' ∧ Tabs Ps H' ∧ H' D2 = some (.lst ((costList rs (pl.take i)).map V.int))) ⟨Gr.new g4.wd hD2, t3.upd hD2P, upd_same⟩ (fun i H' _ ⟨g, _⟩ => hq g) ?_ ?_
    · rintro i v H4 H5 hi ⟨g, tb, hacc⟩ ⟨rfl, hv⟩
      obtain ⟨p, ep, ty, va, fa, rfl, hty, hva, hfa⟩ := paired_get hpl hv
      have hpm := List.mem_of_getElem? ep
      refine ⟨ty, _, rfl, Same.tup g.wd.same (Same.tup s4 hty), rfl, _, _, rfl, _, _, rfl, rfl, (by (repeat rw [wipe_set (by decide)]); exact wipe_wipe _ _), ?_⟩
      refine ⟨_, rfl, _, rfl, va, D, p.1.map V.int, (pricesOf rs).map V.int, rfl, g.wd.same.seq (s4.seq hva), SqL.of (g.wd.same _ _ hpr), ?_⟩
      have hip : i < pl.length := by omega
      have hci := cl i hip
      have hv32 := (hsl.2 p hpm).1
      refine lcG (walk_zip (xs := p.1.map V.int) (ys := (pricesOf rs).map V.int) (n := (p.1.zip (pricesOf rs)).length) (by rw [List.length_zip, List.length_map, List.length_map])) (fun j H' => Gr Ps G4 H3 G4 H' ∧ Tabs Ps H' ∧ H' D2 = some (.lst ((costList rs (pl.take i) ++ ((p.1.zip (pricesOf rs)).take j).map fun q => q.1 * q.2).map V.int))) ⟨g, tb, by rw [List.take_zero, List.map_nil, List.append_nil]; exact hacc⟩ (fun j H' _ ⟨g, _⟩ => ⟨g.wd.same.seq (s4.seq hva), SqL.of (g.wd.same _ _ hpr)⟩) ?_ ?_
      · rintro j vv H6 H7 hj ⟨g6, tb6, hacc6⟩ ⟨T', aa, bb, rfl, hT', rfl, ha, hb⟩
        obtain ⟨n1, en1, rfl⟩ := ints_at ha
        obtain ⟨n2, en2, rfl⟩ := ints_at hb
        have ezip := zip_at en1 en2
        have nTD : T' ≠ D2 := fun z => by rw [z, hacc6] at hT'; cases hT'
        have gN := g6.trans (Gr.new (o := .tup [.int n1, .int n2]) g6.wd hT')
        have hlz : (p.1.zip (pricesOf rs)).length ≤ 31 := by rw [List.length_zip]; omega
        refine ⟨T', _, rfl, SqT.of upd_same, rfl, _, _, rfl, _, _, rfl, rfl, (by rw [wipe_set (by decide), wipe_set (by decide)]; exact wipe_wipe _ _), ?_⟩
        refine ⟨_, rfl, _, rfl, _, _, rfl, rfl, ?_⟩
        refine ⟨.inr ?_, ?_⟩
        · have := prices_ok hH.ok hH.w4 (List.mem_of_getElem? en2)
          omega
        · refine ⟨_, by rw [upd_ne nTD.symm]; exact hacc6, small1000 (by rw [List.length_map, List.length_append, List.length_map, List.length_take]; omega), gN.poke hD2 gD2, (tb6.same (same_new hT')).upd hD2P, ?_⟩
          rw [upd_same, List.take_add_one, ezip]
          simp
      · rintro H6 ⟨g6, tb6, hacc6⟩
        rw [List.take_of_length_le (Nat.le_refl _)] at hacc6
        refine ⟨g6, tb6, ?_⟩
        rw [cost_step ep]
        exact hacc6
    · rintro H4 ⟨g, tb, hacc⟩
      rw [List.take_of_length_le (by omega)] at hacc
      refine ⟨D2, costList rs pl, rfl, SqL.of hacc, ?_⟩
      exact q hfit H4 ((gA.trans g).down wd) tb
end
end Cr
set_option Elab.async false
set_option linter.all false
set_option maxRecDepth 100000
set_option maxHeartbeats 4000000

namespace Cr
open PySem PySem.Spec PyProof.Rows L2
abbrev sairs : Stmt := top 8
abbrev nairs : List Str := ["house", "plan", "told", "held", "hour", "vents", "flows", "air", "_"]
abbrev aairs : List Str := ["house", "plan"]
theorem scairs : FnScope nairs aairs (defScope sairs) := ⟨rfl, rfl, rfl, by decide +kernel, rfl, by decide +kernel, by decide +kernel⟩
section
variable {P : Program} {w : World} {K : PySem.W.Frag} {mg : Str → Option Value} {base : Heap} {ad : Ad} {cBP : Addr} {Ps : List Addr} {H : Hp}
/-- a list of ints that is new: not there in H, known in G -/
def IntsM (H G : Hp) (v : V) (ns : List Int) : Prop := ∃ a, v = .ref a ∧ H a = none ∧ G a = some (.lst (ns.map V.int))
theorem intsM_same {H G G' : Hp} (e : Same G G') : ∀ {xs : List V} {ls : List (List Int)}, Paired (IntsM H G) xs ls → Paired (IntsM H G') xs ls
  | _, _, .nil => .nil
  | _, _, .cons ⟨a, h1, h2, h3⟩ r => .cons ⟨a, h1, h2, e _ _ h3⟩ (intsM_same e r)
theorem intsM_L {K : PySem.W.Frag} {H G : Hp} : ∀ {xs : List V} {ls : List (List Int)}, Paired (IntsM H G) xs ls → Paired (IntsL K G) xs ls
  | _, _, .nil => .nil
  | _, _, .cons ⟨a, h1, _, h3⟩ r => .cons ⟨a, h1, SqL.of h3⟩ (intsM_L r)
/-- what air_behind is to promise (shown in P6) -/
def spAir (ad : Ad) (K : PySem.W.Frag) (Ps : List Addr) : Sp := fun vs H Q _ =>
  ∃ (G : Hp) (x hd va fa : Addr) (t : Int) (h : Int) (rs ds ss : List (List Int)) (held v f : List Int), vs = [.ref x, .int t, .ref hd, .ref va, .ref fa] ∧ Wd Ps G H ∧ Tabs Ps H ∧ HouseAt ad K G x h rs ds ss ∧ SqL K G hd (held.map V.int) ∧ SqL K G va (v.map V.int) ∧ SqL K G fa (f.map V.int) ∧
    held.length = rs.length ∧ v.length = rs.length ∧ f.length = ds.length ∧ ∀ p H', H p = none → Gr Ps G H G H' → Tabs Ps H' → H' p = some (.lst ((airStep ds ss t held v f).map V.int)) → Q (.ref p) H'
structure RawAi (K : PySem.W.Frag) (mg : Str → Option Value) (base : Heap) (ad : Ad) (cBP : Addr) : Prop extends RawCo K mg base ad cBP where
  ai : DefR K mg "airs" sairs aairs
def spAirs (ad : Ad) (K : PySem.W.Frag) (Ps : List Addr) (cBP : Addr) : Sp := fun vs H Q E =>
  ∃ (G : Hp) (x pa : Addr) (h : Int) (rs ds ss : List (List Int)) (pl : Hours), vs = [.ref x, .ref pa] ∧ Wd Ps G H ∧ Tabs Ps H ∧ HouseAt ad K G x h rs ds ss ∧ PlanA K G pa pl ∧ slim pl ∧ 0 ≤ h ∧ h < 32 ∧
    (fits h rs.length ds.length pl → ∀ p xs G' H', H p = none → Gr Ps G H G' H' → G' p = none → H' p = some (.lst xs) → Paired (IntsM H G') xs (airsOf rs ds ss pl) → Tabs Ps H' → Q (.ref p) H') ∧
    (¬ fits h rs.length ds.length pl → ∀ H', Gr Ps G H G H' → Tabs Ps H' → E (.ref cBP) none H')
theorem c_airs (T : RawAi K mg base ad cBP) (k_air_behind : C8.Cal P w K mg base 3 "air_behind" (spAir ad K Ps) []) : CalX P w K mg base 4 "airs" (spAirs ad K Ps cBP) := by
  refine T.ai.calX scairs (fun vs H Q E h => ?_) (fun f cdv A outer s H vs Q E hr h => ?_)
  · obtain ⟨G, x, pa, h, rs, ds, ss, pl, rfl, _⟩ := h
    rfl
  · obtain ⟨G, x, pa, h, rs, ds, ss, pl, rfl, wd, tbs, hH, ⟨xs, hxs, hpl⟩, hsl, h0, h32, q, qx⟩ := h
    have b_enumerate := T.b_enumerate
    have k_check_plan : CalX P w K mg base 2 "check_plan" (spCheck ad K Ps cBP) := c_check T.toRawPl
    have k_House_rooms : C8.Met P w K mg base 1 ad.cH "rooms" (spNewRows ad K Ps fun _ rs _ _ => rs) [] := c_rooms T.toRawP
    obtain ⟨dx, ra, da, sa, hx, hRa, hDa, hSa⟩ := hH.ob
    refine ⟨_, (pss_cons (ps_expr (pe_cx k_check_plan hr (by decide) (takes_of rfl rfl rfl rfl) rfl (pa_cons (pv 0) (pa_cons (pv 1) pa_nil))))
      (pss_cons (ps_set (i := 2) scairs.nd rfl (Or.inl rfl) (pe_lst pa_nil))
      (pss_cons (ps_setLc (i := 3) (own := [("air", 7), ("_", 8)]) rfl scairs.nd rfl rfl (sw_true rfl rfl rfl (by decide +kernel)) (pi_list (C8.pe_mt0 k_House_rooms hr (by decide) (pv 0))) (blkOk_by (own := [("air", 7), ("_", 8)]) (N := nairs) (sc := defScope sairs) (by decide +kernel)) (fun _ _ _ _ _ => (pg_tupK (K := K) (n := 4) rfl rfl (pgs_cons (pg_name (i := 7) scairs.nd rfl (Or.inl rfl) (Or.inr rfl)) (pgs_cons (pg_name (i := 8) scairs.nd rfl (Or.inl rfl) (Or.inr rfl)) (pgs_cons (pg_name (i := 8) scairs.nd rfl (Or.inl rfl) (Or.inr rfl)) (pgs_cons (pg_name (i := 8) scairs.nd rfl (Or.inl rfl) (Or.inr rfl)) pgs_nil)))))) (fun _ _ _ _ _ => pts_nil) (fun _ _ _ _ _ => (pv 7 rfl (Or.inl rfl))))
      (pss_cons (ps_for (passes_of rfl) rfl (pi_enum (by rfl) b_enumerate (pa_cons (pv 1) pa_nil)) (pg_tup rfl (pgs_cons (pg_name (i := 4) scairs.nd rfl (Or.inl rfl)) (pgs_cons (pg_tup rfl (pgs_cons (pg_name (i := 5) scairs.nd rfl (Or.inl rfl)) (pgs_cons (pg_name (i := 6) scairs.nd rfl (Or.inl rfl)) pgs_nil))) pgs_nil)))
        (pss_cons (ps_set (i := 3) scairs.nd rfl (Or.inl rfl) (C8.pe_c k_air_behind hr (by decide) rfl (pa_cons (pv 0) (pa_cons (pv 4) (pa_cons (pv 3) (pa_cons (pv 5) (pa_cons (pv 6) pa_nil)))))))
      (pss_one (ps_expr (pe_bm PySem.F.plainAttrs_list PySem.F.slot_list_append PySem.F.type_list_append mt_append (pv 2) (pa_cons (pv 3) pa_nil))))))
      (pss_one (ps_ret (pv 2))))))), ?_⟩
    have hlen : xs.length = pl.length := Paired.length hpl
    have hxH := wd.same _ _ hx
    have nfN : ∀ m : Str, ¬ m = "_stays" → ¬ m = "_doors" → ¬ m = "_rooms" → ¬ m = "hours" → (hf h ra da sa).lookup m = none := fun m h1 h2 h3 h4 => hf_no _ _ _ _ h1 h2 h3 h4
    have lens := houseBad_lens hH.ok
    refine ⟨_, rfl, _, rfl, G, x, pa, h, rs, ds, ss, pl, rfl, wd, tbs, hH, ⟨xs, hxs, hpl⟩, hsl, h0, h32, fun hfit H1 g1 t1 => ?_, fun hno H1 g1 t1 => qx hno H1 g1 t1⟩
    refine ⟨Nat.zero_le _, fun pt hpt => ?_⟩
    have ptP : pt ∉ Ps := t1.nin hpt
    have ptH : H pt = none := g1.free' hpt
    have gt := g1.trans (Gr.new (o := .lst []) g1.wd hpt)
    have tt := t1.same (same_new (o := .lst []) hpt)
    refine ⟨_, rfl, x, dx, _, rfl, gt.wd.same _ _ hx, nfN _ (by decide +kernel) (by decide +kernel) (by decide +kernel) (by decide +kernel), ?_⟩
    refine ⟨G, x, h, rs, ds, ss, rfl, gt.wd, tt, hH, fun p1 y1 H2 hp1 g2 e1 rv1 t2 => ⟨p1, rfl, ⟨y1, SqL.of e1⟩, fun D hD => ?_⟩⟩
    have et2 : H2 pt = some (.lst []) := g2.keep _ _ ptP upd_same
    have ntD : pt ≠ D := ne_of_none et2 hD
    have hDP := t2.nin hD
    have l1 : y1.length = rs.length := Paired.length rv1
    have np1D : p1 ≠ D := ne_of_none e1 hD
    refine lc_list (K := K) (a := p1) (xs := y1) (fun i H' => Gr Ps G H2 G H' ∧ Tabs Ps H' ∧ H' p1 = some (.lst y1) ∧ H' pt = some (.lst []) ∧ H' D = some (.lst ((rs.take i).map fun r => V.int (r.getD 0 0)))) ⟨Gr.new g2.wd hD, t2.upd hDP, by rw [upd_ne np1D]; exact e1, by rw [upd_ne ntD]; exact et2, upd_same⟩ (fun i H' _ ⟨_, _, e, _⟩ => SqL.of e) ?_ ?_
    · rintro i y H' hy ⟨g, tb, ep, et, hacc⟩
      obtain ⟨z, ez, ty, rfl, hty⟩ := paired_get rv1 hy
      obtain ⟨c1, c2, c3, c4, rfl⟩ := len4 (hH.w4 z (List.mem_of_getElem? ez))
      have hi : i < rs.length := (List.getElem?_eq_some_iff.mp ez).1
      refine ⟨ty, _, rfl, Same.tup g.wd.same hty, rfl, _, _, rfl, _, _, rfl, _, _, rfl, _, _, rfl, rfl, (by (repeat rw [wipe_set (by decide)]); exact wipe_wipe _ _), ?_⟩
      refine ⟨_, rfl, _, hacc, small1000 (by rw [List.length_map, List.length_take]; omega), g.poke hD (g2.wd.free hD), tb.upd hDP, by rw [upd_ne np1D]; exact ep, by rw [upd_ne ntD]; exact et, ?_⟩
      rw [upd_same, List.take_add_one, ez]
      simp
    rintro H3 ⟨g3, t3, _, et3, hacc⟩
    rw [l1, List.take_of_length_le (Nat.le_refl _)] at hacc
    have gA := (gt.trans g2).trans g3
    have hDH : H D = none := gt.free' (g2.free' hD)
    have gD : G D = none := g2.wd.free hD
    have gB := gA.close hDH hacc hDP gD
    have sB := same_new (o := .lst (rs.map fun r => V.int (r.getD 0 0))) gD
    refine ⟨_, rfl, pa, xs, rfl, gA.wd.same.seq hxs, for_enum (K := K) (a := pa) (xs := xs) (fun i σ H' => ∃ (o4 o5 o6 : Option V) (hd : Addr) (G' : Hp) (held : List Int) (ys : List V), σ = [some (.ref x), some (.ref pa), some (.ref pt), some (.ref hd), o4, o5, o6, none, none] ∧ Gr Ps G H G' H' ∧ Tabs Ps H' ∧ H' pt = some (.lst ys) ∧ G' pt = none ∧ SqL K G' hd (held.map V.int) ∧ held.length = rs.length ∧ held = (airsOf rs ds ss (pl.take i)).getLast?.getD (rs.map fun r => r.getD 0 0) ∧ Paired (IntsM H G') ys (airsOf rs ds ss (pl.take i)))
      ⟨_, _, _, D, _, rs.map fun r => r.getD 0 0, [], rfl, gB, t3, et3, by rw [upd_ne ntD]; exact g1.wd.free hpt, by rw [List.map_map]; exact SqL.of upd_same, List.length_map _, rfl, .nil⟩ (fun i σ H' _ ⟨_, _, _, _, _, _, _, _, g, _⟩ => (g.up.trans g.wd.same).seq hxs) ?_ ?_⟩
    · rintro i v σ H4 T' hv ⟨o4, o5, o6, hd, G4, held, ys, rfl, g4, tb4, et4, gt4, hhd, hlh, hlast, hys⟩ hT'
      obtain ⟨p, ep, ty, va, fa, rfl, hty, hva, hfa⟩ := paired_get hpl hv
      have hpm := List.mem_of_getElem? ep
      have hip : i < pl.length := (List.getElem?_eq_some_iff.mp ep).1
      have hfp := hfit.2 p hpm
      have sN := same_new (o := .tup [.int (i : Nat), .ref ty]) hT'
      have gN := g4.trans (Gr.new (o := .tup [.int (i : Nat), .ref ty]) g4.wd hT')
      have tN := tb4.same sN
      have sG := gN.up.trans gN.wd.same
      refine ⟨T', _, rfl, SqT.of upd_same, rfl, _, _, rfl, _, _, rfl, ty, _, rfl, Same.tup sG hty, rfl, _, _, rfl, _, _, rfl, rfl, rfl, ?_⟩
      refine ⟨_, rfl, _, rfl, _, rfl, _, rfl, _, rfl, G4, x, hd, va, fa, (i : Int), h, rs, ds, ss, held, p.1, p.2, rfl, gN.wd, tN, hH.same gN.up, hhd, gN.up.seq hva, gN.up.seq hfa, hlh, hfp.1, hfp.2, fun p2 H6 hp2 g6 t6 e6 => ?_⟩
      have et6 : H6 pt = some (.lst ys) := g6.keep _ _ ptP (sN _ _ et4)
      have g7 := gN.trans g6
      have p2H : H p2 = none := gN.free' hp2
      have p2P : p2 ∉ Ps := tN.nin hp2
      have gp2 : G4 p2 = none := gN.wd.free hp2
      have ntp2 : pt ≠ p2 := ne_of_none (sN _ _ et4) hp2
      have g8 := g7.close p2H e6 p2P gp2
      have s8 := same_new (o := .lst ((airStep ds ss (i : Int) held p.1 p.2).map V.int)) gp2
      have hyl : ys.length = i := by
        rw [Paired.length hys]
        show (airsFrom ds ss 0 _ (pl.take i)).length = i
        rw [airs_len, List.length_take]
        omega
      have hsl1 := hsl.1
      have estep : airsOf rs ds ss (pl.take (i + 1)) = airsOf rs ds ss (pl.take i) ++ [airStep ds ss (i : Int) held p.1 p.2] := by
        unfold airsOf at hlast ⊢
        rw [List.take_add_one, ep]
        show airsFrom ds ss 0 _ (pl.take i ++ [p]) = _
        rw [airs_step, ← hlast, List.length_take]
        congr 3
        omega
      refine ⟨_, rfl, .inl ⟨rfl, _, SqL.of et6⟩, _, rfl, pt, _, _, rfl, rfl, et6, small1000 (by omega), ?_⟩
      refine ⟨_, _, _, p2, _, airStep ds ss (i : Int) held p.1 p.2, ys ++ [.ref p2], rfl, g8.poke ptH (by rw [upd_ne ntp2]; exact gt4), t6.upd ptP, upd_same, by rw [upd_ne ntp2]; exact gt4, SqL.of upd_same, by rw [air_len _ _ _ _ _ _ (by omega)]; exact hlh, ?_, ?_⟩
      · rw [estep, List.getLast?_append]
        rfl
      · rw [estep]
        exact paired_snoc (intsM_same s8 hys) ⟨p2, rfl, p2H, upd_same⟩
    · rintro σ H' ⟨o4, o5, o6, hd, G', held, ys, rfl, g, tb, et, gt', _, _, _, hys⟩
      rw [List.take_of_length_le (by omega)] at hys
      exact ⟨_, rfl, q hfit pt ys G' H' ptH g gt' et hys tb⟩
end
end Cr
set_option Elab.async false
set_option linter.all false
set_option maxRecDepth 100000
set_option maxHeartbeats 4000000

namespace Cr
open PySem PySem.Spec PyProof.Rows L2
abbrev sfault : Stmt := top 10
abbrev nfault : List Str := ["house", "plan", "behind", "hour", "vents", "flows", "room", "_", "most"]
abbrev afault : List Str := ["house", "plan"]
theorem scfault : FnScope nfault afault (defScope sfault) := ⟨rfl, rfl, rfl, by decide +kernel, rfl, by decide +kernel, by decide +kernel⟩
section
variable {P : Program} {w : World} {K : PySem.W.Frag} {mg : Str → Option Value} {base : Heap} {ad : Ad} {cBP : Addr} {Ps : List Addr} {H : Hp}
structure RawFa (K : PySem.W.Frag) (mg : Str → Option Value) (base : Heap) (ad : Ad) (cBP : Addr) : Prop extends RawAi K mg base ad cBP, RawLk K mg base ad cBP where
  fa : DefR K mg "fault" sfault afault
def spFault (ad : Ad) (K : PySem.W.Frag) (Ps : List Addr) (cBP : Addr) : Sp := fun vs H Q E =>
  ∃ (G : Hp) (x pa : Addr) (h : Int) (rs ds ss : List (List Int)) (pl : Hours), vs = [.ref x, .ref pa] ∧ Wd Ps G H ∧ Tabs Ps H ∧ HouseAt ad K G x h rs ds ss ∧ PlanA K G pa pl ∧ slim pl ∧ 0 ≤ h ∧ h < 32 ∧
    (fits h rs.length ds.length pl → (faultOf rs ds ss pl = none → ∀ H', Gr Ps G H G H' → Tabs Ps H' → Q .non H') ∧ ∀ z, faultOf rs ds ss pl = some z → ∀ p H', Gr Ps G H G H' → Tabs Ps H' → H' p = some (.tup [.int z.1, .int z.2]) → Q (.ref p) H') ∧
    (¬ fits h rs.length ds.length pl → ∀ H', Gr Ps G H G H' → Tabs Ps H' → E (.ref cBP) none H')
theorem c_fault (T : RawFa K mg base ad cBP) (k_air_behind : C8.Cal P w K mg base 3 "air_behind" (spAir ad K Ps) []) : CalX P w K mg base 5 "fault" (spFault ad K Ps cBP) := by
  refine T.fa.calX scfault (fun vs H Q E h => ?_) (fun f cdv A outer s H vs Q E hr h => ?_)
  · obtain ⟨G, x, pa, h, rs, ds, ss, pl, rfl, _⟩ := h
    rfl
  · obtain ⟨G, x, pa, h, rs, ds, ss, pl, rfl, wd, tbs, hH, ⟨xs, hxs, hpl⟩, hsl, h0, h32, q, qx⟩ := h
    have b_enumerate := T.b_enumerate
    have k_airs : CalX P w K mg base 4 "airs" (spAirs ad K Ps cBP) := c_airs T.toRawAi k_air_behind
    have k_limits_kept : C8.Cal P w K mg base 2 "limits_kept" (spLim ad K Ps) [] := c_lim T.toRawLk
    have k_House_rooms : C8.Met P w K mg base 1 ad.cH "rooms" (spNewRows ad K Ps fun _ rs _ _ => rs) [] := c_rooms T.toRawP
    have k_House_least : C8.Met P w K mg base 2 ad.cH "least" (spTwo ad K Ps leastOf) [] := c_least T.toRawP
    obtain ⟨dx, ra, da, sa, hx, hRa, hDa, hSa⟩ := hH.ob
    refine ⟨_, (pss_cons (ps_set (i := 2) scfault.nd rfl (Or.inl rfl) (pe_cx k_airs hr (by decide) (takes_of rfl rfl rfl rfl) rfl (pa_cons (pv 0) (pa_cons (pv 1) pa_nil))))
      (pss_cons (ps_for (passes_of rfl) rfl (pi_enum (by rfl) b_enumerate (pa_cons (pv 1) pa_nil)) (pg_tup rfl (pgs_cons (pg_name (i := 3) scfault.nd rfl (Or.inl rfl)) (pgs_cons (pg_tup rfl (pgs_cons (pg_name (i := 4) scfault.nd rfl (Or.inl rfl)) (pgs_cons (pg_name (i := 5) scfault.nd rfl (Or.inl rfl)) pgs_nil))) pgs_nil)))
        (pss_cons (ps_if (pt_not (pt_val (C8.pe_c k_limits_kept hr (by decide) rfl (pa_cons (pv 0) (pa_cons (pv 4) (pa_cons (pv 5) pa_nil))))))
        (pss_one (ps_ret (pe_tup (pa_cons (pv 3) (pa_cons (pe_un un_neg pe_int) pa_nil)))))
        pss_nil)
      (pss_one (ps_for (passes_of rfl) rfl (pi_enum (by rfl) b_enumerate (pa_cons (C8.pe_mt0 k_House_rooms hr (by decide) (pv 0)) pa_nil)) (pg_tup rfl (pgs_cons (pg_name (i := 6) scfault.nd rfl (Or.inl rfl)) (pgs_cons (pg_tup rfl (pgs_cons (pg_name (i := 7) scfault.nd rfl (Or.inl rfl)) (pgs_cons (pg_name (i := 8) scfault.nd rfl (Or.inl rfl)) (pgs_cons (pg_name (i := 7) scfault.nd rfl (Or.inl rfl)) (pgs_cons (pg_name (i := 7) scfault.nd rfl (Or.inl rfl)) pgs_nil))))) pgs_nil)))
        (pss_one (ps_if (pt_not (pt_chain op_le op_le (C8.pe_mt k_House_least hr (by decide) (pv 0) (pa_cons (pv 6) (pa_cons (pv 3) pa_nil))) (pe_ix ix_seq (pe_ix ix_seq (pv 2) (pv 3) (fun _ _ => rfl)) (pv 6) (fun _ _ => rfl)) (pv 8)))
        (pss_one (ps_ret (pe_tup (pa_cons (pv 3) (pa_cons (pv 6) pa_nil)))))
        pss_nil))))))
      (pss_one (ps_ret pe_non)))), ?_⟩
    have hlen : xs.length = pl.length := Paired.length hpl
    have nfN : ∀ m : Str, ¬ m = "_stays" → ¬ m = "_doors" → ¬ m = "_rooms" → ¬ m = "hours" → (hf h ra da sa).lookup m = none := fun m h1 h2 h3 h4 => hf_no _ _ _ _ h1 h2 h3 h4
    have lens := houseBad_lens hH.ok
    refine ⟨_, rfl, _, rfl, G, x, pa, h, rs, ds, ss, pl, rfl, wd, tbs, hH, ⟨xs, hxs, hpl⟩, hsl, h0, h32, fun hfit pb zs G1 H1 hpb g1 gpb1 epb hzs t1 => ?_, fun hno H1 g1 t1 => qx hno H1 g1 t1⟩
    obtain ⟨q0, q1⟩ := q hfit
    replace hzs := intsM_L (K := K) hzs
    have pbP : pb ∉ Ps := tbs.nin hpb
    have hH1 := hH.same g1.up
    have sG := g1.up
    have hx1 : G1 x = some (.ins ad.cH dx (hf h ra da sa)) := sG _ _ hx
    let F := fun t : Nat => (hourBad rs ds ss (airsOf rs ds ss pl) pl t).map fun k => ((t : Int), k)
    refine ⟨_, rfl, pa, xs, rfl, (sG.trans g1.wd.same).seq hxs, for_enum (K := K) (a := pa) (xs := xs) (fun i σ H' => ∃ (o3 o4 o5 o6 o7 o8 : Option V), σ = [some (.ref x), some (.ref pa), some (.ref pb), o3, o4, o5, o6, o7, o8] ∧ Gr Ps G1 H1 G1 H' ∧ Tabs Ps H' ∧ (List.range i).findSome? F = none)
      ⟨_, _, _, _, _, _, rfl, Gr.refl g1.wd, t1, rfl⟩ (fun i σ H' _ ⟨_, _, _, _, _, _, _, g, _⟩ => (sG.trans g.wd.same).seq hxs) ?_ ?_⟩
    · rintro i v σ H2 T' hv ⟨o3, o4, o5, o6, o7, o8, rfl, g2, tb2, hno⟩ hT'
      obtain ⟨p, ep, ty, va, fa, rfl, hty, hva, hfa⟩ := paired_get hpl hv
      have hpm := List.mem_of_getElem? ep
      have hip : i < pl.length := (List.getElem?_eq_some_iff.mp ep).1
      have hfp := hfit.2 p hpm
      have hpD : pl.getD i ([], []) = p := by rw [List.getD_eq_getElem?_getD, ep]; rfl
      have sN := same_new (o := .tup [.int (i : Nat), .ref ty]) hT'
      have gN := g2.trans (Gr.new (o := .tup [.int (i : Nat), .ref ty]) g2.wd hT')
      have tN := tb2.same sN
      refine ⟨T', _, rfl, SqT.of upd_same, rfl, _, _, rfl, _, _, rfl, ty, _, rfl, Same.tup (sG.trans gN.wd.same) hty, rfl, _, _, rfl, _, _, rfl, rfl, rfl, ?_⟩
      refine ⟨_, rfl, _, rfl, _, rfl, G1, x, va, fa, h, rs, ds, ss, p.1, p.2, rfl, gN.wd, tN, hH1, sG.seq hva, sG.seq hfa, hfp.1, hfp.2, fun H3 g3 t3 => ⟨_, rfl, ?_⟩⟩
      have g13 := gN.trans g3
      cases hlim : limitsOk rs ds (p.1, p.2) with
      | false =>
        refine iteT ?_
        refine ⟨_, rfl, _, rfl, by show 2 ≤ sizeLine; decide, fun p' hp' => ?_⟩
        have hF : F i = some ((i : Int), -1) := by
          show (hourBad rs ds ss (airsOf rs ds ss pl) pl i).map _ = _
          unfold hourBad
          rw [hpD, show limitsOk rs ds p = false from hlim]
          rfl
        exact q1 ((i : Int), -1) (some_early hno hF _ hip) p' _ ((g1.trans g13).down wd |>.trans (Gr.new ((g1.trans g13).down wd).wd hp')) (t3.same (same_new hp')) upd_same
      | true =>
        refine iteF ?_
        have hal : (airsOf rs ds ss pl).length = pl.length := airs_len ds ss pl 0 _
        have eai : (airsOf rs ds ss pl)[i]? = some ((airsOf rs ds ss pl).getD i []) := by
          rw [List.getD_eq_getElem?_getD, List.getElem?_eq_getElem (by omega)]
          rfl
        have hwi : ((airsOf rs ds ss pl).getD i []).length = rs.length := by
          have z := airs_wide ds ss pl 0 (rs.map fun r => r.getD 0 0) (fun p hp => by rw [List.length_map]; exact (hfit.2 p hp).1) _ (List.mem_of_getElem? eai)
          rw [List.length_map] at z
          exact z
        obtain ⟨iv, hiv, ia, rfl, hia⟩ := paired_get' hzs eai
        generalize hair : (airsOf rs ds ss pl).getD i [] = air at eai hwi hia
        have hFi : F i = ((List.range rs.length).findSome? (roomBad rs ss (i : Int) air)).map fun k => ((i : Int), k) := by
          show (hourBad rs ds ss (airsOf rs ds ss pl) pl i).map _ = _
          unfold hourBad
          rw [hpD, if_pos (show limitsOk rs ds p = true from hlim), hair]
        refine ⟨_, rfl, x, dx, _, rfl, g13.wd.same _ _ hx1, nfN _ (by decide +kernel) (by decide +kernel) (by decide +kernel) (by decide +kernel), ?_⟩
        refine ⟨G1, x, h, rs, ds, ss, rfl, g13.wd, t3, hH1, fun p1 y1 H4 hp1 g4 e1 rv1 t4 => ?_⟩
        have p1P : p1 ∉ Ps := t3.nin hp1
        have l1 : y1.length = rs.length := Paired.length rv1
        have g14 := g13.trans g4
        refine ⟨p1, y1, rfl, SqL.of e1, for_enum (K := K) (a := p1) (xs := y1) (fun j σ H' => ∃ (o6 o7 o8 : Option V), σ = [some (.ref x), some (.ref pa), some (.ref pb), some (.int (i : Int)), some (.ref va), some (.ref fa), o6, o7, o8] ∧ Gr Ps G1 H4 G1 H' ∧ Tabs Ps H' ∧ (List.range j).findSome? (roomBad rs ss (i : Int) air) = none)
          ⟨_, _, _, rfl, Gr.refl g14.wd, t4, rfl⟩ (fun j σ H' _ ⟨_, _, _, _, g, _⟩ => SqL.of (g.keep _ _ p1P e1)) ?_ ?_⟩
        · rintro j v2 σ H5 U hv2 ⟨o6, o7, o8, rfl, g5, t5, hno2⟩ hU
          obtain ⟨z, ez, ty2, rfl, hty2⟩ := paired_get rv1 hv2
          obtain ⟨c1, most, c3, c4, rfl⟩ := len4 (hH.w4 z (List.mem_of_getElem? ez))
          have hj : j < rs.length := (List.getElem?_eq_some_iff.mp ez).1
          have hz : rs.getD j [] = [c1, most, c3, c4] := by rw [List.getD_eq_getElem?_getD, ez]; rfl
          have sU := same_new (o := .tup [.int (j : Nat), .ref ty2]) hU
          have gU := g5.trans (Gr.new (o := .tup [.int (j : Nat), .ref ty2]) g5.wd hU)
          have tU := t5.same sU
          refine ⟨U, _, rfl, SqT.of upd_same, rfl, _, _, rfl, _, _, rfl, ty2, _, rfl, Same.tup gU.wd.same hty2, rfl, _, _, rfl, _, _, rfl, _, _, rfl, _, _, rfl, rfl, rfl, ?_⟩
          refine ⟨_, rfl, x, dx, _, rfl, gU.wd.same _ _ hx1, nfN _ (by decide +kernel) (by decide +kernel) (by decide +kernel) (by decide +kernel), _, rfl, _, rfl, ?_⟩
          refine ⟨G1, x, h, rs, ds, ss, (j : Int), (i : Int), rfl, gU.wd, tU, hH1, fun G6 H6 g6 t6 => ?_⟩
          have g16 := g6.down gU.wd
          have gg := (g14.trans gU).trans g16
          have epb6 : H6 pb = some (.lst zs) := gg.keep _ _ pbP epb
          have eaj : air[j]? = some (air.getD j 0) := by
            rw [List.getD_eq_getElem?_getD, List.getElem?_eq_getElem (by omega)]
            rfl
          refine ⟨_, rfl, _, rfl, .inl ⟨pb, zs, _, .ref ia, rfl, rfl, SqL.of epb6, atI_nat hiv, _, rfl, .inl ⟨ia, _, _, .int (air.getD j 0), rfl, rfl, gg.wd.same.seq hia, atI_nat (by rw [List.getElem?_map, eaj]; rfl), _, _, rfl, rfl, _, rfl, ?_⟩⟩⟩
          have egood : roomGood rs ss (i : Int) air j = (decide (leastOf ss (j : Int) (i : Int) ≤ air.getD j 0) && decide (air.getD j 0 ≤ most)) := by
            unfold roomGood
            rw [hz]
            rfl
          have bad : roomGood rs ss (i : Int) air j = false → ∀ p', H6 p' = none → Q (.ref p') (upd H6 p' (.tup [.int (i : Int), .int (j : Int)])) := fun eb p' hp' => by
            have e2 : roomBad rs ss (i : Int) air j = some (j : Int) := by
              unfold roomBad
              rw [eb]
              rfl
            have hF : F i = some ((i : Int), (j : Int)) := by
              rw [hFi, some_early hno2 e2 _ hj]
              rfl
            have gd := (g1.trans gg).down wd
            exact q1 ((i : Int), (j : Int)) (some_early hno hF _ hip) p' _ (gd.trans (Gr.new gd.wd hp')) (t6.same (same_new hp')) upd_same
          by_cases hl0 : leastOf ss (j : Int) (i : Int) ≤ air.getD j 0
          · rw [decide_eq_true hl0]
            refine iteT ?_
            refine ⟨_, rfl, _, _, rfl, rfl, _, rfl, ?_⟩
            by_cases hl1 : air.getD j 0 ≤ most
            · rw [decide_eq_true hl1]
              refine iteF ⟨_, _, _, rfl, gU.trans g16, t6, some_step hno2 ?_⟩
              unfold roomBad
              rw [egood, decide_eq_true hl0, decide_eq_true hl1]
              rfl
            · rw [decide_eq_false hl1]
              refine iteT ?_
              exact ⟨_, rfl, _, rfl, by show 2 ≤ sizeLine; decide, fun p' hp' => bad (by rw [egood, decide_eq_false hl1, Bool.and_false]) p' hp'⟩
          · rw [decide_eq_false hl0]
            refine iteF ⟨_, rfl, ?_⟩
            refine iteT ?_
            exact ⟨_, rfl, _, rfl, by show 2 ≤ sizeLine; decide, fun p' hp' => bad (by rw [egood, decide_eq_false hl0, Bool.false_and]) p' hp'⟩
        · rintro σ H5 ⟨o6, o7, o8, rfl, g5, t5, hno2⟩
          rw [l1] at hno2
          refine ⟨_, _, _, _, _, _, rfl, g14.trans g5, t5, some_step hno ?_⟩
          rw [hFi, hno2]
          rfl
    · rintro σ H' ⟨o3, o4, o5, o6, o7, o8, rfl, g, tb, hno⟩
      rw [hlen] at hno
      exact q0 hno H' ((g1.trans g).down wd) tb
end
end Cr
set_option Elab.async false
set_option linter.all false
set_option maxRecDepth 100000
/-! name = {k: v for ..}, a walk within it; a while by a promise that carries its own measure -/
namespace Cr
open PySem PySem.Spec PyProof.Rows L2
section
variable {X : Cx} {i : Nat} {y : Str} {py : Pos} {kx vx tg iter : Expr} {ifs : List Expr} {scope : Scope} {own : List (Str × Nat)} {pos spos : Pos} {wi : TI} {g : TG} {tt : TT} {tk tv : TE}
/-- what holds in each block of a comprehension of X -/
abbrev InBlk (X : Cx) (scope : Scope) (R : Cx → Prop) : Prop := ∀ (s : Shared) (H : Hp) (C : Addr) (cl : List (Str × Addr)) (fp : List Addr), R (X.blk s H scope (compEnvC scope cl C X.env) fp)
theorem ps_setDc (hc : X.calm = true) (hN : X.N.Nodup) (hy : X.N[i]? = some y) (hyl : X.env.scope.names.lookup y = some .local)
    (hsw : swapsWith (.DictComp kx vx [⟨tg, iter, ifs, 0⟩] scope pos) (some (.Name y py)) spos.line X.env = pure true) (hi : PI X tg iter wi) (ok : BlkOk X.N X.env.scope scope own)
    (hg : InBlk X scope fun Y => PG Y tg g) (ht : InBlk X scope fun Y => PTs Y ifs tt) (hk : InBlk X scope fun Y => PE Y kx tk) (he : InBlk X scope fun Y => PE Y vx tv) (hs : ∀ x, foldedSetIterable iter X.env x = pure x := by intro _; rfl) :
    PS X (.Assign [.Name y py] (.DictComp kx vx [⟨tg, iter, ifs, 0⟩] scope pos) spos) (tAsg (tDc wi g tt tk tv (own.map (·.2))) (gName i)) := by
  refine ⟨fun pins s σ H D I h => ?_⟩
  rw [exec_Assign_Name_used _ _ _ _ hsw]
  refine wpAny_bind (wpAny_standAt (wpAny_bind ?_))
  show wpAny _ X.A (do let _ ← comprehension (.DictComp kx vx [⟨tg, iter, ifs, 0⟩] scope pos) scope X.env (firstIterPos [⟨tg, iter, ifs, 0⟩] pos) newDict false (eval iter X.env) (some (assign (.Name y py) X.env))) _ _ s
  have h : tDc wi g tt tk tv (own.map (·.2)) σ H (fun x H1 => gName i x σ H1 D.nx) := h
  refine wpAny_bind (thn (dc_core (Qf := fun _ s' => SP X pins D .next s') hc hN I hi ok hg ht hk he hs h fun L C s' m H' I' q hn f => ?_) fun _ s' hq => wpAny_pure (wpAny_pure hq))
  have away : ∀ a, a = X.env.locals ∨ X.env.cells.lookup y = some a → C ≠ a := fun a z => z.elim (fun e => e ▸ f.2.1) fun e n => f.2.2.2.2.1 y a e n.symm
  exact wpAny_assign_Name (store_ok2 (v := V.ref L) I' hN hy (.inl hyl) rfl (fun s2 I2 ⟨a, sb, ha⟩ => ⟨m, hn.sameBut sb (away a ha), fun h3 sb3 =>
    ⟨_, H', I2.turned (t' := s2.toks) (fun b o hb => (sb3.2 b hb).trans) f.1 f.2.1 f.2.2.2.1 f.2.2.2.2.1 f.2.2.2.2.2, q⟩⟩) (.inr hyl))
theorem sw_trueD {l : Nat} {env : Env} (hk : env.scope.kind = .function) (hy : env.scope.names.lookup y = some .local) (hl : (py.line == pos.line) = true)
    (ha : (scope.names.any fun (n, k) => n == y && (k == .local || k == .cell)) = false) {gs : List Comprehension} : swapsWith (.DictComp kx vx gs scope pos) (some (.Name y py)) l env = pure true := by
  simp only [swapsWith, show env.blockKind = .function by simp [Env.blockKind, hk], show env.kindOf y = some .local from hy, ha, Expr.pos, hl]
  rfl
end
/-- a dict comprehension over any walk -/
theorem dc_it {J : It} {n : Nat} {G : Hp → Prop} {Y : Nat → Hp → V → Hp → Prop} (w : Walk J n G Y) {g : TG} {tt : TT} {tk tv : TE} {vs : List Nat} {σ : L2.St} {H1 : Hp} {D : Addr} {Qd : Hp → Prop} (Pv : Nat → Hp → Prop) (h0 : Pv 0 (upd H1 D (.dK []))) (hG : ∀ i H, i ≤ n → Pv i H → G H)
    (hs : ∀ i x H H', i < n → Pv i H → Y i H x H' → g x (wipe σ vs) H' fun σ2 H2 => wipe σ2 vs = wipe σ vs ∧ tt σ2 H2 fun b H3 =>
      if b = true then tk σ2 H3 fun y H4 => tv σ2 H4 fun z H5 => ∃ kvs k, y = kV k ∧ H5 D = some (.dK kvs) ∧ kvs.length < sizeLine ∧ Pv (i + 1) (upd H5 D (.dK (putK kvs k z))) else Pv (i + 1) H3) (hd : ∀ H, Pv n H → Qd H) :
    ∃ W : Nat → Nat → Hp → Prop, (∃ m, W 0 m (upd H1 D (.dK []))) ∧ ∀ i m H, W i m H →
      (J.stop i H ∧ Qd H) ∨ (J.go i H ∧ ∃ Nx : Hp → Prop, (∀ H', Nx H' → ∃ m', m' < m ∧ W (i + 1) m' H') ∧ ∀ x H', J.yld i H x H' → g x (wipe σ vs) H' fun σ2 H2 => wipe σ2 vs = wipe σ vs ∧ tt σ2 H2 fun b H3 =>
        if b = true then tk σ2 H3 fun y H4 => tv σ2 H4 fun z H5 => ∃ kvs k, y = kV k ∧ H5 D = some (.dK kvs) ∧ kvs.length < sizeLine ∧ Nx (upd H5 D (.dK (putK kvs k z))) else Nx H3) := by
  refine ⟨fun i m H => m = n - i ∧ i ≤ n ∧ Pv i H, ⟨n, rfl, Nat.zero_le _, h0⟩, fun i m H ⟨e, hi, p⟩ => ?_⟩
  have q := hG i H hi p
  by_cases hlt : i < n
  · exact .inr ⟨w.goes i H hlt q, Pv (i + 1), fun H' p' => ⟨n - (i + 1), by omega, rfl, hlt, p'⟩, fun x H' y => hs i x H H' hlt p (w.yields i H x H' hlt q y)⟩
  · have e : i = n := by omega
    subst e
    exact .inl ⟨w.stops H q, hd H p⟩
/-- a while: Pv by a number that goes down, the slots and the heap -/
theorem while_m {c : TT} {tb : TS} {D : Ends} {σ : L2.St} {H : Hp} (Pv : Nat → L2.St → Hp → Prop) (m0 : Nat) (h0 : Pv m0 σ H)
    (hs : ∀ m σ H, Pv m σ H → c σ H fun b H1 => if b = true then ∃ N : L2.St → Hp → Prop, (∀ σ' H', N σ' H' → ∃ m', m' < m ∧ Pv m' σ' H') ∧ tb { D with nx := N, ct := N, bk := D.nx } σ H1 else D.nx σ H1) : tWhile c tb D σ H := ⟨Pv, ⟨m0, h0⟩, hs⟩
theorem u1 {k : Nat} {A : Around} (hr : Room k A) : A.units + 1 < cLine := by have := u65 hr; omega
/-- xs[n], by values, from the start -/
def rGetL (K : PySem.W.Frag) : V → V → Hp → VK → Prop := fun x y H Q => ∃ (p : Addr) (xs : List V) (n : Nat) (v : V), x = .ref p ∧ y = .int (n : Int) ∧ SqL K H p xs ∧ xs[n]? = some v ∧ Q v H
theorem get_list {X : Cx} : PGet X (rGetL X.K) := by
  intro pins s σ H x y v u Q I rx ry h
  obtain ⟨p, xs, n, z, rfl, rfl, hq, he, q⟩ := h
  cases rx
  obtain ⟨t, rfl⟩ := ry
  obtain ⟨its, r, pl, hz⟩ := I.list hq
  obtain ⟨w, ew, rw'⟩ := Vals.get r he
  have hl := Paired.length r
  have hn := line63
  have hlt : n < xs.length := (List.getElem?_eq_some_iff.mp he).1
  exact wpAny_getItem_list pl.isList (by omega) (by omega) (by rw [Int.toNat_natCast]; simpa using ew) ⟨z, H, I, rw', q⟩
end Cr
set_option Elab.async false
set_option linter.all false
set_option maxRecDepth 100000
set_option maxHeartbeats 4000000
/-! enumerate(zip(xs, ys)): the tuple that zip has handed out may be there still, or be gone -/
namespace PySem
open Sem (wp)
section
variable {prog : Program} {w : World} {A : Around} {E : Value → Shared → Prop} {s : Shared}
/-- the zip object, m its mark of the tuple that it handed out -/
abbrev ZipM (h : Heap) (zz TI TO : Addr) (m : Value) (f : Bool) : Prop := h.get? zz = some { cls := .type "zip", dict := none, data := .fields #[m, .bool f, .bool false, .ref TI, .ref TO], slots := #[] }
theorem ez_alive {a : Addr} {Q : Option Obj → Shared → Prop} (q : Q (s.heap.get? a) s) : wpAny (model prog w) A (loadIfAlive a) Q E s := fun _ _ _ => q
theorem ez_free {zz TI TO T : Addr} {f : Bool} {Q : Bool → Shared → Prop} (oz : ZipM s.heap zz TI TO (rawInt T) f) (gone : s.heap.get? T = none) (q : Q true s) :
    wpAny (model prog w) A (Builtin.SmallTypes.ownedTupleIsFree (.ref zz)) Q E s := by
  unfold Builtin.SmallTypes.ownedTupleIsFree
  refine wpAny_bind (wpAny_field oz rfl (x := rawInt T) rfl ?_)
  show wpAny _ _ (loadIfAlive ((T : Int).toNat) >>= _) _ E s
  rw [Int.toNat_natCast]
  refine wpAny_bind (ez_alive ?_)
  rw [gone]
  exact wpAny_pure q
/-- the next pair, where the tuple that was handed out is gone -/
theorem ez_gone_item {zz TI TO T i1 i2 l1 l2 : Addr} {f : Bool} {k1 k2 : Nat} {xs ys : Array Value} {x y a b : Value} {Q : Value → Shared → Prop} (D : ZipApart zz TI TO i1 i2 l1 l2)
    (oz : ZipM s.heap zz TI TO (rawInt T) f) (gone : s.heap.get? T = none) (pI : IsPair s.heap TI (.ref i1) (.ref i2)) (pO : IsPair s.heap TO a b)
    (h1 : s.heap.IsListIter i1 l1 k1) (h2 : s.heap.IsListIter i2 l2 k2) (hl1 : s.heap.IsList l1 xs) (hl2 : s.heap.IsList l2 ys) (hx : xs[k1]? = some x) (hy : ys[k2]? = some y)
    (q : ∀ h', ZipM h' zz TI TO (rawInt s.heap.objs.size) false → IsPair h' TO x y → h'.IsListIter i1 l1 (k1 + 1) → h'.IsListIter i2 l2 (k2 + 1) → IsPair h' s.heap.objs.size x y → h'.objs.size = s.heap.objs.size + 1 →
      (∀ c o, c ≠ zz → c ≠ TO → c ≠ i1 → c ≠ i2 → s.heap.get? c = some o → h'.get? c = some o) → Q (.ref s.heap.objs.size) { s with heap := h' }) :
    wpAny (model prog w) A (Builtin.«zip.__next__» ⟨[.ref zz], []⟩) (fun r s' => ∃ v, r = .done (.ret v) ∧ Q v s') E s := by
  show wpAny _ _ (field (.ref zz) 2 >>= _) _ E s
  refine wpAny_bind (wpAny_field oz rfl (x := .bool false) rfl ?_)
  show wpAny _ _ (field (.ref zz) 3 >>= _) _ E s
  refine wpAny_bind (wpAny_field oz rfl (x := .ref TI) rfl (wpAny_bind (wpAny_seqItems pI rfl ?_)))
  show wpAny _ _ (Builtin.SmallTypes.ownedTupleIsFree (.ref zz) >>= _) _ E s
  refine wpAny_bind (ez_free oz gone ?_)
  simp only [if_true]
  refine wpAny_bind (wpAny_rule (wpAny_bind (wpAny_field oz rfl (x := .ref TO) rfl ?_)))
  refine wpAny_bind (wpAny_setField_rec oz (by simp) fun g1 z1 d1 => ?_)
  replace z1 : ZipM g1 zz TI TO .ellipsis f := z1
  simp only [List.zipIdx_cons, List.zipIdx_nil, List.forIn_cons, List.forIn_nil]
  refine wpAny_bind (wpAny_bind (wpAny_bind (wpAny_onRaise (show wpAny _ _ (Builtin.SmallTypes.nextOf (.ref i1) >>= _) _ _ _ from ?_))))
  refine wpAny_bind (wpAny_nextOf_list_item (h1.extBut d1.extBut D.i1z) (hl1.extBut d1.extBut D.l1z) hx fun g2 n2 d2 => wpAny_pure ?_)
  have o2 : IsPair g2 TO a b := d2.extBut _ _ D.TOi1 (d1.extBut _ _ D.TOz pO)
  refine wpAny_bind (wpAny_seqItems o2 rfl (wpAny_bind (wpAny_updateSeq_pair o2 fun g3 o3 d3 => ?_)))
  replace o3 : IsPair g3 TO x b := o3
  refine wpAny_bind (wpAny_letGo (wpAny_pure (wpAny_bind (wpAny_bind (wpAny_onRaise ?_)))))
  show wpAny _ _ (Builtin.SmallTypes.nextOf (.ref i2) >>= _) _ _ _
  refine wpAny_bind (wpAny_nextOf_list_item (((h2.extBut d1.extBut D.i2z).extBut d2.extBut D.i12.symm).extBut d3.extBut D.TOi2.symm) (((hl2.extBut d1.extBut D.l2z).extBut d2.extBut D.l2i1).extBut d3.extBut D.l2TO) hy fun g4 n4 d4 => wpAny_pure ?_)
  have o4 : IsPair g4 TO x b := d4.extBut _ _ D.TOi2 o3
  refine wpAny_bind (wpAny_seqItems o4 rfl (wpAny_bind (wpAny_updateSeq_pair o4 fun g5 o5 d5 => ?_)))
  replace o5 : IsPair g5 TO x y := o5
  refine wpAny_bind (wpAny_letGo (wpAny_pure (wpAny_pure (wpAny_bind (wpAny_seqItems o5 rfl (wpAny_bind (wpAny_newTuple ?_)))))))
  have sz : g5.objs.size = s.heap.objs.size := by rw [d5.1, d4.1, d3.1, d2.1, d1.1]
  have z5 : ZipM g5 zz TI TO .ellipsis f := d5.extBut _ _ D.TOz.symm (d4.extBut _ _ D.i2z.symm (d3.extBut _ _ D.TOz.symm (d2.extBut _ _ D.i1z.symm z1)))
  have k5 : ∀ c o, c ≠ zz → c ≠ TO → c ≠ i1 → c ≠ i2 → s.heap.get? c = some o → g5.get? c = some o := fun c o c1 c2 c3 c4 e =>
    d5.extBut _ _ c2 (d4.extBut _ _ c4 (d3.extBut _ _ c2 (d2.extBut _ _ c3 (d1.extBut _ _ c1 e))))
  have n1' : g5.IsListIter i1 l1 (k1 + 1) := ((n2.extBut d3.extBut D.TOi1.symm).extBut d4.extBut D.i12).extBut d5.extBut D.TOi1.symm
  have n2' : g5.IsListIter i2 l2 (k2 + 1) := n4.extBut d5.extBut D.TOi2.symm
  have zlt : zz < g5.objs.size := Heap.lt_size z5
  show wpAny _ _ (Builtin.SmallTypes.ownedTupleHandOut (.ref zz) (.ref g5.objs.size) >>= _) _ _ _
  refine wpAny_bind ?_
  unfold Builtin.SmallTypes.ownedTupleHandOut
  have z6 : ZipM (g5.push { cls := .type "tuple", data := .seq #[x, y] }) zz TI TO .ellipsis f := Heap.get?_push_of_some _ z5
  refine wpAny_bind (wpAny_setField_rec z6 (by simp) fun g7 z7 d7 => ?_)
  replace z7 : ZipM g7 zz TI TO (rawInt g5.objs.size) f := z7
  refine wpAny_setField_rec z7 (by simp) fun g8 z8 d8 => ?_
  replace z8 : ZipM g8 zz TI TO (rawInt g5.objs.size) false := z8
  have up : ∀ c o, c ≠ zz → g5.get? c = some o → g8.get? c = some o := fun c o c1 e => d8.extBut _ _ c1 (d7.extBut _ _ c1 (Heap.get?_push_of_some _ e))
  have t8 : IsPair g8 g5.objs.size x y := d8.extBut _ _ (Nat.ne_of_gt zlt) (d7.extBut _ _ (Nat.ne_of_gt zlt) (Heap.get?_push_size _ rfl))
  have s8 : g8.objs.size = g5.objs.size + 1 := by rw [d8.1, d7.1, Heap.size_push]
  rw [sz] at z8 t8 s8
  refine wpAny_pure ⟨_, rfl, ?_⟩
  show Q (.ref g5.objs.size) _
  rw [sz]
  exact q g8 z8 (up _ _ D.TOz o5) (n1'.at fun o e => up _ o D.i1z e) (n2'.at fun o e => up _ o D.i2z e) t8 s8 fun c o c1 c2 c3 c4 e => up c o c1 (k5 c o c1 c2 c3 c4 e)
/-- no further pair, where the tuple that was handed out is gone -/
theorem ez_gone_end {zz TI TO T i1 i2 l1 l2 : Addr} {f : Bool} {k1 : Nat} {xs : Array Value} {Q : Fin → Shared → Prop} (hh : A.handled = none) (D : ZipApart zz TI TO i1 i2 l1 l2)
    (oz : ZipM s.heap zz TI TO (rawInt T) f) (gone : s.heap.get? T = none) (pI : IsPair s.heap TI (.ref i1) (.ref i2))
    (h1 : s.heap.IsListIter i1 l1 k1) (hl1 : s.heap.IsList l1 xs) (hx : xs[k1]? = none)
    (q : ∀ h' e, (∀ c o, c ≠ zz → c ≠ i1 → s.heap.get? c = some o → h'.get? c = some o) → (∃ o, h'.get? e = some o ∧ o.cls = .type "StopIteration") → E (.ref e) { s with heap := h' }) :
    wpAny (model prog w) A (Builtin.«zip.__next__» ⟨[.ref zz], []⟩) Q E s := by
  show wpAny _ _ (field (.ref zz) 2 >>= _) _ E s
  refine wpAny_bind (wpAny_field oz rfl (x := .bool false) rfl ?_)
  show wpAny _ _ (field (.ref zz) 3 >>= _) _ E s
  refine wpAny_bind (wpAny_field oz rfl (x := .ref TI) rfl (wpAny_bind (wpAny_seqItems pI rfl ?_)))
  show wpAny _ _ (Builtin.SmallTypes.ownedTupleIsFree (.ref zz) >>= _) _ E s
  refine wpAny_bind (ez_free oz gone ?_)
  simp only [if_true]
  refine wpAny_bind (wpAny_rule (wpAny_bind (wpAny_field oz rfl (x := .ref TO) rfl ?_)))
  refine wpAny_bind (wpAny_setField_rec oz (by simp) fun g1 z1 d1 => ?_)
  replace z1 : ZipM g1 zz TI TO .ellipsis f := z1
  simp only [List.zipIdx_cons, List.zipIdx_nil, List.forIn_cons, List.forIn_nil]
  refine wpAny_bind (wpAny_bind (wpAny_bind (wpAny_onRaise (show wpAny _ _ (Builtin.SmallTypes.nextOf (.ref i1) >>= _) _ _ _ from ?_))))
  refine wpAny_bind (wpAny_nextOf_list_end hh (h1.extBut d1.extBut D.i1z) (hl1.extBut d1.extBut D.l1z) hx fun g2 e d2 he => ?_)
  obtain ⟨oe, hoe, hce⟩ := he
  have z2 : ZipM g2 zz TI TO .ellipsis f := d2 _ _ D.i1z.symm z1
  have nez : e ≠ zz := fun u => by subst u; rw [z2] at hoe; cases hoe; simp at hce
  refine wpAny_setField_rec z2 (by simp) fun g3 _ d3 => q g3 e (fun c o c1 c3 u => d3.extBut _ _ c1 (d2 _ _ c3 (d1.extBut _ _ c1 u))) ⟨oe, d3.extBut _ _ nez hoe, hce⟩
/-- the zip at turn i: nothing handed out yet, or its mark names a tuple -/
structure ZipSt (h : Heap) (zz TI TO i1 i2 l1 l2 : Addr) (i : Nat) : Prop where
  z : ∃ m f, ZipM h zz TI TO m f ∧ ((m = .none ∧ f = false) ∨ ∃ T : Addr, m = rawInt T)
  pI : IsPair h TI (.ref i1) (.ref i2)
  pO : ∃ a b, IsPair h TO a b
  h1 : h.IsListIter i1 l1 i
  h2 : h.IsListIter i2 l2 i
theorem ZipSt.keep {h h' : Heap} {zz TI TO i1 i2 l1 l2 : Addr} {i : Nat} (Z : ZipSt h zz TI TO i1 i2 l1 l2 i) (k : ∀ c ∈ [zz, TI, TO, i1, i2], ∀ o, h.get? c = some o → h'.get? c = some o) : ZipSt h' zz TI TO i1 i2 l1 l2 i := by
  obtain ⟨m, f, z, r⟩ := Z.z
  obtain ⟨a, b, o⟩ := Z.pO
  exact ⟨⟨m, f, k zz (by simp) _ z, r⟩, k TI (by simp) _ Z.pI, ⟨a, b, k TO (by simp) _ o⟩, Z.h1.at fun o e => k i1 (by simp) o e, Z.h2.at fun o e => k i2 (by simp) o e⟩
section
variable {zz TI TO i1 i2 l1 l2 : Addr} {i : Nat} {xs ys : Array Value} {x y : Value}
theorem ez_item {Q : Value → Shared → Prop} (D : ZipApart zz TI TO i1 i2 l1 l2) (Z : ZipSt s.heap zz TI TO i1 i2 l1 l2 i) (hl1 : s.heap.IsList l1 xs) (hl2 : s.heap.IsList l2 ys) (hx : xs[i]? = some x) (hy : ys[i]? = some y)
    (q : ∀ h', ZipSt h' zz TI TO i1 i2 l1 l2 (i + 1) → IsPair h' s.heap.objs.size x y → h'.objs.size = s.heap.objs.size + 1 → (∀ c o, c ∉ [zz, TI, TO, i1, i2] → s.heap.get? c = some o → h'.get? c = some o) → Q (.ref s.heap.objs.size) { s with heap := h' }) :
    wpAny (model prog w) A (Builtin.«zip.__next__» ⟨[.ref zz], []⟩) (fun r s' => ∃ v, r = .done (.ret v) ∧ Q v s') E s := by
  obtain ⟨m, f, z, r⟩ := Z.z
  obtain ⟨a, b, o⟩ := Z.pO
  have no : ∀ c : Addr, c ∉ [zz, TI, TO, i1, i2] → c ≠ zz ∧ c ≠ TO ∧ c ≠ i1 ∧ c ≠ i2 := fun c hc => ⟨fun u => hc (by simp [u]), fun u => hc (by simp [u]), fun u => hc (by simp [u]), fun u => hc (by simp [u])⟩
  rcases r with ⟨rfl, rfl⟩ | ⟨T, rfl⟩
  · exact zip_next_item D z Z.pI o Z.h1 Z.h2 hl1 hl2 hx hy fun h' a1 a2 a3 a4 a5 a6 a7 => q h' ⟨⟨_, _, a1, .inr ⟨_, rfl⟩⟩, a7 _ _ D.TIz D.TITO D.TIi1 D.TIi2 Z.pI, ⟨_, _, a2⟩, a3, a4⟩ a5 a6 fun c u hc e => a7 c u (no c hc).1 (no c hc).2.1 (no c hc).2.2.1 (no c hc).2.2.2 e
  · cases ht : s.heap.get? T with
    | none => exact ez_gone_item D z ht Z.pI o Z.h1 Z.h2 hl1 hl2 hx hy fun h' a1 a2 a3 a4 a5 a6 a7 => q h' ⟨⟨_, _, a1, .inr ⟨_, rfl⟩⟩, a7 _ _ D.TIz D.TITO D.TIi1 D.TIi2 Z.pI, ⟨_, _, a2⟩, a3, a4⟩ a5 a6 fun c u hc e => a7 c u (no c hc).1 (no c hc).2.1 (no c hc).2.2.1 (no c hc).2.2.2 e
    | some oT => exact zip_next_item_held D z ht Z.pI Z.h1 Z.h2 hl1 hl2 hx hy fun h' a1 a3 a4 a5 a6 a7 => q h' ⟨⟨_, _, a1, .inr ⟨_, rfl⟩⟩, a7 _ _ D.TIz D.TIi1 D.TIi2 Z.pI, ⟨_, _, a7 _ _ D.TOz D.TOi1 D.TOi2 o⟩, a3, a4⟩ a5 a6 fun c u hc e => a7 c u (no c hc).1 (no c hc).2.2.1 (no c hc).2.2.2 e
theorem ez_end {Q : Fin → Shared → Prop} (hh : A.handled = none) (D : ZipApart zz TI TO i1 i2 l1 l2) (Z : ZipSt s.heap zz TI TO i1 i2 l1 l2 i) (hl1 : s.heap.IsList l1 xs) (hl2 : s.heap.IsList l2 ys) (hx : xs[i]? = none)
    (q : ∀ h' e, (∀ c o, c ∉ [zz, TI, TO, i1, i2] → s.heap.get? c = some o → h'.get? c = some o) → (∃ o, h'.get? e = some o ∧ o.cls = .type "StopIteration") → E (.ref e) { s with heap := h' }) :
    wpAny (model prog w) A (Builtin.«zip.__next__» ⟨[.ref zz], []⟩) Q E s := by
  obtain ⟨m, f, z, r⟩ := Z.z
  obtain ⟨a, b, o⟩ := Z.pO
  have no : ∀ c : Addr, c ∉ [zz, TI, TO, i1, i2] → c ≠ zz ∧ c ≠ TO ∧ c ≠ i1 ∧ c ≠ i2 := fun c hc => ⟨fun u => hc (by simp [u]), fun u => hc (by simp [u]), fun u => hc (by simp [u]), fun u => hc (by simp [u])⟩
  rcases r with ⟨rfl, rfl⟩ | ⟨T, rfl⟩
  · exact zip_next_end hh D z Z.pI o Z.h1 Z.h2 hl1 hl2 (.inl hx) fun h' e k st => q h' e (fun c u hc => k c u (no c hc).1 (no c hc).2.1 (no c hc).2.2.1 (no c hc).2.2.2) st
  · cases ht : s.heap.get? T with
    | none => exact ez_gone_end hh D z ht Z.pI Z.h1 hl1 hx fun h' e k st => q h' e (fun c u hc => k c u (no c hc).1 (no c hc).2.2.1) st
    | some oT => exact zip_next_end_held hh D z ht Z.pI Z.h1 Z.h2 hl1 hl2 (.inl hx) fun h' e k st => q h' e (fun c u hc => k c u (no c hc).1 (no c hc).2.2.1 (no c hc).2.2.2) st
theorem ez_type (Z : ZipSt s.heap zz TI TO i1 i2 l1 l2 i) : s.TypeIs (.ref zz) "zip" := by
  obtain ⟨m, f, z, _⟩ := Z.z
  exact ⟨_, z, rfl⟩
theorem ez_nextOf_item {Q : Value → Shared → Prop} (D : ZipApart zz TI TO i1 i2 l1 l2) (Z : ZipSt s.heap zz TI TO i1 i2 l1 l2 i) (hl1 : s.heap.IsList l1 xs) (hl2 : s.heap.IsList l2 ys) (hx : xs[i]? = some x) (hy : ys[i]? = some y)
    (q : ∀ h', ZipSt h' zz TI TO i1 i2 l1 l2 (i + 1) → IsPair h' s.heap.objs.size x y → h'.objs.size = s.heap.objs.size + 1 → (∀ c o, c ∉ [zz, TI, TO, i1, i2] → s.heap.get? c = some o → h'.get? c = some o) → Q (.ref s.heap.objs.size) { s with heap := h' }) :
    wpAny (model prog w) A (Builtin.SmallTypes.nextOf (.ref zz)) Q E s := by
  have ty := ez_type Z
  unfold Builtin.SmallTypes.nextOf
  exact wpAny_bind (wpAny_callSpecial?_slot (name := Str.ofString "__next__") ty F.slot_zip_next (wpAny_call_entry F.slot_zip_next ty F.entry_zip_next
    (ez_item D Z hl1 hl2 hx hy fun h' a b c d => wpAny_pure (q h' a b c d)) (F.args_zip_next_1 _)))
theorem ez_nextOf_end {Q : Value → Shared → Prop} (hh : A.handled = none) (D : ZipApart zz TI TO i1 i2 l1 l2) (Z : ZipSt s.heap zz TI TO i1 i2 l1 l2 i) (hl1 : s.heap.IsList l1 xs) (hl2 : s.heap.IsList l2 ys) (hx : xs[i]? = none)
    (q : ∀ h' e, (∀ c o, c ∉ [zz, TI, TO, i1, i2] → s.heap.get? c = some o → h'.get? c = some o) → (∃ o, h'.get? e = some o ∧ o.cls = .type "StopIteration") → E (.ref e) { s with heap := h' }) :
    wpAny (model prog w) A (Builtin.SmallTypes.nextOf (.ref zz)) Q E s := by
  have ty := ez_type Z
  unfold Builtin.SmallTypes.nextOf
  exact wpAny_bind (wpAny_callSpecial?_slot (name := Str.ofString "__next__") ty F.slot_zip_next (wpAny_call_entry F.slot_zip_next ty F.entry_zip_next
    (ez_end hh D Z hl1 hl2 hx q) (F.args_zip_next_1 _)))
/-- enumerate's next over a zip -/
theorem ezn_item {e : Addr} {old : Value} {Q : Value → Shared → Prop} (oe : IsEnum s.heap e zz ((i : Nat) : Int) old) (D : ZipApart zz TI TO i1 i2 l1 l2) (ne : e ∉ [zz, TI, TO, i1, i2]) (Z : ZipSt s.heap zz TI TO i1 i2 l1 l2 i)
    (hl1 : s.heap.IsList l1 xs) (hl2 : s.heap.IsList l2 ys) (hx : xs[i]? = some x) (hy : ys[i]? = some y)
    (q : ∀ h', IsEnumOut h' e zz ((i : Int) + 1) (.ref s.heap.objs.size) (s.heap.objs.size + 1) → ZipSt h' zz TI TO i1 i2 l1 l2 (i + 1) → IsPair h' s.heap.objs.size x y →
      IsPair h' (s.heap.objs.size + 1) (.int i s.toks) (.ref s.heap.objs.size) → h'.objs.size = s.heap.objs.size + 2 → (∀ c o, c ∉ [e, zz, TI, TO, i1, i2] → s.heap.get? c = some o → h'.get? c = some o) → Q (.ref (s.heap.objs.size + 1)) { s with heap := h', toks := s.toks + 1 }) :
    wpAny (model prog w) A (Builtin.«enumerate.__next__» ⟨[.ref e], []⟩) (fun r s' => ∃ v, r = .done (.ret v) ∧ Q v s') E s := by
  obtain ⟨hp, g, d, tk, os⟩ := s
  show wpAny _ _ (field (.ref e) 2 >>= _) _ E _
  refine wpAny_bind (wpAny_field oe rfl (x := .ref zz) rfl (wpAny_bind (ez_nextOf_item D Z hl1 hl2 hx hy fun g1 Z1 p1 s1 k1 => ?_)))
  have e1 : IsEnum g1 e zz ((i : Nat) : Int) old := k1 e _ ne oe
  show wpAny _ _ (field (.ref e) 3 >>= _) _ E ⟨g1, g, d, tk, os⟩
  refine wpAny_bind (wpAny_field e1 rfl (x := rawInt ((i : Nat) : Int)) rfl ?_)
  show wpAny _ _ (field (.ref e) 4 >>= _) _ E ⟨g1, g, d, tk, os⟩
  refine wpAny_bind (wpAny_field e1 rfl (x := .none) rfl ?_)
  show wpAny _ _ (mkInt ((i : Nat) : Int) >>= _) _ E ⟨g1, g, d, tk, os⟩
  refine wpAny_bind (wpAny_mkInt ?_)
  show wpAny _ _ (setField (.ref e) 3 (rawInt (((i : Nat) : Int) + 1)) >>= _) _ E ⟨g1, g, d, tk + 1, os⟩
  refine wpAny_bind (wpAny_setField_rec e1 (by simp) fun g2 e2 d2 => ?_)
  replace d2 : Heap.SameBut e g1 g2 := d2
  replace e2 : IsEnum g2 e zz (((i : Nat) : Int) + 1) old := e2
  show wpAny _ _ (setField (.ref e) 4 .none >>= _) _ E ⟨g2, g, d, tk + 1, os⟩
  refine wpAny_bind (wpAny_setField_rec e2 (by simp) fun g3 e3 d3 => ?_)
  replace d3 : Heap.SameBut e g2 g3 := d3
  replace e3 : IsEnum g3 e zz (((i : Nat) : Int) + 1) old := e3
  show wpAny _ _ (newTuple [.int ((i : Nat) : Int) tk, .ref hp.objs.size] >>= _) _ E ⟨g3, g, d, tk + 1, os⟩
  refine wpAny_bind (wpAny_newTuple ?_)
  have s3 : g3.objs.size = hp.objs.size + 1 := by rw [d3.1, d2.1, s1]
  have e4 : IsEnum (g3.push { cls := .type "tuple", data := .seq #[.int ((i : Nat) : Int) tk, .ref hp.objs.size] }) e zz (((i : Nat) : Int) + 1) old := Heap.get?_push_of_some _ e3
  have k4 : ∀ c o, c ≠ e → g1.get? c = some o → (g3.push { cls := .type "tuple", data := .seq #[.int ((i : Nat) : Int) tk, .ref hp.objs.size] }).get? c = some o := fun c o hc u => Heap.get?_push_of_some _ (d3.extBut c o hc (d2.extBut c o hc u))
  have t4 : IsPair (g3.push { cls := .type "tuple", data := .seq #[.int ((i : Nat) : Int) tk, .ref hp.objs.size] }) (hp.objs.size + 1) (.int i tk) (.ref hp.objs.size) := by
    have := Heap.get?_push_size g3 (o := { cls := .type "tuple", data := .seq #[.int ((i : Nat) : Int) tk, .ref hp.objs.size] }) rfl
    rw [s3] at this
    exact this
  have s4 : (g3.push { cls := .type "tuple", data := .seq #[.int ((i : Nat) : Int) tk, .ref hp.objs.size] }).objs.size = hp.objs.size + 2 := by rw [Heap.size_push, s3]
  show wpAny _ _ (Builtin.SmallTypes.ownedTupleIsFree (.ref e) >>= _) _ E ⟨g3.push { cls := .type "tuple", data := .seq #[.int ((i : Nat) : Int) tk, .ref hp.objs.size] }, g, d, tk + 1, os⟩
  rw [s3]
  generalize g3.push { cls := .type "tuple", data := .seq #[.int ((i : Nat) : Int) tk, .ref hp.objs.size] } = g4 at e4 k4 t4 s4 ⊢
  clear e3 d3 e2 d2 e1 s3 g3 g2
  have elt : e < hp.objs.size := Heap.lt_size oe
  refine wpAny_bind ?_
  unfold Builtin.SmallTypes.ownedTupleIsFree
  refine wpAny_bind (wpAny_field e4 rfl (x := .none) rfl (wpAny_pure ?_))
  simp only [if_true]
  refine wpAny_bind (wpAny_rule (wpAny_bind (wpAny_field e4 rfl (x := old) rfl ?_)))
  refine wpAny_bind (wpAny_setField_rec e4 (by simp) fun g5 e5 d5 => ?_)
  replace d5 : Heap.SameBut e g4 g5 := d5
  replace e5 : IsEnum g5 e zz (((i : Nat) : Int) + 1) (.ref hp.objs.size) := e5
  show wpAny _ _ (Builtin.SmallTypes.ownedTupleHandOut (.ref e) (.ref (hp.objs.size + 1)) >>= _) _ E ⟨g5, g, d, tk + 1, os⟩
  refine wpAny_bind ?_
  unfold Builtin.SmallTypes.ownedTupleHandOut
  refine wpAny_bind (wpAny_setField_rec e5 (by simp) fun g6 e6 d6 => ?_)
  replace d6 : Heap.SameBut e g5 g6 := d6
  replace e6 : IsEnumOut g6 e zz (((i : Nat) : Int) + 1) (.ref hp.objs.size) (hp.objs.size + 1) := e6
  refine wpAny_setField_rec e6 (by simp) fun g7 e7 d7 => ?_
  replace d7 : Heap.SameBut e g6 g7 := d7
  replace e7 : IsEnumOut g7 e zz (((i : Nat) : Int) + 1) (.ref hp.objs.size) (hp.objs.size + 1) := e7
  have k7 : ∀ c o, c ≠ e → g4.get? c = some o → g7.get? c = some o := fun c o hc u => d7.extBut c o hc (d6.extBut c o hc (d5.extBut c o hc u))
  have up : ∀ c o, c ≠ e → g1.get? c = some o → g7.get? c = some o := fun c o hc u => k7 c o hc (k4 c o hc u)
  refine wpAny_bind (wpAny_letGo (wpAny_pure ⟨_, rfl, q g7 e7 (Z1.keep fun c hc o u => up c o (fun v => ne (v ▸ hc)) u) (up _ _ (Nat.ne_of_gt elt) p1) (k7 _ _ (Nat.ne_of_gt (Nat.lt_succ_of_lt elt)) t4) ?_ fun c o hc u => ?_⟩))
  · rw [d7.1, d6.1, d5.1, s4]
  · have hce : c ≠ e := fun v => hc (by simp [v])
    exact up c o hce (k1 c o (fun v => hc (List.mem_cons_of_mem _ v)) u)
theorem ezn_pyNext {e : Addr} {old : Value} {Q : Option Value → Shared → Prop} (oe : IsEnum s.heap e zz ((i : Nat) : Int) old) (D : ZipApart zz TI TO i1 i2 l1 l2) (ne : e ∉ [zz, TI, TO, i1, i2]) (Z : ZipSt s.heap zz TI TO i1 i2 l1 l2 i)
    (hl1 : s.heap.IsList l1 xs) (hl2 : s.heap.IsList l2 ys) (hx : xs[i]? = some x) (hy : ys[i]? = some y)
    (q : ∀ h', IsEnumOut h' e zz ((i : Int) + 1) (.ref s.heap.objs.size) (s.heap.objs.size + 1) → ZipSt h' zz TI TO i1 i2 l1 l2 (i + 1) → IsPair h' s.heap.objs.size x y →
      IsPair h' (s.heap.objs.size + 1) (.int i s.toks) (.ref s.heap.objs.size) → h'.objs.size = s.heap.objs.size + 2 → (∀ c o, c ∉ [e, zz, TI, TO, i1, i2] → s.heap.get? c = some o → h'.get? c = some o) → Q (some (.ref (s.heap.objs.size + 1))) { s with heap := h', toks := s.toks + 1 }) :
    wpAny (model prog w) A (pyNext (.ref e)) Q E s := by
  have ty : s.TypeIs (.ref e) "enumerate" := ⟨_, oe, rfl⟩
  unfold pyNext
  exact wpAny_bind (wpAny_attempt (wpAny_callSpecial?_slot (name := Str.ofString "__next__") ty F.slot_enumerate_next (wpAny_call_entry F.slot_enumerate_next ty F.entry_enumerate_next
    (ezn_item oe D ne Z hl1 hl2 hx hy fun h' a b c d f k => wpAny_pure (q h' a b c d f k)) (F.args_enumerate_next_1 _))))
theorem ezn_pyNext_end {e : Addr} {old : Value} {Q : Option Value → Shared → Prop} (hh : A.handled = none) (oe : IsEnum s.heap e zz ((i : Nat) : Int) old) (D : ZipApart zz TI TO i1 i2 l1 l2) (Z : ZipSt s.heap zz TI TO i1 i2 l1 l2 i)
    (hl1 : s.heap.IsList l1 xs) (hl2 : s.heap.IsList l2 ys) (hx : xs[i]? = none)
    (q : ∀ h', (∀ c o, c ∉ [zz, TI, TO, i1, i2] → s.heap.get? c = some o → h'.get? c = some o) → Q none { s with heap := h' }) : wpAny (model prog w) A (pyNext (.ref e)) Q E s := by
  have ty : s.TypeIs (.ref e) "enumerate" := ⟨_, oe, rfl⟩
  unfold pyNext
  refine wpAny_bind (wpAny_attempt (wpAny_callSpecial?_slot (name := Str.ofString "__next__") ty F.slot_enumerate_next (wpAny_call_entry F.slot_enumerate_next ty F.entry_enumerate_next ?_ (F.args_enumerate_next_1 _))))
  show wpAny _ _ (field (.ref e) 2 >>= _) _ _ _
  refine wpAny_bind (wpAny_field oe rfl (x := .ref zz) rfl (wpAny_bind (ez_nextOf_end hh D Z hl1 hl2 hx fun h' a k st => ?_)))
  obtain ⟨o, ho, hc⟩ := st
  exact wpAny_bind (wpAny_isInstance (T := "StopIteration") (b := true) ⟨o, ho, hc⟩ isSubtype_stop (wpAny_pure (q _ k)))
/-- a zip walks itself -/
theorem iter_zip {m : Value} {f : Bool} {A : Around} {E Q : Value → Shared → Prop} {s : Shared} (z : ZipM s.heap zz TI TO m f) (q : Q (.ref zz) s) : wpAny (model prog w) A (pyIter (.ref zz)) Q E s :=
  have ty : Shared.TypeIs s (.ref zz) "zip" := ⟨_, z, rfl⟩
  wpAny_pyIter_slot ty F.slot_zip_iter (wpAny_call_entry F.slot_zip_iter ty F.entry_zip_iter (show wpAny _ _ (ret (.ref zz)) _ _ _ from wpAny_pure ⟨_, rfl, "zip", _, ty, F.slot_zip_next.lookup, q⟩) (F.args_zip_iter_1 _))
/-- enumerate(z), z a zip -/
theorem meets_enumerate_newZ {m : Value} {f : Bool} : Meets (Builtin.«enumerate.__new__» ⟨[.type "enumerate", .ref zz], []⟩) (fun _ R s => ZipM s.heap zz TI TO m f ∧
      R (.ok (.ret (.ref s.heap.objs.size))) { s with heap := s.heap.push { cls := .type "enumerate", data := .fields #[.none, .bool false, .ref zz, rawInt 0, .none, .none] } }) :=
  .of_wp fun prog w A R ⟨hp, g, d, tk, os⟩ ⟨z, h⟩ => by
    have q1 : ∀ {A' : Around} {E : Value → Shared → Prop} {Q : Value → Shared → Prop}, Q (.ref zz) ⟨hp, g, d, tk, os⟩ → wpAny (model prog w) A' (pyIter (.ref zz)) Q E ⟨hp, g, d, tk, os⟩ := iter_zip z
    have sub := sub_enumerate
    wp_walk using q1
    refine wpAny_stack_any fun st => wpAny_pure ?_
    split
    case h_1 c _ _ _ _ _ => cases (c == Value.type "enumerate") <;> (wp_walk using q1; exact ⟨_, rfl, h⟩)
    case h_2 => wp_walk using q1; exact ⟨_, rfl, h⟩
theorem call_enumerate_zip {m : Value} {f : Bool} {Q : Value → Shared → Prop} (oz : ZipM s.heap zz TI TO m f)
    (q : ∀ h', IsEnum h' s.heap.objs.size zz 0 .none → h'.objs.size = s.heap.objs.size + 1 → (∀ b o, s.heap.get? b = some o → h'.get? b = some o) → Q (.ref s.heap.objs.size) { s with heap := h' }) :
    wpAny (model prog w) A (call (.type "enumerate") [.ref zz]) Q E s := by
  refine callType_new F.called_enumerate (by decide) (F.typeCall_enumerate_1 _) (F.newCall_enumerate_1 _) (fun obj => F.args_object_init_2 obj _) F.entry_enumerate_new (meets_enumerate_newZ (m := m) (f := f) (TI := TI) (TO := TO)) ⟨oz, ?_⟩
  have he : IsEnum (s.heap.push { cls := .type "enumerate", data := .fields #[.none, .bool false, .ref zz, rawInt 0, .none, .none] }) s.heap.objs.size zz 0 .none := Heap.get?_push_size _ rfl
  exact ⟨⟨_, he, rfl⟩, q _ he (Heap.size_push ..) fun b o u => Heap.get?_push_of_some _ u⟩
end
end
end PySem
set_option Elab.async false
set_option linter.all false
set_option maxRecDepth 100000
set_option maxHeartbeats 4000000
/-! for i, (a, b) in enumerate(zip(xs, ys)), as a rule of the layer; xs no longer than ys -/
namespace Cr
open PySem PySem.Spec PyProof.Rows L2
/-- the lists at a and b as they stand at each turn: a pair, and the index with it -/
def Itez (K : PySem.W.Frag) (a b : Addr) : It :=
  ⟨fun i H => ∃ (xs ys : List V) (x y : V), SqL K H a xs ∧ SqL K H b ys ∧ xs[i]? = some x ∧ ys[i]? = some y,
    fun i H v H' => ∃ T U x y, v = .ref U ∧ H T = none ∧ H U = none ∧ U ≠ T ∧ H' = upd (upd H T (.tup [x, y])) U (.tup [.int (i : Nat), .ref T]) ∧ (∀ xs, SqL K H a xs → xs[i]? = some x) ∧ ∀ ys, SqL K H b ys → ys[i]? = some y,
    fun i H => ∃ xs ys : List V, SqL K H a xs ∧ SqL K H b ys ∧ xs.length ≤ i⟩
theorem turn_ez {P : Program} {w : World} {K : PySem.W.Frag} {elts : List Expr} {kk : Nat} {tpos : Pos} {a b e z TI TO i1 i2 : Addr} (D : ZipApart z TI TO i1 i2 a b) (ne : e ∉ [z, TI, TO, i1, i2]) :
    Turn P w K (.Tuple elts kk tpos) (Itez K a b) [e, z, TI, TO, i1, i2] e (fun i h => (∃ old, IsEnum h e z ((i : Nat) : Int) old) ∧ ZipSt h z TI TO i1 i2 a b i) where
  mem := List.mem_cons_self
  obj := fun i h st c hc => by
    obtain ⟨⟨old, he⟩, Z⟩ := st
    obtain ⟨m, f, hz, _⟩ := Z.z
    obtain ⟨x, y, hO⟩ := Z.pO
    obtain ⟨o1, e1, _, d1⟩ := Z.h1
    obtain ⟨o2, e2, _, d2⟩ := Z.h2
    rcases List.mem_cons.mp hc with q | hc
    · rw [q]; exact ⟨_, he, fun v u => nomatch u⟩
    rcases List.mem_cons.mp hc with q | hc
    · rw [q]; exact ⟨_, hz, fun v u => nomatch u⟩
    rcases List.mem_cons.mp hc with q | hc
    · rw [q]; exact ⟨_, Z.pI, fun v u => nomatch u⟩
    rcases List.mem_cons.mp hc with q | hc
    · rw [q]; exact ⟨_, hO, fun v u => nomatch u⟩
    rcases List.mem_cons.mp hc with q | hc
    · rw [q]; exact ⟨o1, e1, fun v u => by rw [d1] at u; cases u⟩
    · rw [List.mem_singleton.mp hc]; exact ⟨o2, e2, fun v u => by rw [d2] at u; cases u⟩
  keep := fun i h h' st k => by
    obtain ⟨⟨old, he⟩, Z⟩ := st
    exact ⟨⟨old, k e List.mem_cons_self _ he⟩, Z.keep fun c hc o u => k c (List.mem_cons_of_mem _ hc) o u⟩
  item := by
    intro X hP hw hK hc i pins s σ H E I hf st hg
    subst hP hw hK
    obtain ⟨⟨old, he⟩, Z⟩ := st
    obtain ⟨xs, ys, x, y, hqx, hqy, hx, hy⟩ := hg
    obtain ⟨its, rv, p, _⟩ := I.list hqx
    obtain ⟨its2, rv2, p2, _⟩ := I.list hqy
    obtain ⟨u, hu, ru⟩ := rv.get hx
    obtain ⟨u2, hu2, ru2⟩ := rv2.get hy
    refine ezn_pyNext he D ne Z p.isList p2.isList (x := u) (y := u2) (by simpa using hu) (by simpa using hu2) fun h' ho' Z' t1 t2 sz k => ?_
    have elt : e < s.heap.objs.size := Heap.lt_size he
    refine ⟨_, rfl, wpAny_letOwnedTupleGo_enum (s := { s with heap := h', toks := s.toks + 1 }) ho' fun h2 he2 sb => ?_⟩
    have t1' : IsPair h2 s.heap.objs.size u u2 := (sb.2 _ (Nat.ne_of_gt elt)).trans t1
    have t2' : IsPair h2 (s.heap.objs.size + 1) (.int i s.toks) (.ref s.heap.objs.size) := (sb.2 _ (Nat.ne_of_gt (Nat.lt_succ_of_lt elt))).trans t2
    -- the pair is laid first
    have flt : ∀ c ∈ [e, z, TI, TO, i1, i2], c < s.heap.objs.size := fun c hc => by
      obtain ⟨m, f, hz, _⟩ := Z.z
      obtain ⟨_, _, hO⟩ := Z.pO
      obtain ⟨_, e1, _⟩ := Z.h1
      obtain ⟨_, e2, _⟩ := Z.h2
      simp only [List.mem_cons, List.mem_nil_iff, or_false] at hc
      rcases hc with q | q | q | q | q | q
      · rw [q]; exact elt
      · rw [q]; exact Heap.lt_size hz
      · rw [q]; exact Heap.lt_size Z.pI
      · rw [q]; exact Heap.lt_size hO
      · rw [q]; exact Heap.lt_size e1
      · rw [q]; exact Heap.lt_size e2
    have hT : H s.heap.objs.size = none := I.hok.fresh (Nat.le_refl _)
    have pz : (s.heap.push { cls := .type "tuple", data := .seq #[u, u2] }).objs.size = s.heap.objs.size + 1 := Heap.size_push ..
    have pt : (s.heap.push { cls := .type "tuple", data := .seq #[u, u2] }).get? s.heap.objs.size = some { cls := .type "tuple", data := .seq #[u, u2] } := Heap.get?_push_size _ rfl
    have new1 : ObjOk X.prog X.w (upd H s.heap.objs.size (.tup [x, y])) (s.heap.push { cls := .type "tuple", data := .seq #[u, u2] }) s.heap.objs.size (.tup [x, y]) :=
      ⟨by show 2 ≤ sizeLine; decide, [u, u2], .cons ru (.cons ru2 .nil), ⟨_, pt, rfl, _, rfl⟩⟩
    have I1 : Inv X pins σ (upd H s.heap.objs.size (.tup [x, y])) { s with heap := s.heap.push { cls := .type "tuple", data := .seq #[u, u2] }, toks := s.toks + 1 } :=
      I.laid (fun c o q => Heap.get?_push_of_some _ q) (Nat.le_refl _) new1
    have hU : upd H s.heap.objs.size (.tup [x, y]) (s.heap.objs.size + 1) = none := I1.hok.fresh (by show (s.heap.push _).objs.size ≤ _; rw [pz]; exact Nat.le_refl _)
    have hU0 : H (s.heap.objs.size + 1) = none := I.hok.fresh (Nat.le_succ _)
    have hf1 : ∀ c ∈ [e, z, TI, TO, i1, i2], FpOk X pins (upd H s.heap.objs.size (.tup [x, y])) c := fun c hc => ⟨by rw [upd_ne (Nat.ne_of_lt (flt c hc))]; exact (hf c hc).1, (hf c hc).2⟩
    have new2 : ObjOk X.prog X.w (upd (upd H s.heap.objs.size (.tup [x, y])) (s.heap.objs.size + 1) (.tup [.int (i : Nat), .ref s.heap.objs.size])) h2 (s.heap.objs.size + 1) (.tup [.int (i : Nat), .ref s.heap.objs.size]) :=
      ⟨by show 2 ≤ sizeLine; decide, [.int i s.toks, .ref s.heap.objs.size], .cons ⟨_, rfl⟩ (.cons rfl .nil), ⟨_, t2', rfl, _, rfl⟩⟩
    have I2 := I1.turnedNew (h' := h2) (t' := s.toks + 1) (ch := [e, z, TI, TO, i1, i2]) (T := s.heap.objs.size + 1) (fun c o hc q => by
      rcases Heap.get?_push_cases q with ⟨rfl, rfl⟩ | q
      · exact t1'
      · exact (sb.2 c (fun v => hc (by simp [v]))).trans (k c o hc q)) hf1 (by show (s.heap.push _).objs.size ≤ _; rw [pz]; exact Nat.le_refl _) new2
    refine ⟨.ref (s.heap.objs.size + 1), _, I2, rfl, ⟨_, _, x, y, rfl, hT, hU0, Nat.succ_ne_self _, rfl, fun l hl => by rw [I.list_inj hl hqx]; exact hx, fun l hl => by rw [I.list_inj hl hqy]; exact hy⟩, ⟨⟨.ref s.heap.objs.size, ?_⟩, Z'.keep fun c hc o q => (sb.2 c (fun v => ne (v ▸ hc))).trans q⟩, fun c hc => ?_⟩
    · have e1 : ((i + 1 : Nat) : Int) = (i : Int) + 1 := by omega
      rw [e1]; exact he2
    · rw [upd_ne (Nat.ne_of_lt (Nat.lt_succ_of_lt (flt c hc))), upd_ne (Nat.ne_of_lt (flt c hc))]
      exact (hf c hc).1
  done := by
    intro X hP hw hK hc i pins s σ H E I hf st hg
    subst hP hw hK
    obtain ⟨⟨old, he⟩, Z⟩ := st
    obtain ⟨xs, ys, hqx, hqy, hend⟩ := hg
    obtain ⟨its, rv, p, _⟩ := I.list hqx
    obtain ⟨its2, rv2, p2, _⟩ := I.list hqy
    have l1 := rv.length
    exact ezn_pyNext_end (I.ok.hd hc) he D Z p.isList p2.isList (by simp; omega) fun h' k => ⟨rfl, I.turnedL (t' := s.toks) (ch := [e, z, TI, TO, i1, i2]) (fun c o hc q => k c o (fun v => hc (List.mem_cons_of_mem _ v)) q) hf⟩
  self := fun A i s Q E st h => let ⟨⟨_, he⟩, _⟩ := st; wpAny_pyIter_enum he h
def iEz (K : PySem.W.Frag) (ta : TA) : TI := fun σ H R => ta σ H fun vs H1 => ∃ a b xs ys, vs = [.ref a, .ref b] ∧ SqL K H1 a xs ∧ SqL K H1 b ys ∧ R (Itez K a b) H1
theorem pi_ez {X : Cx} {e e2 : Expr} {ta : TA} {p p2 pos pos2 tpos : Pos} {elts : List Expr} {kk : Nat} (hg : Gl X "enumerate") (hm : X.mg "enumerate" = none) (hgz : Gl X "zip") (hmz : X.mg "zip" = none) (ha : PA X [e, e2] ta)
    (hs1 : starEach [.Call (.Name "zip" p2) [e, e2] [] pos2] X.env = (false, eval (.Call (.Name "zip" p2) [e, e2] [] pos2) X.env) :: starEach [] X.env := by rfl)
    (hs : starEach [e, e2] X.env = (false, eval e X.env) :: starEach [e2] X.env := by rfl) (hpl : (backTo pos2 (starEach [e2] X.env)).any (·.1) = false := by rfl) :
    PI X (.Tuple elts kk tpos) (.Call (.Name "enumerate" p) [.Call (.Name "zip" p2) [e, e2] [] pos2] [] pos) (iEz X.K ta) := by
  refine ⟨fun pins s σ H R I h => ?_⟩
  refine Call_ (ld_blt I hg hm boot_enumerate (PyProof.Rows.callWith_type1 (PyProof.Rows.args_cons ?_) hs1 (by rfl)))
  refine Call_ (ld_blt I hgz hmz PyProof.Rows.boot_zip (PyProof.Rows.callWith_type1 (thn (ha.run pos2 pins s σ H _ I h) fun us s1 ⟨vs, H1, I1, r1, q1⟩ => ?_) hs hpl))
  obtain ⟨a, b, xs, ys, ex, hqx, hqy, q⟩ := q1
  subst ex
  obtain ⟨u1, u2, rfl, e1, e2⟩ := vals2 r1
  cases e1
  cases e2
  obtain ⟨_, rv, p1, _⟩ := I1.list hqx
  obtain ⟨_, rv2, p2, _⟩ := I1.list hqy
  have la := p1.lt
  have lb := p2.lt
  refine call_zip_2 p1.isList p2.isList fun h' hz hTI hTO h1 h2 hsz hk => PyProof.Rows.args_nil (call_enumerate_zip (s := { s1 with heap := h' }) hz fun h3 he3 sz3 k3 => wpAny_pyIter_enum he3 ?_)
  have D := PySem.W.ktu_apart s1.heap.objs.size a b la lb
  have I2 : Inv X pins σ H1 { s1 with heap := h3 } := I1.kept (t' := s1.toks) fun c o u => k3 c o (hk c o u)
  have Z : ZipSt h' (s1.heap.objs.size + 4) (s1.heap.objs.size + 2) (s1.heap.objs.size + 3) s1.heap.objs.size (s1.heap.objs.size + 1) a b 0 := ⟨⟨_, _, hz, .inl ⟨rfl, rfl⟩⟩, hTI, ⟨_, _, hTO⟩, h1, h2⟩
  have ez : h'.objs.size = s1.heap.objs.size + 5 := hsz
  have hle : ∀ c ∈ [h'.objs.size, s1.heap.objs.size + 4, s1.heap.objs.size + 2, s1.heap.objs.size + 3, s1.heap.objs.size, s1.heap.objs.size + 1], s1.heap.objs.size ≤ c := fun c hc => by
    simp only [List.mem_cons, List.mem_nil_iff, or_false] at hc
    rcases hc with v | v | v | v | v | v
    · rw [v, ez]; exact Nat.le_add_right _ _
    · rw [v]; exact Nat.le_add_right _ _
    · rw [v]; exact Nat.le_add_right _ _
    · rw [v]; exact Nat.le_add_right _ _
    · rw [v]; exact Nat.le_refl _
    · rw [v]; exact Nat.le_add_right _ _
  have ne : h'.objs.size ∉ [s1.heap.objs.size + 4, s1.heap.objs.size + 2, s1.heap.objs.size + 3, s1.heap.objs.size, s1.heap.objs.size + 1] := fun hc => by
    have hlt : ∀ c ∈ [s1.heap.objs.size + 4, s1.heap.objs.size + 2, s1.heap.objs.size + 3, s1.heap.objs.size, s1.heap.objs.size + 1], c < s1.heap.objs.size + 5 := fun c hc => by
      simp only [List.mem_cons, List.mem_nil_iff, or_false] at hc
      rcases hc with v | v | v | v | v
      · rw [v]; exact Nat.add_lt_add_left (show 4 < 5 by decide) _
      · rw [v]; exact Nat.add_lt_add_left (show 2 < 5 by decide) _
      · rw [v]; exact Nat.add_lt_add_left (show 3 < 5 by decide) _
      · rw [v]; exact Nat.lt_add_of_pos_right (show 0 < 5 by decide)
      · rw [v]; exact Nat.add_lt_add_left (show 1 < 5 by decide) _
    have := hlt _ hc
    rw [ez] at this
    exact Nat.lt_irrefl _ this
  refine ⟨h'.objs.size, [h'.objs.size, s1.heap.objs.size + 4, s1.heap.objs.size + 2, s1.heap.objs.size + 3, s1.heap.objs.size, s1.heap.objs.size + 1], _, _, H1, rfl, I2, turn_ez D ne, ⟨⟨.none, he3⟩, Z.keep fun c _ o u => k3 c o u⟩, fun c hc => ?_, q⟩
  exact I1.fpOk (hle c hc) (I1.hok.fresh (hle c hc))
theorem walk_ez {K : PySem.W.Frag} {a b : Addr} {xs ys : List V} {n : Nat} (hn : n = xs.length) (hy : xs.length ≤ ys.length) : Walk (Itez K a b) n (fun H => SqL K H a xs ∧ SqL K H b ys) (fun i H v H' => ∃ T U x y, v = .ref U ∧ H T = none ∧ H U = none ∧ U ≠ T ∧ H' = upd (upd H T (.tup [x, y])) U (.tup [.int (i : Nat), .ref T]) ∧ xs[i]? = some x ∧ ys[i]? = some y) := by
  subst hn
  refine ⟨fun i _ hi q => ?_, fun _ q => ⟨xs, ys, q.1, q.2, Nat.le_refl _⟩, fun i H v H' _ q y => ?_⟩
  · have h2 : i < ys.length := by omega
    exact ⟨xs, ys, xs[i], ys[i], q.1, q.2, by simp [hi], by simp [h2]⟩
  · obtain ⟨T, U, x, z, h1, h2, h3, h4, h5, h6, h7⟩ := y
    exact ⟨T, U, x, z, h1, h2, h3, h4, h5, h6 xs q.1, h7 ys q.2⟩
end Cr
set_option Elab.async false
set_option linter.all false
set_option maxRecDepth 100000
set_option maxHeartbeats 4000000
namespace Cr
open PySem PySem.Spec PyProof.Rows L2
abbrev sair_behind : Stmt := top 12
abbrev nair_behind : List Str := ["house", "hour", "held", "vents", "flows", "left", "one", "other", "_", "flow", "room", "air", "vent"]
abbrev aair_behind : List Str := ["house", "hour", "held", "vents", "flows"]
theorem scair_behind : FnScope nair_behind aair_behind (defScope sair_behind) := ⟨rfl, rfl, rfl, by decide +kernel, rfl, by decide +kernel, by decide +kernel⟩
theorem Gr.forget {Fs : List Addr} {G H G' H' : Hp} (w : Wd Fs G H) (g : Gr Fs G H G' H') : Gr Fs G H G H' := ⟨Same.refl _, ⟨g.up.trans g.wd.same, w.off, g.wd.on⟩, g.keep, fun c e _ => e⟩
theorem int_getD {l : List Int} {n : Nat} (h : n < l.length) : (l.map V.int)[n]? = some (.int (l.getD n 0)) := by
  rw [List.getElem?_map, List.getElem?_eq_getElem h, List.getD_eq_getElem?_getD, List.getElem?_eq_getElem h]
  rfl
section
variable {P : Program} {w : World} {K : PySem.W.Frag} {mg : Str → Option Value} {base : Heap} {ad : Ad} {cBP : Addr} {Ps : List Addr} {H : Hp}
structure RawAb (K : PySem.W.Frag) (mg : Str → Option Value) (base : Heap) (ad : Ad) : Prop extends RawP K mg base ad where
  ab : DefR K mg "air_behind" sair_behind aair_behind
  b_zip : mg "zip" = none
theorem c_air (T : RawAb K mg base ad) : C8.Cal P w K mg base 3 "air_behind" (spAir ad K Ps) [] := by
  refine T.ab.cal scair_behind (fun vs H Q E h => ?_) (fun f0 cdv A outer s H vs Q E hr h0 => ?_)
  · obtain ⟨G, x, hd, va, fa, t, h, rs, ds, ss, held, v, f, rfl, _⟩ := h
    rfl
  · obtain ⟨G, x, hd, va, fa, t, h, rs, ds, ss, held, v, f, rfl, wd, tbs, hH, hhd, hva, hfa, l1, l2, l3, q⟩ := h0
    have b_zip := T.b_zip
    have b_enumerate := T.b_enumerate
    have k_House_use : C8.Met P w K mg base 2 ad.cH "use" (spTwo ad K Ps useOf) [] := c_use T.toRawP
    have k_House_doors : C8.Met P w K mg base 1 ad.cH "doors" (spNewRows ad K Ps fun _ _ ds _ => ds) [] := c_doors T.toRawP
    refine ⟨_, (pss_cons (ps_setLc (i := 5) (own := [("room", 10), ("air", 11), ("vent", 12)]) rfl scair_behind.nd rfl rfl (sw_true rfl rfl rfl (by decide +kernel)) (pi_ez (by rfl) b_enumerate (by rfl) b_zip (pa_cons (pv 2) (pa_cons (pv 3) pa_nil))) (blkOk_by (own := [("room", 10), ("air", 11), ("vent", 12)]) (N := nair_behind) (sc := defScope sair_behind) (by decide +kernel)) (fun _ _ _ _ _ => (pg_tupK (K := K) (n := 2) rfl rfl (pgs_cons (pg_name (i := 10) scair_behind.nd rfl (Or.inl rfl) (Or.inr rfl)) (pgs_cons (pg_tupK (K := K) (n := 2) rfl rfl (pgs_cons (pg_name (i := 11) scair_behind.nd rfl (Or.inl rfl) (Or.inr rfl)) (pgs_cons (pg_name (i := 12) scair_behind.nd rfl (Or.inl rfl) (Or.inr rfl)) pgs_nil))) pgs_nil)))) (fun _ _ _ _ _ => pts_nil) (fun _ _ _ _ _ => (pe_op op_sub (pe_op op_add (pv 11 rfl (Or.inl rfl)) (pv 12 rfl (Or.inl rfl))) (C8.pe_mt k_House_use hr (by decide) (pv 0 rfl (Or.inr (Or.inl rfl))) (pa_cons (pv 10 rfl (Or.inl rfl)) (pa_cons (pv 1 rfl (Or.inr (Or.inl rfl))) pa_nil))))))
      (pss_cons (ps_for PassesOwn.never rfl (pi_zip (by rfl) b_zip (pa_cons (C8.pe_mt0 k_House_doors hr (by decide) (pv 0 rfl (Or.inr (Or.inl rfl)))) (pa_cons (pv 4) pa_nil))) (pg_tup rfl (pgs_cons (pg_tup rfl (pgs_cons (pg_name (i := 6) scair_behind.nd rfl (Or.inl rfl)) (pgs_cons (pg_name (i := 7) scair_behind.nd rfl (Or.inl rfl)) (pgs_cons (pg_name (i := 8) scair_behind.nd rfl (Or.inl rfl)) pgs_nil)))) (pgs_cons (pg_name (i := 9) scair_behind.nd rfl (Or.inl rfl)) pgs_nil)))
        (pss_cons (ps_augS (pv 5) (pv 6) get_list (pv 9) ip_sub set_list)
      (pss_one (ps_augS (pv 5) (pv 7) get_list (pv 9) ip_add set_list))))
      (pss_one (ps_ret (pv 5))))), ?_⟩
    obtain ⟨dx, ra, da, sa, hx, _⟩ := hH.ob
    have nf : ∀ m : Str, ¬ m = "_stays" → ¬ m = "_doors" → ¬ m = "_rooms" → ¬ m = "hours" → (hf h ra da sa).lookup m = none := fun m h1 h2 h3 h4 => hf_nf m _ _ _ _ h1 h2 h3 h4
    have hcs := house_counts hH.ok
    refine ⟨_, rfl, _, rfl, hd, va, held.map V.int, v.map V.int, rfl, wd.same.seq hhd, wd.same.seq hva, fun D hD => ?_⟩
    have DP := tbs.nin hD
    have DG := wd.free hD
    have ll := left_len ss t (held := held) (v := v) (by omega)
    refine lc_it (walk_ez (xs := held.map V.int) (ys := v.map V.int) (n := held.length) (by rw [List.length_map]) (by rw [List.length_map, List.length_map]; omega)) (fun i H' => Gr Ps G H G H' ∧ Tabs Ps H' ∧ H' D = some (.lst (((leftOf ss t held v).take i).map V.int))) ⟨Gr.new wd hD, tbs.upd DP, upd_same⟩ (fun i H' _ ⟨g, _⟩ => ⟨g.wd.same.seq hhd, g.wd.same.seq hva⟩) ?_ ?_
    · rintro i y H1 H2 hi ⟨g, tb, hacc⟩ ⟨T', U, a, n, rfl, hT, hU, hUT, rfl, ha, hn⟩
      obtain ⟨a, ea, rfl⟩ := ints_at ha
      obtain ⟨n, en, rfl⟩ := ints_at hn
      have nDT := ne_of_none hacc hT
      have nDU := ne_of_none hacc hU
      have g1 := g.trans (Gr.new (o := .tup [.int a, .int n]) g.wd hT)
      have t1 := tb.same (same_new (o := .tup [.int a, .int n]) hT)
      have hU1 : upd H1 T' (.tup [.int a, .int n]) U = none := by rw [upd_ne hUT]; exact hU
      have g2 := g1.trans (Gr.new (o := .tup [.int (i : Nat), .ref T']) g1.wd hU1)
      have t2 := t1.same (same_new (o := .tup [.int (i : Nat), .ref T']) hU1)
      have acc2 : (upd (upd H1 T' (.tup [.int a, .int n])) U (.tup [.int (i : Nat), .ref T'])) D = some (.lst (((leftOf ss t held v).take i).map V.int)) := by rw [upd_ne nDU, upd_ne nDT]; exact hacc
      refine ⟨U, _, rfl, SqT.of upd_same, rfl, _, _, rfl, _, _, rfl, T', _, rfl, SqT.of (by rw [upd_ne (Ne.symm hUT)]; exact upd_same), rfl, _, _, rfl, _, _, rfl, rfl, rfl, (by (repeat rw [wipe_set (by decide)]); exact wipe_wipe _ _), ?_⟩
      refine ⟨_, rfl, _, rfl, _, _, rfl, rfl, _, rfl, x, dx, _, rfl, g2.wd.same _ _ hx, nf _ (by decide +kernel) (by decide +kernel) (by decide +kernel) (by decide +kernel), _, rfl, _, rfl, G, x, h, rs, ds, ss, _, _, rfl, g2.wd, t2, hH, fun G3 H3 g3 t3 => ⟨_, _, rfl, rfl, ?_⟩⟩
      have hl := left_at (ss := ss) (t := t) ea en
      refine ⟨_, g3.keep _ _ DP acc2, small1000 (by rw [List.length_map, List.length_take]; omega), (g2.trans (Gr.forget g2.wd g3)).poke hD DG, t3.upd DP, ?_⟩
      rw [upd_same, List.take_add_one, hl, List.map_append]
      rfl
    rintro H1 ⟨g1, t1, hacc⟩
    rw [List.take_of_length_le (by omega)] at hacc
    -- the doors
    refine ⟨_, rfl, x, dx, _, rfl, g1.wd.same _ _ hx, nf _ (by decide +kernel) (by decide +kernel) (by decide +kernel) (by decide +kernel), ?_⟩
    refine ⟨G, x, h, rs, ds, ss, rfl, g1.wd, t1, hH, fun p2 y2 H2 hp2 g2 e2 rv2 t2 => ?_⟩
    have ly : y2.length = ds.length := Paired.length rv2
    have p2P : p2 ∉ Ps := t1.nin hp2
    have nDp := ne_of_none hacc hp2
    have p2H : H p2 = none := g1.free' hp2
    have gg := g1.trans g2
    have acc2 := g2.keep _ _ DP hacc
    have keepP : ∀ {H' : Hp} {o : HO}, upd H' D o p2 = H' p2 := fun {H' o} => upd_ne (Ne.symm nDp)
    refine ⟨_, rfl, p2, fa, y2, f.map V.int, rfl, SqL.of e2, gg.wd.same.seq hfa, RZ.for_zipL (K := K) (a := p2) (b := fa) (xs := y2) (ys := f.map V.int) (by rw [List.length_map]; omega) (fun i σ H' => ∃ (o6 o7 o8 o9 : Option V), σ = [some (.ref x), some (.int t), some (.ref hd), some (.ref va), some (.ref fa), some (.ref D), o6, o7, o8, o9, none, none, none] ∧ Gr Ps G H G H' ∧ Tabs Ps H' ∧ H' p2 = some (.lst y2) ∧ H' D = some (.lst ((((ds.zip f).take i).foldl pushAir (leftOf ss t held v)).map V.int))) ⟨_, _, _, _, rfl, gg, t2, e2, acc2⟩ (fun i σ H' ⟨_, _, _, _, _, g, _, e, _⟩ => ⟨SqL.of e, g.wd.same.seq hfa⟩) ?_ ?_⟩
    · rintro i a b T' σ H3 ha hb ⟨o6, o7, o8, o9, rfl, g, tb, ep, hacc3⟩ hT'
      obtain ⟨z, ez, ty, rfl, hty⟩ := paired_get rv2 ha
      obtain ⟨n, en, rfl⟩ := ints_at hb
      obtain ⟨on, tn, lim, rfl, h1, h2, _⟩ := door_num hH.ok hH.w3 (List.mem_of_getElem? ez)
      have sN := same_new (o := .tup [.ref ty, .int n]) hT'
      have gN := g.trans (Gr.new (o := .tup [.ref ty, .int n]) g.wd hT')
      have tN := tb.same sN
      have epN := sN _ _ ep
      have acN := sN _ _ hacc3
      have hfold := fold_step (f := pushAir) (leftOf ss t held v) (zip_at ez en)
      have hcl : (((ds.zip f).take i).foldl pushAir (leftOf ss t held v)).length = rs.length := by rw [fold_len, ll]; exact l1
      generalize ((ds.zip f).take i).foldl pushAir (leftOf ss t held v) = cur at acN hfold hcl
      refine ⟨T', _, rfl, SqT.of upd_same, rfl, _, _, rfl, ty, _, rfl, Same.tup (g.wd.same.trans sN) hty, rfl, _, _, rfl, _, _, rfl, _, _, rfl, rfl, _, _, rfl, rfl, ?_⟩
      refine ⟨_, rfl, _, rfl, D, _, on, _, rfl, rfl, SqL.of acN, int_getD (by omega), _, rfl, _, _, rfl, rfl, D, _, _, on, rfl, rfl, acN, ixN_nat (by show _ < (cur.map V.int).length; rw [List.length_map]; omega), ?_⟩
      have e6 : (upd (upd H3 T' (.tup [.ref ty, .int n])) D (.lst ((cur.map V.int).set on (.int (cur.getD on 0 - n))))) D = some (.lst ((cur.set on (cur.getD on 0 - n)).map V.int)) := by rw [upd_same, List.map_set]
      have g6 := gN.poke (o := .lst ((cur.map V.int).set on (.int (cur.getD on 0 - n)))) hD DG
      have t6 := tN.upd (o := .lst ((cur.map V.int).set on (.int (cur.getD on 0 - n)))) DP
      have l6 : (cur.set on (cur.getD on 0 - n)).length = rs.length := by rw [List.length_set]; exact hcl
      refine ⟨_, rfl, _, rfl, D, _, tn, _, rfl, rfl, SqL.of e6, int_getD (by omega), _, rfl, _, _, rfl, rfl, D, _, _, tn, rfl, rfl, e6, ixN_nat (by show _ < ((cur.set on (cur.getD on 0 - n)).map V.int).length; rw [List.length_map]; omega), ?_⟩
      refine ⟨_, _, _, _, rfl, g6.poke hD DG, t6.upd DP, by rw [keepP, keepP]; exact epN, ?_⟩
      have ep2 : pushAir cur ([(on : Int), (tn : Int), lim], n) = (cur.set on (cur.getD on 0 - n)).set tn ((cur.set on (cur.getD on 0 - n)).getD tn 0 + n) := rfl
      have e1 : ∀ (l : List Int) (i : Nat) (a : Int), (l.set i a).map V.int = (l.map V.int).set i (.int a) := fun l i a => by rw [List.map_set]
      rw [upd_same, hfold, ep2]
      exact congrArg (fun z => some (HO.lst z)) (e1 (cur.set on (cur.getD on 0 - n)) tn _).symm
    · rintro σ H3 ⟨o6, o7, o8, o9, rfl, g, tb, ep, hacc3⟩
      rw [List.take_of_length_le (by rw [List.length_zip]; omega)] at hacc3
      exact ⟨_, rfl, q D H3 hD g tb hacc3⟩
end
end Cr
set_option Elab.async false
set_option linter.all false
set_option maxRecDepth 100000
set_option maxHeartbeats 4000000
/-! What stands apart from the tables is kept: data too -/
namespace Cr
open PySem PySem.Spec PyProof.Rows L2
section
variable {K : PySem.W.Frag} {Ps : List Addr} {H H' : Hp} {a : Addr} {xs : List V}
abbrev KeepS (Ps : List Addr) (H H' : Hp) : Prop := ∀ c o, c ∉ Ps → H c = some o → H' c = some o
theorem off_lst (t : Tabs Ps H) {o : HO} (e : H a = some o) (n : ∀ ps, o ≠ .tbl ps) : a ∉ Ps := fun h => by
  obtain ⟨ps, q, _⟩ := t a h
  rw [q] at e
  exact n ps (Option.some.inj e).symm
theorem sqL_keep (t : Tabs Ps H) (k : KeepS Ps H H') (h : SqL K H a xs) : SqL K H' a xs := by
  rcases h with (h | ⟨o, h⟩) | h
  · exact .inl (.inl (k _ _ (off_lst t h fun _ z => nomatch z) h))
  · exact .inl (.inr ⟨o, k _ _ (off_lst t h fun _ z => nomatch z) h⟩)
  · exact .inr h
theorem sqT_keep (t : Tabs Ps H) (k : KeepS Ps H H') (h : SqT K H a xs) : SqT K H' a xs := by
  rcases h with (h | ⟨o, h⟩) | h
  · exact .inl (.inl (k _ _ (off_lst t h fun _ z => nomatch z) h))
  · exact .inl (.inr ⟨o, k _ _ (off_lst t h fun _ z => nomatch z) h⟩)
  · exact .inr h
mutual
theorem dp_keep (t : Tabs Ps H) (k : KeepS Ps H H') : ∀ {v : V} {d : PyData}, Dp K H v d → Dp K H' v d
  | _, _, .non => .non
  | _, _, .bl b => .bl b
  | _, _, .int i => .int i
  | _, _, .str x => .str x
  | _, _, .lst h r => .lst (sqL_keep t k h) (dpAll_keep t k r)
  | _, _, .tup h r => .tup (sqT_keep t k h) (dpAll_keep t k r)
theorem dpAll_keep (t : Tabs Ps H) (k : KeepS Ps H H') : ∀ {vs : List V} {ds : List PyData}, DpAll K H vs ds → DpAll K H' vs ds
  | _, _, .nil => .nil
  | _, _, .cons h r => .cons (dp_keep t k h) (dpAll_keep t k r)
end
theorem dpAll_of : ∀ {xs : List V} {ds : List PyData} {i : Nat} {x : V}, DpAll K H xs ds → xs[i]? = some x → ∃ d, ds[i]? = some d ∧ Dp K H x d
  | _, _, _, _, .nil, e => by simp at e
  | _, _, 0, _, .cons r _, e => by simp at e; subst e; exact ⟨_, rfl, r⟩
  | _, _, i + 1, x, .cons _ t, e => by
    obtain ⟨y, h1, h2⟩ := dpAll_of (i := i) (x := x) t (by simpa using e)
    exact ⟨y, by simpa using h1, h2⟩
theorem dpAll_snoc : ∀ {xs : List V} {ds : List PyData} {x : V} {d : PyData}, DpAll K H xs ds → Dp K H x d → DpAll K H (xs ++ [x]) (ds ++ [d])
  | _, _, _, _, .nil, h => .cons h .nil
  | _, _, _, _, .cons r t, h => .cons r (dpAll_snoc t h)
theorem dpAll_length : ∀ {xs : List V} {ds : List PyData}, DpAll K H xs ds → xs.length = ds.length
  | _, _, .nil => rfl
  | _, _, .cons _ t => congrArg (· + 1) (dpAll_length t)
end
section
variable {X : Cx} {K : PySem.W.Frag} {o e : Expr} {es : List Expr} {name : Str} {T id : String} {apos cpos : Pos} {r : V → List V → Hp → VK → Prop} {to : TE} {t : TA}
/-- a method of a built-in type, the written part said -/
theorem pe_bmK (hK : X.K = K) (pa : PlainAttrs T) (slot : Slot T name id) (hty : typeOf (.builtin id) = pure (.type "method_descriptor")) (hm : MtR X id r) (ho : PE X o to) (ha : PA X (e :: es) t)
    (h1 : attributeBase o name X.env (eval o X.env) = eval o X.env := by rfl)
    (h2 : ((backTo cpos (starEach (e :: es) X.env)).all (fun x => !x.1) && (backToKw cpos (keywordEach [] X.env)).all (fun x => x.1.isSome) && decide ((e :: es).length + ([] : List Keyword).length + (if ([] : List Keyword).isEmpty then 0 else 1) < 30)) = true := by rfl)
    (h3 : (apos.endLine == cpos.line) = true := by rfl) (h4 : starEach (e :: es) X.env = (false, eval e X.env) :: starEach es X.env := by rfl) (h5 : (backTo cpos (starEach es X.env)).any (·.1) = false := by rfl) :
    PE X (.Call (.Attribute o name apos) (e :: es) [] cpos) (tBM K T r to t) := by
  subst hK
  exact pe_bm pa slot hty hm ho ha h1 h2 h3 h4 h5
end
end Cr
set_option Elab.async false
set_option linter.all false
set_option maxRecDepth 100000
set_option maxHeartbeats 4000000
/-! The program's fault, with one end -/
namespace Cr
open PySem PySem.Spec PyProof.Rows L2
theorem CalX.imp {P : Program} {w : World} {K : PySem.W.Frag} {mg : Str → Option Value} {base : Heap} {k : Nat} {x : Str} {sp sp' : Sp} (c : CalX P w K mg base k x sp) (h : ∀ vs H Q E, sp' vs H Q E → sp vs H Q E) : CalX P w K mg base k x sp' := by
  obtain ⟨f, fd, ps, F, r⟩ := c.ex
  exact ⟨⟨f, fd, ps, F.imp h, r⟩⟩
def FaultV (K : PySem.W.Frag) (H : Hp) (v : V) : Option (Int × Int) → Prop
  | none => v = .non
  | some z => ∃ p, v = .ref p ∧ SqT K H p [.int z.1, .int z.2]
def faultD : Option (Int × Int) → PyData
  | none => .none
  | some z => .tuple [.int z.1, .int z.2]
theorem FaultV.same {K : PySem.W.Frag} {H H' : Hp} {v : V} {z : Option (Int × Int)} (f : FaultV K H v z) (e : Same H H') : FaultV K H' v z := by
  cases z with
  | none => exact f
  | some z => obtain ⟨p, h1, h2⟩ := f; exact ⟨p, h1, Same.tup e h2⟩
theorem FaultV.keep {K : PySem.W.Frag} {Ps : List Addr} {H H' : Hp} {v : V} {z : Option (Int × Int)} (f : FaultV K H v z) (t : Tabs Ps H) (k : KeepS Ps H H') : FaultV K H' v z := by
  cases z with
  | none => exact f
  | some z => obtain ⟨p, h1, h2⟩ := f; exact ⟨p, h1, sqT_keep t k h2⟩
theorem FaultV.dp {K : PySem.W.Frag} {H : Hp} {v : V} {z : Option (Int × Int)} (f : FaultV K H v z) : Dp K H v (faultD z) := by
  cases z with
  | none => rw [show v = .non from f]; exact .non
  | some z => obtain ⟨p, h1, h2⟩ := f; rw [h1]; exact .tup h2 (.cons (.int _) (.cons (.int _) .nil))
/-- fault, with one end -/
def spFault2 (ad : Ad) (K : PySem.W.Frag) (Ps : List Addr) (cBP : Addr) : Sp := fun vs H Q E =>
  ∃ (G : Hp) (x pa : Addr) (h : Int) (rs ds ss : List (List Int)) (pl : Hours), vs = [.ref x, .ref pa] ∧ Wd Ps G H ∧ Tabs Ps H ∧ HouseAt ad K G x h rs ds ss ∧ PlanA K G pa pl ∧ slim pl ∧ 0 ≤ h ∧ h < 32 ∧
    (fits h rs.length ds.length pl → ∀ v H', Gr Ps G H G H' → Tabs Ps H' → FaultV K H' v (faultOf rs ds ss pl) → Q v H') ∧
    (¬ fits h rs.length ds.length pl → ∀ H', Gr Ps G H G H' → Tabs Ps H' → E (.ref cBP) none H')
theorem airs_rows {rs ds ss : List (List Int)} {h : Int} {pl : Hours} (hf : fits h rs.length ds.length pl) : ∀ row ∈ airsOf rs ds ss pl, row.length = rs.length := by
  have go : ∀ (pl : Hours) (k : Nat) (held : List Int), held.length = rs.length → (∀ p ∈ pl, p.1.length = rs.length) → ∀ row ∈ airsFrom ds ss k held pl, row.length = rs.length := by
    intro pl
    induction pl with
    | nil => intro k held _ _ row hr; cases hr
    | cons p pl ih =>
      intro k held hh hp row hr
      have e : (airStep ds ss (k : Int) held p.1 p.2).length = rs.length := by rw [air_len _ _ _ _ _ _ (by rw [hh, hp p List.mem_cons_self])]; exact hh
      rcases List.mem_cons.mp hr with z | z
      · rw [z]; exact e
      · exact ih (k + 1) _ e (fun q hq => hp q (List.mem_cons_of_mem _ hq)) row z
  exact go pl 0 _ (List.length_map _) fun p hp => (hf.2 p hp).1
section
variable {P : Program} {w : World} {K : PySem.W.Frag} {mg : Str → Option Value} {base : Heap} {ad : Ad} {cN cBP cNP : Addr} {Ps : List Addr} {H : Hp}
theorem c_fault2 (T : RawFa K mg base ad cBP) (k : C8.Cal P w K mg base 3 "air_behind" (spAir ad K Ps) []) : CalX P w K mg base 5 "fault" (spFault2 ad K Ps cBP) := by
  refine CalX.imp (c_fault (Ps := Ps) T k) fun vs H Q E h => ?_
  obtain ⟨G, x, pa, h, rs, ds, ss, pl, rfl, wd, tbs, hH, hP, hs, h0, h32, q1, q2⟩ := h
  refine ⟨G, x, pa, h, rs, ds, ss, pl, rfl, wd, tbs, hH, hP, hs, h0, h32, fun hf => ⟨fun hn H' g t => q1 hf _ H' g t (by rw [hn]; rfl), fun z hz p H' g t e => q1 hf _ H' g t (by rw [hz]; exact ⟨p, rfl, SqT.of e⟩)⟩, q2⟩
end
end Cr
set_option Elab.async false
set_option linter.all false
set_option maxRecDepth 100000
set_option maxHeartbeats 4000000

/-! shows_least of a plan whose counts are not the house's: fault refuses it first -/
namespace Cr
open PySem PySem.Spec PyProof.Rows L2
abbrev sshows_least : Stmt := top 29
abbrev nshows_least : List Str := ["house", "plan", "whole", "prices", "good"]
abbrev ashows_least : List Str := ["house", "plan", "whole", "prices"]
theorem scshows_least : FnScope nshows_least ashows_least (defScope sshows_least) := ⟨rfl, rfl, rfl, by decide +kernel, rfl, by decide +kernel, by decide +kernel⟩
abbrev s_prices_fit : Stmt := top 32
abbrev n_prices_fit : List Str := ["house", "prices", "rooms"]
abbrev a_prices_fit : List Str := ["house", "prices"]
theorem sc_prices_fit : FnScope n_prices_fit a_prices_fit (defScope s_prices_fit) := ⟨rfl, rfl, rfl, by decide +kernel, rfl, by decide +kernel, by decide +kernel⟩
abbrev sbound : Stmt := top 28
abbrev nbound : List Str := ["house", "prices", "total", "hour", "room", "one", "other", "limit"]
abbrev abound : List Str := ["house", "prices"]
theorem scbound : FnScope nbound abound (defScope sbound) := ⟨rfl, rfl, rfl, by decide +kernel, rfl, by decide +kernel, by decide +kernel⟩
section
variable {P : Program} {w : World} {K : PySem.W.Frag} {mg : Str → Option Value} {base : Heap} {ad : Ad} {cBP : Addr} {Ps : List Addr} {H : Hp}
structure RawSx (K : PySem.W.Frag) (mg : Str → Option Value) (base : Heap) (ad : Ad) (cBP : Addr) : Prop extends RawFa K mg base ad cBP, RawAb K mg base ad where
  pfi0 : DefR K mg "_prices_fit" s_prices_fit a_prices_fit
  bnd0 : DefR K mg "bound" sbound abound
  shl : DefR K mg "shows_least" sshows_least ashows_least
/-- never asked -/
def spNo : Sp := fun _ _ _ _ => False
def spShx (ad : Ad) (K : PySem.W.Frag) (Ps : List Addr) (cBP : Addr) : Sp := fun vs H _ E =>
  ∃ (G : Hp) (x pa : Addr) (whole ps : V) (h : Int) (rs ds ss : List (List Int)) (pl : Hours), vs = [.ref x, .ref pa, whole, ps] ∧ Wd Ps G H ∧ Tabs Ps H ∧ HouseAt ad K G x h rs ds ss ∧ PlanA K G pa pl ∧ slim pl ∧ 0 ≤ h ∧ h < 32 ∧ ¬ fits h rs.length ds.length pl ∧
    ∀ H', Gr Ps G H G H' → Tabs Ps H' → E (.ref cBP) none H'
theorem c_shx (T : RawSx K mg base ad cBP) : CalX P w K mg base 6 "shows_least" (spShx ad K Ps cBP) := by
  refine T.shl.calX scshows_least (fun vs H Q E h => ?_) (fun f cdv A outer s H vs Q E hr h => ?_)
  · obtain ⟨G, x, pa, whole, ps, h, rs, ds, ss, pl, rfl, _⟩ := h
    rfl
  · obtain ⟨G, x, pa, whole, ps, h, rs, ds, ss, pl, rfl, wd, tbs, hH, hP, hsl, h0, h32, no, q⟩ := h
    have k_air := c_air (P := P) (w := w) (Ps := Ps) T.toRawAb
    have k_fault : CalX P w K mg base 5 "fault" (spFault2 ad K Ps cBP) := c_fault2 T.toRawFa k_air
    have k_cost : CalX P w K mg base 3 "cost" (spCost ad K Ps cBP) := c_cost T.toRawCo
    have k__prices_fit : C8.Cal P w K mg base 1 "_prices_fit" spNo [] := T.pfi0.cal sc_prices_fit (fun _ _ _ _ h => h.elim) (fun _ _ _ _ _ _ _ _ _ _ h => h.elim)
    have k_bound : C8.Cal P w K mg base 1 "bound" spNo [] := T.bnd0.cal scbound (fun _ _ _ _ h => h.elim) (fun _ _ _ _ _ _ _ _ _ _ h => h.elim)
    refine ⟨_, (pss_cons (ps_set (i := 4) scshows_least.nd rfl (Or.inl rfl) (pe_cmp (pc_isN (pe_cx k_fault hr (by decide) (takes_of rfl rfl rfl rfl) rfl (pa_cons (pv 0) (pa_cons (pv 1) pa_nil)))) rfl))
      (pss_one (ps_ret (pe_and (pv 4) (pe_and (C8.pe_c k__prices_fit hr (by decide) rfl (pa_cons (pv 0) (pa_cons (pv 3) pa_nil))) (pe_and (pe_cmpR op_eq (pe_cx k_cost hr (by decide) (takes_of rfl rfl rfl rfl) rfl (pa_cons (pv 0) (pa_cons (pv 1) pa_nil))) (pv 2) (nomark _)) (pe_one (pe_cmpR op_eq (C8.pe_c k_bound hr (by decide) rfl (pa_cons (pv 0) (pa_cons (pv 3) pa_nil))) (pv 2) (nomark _))))))))), ?_⟩
    refine ⟨_, rfl, _, rfl, G, x, pa, h, rs, ds, ss, pl, rfl, wd, tbs, hH, hP, hsl, h0, h32, fun hf => absurd hf no, fun _ H1 g1 t1 => q H1 g1 t1⟩
end
end Cr
set_option Elab.async false
set_option linter.all false
set_option maxRecDepth 100000
set_option maxHeartbeats 4000000

/-! A work that is refused: a lambda called within a try -/
namespace Cr
open PySem PySem.Spec PyProof.Rows L2 NdefX
abbrev s_law_refused : Stmt := top 48
abbrev n_law_refused : List Str := ["_law_work", "e", "_law_kinds"]
abbrev a_law_refused : List Str := ["_law_work"]
theorem sc_law_refused : FnScope n_law_refused a_law_refused (defScope s_law_refused) := ⟨rfl, rfl, rfl, by decide +kernel, rfl, by decide +kernel, by decide +kernel⟩
/-- a def called at the very state -/
theorem DefR.atS {P : Program} {w : World} {K : PySem.W.Frag} {mg : Str → Option Value} {base : Heap} {x : Str} {st : Stmt} {N ps : List Str} {k : Nat} (d : DefR K mg x st ps) (S : FnScope N ps (defScope st)) :
    ∃ g : Addr, mg x = some (.ref g) ∧ PySem.W.keepIn K (.ref g) = true ∧ ∀ (A : Around) (outer : List Env) (s : Shared) (H : Hp) (us : List Value) (vs : List V) (Q : VK) (E : XK), Room (k + 1) A → Env0 P w K mg base A outer s H → Vals vs us → vs.length = ps.length →
      (∀ cdv, Room k (A.deeper (envOfC x (defScope st) s.heap.objs.size g cdv)) → ∃ t, PSs (cxOf CX0 P w K mg base N x (defScope st) g cdv A outer s H E).nox (defBody st) t ∧ t { nx := fun _ H' => Q .non H', rt := Q } (start N vs) H) →
      codeAny (model P w) A (.call (.ref g) ⟨us, []⟩) (CR CX0 outer P w H s Q E) s := by
  obtain ⟨g, fd, F, hm, bi⟩ := d
  obtain ⟨oc, od, kV, doc, pm, an, cdv, ct, osl, rfl, lk, hcd⟩ := F.ex
  refine ⟨g, hm, F.kp, fun A outer s H us vs Q E hr e0 r hl hbody => ?_⟩
  have kIn : K.In s.heap := e0.mod.kin.keeps fun b o e => (e0.bs b o e).1
  have hb := bi s us kIn (by rw [List.append_nil, ← r.length]; exact hl)
  rw [List.append_nil] at hb
  exact LamX.run_ofS (N := N) lk hcd S hr e0 hb r hl fun hr' => let ⟨t, h, q⟩ := hbody cdv hr'; ⟨t, h.nox, q⟩
/-- f(e), f a def, its promise told of the very state -/
theorem pe_defS {Y : Cx} {x : Str} {st : Stmt} {N ps : List Str} {k : Nat} {e : Expr} {es : List Expr} {t : TA} {p pos : Pos} {φ : List V → Hp → VK → Prop} (d : DefR Y.K Y.mg x st ps) (S : FnScope N ps (defScope st)) (hr : Room (k + 1) Y.A) (hg : Gl Y x) (ha : PA Y (e :: es) t)
    (len : ∀ vs H Q, φ vs H Q → vs.length = ps.length)
    (run : ∀ (pins : List (Addr × Obj)) (σ : L2.St) (s : Shared) (H : Hp) (vs : List V) (Q : VK) (g : Addr) (cdv : Value), Inv Y pins σ H s → Room k (Y.A.deeper (envOfC x (defScope st) s.heap.objs.size g cdv)) → φ vs H Q →
      ∃ t, PSs (cxOf CX0 Y.prog Y.w Y.K Y.mg Y.base N x (defScope st) g cdv Y.A Y.stack s H C8.E0).nox (defBody st) t ∧ t { nx := fun _ H' => Q .non H', rt := Q } (start N vs) H)
    (hdb : (x == ("__debug__" : Str)) = false := by decide) (he : starEach (e :: es) Y.env = (false, eval e Y.env) :: starEach es Y.env := by rfl) (hpl : (backTo pos (starEach es Y.env)).any (·.1) = false := by rfl) :
    PE Y (.Call (.Name x p) (e :: es) [] pos) (fun σ H Q => t σ H fun vs H1 => φ vs H1 Q) := by
  obtain ⟨g, hm, kp, call⟩ := d.atS (P := Y.prog) (w := Y.w) (base := Y.base) (k := k) S
  refine ⟨fun pins s σ H Q I h => ?_⟩
  refine wpAny_Call_Name_kw (ld_glob I hg hm ?_ hdb)
  refine PySem.W.callWith_K (h₀ := Y.base) I.ok.mod.kin kp (thn (ha.run pos pins s σ H _ I h) fun us s1 ⟨vs, H1, I1, r, q⟩ => ⟨I1.kIn, ?_⟩) he hpl
  show wpAny _ _ (PySem.call (.ref g) us) _ _ _
  refine wpAny_call (codeAny_mono (call Y.A Y.stack s1 H1 us vs Q C8.E0 hr I1.env0 r (len _ _ _ q) fun cdv hr' => run pins σ s1 H1 vs Q g cdv I1 hr' q) fun r s' hq => ?_)
  cases r with
  | error e => exact (show False from hq).elim
  | ok fl =>
    cases fl with
    | ret u => exact I1.after hq
    | next => exact False.elim hq
    | brk => exact False.elim hq
    | cont => exact False.elim hq
section
variable {P : Program} {w : World} {K : PySem.W.Frag} {mg : Str → Option Value} {base : Heap} {ad : Ad} {cBP : Addr} {Ps : List Addr} {H : Hp}
/-- what is refused with BadPlan -/
def odds (ad : Ad) (K : PySem.W.Frag) (Ps : List Addr) (ws : List (Option V)) (H : Hp) (q : Hp → Prop) : Prop :=
  ∃ (G : Hp) (x pa : Addr) (h : Int) (rs ds ss : List (List Int)) (pl : Hours), ws = [some (.ref x), some (.ref pa)] ∧ Wd Ps G H ∧ Tabs Ps H ∧ HouseAt ad K G x h rs ds ss ∧ PlanA K G pa pl ∧ slim pl ∧ 0 ≤ h ∧ h < 32 ∧ ¬ fits h rs.length ds.length pl ∧ ∀ H', Gr Ps G H G H' → Tabs Ps H' → q H'
def spWork (ad : Ad) (K : PySem.W.Frag) (Ps : List Addr) (cBP : Addr) : LSp := fun ws H _ E => odds ad K Ps ws H fun H' => E (.ref cBP) none H'
structure RawRf (K : PySem.W.Frag) (mg : Str → Option Value) (ad : Ad) (cBP : Addr) : Prop where
  lref : DefR K mg "_law_refused" s_law_refused a_law_refused
  exA : PySem.W.exmOne K (.ref cBP) (.ref ad.cA) = some true
  exC : ExcC K cBP
  kBP : PySem.W.kitOne K (.ref cBP) (.ref cBP) = some true
  iVE : PySem.W.kitOne K (.ref cBP) (.type "ValueError") = some true
  bpM : mg "BadPlan" = some (.ref cBP)
  mA : mg "AirError" = some (.ref ad.cA)
  b_ValueError : mg "ValueError" = none
  b_isinstance : mg "isinstance" = none
  gBH : ∃ c, mg "BadHouse" = some (.ref c) ∧ PySem.W.kitOne K (.ref cBP) (.ref c) = some false
  gBT : ∃ c, mg "BadText" = some (.ref c) ∧ PySem.W.kitOne K (.ref cBP) (.ref c) = some false
  gBr : ∃ c, mg "Broken" = some (.ref c) ∧ PySem.W.kitOne K (.ref cBP) (.ref c) = some false
  gNP : ∃ c, mg "NoPlan" = some (.ref c) ∧ PySem.W.kitOne K (.ref cBP) (.ref c) = some false
/-- the body of _law_refused, entered at s, its work the lambda F at f -/
theorem run_ref (T : RawRf K mg ad cBP) {F : LF} {f g : Addr} {cdv : Value} {fr : List Str} {ws : List (Option V)} {A : Around} {outer : List Env} {s : Shared} {Q : VK} {E : XK} (o : LOk P w K mg base (L2.CX P w) 7 F fr (spWork ad K Ps cBP)) (C : CellsAt F.cl fr ws s.heap H)
    (nf : ∀ y c, F.cl.lookup y = some c → c ∉ frs outer) (hr : Room 7 (A.deeper (envOfC "_law_refused" (defScope s_law_refused) s.heap.objs.size g cdv))) (hf : H f = some (LamO f F)) (hc : H F.c = some (LamX.CodeO F.c F.qual)) (q : odds ad K Ps ws H (Q (.bl true))) :
    ∃ t, PSs (cxOf CX0 P w K mg base n_law_refused "_law_refused" (defScope s_law_refused) g cdv A outer s H E).nox (defBody s_law_refused) t ∧ t { nx := fun _ H' => Q .non H', rt := Q } (start n_law_refused [.ref f]) H := by
  have b_isinstance := T.b_isinstance
  have b_ValueError := T.b_ValueError
  have m_BadPlan := T.bpM
  have m_AirError := T.mA
  obtain ⟨cBH, m_BadHouse, kBH⟩ := T.gBH
  obtain ⟨cBT, m_BadText, kBT⟩ := T.gBT
  obtain ⟨cBr, m_Broken, kBr⟩ := T.gBr
  obtain ⟨cNP, m_NoPlan, kNP⟩ := T.gNP
  have hL : ∀ F' : LF, F' = F → LOk P w K mg base (L2.CX P w) 7 F' fr (spWork ad K Ps cBP) ∧ CellsAt F'.cl fr ws s.heap H ∧ ∀ y c, F'.cl.lookup y = some c → c ∉ frs outer := fun F' e => by
    subst e
    exact ⟨o, C, nf⟩
  refine ⟨_, (pss_cons (ps_try_as (i := 1) rfl rfl sc_law_refused.nd rfl rfl ⟨rfl, by decide, .inl m_AirError⟩ takes0 (fun W pn xe tk _ =>
        (pss_one (ps_expr (pe_lcall (k := 7) (j := 7) (i := 0) (fun F e => let z := hL F e; ⟨z.1, z.2.1, z.2.2, fun _ _ _ z => nomatch z⟩) hr (Nat.le_refl _) (fun σ => passAt tk σ) rfl (Or.inl rfl)))))
        (fun a oe cls d pn hz hf => (pss_cons (ps_set (i := 2) sc_law_refused.nd rfl (Or.inl rfl) (pe_lst (pa_cons (pe_callB (call_isEX hz hf) (by rfl) b_isinstance (by decide +kernel) (pa_cons (pv 1) (pa_cons (pe_glob (v := .ref _) rfl m_BadHouse rfl) pa_nil))) (pa_cons (pe_callB (call_isEX hz hf) (by rfl) b_isinstance (by decide +kernel) (pa_cons (pv 1) (pa_cons (pe_glob (v := .ref _) rfl m_BadText rfl) pa_nil))) (pa_cons (pe_callB (call_isEX hz hf) (by rfl) b_isinstance (by decide +kernel) (pa_cons (pv 1) (pa_cons (pe_glob (v := .ref _) rfl m_Broken rfl) pa_nil))) (pa_cons (pe_callB (call_isEX hz hf) (by rfl) b_isinstance (by decide +kernel) (pa_cons (pv 1) (pa_cons (pe_glob (v := .ref _) rfl m_NoPlan rfl) pa_nil))) pa_nil))))))
      (pss_one (ps_ret (pe_and (pe_callB (call_isEX hz hf) (by rfl) b_isinstance (by decide +kernel) (pa_cons (pv 1) (pa_cons (pe_glob (v := .ref _) rfl m_BadPlan rfl) pa_nil))) (pe_and (pe_callB (call_isEX hz hf) (by rfl) b_isinstance (by decide +kernel) (pa_cons (pv 1) (pa_cons (pe_bltn (v := .ty "ValueError") (by rfl) b_ValueError (by decide +kernel) rfl) pa_nil))) (pe_one (pe_cmpR (op_notIn_seqK (K := K) rfl) pe_bl (pv 2) (by rfl))))))))))
      (pss_one (ps_ret pe_bl))), ?_⟩
  obtain ⟨G, x, pa, h, rs, ds, ss, pl, hws, wd, tbs, hH, hP, hsl, h0, h32, no, q⟩ := q
  refine ⟨f, F, rfl, rfl, hf, hc, G, x, pa, h, rs, ds, ss, pl, hws, wd, tbs, hH, hP, hsl, h0, h32, no, fun H1 g1 t1 => ?_⟩
  refine ⟨true, T.exA, fun _ ea hea => ?_, fun z => nomatch z⟩
  refine ⟨_, rfl, cBP, _, false, rfl, rfl, T.exC, True.intro, .inl ⟨_, .own _, kBH⟩, ?_⟩
  refine ⟨_, rfl, cBP, _, false, rfl, rfl, T.exC, True.intro, .inl ⟨_, .own _, kBT⟩, ?_⟩
  refine ⟨_, rfl, cBP, _, false, rfl, rfl, T.exC, True.intro, .inl ⟨_, .own _, kBr⟩, ?_⟩
  refine ⟨_, rfl, cBP, _, false, rfl, rfl, T.exC, True.intro, .inl ⟨_, .own _, kNP⟩, ?_⟩
  refine ⟨by show 4 ≤ sizeLine; decide, fun lk hlk => ?_⟩
  refine ⟨_, rfl, cBP, _, true, rfl, rfl, T.exC, True.intro, .inl ⟨_, .own _, T.kBP⟩, _, rfl, iteT ?_⟩
  refine ⟨_, rfl, cBP, _, true, rfl, rfl, T.exC, True.intro, .inl ⟨_, .ty _, T.iVE⟩, _, rfl, iteT ?_⟩
  refine ⟨_, rfl, lk, _, rfl, .inl (SqL.of upd_same), rfl, rfl, ?_⟩
  exact q _ (g1.trans (Gr.new g1.wd hlk)) (t1.same (same_new hlk))
end
end Cr
set_option Elab.async false
set_option linter.all false
set_option maxRecDepth 100000
set_option maxHeartbeats 4000000
/-! The works: what the four lambdas promise; a test that asks whether one is refused -/
namespace Cr
open PySem PySem.Spec PyProof.Rows L2 NdefX
abbrev frW : List Str := ["_law_house_here", "_law_odd_here"]
section
variable {P : Program} {w : World} {K : PySem.W.Frag} {mg : Str → Option Value} {base : Heap} {ad : Ad} {cBP : Addr} {Ps : List Addr} {H : Hp} {q x : Str} {params : Arguments} {body : Expr} {scope : Scope} {cl : List (Str × Addr)} {c' : Addr} {k : Nat} {p0 p1 p2 pos : Pos}
/-- f(house, odd) -/
theorem lok_two {sp : Sp} (kf : CalX P w K mg base k x sp) (hk : k ≤ 6) (hsp : ∀ (x pa : Addr) (H : Hp) (Q : VK) (E : XK), odds ad K Ps [some (.ref x), some (.ref pa)] H (fun H' => E (.ref cBP) none H') → sp [.ref x, .ref pa] H Q E)
    (hx : (x == ("__debug__" : Str)) = false) (hb : body = .Call (.Name x p0) [.Name "_law_house_here" p1, .Name "_law_odd_here" p2] [] pos) (hs : nscB frW [] frW scope = true) (hgl : scope.names.lookup x = some .globalImplicit)
    (hbind : ∀ pm ctv : Value, bindArgs (PySem.W.kla_fn "<lambda>" q params body scope cl pm (.ref c') ctv) ⟨[], []⟩ = pure []) : LOk P w K mg base (L2.CX P w) 7 ⟨q, params, body, scope, cl, c'⟩ frW (spWork ad K Ps cBP) := by
  have S : NScope frW [] frW scope := nscope_by hs
  refine lok_of (k := 6) S hbind fun f A outer s H ws Q E hr hl h => ?_
  subst hb
  have v0 : PE (ncx (L2.CX P w) P w K mg base frW (LF.nf ⟨q, params, .Call (.Name x p0) [.Name "_law_house_here" p1, .Name "_law_odd_here" p2] [] pos, scope, cl, c'⟩) f A outer s H E) (.Name "_law_house_here" p1) (tVar 0) := pe_var rfl (.inr (.inr (S.frk _ (by decide))))
  have v1 : PE (ncx (L2.CX P w) P w K mg base frW (LF.nf ⟨q, params, .Call (.Name x p0) [.Name "_law_house_here" p1, .Name "_law_odd_here" p2] [] pos, scope, cl, c'⟩) f A outer s H E) (.Name "_law_odd_here" p2) (tVar 1) := pe_var rfl (.inr (.inr (S.frk _ (by decide))))
  refine ⟨_, pe_cx kf hr hk (takes_of rfl rfl rfl rfl) hgl (pa_cons v0 (pa_cons v1 pa_nil)) hx, ?_⟩
  obtain ⟨G, x, pa, hh, rs, ds, ss, pl, rfl, r⟩ := h
  exact ⟨_, rfl, _, rfl, hsp x pa H Q E ⟨G, x, pa, hh, rs, ds, ss, pl, rfl, r⟩⟩
/-- shows_least(house, odd, 0, []) -/
theorem lok_four {j1 : Nat} {p3 p4 : Pos} (kf : CalX P w K mg base 6 "shows_least" (spShx ad K Ps cBP)) (hb : body = .Call (.Name "shows_least" p0) [.Name "_law_house_here" p1, .Name "_law_odd_here" p2, .Constant (.int 0) j1 p3, .List [] p4] [] pos) (hs : nscB frW [] frW scope = true)
    (hgl : scope.names.lookup ("shows_least" : Str) = some .globalImplicit) (hbind : ∀ pm ctv : Value, bindArgs (PySem.W.kla_fn "<lambda>" q params body scope cl pm (.ref c') ctv) ⟨[], []⟩ = pure []) : LOk P w K mg base (L2.CX P w) 7 ⟨q, params, body, scope, cl, c'⟩ frW (spWork ad K Ps cBP) := by
  have S : NScope frW [] frW scope := nscope_by hs
  refine lok_of (k := 6) S hbind fun f A outer s H ws Q E hr hl h => ?_
  subst hb
  have v0 : PE (ncx (L2.CX P w) P w K mg base frW (LF.nf ⟨q, params, .Call (.Name "shows_least" p0) [.Name "_law_house_here" p1, .Name "_law_odd_here" p2, .Constant (.int 0) j1 p3, .List [] p4] [] pos, scope, cl, c'⟩) f A outer s H E) (.Name "_law_house_here" p1) (tVar 0) := pe_var rfl (.inr (.inr (S.frk _ (by decide))))
  have v1 : PE (ncx (L2.CX P w) P w K mg base frW (LF.nf ⟨q, params, .Call (.Name "shows_least" p0) [.Name "_law_house_here" p1, .Name "_law_odd_here" p2, .Constant (.int 0) j1 p3, .List [] p4] [] pos, scope, cl, c'⟩) f A outer s H E) (.Name "_law_odd_here" p2) (tVar 1) := pe_var rfl (.inr (.inr (S.frk _ (by decide))))
  refine ⟨_, pe_cx kf hr (by decide) (takes_of rfl rfl rfl rfl) hgl (pa_cons v0 (pa_cons v1 (pa_cons pe_int (pa_cons (pe_lst pa_nil) pa_nil)))), ?_⟩
  obtain ⟨G, x, pa, hh, rs, ds, ss, pl, rfl, wd, tbs, hH, hP, hsl, h0, h32, no, r⟩ := h
  refine ⟨_, rfl, _, rfl, Nat.zero_le _, fun e he => ?_⟩
  have g1 := Gr.new (o := .lst []) wd he
  exact ⟨G, x, pa, _, _, hh, rs, ds, ss, pl, rfl, g1.wd, tbs.same (same_new he), hH, hP, hsl, h0, h32, no, fun H' g t => r H' (g1.trans g) t⟩
end
/-- not refused(work): the work a lambda of ours -/
def tWork (X : Cx) (ad : Ad) (Ps : List Addr) (cBP : Addr) (fr : List Str) (js : List Nat) (i : Nat) (σ : L2.St) : TT := fun σ' H' Q => ∃ (f : Addr) (F : LF), σ'[i]? = some (some (.ref f)) ∧ LOk X.prog X.w X.K X.mg X.base (L2.CX X.prog X.w) 7 F fr (spWork ad X.K Ps cBP) ∧
  (X.Ok → Caps X F.cl fr js) ∧ H' f = some (LamO f F) ∧ H' F.c = some (LamX.CodeO F.c F.qual) ∧ odds ad X.K Ps (js.map (slotAt σ)) H' fun H'' => Q false H''
theorem pts_work {X : Cx} {pins : List (Addr × Obj)} {σ : L2.St} {s : Shared} {H : Hp} {cenv : Env} {fp : List Addr} {scope : Scope} {ad : Ad} {Ps : List Addr} {cBP : Addr} {fr : List Str} {js : List Nat} {i : Nat} {pos p1 p2 p3 : Pos} (T : RawRf X.K X.mg ad cBP) (hfn : ∀ y, X.fn y = true)
    (hr : Room 8 X.A) (hg : Gl (X.blk s H scope cenv fp) "_law_refused") (hi : X.N[i]? = some ("_law_work" : Str)) (hv : Vis cenv.scope "_law_work") (I : Inv X pins σ H s) (hfp : ∀ b ∈ fp, FpOk X pins H b) :
    PTs (X.blk s H scope cenv fp) [.UnaryOp .Not (.Call (.Name "_law_refused" p1) [.Name "_law_work" p2] [] p3) pos] (tWork X ad Ps cBP fr js i σ) := by
  have core := pts_one (pt_not (pos := pos) (pt_val (pe_defS (Y := X.blk s H scope cenv fp) (k := 7) (p := p1) (pos := p3) (N := n_law_refused) (φ := fun vs H' Q => ∃ (f : Addr) (F : LF), vs = [.ref f] ∧ LOk X.prog X.w X.K X.mg X.base (L2.CX X.prog X.w) 7 F fr (spWork ad X.K Ps cBP) ∧
    (X.Ok → Caps X F.cl fr js) ∧ H' f = some (LamO f F) ∧ H' F.c = some (LamX.CodeO F.c F.qual) ∧ odds ad X.K Ps (js.map (slotAt σ)) H' (Q (.bl true))) T.lref sc_law_refused hr hg (pa_cons (pe_var (pos := p2) (i := i) hi hv) pa_nil)
    (fun vs H Q ⟨f, F, e, _⟩ => by subst e; rfl) fun pins' σ' s' H' vs Q g cdv I' hr' ⟨f, F, e, o, cp, hf, hc, q⟩ => by
      subst e
      have C := Cel.blk (scope := scope) (cenv := cenv) I (cp I.ok) hfn hfp
      exact run_ref T o (C.now I') C.nf hr' hf hc q)))
  refine ⟨fun pins' s' σ' H' Q I' ⟨f, F, hs, o, cp, hf, hc, q⟩ => core.run pins' s' σ' H' Q I' ?_⟩
  obtain ⟨G, x, pa, h, rs, ds, ss, pl, e, wd, tbs, hH, hP, hsl, h0, h32, no, r⟩ := q
  exact ⟨_, hs, f, F, rfl, o, cp, hf, hc, G, x, pa, h, rs, ds, ss, pl, e, wd, tbs, hH, hP, hsl, h0, h32, no, fun H'' g t => ⟨true, rfl, r H'' g t⟩⟩
end Cr
set_option Elab.async false
set_option linter.all false
set_option maxRecDepth 100000
set_option maxHeartbeats 4000000

namespace Cr
open PySem PySem.Spec PyProof.Rows L2
abbrev s_law_begun : Stmt := top 34
abbrev n_law_begun : List Str := ["_law_script", "_law_stirred", "_law_cell"]
abbrev a_law_begun : List Str := ["_law_script"]
theorem sc_law_begun : FnScope n_law_begun a_law_begun (defScope s_law_begun) := ⟨rfl, rfl, rfl, by decide +kernel, rfl, by decide +kernel, by decide +kernel⟩
abbrev s_law_take : Stmt := top 35
abbrev n_law_take : List Str := ["_law_box", "_law_many", "_law_number"]
abbrev a_law_take : List Str := ["_law_box", "_law_many"]
theorem sc_law_take : FnScope n_law_take a_law_take (defScope s_law_take) := ⟨rfl, rfl, rfl, by decide +kernel, rfl, by decide +kernel, by decide +kernel⟩
abbrev s_law_alike : Stmt := top 36
abbrev n_law_alike : List Str := ["_law_found", "_law_due", "_law_k"]
abbrev a_law_alike : List Str := ["_law_found", "_law_due"]
theorem sc_law_alike : FnScope n_law_alike a_law_alike (defScope s_law_alike) := ⟨rfl, rfl, rfl, by decide +kernel, rfl, by decide +kernel, by decide +kernel⟩
/-! ### the box of draws: a list at b of the script's numbers (a list at l) and a number -/
def BoxAt (b l : Addr) (H : Hp) : Prop := ∃ (z : Int) (ns : List Int), H b = some (.lst [.ref l, .int z]) ∧ H l = some (.lst (ns.map V.int)) ∧ ns.length ≤ 63
structure Bx (Ps : List Addr) (b l : Addr) (G0 H0 G H : Hp) : Prop where
  gr : Gr (b :: l :: Ps) G0 H0 G H
  box : BoxAt b l H
  tabs : Tabs Ps H
  bl : b ≠ l
  nb : b ∉ Ps
  nl : l ∉ Ps
section
variable {Ps : List Addr} {b l p : Addr} {G0 H0 G H G1 H1 : Hp} {o : HO}
theorem bF {b l : Addr} {Ps : List Addr} : b ∈ b :: l :: Ps := List.mem_cons_self
theorem lF {b l : Addr} {Ps : List Addr} : l ∈ b :: l :: Ps := List.mem_cons_of_mem _ List.mem_cons_self
theorem Bx.start (x : Bx Ps b l G0 H0 G H) : Bx Ps b l G H G H := ⟨Gr.refl x.gr.wd, x.box, x.tabs, x.bl, x.nb, x.nl⟩
theorem Bx.trans (x : Bx Ps b l G0 H0 G H) (y : Bx Ps b l G H G1 H1) : Bx Ps b l G0 H0 G1 H1 := ⟨x.gr.trans y.gr, y.box, y.tabs, x.bl, x.nb, x.nl⟩
theorem Bx.wd (x : Bx Ps b l G0 H0 G H) : Wd (b :: l :: Ps) G H := x.gr.wd
theorem Bx.neb (x : Bx Ps b l G0 H0 G H) (hp : H p = none) : b ≠ p := fun z => by
  obtain ⟨_, _, e, _⟩ := x.box
  rw [z, hp] at e; cases e
theorem Bx.nel (x : Bx Ps b l G0 H0 G H) (hp : H p = none) : l ≠ p := fun z => by
  obtain ⟨_, _, _, e, _⟩ := x.box
  rw [z, hp] at e; cases e
theorem BoxAt.upd (h : BoxAt b l H) (hb : b ≠ p) (hl : l ≠ p) : BoxAt b l (upd H p o) := by
  obtain ⟨z, ns, e1, e2, e3⟩ := h
  exact ⟨z, ns, by rw [upd_ne hb]; exact e1, by rw [upd_ne hl]; exact e2, e3⟩
theorem Bx.new (x : Bx Ps b l G0 H0 G H) (hp : H p = none) : Bx Ps b l G0 H0 G (upd H p o) :=
  ⟨x.gr.trans (Gr.new x.wd hp), x.box.upd (x.neb hp) (x.nel hp), x.tabs.same (same_new hp), x.bl, x.nb, x.nl⟩
theorem Bx.alloc (x : Bx Ps b l G0 H0 G H) (hp : H p = none) : Bx Ps b l G0 H0 (upd G p o) (upd H p o) :=
  ⟨x.gr.trans (Gr.alloc x.wd hp), x.box.upd (x.neb hp) (x.nel hp), x.tabs.same (same_new hp), x.bl, x.nb, x.nl⟩
/-- a thing made since the start and not known: not the box, no table -/
theorem Bx.apart (x : Bx Ps b l G0 H0 G0 H0) (h0 : H0 p = none) : b ≠ p ∧ l ≠ p ∧ p ∉ Ps := ⟨x.neb h0, x.nel h0, x.tabs.nin h0⟩
theorem Bx.poke (x : Bx Ps b l G0 H0 G H) (s : Bx Ps b l G0 H0 G0 H0) (h0 : H0 p = none) (hg : G p = none) : Bx Ps b l G0 H0 G (upd H p o) := by
  obtain ⟨h1, h2, h3⟩ := s.apart h0
  exact ⟨x.gr.poke h0 hg, x.box.upd h1 h2, x.tabs.upd h3, x.bl, x.nb, x.nl⟩
theorem Bx.close (x : Bx Ps b l G0 H0 G H) (s : Bx Ps b l G0 H0 G0 H0) (h0 : H0 p = none) (h1 : H p = some o) (hg : G p = none) : Bx Ps b l G0 H0 (upd G p o) H := by
  obtain ⟨a1, a2, a3⟩ := s.apart h0
  refine ⟨x.gr.close h0 h1 (fun h => ?_) hg, x.box, x.tabs, x.bl, x.nb, x.nl⟩
  rcases List.mem_cons.mp h with z | h
  · exact a1 z.symm
  rcases List.mem_cons.mp h with z | h
  · exact a2 z.symm
  · exact a3 h
theorem Bx.pure (x : Bx Ps b l G0 H0 G H) (g : Gr Ps G H G1 H1) (t : Tabs Ps H1) : Bx Ps b l G0 H0 G1 H1 := by
  have gw := g.widen x.wd (fun c hc => List.mem_cons_of_mem _ (List.mem_cons_of_mem _ hc))
  refine ⟨x.gr.trans gw, ?_, t, x.bl, x.nb, x.nl⟩
  obtain ⟨z, ns, e1, e2, e3⟩ := x.box
  exact ⟨z, ns, g.keep _ _ x.nb e1, g.keep _ _ x.nl e2, e3⟩
theorem Bx.wdP (x : Bx Ps b l G0 H0 G H) : Wd Ps G H := x.wd.sub fun c hc => List.mem_cons_of_mem _ (List.mem_cons_of_mem _ hc)
end
section
variable {P : Program} {w : World} {K : PySem.W.Frag} {mg : Str → Option Value} {base : Heap} {Ps : List Addr} {H : Hp}
/-- what the top says of the law's helpers -/
structure RawL (K : PySem.W.Frag) (mg : Str → Option Value) : Prop where
  begun : DefR K mg "_law_begun" s_law_begun a_law_begun
  take : DefR K mg "_law_take" s_law_take a_law_take
  alike : DefR K mg "_law_alike" s_law_alike a_law_alike
  b_len : mg "len" = none
  b_list : mg "list" = none
  b_int : mg "int" = none
  b_bool : mg "bool" = none
  b_str : mg "str" = none
  b_tuple : mg "tuple" = none
  b_isinstance : mg "isinstance" = none
  b_range : mg "range" = none
def spBegun (K : PySem.W.Frag) : Sp := fun vs H Q _ => ∃ (a : Addr) (ns : List Int), vs = [.ref a] ∧ SqL K H a (ns.map V.int) ∧ ns.length ≤ 63 ∧ ∀ b l H', H b = none → H l = none → b ≠ l → Same H H' → BoxAt b l H' → Q (.ref b) H'
theorem c_begun (T : RawL K mg) : C8.Cal P w K mg base 1 "_law_begun" (spBegun K) [] := by
  refine T.begun.cal sc_law_begun (fun vs H Q E h => ?_) (fun f cdv A outer s H vs Q E hr h => ?_)
  · obtain ⟨a, ns, rfl, _⟩ := h
    rfl
  · obtain ⟨a, ns, rfl, ha, hl, q⟩ := h
    have b_len := T.b_len
    have b_list := T.b_list
    have b_int := T.b_int
    refine ⟨_, (pss_cons (ps_set (i := 1) sc_law_begun.nd rfl (Or.inl rfl) pe_int)
      (pss_cons (ps_for PassesOwn.never rfl (pi_list (pv 0)) (pg_name (i := 2) sc_law_begun.nd rfl (Or.inl rfl))
        (pss_one (ps_set (i := 1) sc_law_begun.nd rfl (Or.inl rfl) (pe_op op_modN (pe_op op_add (pe_op op_add (pe_op op_mul (pv 1) pe_int) (pe_op op_mul (pv 2) pe_int)) pe_int) pe_int))))
      (pss_one (ps_ret (pe_lst (pa_cons (pe_callTy call_list_of (by rfl) b_list (by decide +kernel) (pa_cons (pv 0) pa_nil)) (pa_cons (pe_op op_mul (pv 1) (pe_callTy call_int1 (by rfl) b_int (by decide +kernel) (pa_cons (pe_cmpR op_gt (pe_callB call_len_seq (by rfl) b_len (by decide +kernel) (pa_cons (pv 0) pa_nil)) pe_int (nomark _)) pa_nil))) pa_nil))))))), ?_⟩
    refine ⟨_, rfl, a, rfl, ⟨_, ha⟩, for_list (K := K) (a := a) (xs := ns.map V.int) (fun i σ H' => ∃ (z : Int) (v : Option V), σ = [some (.ref a), some (.int z), v] ∧ H' = H) ⟨0, none, rfl, rfl⟩ (fun i σ H' _ ⟨_, _, _, e⟩ => by rw [e]; exact ha) ?_ ?_⟩
    · rintro i x σ H' hx ⟨z, v, rfl, rfl⟩
      rw [List.getElem?_map] at hx
      obtain ⟨n, _, rfl⟩ := Option.map_eq_some_iff.mp hx
      refine ⟨_, rfl, _, _, rfl, rfl, .inr ⟨by decide, by decide⟩, _, rfl, _, _, rfl, rfl, .inr ⟨by decide, by decide⟩, _, _, rfl, rfl, _, _, rfl, rfl, _, _, rfl, rfl, by show (2147483647 : Int) ≠ 0; decide, ?_⟩
      exact ⟨_, _, rfl, rfl⟩
    · rintro σ H' ⟨z, v, rfl, rfl⟩
      refine ⟨_, rfl, a, _, rfl, .inl ha, fun l hl' => ?_⟩
      refine ⟨_, rfl, _, rfl, a, _, rfl, .inl ((same_new hl').seq ha), _, _, rfl, rfl, .inr ⟨_, rfl, _, _, rfl, rfl, .inr ?_, by show 2 ≤ sizeLine; decide, fun b hb => ?_⟩⟩
      · split <;> decide
      · have nlb : l ≠ b := ne_of_none upd_same hb
        rw [upd_ne (Ne.symm nlb)] at hb
        refine q b l _ hb hl' (Ne.symm nlb) (fun c o e => ?_) ⟨_, ns, upd_same, by rw [upd_ne nlb, upd_same], hl⟩
        rw [upd_ne (ne_of_none e hb), upd_ne (ne_of_none e hl')]
        exact e
theorem shaped_ints (ns : List Int) : SeqAt.shaped (.list (ns.map PyData.int)) = true := by
  unfold SeqAt.shaped
  rw [Bool.and_eq_true, decide_eq_true_eq]
  constructor
  · show PyData.canLay0 (.list (ns.map PyData.int)) = true
    induction ns with
    | nil => rfl
    | cons n r ih =>
      simp only [List.map_cons, PyData.canLay0, PyData.canLayAll0] at ih ⊢
      simp [ih]
  · have := depth_ints ns
    simp only [PyData.depth]
    omega
theorem eqv_nil (ns : List Int) : PyData.eqv (.list (ns.map PyData.int)) (.list []) = ns.isEmpty := by
  cases ns with
  | nil => rfl
  | cons n r => rfl
theorem ixN_zero {n : Nat} (h : 0 < n) : ixN n 0 = some 0 := by
  unfold ixN
  rw [if_pos (by omega), if_pos (by omega)]
  rfl
theorem fmod_range (x : Int) {m : Int} (h : 0 < m) : 0 ≤ x.fmod m ∧ x.fmod m < m := ⟨Int.fmod_nonneg_of_pos x h, Int.fmod_lt_of_pos x h⟩
/-- a number is drawn -/
def spTake (Ps : List Addr) : Sp := fun vs H Q _ => ∃ (b l : Addr) (m : Int) (G : Hp), vs = [.ref b, .int m] ∧ 0 < m ∧ m < 1000000 ∧ Bx Ps b l G H G H ∧ ∀ (r : Int) H', 0 ≤ r → r < m → Bx Ps b l G H G H' → Q (.int r) H'
theorem c_take (T : RawL K mg) : C8.Cal P w K mg base 1 "_law_take" (spTake Ps) [] := by
  refine T.take.cal sc_law_take (fun vs H Q E h => ?_) (fun f cdv A outer s H vs Q E hr h => ?_)
  · obtain ⟨b, l, m, G, rfl, _⟩ := h
    rfl
  · obtain ⟨b, l, m, G, rfl, m0, m1, B, q⟩ := h
    obtain ⟨z, ns, hb, hl, hn⟩ := B.box
    refine ⟨_, (pss_cons (ps_if (pt_cmpR (op_eqD hr.units) (pe_ix ix_seq (pv 0) pe_int (fun _ _ => rfl)) (pe_lst pa_nil) (nomark _))
        (pss_cons (ps_asg (pe_op op_modN (pe_op op_mul (pe_ix ix_seq (pv 0) pe_int (fun _ _ => rfl)) pe_int) pe_int) (pg_sub (pv 0) pe_int set_list))
      (pss_one (ps_ret (pe_op op_modN (pe_op op_fdivN (pe_ix ix_seq (pv 0) pe_int (fun _ _ => rfl)) pe_int) (pv 1)))))
        pss_nil)
      (pss_cons (ps_set (i := 2) sc_law_take.nd rfl (Or.inl rfl) (pe_ix ix_seq (pe_ix ix_seq (pv 0) pe_int (fun _ _ => rfl)) pe_int (fun _ _ => rfl)))
      (pss_cons (ps_asg (pe_op op_fdivN (pv 2) (pv 1)) (pg_sub (pe_ix ix_seq (pv 0) pe_int (fun _ _ => rfl)) pe_int set_list))
      (pss_cons (ps_if (PW.pt (pw_or (pt_cmpR op_eq (pe_ix ix_seq (pe_ix ix_seq (pv 0) pe_int (fun _ _ => rfl)) pe_int (fun _ _ => rfl)) pe_int (nomark _)) (pw_or1 (pt_cmpR op_eq (pe_ix ix_seq (pe_ix ix_seq (pv 0) pe_int (fun _ _ => rfl)) pe_int (fun _ _ => rfl)) (pe_un un_neg pe_int) (nomark _)))))
        (pss_one (ps_expr (pe_bm PySem.F.plainAttrs_list PySem.F.slot_list_pop PySem.F.type_list_pop mt_popAt (pe_ix ix_seq (pv 0) pe_int (fun _ _ => rfl)) (pa_cons pe_int pa_nil))))
        pss_nil)
      (pss_one (ps_ret (pe_op op_modN (pv 2) (pv 1)))))))), ?_⟩
    have ix0 : atI [V.ref l, V.int z] (((0 : Nat) : Nat) : Int) = some (V.ref l) := atI_nat rfl
    have ix1 : atI [V.ref l, V.int z] ((1 : Nat) : Int) = some (V.int z) := atI_nat rfl
    refine ⟨_, rfl, .inl ⟨b, _, _, _, rfl, rfl, SqL.of hb, ix0, Nat.zero_le _, fun e he => ?_⟩⟩
    have nbe : b ≠ e := B.neb he
    have nle : l ≠ e := B.nel he
    have hb1 : (upd H e (.lst [])) b = some (.lst [.ref l, .int z]) := by rw [upd_ne nbe]; exact hb
    have hl1 : (upd H e (.lst [])) l = some (.lst (ns.map V.int)) := by rw [upd_ne nle]; exact hl
    have B1 : Bx Ps b l G H G (upd H e (.lst [])) := B.new he
    refine ⟨_, _, .lst (SqL.of hl1) (dpAll_ints ns), .lst (SqL.of upd_same) .nil, shaped_ints ns, by decide +kernel, _, rfl, ?_⟩
    rw [eqv_nil]
    cases ns with
    | nil =>
      refine iteT ?_
      refine ⟨_, rfl, .inl ⟨b, _, _, _, rfl, rfl, SqL.of hb1, ix1, _, _, rfl, rfl, .inr ⟨by decide, by decide⟩, _, _, rfl, rfl, by show (2147483647 : Int) ≠ 0; decide, ?_⟩⟩
      refine ⟨_, rfl, b, _, _, 1, rfl, rfl, hb1, rfl, ?_⟩
      refine ⟨_, rfl, .inl ⟨b, _, _, _, rfl, rfl, SqL.of upd_same, atI_nat (j := 1) rfl, _, _, rfl, rfl, ⟨by decide, by decide⟩, _, rfl, _, _, rfl, rfl, by omega, ?_⟩⟩
      obtain ⟨r1, r2⟩ := fmod_range (((z * 48271).fmod 2147483647).fdiv 7) m0
      refine q _ _ r1 r2 ⟨B1.gr.pokeF bF, ⟨_, [], upd_same, by rw [upd_ne B.bl.symm]; exact hl1, by decide⟩, B1.tabs.upd B.nb, B.bl, B.nb, B.nl⟩
    | cons n r =>
      refine iteF ?_
      refine ⟨_, rfl, .inl ⟨b, _, _, _, rfl, rfl, SqL.of hb1, ix0, .inl ⟨l, _, _, _, rfl, rfl, SqL.of hl1, atI_nat (j := 0) rfl, ?_⟩⟩⟩
      refine ⟨_, rfl, _, rfl, _, _, rfl, rfl, ⟨by omega, by omega⟩, ?_⟩
      refine ⟨_, rfl, .inl ⟨b, _, _, _, rfl, rfl, SqL.of hb1, ix0, l, _, _, 0, rfl, rfl, hl1, ixN_zero (by simp), ?_⟩⟩
      have hb2 : ∀ o, (upd (upd H e (.lst [])) l o) b = some (.lst [.ref l, .int z]) := fun o => by rw [upd_ne B.bl]; exact hb1
      have B2 : ∀ k : Int, Bx Ps b l G H G (upd (upd H e (.lst [])) l (.lst ((k :: r).map V.int))) := fun k => ⟨B1.gr.pokeF lF, ⟨z, k :: r, hb2 _, upd_same, hn⟩, B1.tabs.upd B.nl, B.bl, B.nb, B.nl⟩
      obtain ⟨r1, r2⟩ := fmod_range n m0
      have fin : ∀ H', Bx Ps b l G H G H' → ∃ v, ([some (.ref b), some (.int m), some (.int n)] : L2.St)[2]? = some (some v) ∧ ∃ v2, ([some (.ref b), some (.int m), some (.int n)] : L2.St)[1]? = some (some v2) ∧ ∃ i j, v = .int i ∧ v2 = .int j ∧ j ≠ 0 ∧ Q (.int (i.fmod j)) H' := fun H' B' => ⟨_, rfl, _, rfl, n, m, rfl, rfl, by omega, q _ H' r1 r2 B'⟩
      have pop : ∀ k : Int, Bx Ps b l G H G (upd (upd (upd H e (.lst [])) l (.lst ((k :: r).map V.int))) l (.lst (r.map V.int))) := fun k => ⟨(B2 k).gr.pokeF lF, ⟨z, r, by rw [upd_ne B.bl]; exact hb2 _, upd_same, by simp at hn; omega⟩, (B2 k).tabs.upd B.nl, B.bl, B.nb, B.nl⟩
      refine ⟨_, rfl, .inl ⟨b, _, _, _, rfl, rfl, SqL.of (hb2 _), ix0, .inl ⟨l, _, _, _, rfl, rfl, SqL.of upd_same, atI_nat (j := 0) rfl, rfl, _, rfl, ?_⟩⟩⟩
      have dopop : ∀ k : Int, ∃ v, ([some (.ref b), some (.int m), some (.int n)] : L2.St)[0]? = some (some v) ∧ (∀ Q' : VK, (Q' (.ref l) (upd (upd H e (.lst [])) l (.lst ((k :: r).map V.int)))) → rIx K v (.int 0) (upd (upd H e (.lst [])) l (.lst ((k :: r).map V.int))) Q') := fun k => ⟨_, rfl, fun Q' h => .inl ⟨b, _, _, _, rfl, rfl, SqL.of (hb2 _), ix0, h⟩⟩
      by_cases h0 : n.fdiv m = 0
      · rw [decide_eq_true (show V.int (n.fdiv m) = V.int 0 by rw [h0])]
        refine iteT (iteT ?_)
        refine ⟨_, rfl, .inl ⟨b, _, _, _, rfl, rfl, SqL.of (hb2 _), ix0, .inl ⟨rfl, _, SqL.of upd_same⟩, l, _, _, 0, _, rfl, rfl, upd_same, by decide, by decide, (ixN_seq (ixN_zero (by simp))).1, rfl, ?_⟩⟩
        exact fin _ (pop _)
      · rw [decide_eq_false (show ¬ V.int (n.fdiv m) = V.int 0 from fun z => h0 (V.int.inj z))]
        refine iteF ?_
        refine ⟨_, rfl, .inl ⟨b, _, _, _, rfl, rfl, SqL.of (hb2 _), ix0, .inl ⟨l, _, _, _, rfl, rfl, SqL.of upd_same, atI_nat (j := 0) rfl, _, rfl, rfl, _, rfl, ?_⟩⟩⟩
        by_cases h1 : n.fdiv m = -1
        · rw [decide_eq_true (show V.int (n.fdiv m) = V.int (-1) by rw [h1])]
          refine iteT ?_
          refine ⟨_, rfl, .inl ⟨b, _, _, _, rfl, rfl, SqL.of (hb2 _), ix0, .inl ⟨rfl, _, SqL.of upd_same⟩, l, _, _, 0, _, rfl, rfl, upd_same, by decide, by decide, (ixN_seq (ixN_zero (by simp))).1, rfl, ?_⟩⟩
          exact fin _ (pop _)
        · rw [decide_eq_false (show ¬ V.int (n.fdiv m) = V.int (-1) from fun z => h1 (V.int.inj z))]
          refine iteF ?_
          exact fin _ (B2 _)
end
end Cr
set_option Elab.async false
set_option linter.all false
set_option maxRecDepth 100000
set_option maxHeartbeats 4000000

namespace Cr
open PySem PySem.Spec PyProof.Rows L2
/-! ### two things of the same data are told alike -/
def shp : Nat → PyData → Prop
  | _, .none => True
  | _, .bool _ => True
  | _, .int _ => True
  | _, .str _ => True
  | n + 1, .list ds => ds.length ≤ 1000 ∧ ∀ d ∈ ds, shp n d
  | n + 1, .tuple ds => ds.length ≤ 1000 ∧ ∀ d ∈ ds, shp n d
  | _, _ => False
def spAlike (K : PySem.W.Frag) : Nat → Sp
  | 0 => fun _ _ _ _ => False
  | n + 1 => fun vs H Q _ => ∃ (x y : V) (d : PyData), vs = [x, y] ∧ Dp K H x d ∧ Dp K H y d ∧ shp n d ∧ Q (.bl true) H
section
variable {K : PySem.W.Frag} {H : Hp}
theorem sqL_ty {a : Addr} {xs : List V} (h : SqL K H a xs) : TyX K H (.ref a) (.type "list") := by
  rcases h with (h | ⟨o, h⟩) | ⟨o, vs, n, h, hc, _⟩
  · exact .base (.lst h)
  · exact .base (.frz h)
  · exact .kList h hc
theorem sqT_ty {a : Addr} {xs : List V} (h : SqT K H a xs) : TyX K H (.ref a) (.type "tuple") := by
  rcases h with (h | ⟨o, h⟩) | ⟨o, vs, n, h, hc, _⟩
  · exact .base (.tup h)
  · exact .fTuple h
  · exact .kTuple h hc
theorem dpAll_len : ∀ {xs : List V} {ds : List PyData}, DpAll K H xs ds → xs.length = ds.length
  | _, _, .nil => rfl
  | _, _, .cons _ r => congrArg (· + 1) (dpAll_len r)
theorem dpAll_get : ∀ {xs : List V} {ds : List PyData} {i : Nat} {d : PyData}, DpAll K H xs ds → ds[i]? = some d → ∃ x, xs[i]? = some x ∧ Dp K H x d
  | _, _, _, _, .nil, e => by simp at e
  | _, _, 0, _, .cons r _, e => by simp at e; subst e; exact ⟨_, rfl, r⟩
  | _, _, i + 1, d, .cons _ t, e => by
    obtain ⟨y, h1, h2⟩ := dpAll_get (i := i) (d := d) t (by simpa using e)
    exact ⟨y, by simpa using h1, h2⟩
end
section
variable {P : Program} {w : World} {K : PySem.W.Frag} {mg : Str → Option Value} {base : Heap}
theorem c_alike (T : RawL K mg) : ∀ n : Nat, C8.Cal P w K mg base n "_law_alike" (spAlike K n) []
  | 0 => by
    obtain ⟨f, fd, F, hm, bi⟩ := T.alike
    exact ⟨f, fd, _, [], ⟨fun _ _ _ _ h => h.elim, fun _ _ _ _ _ _ _ _ _ _ _ _ _ h => h.elim⟩, hm, F.kp, bi, .nil⟩
  | n + 1 => by
    have k__law_alike : C8.Cal P w K mg base n "_law_alike" (spAlike K n) [] := c_alike T n
    refine T.alike.cal sc_law_alike (fun vs H Q E h => ?_) (fun f cdv A outer s H vs Q E hr h => ?_)
    · obtain ⟨x, y, d, rfl, _⟩ := h
      rfl
    · obtain ⟨x, y, d, rfl, hx, hy, hs, q⟩ := h
      have b_len := T.b_len
      have b_int := T.b_int
      have b_bool := T.b_bool
      have b_str := T.b_str
      have b_tuple := T.b_tuple
      have b_list := T.b_list
      have b_isinstance := T.b_isinstance
      have b_range := T.b_range
      refine ⟨_, (pss_cons (ps_if (pt_cmp (pc_isN (pv 1)))
        (pss_one (ps_ret (pe_cmp (pc_isN (pv 0)) rfl)))
        pss_nil)
      (pss_cons (ps_if (pt_val (pe_callB call_isi (by rfl) b_isinstance (by decide +kernel) (pa_cons (pv 1) (pa_cons (pe_bltn (v := .ty "bool") (by rfl) b_bool (by decide +kernel) rfl) pa_nil))))
        (pss_one (ps_ret (pe_and (pe_callB call_isi (by rfl) b_isinstance (by decide +kernel) (pa_cons (pv 0) (pa_cons (pe_bltn (v := .ty "bool") (by rfl) b_bool (by decide +kernel) rfl) pa_nil))) (pe_one (pe_cmpR op_eq (pv 0) (pv 1) (nomark _))))))
        pss_nil)
      (pss_cons (ps_if (pt_val (pe_callB call_isi (by rfl) b_isinstance (by decide +kernel) (pa_cons (pv 1) (pa_cons (pe_bltn (v := .ty "int") (by rfl) b_int (by decide +kernel) rfl) pa_nil))))
        (pss_one (ps_ret (pe_and (pe_callB call_isi (by rfl) b_isinstance (by decide +kernel) (pa_cons (pv 0) (pa_cons (pe_bltn (v := .ty "int") (by rfl) b_int (by decide +kernel) rfl) pa_nil))) (pe_and (pe_not (pe_callB call_isi (by rfl) b_isinstance (by decide +kernel) (pa_cons (pv 0) (pa_cons (pe_bltn (v := .ty "bool") (by rfl) b_bool (by decide +kernel) rfl) pa_nil)))) (pe_one (pe_cmpR op_eq (pv 0) (pv 1) (nomark _)))))))
        pss_nil)
      (pss_cons (ps_if (pt_val (pe_callB call_isi (by rfl) b_isinstance (by decide +kernel) (pa_cons (pv 1) (pa_cons (pe_bltn (v := .ty "str") (by rfl) b_str (by decide +kernel) rfl) pa_nil))))
        (pss_one (ps_ret (pe_and (pe_callB call_isi (by rfl) b_isinstance (by decide +kernel) (pa_cons (pv 0) (pa_cons (pe_bltn (v := .ty "str") (by rfl) b_str (by decide +kernel) rfl) pa_nil))) (pe_one (pe_cmpR op_eq (pv 0) (pv 1) (nomark _))))))
        pss_nil)
      (pss_cons (ps_if (PW.pt (pw_or (pt_cmpR op_ne (pe_callB call_isi (by rfl) b_isinstance (by decide +kernel) (pa_cons (pv 1) (pa_cons (pe_bltn (v := .ty "tuple") (by rfl) b_tuple (by decide +kernel) rfl) pa_nil))) (pe_callB call_isi (by rfl) b_isinstance (by decide +kernel) (pa_cons (pv 0) (pa_cons (pe_bltn (v := .ty "tuple") (by rfl) b_tuple (by decide +kernel) rfl) pa_nil))) (nomark _)) (pw_or1 (pt_cmpR op_ne (pe_callB call_isi (by rfl) b_isinstance (by decide +kernel) (pa_cons (pv 1) (pa_cons (pe_bltn (v := .ty "list") (by rfl) b_list (by decide +kernel) rfl) pa_nil))) (pe_callB call_isi (by rfl) b_isinstance (by decide +kernel) (pa_cons (pv 0) (pa_cons (pe_bltn (v := .ty "list") (by rfl) b_list (by decide +kernel) rfl) pa_nil))) (nomark _)))))
        (pss_one (ps_ret pe_bl))
        pss_nil)
      (pss_cons (ps_if (pt_cmpR op_ne (pe_callB call_len_seq (by rfl) b_len (by decide +kernel) (pa_cons (pv 0) pa_nil)) (pe_callB call_len_seq (by rfl) b_len (by decide +kernel) (pa_cons (pv 1) pa_nil)) (nomark _))
        (pss_one (ps_ret pe_bl))
        pss_nil)
      (pss_cons (ps_for PassesOwn.never rfl (pi_range1 (by rfl) b_range (pa_cons (pe_callB call_len_seq (by rfl) b_len (by decide +kernel) (pa_cons (pv 1) pa_nil)) pa_nil)) (pg_name (i := 2) sc_law_alike.nd rfl (Or.inl rfl))
        (pss_one (ps_if (pt_not (pt_val (C8.pe_c k__law_alike hr (Nat.le_refl _) rfl (pa_cons (pe_ix ix_seq (pv 0) (pv 2) (fun _ _ => rfl)) (pa_cons (pe_ix ix_seq (pv 1) (pv 2) (fun _ _ => rfl)) pa_nil)))))
        (pss_one (ps_ret pe_bl))
        pss_nil)))
      (pss_one (ps_ret pe_bl))))))))), ?_⟩
      cases hy with
      | non =>
        cases hx
        exact ⟨_, rfl, _, rfl, iteT ⟨_, rfl, q⟩⟩
      | bl k =>
        cases hx
        refine ⟨_, rfl, _, rfl, iteF ?_⟩
        refine ⟨_, rfl, _, _, _, _, true, rfl, .ty _, .base (.bl k), kit_ty (by decide +kernel), _, rfl, iteT ?_⟩
        refine ⟨_, rfl, _, _, _, _, true, rfl, .ty _, .base (.bl k), kit_ty (by decide +kernel), _, rfl, iteT ?_⟩
        refine ⟨_, rfl, _, rfl, rfl, ?_⟩
        rw [decide_eq_true (rfl : V.bl k = V.bl k)]
        exact q
      | int i =>
        cases hx
        refine ⟨_, rfl, _, rfl, iteF ?_⟩
        refine ⟨_, rfl, _, _, _, _, false, rfl, .ty _, .base (.int i), kit_ty (by decide +kernel), _, rfl, iteF ?_⟩
        refine ⟨_, rfl, _, _, _, _, true, rfl, .ty _, .base (.int i), kit_ty (by decide +kernel), _, rfl, iteT ?_⟩
        refine ⟨_, rfl, _, _, _, _, true, rfl, .ty _, .base (.int i), kit_ty (by decide +kernel), _, rfl, iteT ?_⟩
        refine ⟨_, rfl, _, _, _, _, false, rfl, .ty _, .base (.int i), kit_ty (by decide +kernel), _, rfl, _, rfl, iteT ?_⟩
        refine ⟨_, rfl, _, rfl, rfl, ?_⟩
        rw [decide_eq_true (rfl : V.int i = V.int i)]
        exact q
      | str z =>
        cases hx
        refine ⟨_, rfl, _, rfl, iteF ?_⟩
        refine ⟨_, rfl, _, _, _, _, false, rfl, .ty _, .base (.str z), kit_ty (by decide +kernel), _, rfl, iteF ?_⟩
        refine ⟨_, rfl, _, _, _, _, false, rfl, .ty _, .base (.str z), kit_ty (by decide +kernel), _, rfl, iteF ?_⟩
        refine ⟨_, rfl, _, _, _, _, true, rfl, .ty _, .base (.str z), kit_ty (by decide +kernel), _, rfl, iteT ?_⟩
        refine ⟨_, rfl, _, _, _, _, true, rfl, .ty _, .base (.str z), kit_ty (by decide +kernel), _, rfl, iteT ?_⟩
        refine ⟨_, rfl, _, rfl, rfl, ?_⟩
        rw [decide_eq_true (rfl : V.str z = V.str z)]
        exact q
      | @lst a xs ds ha hd =>
        cases hx with
        | @lst a' xs' _ ha' hd' =>
        cases n with
        | zero => exact hs.elim
        | succ n =>
        refine ⟨_, rfl, _, rfl, iteF ?_⟩
        refine ⟨_, rfl, _, _, _, _, false, rfl, .ty _, sqL_ty ha, kit_ty (by decide +kernel), _, rfl, iteF ?_⟩
        refine ⟨_, rfl, _, _, _, _, false, rfl, .ty _, sqL_ty ha, kit_ty (by decide +kernel), _, rfl, iteF ?_⟩
        refine ⟨_, rfl, _, _, _, _, false, rfl, .ty _, sqL_ty ha, kit_ty (by decide +kernel), _, rfl, iteF ?_⟩
        refine ⟨_, rfl, _, _, _, _, false, rfl, .ty _, sqL_ty ha, kit_ty (by decide +kernel), _, rfl, _, _, _, _, false, rfl, .ty _, sqL_ty ha', kit_ty (by decide +kernel), rfl, _, rfl, iteF ?_⟩
        refine ⟨_, rfl, _, _, _, _, true, rfl, .ty _, sqL_ty ha, kit_ty (by decide +kernel), _, rfl, _, _, _, _, true, rfl, .ty _, sqL_ty ha', kit_ty (by decide +kernel), rfl, _, rfl, iteF ?_⟩
        have e1 := dpAll_len hd
        have e2 := dpAll_len hd'
        refine ⟨_, rfl, _, _, rfl, .inl ha', _, rfl, _, _, rfl, .inl ha, rfl, _, rfl, ?_⟩
        rw [decide_eq_true (show V.int (xs'.length : Int) = V.int (xs.length : Int) by rw [e1, e2])]
        refine iteF ?_
        have hz : xs.length ≤ 1000 := by
          rw [e1]
          exact hs.1
        refine ⟨_, rfl, _, _, rfl, .inl ha, _, rfl, by omega, by omega, for_range (lo := 0) (n := xs.length) (fun i σ H' => (∃ v : Option V, σ = [some (.ref a'), some (.ref a), v]) ∧ H' = H) ⟨⟨none, rfl⟩, rfl⟩ ?_ ?_⟩
        · rintro i σ H' hi ⟨⟨v, rfl⟩, rfl⟩
          have hid : i < ds.length := by omega
          obtain ⟨y1, hy1, dy1⟩ := dpAll_get hd (List.getElem?_eq_getElem hid)
          obtain ⟨x1, hx1, dx1⟩ := dpAll_get hd' (List.getElem?_eq_getElem hid)
          have e0 : (0 : Int) + (i : Int) = ((i : Nat) : Int) := by omega
          refine ⟨_, rfl, _, rfl, .inl ⟨a', _, _, _, rfl, rfl, ha', by rw [e0]; exact atI_nat hx1, _, rfl, _, rfl, .inl ⟨a, _, _, _, rfl, rfl, ha, by rw [e0]; exact atI_nat hy1, ?_⟩⟩⟩
          exact ⟨x1, y1, ds[i], rfl, dx1, dy1, hs.2 _ (List.getElem_mem hid), _, rfl, iteF ⟨⟨_, rfl⟩, rfl⟩⟩
        · rintro σ H' ⟨_, rfl⟩
          exact q
      | @tup a xs ds ha hd =>
        cases hx with
        | @tup a' xs' _ ha' hd' =>
        cases n with
        | zero => exact hs.elim
        | succ n =>
        refine ⟨_, rfl, _, rfl, iteF ?_⟩
        refine ⟨_, rfl, _, _, _, _, false, rfl, .ty _, sqT_ty ha, kit_ty (by decide +kernel), _, rfl, iteF ?_⟩
        refine ⟨_, rfl, _, _, _, _, false, rfl, .ty _, sqT_ty ha, kit_ty (by decide +kernel), _, rfl, iteF ?_⟩
        refine ⟨_, rfl, _, _, _, _, false, rfl, .ty _, sqT_ty ha, kit_ty (by decide +kernel), _, rfl, iteF ?_⟩
        refine ⟨_, rfl, _, _, _, _, true, rfl, .ty _, sqT_ty ha, kit_ty (by decide +kernel), _, rfl, _, _, _, _, true, rfl, .ty _, sqT_ty ha', kit_ty (by decide +kernel), rfl, _, rfl, iteF ?_⟩
        refine ⟨_, rfl, _, _, _, _, false, rfl, .ty _, sqT_ty ha, kit_ty (by decide +kernel), _, rfl, _, _, _, _, false, rfl, .ty _, sqT_ty ha', kit_ty (by decide +kernel), rfl, _, rfl, iteF ?_⟩
        have e1 := dpAll_len hd
        have e2 := dpAll_len hd'
        refine ⟨_, rfl, _, _, rfl, .inr ha', _, rfl, _, _, rfl, .inr ha, rfl, _, rfl, ?_⟩
        rw [decide_eq_true (show V.int (xs'.length : Int) = V.int (xs.length : Int) by rw [e1, e2])]
        refine iteF ?_
        have hz : xs.length ≤ 1000 := by
          rw [e1]
          exact hs.1
        refine ⟨_, rfl, _, _, rfl, .inr ha, _, rfl, by omega, by omega, for_range (lo := 0) (n := xs.length) (fun i σ H' => (∃ v : Option V, σ = [some (.ref a'), some (.ref a), v]) ∧ H' = H) ⟨⟨none, rfl⟩, rfl⟩ ?_ ?_⟩
        · rintro i σ H' hi ⟨⟨v, rfl⟩, rfl⟩
          have hid : i < ds.length := by omega
          obtain ⟨y1, hy1, dy1⟩ := dpAll_get hd (List.getElem?_eq_getElem hid)
          obtain ⟨x1, hx1, dx1⟩ := dpAll_get hd' (List.getElem?_eq_getElem hid)
          have e0 : (0 : Int) + (i : Int) = ((i : Nat) : Int) := by omega
          refine ⟨_, rfl, _, rfl, .inr (.inl ⟨a', _, _, _, rfl, rfl, ha', by rw [e0]; exact atI_nat hx1, _, rfl, _, rfl, .inr (.inl ⟨a, _, _, _, rfl, rfl, ha, by rw [e0]; exact atI_nat hy1, ?_⟩)⟩)⟩
          exact ⟨x1, y1, ds[i], rfl, dx1, dy1, hs.2 _ (List.getElem_mem hid), _, rfl, iteF ⟨⟨_, rfl⟩, rfl⟩⟩
        · rintro σ H' ⟨_, rfl⟩
          exact q
end
end Cr
set_option Elab.async false
set_option linter.all false
set_option maxRecDepth 100000
set_option maxHeartbeats 4000000

namespace Cr
open PySem PySem.Spec PyProof.Rows L2
abbrev s_law_stay : Stmt := top 37
abbrev n_law_stay : List Str := ["_law_box", "_law_hours", "_law_rooms", "_law_room", "_law_begin", "_law_end", "_law_most", "_law_use_here"]
abbrev a_law_stay : List Str := ["_law_box", "_law_hours", "_law_rooms"]
theorem sc_law_stay : FnScope n_law_stay a_law_stay (defScope s_law_stay) := ⟨rfl, rfl, rfl, by decide +kernel, rfl, by decide +kernel, by decide +kernel⟩
abbrev s_law_house : Stmt := top 38
abbrev n_law_house : List Str := ["_law_box", "_law_hours", "_law_rooms", "_law_k", "_law_most", "_law_air", "_law_limit", "_law_price", "_law_doors", "_law_one", "_law_other", "_law_stays"]
abbrev a_law_house : List Str := ["_law_box"]
theorem sc_law_house : FnScope n_law_house a_law_house (defScope s_law_house) := ⟨rfl, rfl, rfl, by decide +kernel, rfl, by decide +kernel, by decide +kernel⟩
/-! ### draws -/
theorem atI_mem {α : Type} {xs : List α} {i : Int} (h0 : 0 ≤ i) (h1 : i < (xs.length : Int)) : ∃ v, atI xs i = some v ∧ v ∈ xs := by
  obtain ⟨n, rfl⟩ : ∃ n : Nat, i = (n : Int) := ⟨i.toNat, by omega⟩
  have hi : n < xs.length := by omega
  exact ⟨xs[n], atI_nat (List.getElem?_eq_getElem hi), List.getElem_mem hi⟩
def rInt1 : List V → Hp → VK → Prop := fun xs H Q => (∃ i, xs = [.int i] ∧ Q (.int i) H) ∨ ∃ k, xs = [.bl k] ∧ Q (.int (if k then 1 else 0)) H
section
variable {Ps : List Addr} {b l p : Addr} {G0 H0 G H G1 H1 : Hp} {K : PySem.W.Frag} {m : Int} {Q : VK} {E : XK}
/-- [x, y][int(take(m) == 1)] -/
theorem pick2 {σ : L2.St} {x y : V} (hs : σ[0]? = some (some (.ref b))) (B : Bx Ps b l G0 H0 G H) (h0 : 0 < m) (h1 : m < 1000000) (hp : G p = some (.lst [x, y])) (k : ∀ v H', (v = x ∨ v = y) → Bx Ps b l G H G H' → Q v H') :
    tCB rInt1 (tCons (tOp rEq (tCall (spTake Ps) [] C8.E0 (tCons (tVar 0) (tCons (tC (.int m)) tNil))) (tC (.int 1))) tNil) σ H (fun z H2 => rIx K (.ref p) z H2 Q) := by
  refine ⟨_, hs, b, l, m, G, rfl, h0, h1, B.start, fun r H' _ _ B' => ?_⟩
  have hl : SqL K H' p [x, y] := SqL.of (B'.wd.same _ _ hp)
  refine ⟨rfl, .inr ⟨_, rfl, ?_⟩⟩
  by_cases hr : V.int r = V.int 1
  · rw [decide_eq_true hr]
    exact .inl ⟨p, _, _, y, rfl, rfl, hl, atI_nat (j := 1) rfl, k y H' (.inr rfl) B'⟩
  · rw [decide_eq_false hr]
    exact .inl ⟨p, _, _, x, rfl, rfl, hl, atI_nat (j := 0) rfl, k x H' (.inl rfl) B'⟩
end
theorem numOk_of {n : Int} (h0 : 0 ≤ n) (h1 : n ≤ 999) : numOk n = true := by
  unfold numOk
  rw [decide_eq_true h0, decide_eq_true h1]
  rfl
theorem numOk_inv {n : Int} (h : numOk n = true) : 0 ≤ n ∧ n ≤ 999 := by
  unfold numOk at h
  simpa using h
theorem roomOk_inv {a m l p : Int} (h : roomOk [a, m, l, p] = true) : (0 ≤ a ∧ a ≤ 999) ∧ (0 ≤ m ∧ m ≤ 999) ∧ (0 ≤ l ∧ l ≤ 999) ∧ (0 ≤ p ∧ p ≤ 999) ∧ a ≤ m := by
  replace h : (([a, m, l, p] : List Int).all numOk && decide (a ≤ m)) = true := h
  rw [Bool.and_eq_true] at h
  obtain ⟨h1, h2⟩ := h
  have z := List.all_eq_true.mp h1
  exact ⟨numOk_inv (z a (by simp)), numOk_inv (z m (by simp)), numOk_inv (z l (by simp)), numOk_inv (z p (by simp)), of_decide_eq_true h2⟩
theorem roomOk_of {a m l p : Int} (ha : 0 ≤ a) (h : a ≤ m) (hm : m ≤ 999) (hl : 0 ≤ l ∧ l ≤ 999) (hp : 0 ≤ p ∧ p ≤ 999) : roomOk [a, m, l, p] = true := by
  show (([a, m, l, p] : List Int).all numOk && decide (a ≤ m)) = true
  rw [decide_eq_true h, Bool.and_true, List.all_eq_true]
  intro x hx
  simp at hx
  rcases hx with rfl | rfl | rfl | rfl <;> exact numOk_of (by omega) (by omega)
theorem doorOk_of {n : Nat} {o t l : Int} (ho : 0 ≤ o ∧ o < n) (ht : 0 ≤ t ∧ t < n) (hn : (n : Int) ≤ 999) (hne : o ≠ t) (hl : 0 ≤ l ∧ l ≤ 999) : doorOk n [o, t, l] = true := by
  show (([o, t, l] : List Int).all numOk && (!decide (o = t) && decide (max o t < (n : Int)))) = true
  rw [Bool.and_eq_true]
  constructor
  · rw [List.all_eq_true]
    intro x hx
    simp at hx
    rcases hx with rfl | rfl | rfl <;> exact numOk_of (by omega) (by omega)
  · simp only [decide_eq_false hne, Bool.not_false, Bool.true_and]
    exact decide_eq_true (by omega)
theorem mostOf_at {rs : List (List Int)} {i : Int} {a m l p : Int} (h0 : 0 ≤ i) (e : rs[i.toNat]? = some [a, m, l, p]) : mostOf rs i = m := by
  unfold mostOf
  rw [show rs.getD i.toNat [] = [a, m, l, p] by rw [List.getD_eq_getElem?_getD, e]; rfl]
  rfl
theorem stayOk_of {h : Int} {rs : List (List Int)} {r b e u n : Int} (hr : 0 ≤ r) (hr2 : r < (rs.length : Int)) (hl : rs.length ≤ 6) (hb : 0 ≤ b) (hbe : b < e) (heh : e ≤ h) (hh : h ≤ 12) (hu : 0 ≤ u ∧ u ≤ 999) (hn : 0 ≤ n) (hm : n ≤ mostOf rs r) (hm2 : mostOf rs r ≤ 999) : stayOk h rs [r, b, e, u, n] = true := by
  show (([r, b, e, u, n] : List Int).all numOk && (decide (r < (rs.length : Int)) && (decide (b < e) && decide (e ≤ h) && decide (n ≤ mostOf rs r)))) = true
  rw [decide_eq_true hr2, decide_eq_true hbe, decide_eq_true heh, decide_eq_true hm, List.all_eq_true.mpr]
  · rfl
  · intro x hx
    simp at hx
    rcases hx with rfl | rfl | rfl | rfl | rfl <;> exact numOk_of (by omega) (by omega)
section
variable {P : Program} {w : World} {K : PySem.W.Frag} {mg : Str → Option Value} {base : Heap} {Ps : List Addr} {H : Hp}
structure RawH (K : PySem.W.Frag) (mg : Str → Option Value) : Prop extends RawL K mg where
  lstay : DefR K mg "_law_stay" s_law_stay a_law_stay
  lhouse : DefR K mg "_law_house" s_law_house a_law_house
  b_min : mg "min" = none
def spLStay (K : PySem.W.Frag) (Ps : List Addr) : Sp := fun vs H Q _ => ∃ (b l : Addr) (h : Int) (ra : Addr) (G : Hp) (rs : List (List Int)), vs = [.ref b, .int h, .ref ra] ∧ Bx Ps b l G H G H ∧ 1 ≤ h ∧ h ≤ 12 ∧ Rows K G ra rs ∧ 1 ≤ rs.length ∧ rs.length ≤ 6 ∧ Wide 4 rs ∧ (∀ r ∈ rs, roomOk r = true) ∧
  ∀ t ns G' H', Bx Ps b l G H G' H' → RowT K G' (.ref t) ns → ns.length = 5 → stayOk h rs ns = true → Q (.ref t) H'
theorem c_lstay (T : RawH K mg) : C8.Cal P w K mg base 2 "_law_stay" (spLStay K Ps) [] := by
  refine T.lstay.cal sc_law_stay (fun vs H Q E h => ?_) (fun f cdv A outer s H vs Q E hr h => ?_)
  · obtain ⟨b, l, h, ra, G, rs, rfl, _⟩ := h
    rfl
  · obtain ⟨b, l, h, ra, G, rs, rfl, B, h1, h12, hR, l1, l6, w4, rok, q⟩ := h
    obtain ⟨xs, hq, hrv⟩ := hR
    have hlen : xs.length = rs.length := Paired.length hrv
    have b_len := T.b_len
    have b_min := T.b_min
    have k__law_take : C8.Cal P w K mg base 1 "_law_take" (spTake Ps) [] := c_take T.toRawL
    refine ⟨_, (pss_cons (ps_set (i := 3) sc_law_stay.nd rfl (Or.inl rfl) (C8.pe_c k__law_take hr (by decide) rfl (pa_cons (pv 0) (pa_cons (pe_callB call_len_seq (by rfl) b_len (by decide +kernel) (pa_cons (pv 2) pa_nil)) pa_nil))))
      (pss_cons (ps_set (i := 4) sc_law_stay.nd rfl (Or.inl rfl) (C8.pe_c k__law_take hr (by decide) rfl (pa_cons (pv 0) (pa_cons (pv 1) pa_nil))))
      (pss_cons (ps_set (i := 5) sc_law_stay.nd rfl (Or.inl rfl) (pe_op op_add (pe_op op_add (pv 4) pe_int) (C8.pe_c k__law_take hr (by decide) rfl (pa_cons (pv 0) (pa_cons (pe_op op_sub (pv 1) (pv 4)) pa_nil)))))
      (pss_cons (ps_set (i := 6) sc_law_stay.nd rfl (Or.inl rfl) (pe_callB (call_min2 rfl) (by rfl) b_min (by decide +kernel) (pa_cons (pe_ix ix_seq (pe_ix ix_seq (pv 2) (pv 3) (fun _ _ => rfl)) pe_int (fun _ _ => rfl)) (pa_cons (pe_ix ix_seq (pe_lst (pa_cons pe_int (pa_cons pe_int (pa_cons pe_int pa_nil)))) (C8.pe_c k__law_take hr (by decide) rfl (pa_cons (pv 0) (pa_cons pe_int pa_nil))) (fun _ _ => rfl)) pa_nil))))
      (pss_cons (ps_set (i := 7) sc_law_stay.nd rfl (Or.inl rfl) (C8.pe_c k__law_take hr (by decide) rfl (pa_cons (pv 0) (pa_cons (pe_ix ix_seq (pe_lst (pa_cons pe_int (pa_cons pe_int pa_nil))) (C8.pe_c k__law_take hr (by decide) rfl (pa_cons (pv 0) (pa_cons pe_int pa_nil))) (fun _ _ => rfl)) pa_nil))))
      (pss_cons (ps_if (pt_cmpR op_eq (C8.pe_c k__law_take hr (by decide) rfl (pa_cons (pv 0) (pa_cons pe_int pa_nil))) pe_int (nomark _))
        (pss_one (ps_set (i := 7) sc_law_stay.nd rfl (Or.inl rfl) (C8.pe_c k__law_take hr (by decide) rfl (pa_cons (pv 0) (pa_cons pe_int pa_nil)))))
        pss_nil)
      (pss_one (ps_ret (pe_tup (pa_cons (pv 3) (pa_cons (pv 4) (pa_cons (pv 5) (pa_cons (pv 7) (pa_cons (C8.pe_c k__law_take hr (by decide) rfl (pa_cons (pv 0) (pa_cons (pe_op op_add (pv 6) pe_int) pa_nil))) pa_nil)))))))))))))), ?_⟩
    -- room, begin, end
    refine ⟨_, rfl, _, rfl, ra, xs, rfl, .inl (B.wd.same.seq hq), b, l, _, _, rfl, by omega, by omega, B.start, fun r1 H1 a1 c1 B1 => ?_⟩
    replace B1 := B.trans B1
    refine ⟨_, rfl, _, rfl, b, l, _, _, rfl, by omega, by omega, B1.start, fun r2 H2 a2 c2 B2 => ?_⟩
    replace B2 := B1.trans B2
    refine ⟨_, rfl, _, _, rfl, rfl, _, rfl, _, rfl, _, rfl, _, _, rfl, rfl, b, l, _, _, rfl, by omega, by omega, B2.start, fun r3 H3 a3 c3 B3 => ⟨_, _, rfl, rfl, ?_⟩⟩
    replace B3 := B2.trans B3
    -- most
    have hi : r1.toNat < rs.length := by omega
    have hg : rs[r1.toNat]? = some rs[r1.toNat] := List.getElem?_eq_getElem hi
    obtain ⟨y, hy, ty, rfl, hty⟩ := paired_get' hrv hg
    obtain ⟨ra', m, rl, rp, em⟩ := len4 (w4 _ (List.getElem_mem hi))
    have hok := rok _ (List.getElem_mem hi)
    rw [em] at hok hty hg
    obtain ⟨_, ⟨m0, m9⟩, _⟩ := roomOk_inv hok
    have hmost := mostOf_at a1 hg
    refine ⟨_, rfl, _, rfl, .inl ⟨ra, xs, r1, .ref ty, rfl, rfl, B3.wd.same.seq hq, ?_, .inr (.inl ⟨ty, _, _, .int m, rfl, rfl, Same.tup B3.wd.same hty, atI_nat (j := 1) rfl, ?_⟩)⟩⟩
    · rw [show r1 = ((r1.toNat : Nat) : Int) by omega]
      exact atI_nat hy
    refine ⟨by show 3 ≤ sizeLine; decide, fun p hp => ?_⟩
    have B4 := B3.alloc (o := .lst [.int 5, .int 12, .int 999]) hp
    refine ⟨_, rfl, b, l, _, _, rfl, by omega, by omega, B4.start, fun r4 H4 a4 c4 B5 => ?_⟩
    replace B5 := B4.trans B5
    obtain ⟨v, hv, hvm⟩ := atI_mem (xs := [V.int 5, V.int 12, V.int 999]) (i := r4) a4 (by simpa using c4)
    obtain ⟨k, rfl, hk⟩ : ∃ k : Int, v = .int k ∧ 5 ≤ k := by
      simp at hvm
      rcases hvm with rfl | rfl | rfl
      · exact ⟨_, rfl, by decide⟩
      · exact ⟨_, rfl, by decide⟩
      · exact ⟨_, rfl, by decide⟩
    refine .inl ⟨p, _, _, _, rfl, rfl, SqL.of (B5.wd.same _ _ upd_same), hv, _, _, rfl, ?_⟩
    have hmo : 0 ≤ (if k < m then k else m) ∧ (if k < m then k else m) ≤ m := by
      by_cases e : k < m
      · rw [if_pos e]; omega
      · rw [if_neg e]; omega
    generalize (if k < m then k else m) = mo at hmo
    -- use
    refine ⟨_, rfl, by show 2 ≤ sizeLine; decide, fun p2 hp2 => ?_⟩
    have B6 := B5.alloc (o := .lst [.int 4, .int 10]) hp2
    refine ⟨_, rfl, b, l, _, _, rfl, by omega, by omega, B6.start, fun r5 H5 a5 c5 B7 => ?_⟩
    replace B7 := B6.trans B7
    obtain ⟨v, hv, hvm⟩ := atI_mem (xs := [V.int 4, V.int 10]) (i := r5) a5 (by simpa using c5)
    obtain ⟨k2, rfl, hk2⟩ : ∃ k : Int, v = .int k ∧ 4 ≤ k ∧ k ≤ 10 := by
      simp at hvm
      rcases hvm with rfl | rfl
      · exact ⟨_, rfl, by decide, by decide⟩
      · exact ⟨_, rfl, by decide, by decide⟩
    refine .inl ⟨p2, _, _, _, rfl, rfl, SqL.of (B7.wd.same _ _ upd_same), hv, b, l, _, _, rfl, by omega, by omega, B7.start, fun r6 H6 a6 c6 B8 => ?_⟩
    replace B8 := B7.trans B8
    refine ⟨_, rfl, b, l, _, _, rfl, by omega, by omega, B8.start, fun r7 H7 a7 c7 B9 => ⟨rfl, _, rfl, ?_⟩⟩
    replace B9 := B8.trans B9
    -- the end, from any use
    have fin : ∀ (u : Int) G' H', 0 ≤ u ∧ u ≤ 999 → Bx Ps b l G H G' H' → Same G G' → ∃ v, ([some (.ref b), some (.int h), some (.ref ra), some (.int r1), some (.int r2), some (.int (r2 + 1 + r3)), some (.int mo), some (.int u)] : L2.St)[3]? = some (some v) ∧
        (tCons (tVar 4) (tCons (tVar 5) (tCons (tVar 7) (tCons (tCall (spTake Ps) [] C8.E0 (tCons (tVar 0) (tCons (tOp (rI0 fun i j => .int (i + j)) (tVar 6) (tC (.int 1))) tNil))) tNil)))) [some (.ref b), some (.int h), some (.ref ra), some (.int r1), some (.int r2), some (.int (r2 + 1 + r3)), some (.int mo), some (.int u)] H' fun xs H1 => (v :: xs).length ≤ sizeLine ∧ ∀ p, H1 p = none → Q (.ref p) (upd H1 p (.tup (v :: xs))) := fun u G' H' hu B' _ => by
      refine ⟨_, rfl, _, rfl, _, rfl, _, rfl, _, rfl, _, rfl, _, _, rfl, rfl, b, l, _, _, rfl, by omega, by omega, B'.start, fun r8 H8 a8 c8 B10 => ⟨by show 5 ≤ sizeLine; decide, fun t ht => ?_⟩⟩
      refine q t [r1, r2, r2 + 1 + r3, u, r8] _ _ ((B'.trans B10).alloc ht) ⟨t, rfl, SqT.of upd_same⟩ rfl ?_
      exact stayOk_of a1 (by omega) l6 a2 (by omega) (by omega) h12 hu a8 (by omega) (by omega)
    refine ite2 (fun _ => ?_) (fun _ => ?_)
    · exact ⟨_, rfl, b, l, _, _, rfl, by omega, by omega, B9.start, fun r9 H9 a9 c9 B11 => fin r9 _ H9 (by omega) (B9.trans B11) B9.gr.up⟩
    · exact fin r6 _ H7 (by omega) B9 B9.gr.up
end
end Cr
set_option Elab.async false
set_option linter.all false
set_option maxRecDepth 100000
set_option maxHeartbeats 4000000

namespace Cr
open PySem PySem.Spec PyProof.Rows L2
/-- a list of rows that is the law's own -/
def RowsL (K : PySem.W.Frag) (G : Hp) (a : Addr) (rs : List (List Int)) : Prop := ∃ xs, G a = some (.lst xs) ∧ RowsV K G xs rs
theorem RowsL.rows {K : PySem.W.Frag} {G : Hp} {a : Addr} {rs : List (List Int)} (h : RowsL K G a rs) : Rows K G a rs := let ⟨xs, e, r⟩ := h; ⟨xs, SqL.of e, r⟩
theorem RowsL.same {K : PySem.W.Frag} {G G' : Hp} {a : Addr} {rs : List (List Int)} (s : Same G G') (h : RowsL K G a rs) : RowsL K G' a rs := let ⟨xs, e, r⟩ := h; ⟨xs, s _ _ e, rowsV_same s r⟩
/-! ### a list of rows under way: not known until it is done -/
structure Opn (K : PySem.W.Frag) (Ps : List Addr) (b l : Addr) (G0 H0 : Hp) (p : Addr) (xs : List V) (rs : List (List Int)) (G H : Hp) : Prop where
  bx : Bx Ps b l G0 H0 G H
  h0 : H0 p = none
  at_ : H p = some (.lst xs)
  g : G p = none
  rv : RowsV K G xs rs
section
variable {K : PySem.W.Frag} {Ps : List Addr} {b l p : Addr} {G0 H0 G H G1 H1 : Hp} {xs : List V} {rs : List (List Int)} {v : V} {ns : List Int}
theorem Opn.begin (B : Bx Ps b l G0 H0 G H) (hp : H p = none) : Opn K Ps b l G H p [] [] G (upd H p (.lst [])) :=
  ⟨B.start.new hp, hp, upd_same, B.wd.free hp, .nil⟩
theorem Opn.start (o : Opn K Ps b l G0 H0 p xs rs G H) : Bx Ps b l G0 H0 G0 H0 → b ≠ p ∧ l ≠ p ∧ p ∉ Ps := fun s => s.apart o.h0
theorem Opn.nin (o : Opn K Ps b l G0 H0 p xs rs G H) (s : Bx Ps b l G0 H0 G0 H0) : p ∉ b :: l :: Ps := fun h => by
  obtain ⟨a1, a2, a3⟩ := s.apart o.h0
  rcases List.mem_cons.mp h with z | h
  · exact a1 z.symm
  rcases List.mem_cons.mp h with z | h
  · exact a2 z.symm
  · exact a3 h
theorem Opn.step (o : Opn K Ps b l G0 H0 p xs rs G H) (s : Bx Ps b l G0 H0 G0 H0) (y : Bx Ps b l G H G1 H1) : Opn K Ps b l G0 H0 p xs rs G1 H1 :=
  ⟨o.bx.trans y, o.h0, y.gr.keep _ _ (o.nin s) o.at_, y.gr.fresh p o.g (by rw [o.at_]; exact fun z => nomatch z), rowsV_same y.gr.up o.rv⟩
theorem Opn.push (o : Opn K Ps b l G0 H0 p xs rs G H) (s : Bx Ps b l G0 H0 G0 H0) (r : RowT K G v ns) : Opn K Ps b l G0 H0 p (xs ++ [v]) (rs ++ [ns]) G (upd H p (.lst (xs ++ [v]))) :=
  ⟨o.bx.poke s o.h0 o.g, o.h0, upd_same, o.g, paired_snoc o.rv r⟩
theorem Opn.done (o : Opn K Ps b l G0 H0 p xs rs G H) (s : Bx Ps b l G0 H0 G0 H0) : Bx Ps b l G0 H0 (upd G p (.lst xs)) H ∧ RowsL K (upd G p (.lst xs)) p rs :=
  ⟨o.bx.close s o.h0 o.at_ o.g, xs, upd_same, rowsV_same (same_new o.g) o.rv⟩
theorem Opn.len (o : Opn K Ps b l G0 H0 p xs rs G H) : xs.length = rs.length := Paired.length o.rv
end
theorem seq_if {c : TT} {t u rest : TS} {D : Ends} {σ : L2.St} {H : Hp} {i : Nat} {v : V} (Pv : L2.St → Hp → Prop) (hd : ∀ σ H, Pv σ H → rest D σ H) (h : ∀ κ : L2.St → Hp → Prop, (∀ σ H, Pv σ H → κ σ H) → tIfS c t u { D with nx := κ } (σ.set i (some v)) H) : gName i v σ H (tSeq (tIfS c t u) rest D) := h (rest D) hd
theorem other_ne {a t n : Int} (a0 : 0 ≤ a) (an : a < n) (t0 : 0 ≤ t) (tn : t < n - 1) : (0 ≤ (a + 1 + t).fmod n ∧ (a + 1 + t).fmod n < n) ∧ a ≠ (a + 1 + t).fmod n := by
  have h := fmod_range (a + 1 + t) (show 0 < n by omega)
  refine ⟨h, ?_⟩
  rw [Int.fmod_eq_emod_of_nonneg _ (by omega)]
  by_cases e : a + 1 + t < n
  · rw [Int.emod_eq_of_lt (by omega) e]; omega
  · have e2 : (a + 1 + t) % n = a + 1 + t - n := by
      rw [show a + 1 + t = (a + 1 + t - n) + n by omega, Int.add_emod_right, Int.emod_eq_of_lt (by omega) (by omega)]; omega
    rw [e2]; omega
/-- the rows of a house -/
structure GoodH (h : Int) (rs ds ss : List (List Int)) : Prop where
  h1 : 1 ≤ h
  h12 : h ≤ 12
  r1 : 1 ≤ rs.length
  r6 : rs.length ≤ 6
  d8 : ds.length ≤ 8
  s20 : ss.length ≤ 20
  w4 : Wide 4 rs
  w3 : Wide 3 ds
  w5 : Wide 5 ss
  rok : ∀ r ∈ rs, roomOk r = true
  dok : ∀ d ∈ ds, doorOk rs.length d = true
  sok : ∀ s ∈ ss, stayOk h rs s = true
structure RowsAt (K : PySem.W.Frag) (G : Hp) (t : Addr) (h : Int) (ra da sa : Addr) (rs ds ss : List (List Int)) : Prop where
  t : SqT K G t [.int h, .ref ra, .ref da, .ref sa]
  r : RowsL K G ra rs
  d : RowsL K G da ds
  s : RowsL K G sa ss
theorem firstNot_all {ok : List Int → Bool} {rs : List (List Int)} (h : ∀ r ∈ rs, ok r = true) : firstNot ok rs = none :=
  firstNot_none fun j r _ e => h r (List.mem_of_getElem? e)
theorem GoodH.bad {h : Int} {rs ds ss : List (List Int)} (g : GoodH h rs ds ss) : houseBad h rs ds ss = none := by
  have hc : countBad h rs ds ss = none := by
    have := g.h1; have := g.h12; have := g.r1; have := g.r6; have := g.d8; have := g.s20
    unfold countBad
    rw [if_neg (by omega), if_neg (by omega), if_neg (by omega), if_neg (by omega)]
  unfold houseBad
  rw [hc]
  show partBad h rs ds ss = none
  unfold partBad
  rw [firstNot_all g.rok, firstNot_all g.dok, firstNot_all g.sok]
section
variable {P : Program} {w : World} {K : PySem.W.Frag} {mg : Str → Option Value} {base : Heap} {Ps : List Addr} {H : Hp}
def spLHouse (K : PySem.W.Frag) (Ps : List Addr) : Sp := fun vs H Q _ => ∃ (b l : Addr) (G : Hp), vs = [.ref b] ∧ Bx Ps b l G H G H ∧
  ∀ t h ra da sa rs ds ss G' H', Bx Ps b l G H G' H' → RowsAt K G' t h ra da sa rs ds ss → GoodH h rs ds ss → Q (.ref t) H'
theorem c_lhouse (T : RawH K mg) : C8.Cal P w K mg base 3 "_law_house" (spLHouse K Ps) [] := by
  refine T.lhouse.cal sc_law_house (fun vs H Q E h => ?_) (fun f cdv A outer s H vs Q E hr h => ?_)
  · obtain ⟨b, l, G, rfl, _⟩ := h
    rfl
  · obtain ⟨b, l, G, rfl, B, q⟩ := h
    have b_len := T.b_len
    have b_min := T.b_min
    have b_int := T.b_int
    have b_range := T.b_range
    have k__law_take : C8.Cal P w K mg base 1 "_law_take" (spTake Ps) [] := c_take T.toRawL
    have k__law_stay : C8.Cal P w K mg base 2 "_law_stay" (spLStay K Ps) [] := c_lstay T
    refine ⟨_, (pss_cons (ps_set (i := 1) sc_law_house.nd rfl (Or.inl rfl) (pe_op op_add pe_int (C8.pe_c k__law_take hr (by decide) rfl (pa_cons (pv 0) (pa_cons (pe_ix ix_seq (pe_lst (pa_cons pe_int (pa_cons pe_int pa_nil))) (pe_callTy call_int1 (by rfl) b_int (by decide +kernel) (pa_cons (pe_cmpR op_eq (C8.pe_c k__law_take hr (by decide) rfl (pa_cons (pv 0) (pa_cons pe_int pa_nil))) pe_int (nomark _)) pa_nil)) (fun _ _ => rfl)) pa_nil)))))
      (pss_cons (ps_set (i := 2) sc_law_house.nd rfl (Or.inl rfl) (pe_lst pa_nil))
      (pss_cons (ps_for PassesOwn.never rfl (pi_range1 (by rfl) b_range (pa_cons (pe_op op_add pe_int (C8.pe_c k__law_take hr (by decide) rfl (pa_cons (pv 0) (pa_cons (pe_ix ix_seq (pe_lst (pa_cons pe_int (pa_cons pe_int pa_nil))) (pe_callTy call_int1 (by rfl) b_int (by decide +kernel) (pa_cons (pe_cmpR op_eq (C8.pe_c k__law_take hr (by decide) rfl (pa_cons (pv 0) (pa_cons pe_int pa_nil))) pe_int (nomark _)) pa_nil)) (fun _ _ => rfl)) pa_nil)))) pa_nil)) (pg_name (i := 3) sc_law_house.nd rfl (Or.inl rfl))
        (pss_cons (ps_set (i := 4) sc_law_house.nd rfl (Or.inl rfl) (pe_ix ix_seq (pe_lst (pa_cons (C8.pe_c k__law_take hr (by decide) rfl (pa_cons (pv 0) (pa_cons pe_int pa_nil))) (pa_cons (C8.pe_c k__law_take hr (by decide) rfl (pa_cons (pv 0) (pa_cons pe_int pa_nil))) pa_nil))) (pe_callTy call_int1 (by rfl) b_int (by decide +kernel) (pa_cons (pe_cmpR op_eq (C8.pe_c k__law_take hr (by decide) rfl (pa_cons (pv 0) (pa_cons pe_int pa_nil))) pe_int (nomark _)) pa_nil)) (fun _ _ => rfl)))
      (pss_cons (ps_set (i := 5) sc_law_house.nd rfl (Or.inl rfl) (pe_ix ix_seq (pe_lst (pa_cons (pe_callB (call_min2 rfl) (by rfl) b_min (by decide +kernel) (pa_cons (pv 4) (pa_cons (C8.pe_c k__law_take hr (by decide) rfl (pa_cons (pv 0) (pa_cons pe_int pa_nil))) pa_nil))) (pa_cons (C8.pe_c k__law_take hr (by decide) rfl (pa_cons (pv 0) (pa_cons (pe_op op_add (pv 4) pe_int) pa_nil))) pa_nil))) (pe_callTy call_int1 (by rfl) b_int (by decide +kernel) (pa_cons (pe_cmpR op_eq (C8.pe_c k__law_take hr (by decide) rfl (pa_cons (pv 0) (pa_cons pe_int pa_nil))) pe_int (nomark _)) pa_nil)) (fun _ _ => rfl)))
      (pss_cons (ps_set (i := 6) sc_law_house.nd rfl (Or.inl rfl) (pe_ix ix_seq (pe_lst (pa_cons (C8.pe_c k__law_take hr (by decide) rfl (pa_cons (pv 0) (pa_cons pe_int pa_nil))) (pa_cons (C8.pe_c k__law_take hr (by decide) rfl (pa_cons (pv 0) (pa_cons pe_int pa_nil))) pa_nil))) (pe_callTy call_int1 (by rfl) b_int (by decide +kernel) (pa_cons (pe_cmpR op_eq (C8.pe_c k__law_take hr (by decide) rfl (pa_cons (pv 0) (pa_cons pe_int pa_nil))) pe_int (nomark _)) pa_nil)) (fun _ _ => rfl)))
      (pss_cons (ps_set (i := 7) sc_law_house.nd rfl (Or.inl rfl) (pe_ix ix_seq (pe_lst (pa_cons (C8.pe_c k__law_take hr (by decide) rfl (pa_cons (pv 0) (pa_cons pe_int pa_nil))) (pa_cons (C8.pe_c k__law_take hr (by decide) rfl (pa_cons (pv 0) (pa_cons pe_int pa_nil))) pa_nil))) (pe_callTy call_int1 (by rfl) b_int (by decide +kernel) (pa_cons (pe_cmpR op_eq (C8.pe_c k__law_take hr (by decide) rfl (pa_cons (pv 0) (pa_cons pe_int pa_nil))) pe_int (nomark _)) pa_nil)) (fun _ _ => rfl)))
      (pss_one (ps_expr (pe_bm PySem.F.plainAttrs_list PySem.F.slot_list_append PySem.F.type_list_append mt_append (pv 2) (pa_cons (pe_tup (pa_cons (pv 5) (pa_cons (pv 4) (pa_cons (pv 6) (pa_cons (pv 7) pa_nil))))) pa_nil)))))))))
      (pss_cons (ps_set (i := 8) sc_law_house.nd rfl (Or.inl rfl) (pe_lst pa_nil))
      (pss_cons (ps_if (pt_cmpR op_gt (pe_callB call_len_seq (by rfl) b_len (by decide +kernel) (pa_cons (pv 2) pa_nil)) pe_int (nomark _))
        (pss_one (ps_for PassesOwn.never rfl (pi_range1 (by rfl) b_range (pa_cons (pe_ix ix_seq (pe_lst (pa_cons (C8.pe_c k__law_take hr (by decide) rfl (pa_cons (pv 0) (pa_cons pe_int pa_nil))) (pa_cons (C8.pe_c k__law_take hr (by decide) rfl (pa_cons (pv 0) (pa_cons pe_int pa_nil))) pa_nil))) (pe_callTy call_int1 (by rfl) b_int (by decide +kernel) (pa_cons (pe_cmpR op_eq (C8.pe_c k__law_take hr (by decide) rfl (pa_cons (pv 0) (pa_cons pe_int pa_nil))) pe_int (nomark _)) pa_nil)) (fun _ _ => rfl)) pa_nil)) (pg_name (i := 3) sc_law_house.nd rfl (Or.inl rfl))
        (pss_cons (ps_set (i := 9) sc_law_house.nd rfl (Or.inl rfl) (C8.pe_c k__law_take hr (by decide) rfl (pa_cons (pv 0) (pa_cons (pe_callB call_len_seq (by rfl) b_len (by decide +kernel) (pa_cons (pv 2) pa_nil)) pa_nil))))
      (pss_cons (ps_set (i := 10) sc_law_house.nd rfl (Or.inl rfl) (pe_op op_modN (pe_op op_add (pe_op op_add (pv 9) pe_int) (C8.pe_c k__law_take hr (by decide) rfl (pa_cons (pv 0) (pa_cons (pe_op op_sub (pe_callB call_len_seq (by rfl) b_len (by decide +kernel) (pa_cons (pv 2) pa_nil)) pe_int) pa_nil)))) (pe_callB call_len_seq (by rfl) b_len (by decide +kernel) (pa_cons (pv 2) pa_nil))))
      (pss_cons (ps_set (i := 6) sc_law_house.nd rfl (Or.inl rfl) (pe_ix ix_seq (pe_lst (pa_cons (C8.pe_c k__law_take hr (by decide) rfl (pa_cons (pv 0) (pa_cons pe_int pa_nil))) (pa_cons (C8.pe_c k__law_take hr (by decide) rfl (pa_cons (pv 0) (pa_cons pe_int pa_nil))) pa_nil))) (pe_callTy call_int1 (by rfl) b_int (by decide +kernel) (pa_cons (pe_cmpR op_eq (C8.pe_c k__law_take hr (by decide) rfl (pa_cons (pv 0) (pa_cons pe_int pa_nil))) pe_int (nomark _)) pa_nil)) (fun _ _ => rfl)))
      (pss_one (ps_expr (pe_bm PySem.F.plainAttrs_list PySem.F.slot_list_append PySem.F.type_list_append mt_append (pv 8) (pa_cons (pe_tup (pa_cons (pv 9) (pa_cons (pv 10) (pa_cons (pv 6) pa_nil)))) pa_nil)))))))))
        pss_nil)
      (pss_cons (ps_set (i := 11) sc_law_house.nd rfl (Or.inl rfl) (pe_lst pa_nil))
      (pss_cons (ps_for PassesOwn.never rfl (pi_range1 (by rfl) b_range (pa_cons (pe_ix ix_seq (pe_lst (pa_cons (C8.pe_c k__law_take hr (by decide) rfl (pa_cons (pv 0) (pa_cons pe_int pa_nil))) (pa_cons (C8.pe_c k__law_take hr (by decide) rfl (pa_cons (pv 0) (pa_cons pe_int pa_nil))) pa_nil))) (pe_callTy call_int1 (by rfl) b_int (by decide +kernel) (pa_cons (pe_cmpR op_eq (C8.pe_c k__law_take hr (by decide) rfl (pa_cons (pv 0) (pa_cons pe_int pa_nil))) pe_int (nomark _)) pa_nil)) (fun _ _ => rfl)) pa_nil)) (pg_name (i := 3) sc_law_house.nd rfl (Or.inl rfl))
        (pss_one (ps_expr (pe_bm PySem.F.plainAttrs_list PySem.F.slot_list_append PySem.F.type_list_append mt_append (pv 11) (pa_cons (C8.pe_c k__law_stay hr (by decide) rfl (pa_cons (pv 0) (pa_cons (pv 1) (pa_cons (pv 2) pa_nil)))) pa_nil)))))
      (pss_one (ps_ret (pe_tup (pa_cons (pv 1) (pa_cons (pv 2) (pa_cons (pv 8) (pa_cons (pv 11) pa_nil)))))))))))))), ?_⟩
    -- hours
    refine ⟨_, rfl, by show 2 ≤ sizeLine; decide, fun p hp => ?_⟩
    have B1 := B.alloc (o := .lst [.int 4, .int 12]) hp
    refine pick2 rfl B1 (by decide) (by decide) upd_same fun v H2 hv B2 => ?_
    replace B2 := B1.trans B2
    obtain ⟨k, rfl, hk⟩ : ∃ k : Int, v = .int k ∧ 1 ≤ k ∧ k ≤ 12 := by
      rcases hv with rfl | rfl
      · exact ⟨_, rfl, by decide, by decide⟩
      · exact ⟨_, rfl, by decide, by decide⟩
    refine ⟨b, l, _, _, rfl, by omega, by omega, B2.start, fun r3 H3 a3 c3 B3 => ⟨_, _, rfl, rfl, ?_⟩⟩
    obtain ⟨G3, B3⟩ : ∃ G3, Bx Ps b l G H G3 H3 := ⟨_, B2.trans B3⟩
    have hh : 1 ≤ 1 + r3 ∧ 1 + r3 ≤ 12 := by omega
    -- rooms
    refine ⟨Nat.zero_le _, fun pr hpr => ?_⟩
    have O0 := Opn.begin (K := K) B3 hpr
    have S0 := B3.start
    refine ⟨_, rfl, by show 2 ≤ sizeLine; decide, fun p2 hp2 => ?_⟩
    have O1 := O0.step S0 (O0.bx.start.alloc (o := .lst [.int 3, .int 6]) hp2)
    refine pick2 rfl O1.bx (by decide) (by decide) upd_same fun v H4 hv B4 => ?_
    replace O1 := O1.step S0 B4
    obtain ⟨k2, rfl, hk2⟩ : ∃ k : Int, v = .int k ∧ 1 ≤ k ∧ k ≤ 6 := by
      rcases hv with rfl | rfl
      · exact ⟨_, rfl, by decide, by decide⟩
      · exact ⟨_, rfl, by decide, by decide⟩
    refine ⟨b, l, _, _, rfl, by omega, by omega, O1.bx.start, fun r5 H5 a5 c5 B5 => ⟨_, _, rfl, rfl, ?_⟩⟩
    replace O1 := O1.step S0 B5
    obtain ⟨nr, hnr⟩ : ∃ nr : Nat, (1 + r5 : Int) = nr := ⟨(1 + r5).toNat, by omega⟩
    refine ⟨1 + r5, rfl, by omega, by omega, ?_⟩
    rw [hnr]
    refine for_range (lo := 0) (n := nr) (fun i σ H' => ∃ (o3 o4 o5 o6 o7 : Option V) (G' : Hp) (xs : List V) (rs : List (List Int)), σ = [some (.ref b), some (.int (1 + r3)), some (.ref pr), o3, o4, o5, o6, o7, none, none, none, none] ∧ Opn K Ps b l G3 H3 pr xs rs G' H' ∧ rs.length = i ∧ Wide 4 rs ∧ ∀ r ∈ rs, roomOk r = true) ?_ ?_ ?_
    · exact ⟨none, none, none, none, none, _, [], [], rfl, O1, rfl, by simp [Wide], by simp⟩
    · rintro i σ H' hi ⟨o3, o4, o5, o6, o7, G', xs, rs, rfl, O, hlen, w4, rok⟩
      -- most
      refine ⟨_, rfl, b, l, _, _, rfl, by omega, by omega, O.bx.start, fun r1 H1 a1 c1 B' => ?_⟩
      replace O := O.step S0 B'
      refine ⟨_, rfl, b, l, _, _, rfl, by omega, by omega, O.bx.start, fun r2 H2 a2 c2 B' => ?_⟩
      replace O := O.step S0 B'
      refine ⟨by show 2 ≤ sizeLine; decide, fun p3 hp3 => ?_⟩
      replace O := O.step S0 (O.bx.start.alloc (o := .lst [.int r1, .int r2]) hp3)
      refine pick2 rfl O.bx (by decide) (by decide) upd_same fun v H4 hv B' => ?_
      replace O := O.step S0 B'
      obtain ⟨most, rfl, hmost⟩ : ∃ k : Int, v = .int k ∧ 0 ≤ k ∧ k < 1000 := by
        rcases hv with rfl | rfl
        · exact ⟨_, rfl, by omega, by omega⟩
        · exact ⟨_, rfl, by omega, by omega⟩
      -- air
      refine ⟨_, rfl, _, rfl, b, l, _, _, rfl, by omega, by omega, O.bx.start, fun r3 H3 a3 c3 B' => ?_⟩
      replace O := O.step S0 B'
      refine ⟨_, _, rfl, ?_⟩
      have hmo : 0 ≤ (if r3 < most then r3 else most) ∧ (if r3 < most then r3 else most) ≤ most := by
        by_cases e : r3 < most
        · rw [if_pos e]; omega
        · rw [if_neg e]; omega
      generalize (if r3 < most then r3 else most) = mo at hmo
      refine ⟨_, rfl, _, rfl, _, _, rfl, rfl, b, l, _, _, rfl, by omega, by omega, O.bx.start, fun r4 H4 a4 c4 B' => ?_⟩
      replace O := O.step S0 B'
      refine ⟨by show 2 ≤ sizeLine; decide, fun p4 hp4 => ?_⟩
      replace O := O.step S0 (O.bx.start.alloc (o := .lst [.int mo, .int r4]) hp4)
      refine pick2 rfl O.bx (by decide) (by decide) upd_same fun v H5 hv B' => ?_
      replace O := O.step S0 B'
      obtain ⟨air, rfl, hair⟩ : ∃ k : Int, v = .int k ∧ 0 ≤ k ∧ k ≤ most := by
        rcases hv with rfl | rfl
        · exact ⟨_, rfl, by omega, by omega⟩
        · exact ⟨_, rfl, by omega, by omega⟩
      -- limit
      refine ⟨_, rfl, b, l, _, _, rfl, by omega, by omega, O.bx.start, fun r5 H5 a5 c5 B' => ?_⟩
      replace O := O.step S0 B'
      refine ⟨_, rfl, b, l, _, _, rfl, by omega, by omega, O.bx.start, fun r6 H6 a6 c6 B' => ?_⟩
      replace O := O.step S0 B'
      refine ⟨by show 2 ≤ sizeLine; decide, fun p5 hp5 => ?_⟩
      replace O := O.step S0 (O.bx.start.alloc (o := .lst [.int r5, .int r6]) hp5)
      refine pick2 rfl O.bx (by decide) (by decide) upd_same fun v H7 hv B' => ?_
      replace O := O.step S0 B'
      obtain ⟨limit, rfl, hlimit⟩ : ∃ k : Int, v = .int k ∧ 0 ≤ k ∧ k ≤ 999 := by
        rcases hv with rfl | rfl
        · exact ⟨_, rfl, by omega, by omega⟩
        · exact ⟨_, rfl, by omega, by omega⟩
      -- price
      refine ⟨_, rfl, b, l, _, _, rfl, by omega, by omega, O.bx.start, fun r7 H8 a7 c7 B' => ?_⟩
      replace O := O.step S0 B'
      refine ⟨_, rfl, b, l, _, _, rfl, by omega, by omega, O.bx.start, fun r8 H9 a8 c8 B' => ?_⟩
      replace O := O.step S0 B'
      refine ⟨by show 2 ≤ sizeLine; decide, fun p6 hp6 => ?_⟩
      replace O := O.step S0 (O.bx.start.alloc (o := .lst [.int r7, .int r8]) hp6)
      refine pick2 rfl O.bx (by decide) (by decide) upd_same fun v H10 hv B' => ?_
      replace O := O.step S0 B'
      obtain ⟨price, rfl, hprice⟩ : ∃ k : Int, v = .int k ∧ 0 ≤ k ∧ k ≤ 999 := by
        rcases hv with rfl | rfl
        · exact ⟨_, rfl, by omega, by omega⟩
        · exact ⟨_, rfl, by omega, by omega⟩
      -- append
      refine ⟨_, rfl, .inl ⟨rfl, xs, SqL.of O.at_⟩, _, rfl, _, rfl, _, rfl, _, rfl, by show 4 ≤ sizeLine; decide, fun t ht => ?_⟩
      replace O := O.step S0 (O.bx.start.alloc (o := .tup [.int air, .int most, .int limit, .int price]) ht)
      refine ⟨pr, xs, _, rfl, rfl, O.at_, ?_, ?_⟩
      · have := O.len
        exact Nat.lt_of_lt_of_le (show xs.length < 1000 by omega) (by decide)
      · replace O := O.push (v := .ref t) (ns := [air, most, limit, price]) S0 ⟨t, rfl, SqT.of upd_same⟩
        refine ⟨_, _, _, _, _, _, _, _, rfl, O, by simp; omega, ?_, ?_⟩
        · intro r hr
          rcases List.mem_append.mp hr with h | h
          · exact w4 r h
          · simp at h; subst h; rfl
        · intro r hr
          rcases List.mem_append.mp hr with h | h
          · exact rok r h
          · simp at h; subst h
            exact roomOk_of (by omega) (by omega) (by omega) (by omega) (by omega)
    · rintro σ H0 ⟨o3, o4, o5, o6, o7, G', xs, rs, rfl, O, hlen, w4, rok⟩
      obtain ⟨G4, B4, Rr⟩ : ∃ G4, Bx Ps b l G H G4 H0 ∧ RowsL K G4 pr rs := ⟨_, B3.trans (O.done S0).1, (O.done S0).2⟩
      have hxl := O.len
      have hn1 : 1 ≤ rs.length ∧ rs.length ≤ 6 := by omega
      obtain ⟨xs, hxl0, hrv⟩ := Rr
      have hxs := SqL.of (K := K) hxl0
      have hxl := Paired.length hrv
      -- doors
      refine ⟨Nat.zero_le _, fun pd hpd => ?_⟩
      have O0 := Opn.begin (K := K) B4 hpd
      have S0 := B4.start
      dsimp only
      refine seq_if (fun σ H' => ∃ (o3 o4 o5 o6 o7 o9 o10 : Option V) (G' : Hp) (ds : List (List Int)), σ = [some (.ref b), some (.int (1 + r3)), some (.ref pr), o3, o4, o5, o6, o7, some (.ref pd), o9, o10, none] ∧ Bx Ps b l G H G' H' ∧ Same G4 G' ∧ RowsL K G' pd ds ∧ ds.length ≤ 8 ∧ Wide 3 ds ∧ ∀ d ∈ ds, doorOk rs.length d = true) ?_ ?_
      rotate_left
      · intro κ hκ
        refine ⟨_, rfl, pr, xs, rfl, .inl (O0.bx.wd.same.seq hxs), _, _, rfl, rfl, _, rfl, ?_⟩
        refine ite2 (fun hd => ?_) (fun hd => ?_)
        rotate_left
        · refine hκ _ _ ⟨_, _, _, _, _, _, _, _, [], rfl, B4.trans (O0.done S0).1, (O0.done S0).1.gr.up, (O0.done S0).2, by simp, by simp [Wide], by simp⟩
        · have hd1 : 1 < rs.length := by
            have := of_decide_eq_true hd
            omega
          refine ⟨_, rfl, b, l, _, _, rfl, by omega, by omega, O0.bx.start, fun r1 H1 a1 c1 B' => ?_⟩
          have O := O0.step S0 B'
          refine ⟨_, rfl, b, l, _, _, rfl, by omega, by omega, O.bx.start, fun r2 H2 a2 c2 B' => ?_⟩
          replace O := O.step S0 B'
          refine ⟨by show 2 ≤ sizeLine; decide, fun p3 hp3 => ?_⟩
          replace O := O.step S0 (O.bx.start.alloc (o := .lst [.int r1, .int r2]) hp3)
          refine pick2 rfl O.bx (by decide) (by decide) upd_same fun v H4 hv B' => ?_
          replace O := O.step S0 B'
          obtain ⟨nd, rfl, hnd⟩ : ∃ k : Nat, v = .int (k : Int) ∧ k ≤ 8 := by
            rcases hv with rfl | rfl
            · exact ⟨r1.toNat, by congr 1; omega, by omega⟩
            · exact ⟨r2.toNat, by congr 1; omega, by omega⟩
          refine ⟨(nd : Int), rfl, by omega, by omega, ?_⟩
          refine for_range (lo := 0) (n := nd) (fun i σ H' => ∃ (o3 o6 o9 o10 : Option V) (G' : Hp) (ys : List V) (ds : List (List Int)), σ = [some (.ref b), some (.int (1 + r3)), some (.ref pr), o3, o4, o5, o6, o7, some (.ref pd), o9, o10, none] ∧ Opn K Ps b l G4 H0 pd ys ds G' H' ∧ ds.length = i ∧ Wide 3 ds ∧ ∀ d ∈ ds, doorOk rs.length d = true) ?_ ?_ ?_
          · exact ⟨_, _, _, _, _, [], [], rfl, O, rfl, by simp [Wide], by simp⟩
          · rintro i σ H' hi ⟨o3, o6, o9, o10, G', ys, ds, rfl, O, hlen, w3, dok⟩
            have hS : Same G4 G' := O.bx.gr.up
            have hz : ∀ G2 H2, Bx Ps b l G' H' G2 H2 → SqL K H2 pr xs := fun G2 H2 B' => (hS.trans (B'.gr.up.trans B'.wd.same)).seq hxs
            have hz0 := hz _ _ O.bx.start
            have Oz := O
            refine ⟨_, rfl, _, rfl, pr, xs, rfl, .inl hz0, b, l, _, _, rfl, by omega, by omega, O.bx.start, fun r3 H3 a3 c3 B' => ?_⟩
            replace O := O.step S0 B'
            have Bs := B'
            refine ⟨_, rfl, _, _, rfl, rfl, _, rfl, _, rfl, pr, xs, rfl, .inl (hz _ _ Bs), _, _, rfl, rfl, b, l, _, _, rfl, by omega, by omega, O.bx.start, fun r4 H4 a4 c4 B' => ⟨_, _, rfl, rfl, ?_⟩⟩
            replace O := O.step S0 B'
            replace Bs := Bs.trans B'
            refine ⟨_, rfl, pr, xs, rfl, .inl (hz _ _ Bs), _, _, rfl, rfl, by omega, ?_⟩
            obtain ⟨⟨f1, f2⟩, f3⟩ := other_ne a3 c3 a4 c4
            generalize hq : (r3 + 1 + r4).fmod (xs.length : Int) = other at f1 f2 f3
            refine ⟨_, rfl, b, l, _, _, rfl, by omega, by omega, O.bx.start, fun r5 H5 a5 c5 B' => ?_⟩
            replace O := O.step S0 B'
            refine ⟨_, rfl, b, l, _, _, rfl, by omega, by omega, O.bx.start, fun r6 H6 a6 c6 B' => ?_⟩
            replace O := O.step S0 B'
            refine ⟨by show 2 ≤ sizeLine; decide, fun p5 hp5 => ?_⟩
            replace O := O.step S0 (O.bx.start.alloc (o := .lst [.int r5, .int r6]) hp5)
            refine pick2 rfl O.bx (by decide) (by decide) upd_same fun v H7 hv B' => ?_
            replace O := O.step S0 B'
            obtain ⟨limit, rfl, hlimit⟩ : ∃ k : Int, v = .int k ∧ 0 ≤ k ∧ k ≤ 999 := by
              rcases hv with rfl | rfl
              · exact ⟨_, rfl, by omega, by omega⟩
              · exact ⟨_, rfl, by omega, by omega⟩
            refine ⟨_, rfl, .inl ⟨rfl, ys, SqL.of O.at_⟩, _, rfl, _, rfl, _, rfl, by show 3 ≤ sizeLine; decide, fun t ht => ?_⟩
            replace O := O.step S0 (O.bx.start.alloc (o := .tup [.int r3, .int ((r3 + 1 + r4).fmod (xs.length : Int)), .int limit]) ht)
            refine ⟨pd, ys, _, rfl, rfl, O.at_, ?_, ?_⟩
            · have := O.len
              exact Nat.lt_of_lt_of_le (show ys.length < 1000 by omega) (by decide)
            · replace O := O.push (v := .ref t) (ns := [r3, (r3 + 1 + r4).fmod (xs.length : Int), limit]) S0 ⟨t, rfl, SqT.of upd_same⟩
              refine ⟨_, _, _, _, _, _, _, rfl, O, by simp; omega, ?_, ?_⟩
              · intro r hr
                rcases List.mem_append.mp hr with h | h
                · exact w3 r h
                · simp at h; subst h; rfl
              · intro r hr
                rcases List.mem_append.mp hr with h | h
                · exact dok r h
                · simp at h; subst h
                  rw [hq]
                  exact doorOk_of (by omega) (by omega) (by omega) f3 hlimit
          · rintro σ H' ⟨o3, o6, o9, o10, G', ys, ds, rfl, O, hlen, w3, dok⟩
            refine hκ _ _ ⟨_, _, _, _, _, _, _, _, ds, rfl, B4.trans (O.done S0).1, (O.done S0).1.gr.up, (O.done S0).2, by omega, w3, dok⟩
      · rintro σ H5 ⟨o3, o4, o5, o6, o7, o9, o10, G5, ds, rfl, B5, hS, hds, hdl, w3, dok⟩
        -- stays
        refine ⟨Nat.zero_le _, fun ps hps => ?_⟩
        have O0 := Opn.begin (K := K) B5 hps
        have S0 := B5.start
        have hxs5 : SqL K G5 pr xs := hS.seq hxs
        refine ⟨_, rfl, b, l, _, _, rfl, by omega, by omega, O0.bx.start, fun r1 H1 a1 c1 B' => ?_⟩
        have O := O0.step S0 B'
        refine ⟨_, rfl, b, l, _, _, rfl, by omega, by omega, O.bx.start, fun r2 H2 a2 c2 B' => ?_⟩
        replace O := O.step S0 B'
        refine ⟨by show 2 ≤ sizeLine; decide, fun p3 hp3 => ?_⟩
        replace O := O.step S0 (O.bx.start.alloc (o := .lst [.int r1, .int r2]) hp3)
        refine pick2 rfl O.bx (by decide) (by decide) upd_same fun v H4 hv B' => ?_
        replace O := O.step S0 B'
        obtain ⟨nd, rfl, hnd⟩ : ∃ k : Nat, v = .int (k : Int) ∧ k ≤ 20 := by
          rcases hv with rfl | rfl
          · exact ⟨r1.toNat, by congr 1; omega, by omega⟩
          · exact ⟨r2.toNat, by congr 1; omega, by omega⟩
        refine ⟨(nd : Int), rfl, by omega, by omega, ?_⟩
        refine for_range (lo := 0) (n := nd) (fun i σ H' => ∃ (o3 : Option V) (G' : Hp) (ys : List V) (ss : List (List Int)), σ = [some (.ref b), some (.int (1 + r3)), some (.ref pr), o3, o4, o5, o6, o7, some (.ref pd), o9, o10, some (.ref ps)] ∧ Opn K Ps b l G5 H5 ps ys ss G' H' ∧ ss.length = i ∧ Wide 5 ss ∧ ∀ s ∈ ss, stayOk (1 + r3) rs s = true) ?_ ?_ ?_
        · exact ⟨_, _, [], [], rfl, O, rfl, by simp [Wide], by simp⟩
        · rintro i σ H' hi ⟨o3, G', ys, ss, rfl, O, hlen, w5, sok⟩
          have hS' : Same G5 G' := O.bx.gr.up
          refine ⟨_, rfl, .inl ⟨rfl, ys, SqL.of O.at_⟩, _, rfl, _, rfl, _, rfl, ?_⟩
          refine ⟨b, l, _, pr, G', rs, rfl, O.bx.start, by omega, by omega, ⟨xs, hS'.seq hxs5, rowsV_same (hS.trans hS') hrv⟩, by omega, by omega, w4, rok, fun t ns G2 H2 B' ht h5 hok => ?_⟩
          replace O := O.step S0 B'
          refine ⟨ps, ys, _, rfl, rfl, O.at_, ?_, ?_⟩
          · have := O.len
            exact Nat.lt_of_lt_of_le (show ys.length < 1000 by omega) (by decide)
          · replace O := O.push (v := .ref t) (ns := ns) S0 ht
            refine ⟨_, _, _, _, rfl, O, by simp; omega, ?_, ?_⟩
            · intro r hr
              rcases List.mem_append.mp hr with h | h
              · exact w5 r h
              · simp at h; subst h; exact h5
            · intro r hr
              rcases List.mem_append.mp hr with h | h
              · exact sok r h
              · simp at h; subst h
                exact hok
        · rintro σ H6 ⟨o3, G', ys, ss, rfl, O, hlen, w5, sok⟩
          obtain ⟨B6, R6⟩ := O.done S0
          refine ⟨_, rfl, _, rfl, _, rfl, _, rfl, by show 4 ≤ sizeLine; decide, fun t ht => ?_⟩
          refine q t (1 + r3) pr pd ps rs ds ss _ _ ((B5.trans B6).alloc ht) ⟨SqT.of upd_same, ?_, ?_, ?_⟩ ⟨by omega, by omega, by omega, by omega, by omega, by omega, w4, w3, w5, rok, dok, sok⟩
          · exact RowsL.same (same_new (B6.wd.free ht)) ⟨xs, B6.gr.up _ _ (hS _ _ hxl0), rowsV_same (hS.trans B6.gr.up) hrv⟩
          · exact RowsL.same (same_new (B6.wd.free ht)) (RowsL.same B6.gr.up hds)
          · exact RowsL.same (same_new (B6.wd.free ht)) R6
end
end Cr
set_option Elab.async false
set_option linter.all false
set_option maxRecDepth 100000
set_option maxHeartbeats 4000000

namespace Cr
open PySem PySem.Spec PyProof.Rows L2
abbrev s_law_here : Stmt := top 40
abbrev n_law_here : List Str := ["_law_rows", "_law_room", "_law_hour", "_law_stay_here"]
abbrev a_law_here : List Str := ["_law_rows", "_law_room", "_law_hour"]
theorem sc_law_here : FnScope n_law_here a_law_here (defScope s_law_here) := ⟨rfl, rfl, rfl, by decide +kernel, rfl, by decide +kernel, by decide +kernel⟩
abbrev s_law_use : Stmt := top 41
abbrev n_law_use : List Str := ["_law_rows", "_law_room", "_law_hour", "_law_stay_here"]
abbrev a_law_use : List Str := ["_law_rows", "_law_room", "_law_hour"]
theorem sc_law_use : FnScope n_law_use a_law_use (defScope s_law_use) := ⟨rfl, rfl, rfl, by decide +kernel, rfl, by decide +kernel, by decide +kernel⟩
abbrev s_law_least : Stmt := top 42
abbrev n_law_least : List Str := ["_law_rows", "_law_room", "_law_hour", "_law_stay_here"]
abbrev a_law_least : List Str := ["_law_rows", "_law_room", "_law_hour"]
theorem sc_law_least : FnScope n_law_least a_law_least (defScope s_law_least) := ⟨rfl, rfl, rfl, by decide +kernel, rfl, by decide +kernel, by decide +kernel⟩
theorem RowsAt.sm {K : PySem.W.Frag} {G G' : Hp} {t : Addr} {h : Int} {ra da sa : Addr} {rs ds ss : List (List Int)} (e : Same G G') (a : RowsAt K G t h ra da sa rs ds ss) : RowsAt K G' t h ra da sa rs ds ss := ⟨Same.tup e a.t, a.r.same e, a.d.same e, a.s.same e⟩
theorem here_take {ss : List (List Int)} {i : Nat} {s : List Int} (r t : Int) (e : ss[i]? = some s) : (ss.take (i + 1)).filter (inHere r t) = (ss.take i).filter (inHere r t) ++ (if inHere r t s = true then [s] else []) := by
  rw [List.take_add_one, e]
  rw [List.filter_append]
  congr 1
  by_cases h : inHere r t s = true
  · rw [if_pos h]; simp [h]
  · rw [if_neg h]; simp [h]
theorem here_len (ss : List (List Int)) (r t : Int) : (ss.filter (inHere r t)).length ≤ ss.length := List.length_filter_le _ _
section
variable {P : Program} {w : World} {K : PySem.W.Frag} {mg : Str → Option Value} {base : Heap} {Ps : List Addr} {H : Hp}
structure RawU (K : PySem.W.Frag) (mg : Str → Option Value) : Prop extends RawH K mg where
  lhere : DefR K mg "_law_here" s_law_here a_law_here
  luse : DefR K mg "_law_use" s_law_use a_law_use
  lleast : DefR K mg "_law_least" s_law_least a_law_least
  b_sum : mg "sum" = none
  b_max : mg "max" = none
def spLHere (K : PySem.W.Frag) (Ps : List Addr) : Sp := fun vs H Q _ => ∃ (G : Hp) (t : Addr) (h : Int) (ra da sa : Addr) (rs ds ss : List (List Int)) (r u : Int), vs = [.ref t, .int r, .int u] ∧ Wd Ps G H ∧ Tabs Ps H ∧ RowsAt K G t h ra da sa rs ds ss ∧ Wide 5 ss ∧ ss.length ≤ 20 ∧
  ∀ l ys H', H l = none → Gr Ps G H G H' → H' l = some (.lst ys) → RowsV K G ys (ss.filter (inHere r u)) → Tabs Ps H' → Q (.ref l) H'
theorem c_lhere (T : RawU K mg) : C8.Cal P w K mg base 1 "_law_here" (spLHere K Ps) [] := by
  refine T.lhere.cal sc_law_here (fun vs H Q E h => ?_) (fun f cdv A outer s H vs Q E hr h => ?_)
  · obtain ⟨G, t, h, ra, da, sa, rs, ds, ss, r, u, rfl, _⟩ := h
    rfl
  · obtain ⟨G, t, h, ra, da, sa, rs, ds, ss, r, u, rfl, wd, tbs, ⟨ht, _, _, xr, qr, rr⟩, w5, l20, q⟩ := h
    replace qr := SqL.of (K := K) qr
    have hlen : xr.length = ss.length := Paired.length rr
    refine ⟨_, (pss_one (ps_ret (pe_lc (own := [("_law_stay_here", 3)]) rfl sc_law_here.nd (pi_list (pe_ix ix_seq (pv 0) pe_int (fun _ _ => rfl))) (blkOk_by (own := [("_law_stay_here", 3)]) (N := n_law_here) (sc := defScope s_law_here) (by decide +kernel)) (fun _ _ _ _ _ => (pg_name (i := 3) sc_law_here.nd rfl (Or.inl rfl) (Or.inr rfl))) (fun _ _ _ _ _ => pts_one (PW.pt (pw_and (pt_cmpR op_eq (pe_ix (ix_seqK (K := K) rfl) (pv 3 rfl (Or.inl rfl)) pe_int (fun _ _ => rfl)) (pv 1 rfl (Or.inr (Or.inl rfl))) (nomark _)) (pw_and (pt_cmpR op_le (pe_ix (ix_seqK (K := K) rfl) (pv 3 rfl (Or.inl rfl)) pe_int (fun _ _ => rfl)) (pv 2 rfl (Or.inr (Or.inl rfl))) (nomark _)) (pw_and1 (pt_cmpR op_lt (pv 2 rfl (Or.inr (Or.inl rfl))) (pe_ix (ix_seqK (K := K) rfl) (pv 3 rfl (Or.inl rfl)) pe_int (fun _ _ => rfl)) (nomark _))))))) (fun _ _ _ _ _ => (pv 3 rfl (Or.inl rfl)))))), ?_⟩
    refine ⟨_, rfl, .inr (.inl ⟨t, _, _, .ref sa, rfl, rfl, Same.tup wd.same ht, atI_nat (j := 3) rfl, sa, rfl, ⟨xr, wd.same.seq qr⟩, fun D hD => ?_⟩)⟩
    have hDP := tbs.nin hD
    refine lc_list (K := K) (a := sa) (xs := xr) (fun i H' => ∃ acc, Gr Ps G H G H' ∧ Tabs Ps H' ∧ H' D = some (.lst acc) ∧ RowsV K G acc ((ss.take i).filter (inHere r u)))
      ⟨[], Gr.new wd hD, tbs.upd hDP, upd_same, .nil⟩ (fun i H' _ ⟨acc, g, _⟩ => g.wd.same.seq qr) ?_ ?_
    · rintro i y H' hy ⟨acc, g, tb, hacc, hrv⟩
      obtain ⟨z, ez, ty, rfl, hty⟩ := paired_get rr hy
      have hz5 := w5 z (List.mem_of_getElem? ez)
      obtain ⟨pl, bg, en, us, nd, rfl⟩ := len5 hz5
      have hlt : i < ss.length := (List.getElem?_eq_some_iff.mp ez).1
      have hal : acc.length ≤ ss.length := by
        rw [Paired.length hrv]
        exact Nat.le_trans (here_len _ _ _) (by rw [List.length_take]; omega)
      have hstep := here_take r u ez
      have gD : G D = none := wd.free hD
      have hq : SqT K H' ty ([pl, bg, en, us, nd].map V.int) := Same.tup g.wd.same hty
      refine ⟨(by (repeat rw [wipe_set (by decide)]); exact wipe_wipe _ _), ?_⟩
      refine ⟨_, rfl, .inr (.inl ⟨ty, _, _, .int pl, rfl, rfl, hq, atI_nat (j := 0) rfl, _, rfl, rfl, _, rfl, ?_⟩)⟩
      have e0 : decide (V.int pl = V.int r) = decide (pl = r) := by simp
      rw [e0]
      have ein : inHere r u [pl, bg, en, us, nd] = (decide (pl = r) && (decide (bg ≤ u) && decide (u < en))) := rfl
      rw [ein] at hstep
      have stay : (decide (pl = r) && (decide (bg ≤ u) && decide (u < en))) = false → ∃ acc, Gr Ps G H G H' ∧ Tabs Ps H' ∧ H' D = some (.lst acc) ∧ RowsV K G acc ((ss.take (i + 1)).filter (inHere r u)) := fun e => by
        rw [e, if_neg Bool.false_ne_true, List.append_nil] at hstep
        exact ⟨acc, g, tb, hacc, by rw [hstep]; exact hrv⟩
      refine ite2 (fun h1 => ?_) (fun h1 => ?_)
      · rw [h1, Bool.true_and] at stay hstep
        refine ⟨_, rfl, .inr (.inl ⟨ty, _, _, .int bg, rfl, rfl, hq, atI_nat (j := 1) rfl, _, rfl, _, _, rfl, rfl, _, rfl, ?_⟩)⟩
        refine ite2 (fun h2 => ?_) (fun h2 => ?_)
        · have h2' : decide (bg ≤ u) = true := h2
          rw [h2', Bool.true_and] at stay hstep
          refine ⟨_, rfl, _, rfl, .inr (.inl ⟨ty, _, _, .int en, rfl, rfl, hq, atI_nat (j := 2) rfl, _, _, rfl, rfl, _, rfl, ?_⟩)⟩
          refine ite2 (fun h3 => ?_) (fun h3 => ?_)
          · have h3' : decide (u < en) = true := h3
            rw [h3', if_pos rfl] at hstep
            refine ⟨_, rfl, acc, hacc, small1000 (by omega), acc ++ [.ref ty], g.poke hD gD, tb.upd hDP, upd_same, ?_⟩
            rw [hstep]
            exact paired_snoc hrv ⟨ty, rfl, hty⟩
          · exact stay (Bool.eq_false_iff.mpr h3)
        · have h2' : decide (bg ≤ u) = false := Bool.eq_false_iff.mpr h2
          rw [h2', Bool.false_and] at stay
          exact iteF (stay rfl)
      · rw [Bool.eq_false_iff.mpr h1, Bool.false_and] at stay
        exact stay rfl
    · rintro H' ⟨acc, g, tb, hacc, hrv⟩
      rw [List.take_of_length_le (by omega)] at hrv
      exact q D acc H' hD g hacc hrv tb
def spLTwo (K : PySem.W.Frag) (Ps : List Addr) (F : List (List Int) → Int → Int → Int) : Sp := fun vs H Q _ => ∃ (G : Hp) (t : Addr) (h : Int) (ra da sa : Addr) (rs ds ss : List (List Int)) (r u : Int), vs = [.ref t, .int r, .int u] ∧ Wd Ps G H ∧ Tabs Ps H ∧ RowsAt K G t h ra da sa rs ds ss ∧ Wide 5 ss ∧ ss.length ≤ 20 ∧ (∀ s ∈ ss, 0 ≤ s.getD 4 0) ∧
  ∀ H', Gr Ps G H G H' → Tabs Ps H' → Q (.int (F ss r u)) H'
theorem use_here (ss : List (List Int)) (r u : Int) : useOf ss r u = ((ss.filter (inHere r u)).map fun z => z.getD 3 0).sum := by
  unfold useOf wantsOf
  rw [List.map_map]
  rfl
theorem least_here (ss : List (List Int)) (r u : Int) : leastOf ss r u = ((ss.filter (inHere r u)).map fun z => z.getD 4 0).foldl max 0 := by
  unfold leastOf wantsOf
  rw [List.map_map]
  rfl
theorem foldl_max_eq : ∀ (l : List Int) (a m : Int), m ∈ a :: l → (∀ y, y ∈ a :: l → y ≤ m) → l.foldl max a = m
  | [], a, m, hm, _ => by simp at hm; exact hm.symm
  | x :: l, a, m, hm, h => by
    rw [List.foldl_cons]
    have ha := h a (by simp)
    have hx := h x (by simp)
    refine foldl_max_eq l (max a x) m ?_ fun y hy => ?_
    · rcases List.mem_cons.mp hm with e | hm
      · rw [show max a x = m by omega]; exact List.mem_cons_self
      rcases List.mem_cons.mp hm with e | hm
      · rw [show max a x = m by omega]; exact List.mem_cons_self
      · exact List.mem_cons_of_mem _ hm
    · rcases List.mem_cons.mp hy with e | hy
      · omega
      · exact h y (List.mem_cons_of_mem _ (List.mem_cons_of_mem _ hy))
theorem c_luse (T : RawU K mg) : C8.Cal P w K mg base 2 "_law_use" (spLTwo K Ps useOf) [] := by
  refine T.luse.cal sc_law_use (fun vs H Q E h => ?_) (fun f cdv A outer s H vs Q E hr h => ?_)
  · obtain ⟨G, t, h, ra, da, sa, rs, ds, ss, r, u, rfl, _⟩ := h
    rfl
  · obtain ⟨G, t, h, ra, da, sa, rs, ds, ss, r, u, rfl, wd, tbs, hR, w5, l20, pos, q⟩ := h
    have b_sum := T.b_sum
    have k__law_here : C8.Cal P w K mg base 1 "_law_here" (spLHere K Ps) [] := c_lhere T
    refine ⟨_, (pss_one (ps_ret (pe_callB (cr_sum rfl) (by rfl) b_sum (by decide +kernel) (pa_cons (pe_lc (own := [("_law_stay_here", 3)]) rfl sc_law_use.nd (pi_list (C8.pe_c k__law_here hr (by decide) rfl (pa_cons (pv 0) (pa_cons (pv 1) (pa_cons (pv 2) pa_nil))))) (blkOk_by (own := [("_law_stay_here", 3)]) (N := n_law_use) (sc := defScope s_law_use) (by decide +kernel)) (fun _ _ _ _ _ => (pg_name (i := 3) sc_law_use.nd rfl (Or.inl rfl) (Or.inr rfl))) (fun _ _ _ _ _ => pts_nil) (fun _ _ _ _ _ => (pe_ix (ix_seqK (K := K) rfl) (pv 3 rfl (Or.inl rfl)) pe_int (fun _ _ => rfl)))) pa_nil)))), ?_⟩
    refine ⟨_, rfl, _, rfl, _, rfl, G, t, h, ra, da, sa, rs, ds, ss, r, u, rfl, wd, tbs, hR, w5, l20, fun l xs H1 hl g1 hxs hrv t1 => ⟨l, rfl, ⟨xs, SqL.of hxs⟩, fun D hD => ?_⟩⟩
    have hDP := t1.nin hD
    have nlD : l ≠ D := ne_of_none hxs hD
    have hlen : xs.length = (ss.filter (inHere r u)).length := Paired.length hrv
    have hln : xs.length < 32 := by
      have := here_len ss r u
      omega
    refine lc_list (K := K) (a := l) (xs := xs) (fun i H' => Gr Ps G H G H' ∧ Tabs Ps H' ∧ H' l = some (.lst xs) ∧ H' D = some (.lst (((ss.filter (inHere r u)).take i).map fun z => V.int (z.getD 3 0))))
      ⟨g1.trans (Gr.new g1.wd hD), t1.upd hDP, by rw [upd_ne nlD]; exact hxs, upd_same⟩ (fun i H' _ ⟨_, _, e, _⟩ => SqL.of e) ?_ ?_
    · rintro i y H' hy ⟨g, tb, hl', hacc⟩
      obtain ⟨z, ez, ty, rfl, hty⟩ := paired_get hrv hy
      obtain ⟨pl, bg, en, us, nd, rfl⟩ := len5 (w5 z ((List.mem_filter.mp (List.mem_of_getElem? ez)).1))
      have hi : i < xs.length := (List.getElem?_eq_some_iff.mp hy).1
      refine ⟨(by (repeat rw [wipe_set (by decide)]); exact wipe_wipe _ _), ?_⟩
      refine ⟨_, rfl, .inr (.inl ⟨ty, _, _, .int us, rfl, rfl, Same.tup g.wd.same hty, atI_nat (j := 3) rfl, ?_⟩)⟩
      refine ⟨_, hacc, small1000 (by rw [List.length_map, List.length_take]; omega), g.poke (g1.free' hD) (g1.wd.free hD), tb.upd hDP, by rw [upd_ne nlD.symm.symm]; exact hl', ?_⟩
      rw [upd_same, map_take_succ _ ez]
      rfl
    · rintro H' ⟨g, tb, hl', hacc⟩
      rw [List.take_of_length_le (by omega)] at hacc
      refine ⟨D, (ss.filter (inHere r u)).map fun z => z.getD 3 0, rfl, SqL.of (by rw [hacc, List.map_map]; rfl), ?_⟩
      rw [← use_here]
      exact q H' g tb
theorem c_lleast (T : RawU K mg) : C8.Cal P w K mg base 2 "_law_least" (spLTwo K Ps leastOf) [] := by
  refine T.lleast.cal sc_law_least (fun vs H Q E h => ?_) (fun f cdv A outer s H vs Q E hr h => ?_)
  · obtain ⟨G, t, h, ra, da, sa, rs, ds, ss, r, u, rfl, _⟩ := h
    rfl
  · obtain ⟨G, t, h, ra, da, sa, rs, ds, ss, r, u, rfl, wd, tbs, hR, w5, l20, pos, q⟩ := h
    have b_max := T.b_max
    have k__law_here : C8.Cal P w K mg base 1 "_law_here" (spLHere K Ps) [] := c_lhere T
    refine ⟨_, (pss_one (ps_ret (pe_callB (cr_max rfl) (by rfl) b_max (by decide +kernel) (pa_cons (pe_op op_cat (pe_lst (pa_cons pe_int pa_nil)) (pe_lc (own := [("_law_stay_here", 3)]) rfl sc_law_least.nd (pi_list (C8.pe_c k__law_here hr (by decide) rfl (pa_cons (pv 0) (pa_cons (pv 1) (pa_cons (pv 2) pa_nil))))) (blkOk_by (own := [("_law_stay_here", 3)]) (N := n_law_least) (sc := defScope s_law_least) (by decide +kernel)) (fun _ _ _ _ _ => (pg_name (i := 3) sc_law_least.nd rfl (Or.inl rfl) (Or.inr rfl))) (fun _ _ _ _ _ => pts_nil) (fun _ _ _ _ _ => (pe_ix (ix_seqK (K := K) rfl) (pv 3 rfl (Or.inl rfl)) pe_int (fun _ _ => rfl))))) pa_nil)))), ?_⟩
    refine ⟨by show 1 ≤ sizeLine; decide, fun p hp => ?_⟩
    have gp := Gr.new (o := .lst [.int 0]) wd hp
    have tp := tbs.same (same_new (o := .lst [.int 0]) hp)
    refine ⟨_, rfl, _, rfl, _, rfl, G, t, h, ra, da, sa, rs, ds, ss, r, u, rfl, gp.wd, tp, hR, w5, l20, fun l xs H1 hl g1 hxs hrv t1 => ⟨l, rfl, ⟨xs, SqL.of hxs⟩, fun D hD => ?_⟩⟩
    have hp1 : H1 p = some (.lst [.int 0]) := g1.keep _ _ (wd.nin hp) upd_same
    have hDP := t1.nin hD
    have nlD : l ≠ D := ne_of_none hxs hD
    have npD : p ≠ D := ne_of_none hp1 hD
    have hlen : xs.length = (ss.filter (inHere r u)).length := Paired.length hrv
    have hln : xs.length < 32 := by
      have := here_len ss r u
      omega
    have hDn : H D = none := gp.free' (g1.free' hD)
    refine lc_list (K := K) (a := l) (xs := xs) (fun i H' => Gr Ps G H G H' ∧ Tabs Ps H' ∧ H' l = some (.lst xs) ∧ H' p = some (.lst [.int 0]) ∧ H' D = some (.lst (((ss.filter (inHere r u)).take i).map fun z => V.int (z.getD 4 0))))
      ⟨(gp.trans g1).trans (Gr.new g1.wd hD), t1.upd hDP, by rw [upd_ne nlD]; exact hxs, by rw [upd_ne npD]; exact hp1, upd_same⟩ (fun i H' _ ⟨_, _, e, _⟩ => SqL.of e) ?_ ?_
    · rintro i y H' hy ⟨g, tb, hl', hp', hacc⟩
      obtain ⟨z, ez, ty, rfl, hty⟩ := paired_get hrv hy
      obtain ⟨pl, bg, en, us, nd, rfl⟩ := len5 (w5 z (List.mem_filter.mp (List.mem_of_getElem? ez)).1)
      have hi : i < xs.length := (List.getElem?_eq_some_iff.mp hy).1
      refine ⟨(by (repeat rw [wipe_set (by decide)]); exact wipe_wipe _ _), ?_⟩
      refine ⟨_, rfl, .inr (.inl ⟨ty, _, _, .int nd, rfl, rfl, Same.tup g.wd.same hty, atI_nat (j := 4) rfl, ?_⟩)⟩
      refine ⟨_, hacc, small1000 (by rw [List.length_map, List.length_take]; omega), g.poke hDn (wd.free hDn), tb.upd hDP, by rw [upd_ne nlD]; exact hl', by rw [upd_ne npD]; exact hp', ?_⟩
      rw [upd_same, map_take_succ _ ez]
      rfl
    · rintro H' ⟨g, tb, hl', hp', hacc⟩
      rw [List.take_of_length_le (by omega)] at hacc
      refine ⟨p, D, _, _, rfl, rfl, hp', hacc, by show 1 + _ ≤ _; rw [List.length_map]; exact Nat.le_trans (show _ ≤ 1000 by omega) (by decide), fun m hm => ?_⟩
      refine ⟨m, 0 :: (ss.filter (inHere r u)).map fun z => z.getD 4 0, rfl, SqL.of (by rw [upd_same, List.map_cons, List.map_map]; rfl), by simp, fun mx h1 h2 => ?_⟩
      rw [← foldl_max_eq _ _ _ h1 h2, ← least_here]
      exact q _ (g.trans (Gr.new g.wd hm)) (tb.same (same_new hm))
end
end Cr
set_option Elab.async false
set_option linter.all false
set_option maxRecDepth 100000
set_option maxHeartbeats 4000000

namespace Cr
open PySem PySem.Spec PyProof.Rows L2
abbrev s_law_made : Stmt := top 39
abbrev n_law_made : List Str := ["_law_rows"]
abbrev a_law_made : List Str := ["_law_rows"]
theorem sc_law_made : FnScope n_law_made a_law_made (defScope s_law_made) := ⟨rfl, rfl, rfl, by decide +kernel, rfl, by decide +kernel, by decide +kernel⟩
section
variable {Ps : List Addr} {G H : Hp} {x dx : Addr} {o1 o2 : HO}
theorem new_wd (wd : Wd Ps G H) (hx : H x = none) (hdx : H dx = none) (hne : dx ≠ x) : Same H (upd (upd H dx o1) x o2) ∧ Wd (x :: Ps) G (upd (upd H dx o1) x o2) := by
  have s2 : Same H (upd (upd H dx o1) x o2) := (same_new hdx).trans (same_new (by rw [upd_ne hne.symm]; exact hx))
  have g2 := Gr.skip wd s2
  refine ⟨s2, g2.wd.same, fun c hc => ?_, fun c hc => ?_⟩
  · rcases List.mem_cons.mp hc with rfl | hc
    · exact wd.free hx
    · exact wd.off c hc
  · rcases List.mem_cons.mp hc with rfl | hc
    · rw [upd_same]; exact fun z => nomatch z
    · exact g2.wd.on c hc
end
section
variable {P : Program} {w : World} {K : PySem.W.Frag} {mg : Str → Option Value} {base : Heap} {ad : Ad} {Ps : List Addr} {H : Hp}
structure RawM (K : PySem.W.Frag) (mg : Str → Option Value) (base : Heap) (ad : Ad) : Prop extends RawH K mg, RawP K mg base ad where
  made : DefR K mg "_law_made" s_law_made a_law_made
def spMade (ad : Ad) (K : PySem.W.Frag) (Ps : List Addr) : Sp := fun vs H Q _ => ∃ (G : Hp) (t : Addr) (h : Int) (ra da sa : Addr) (rs ds ss : List (List Int)), vs = [.ref t] ∧ Wd Ps G H ∧ Tabs Ps H ∧ RowsAt K G t h ra da sa rs ds ss ∧ GoodH h rs ds ss ∧
  ∀ x G' H', Gr Ps G H G' H' → Tabs Ps H' → HouseAt ad K G' x h rs ds ss → Q (.ref x) H'
theorem c_made (T : RawM K mg base ad) (hP : ad.tNum ∈ Ps) : C8.Cal P w K mg base 6 "_law_made" (spMade ad K Ps) [] := by
  refine T.made.cal sc_law_made (fun vs H Q E h => ?_) (fun f cdv A outer s H vs Q E hr h => ?_)
  · obtain ⟨G, t, h, ra, da, sa, rs, ds, ss, rfl, _⟩ := h
    rfl
  · obtain ⟨G, t, h, ra, da, sa, rs, ds, ss, rfl, wd, tbs, hR, hG, q⟩ := h
    have b_list := T.b_list
    have k_House : MakX P w K mg base 4 "House" ad.cH (spHi ad K Ps) := mk_house T.toRawP hP
    refine ⟨_, (pss_one (ps_ret (pe_mx0 k_House hr (by decide)  rfl (pa_cons (pe_ix ix_seq (pv 0) pe_int (fun _ _ => rfl)) (pa_cons (pe_callTy call_list_of (by rfl) b_list (by decide +kernel) (pa_cons (pe_ix ix_seq (pv 0) pe_int (fun _ _ => rfl)) pa_nil)) (pa_cons (pe_callTy call_list_of (by rfl) b_list (by decide +kernel) (pa_cons (pe_ix ix_seq (pv 0) pe_int (fun _ _ => rfl)) pa_nil)) (pa_cons (pe_callTy call_list_of (by rfl) b_list (by decide +kernel) (pa_cons (pe_ix ix_seq (pv 0) pe_int (fun _ _ => rfl)) pa_nil)) pa_nil))))))), ?_⟩
    obtain ⟨xr, er, vr⟩ := id hR.r
    obtain ⟨xd, ed, vd⟩ := id hR.d
    obtain ⟨xs, es, vs⟩ := id hR.s
    refine ⟨_, rfl, .inr (.inl ⟨t, _, _, .int h, rfl, rfl, Same.tup wd.same hR.t, atI_nat (j := 0) rfl, ?_⟩)⟩
    refine ⟨_, rfl, .inr (.inl ⟨t, _, _, .ref ra, rfl, rfl, Same.tup wd.same hR.t, atI_nat (j := 1) rfl, ra, xr, rfl, .inl (SqL.of (wd.same _ _ er)), fun pa hpa => ?_⟩)⟩
    have g1 := Gr.alloc (o := .lst xr) wd hpa
    refine ⟨_, rfl, .inr (.inl ⟨t, _, _, .ref da, rfl, rfl, Same.tup (g1.up.trans g1.wd.same) hR.t, atI_nat (j := 2) rfl, da, xd, rfl, .inl (SqL.of ((g1.up.trans g1.wd.same) _ _ ed)), fun pb hpb => ?_⟩)⟩
    have g2 := g1.trans (Gr.alloc (o := .lst xd) g1.wd hpb)
    refine ⟨_, rfl, .inr (.inl ⟨t, _, _, .ref sa, rfl, rfl, Same.tup (g2.up.trans g2.wd.same) hR.t, atI_nat (j := 3) rfl, sa, xs, rfl, .inl (SqL.of ((g2.up.trans g2.wd.same) _ _ es)), fun pc hpc => ?_⟩)⟩
    have sB := (Gr.alloc (o := .lst xd) g1.wd hpb).up
    have sC := (Gr.alloc (o := .lst xs) g2.wd hpc).up
    have g3 := g2.trans (Gr.alloc (o := .lst xs) g2.wd hpc)
    have t3 : Tabs Ps _ := ((tbs.same (same_new (o := .lst xr) hpa)).same (same_new (o := .lst xd) hpb)).same (same_new (o := .lst xs) hpc)
    refine fun x dx hx hdx hne => ?_
    obtain ⟨s2, wd2⟩ := new_wd (o1 := .own x) (o2 := .ins ad.cH dx []) g3.wd hx hdx hne
    have rowsA : Rows K (upd (upd (upd G pa (.lst xr)) pb (.lst xd)) pc (.lst xs)) pa rs := ⟨xr, SqL.of ((sB.trans sC) _ _ upd_same), rowsV_same g3.up vr⟩
    have rowsB : Rows K (upd (upd (upd G pa (.lst xr)) pb (.lst xd)) pc (.lst xs)) pb ds := ⟨xd, SqL.of (sC _ _ upd_same), rowsV_same g3.up vd⟩
    have rowsC : Rows K (upd (upd (upd G pa (.lst xr)) pb (.lst xd)) pc (.lst xs)) pc ss := ⟨xs, SqL.of upd_same, rowsV_same g3.up vs⟩
    refine ⟨_, x, dx, h, pa, pb, pc, rs, ds, ss, rfl, wd2, t3.same s2, t3.nin hx, upd_same, rowsA, rowsB, rowsC, hG.w4, hG.w3, hG.w5, fun _ G6 H6 a' b' c' _ _ _ g6 t6 hx6 r1 r2 r3 => ⟨rfl, ?_⟩, fun z e => by rw [hG.bad] at e; cases e⟩
    have g7 := g3.trans (g6.made g3.wd hx s2 hx6)
    have sx := same_new (o := .ins ad.cH dx (hf h a' b' c')) (g6.wd.off x List.mem_cons_self)
    exact q x _ H6 g7 t6 ⟨⟨dx, a', b', c', upd_same, r1.same sx, r2.same sx, r3.same sx⟩, hG.bad, hG.w4, hG.w3, hG.w5⟩
end
end Cr
set_option Elab.async false
set_option linter.all false
set_option maxRecDepth 100000
set_option maxHeartbeats 4000000
/-! Lists under way that are not known -/
namespace Cr
open PySem PySem.Spec PyProof.Rows L2
/-- a list that stands and is not known -/
def Own (G H : Hp) (p : Addr) (xs : List V) : Prop := H p = some (.lst xs) ∧ G p = none
section
variable {Ps : List Addr} {b l p q : Addr} {G0 H0 G H G1 H1 : Hp} {xs : List V} {o : HO}
theorem Own.step (w : Own G H p xs) (n : p ∉ b :: l :: Ps) (y : Bx Ps b l G H G1 H1) : Own G1 H1 p xs :=
  ⟨y.gr.keep _ _ n w.1, y.gr.fresh p w.2 (by rw [w.1]; exact fun z => nomatch z)⟩
theorem Own.off (w : Own G H p xs) (ne : p ≠ q) : Own G (upd H q o) p xs := ⟨by rw [upd_ne ne]; exact w.1, w.2⟩
theorem Own.off2 (w : Own G H p xs) (ne : p ≠ q) : Own (upd G q o) H p xs := ⟨w.1, by rw [upd_ne ne]; exact w.2⟩
theorem Own.made (B : Bx Ps b l G0 H0 G H) (hp : H p = none) : Own G (upd H p (.lst xs)) p xs := ⟨upd_same, B.wd.free hp⟩
def Own4 (G H : Hp) (p1 p2 p3 p4 : Addr) (x1 x2 x3 x4 : List V) : Prop := Own G H p1 x1 ∧ Own G H p2 x2 ∧ Own G H p3 x3 ∧ Own G H p4 x4
theorem Own4.step {p1 p2 p3 p4 : Addr} {x1 x2 x3 x4 : List V} (w : Own4 G H p1 p2 p3 p4 x1 x2 x3 x4) (n1 : p1 ∉ b :: l :: Ps) (n2 : p2 ∉ b :: l :: Ps) (n3 : p3 ∉ b :: l :: Ps) (n4 : p4 ∉ b :: l :: Ps) (y : Bx Ps b l G H G1 H1) : Own4 G1 H1 p1 p2 p3 p4 x1 x2 x3 x4 :=
  ⟨w.1.step n1 y, w.2.1.step n2 y, w.2.2.1.step n3 y, w.2.2.2.step n4 y⟩
theorem Own4.nes {p1 p2 p3 p4 : Addr} {x1 x2 x3 x4 : List V} (w : Own4 G H p1 p2 p3 p4 x1 x2 x3 x4) (h : H q = none) : p1 ≠ q ∧ p2 ≠ q ∧ p3 ≠ q ∧ p4 ≠ q := ⟨ne_of_none w.1.1 h, ne_of_none w.2.1.1 h, ne_of_none w.2.2.1.1 h, ne_of_none w.2.2.2.1 h⟩
theorem Own4.off {p1 p2 p3 p4 : Addr} {x1 x2 x3 x4 : List V} (w : Own4 G H p1 p2 p3 p4 x1 x2 x3 x4) (n : p1 ≠ q ∧ p2 ≠ q ∧ p3 ≠ q ∧ p4 ≠ q) : Own4 G (upd H q o) p1 p2 p3 p4 x1 x2 x3 x4 := ⟨w.1.off n.1, w.2.1.off n.2.1, w.2.2.1.off n.2.2.1, w.2.2.2.off n.2.2.2⟩
theorem int_at {ns : List Int} {k : Nat} (hk : k < ns.length) : ∃ a, atI (ns.map V.int) (0 + (k : Int)) = some (.int a) := by
  refine ⟨ns[k], ?_⟩
  rw [show (0 + (k : Int)) = ((k : Nat) : Int) by omega]
  exact atI_nat (by rw [List.getElem?_map, List.getElem?_eq_getElem hk]; rfl)
theorem ixN_at {n k : Nat} (h : k < n) : ixN n (0 + (k : Int)) = some k := by
  unfold ixN
  rw [if_pos (by omega), if_pos (by omega)]
  congr 1
  omega
theorem Bx.ninF (B : Bx Ps b l G0 H0 G H) (hp : H p = none) : p ∉ b :: l :: Ps := fun h => by
  rcases List.mem_cons.mp h with z | h
  · exact B.neb hp z.symm
  rcases List.mem_cons.mp h with z | h
  · exact B.nel hp z.symm
  · exact B.tabs.nin hp h
theorem Bx.free' (B : Bx Ps b l G0 H0 G H) (hp : H p = none) : H0 p = none := B.gr.free' hp
end
theorem Bx.al {Ps : List Addr} {b l p : Addr} {G0 H0 G H : Hp} {o : HO} (B : Bx Ps b l G0 H0 G H) (hp : H p = none) : ∃ G', Bx Ps b l G0 H0 G' (upd H p o) ∧ Same G G' ∧ G' p = some o := ⟨upd G p o, B.alloc hp, same_new (B.wd.free hp), upd_same⟩
end Cr
set_option Elab.async false
set_option linter.all false
set_option maxRecDepth 100000
set_option maxHeartbeats 4000000

namespace Cr
open PySem PySem.Spec PyProof.Rows L2
abbrev s_law_planned : Stmt := top 46
abbrev n_law_planned : List Str := ["_law_box", "_law_rows", "_law_now", "_law_plan", "_law_hour", "_law_flows", "_law_one", "_law_other", "_law_limit", "_law_some", "_law_vents", "_law_k", "_law_lacks", "_law_room", "_law_j"]
abbrev a_law_planned : List Str := ["_law_box", "_law_rows"]
theorem sc_law_planned : FnScope n_law_planned a_law_planned (defScope s_law_planned) := ⟨rfl, rfl, rfl, by decide +kernel, rfl, by decide +kernel, by decide +kernel⟩
section
variable {P : Program} {w : World} {K : PySem.W.Frag} {mg : Str → Option Value} {base : Heap} {ad : Ad} {Ps : List Addr} {H : Hp}
structure RawN (K : PySem.W.Frag) (mg : Str → Option Value) : Prop extends RawU K mg where
  plnd : DefR K mg "_law_planned" s_law_planned a_law_planned
def spPlanned (K : PySem.W.Frag) (Ps : List Addr) : Sp := fun vs H Q _ => ∃ (b l : Addr) (G : Hp) (t : Addr) (h : Int) (ra da sa : Addr) (rs ds ss : List (List Int)), vs = [.ref b, .ref t] ∧ Bx Ps b l G H G H ∧ RowsAt K G t h ra da sa rs ds ss ∧ GoodH h rs ds ss ∧
  ∀ p G' H' pl, Bx Ps b l G H G' H' → PlanL K G' p pl → fits h rs.length ds.length pl → Q (.ref p) H'
theorem c_planned (T : RawN K mg) : C8.Cal P w K mg base 3 "_law_planned" (spPlanned K Ps) [] := by
  refine T.plnd.cal sc_law_planned (fun vs H Q E h => ?_) (fun f cdv A outer s H vs Q E hr h => ?_)
  · obtain ⟨b, l, G, t, h, ra, da, sa, rs, ds, ss, rfl, _⟩ := h
    rfl
  · obtain ⟨b, l, G, t, h, ra, da, sa, rs, ds, ss, rfl, B, hR, hG, q⟩ := h
    have k__law_take : C8.Cal P w K mg base 1 "_law_take" (spTake Ps) [] := c_take T.toRawL
    have k__law_use : C8.Cal P w K mg base 2 "_law_use" (spLTwo K Ps useOf) [] := c_luse T.toRawU
    have k__law_least : C8.Cal P w K mg base 2 "_law_least" (spLTwo K Ps leastOf) [] := c_lleast T.toRawU
    have b_len := T.b_len
    have b_max := T.b_max
    have b_min := T.b_min
    have b_sum := T.b_sum
    have b_range := T.b_range
    have b_int := T.b_int
    refine ⟨_, (pss_cons (ps_setLc (i := 2) (own := [("_law_room", 13)]) rfl sc_law_planned.nd rfl rfl (sw_true rfl rfl rfl (by decide +kernel)) (pi_list (pe_ix ix_seq (pv 1 rfl (Or.inr (Or.inl rfl))) pe_int (fun _ _ => rfl))) (blkOk_by (own := [("_law_room", 13)]) (N := n_law_planned) (sc := defScope s_law_planned) (by decide +kernel)) (fun _ _ _ _ _ => (pg_name (i := 13) sc_law_planned.nd rfl (Or.inl rfl) (Or.inr rfl))) (fun _ _ _ _ _ => pts_nil) (fun _ _ _ _ _ => (pe_ix (ix_seqK (K := K) rfl) (pv 13 rfl (Or.inl rfl)) pe_int (fun _ _ => rfl))))
      (pss_cons (ps_set (i := 3) sc_law_planned.nd rfl (Or.inl rfl) (pe_lst pa_nil))
      (pss_cons (ps_for PassesOwn.never rfl (pi_range1 (by rfl) b_range (pa_cons (pe_ix ix_seq (pv 1 rfl (Or.inr (Or.inl rfl))) pe_int (fun _ _ => rfl)) pa_nil)) (pg_name (i := 4) sc_law_planned.nd rfl (Or.inl rfl))
        (pss_cons (ps_set (i := 5) sc_law_planned.nd rfl (Or.inr rfl) (pe_lst pa_nil))
      (pss_cons (ps_for PassesOwn.never rfl (pi_list (pe_ix ix_seq (pv 1 rfl (Or.inr (Or.inl rfl))) pe_int (fun _ _ => rfl))) (pg_tup rfl (pgs_cons (pg_name (i := 6) sc_law_planned.nd rfl (Or.inl rfl)) (pgs_cons (pg_name (i := 7) sc_law_planned.nd rfl (Or.inl rfl)) (pgs_cons (pg_name (i := 8) sc_law_planned.nd rfl (Or.inl rfl)) pgs_nil))))
        (pss_cons (ps_set (i := 9) sc_law_planned.nd rfl (Or.inl rfl) (pe_ix ix_seq (pe_lst (pa_cons pe_int (pa_cons pe_int (pa_cons (pe_op op_sub (C8.pe_c k__law_take hr (by decide) rfl (pa_cons (pv 0) (pa_cons pe_int pa_nil))) (C8.pe_c k__law_take hr (by decide) rfl (pa_cons (pv 0) (pa_cons pe_int pa_nil)))) pa_nil)))) (C8.pe_c k__law_take hr (by decide) rfl (pa_cons (pv 0) (pa_cons pe_int pa_nil))) (fun _ _ => rfl)))
      (pss_one (ps_expr (pe_bm PySem.F.plainAttrs_list PySem.F.slot_list_append PySem.F.type_list_append mt_append (pv 5 rfl (Or.inr (Or.inl rfl))) (pa_cons (pe_callB (call_max2 rfl) (by rfl) b_max (by decide +kernel) (pa_cons (pe_op op_sub pe_int (pv 8)) (pa_cons (pe_callB (call_min2 rfl) (by rfl) b_min (by decide +kernel) (pa_cons (pv 8) (pa_cons (pv 9) pa_nil))) pa_nil))) pa_nil))))))
      (pss_cons (ps_set (i := 10) sc_law_planned.nd rfl (Or.inl rfl) (pe_lst pa_nil))
      (pss_cons (ps_for PassesOwn.never rfl (pi_range1 (by rfl) b_range (pa_cons (pe_callB call_len_seq (by rfl) b_len (by decide +kernel) (pa_cons (pv 2) pa_nil)) pa_nil)) (pg_name (i := 11) sc_law_planned.nd rfl (Or.inr rfl))
        (pss_cons (ps_asg (pe_op op_sub (pe_ix ix_seq (pv 2) (pv 11 rfl (Or.inr (Or.inl rfl))) (fun _ _ => rfl)) (C8.pe_c k__law_use hr (by decide) rfl (pa_cons (pv 1 rfl (Or.inr (Or.inl rfl))) (pa_cons (pv 11 rfl (Or.inr (Or.inl rfl))) (pa_cons (pv 4) pa_nil))))) (pg_sub (pv 2) (pv 11 rfl (Or.inr (Or.inl rfl))) set_list))
      (pss_cons (ps_asg (pe_op op_add (pe_ix ix_seq (pv 2) (pv 11 rfl (Or.inr (Or.inl rfl))) (fun _ _ => rfl)) (pe_callB (cr_sum rfl) (by rfl) b_sum (by decide +kernel) (pa_cons (pe_lc (own := [("_law_j", 14)]) rfl sc_law_planned.nd (pi_range1 (by rfl) b_range (pa_cons (pe_callB call_len_seq (by rfl) b_len (by decide +kernel) (pa_cons (pv 5 rfl (Or.inr (Or.inl rfl))) pa_nil)) pa_nil)) (blkOk_by (own := [("_law_j", 14)]) (N := n_law_planned) (sc := defScope s_law_planned) (by decide +kernel)) (fun _ _ _ _ _ => (pg_name (i := 14) sc_law_planned.nd rfl (Or.inl rfl) (Or.inr rfl))) (fun _ _ _ _ _ => pts_one (pt_cmpR op_eq (pe_ix (ix_seqK (K := K) rfl) (pe_ix (ix_seqK (K := K) rfl) (pe_ix (ix_seqK (K := K) rfl) (pv 1 rfl (Or.inr (Or.inl rfl))) pe_int (fun _ _ => rfl)) (pv 14 rfl (Or.inl rfl)) (fun _ _ => rfl)) pe_int (fun _ _ => rfl)) (pv 11 rfl (Or.inr (Or.inl rfl))) (nomark _))) (fun _ _ _ _ _ => (pe_ix (ix_seqK (K := K) rfl) (pv 5 rfl (Or.inr (Or.inl rfl))) (pv 14 rfl (Or.inl rfl)) (fun _ _ => rfl)))) pa_nil))) (pg_sub (pv 2) (pv 11 rfl (Or.inr (Or.inl rfl))) set_list))
      (pss_cons (ps_asg (pe_op op_sub (pe_ix ix_seq (pv 2) (pv 11 rfl (Or.inr (Or.inl rfl))) (fun _ _ => rfl)) (pe_callB (cr_sum rfl) (by rfl) b_sum (by decide +kernel) (pa_cons (pe_lc (own := [("_law_j", 14)]) rfl sc_law_planned.nd (pi_range1 (by rfl) b_range (pa_cons (pe_callB call_len_seq (by rfl) b_len (by decide +kernel) (pa_cons (pv 5 rfl (Or.inr (Or.inl rfl))) pa_nil)) pa_nil)) (blkOk_by (own := [("_law_j", 14)]) (N := n_law_planned) (sc := defScope s_law_planned) (by decide +kernel)) (fun _ _ _ _ _ => (pg_name (i := 14) sc_law_planned.nd rfl (Or.inl rfl) (Or.inr rfl))) (fun _ _ _ _ _ => pts_one (pt_cmpR op_eq (pe_ix (ix_seqK (K := K) rfl) (pe_ix (ix_seqK (K := K) rfl) (pe_ix (ix_seqK (K := K) rfl) (pv 1 rfl (Or.inr (Or.inl rfl))) pe_int (fun _ _ => rfl)) (pv 14 rfl (Or.inl rfl)) (fun _ _ => rfl)) pe_int (fun _ _ => rfl)) (pv 11 rfl (Or.inr (Or.inl rfl))) (nomark _))) (fun _ _ _ _ _ => (pe_ix (ix_seqK (K := K) rfl) (pv 5 rfl (Or.inr (Or.inl rfl))) (pv 14 rfl (Or.inl rfl)) (fun _ _ => rfl)))) pa_nil))) (pg_sub (pv 2) (pv 11 rfl (Or.inr (Or.inl rfl))) set_list))
      (pss_cons (ps_set (i := 12) sc_law_planned.nd rfl (Or.inl rfl) (pe_op op_add (pe_callB (call_max2 rfl) (by rfl) b_max (by decide +kernel) (pa_cons pe_int (pa_cons (pe_op op_sub (C8.pe_c k__law_least hr (by decide) rfl (pa_cons (pv 1 rfl (Or.inr (Or.inl rfl))) (pa_cons (pv 11 rfl (Or.inr (Or.inl rfl))) (pa_cons (pv 4) pa_nil)))) (pe_ix ix_seq (pv 2) (pv 11 rfl (Or.inr (Or.inl rfl))) (fun _ _ => rfl))) pa_nil))) (pe_ix ix_seq (pe_lst (pa_cons pe_int (pa_cons pe_int (pa_cons pe_int (pa_cons (C8.pe_c k__law_take hr (by decide) rfl (pa_cons (pv 0) (pa_cons pe_int pa_nil))) pa_nil))))) (C8.pe_c k__law_take hr (by decide) rfl (pa_cons (pv 0) (pa_cons pe_int pa_nil))) (fun _ _ => rfl))))
      (pss_cons (ps_expr (pe_bm PySem.F.plainAttrs_list PySem.F.slot_list_append PySem.F.type_list_append mt_append (pv 10) (pa_cons (pe_callB (call_min2 rfl) (by rfl) b_min (by decide +kernel) (pa_cons (pv 12) (pa_cons (pe_ix ix_seq (pe_ix ix_seq (pe_ix ix_seq (pv 1 rfl (Or.inr (Or.inl rfl))) pe_int (fun _ _ => rfl)) (pv 11 rfl (Or.inr (Or.inl rfl))) (fun _ _ => rfl)) pe_int (fun _ _ => rfl)) pa_nil))) pa_nil)))
      (pss_one (ps_asg (pe_op op_add (pe_ix ix_seq (pv 2) (pv 11 rfl (Or.inr (Or.inl rfl))) (fun _ _ => rfl)) (pe_ix ix_seq (pv 10) (pv 11 rfl (Or.inr (Or.inl rfl))) (fun _ _ => rfl))) (pg_sub (pv 2) (pv 11 rfl (Or.inr (Or.inl rfl))) set_list)))))))))
      (pss_one (ps_expr (pe_bm PySem.F.plainAttrs_list PySem.F.slot_list_append PySem.F.type_list_append mt_append (pv 3) (pa_cons (pe_tup (pa_cons (pv 10) (pa_cons (pv 5 rfl (Or.inr (Or.inl rfl))) pa_nil))) pa_nil)))))))))
      (pss_one (ps_ret (pv 3)))))), ?_⟩
    obtain ⟨xr, er, vr⟩ := id hR.r
    obtain ⟨xd, ed, vd⟩ := id hR.d
    have lr : xr.length = rs.length := Paired.length vr
    have ld : xd.length = ds.length := Paired.length vd
    have hr6 := hG.r6
    have hr1 := hG.r1
    have hd8 := hG.d8
    have hh1 := hG.h1
    have hh12 := hG.h12
    have pos : ∀ s ∈ ss, 0 ≤ s.getD 4 0 := fun s hs => stayOk_need (hG.sok s hs)
    refine ⟨_, rfl, .inr (.inl ⟨t, _, _, .ref ra, rfl, rfl, Same.tup B.wd.same hR.t, atI_nat (j := 1) rfl, ra, rfl, ⟨xr, SqL.of (B.wd.same _ _ er)⟩, fun D hD => ?_⟩)⟩
    have nD := B.ninF hD
    refine lc_list (K := K) (a := ra) (xs := xr) (fun i H' => Bx Ps b l G H G H' ∧ H' D = some (.lst ((rs.take i).map fun r => V.int (r.getD 0 0)))) ⟨B.new hD, upd_same⟩ (fun i H' _ ⟨b', _⟩ => SqL.of (b'.wd.same _ _ er)) ?_ ?_
    · rintro i y H' hy ⟨B', hacc⟩
      obtain ⟨z, ez, ty, rfl, hty⟩ := paired_get vr hy
      obtain ⟨c1, c2, c3, c4, rfl⟩ := len4 (hG.w4 z (List.mem_of_getElem? ez))
      have hi : i < rs.length := (List.getElem?_eq_some_iff.mp ez).1
      refine ⟨(by (repeat rw [wipe_set (by decide)]); exact wipe_wipe _ _), ?_⟩
      refine ⟨_, rfl, .inr (.inl ⟨ty, _, _, .int c1, rfl, rfl, Same.tup B'.wd.same hty, atI_nat (j := 0) rfl, ?_⟩)⟩
      refine ⟨_, hacc, small1000 (by rw [List.length_map, List.length_take]; omega), B'.poke B hD (B.wd.free hD), ?_⟩
      rw [upd_same, List.take_add_one, ez]
      simp
    rintro H1 ⟨B1, hacc⟩
    rw [lr, List.take_of_length_le (Nat.le_refl _)] at hacc
    obtain ⟨now, hnl, oD⟩ : ∃ now : List Int, now.length = rs.length ∧ Own G H1 D (now.map V.int) := ⟨rs.map fun r => r.getD 0 0, List.length_map _, by rw [List.map_map]; exact ⟨hacc, B.wd.free hD⟩⟩
    -- plan
    refine ⟨Nat.zero_le _, fun pp hpp => ?_⟩
    have nP := B1.ninF hpp
    have hPH := B1.free' hpp
    have nDP : D ≠ pp := ne_of_none oD.1 hpp
    have oD1 := oD.off (o := .lst []) nDP
    have oP : Own G (upd H1 pp (.lst [])) pp [] := Own.made B1 hpp
    have B2 := B1.new (o := .lst []) hpp
    obtain ⟨nh, rfl⟩ : ∃ nh : Nat, h = (nh : Int) := ⟨h.toNat, by omega⟩
    refine ⟨_, rfl, .inr (.inl ⟨t, _, _, .int (nh : Int), rfl, rfl, Same.tup B2.wd.same hR.t, atI_nat (j := 0) rfl, ?_⟩)⟩
    refine ⟨(nh : Int), rfl, by omega, by omega, ?_⟩
    refine for_range (lo := 0) (n := nh) (fun i σ H' => ∃ (o4 o5 o6 o7 o8 o9 o10 o11 o12 : Option V) (G' : Hp) (now : List Int) (ys : List V) (pl : Hours), σ = [some (.ref b), some (.ref t), some (.ref D), some (.ref pp), o4, o5, o6, o7, o8, o9, o10, o11, o12, none, none] ∧ Bx Ps b l G H G' H' ∧ Own G' H' D (now.map V.int) ∧ now.length = rs.length ∧ Own G' H' pp ys ∧ Paired (HourL K G') ys pl ∧ pl.length = i ∧ ∀ p ∈ pl, p.1.length = rs.length ∧ p.2.length = ds.length) ?_ ?_ ?_
    · exact ⟨none, none, none, none, none, none, none, none, none, _, now, [], [], rfl, B2, oD1, hnl, oP, .nil, rfl, by simp⟩
    · rintro i σ H3 hi ⟨o4, o5, o6, o7, o8, o9, o10, o11, o12, G3, now, ys, pl, rfl, B3, oD3, hl3, oP3, hpl, hpn, hok⟩
      -- flows
      refine ⟨Nat.zero_le _, fun pf hpf => ?_⟩
      have nF := B3.ninF hpf
      have hFH := B3.free' hpf
      have nDF : D ≠ pf := ne_of_none oD3.1 hpf
      have nPF : pp ≠ pf := ne_of_none oP3.1 hpf
      have B4 := B3.new (o := .lst []) hpf
      refine ⟨_, rfl, .inr (.inl ⟨t, _, _, .ref da, rfl, rfl, Same.tup (B4.gr.up.trans B4.wd.same) hR.t, atI_nat (j := 2) rfl, da, rfl, ⟨xd, SqL.of ((B4.gr.up.trans B4.wd.same) _ _ ed)⟩, ?_⟩)⟩
      refine for_list (K := K) (a := da) (xs := xd) (fun j σ H' => ∃ (o6 o7 o8 o9 : Option V) (G' : Hp) (fl : List Int), σ = [some (.ref b), some (.ref t), some (.ref D), some (.ref pp), some (.int (0 + (i : Int))), some (.ref pf), o6, o7, o8, o9, o10, o11, o12, none, none] ∧ Bx Ps b l G H G' H' ∧ Own G' H' D (now.map V.int) ∧ Own G' H' pp ys ∧ Paired (HourL K G') ys pl ∧ Own G' H' pf (fl.map V.int) ∧ fl.length = j)
        ⟨_, _, _, _, _, [], rfl, B4, oD3.off nDF, oP3.off nPF, hpl, Own.made B3 hpf, rfl⟩ (fun j σ H' _ ⟨_, _, _, _, G', _, _, b', _⟩ => SqL.of ((b'.gr.up.trans b'.wd.same) _ _ ed)) ?_ ?_
      · rintro j y σ H5 hy ⟨o6, o7, o8, o9, G5, fl, rfl, B5, oD5, oP5, hpl5, oF5, hfl⟩
        obtain ⟨z, ez, ty, rfl, hty⟩ := paired_get vd hy
        obtain ⟨c1, c2, lim, rfl⟩ := len3 (hG.w3 z (List.mem_of_getElem? ez))
        have hj : j < ds.length := (List.getElem?_eq_some_iff.mp ez).1
        refine ⟨ty, _, rfl, Same.tup (B5.gr.up.trans B5.wd.same) hty, rfl, _, _, rfl, _, _, rfl, _, _, rfl, rfl, ?_⟩
        refine ⟨_, rfl, b, l, _, _, rfl, by omega, by omega, B5.start, fun r1 H6 a1 c1' B6 => ?_⟩
        refine ⟨_, rfl, b, l, _, _, rfl, by omega, by omega, B6.start, fun r2 H7 a2 c2' B7 => ⟨_, _, rfl, rfl, ?_⟩⟩
        replace B7 := B6.trans B7
        refine ⟨by show 3 ≤ sizeLine; decide, fun p3 hp3 => ?_⟩
        have B8 := B7.trans (B7.start.alloc (o := .lst [.int 0, .int 0, .int (r1 - r2)]) hp3)
        refine ⟨_, rfl, b, l, _, _, rfl, by omega, by omega, B8.start, fun r3 H9 a3 c3' B9 => ?_⟩
        replace B9 := B8.trans B9
        obtain ⟨v, hv, hvm⟩ := atI_mem (xs := [V.int 0, V.int 0, V.int (r1 - r2)]) (i := r3) a3 (by simpa using c3')
        obtain ⟨k, rfl⟩ : ∃ k : Int, v = .int k := by
          simp at hvm
          rcases hvm with rfl | rfl
          · exact ⟨_, rfl⟩
          · exact ⟨_, rfl⟩
        refine .inl ⟨p3, _, _, _, rfl, rfl, SqL.of (B9.wd.same _ _ upd_same), hv, ?_⟩
        have oF9 := oF5.step nF B9
        refine ⟨_, rfl, .inl ⟨rfl, _, SqL.of oF9.1⟩, _, rfl, _, _, rfl, rfl, _, rfl, _, rfl, _, _, rfl, _, _, rfl, pf, _, _, rfl, rfl, oF9.1, small1000 (by rw [List.length_map]; omega), ?_⟩
        exact ⟨_, _, _, _, _, fl ++ [_], rfl, (B5.trans B9).poke B hFH oF9.2, (oD5.step nD B9).off nDF, (oP5.step nP B9).off nPF, hoursL_same B9.gr.up hpl5, ⟨by rw [upd_same, List.map_append]; rfl, oF9.2⟩, by rw [List.length_append, hfl]; rfl⟩
      · rintro σ H5 ⟨o6, o7, o8, o9, G5, fl, rfl, B5, oD5, oP5, hpl5, oF5, hfl⟩
        rw [ld] at hfl
        -- vents
        refine ⟨Nat.zero_le _, fun pv hpv => ?_⟩
        have nV := B5.ninF hpv
        have hVH := B5.free' hpv
        have nDV : D ≠ pv := ne_of_none oD5.1 hpv
        have nPV : pp ≠ pv := ne_of_none oP5.1 hpv
        have nFV : pf ≠ pv := ne_of_none oF5.1 hpv
        have B6 := B5.new (o := .lst []) hpv
        have oD6 := oD5.off (o := .lst []) nDV
        have ln : (now.map V.int).length = now.length := List.length_map _
        refine ⟨_, rfl, D, _, rfl, .inl (SqL.of oD6.1), ?_⟩
        refine ⟨((now.map V.int).length : Int), rfl, by omega, by omega, ?_⟩
        refine for_range (lo := 0) (n := (now.map V.int).length) (fun k σ H' => ∃ (o11 o12 : Option V) (G' : Hp) (nw vn : List Int), σ = [some (.ref b), some (.ref t), some (.ref D), some (.ref pp), some (.int (0 + (i : Int))), some (.ref pf), o6, o7, o8, o9, some (.ref pv), o11, o12, none, none] ∧ Bx Ps b l G H G' H' ∧ Own G' H' D (nw.map V.int) ∧ nw.length = rs.length ∧ Own G' H' pp ys ∧ Paired (HourL K G') ys pl ∧ Own G' H' pf (fl.map V.int) ∧ Own G' H' pv (vn.map V.int) ∧ vn.length = k)
          ⟨_, _, _, now, [], rfl, B6, oD6, hl3, oP5.off nPV, hpl5, oF5.off nFV, Own.made B5 hpv, rfl⟩ ?_ ?_
        · rintro k σ H7 hk ⟨o11, o12, G7, nw, vn, rfl, B7, oD7, hnl7, oP7, hpl7, oF7, oV7, hvn⟩
          have hkr : k < rs.length := by omega
          have W7 : Own4 G7 H7 D pp pf pv (nw.map V.int) ys (fl.map V.int) (vn.map V.int) := ⟨oD7, oP7, oF7, oV7⟩
          have hR7 : RowsAt K G7 t nh ra da sa rs ds ss := ⟨Same.tup B7.gr.up hR.t, hR.r.same B7.gr.up, hR.d.same B7.gr.up, hR.s.same B7.gr.up⟩
          have lfm : (fl.map V.int).length = fl.length := List.length_map _

          have put : ∀ {G' H' : Hp} {nw' vn' : List Int} (x : Int), nw'.length = rs.length → Bx Ps b l G H G' H' → Own4 G' H' D pp pf pv (nw'.map V.int) ys (fl.map V.int) (vn'.map V.int) → Bx Ps b l G H G' (upd H' D (.lst ((nw'.map V.int).set k (.int x)))) ∧ ∃ nw2 : List Int, nw2.length = rs.length ∧ Own4 G' (upd H' D (.lst ((nw'.map V.int).set k (.int x)))) D pp pf pv (nw2.map V.int) ys (fl.map V.int) (vn'.map V.int) := fun {G' H' nw' vn'} x hl b' w =>
            ⟨b'.poke B hD w.1.2, nw'.set k x, List.length_set.trans hl, ⟨by rw [upd_same, List.map_set], w.1.2⟩, w.2.1.off nDP.symm, w.2.2.1.off nDF.symm, w.2.2.2.off nDV.symm⟩
          -- what is used
          obtain ⟨a0, ha0⟩ := int_at (ns := nw) (k := k) (by omega)
          refine ⟨_, rfl, _, rfl, .inl ⟨D, _, _, .int a0, rfl, rfl, SqL.of W7.1.1, ha0, ?_⟩⟩
          refine ⟨_, rfl, _, rfl, _, rfl, G7, t, _, ra, da, sa, rs, ds, ss, _, _, rfl, B7.wdP, B7.tabs, hR7, hG.w5, hG.s20, pos, fun H8 g8 t8 => ⟨_, _, rfl, rfl, ?_⟩⟩
          have y8 := B7.start.pure g8 t8
          have W8 := W7.step nD nP nF nV y8
          have B8 := B7.trans y8
          refine ⟨_, rfl, _, rfl, D, _, _, k, rfl, rfl, W8.1.1, ixN_at (by rw [List.length_map]; omega), ?_⟩
          obtain ⟨B9, nwP, hnP, W9⟩ := put _ hnl7 B8 W8
          -- the flows that come
          obtain ⟨aP, haP⟩ := int_at (ns := nwP) (k := k) (by omega)
          refine ⟨_, rfl, _, rfl, .inl ⟨D, _, _, .int aP, rfl, rfl, SqL.of W9.1.1, haP, ?_⟩⟩
          refine ⟨_, rfl, pf, _, rfl, .inl (SqL.of W9.2.2.1.1), ((fl.map V.int).length : Int), rfl, by omega, by omega, fun EP hEP => ?_⟩
          have nEP := W9.nes hEP
          have gEP : G7 EP = none := B9.wd.free hEP
          have hEHP := B9.free' hEP
          refine lc_range (lo := 0) (n := (fl.map V.int).length) (fun jj H' => ∃ acc : List Int, Bx Ps b l G H G7 H' ∧ Own4 G7 H' D pp pf pv (nwP.map V.int) ys (fl.map V.int) (vn.map V.int) ∧ H' EP = some (.lst (acc.map V.int)) ∧ acc.length ≤ jj) ⟨[], B9.new hEP, W9.off nEP, upd_same, Nat.le_refl _⟩ ?_ ?_
          · rintro jj H' hjj ⟨acc, B', W', hacc, hal⟩
            have hjd : jj < ds.length := by omega
            obtain ⟨v, hv, ty, rfl, hty⟩ := paired_get' vd (List.getElem?_eq_getElem hjd)
            obtain ⟨c1, c2, lim, ec⟩ := len3 (hG.w3 _ (List.getElem_mem hjd))
            rw [ec] at hty
            have hat : atI xd (0 + (jj : Int)) = some (.ref ty) := by
              rw [show (0 + (jj : Int)) = ((jj : Nat) : Int) by omega]
              exact atI_nat hv
            obtain ⟨ff, hff⟩ := int_at (ns := fl) (k := jj) (by omega)
            refine ⟨(by (repeat rw [wipe_set (by decide)]); exact wipe_wipe _ _), ?_⟩
            have sB := B'.gr.up.trans B'.wd.same
            refine ⟨_, rfl, .inr (.inl ⟨t, _, _, .ref da, rfl, rfl, Same.tup sB hR.t, atI_nat (j := 2) rfl, _, rfl, .inl ⟨da, xd, _, .ref ty, rfl, rfl, SqL.of (sB _ _ ed), hat, .inr (.inl ⟨ty, _, _, .int c2, rfl, rfl, Same.tup sB hty, atI_nat (j := 1) rfl, _, rfl, rfl, _, rfl, ?_⟩)⟩⟩)⟩
            refine ite2 (fun _ => ?_) (fun _ => ?_)
            · refine ⟨_, rfl, _, rfl, .inl ⟨pf, _, _, .int ff, rfl, rfl, SqL.of W'.2.2.1.1, hff, ?_⟩⟩
              exact ⟨_, hacc, small1000 (by rw [List.length_map]; omega), acc ++ [ff], B'.poke B hEHP gEP, W'.off nEP, by rw [upd_same, List.map_append]; rfl, by rw [List.length_append]; show _ + 1 ≤ _; omega⟩
            · exact ⟨acc, B', W', hacc, by omega⟩
          rintro HPc ⟨accP, BPc, WPc, haccP, _⟩
          refine ⟨EP, accP, rfl, SqL.of haccP, _, _, rfl, rfl, ?_⟩
          refine ⟨_, rfl, _, rfl, D, _, _, k, rfl, rfl, WPc.1.1, ixN_at (by rw [List.length_map]; omega), ?_⟩
          obtain ⟨BPd, nwQ, hnQ, WPd⟩ := put _ hnP BPc WPc
          -- the flows that go
          obtain ⟨aQ, haQ⟩ := int_at (ns := nwQ) (k := k) (by omega)
          refine ⟨_, rfl, _, rfl, .inl ⟨D, _, _, .int aQ, rfl, rfl, SqL.of WPd.1.1, haQ, ?_⟩⟩
          refine ⟨_, rfl, pf, _, rfl, .inl (SqL.of WPd.2.2.1.1), ((fl.map V.int).length : Int), rfl, by omega, by omega, fun EQ hEQ => ?_⟩
          have nEQ := WPd.nes hEQ
          have gEQ : G7 EQ = none := BPd.wd.free hEQ
          have hEHQ := BPd.free' hEQ
          refine lc_range (lo := 0) (n := (fl.map V.int).length) (fun jj H' => ∃ acc : List Int, Bx Ps b l G H G7 H' ∧ Own4 G7 H' D pp pf pv (nwQ.map V.int) ys (fl.map V.int) (vn.map V.int) ∧ H' EQ = some (.lst (acc.map V.int)) ∧ acc.length ≤ jj) ⟨[], BPd.new hEQ, WPd.off nEQ, upd_same, Nat.le_refl _⟩ ?_ ?_
          · rintro jj H' hjj ⟨acc, B', W', hacc, hal⟩
            have hjd : jj < ds.length := by omega
            obtain ⟨v, hv, ty, rfl, hty⟩ := paired_get' vd (List.getElem?_eq_getElem hjd)
            obtain ⟨c1, c2, lim, ec⟩ := len3 (hG.w3 _ (List.getElem_mem hjd))
            rw [ec] at hty
            have hat : atI xd (0 + (jj : Int)) = some (.ref ty) := by
              rw [show (0 + (jj : Int)) = ((jj : Nat) : Int) by omega]
              exact atI_nat hv
            obtain ⟨ff, hff⟩ := int_at (ns := fl) (k := jj) (by omega)
            refine ⟨(by (repeat rw [wipe_set (by decide)]); exact wipe_wipe _ _), ?_⟩
            have sB := B'.gr.up.trans B'.wd.same
            refine ⟨_, rfl, .inr (.inl ⟨t, _, _, .ref da, rfl, rfl, Same.tup sB hR.t, atI_nat (j := 2) rfl, _, rfl, .inl ⟨da, xd, _, .ref ty, rfl, rfl, SqL.of (sB _ _ ed), hat, .inr (.inl ⟨ty, _, _, .int c1, rfl, rfl, Same.tup sB hty, atI_nat (j := 0) rfl, _, rfl, rfl, _, rfl, ?_⟩)⟩⟩)⟩
            refine ite2 (fun _ => ?_) (fun _ => ?_)
            · refine ⟨_, rfl, _, rfl, .inl ⟨pf, _, _, .int ff, rfl, rfl, SqL.of W'.2.2.1.1, hff, ?_⟩⟩
              exact ⟨_, hacc, small1000 (by rw [List.length_map]; omega), acc ++ [ff], B'.poke B hEHQ gEQ, W'.off nEQ, by rw [upd_same, List.map_append]; rfl, by rw [List.length_append]; show _ + 1 ≤ _; omega⟩
            · exact ⟨acc, B', W', hacc, by omega⟩
          rintro HQc ⟨accQ, BQc, WQc, haccQ, _⟩
          refine ⟨EQ, accQ, rfl, SqL.of haccQ, _, _, rfl, rfl, ?_⟩
          refine ⟨_, rfl, _, rfl, D, _, _, k, rfl, rfl, WQc.1.1, ixN_at (by rw [List.length_map]; omega), ?_⟩
          obtain ⟨BQd, nwR, hnR, WQd⟩ := put _ hnQ BQc WQc
          -- what lacks
          have hR8 : RowsAt K G7 t nh ra da sa rs ds ss := hR7
          refine ⟨_, rfl, _, rfl, _, rfl, G7, t, _, ra, da, sa, rs, ds, ss, _, _, rfl, BQd.wdP, BQd.tabs, hR8, hG.w5, hG.s20, pos, fun H10 g10 t10 => ?_⟩
          have y10 := BQd.start.pure g10 t10
          have W10 := WQd.step nD nP nF nV y10
          have B10 := BQd.trans y10
          obtain ⟨aR, haR⟩ := int_at (ns := nwR) (k := k) (by omega)
          refine ⟨_, rfl, _, rfl, .inl ⟨D, _, _, .int aR, rfl, rfl, SqL.of W10.1.1, haR, _, _, rfl, rfl, _, _, rfl, ?_⟩⟩
          refine ⟨_, rfl, b, l, _, _, rfl, by omega, by omega, B10.start, fun r1 H11 a1 c1' y11 => ?_⟩
          have W11 := W10.step nD nP nF nV y11
          have B11 := B10.trans y11
          refine ⟨by show 4 ≤ sizeLine; decide, fun p3 hp3 => ?_⟩
          have y12 := B11.start.alloc (o := .lst [.int 0, .int 0, .int 0, .int r1]) hp3
          have W12 := W11.step nD nP nF nV y12
          have B12 := B11.trans y12
          refine ⟨_, rfl, b, l, _, _, rfl, by omega, by omega, B12.start, fun r2 H13 a2 c2' y13 => ?_⟩
          have W13 := W12.step nD nP nF nV y13
          have B13 := B12.trans y13
          obtain ⟨v, hv, hvm⟩ := atI_mem (xs := [V.int 0, V.int 0, V.int 0, V.int r1]) (i := r2) a2 (by simpa using c2')
          obtain ⟨kk, rfl⟩ : ∃ kk : Int, v = .int kk := by
            simp at hvm
            rcases hvm with rfl | rfl
            · exact ⟨_, rfl⟩
            · exact ⟨_, rfl⟩
          refine .inl ⟨p3, _, _, _, rfl, rfl, SqL.of (B13.wd.same _ _ upd_same), hv, _, _, rfl, rfl, ?_⟩
          -- the vent
          obtain ⟨v2, hv2, ty, rfl, hty⟩ := paired_get' vr (List.getElem?_eq_getElem hkr)
          obtain ⟨c1, c2, lim, c4, ec⟩ := len4 (hG.w4 _ (List.getElem_mem hkr))
          rw [ec] at hty
          have hat : atI xr (0 + (k : Int)) = some (.ref ty) := by
            rw [show (0 + (k : Int)) = ((k : Nat) : Int) by omega]
            exact atI_nat hv2
          have sB := B13.gr.up.trans B13.wd.same
          refine ⟨_, rfl, .inl ⟨rfl, _, SqL.of W13.2.2.2.1⟩, _, rfl, _, rfl, .inr (.inl ⟨t, _, _, .ref ra, rfl, rfl, Same.tup sB hR.t, atI_nat (j := 1) rfl, _, rfl, .inl ⟨ra, xr, _, .ref ty, rfl, rfl, SqL.of (sB _ _ er), hat, .inr (.inl ⟨ty, _, _, .int lim, rfl, rfl, Same.tup sB hty, atI_nat (j := 2) rfl, _, _, rfl, ?_⟩)⟩⟩)⟩
          refine ⟨pv, _, _, rfl, rfl, W13.2.2.2.1, small1000 (by rw [List.length_map]; omega), ?_⟩
          have W14 : ∀ x : Int, Own4 _ (upd H13 pv (.lst (vn.map V.int ++ [.int x]))) D pp pf pv (nwR.map V.int) ys (fl.map V.int) ((vn ++ [x]).map V.int) := fun x => ⟨W13.1.off nDV, W13.2.1.off nPV, W13.2.2.1.off nFV, ⟨by rw [upd_same, List.map_append]; rfl, W13.2.2.2.2⟩⟩
          have hvx : ∀ x : Int, ∃ a, atI ((vn ++ [x]).map V.int) (0 + (k : Int)) = some (.int a) := fun x => int_at (by rw [List.length_append, hvn]; exact Nat.lt_succ_self k)
          refine ⟨_, rfl, _, rfl, .inl ⟨D, _, _, .int aR, rfl, rfl, SqL.of (W14 _).1.1, haR, _, rfl, _, rfl, .inl ⟨pv, _, _, _, rfl, rfl, SqL.of (W14 _).2.2.2.1, (hvx _).choose_spec, _, _, rfl, rfl, ?_⟩⟩⟩
          refine ⟨_, rfl, _, rfl, D, _, _, k, rfl, rfl, (W14 _).1.1, ixN_at (by rw [List.length_map]; omega), ?_⟩
          obtain ⟨BB, nw2, hn2, W15⟩ := put _ hnR (B13.poke B hVH W13.2.2.2.2) (W14 _)
          exact ⟨_, _, _, nw2, vn ++ [_], rfl, BB, W15.1, hn2, W15.2.1, hoursL_same y12.gr.up hpl7, W15.2.2.1, W15.2.2.2, by rw [List.length_append, hvn]; rfl⟩
        · rintro σ H7 ⟨o11, o12, G7, nw, vn, rfl, B7, oD7, hnl7, oP7, hpl7, oF7, oV7, hvn⟩
          rw [ln, hl3] at hvn
          have B8 := B7.close B hVH oV7.1 oV7.2
          have s8 := same_new (o := .lst (vn.map V.int)) oV7.2
          have oF8 := oF7.off2 (o := .lst (vn.map V.int)) nFV
          have oD8 := oD7.off2 (o := .lst (vn.map V.int)) nDV
          have oP8 := oP7.off2 (o := .lst (vn.map V.int)) nPV
          have B9 := B8.close B hFH oF8.1 oF8.2
          have s9 := same_new (o := .lst (fl.map V.int)) oF8.2
          have oD9 := oD8.off2 (o := .lst (fl.map V.int)) nDF
          have oP9 := oP8.off2 (o := .lst (fl.map V.int)) nPF
          refine ⟨_, rfl, .inl ⟨rfl, _, SqL.of oP9.1⟩, _, rfl, _, rfl, by show 2 ≤ sizeLine; decide, fun tt htt => ?_⟩
          have nDt : D ≠ tt := ne_of_none oD9.1 htt
          have nPt : pp ≠ tt := ne_of_none oP9.1 htt
          have B10 := B9.alloc (o := .tup [.ref pv, .ref pf]) htt
          have s10 := same_new (o := .tup [.ref pv, .ref pf]) (B9.wd.free htt)
          have oP10 : Own (upd (upd (upd G7 pv (.lst (vn.map V.int))) pf (.lst (fl.map V.int))) tt (.tup [.ref pv, .ref pf])) (upd H7 tt (.tup [.ref pv, .ref pf])) pp ys := (oP9.off nPt).off2 nPt
          have oD10 : Own (upd (upd (upd G7 pv (.lst (vn.map V.int))) pf (.lst (fl.map V.int))) tt (.tup [.ref pv, .ref pf])) (upd H7 tt (.tup [.ref pv, .ref pf])) D (nw.map V.int) := (oD9.off nDt).off2 nDt
          have hyl : ys.length = pl.length := Paired.length hpl7
          have hour : HourL K (upd (upd (upd G7 pv (.lst (vn.map V.int))) pf (.lst (fl.map V.int))) tt (.tup [.ref pv, .ref pf])) (.ref tt) (vn, fl) := ⟨tt, pv, pf, rfl, SqT.of upd_same, s10 _ _ (s9 _ _ upd_same), s10 _ _ upd_same⟩
          refine ⟨pp, ys, _, rfl, rfl, oP10.1, small1000 (by omega), ?_⟩
          refine ⟨_, _, _, _, _, _, _, _, _, _, nw, ys ++ [.ref tt], pl ++ [(vn, fl)], rfl, B10.poke B hPH oP10.2, oD10.off nDP, hnl7, ⟨upd_same, oP10.2⟩, paired_snoc (hoursL_same ((s8.trans s9).trans s10) hpl7) hour, by rw [List.length_append, hpn]; rfl, fun p hp => ?_⟩
          rcases List.mem_append.mp hp with z | z
          · exact hok p z
          · simp at z; rw [z]; exact ⟨hvn, hfl⟩
    · rintro σ H3 ⟨o4, o5, o6, o7, o8, o9, o10, o11, o12, G3, now, ys, pl, rfl, B3, oD3, hl3, oP3, hpl, hpn, hok⟩
      refine ⟨_, rfl, ?_⟩
      have B4 := B3.close B hPH oP3.1 oP3.2
      have s4 := same_new (o := .lst ys) oP3.2
      exact q pp _ H3 pl B4 ⟨ys, upd_same, hoursL_same s4 hpl⟩ ⟨by rw [hpn], hok⟩
end
end Cr
set_option Elab.async false
set_option linter.all false
set_option maxRecDepth 100000
set_option maxHeartbeats 4000000

namespace Cr
open PySem PySem.Spec PyProof.Rows L2
abbrev s_law_cost : Stmt := top 44
abbrev n_law_cost : List Str := ["_law_rows", "_law_plan", "_law_whole", "_law_vents", "_law_flows", "_law_k"]
abbrev a_law_cost : List Str := ["_law_rows", "_law_plan"]
theorem sc_law_cost : FnScope n_law_cost a_law_cost (defScope s_law_cost) := ⟨rfl, rfl, rfl, by decide +kernel, rfl, by decide +kernel, by decide +kernel⟩
theorem costOf_step {rs : List (List Int)} {pl : Hours} {i : Nat} {p : List Int × List Int} (e : pl[i]? = some p) : costOf rs (pl.take (i + 1)) = costOf rs (pl.take i) + ((p.1.zip (pricesOf rs)).map fun q => q.1 * q.2).sum := by
  unfold costOf
  rw [cost_step e, List.sum_append]
section
variable {P : Program} {w : World} {K : PySem.W.Frag} {mg : Str → Option Value} {base : Heap} {ad : Ad} {Ps : List Addr} {H : Hp}
structure RawLc (K : PySem.W.Frag) (mg : Str → Option Value) : Prop extends RawU K mg where
  lcost : DefR K mg "_law_cost" s_law_cost a_law_cost
def spLPlan (K : PySem.W.Frag) (Ps : List Addr) (R : Int → List (List Int) → List (List Int) → List (List Int) → Hours → Int) : Sp := fun vs H Q _ => ∃ (G : Hp) (t pa : Addr) (h : Int) (ra da sa : Addr) (rs ds ss : List (List Int)) (pl : Hours), vs = [.ref t, .ref pa] ∧ Wd Ps G H ∧ Tabs Ps H ∧ RowsAt K G t h ra da sa rs ds ss ∧ GoodH h rs ds ss ∧ PlanA K G pa pl ∧ fits h rs.length ds.length pl ∧
  ∀ H', Gr Ps G H G H' → Tabs Ps H' → Q (.int (R h rs ds ss pl)) H'
theorem c_lcost (T : RawLc K mg) : C8.Cal P w K mg base 1 "_law_cost" (spLPlan K Ps fun _ rs _ _ pl => costOf rs pl) [] := by
  refine T.lcost.cal sc_law_cost (fun vs H Q E h => ?_) (fun f cdv A outer s H vs Q E hr h => ?_)
  · obtain ⟨G, t, pa, h, ra, da, sa, rs, ds, ss, pl, rfl, _⟩ := h
    rfl
  · obtain ⟨G, t, pa, h, ra, da, sa, rs, ds, ss, pl, rfl, wd, tbs, hR, hG, ⟨xs, hxs, hpl⟩, hfit, q⟩ := h
    have b_len := T.b_len
    have b_sum := T.b_sum
    have b_range := T.b_range
    refine ⟨_, (pss_cons (ps_set (i := 2) sc_law_cost.nd rfl (Or.inl rfl) pe_int)
      (pss_cons (ps_for PassesOwn.never rfl (pi_list (pv 1)) (pg_tup rfl (pgs_cons (pg_name (i := 3) sc_law_cost.nd rfl (Or.inr rfl)) (pgs_cons (pg_name (i := 4) sc_law_cost.nd rfl (Or.inl rfl)) pgs_nil)))
        (pss_one (ps_set (i := 2) sc_law_cost.nd rfl (Or.inl rfl) (pe_op op_add (pv 2) (pe_callB (cr_sum rfl) (by rfl) b_sum (by decide +kernel) (pa_cons (pe_lc (own := [("_law_k", 5)]) rfl sc_law_cost.nd (pi_range1 (by rfl) b_range (pa_cons (pe_callB call_len_seq (by rfl) b_len (by decide +kernel) (pa_cons (pv 3 rfl (Or.inr (Or.inl rfl))) pa_nil)) pa_nil)) (blkOk_by (own := [("_law_k", 5)]) (N := n_law_cost) (sc := defScope s_law_cost) (by decide +kernel)) (fun _ _ _ _ _ => (pg_name (i := 5) sc_law_cost.nd rfl (Or.inl rfl) (Or.inr rfl))) (fun _ _ _ _ _ => pts_nil) (fun _ _ _ _ _ => (pe_op op_mul (pe_ix (ix_seqK (K := K) rfl) (pv 3 rfl (Or.inr (Or.inl rfl))) (pv 5 rfl (Or.inl rfl)) (fun _ _ => rfl)) (pe_ix (ix_seqK (K := K) rfl) (pe_ix (ix_seqK (K := K) rfl) (pe_ix (ix_seqK (K := K) rfl) (pv 0 rfl (Or.inr (Or.inl rfl))) pe_int (fun _ _ => rfl)) (pv 5 rfl (Or.inl rfl)) (fun _ _ => rfl)) pe_int (fun _ _ => rfl))))) pa_nil))))))
      (pss_one (ps_ret (pv 2))))), ?_⟩
    obtain ⟨xr, er, vr⟩ := id hR.r
    have lr : xr.length = rs.length := Paired.length vr
    have hr6 := hG.r6
    have hlen : xs.length = pl.length := Paired.length hpl
    have hok := hG.bad
    refine ⟨_, rfl, pa, rfl, ⟨xs, wd.same.seq hxs⟩, for_list (K := K) (a := pa) (xs := xs) (fun i σ H' => ∃ (o3 o4 o5 : Option V), σ = [some (.ref t), some (.ref pa), some (.int (costOf rs (pl.take i))), o3, o4, o5] ∧ Gr Ps G H G H' ∧ Tabs Ps H') ⟨_, _, _, rfl, Gr.refl wd, tbs⟩ (fun i σ H' _ ⟨_, _, _, _, g, _⟩ => g.wd.same.seq hxs) ?_ ?_⟩
    · rintro i v σ H1 hv ⟨o3, o4, o5, rfl, g, tb⟩
      obtain ⟨p, ep, ty, va, fa, rfl, hty, hva, hfa⟩ := paired_get hpl hv
      have hfp := hfit.2 p (List.mem_of_getElem? ep)
      have hz := costOf_step (rs := rs) ep
      refine ⟨ty, _, rfl, Same.tup g.wd.same hty, rfl, _, _, rfl, _, _, rfl, rfl, ?_⟩
      refine ⟨_, rfl, _, rfl, va, _, rfl, .inl (g.wd.same.seq hva), ?_⟩
      have lpm : (p.1.map V.int).length = p.1.length := List.length_map _
      refine ⟨((p.1.map V.int).length : Int), rfl, by omega, by omega, fun D hD => ?_⟩
      have hDP := tb.nin hD
      have hDH := g.free' hD
      have gD := g.wd.free hD
      refine lc_range (lo := 0) (n := (p.1.map V.int).length) (fun k H' => Gr Ps G H G H' ∧ Tabs Ps H' ∧ H' D = some (.lst ((((p.1.zip (pricesOf rs)).take k).map fun q => q.1 * q.2).map V.int))) ⟨g.trans (Gr.new g.wd hD), tb.upd hDP, upd_same⟩ ?_ ?_
      · rintro k H2 hk ⟨g2, tb2, hacc⟩
        have hkr : k < rs.length := by omega
        obtain ⟨v2, hv2, ty2, rfl, hty2⟩ := paired_get' vr (List.getElem?_eq_getElem hkr)
        obtain ⟨c1, c2, c3, pr, ec⟩ := len4 (hG.w4 _ (List.getElem_mem hkr))
        rw [ec] at hty2
        have hpr : (pricesOf rs)[k]? = some pr := by
          unfold pricesOf
          rw [List.getElem?_map, List.getElem?_eq_getElem hkr, ec]
          rfl
        have hpm := prices_ok hok hG.w4 (List.mem_of_getElem? hpr)
        have hkv : k < p.1.length := by omega
        have hvk : (p.1.map V.int)[k]? = some (.int p.1[k]) := by rw [List.getElem?_map, List.getElem?_eq_getElem hkv]; rfl
        have ezip := zip_at (List.getElem?_eq_getElem hkv) hpr
        have e0 : (0 + (k : Int)) = ((k : Nat) : Int) := by omega
        refine ⟨(by (repeat rw [wipe_set (by decide)]); exact wipe_wipe _ _), ?_⟩
        refine ⟨_, rfl, _, rfl, .inl ⟨va, _, _, .int p.1[k], rfl, rfl, g2.wd.same.seq hva, by rw [e0]; exact atI_nat hvk, _, rfl, .inr (.inl ⟨t, _, _, .ref ra, rfl, rfl, Same.tup g2.wd.same hR.t, atI_nat (j := 1) rfl, _, rfl, .inl ⟨ra, xr, _, .ref ty2, rfl, rfl, SqL.of (g2.wd.same _ _ er), by rw [e0]; exact atI_nat hv2, .inr (.inl ⟨ty2, _, _, .int pr, rfl, rfl, Same.tup g2.wd.same hty2, atI_nat (j := 3) rfl, _, _, rfl, rfl, .inr (by omega), ?_⟩)⟩⟩)⟩⟩
        refine ⟨_, hacc, small1000 (by rw [List.length_map, List.length_map, List.length_take]; omega), g2.poke hDH gD, tb2.upd hDP, ?_⟩
        rw [upd_same, List.take_add_one, ezip]
        simp
      · rintro H2 ⟨g2, tb2, hacc⟩
        rw [List.take_of_length_le (by rw [List.length_zip]; omega)] at hacc
        refine ⟨D, _, rfl, SqL.of hacc, _, _, rfl, rfl, ?_⟩
        rw [hz]
        exact ⟨_, _, _, rfl, g2, tb2⟩
    · rintro σ H1 ⟨o3, o4, o5, rfl, g, tb⟩
      rw [List.take_of_length_le (by omega)]
      exact ⟨_, rfl, q H1 g tb⟩
end
end Cr
set_option Elab.async false
set_option linter.all false
set_option maxRecDepth 100000
set_option maxHeartbeats 4000000

namespace Cr
open PySem PySem.Spec PyProof.Rows L2
abbrev s_law_airs : Stmt := top 43
abbrev n_law_airs : List Str := ["_law_rows", "_law_plan", "_law_now", "_law_found", "_law_hour", "_law_vents", "_law_flows", "_law_k", "_law_room"]
abbrev a_law_airs : List Str := ["_law_rows", "_law_plan"]
theorem sc_law_airs : FnScope n_law_airs a_law_airs (defScope s_law_airs) := ⟨rfl, rfl, rfl, by decide +kernel, rfl, by decide +kernel, by decide +kernel⟩
section
variable {P : Program} {w : World} {K : PySem.W.Frag} {mg : Str → Option Value} {base : Heap} {ad : Ad} {Ps : List Addr} {H : Hp}
structure RawLa (K : PySem.W.Frag) (mg : Str → Option Value) : Prop extends RawLc K mg where
  lairs : DefR K mg "_law_airs" s_law_airs a_law_airs
def spLAirs (K : PySem.W.Frag) (Ps : List Addr) : Sp := fun vs H Q _ => ∃ (G : Hp) (t pa : Addr) (h : Int) (ra da sa : Addr) (rs ds ss : List (List Int)) (pl : Hours), vs = [.ref t, .ref pa] ∧ Wd Ps G H ∧ Tabs Ps H ∧ RowsAt K G t h ra da sa rs ds ss ∧ GoodH h rs ds ss ∧ PlanA K G pa pl ∧ fits h rs.length ds.length pl ∧
  ∀ p xs G' H', H p = none → Gr Ps G H G' H' → G' p = none → H' p = some (.lst xs) → Paired (IntsL K G') xs (airsOf rs ds ss pl) → Tabs Ps H' → Q (.ref p) H'
theorem c_lairs (T : RawLa K mg) : C8.Cal P w K mg base 3 "_law_airs" (spLAirs K Ps) [] := by
  refine T.lairs.cal sc_law_airs (fun vs H Q E h => ?_) (fun f cdv A outer s H vs Q E hr h => ?_)
  · obtain ⟨G, t, pa, h, ra, da, sa, rs, ds, ss, pl, rfl, _⟩ := h
    rfl
  · obtain ⟨G, t, pa, h, ra, da, sa, rs, ds, ss, pl, rfl, wd, tbs, hR, hG, ⟨xs, hxs, hpl⟩, hfit, q⟩ := h
    have b_len := T.b_len
    have b_list := T.b_list
    have b_range := T.b_range
    have k__law_use : C8.Cal P w K mg base 2 "_law_use" (spLTwo K Ps useOf) [] := c_luse T.toRawU
    refine ⟨_, (pss_cons (ps_set (i := 2) sc_law_airs.nd rfl (Or.inr rfl) (pe_lc (own := [("_law_room", 8)]) rfl sc_law_airs.nd (pi_list (pe_ix ix_seq (pv 0 rfl (Or.inr (Or.inl rfl))) pe_int (fun _ _ => rfl))) (blkOk_by (own := [("_law_room", 8)]) (N := n_law_airs) (sc := defScope s_law_airs) (by decide +kernel)) (fun _ _ _ _ _ => (pg_name (i := 8) sc_law_airs.nd rfl (Or.inl rfl) (Or.inr rfl))) (fun _ _ _ _ _ => pts_nil) (fun _ _ _ _ _ => (pe_ix (ix_seqK (K := K) rfl) (pv 8 rfl (Or.inl rfl)) pe_int (fun _ _ => rfl)))))
      (pss_cons (ps_set (i := 3) sc_law_airs.nd rfl (Or.inl rfl) (pe_lst pa_nil))
      (pss_cons (ps_for PassesOwn.never rfl (pi_range1 (by rfl) b_range (pa_cons (pe_ix ix_seq (pv 0 rfl (Or.inr (Or.inl rfl))) pe_int (fun _ _ => rfl)) pa_nil)) (pg_name (i := 4) sc_law_airs.nd rfl (Or.inr rfl))
        (pss_cons (ps_asg (pe_ix ix_seq (pv 1) (pv 4 rfl (Or.inr (Or.inl rfl))) (fun _ _ => rfl)) (pg_tup rfl (pgs_cons (pg_name (i := 5) sc_law_airs.nd rfl (Or.inr rfl)) (pgs_cons (pg_name (i := 6) sc_law_airs.nd rfl (Or.inl rfl)) pgs_nil))))
      (pss_cons (ps_set (i := 2) sc_law_airs.nd rfl (Or.inr rfl) (pe_lc (own := [("_law_k", 7)]) rfl sc_law_airs.nd (pi_range1 (by rfl) b_range (pa_cons (pe_callB call_len_seq (by rfl) b_len (by decide +kernel) (pa_cons (pv 2 rfl (Or.inr (Or.inl rfl))) pa_nil)) pa_nil)) (blkOk_by (own := [("_law_k", 7)]) (N := n_law_airs) (sc := defScope s_law_airs) (by decide +kernel)) (fun _ _ _ _ _ => (pg_name (i := 7) sc_law_airs.nd rfl (Or.inl rfl) (Or.inr rfl))) (fun _ _ _ _ _ => pts_nil) (fun _ _ _ _ _ => (pe_op op_sub (pe_op op_add (pe_ix (ix_seqK (K := K) rfl) (pv 2 rfl (Or.inr (Or.inl rfl))) (pv 7 rfl (Or.inl rfl)) (fun _ _ => rfl)) (pe_ix (ix_seqK (K := K) rfl) (pv 5 rfl (Or.inr (Or.inl rfl))) (pv 7 rfl (Or.inl rfl)) (fun _ _ => rfl))) (C8.pe_c k__law_use hr (by decide) rfl (pa_cons (pv 0 rfl (Or.inr (Or.inl rfl))) (pa_cons (pv 7 rfl (Or.inl rfl)) (pa_cons (pv 4 rfl (Or.inr (Or.inl rfl))) pa_nil))))))))
      (pss_cons (ps_for PassesOwn.never rfl (pi_range1 (by rfl) b_range (pa_cons (pe_callB call_len_seq (by rfl) b_len (by decide +kernel) (pa_cons (pv 6) pa_nil)) pa_nil)) (pg_name (i := 7) sc_law_airs.nd rfl (Or.inl rfl))
        (pss_cons (ps_asg (pe_op op_sub (pe_ix ix_seq (pv 2 rfl (Or.inr (Or.inl rfl))) (pe_ix ix_seq (pe_ix ix_seq (pe_ix ix_seq (pv 0 rfl (Or.inr (Or.inl rfl))) pe_int (fun _ _ => rfl)) (pv 7) (fun _ _ => rfl)) pe_int (fun _ _ => rfl)) (fun _ _ => rfl)) (pe_ix ix_seq (pv 6) (pv 7) (fun _ _ => rfl))) (pg_sub (pv 2 rfl (Or.inr (Or.inl rfl))) (pe_ix ix_seq (pe_ix ix_seq (pe_ix ix_seq (pv 0 rfl (Or.inr (Or.inl rfl))) pe_int (fun _ _ => rfl)) (pv 7) (fun _ _ => rfl)) pe_int (fun _ _ => rfl)) set_list))
      (pss_one (ps_asg (pe_op op_add (pe_ix ix_seq (pv 2 rfl (Or.inr (Or.inl rfl))) (pe_ix ix_seq (pe_ix ix_seq (pe_ix ix_seq (pv 0 rfl (Or.inr (Or.inl rfl))) pe_int (fun _ _ => rfl)) (pv 7) (fun _ _ => rfl)) pe_int (fun _ _ => rfl)) (fun _ _ => rfl)) (pe_ix ix_seq (pv 6) (pv 7) (fun _ _ => rfl))) (pg_sub (pv 2 rfl (Or.inr (Or.inl rfl))) (pe_ix ix_seq (pe_ix ix_seq (pe_ix ix_seq (pv 0 rfl (Or.inr (Or.inl rfl))) pe_int (fun _ _ => rfl)) (pv 7) (fun _ _ => rfl)) pe_int (fun _ _ => rfl)) set_list)))))
      (pss_one (ps_expr (pe_bm PySem.F.plainAttrs_list PySem.F.slot_list_append PySem.F.type_list_append mt_append (pv 3) (pa_cons (pe_callTy call_list_of (by rfl) b_list (by decide +kernel) (pa_cons (pv 2 rfl (Or.inr (Or.inl rfl))) pa_nil)) pa_nil))))))))
      (pss_one (ps_ret (pv 3)))))), ?_⟩
    obtain ⟨xr, er, vr⟩ := id hR.r
    obtain ⟨xd, ed, vd⟩ := id hR.d
    have lr : xr.length = rs.length := Paired.length vr
    have ld : xd.length = ds.length := Paired.length vd
    have hr6 := hG.r6
    have hd8 := hG.d8
    have hh1 := hG.h1
    have hh12 := hG.h12
    have hlen : xs.length = pl.length := Paired.length hpl
    have pos : ∀ s ∈ ss, 0 ≤ s.getD 4 0 := fun s hs => stayOk_need (hG.sok s hs)
    refine ⟨_, rfl, .inr (.inl ⟨t, _, _, .ref ra, rfl, rfl, Same.tup wd.same hR.t, atI_nat (j := 1) rfl, ra, rfl, ⟨xr, SqL.of (wd.same _ _ er)⟩, fun D hD => ?_⟩)⟩
    have hDP := tbs.nin hD
    refine lc_list (K := K) (a := ra) (xs := xr) (fun i H' => Gr Ps G H G H' ∧ Tabs Ps H' ∧ H' D = some (.lst ((rs.take i).map fun r => V.int (r.getD 0 0)))) ⟨Gr.new wd hD, tbs.upd hDP, upd_same⟩ (fun i H' _ ⟨g, _⟩ => SqL.of (g.wd.same _ _ er)) ?_ ?_
    · rintro i y H' hy ⟨g, tb, hacc⟩
      obtain ⟨z, ez, ty, rfl, hty⟩ := paired_get vr hy
      obtain ⟨c1, c2, c3, c4, rfl⟩ := len4 (hG.w4 z (List.mem_of_getElem? ez))
      have hi : i < rs.length := (List.getElem?_eq_some_iff.mp ez).1
      refine ⟨(by (repeat rw [wipe_set (by decide)]); exact wipe_wipe _ _), ?_⟩
      refine ⟨_, rfl, .inr (.inl ⟨ty, _, _, .int c1, rfl, rfl, Same.tup g.wd.same hty, atI_nat (j := 0) rfl, ?_⟩)⟩
      refine ⟨_, hacc, small1000 (by rw [List.length_map, List.length_take]; omega), g.poke hD (wd.free hD), tb.upd hDP, ?_⟩
      rw [upd_same, List.take_add_one, ez]
      simp
    rintro H1 ⟨g1, t1, hacc⟩
    rw [lr, List.take_of_length_le (Nat.le_refl _)] at hacc
    refine ⟨Nat.zero_le _, fun pt hpt => ?_⟩
    have ptP : pt ∉ Ps := t1.nin hpt
    have ptH : H pt = none := g1.free' hpt
    have nDt : D ≠ pt := ne_of_none hacc hpt
    have g2 := g1.trans (Gr.new (o := .lst []) g1.wd hpt)
    have t2 := t1.same (same_new (o := .lst []) hpt)
    obtain ⟨nh, rfl⟩ : ∃ nh : Nat, h = (nh : Int) := ⟨h.toNat, by omega⟩
    have hpn : pl.length = nh := by have := hfit.1; omega
    refine ⟨_, rfl, .inr (.inl ⟨t, _, _, .int (nh : Int), rfl, rfl, Same.tup g2.wd.same hR.t, atI_nat (j := 0) rfl, ?_⟩)⟩
    refine ⟨(nh : Int), rfl, by omega, by omega, ?_⟩
    refine for_range (lo := 0) (n := nh) (fun i σ H' => ∃ (o4 o5 o6 o7 : Option V) (hd : Addr) (G' : Hp) (held : List Int) (ys : List V), σ = [some (.ref t), some (.ref pa), some (.ref hd), some (.ref pt), o4, o5, o6, o7, none] ∧ Gr Ps G H G' H' ∧ Tabs Ps H' ∧ H' pt = some (.lst ys) ∧ G' pt = none ∧ H' hd = some (.lst (held.map V.int)) ∧ hd ∉ Ps ∧ held.length = rs.length ∧ held = (airsOf rs ds ss (pl.take i)).getLast?.getD (rs.map fun r => r.getD 0 0) ∧ Paired (IntsL K G') ys (airsOf rs ds ss (pl.take i))) ?_ ?_ ?_
    · exact ⟨none, none, none, none, D, G, rs.map fun r => r.getD 0 0, [], rfl, g2, t2, upd_same, g1.wd.free hpt, by rw [upd_ne nDt, List.map_map]; exact hacc, hDP, List.length_map _, rfl, .nil⟩
    · rintro i σ H3 hi ⟨o4, o5, o6, o7, hd, G3, held, ys, rfl, g3, t3, et3, gt3, ehd, hdP, hlh, hlast, hys⟩
      have hip : i < pl.length := by omega
      obtain ⟨v, hv, ty, va, fa, rfl, hty, hva, hfa⟩ := paired_get' hpl (List.getElem?_eq_getElem hip)
      generalize hpe : pl[i] = p at hva hfa
      have ep : pl[i]? = some p := by rw [List.getElem?_eq_getElem hip, hpe]
      have hfp := hfit.2 p (List.mem_of_getElem? ep)
      have s3 := g3.up.trans g3.wd.same
      have e0i : (0 + (i : Int)) = ((i : Nat) : Int) := by omega
      refine ⟨_, rfl, _, rfl, .inl ⟨pa, xs, _, .ref ty, rfl, rfl, s3.seq hxs, by rw [e0i]; exact atI_nat hv, ty, _, rfl, Same.tup s3 hty, rfl, _, _, rfl, _, _, rfl, rfl, ?_⟩⟩
      -- now, ahead of the doors
      have lhm : (held.map V.int).length = held.length := List.length_map _
      refine ⟨_, rfl, hd, _, rfl, .inl (SqL.of ehd), ((held.map V.int).length : Int), rfl, by omega, by omega, fun D2 hD2 => ?_⟩
      have nD2 := ne_of_none ehd hD2
      have nt2 := ne_of_none et3 hD2
      have hD2P := t3.nin hD2
      have hD2H := g3.free' hD2
      have gD2 := g3.wd.free hD2
      refine lc_range (lo := 0) (n := (held.map V.int).length) (fun k H' => Gr Ps G H G3 H' ∧ Tabs Ps H' ∧ H' pt = some (.lst ys) ∧ H' hd = some (.lst (held.map V.int)) ∧ H' D2 = some (.lst (((leftOf ss (i : Int) held p.1).take k).map V.int))) ⟨g3.trans (Gr.new g3.wd hD2), t3.upd hD2P, by rw [upd_ne nt2]; exact et3, by rw [upd_ne nD2]; exact ehd, upd_same⟩ ?_ ?_
      · rintro k H4 hk ⟨g4, t4, et4, ehd4, hacc4⟩
        have hkh : k < held.length := by omega
        have hkv : k < p.1.length := by omega
        have e0k : (0 + (k : Int)) = ((k : Nat) : Int) := by omega
        have hl := left_at (ss := ss) (t := (i : Int)) (List.getElem?_eq_getElem hkh) (List.getElem?_eq_getElem hkv)
        have s4 := g4.up.trans g4.wd.same
        have hR4 : RowsAt K G3 t nh ra da sa rs ds ss := ⟨Same.tup g4.up hR.t, hR.r.same g4.up, hR.d.same g4.up, hR.s.same g4.up⟩
        refine ⟨(by (repeat rw [wipe_set (by decide)]); exact wipe_wipe _ _), ?_⟩
        refine ⟨_, rfl, _, rfl, .inl ⟨hd, _, _, .int held[k], rfl, rfl, SqL.of ehd4, by rw [e0k]; exact atI_nat (by rw [List.getElem?_map, List.getElem?_eq_getElem hkh]; rfl), _, rfl, _, rfl, .inl ⟨va, _, _, .int p.1[k], rfl, rfl, s4.seq hva, by rw [e0k]; exact atI_nat (by rw [List.getElem?_map, List.getElem?_eq_getElem hkv]; rfl), _, _, rfl, rfl, ?_⟩⟩⟩
        refine ⟨_, rfl, _, rfl, _, rfl, G3, t, _, ra, da, sa, rs, ds, ss, _, _, rfl, g4.wd, t4, hR4, hG.w5, hG.s20, pos, fun H5 g5 t5 => ⟨_, _, rfl, rfl, ?_⟩⟩
        have ptn : pt ∉ Ps := ptP
        refine ⟨_, g5.keep _ _ hD2P hacc4, small1000 (by rw [List.length_map, List.length_take, left_len ss _ (by omega)]; omega), (g4.trans g5).poke hD2H gD2, t5.upd hD2P, by rw [upd_ne nt2]; exact g5.keep _ _ ptP et4, by rw [upd_ne nD2]; exact g5.keep _ _ hdP ehd4, ?_⟩
        rw [upd_same, List.take_add_one, hl, e0k, e0i]
        simp
      rintro H4 ⟨g4, t4, et4, _, hacc4⟩
      rw [List.take_of_length_le (by rw [left_len ss _ (by omega)]; omega)] at hacc4
      -- the doors
      have lfm : (p.2.map V.int).length = p.2.length := List.length_map _
      have s4 := g4.up.trans g4.wd.same
      refine ⟨_, rfl, fa, _, rfl, .inl (s4.seq hfa), ?_⟩
      refine ⟨((p.2.map V.int).length : Int), rfl, by omega, by omega, ?_⟩
      refine for_range (lo := 0) (n := (p.2.map V.int).length) (fun k σ H' => ∃ (o7 : Option V), σ = [some (.ref t), some (.ref pa), some (.ref D2), some (.ref pt), some (.int (0 + (i : Int))), some (.ref va), some (.ref fa), o7, none] ∧ Gr Ps G H G3 H' ∧ Tabs Ps H' ∧ H' pt = some (.lst ys) ∧ H' D2 = some (.lst ((((ds.zip p.2).take k).foldl pushAir (leftOf ss (i : Int) held p.1)).map V.int))) ⟨_, rfl, g4, t4, et4, hacc4⟩ ?_ ?_
      · rintro k σ H5 hk ⟨o7, rfl, g5, t5, et5, hacc5⟩
        have hkd : k < ds.length := by omega
        have hkf : k < p.2.length := by omega
        have e0k : (0 + (k : Int)) = ((k : Nat) : Int) := by omega
        obtain ⟨v2, hv2, ty2, rfl, hty2⟩ := paired_get' vd (List.getElem?_eq_getElem hkd)
        obtain ⟨one, two, lim, ec⟩ := len3 (hG.w3 _ (List.getElem_mem hkd))
        have hdk := hG.dok _ (List.getElem_mem hkd)
        rw [ec] at hty2 hdk
        obtain ⟨⟨a1, _⟩, ⟨a2, _⟩, _, _, a5, a6⟩ := doorOk_inv2 hdk
        obtain ⟨on, rfl⟩ : ∃ on : Nat, one = (on : Int) := ⟨one.toNat, by omega⟩
        obtain ⟨tn, rfl⟩ : ∃ tn : Nat, two = (tn : Int) := ⟨two.toNat, by omega⟩
        have hzip := zip_at (show ds[k]? = some [(on : Int), (tn : Int), lim] by rw [List.getElem?_eq_getElem hkd, ec]) (List.getElem?_eq_getElem hkf)
        have hfold := fold_step (f := pushAir) (leftOf ss (i : Int) held p.1) hzip
        have hcl : (((ds.zip p.2).take k).foldl pushAir (leftOf ss (i : Int) held p.1)).length = rs.length := by
          rw [fold_len, left_len ss _ (by omega)]; exact hlh
        generalize ((ds.zip p.2).take k).foldl pushAir (leftOf ss (i : Int) held p.1) = cur at hacc5 hfold hcl
        have hat : atI xd (0 + (k : Int)) = some (.ref ty2) := by rw [e0k]; exact atI_nat hv2
        have s5 := g5.up.trans g5.wd.same
        have hfk : ∀ {H'}, Same G H' → SqL K H' fa (p.2.map V.int) := fun s => s.seq hfa
        have hfa2 : atI (p.2.map V.int) (0 + (k : Int)) = some (.int p.2[k]) := by rw [e0k]; exact atI_nat (by rw [List.getElem?_map, List.getElem?_eq_getElem hkf]; rfl)
        refine ⟨_, rfl, _, rfl, .inr (.inl ⟨t, _, _, .ref da, rfl, rfl, Same.tup (s5) hR.t, atI_nat (j := 2) rfl, _, rfl, .inl ⟨da, xd, _, .ref ty2, rfl, rfl, SqL.of ((s5) _ _ ed), hat, .inr (.inl ⟨ty2, _, _, .int (on : Int), rfl, rfl, Same.tup (s5) hty2, atI_nat (j := 0) rfl, .inl ⟨D2, _, _, .int (cur.getD on 0), rfl, rfl, SqL.of hacc5, ints_get (by omega), _, rfl, _, rfl, .inl ⟨fa, _, _, .int p.2[k], rfl, rfl, hfk s5, hfa2, _, _, rfl, rfl, ?_⟩⟩⟩)⟩⟩)⟩
        refine ⟨_, rfl, _, rfl, .inr (.inl ⟨t, _, _, .ref da, rfl, rfl, Same.tup (s5) hR.t, atI_nat (j := 2) rfl, _, rfl, .inl ⟨da, xd, _, .ref ty2, rfl, rfl, SqL.of ((s5) _ _ ed), hat, .inr (.inl ⟨ty2, _, _, .int (on : Int), rfl, rfl, Same.tup (s5) hty2, atI_nat (j := 0) rfl, D2, _, _, on, rfl, rfl, hacc5, ixN_nat (by rw [List.length_map]; omega), ?_⟩)⟩⟩)⟩
        have g6 := g5.poke (o := .lst ((cur.map V.int).set on (.int (cur.getD on 0 - p.2[k])))) hD2H gD2
        have s6 := g6.up.trans g6.wd.same
        have e6 : (upd H5 D2 (.lst ((cur.map V.int).set on (.int (cur.getD on 0 - p.2[k]))))) D2 = some (.lst ((cur.set on (cur.getD on 0 - p.2[k])).map V.int)) := by rw [upd_same, List.map_set]
        have l6 : (cur.set on (cur.getD on 0 - p.2[k])).length = rs.length := by rw [List.length_set]; exact hcl
        have epush : pushAir cur ([(on : Int), (tn : Int), lim], p.2[k]) = (cur.set on (cur.getD on 0 - p.2[k])).set tn ((cur.set on (cur.getD on 0 - p.2[k])).getD tn 0 + p.2[k]) := rfl
        refine ⟨_, rfl, _, rfl, .inr (.inl ⟨t, _, _, .ref da, rfl, rfl, Same.tup (s6) hR.t, atI_nat (j := 2) rfl, _, rfl, .inl ⟨da, xd, _, .ref ty2, rfl, rfl, SqL.of ((s6) _ _ ed), hat, .inr (.inl ⟨ty2, _, _, .int (tn : Int), rfl, rfl, Same.tup (s6) hty2, atI_nat (j := 1) rfl, .inl ⟨D2, _, _, .int ((cur.set on (cur.getD on 0 - p.2[k])).getD tn 0), rfl, rfl, SqL.of e6, ints_get (by omega), _, rfl, _, rfl, .inl ⟨fa, _, _, .int p.2[k], rfl, rfl, hfk s6, hfa2, _, _, rfl, rfl, ?_⟩⟩⟩)⟩⟩)⟩
        refine ⟨_, rfl, _, rfl, .inr (.inl ⟨t, _, _, .ref da, rfl, rfl, Same.tup (s6) hR.t, atI_nat (j := 2) rfl, _, rfl, .inl ⟨da, xd, _, .ref ty2, rfl, rfl, SqL.of ((s6) _ _ ed), hat, .inr (.inl ⟨ty2, _, _, .int (tn : Int), rfl, rfl, Same.tup (s6) hty2, atI_nat (j := 1) rfl, D2, _, _, tn, rfl, rfl, e6, ixN_nat (by rw [List.length_map]; omega), ?_⟩)⟩⟩)⟩
        refine ⟨_, rfl, g6.poke hD2H gD2, (t5.upd hD2P).upd hD2P, by rw [upd_ne nt2, upd_ne nt2]; exact et5, ?_⟩
        rw [upd_same, hfold, epush]
        refine congrArg (fun z => some (HO.lst z)) ?_
        have e1 : ∀ (l : List Int) (i : Nat) (a : Int), (l.map V.int).set i (.int a) = (l.set i a).map V.int := fun l i a => by rw [List.map_set]
        exact e1 _ tn _
      · rintro σ H5 ⟨o7, rfl, g5, t5, et5, hacc5⟩
        have hzl : (ds.zip p.2).length = (p.2.map V.int).length := by rw [List.length_zip]; omega
        rw [← hzl, List.take_of_length_le (Nat.le_refl _)] at hacc5
        replace hacc5 : H5 D2 = some (.lst ((airStep ds ss (i : Int) held p.1 p.2).map V.int)) := hacc5
        refine ⟨_, rfl, .inl ⟨rfl, _, SqL.of et5⟩, _, rfl, D2, _, rfl, .inl (SqL.of hacc5), fun pn hpn' => ?_⟩
        have ntn := ne_of_none et5 hpn'
        have nDn := ne_of_none hacc5 hpn'
        have g6 := g5.trans (Gr.alloc (o := .lst ((airStep ds ss (i : Int) held p.1 p.2).map V.int)) g5.wd hpn')
        have sN := same_new (o := .lst ((airStep ds ss (i : Int) held p.1 p.2).map V.int)) (g5.wd.free hpn')
        have hyl : ys.length = i := by
          rw [Paired.length hys]
          show (airsFrom ds ss 0 _ (pl.take i)).length = i
          rw [airs_len, List.length_take]
          omega
        have estep : airsOf rs ds ss (pl.take (i + 1)) = airsOf rs ds ss (pl.take i) ++ [airStep ds ss (i : Int) held p.1 p.2] := by
          unfold airsOf at hlast ⊢
          rw [List.take_add_one, ep]
          show airsFrom ds ss 0 _ (pl.take i ++ [p]) = _
          rw [airs_step, ← hlast, List.length_take]
          congr 3
          omega
        refine ⟨pt, _, _, rfl, rfl, by rw [upd_ne ntn]; exact et5, small1000 (by omega), ?_⟩
        refine ⟨_, _, _, _, D2, _, airStep ds ss (i : Int) held p.1 p.2, ys ++ [.ref pn], rfl, g6.poke ptH (by rw [upd_ne ntn]; exact gt3), (t5.same (same_new hpn')).upd ptP, upd_same, by rw [upd_ne ntn]; exact gt3, by rw [upd_ne nt2.symm, upd_ne nDn]; exact hacc5, hD2P, by rw [air_len _ _ _ _ _ _ (by omega)]; exact hlh, ?_, ?_⟩
        · rw [estep, List.getLast?_append]
          rfl
        · rw [estep]
          exact paired_snoc (ints_same sN hys) ⟨pn, rfl, SqL.of upd_same⟩
    · rintro σ H3 ⟨o4, o5, o6, o7, hd, G3, held, ys, rfl, g3, t3, et3, gt3, ehd, hdP, hlh, hlast, hys⟩
      rw [List.take_of_length_le (by omega)] at hys
      exact ⟨_, rfl, q pt ys G3 H3 ptH g3 gt3 et3 hys t3⟩
end
end Cr
set_option Elab.async false
set_option linter.all false
set_option maxRecDepth 100000
set_option maxHeartbeats 4000000

namespace Cr
open PySem PySem.Spec PyProof.Rows L2
abbrev s_law_fault : Stmt := top 45
abbrev n_law_fault : List Str := ["_law_rows", "_law_plan", "_law_table", "_law_hour", "_law_vents", "_law_flows", "_law_bad", "_law_k"]
abbrev a_law_fault : List Str := ["_law_rows", "_law_plan"]
theorem sc_law_fault : FnScope n_law_fault a_law_fault (defScope s_law_fault) := ⟨rfl, rfl, rfl, by decide +kernel, rfl, by decide +kernel, by decide +kernel⟩
section
variable {P : Program} {w : World} {K : PySem.W.Frag} {mg : Str → Option Value} {base : Heap} {ad : Ad} {Ps : List Addr} {H : Hp}
structure RawLf (K : PySem.W.Frag) (mg : Str → Option Value) : Prop extends RawLa K mg where
  lfault : DefR K mg "_law_fault" s_law_fault a_law_fault
  b_abs : mg "abs" = none
def spLFault (K : PySem.W.Frag) (Ps : List Addr) : Sp := fun vs H Q _ => ∃ (G : Hp) (t pa : Addr) (h : Int) (ra da sa : Addr) (rs ds ss : List (List Int)) (pl : Hours), vs = [.ref t, .ref pa] ∧ Wd Ps G H ∧ Tabs Ps H ∧ RowsAt K G t h ra da sa rs ds ss ∧ GoodH h rs ds ss ∧ PlanA K G pa pl ∧ fits h rs.length ds.length pl ∧
  (faultOf rs ds ss pl = none → ∀ H', Gr Ps G H G H' → Tabs Ps H' → Q .non H') ∧ ∀ z, faultOf rs ds ss pl = some z → ∀ p H', Gr Ps G H G H' → Tabs Ps H' → H' p = some (.tup [.int z.1, .int z.2]) → Q (.ref p) H'
theorem c_lfault (T : RawLf K mg) : C8.Cal P w K mg base 4 "_law_fault" (spLFault K Ps) [] := by
  refine T.lfault.cal sc_law_fault (fun vs H Q E h => ?_) (fun f cdv A outer s H vs Q E hr h => ?_)
  · obtain ⟨G, t, pa, h, ra, da, sa, rs, ds, ss, pl, rfl, _⟩ := h
    rfl
  · obtain ⟨G, t, pa, h, ra, da, sa, rs, ds, ss, pl, rfl, wd, tbs, hR, hG, ⟨xs, hxs, hpl⟩, hfit, q0, q1⟩ := h
    have b_len := T.b_len
    have b_range := T.b_range
    have b_abs := T.b_abs
    have k__law_airs : C8.Cal P w K mg base 3 "_law_airs" (spLAirs K Ps) [] := c_lairs T.toRawLa
    have k__law_least : C8.Cal P w K mg base 2 "_law_least" (spLTwo K Ps leastOf) [] := c_lleast T.toRawU
    refine ⟨_, (pss_cons (ps_set (i := 2) sc_law_fault.nd rfl (Or.inl rfl) (C8.pe_c k__law_airs hr (by decide) rfl (pa_cons (pv 0 rfl (Or.inr (Or.inl rfl))) (pa_cons (pv 1) pa_nil))))
      (pss_cons (ps_for PassesOwn.never rfl (pi_range1 (by rfl) b_range (pa_cons (pe_ix ix_seq (pv 0 rfl (Or.inr (Or.inl rfl))) pe_int (fun _ _ => rfl)) pa_nil)) (pg_name (i := 3) sc_law_fault.nd rfl (Or.inl rfl))
        (pss_cons (ps_asg (pe_ix ix_seq (pv 1) (pv 3) (fun _ _ => rfl)) (pg_tup rfl (pgs_cons (pg_name (i := 4) sc_law_fault.nd rfl (Or.inr rfl)) (pgs_cons (pg_name (i := 5) sc_law_fault.nd rfl (Or.inr rfl)) pgs_nil))))
      (pss_cons (ps_setLc (i := 6) (own := [("_law_k", 7)]) rfl sc_law_fault.nd rfl rfl (sw_true rfl rfl rfl (by decide +kernel)) (pi_range1 (by rfl) b_range (pa_cons (pe_callB call_len_seq (by rfl) b_len (by decide +kernel) (pa_cons (pv 4 rfl (Or.inr (Or.inl rfl))) pa_nil)) pa_nil)) (blkOk_by (own := [("_law_k", 7)]) (N := n_law_fault) (sc := defScope s_law_fault) (by decide +kernel)) (fun _ _ _ _ _ => (pg_name (i := 7) sc_law_fault.nd rfl (Or.inl rfl) (Or.inr rfl))) (fun _ _ _ _ _ => pts_one (PW.pt (pw_or (pt_cmpR op_lt (pe_ix (ix_seqK (K := K) rfl) (pv 4 rfl (Or.inr (Or.inl rfl))) (pv 7 rfl (Or.inl rfl)) (fun _ _ => rfl)) pe_int (nomark _)) (pw_or1 (pt_cmpR op_gt (pe_ix (ix_seqK (K := K) rfl) (pv 4 rfl (Or.inr (Or.inl rfl))) (pv 7 rfl (Or.inl rfl)) (fun _ _ => rfl)) (pe_ix (ix_seqK (K := K) rfl) (pe_ix (ix_seqK (K := K) rfl) (pe_ix (ix_seqK (K := K) rfl) (pv 0 rfl (Or.inr (Or.inl rfl))) pe_int (fun _ _ => rfl)) (pv 7 rfl (Or.inl rfl)) (fun _ _ => rfl)) pe_int (fun _ _ => rfl)) (nomark _)))))) (fun _ _ _ _ _ => (pv 7 rfl (Or.inl rfl))))
      (pss_cons (ps_set (i := 6) sc_law_fault.nd rfl (Or.inl rfl) (pe_op op_cat (pv 6) (pe_lc (own := [("_law_k", 7)]) rfl sc_law_fault.nd (pi_range1 (by rfl) b_range (pa_cons (pe_callB call_len_seq (by rfl) b_len (by decide +kernel) (pa_cons (pv 5 rfl (Or.inr (Or.inl rfl))) pa_nil)) pa_nil)) (blkOk_by (own := [("_law_k", 7)]) (N := n_law_fault) (sc := defScope s_law_fault) (by decide +kernel)) (fun _ _ _ _ _ => (pg_name (i := 7) sc_law_fault.nd rfl (Or.inl rfl) (Or.inr rfl))) (fun _ _ _ _ _ => pts_one (pt_cmpR op_gt (pe_callB call_abs (by rfl) b_abs (by decide +kernel) (pa_cons (pe_ix (ix_seqK (K := K) rfl) (pv 5 rfl (Or.inr (Or.inl rfl))) (pv 7 rfl (Or.inl rfl)) (fun _ _ => rfl)) pa_nil)) (pe_ix (ix_seqK (K := K) rfl) (pe_ix (ix_seqK (K := K) rfl) (pe_ix (ix_seqK (K := K) rfl) (pv 0 rfl (Or.inr (Or.inl rfl))) pe_int (fun _ _ => rfl)) (pv 7 rfl (Or.inl rfl)) (fun _ _ => rfl)) pe_int (fun _ _ => rfl)) (nomark _))) (fun _ _ _ _ _ => (pv 7 rfl (Or.inl rfl))))))
      (pss_cons (ps_if (pt_cmpR (op_neD hr.units) (pv 6) (pe_lst pa_nil) (nomark _))
        (pss_one (ps_ret (pe_tup (pa_cons (pv 3) (pa_cons (pe_un un_neg pe_int) pa_nil)))))
        pss_nil)
      (pss_one (ps_for PassesOwn.never rfl (pi_range1 (by rfl) b_range (pa_cons (pe_callB call_len_seq (by rfl) b_len (by decide +kernel) (pa_cons (pv 4 rfl (Or.inr (Or.inl rfl))) pa_nil)) pa_nil)) (pg_name (i := 7) sc_law_fault.nd rfl (Or.inl rfl))
        (pss_one (ps_if (PW.pt (pw_or (pt_cmpR op_lt (pe_ix ix_seq (pe_ix ix_seq (pv 2) (pv 3) (fun _ _ => rfl)) (pv 7) (fun _ _ => rfl)) (C8.pe_c k__law_least hr (by decide) rfl (pa_cons (pv 0 rfl (Or.inr (Or.inl rfl))) (pa_cons (pv 7) (pa_cons (pv 3) pa_nil)))) (nomark _)) (pw_or1 (pt_cmpR op_gt (pe_ix ix_seq (pe_ix ix_seq (pv 2) (pv 3) (fun _ _ => rfl)) (pv 7) (fun _ _ => rfl)) (pe_ix ix_seq (pe_ix ix_seq (pe_ix ix_seq (pv 0 rfl (Or.inr (Or.inl rfl))) pe_int (fun _ _ => rfl)) (pv 7) (fun _ _ => rfl)) pe_int (fun _ _ => rfl)) (nomark _)))))
        (pss_one (ps_ret (pe_tup (pa_cons (pv 3) (pa_cons (pv 7) pa_nil)))))
        pss_nil)))))))))
      (pss_one (ps_ret pe_non)))), ?_⟩
    obtain ⟨xr, er, vr⟩ := id hR.r
    obtain ⟨xd, ed, vd⟩ := id hR.d
    have lr : xr.length = rs.length := Paired.length vr
    have ld : xd.length = ds.length := Paired.length vd
    have hr6 := hG.r6
    have hd8 := hG.d8
    have hh1 := hG.h1
    have hh12 := hG.h12
    have hlen : xs.length = pl.length := Paired.length hpl
    have pos : ∀ s ∈ ss, 0 ≤ s.getD 4 0 := fun s hs => stayOk_need (hG.sok s hs)
    refine ⟨_, rfl, _, rfl, G, t, pa, h, ra, da, sa, rs, ds, ss, pl, rfl, wd, tbs, hR, hG, ⟨xs, hxs, hpl⟩, hfit, fun pb zs G1 H1 hpb g1 gpb1 epb hzs t1 => ?_⟩
    have pbP : pb ∉ Ps := tbs.nin hpb
    have hR1 : RowsAt K G1 t h ra da sa rs ds ss := ⟨Same.tup g1.up hR.t, hR.r.same g1.up, hR.d.same g1.up, hR.s.same g1.up⟩
    have sG := g1.up
    obtain ⟨nh, rfl⟩ : ∃ nh : Nat, h = (nh : Int) := ⟨h.toNat, by omega⟩
    have hpn : pl.length = nh := by have := hfit.1; omega
    refine ⟨_, rfl, .inr (.inl ⟨t, _, _, .int (nh : Int), rfl, rfl, Same.tup g1.wd.same hR1.t, atI_nat (j := 0) rfl, ?_⟩)⟩
    refine ⟨(nh : Int), rfl, by omega, by omega, ?_⟩
    let F := fun t : Nat => (hourBad rs ds ss (airsOf rs ds ss pl) pl t).map fun k => ((t : Int), k)
    refine for_range (lo := 0) (n := nh) (fun i σ H' => ∃ (o3 o4 o5 o6 o7 : Option V), σ = [some (.ref t), some (.ref pa), some (.ref pb), o3, o4, o5, o6, o7] ∧ Gr Ps G1 H1 G1 H' ∧ Tabs Ps H' ∧ (List.range i).findSome? F = none) ?_ ?_ ?_
    · exact ⟨none, none, none, none, none, rfl, Gr.refl g1.wd, t1, rfl⟩
    · rintro i σ H3 hi ⟨o3, o4, o5, o6, o7, rfl, g3, t3, hno⟩
      have hip : i < pl.length := by omega
      obtain ⟨v, hv, ty, va, fa, rfl, hty, hva, hfa⟩ := paired_get' hpl (List.getElem?_eq_getElem hip)
      generalize hpe : pl[i] = p at hva hfa
      have ep : pl[i]? = some p := by rw [List.getElem?_eq_getElem hip, hpe]
      have hpD : pl.getD i ([], []) = p := by rw [List.getD_eq_getElem?_getD, ep]; rfl
      have hfp := hfit.2 p (List.mem_of_getElem? ep)
      have e0i : (0 + (i : Int)) = ((i : Nat) : Int) := by omega
      have s3 := sG.trans g3.wd.same
      refine ⟨_, rfl, _, rfl, .inl ⟨pa, xs, _, .ref ty, rfl, rfl, s3.seq hxs, by rw [e0i]; exact atI_nat hv, ty, _, rfl, Same.tup s3 hty, rfl, _, _, rfl, _, _, rfl, rfl, ?_⟩⟩
      -- vents that don't keep their limits
      have lvm : (p.1.map V.int).length = p.1.length := List.length_map _
      have lfm : (p.2.map V.int).length = p.2.length := List.length_map _
      refine ⟨_, rfl, va, _, rfl, .inl (s3.seq hva), ((p.1.map V.int).length : Int), rfl, by omega, by omega, fun D hD => ?_⟩
      have hDP := t3.nin hD
      have hDH := g3.free' hD
      have gD := g3.wd.free hD
      refine lc_range (lo := 0) (n := (p.1.map V.int).length) (fun k H' => ∃ acc : List Int, Gr Ps G1 H1 G1 H' ∧ Tabs Ps H' ∧ H' D = some (.lst (acc.map V.int)) ∧ acc.length ≤ k ∧ (acc.isEmpty = ((rs.zip p.1).take k).all ventOk)) ⟨[], g3.trans (Gr.new g3.wd hD), t3.upd hDP, upd_same, Nat.le_refl _, rfl⟩ ?_ ?_
      · rintro k H4 hk ⟨acc, g4, t4, hacc, hal, hemp⟩
        have hkr : k < rs.length := by omega
        have hkv : k < p.1.length := by omega
        have e0k : (0 + (k : Int)) = ((k : Nat) : Int) := by omega
        obtain ⟨v2, hv2, ty2, rfl, hty2⟩ := paired_get' vr (List.getElem?_eq_getElem hkr)
        obtain ⟨c1, c2, lim, pr, ec⟩ := len4 (hG.w4 _ (List.getElem_mem hkr))
        rw [ec] at hty2
        have ezip := zip_at (show rs[k]? = some [c1, c2, lim, pr] by rw [List.getElem?_eq_getElem hkr, ec]) (List.getElem?_eq_getElem hkv)
        have hstep := all_step (f := ventOk) ezip
        have eok : ventOk ([c1, c2, lim, pr], p.1[k]) = (decide (0 ≤ p.1[k]) && decide (p.1[k] ≤ lim)) := rfl
        have hvk : atI (p.1.map V.int) (0 + (k : Int)) = some (.int p.1[k]) := by rw [e0k]; exact atI_nat (by rw [List.getElem?_map, List.getElem?_eq_getElem hkv]; rfl)
        have s4 := sG.trans g4.wd.same
        have add : ventOk ([c1, c2, lim, pr], p.1[k]) = false → ∃ acc' : List Int, Gr Ps G1 H1 G1 (upd H4 D (.lst (acc.map V.int ++ [.int (0 + (k : Int))]))) ∧ Tabs Ps (upd H4 D (.lst (acc.map V.int ++ [.int (0 + (k : Int))]))) ∧ (upd H4 D (.lst (acc.map V.int ++ [.int (0 + (k : Int))]))) D = some (.lst (acc'.map V.int)) ∧ acc'.length ≤ k + 1 ∧ (acc'.isEmpty = ((rs.zip p.1).take (k + 1)).all ventOk) := fun e =>
          ⟨acc ++ [0 + (k : Int)], g4.poke hDH gD, t4.upd hDP, by rw [upd_same, List.map_append]; rfl, by rw [List.length_append]; show _ + 1 ≤ _; omega, by rw [hstep, e, Bool.and_false]; cases acc <;> rfl⟩
        refine ⟨(by (repeat rw [wipe_set (by decide)]); exact wipe_wipe _ _), ?_⟩
        refine ⟨_, rfl, _, rfl, .inl ⟨va, _, _, .int p.1[k], rfl, rfl, s4.seq hva, hvk, _, _, rfl, rfl, _, rfl, ?_⟩⟩
        by_cases h0 : p.1[k] < 0
        · rw [decide_eq_true h0]
          refine iteT (iteT ?_)
          exact ⟨_, rfl, _, hacc, small1000 (by rw [List.length_map]; omega), add (by rw [eok, decide_eq_false (show ¬ 0 ≤ p.1[k] by omega), Bool.false_and])⟩
        · rw [decide_eq_false h0]
          refine iteF ?_
          refine ⟨_, rfl, _, rfl, .inl ⟨va, _, _, .int p.1[k], rfl, rfl, s4.seq hva, hvk, _, rfl, .inr (.inl ⟨t, _, _, .ref ra, rfl, rfl, Same.tup s4 hR.t, atI_nat (j := 1) rfl, _, rfl, .inl ⟨ra, xr, _, .ref ty2, rfl, rfl, SqL.of (s4 _ _ er), by rw [e0k]; exact atI_nat hv2, .inr (.inl ⟨ty2, _, _, .int lim, rfl, rfl, Same.tup s4 hty2, atI_nat (j := 2) rfl, _, _, rfl, rfl, _, rfl, ?_⟩)⟩⟩)⟩⟩
          refine ite2 (fun h1 => ?_) (fun h1 => ?_)
          · have h1' := of_decide_eq_true h1
            exact ⟨_, rfl, _, hacc, small1000 (by rw [List.length_map]; omega), add (by rw [eok, decide_eq_false (show ¬ p.1[k] ≤ lim by omega), Bool.and_false])⟩
          · have h1' : ¬ lim < p.1[k] := fun z => h1 (decide_eq_true z)
            exact ⟨acc, g4, t4, hacc, by omega, by rw [hstep, eok, decide_eq_true (show 0 ≤ p.1[k] by omega), decide_eq_true (show p.1[k] ≤ lim by omega), hemp]; simp⟩
      rintro H4 ⟨acc, g4, t4, hacc, hal, hemp⟩
      have hzl1 : (rs.zip p.1).length = (p.1.map V.int).length := by rw [List.length_zip]; omega
      rw [← hzl1, List.take_of_length_le (Nat.le_refl _)] at hemp
      -- flows that don't
      refine ⟨_, rfl, ?_⟩
      refine ⟨_, rfl, fa, _, rfl, .inl ((sG.trans g4.wd.same).seq hfa), ((p.2.map V.int).length : Int), rfl, by omega, by omega, fun D2 hD2 => ?_⟩
      have hD2P := t4.nin hD2
      have hD2H := g4.free' hD2
      have gD2 := g4.wd.free hD2
      have nD := ne_of_none hacc hD2
      refine lc_range (lo := 0) (n := (p.2.map V.int).length) (fun k H' => ∃ acc2 : List Int, Gr Ps G1 H1 G1 H' ∧ Tabs Ps H' ∧ H' D = some (.lst (acc.map V.int)) ∧ H' D2 = some (.lst (acc2.map V.int)) ∧ acc2.length ≤ k ∧ (acc2.isEmpty = ((ds.zip p.2).take k).all flowOk)) ⟨[], g4.trans (Gr.new g4.wd hD2), t4.upd hD2P, by rw [upd_ne nD]; exact hacc, upd_same, Nat.le_refl _, rfl⟩ ?_ ?_
      · rintro k H5 hk ⟨acc2, g5, t5, hac1, hac2, hal2, hemp2⟩
        have hkd : k < ds.length := by omega
        have hkf : k < p.2.length := by omega
        have e0k : (0 + (k : Int)) = ((k : Nat) : Int) := by omega
        obtain ⟨v2, hv2, ty2, rfl, hty2⟩ := paired_get' vd (List.getElem?_eq_getElem hkd)
        obtain ⟨c1, c2, lim, ec⟩ := len3 (hG.w3 _ (List.getElem_mem hkd))
        rw [ec] at hty2
        have ezip := zip_at (show ds[k]? = some [c1, c2, lim] by rw [List.getElem?_eq_getElem hkd, ec]) (List.getElem?_eq_getElem hkf)
        have hstep := all_step (f := flowOk) ezip
        have eok : flowOk ([c1, c2, lim], p.2[k]) = (decide (-lim ≤ p.2[k]) && decide (p.2[k] ≤ lim)) := rfl
        have hfk : atI (p.2.map V.int) (0 + (k : Int)) = some (.int p.2[k]) := by rw [e0k]; exact atI_nat (by rw [List.getElem?_map, List.getElem?_eq_getElem hkf]; rfl)
        have s5 := sG.trans g5.wd.same
        refine ⟨(by (repeat rw [wipe_set (by decide)]); exact wipe_wipe _ _), ?_⟩
        refine ⟨_, rfl, _, rfl, .inl ⟨fa, _, _, .int p.2[k], rfl, rfl, s5.seq hfa, hfk, _, rfl, _, rfl, .inr (.inl ⟨t, _, _, .ref da, rfl, rfl, Same.tup s5 hR.t, atI_nat (j := 2) rfl, _, rfl, .inl ⟨da, xd, _, .ref ty2, rfl, rfl, SqL.of (s5 _ _ ed), by rw [e0k]; exact atI_nat hv2, .inr (.inl ⟨ty2, _, _, .int lim, rfl, rfl, Same.tup s5 hty2, atI_nat (j := 2) rfl, _, _, rfl, rfl, _, rfl, ?_⟩)⟩⟩)⟩⟩
        have habs : (lim < if p.2[k] < 0 then -p.2[k] else p.2[k]) ↔ ¬ (-lim ≤ p.2[k] ∧ p.2[k] ≤ lim) := by
          by_cases z : p.2[k] < 0
          · rw [if_pos z]; omega
          · rw [if_neg z]; omega
        refine ite2 (fun h1 => ?_) (fun h1 => ?_)
        · have h1' := habs.mp (of_decide_eq_true h1)
          have e : flowOk ([c1, c2, lim], p.2[k]) = false := by
            rw [eok, ← Bool.decide_and]
            exact decide_eq_false h1'
          exact ⟨_, rfl, _, hac2, small1000 (by rw [List.length_map]; omega), acc2 ++ [0 + (k : Int)], g5.poke hD2H gD2, t5.upd hD2P, by rw [upd_ne nD]; exact hac1, by rw [upd_same, List.map_append]; rfl, by rw [List.length_append]; show _ + 1 ≤ _; omega, by rw [hstep, e, Bool.and_false]; cases acc2 <;> rfl⟩
        · have h1' : ¬ ¬ (-lim ≤ p.2[k] ∧ p.2[k] ≤ lim) := fun z => h1 (decide_eq_true (habs.mpr z))
          have e : flowOk ([c1, c2, lim], p.2[k]) = true := by
            rw [eok, ← Bool.decide_and]
            exact decide_eq_true (Decidable.not_not.mp h1')
          exact ⟨acc2, g5, t5, hac1, hac2, by omega, by rw [hstep, e, hemp2]; simp⟩
      rintro H5 ⟨acc2, g5, t5, hac1, hac2, hal2, hemp2⟩
      have hzl2 : (ds.zip p.2).length = (p.2.map V.int).length := by rw [List.length_zip]; omega
      rw [← hzl2, List.take_of_length_le (Nat.le_refl _)] at hemp2
      refine ⟨D, D2, _, _, rfl, rfl, hac1, hac2, Nat.le_trans (show _ ≤ 1000 by rw [List.length_map, List.length_map]; omega) (by decide), fun D3 hD3 => ?_⟩
      have g6 := g5.trans (Gr.new (o := .lst (acc.map V.int ++ acc2.map V.int)) g5.wd hD3)
      have t6 := t5.same (same_new (o := .lst (acc.map V.int ++ acc2.map V.int)) hD3)
      refine ⟨_, rfl, Nat.zero_le _, fun e6 he6 => ?_⟩
      have nD3 : D3 ≠ e6 := ne_of_none upd_same he6
      have g7 := g6.trans (Gr.new (o := .lst []) g6.wd he6)
      have t7 := t6.same (same_new (o := .lst []) he6)
      refine ⟨_, _, .lst (SqL.of (by rw [upd_ne nD3, upd_same, ← List.map_append])) (dpAll_ints (acc ++ acc2)), .lst (SqL.of upd_same) .nil, shaped_ints (acc ++ acc2), by decide +kernel, _, rfl, ?_⟩
      rw [eqv_nil]
      have hlim : (acc ++ acc2).isEmpty = limitsOk rs ds p := by
        show _ = ((rs.zip p.1).all ventOk && (ds.zip p.2).all flowOk)
        rw [← hemp, ← hemp2]
        cases acc <;> cases acc2 <;> rfl
      rw [hlim]
      cases hb : limitsOk rs ds p with
      | false =>
        refine iteT ?_
        refine ⟨_, rfl, _, rfl, by show 2 ≤ sizeLine; decide, fun p' hp' => ?_⟩
        have hF : F i = some ((i : Int), -1) := by
          show (hourBad rs ds ss (airsOf rs ds ss pl) pl i).map _ = _
          unfold hourBad
          rw [hpD, hb]
          rfl
        have gd := (g1.trans g7).down wd
        exact q1 ((i : Int), -1) (some_early hno hF _ hip) p' _ (gd.trans (Gr.new gd.wd hp')) (t7.same (same_new hp')) (by rw [upd_same, e0i])
      | true =>
        refine iteF ?_
        have hal3 : (airsOf rs ds ss pl).length = pl.length := airs_len ds ss pl 0 _
        have eai : (airsOf rs ds ss pl)[i]? = some ((airsOf rs ds ss pl).getD i []) := by
          rw [List.getD_eq_getElem?_getD, List.getElem?_eq_getElem (by omega)]
          rfl
        have hwi : ((airsOf rs ds ss pl).getD i []).length = rs.length := by
          have z := airs_wide ds ss pl 0 (rs.map fun r => r.getD 0 0) (fun p hp => by rw [List.length_map]; exact (hfit.2 p hp).1) _ (List.mem_of_getElem? eai)
          rw [List.length_map] at z
          exact z
        obtain ⟨iv, hiv, ia, rfl, hia⟩ := paired_get' hzs eai
        generalize hair : (airsOf rs ds ss pl).getD i [] = air at eai hwi hia
        have hFi : F i = ((List.range rs.length).findSome? (roomBad rs ss (i : Int) air)).map fun k => ((i : Int), k) := by
          show (hourBad rs ds ss (airsOf rs ds ss pl) pl i).map _ = _
          unfold hourBad
          rw [hpD, if_pos hb, hair]
        have hiv0 : atI zs (0 + (i : Int)) = some (.ref ia) := by rw [e0i]; exact atI_nat hiv
        refine ⟨_, rfl, va, _, rfl, .inl ((sG.trans g7.wd.same).seq hva), ((p.1.map V.int).length : Int), rfl, by omega, by omega, ?_⟩
        refine for_range (lo := 0) (n := (p.1.map V.int).length) (fun k σ H' => ∃ (o7 : Option V), σ = [some (.ref t), some (.ref pa), some (.ref pb), some (.int (0 + (i : Int))), some (.ref va), some (.ref fa), some (.ref D3), o7] ∧ Gr Ps G1 H1 G1 H' ∧ Tabs Ps H' ∧ (List.range k).findSome? (roomBad rs ss (i : Int) air) = none) ⟨_, rfl, g7, t7, rfl⟩ ?_ ?_
        · rintro k σ H8 hk ⟨o7', rfl, g8, t8, hno2⟩
          have hkr : k < rs.length := by omega
          have e0k : (0 + (k : Int)) = ((k : Nat) : Int) := by omega
          obtain ⟨v2, hv2, ty2, rfl, hty2⟩ := paired_get' vr (List.getElem?_eq_getElem hkr)
          obtain ⟨c1, most, lim, pr, ec⟩ := len4 (hG.w4 _ (List.getElem_mem hkr))
          rw [ec] at hty2
          have hz : rs.getD k [] = [c1, most, lim, pr] := by rw [List.getD_eq_getElem?_getD, List.getElem?_eq_getElem hkr, ec]; rfl
          have epb8 : H8 pb = some (.lst zs) := g8.keep _ _ pbP epb
          have hak : atI (air.map V.int) (0 + (k : Int)) = some (.int (air.getD k 0)) := by rw [e0k]; exact ints_get (by omega)
          have egood : roomGood rs ss (i : Int) air k = (decide (leastOf ss (k : Int) (i : Int) ≤ air.getD k 0) && decide (air.getD k 0 ≤ most)) := by
            unfold roomGood
            rw [hz]
            rfl
          refine ⟨_, rfl, _, rfl, .inl ⟨pb, zs, _, .ref ia, rfl, rfl, SqL.of epb8, hiv0, _, rfl, .inl ⟨ia, _, _, .int (air.getD k 0), rfl, rfl, g8.wd.same.seq hia, hak, ?_⟩⟩⟩
          refine ⟨_, rfl, _, rfl, _, rfl, G1, t, _, ra, da, sa, rs, ds, ss, _, _, rfl, g8.wd, t8, hR1, hG.w5, hG.s20, pos, fun H9 g9 t9 => ⟨_, _, rfl, rfl, _, rfl, ?_⟩⟩
          have gg := g8.trans g9
          rw [show leastOf ss (0 + (k : Int)) (0 + (i : Int)) = leastOf ss (k : Int) (i : Int) by rw [e0k, e0i]]
          have bad : roomGood rs ss (i : Int) air k = false → ∀ p', H9 p' = none → Q (.ref p') (upd H9 p' (.tup [.int (0 + (i : Int)), .int (0 + (k : Int))])) := fun eb p' hp' => by
            have e2 : roomBad rs ss (i : Int) air k = some (k : Int) := by
              unfold roomBad
              rw [eb]
              rfl
            have hF : F i = some ((i : Int), (k : Int)) := by
              rw [hFi, some_early hno2 e2 _ hkr]
              rfl
            have gd := (g1.trans gg).down wd
            rw [e0i, e0k]
            exact q1 ((i : Int), (k : Int)) (some_early hno hF _ hip) p' _ (gd.trans (Gr.new gd.wd hp')) (t9.same (same_new hp')) upd_same
          have epb9 : H9 pb = some (.lst zs) := gg.keep _ _ pbP epb
          have s9 := sG.trans gg.wd.same
          by_cases h0 : air.getD k 0 < leastOf ss (k : Int) (i : Int)
          · rw [decide_eq_true h0]
            refine iteT (iteT ?_)
            exact ⟨_, rfl, _, rfl, by show 2 ≤ sizeLine; decide, fun p' hp' => bad (by rw [egood, decide_eq_false (by omega), Bool.false_and]) p' hp'⟩
          · rw [decide_eq_false h0]
            refine iteF ?_
            refine ⟨_, rfl, _, rfl, .inl ⟨pb, zs, _, .ref ia, rfl, rfl, SqL.of epb9, hiv0, _, rfl, .inl ⟨ia, _, _, .int (air.getD k 0), rfl, rfl, gg.wd.same.seq hia, hak, _, rfl, .inr (.inl ⟨t, _, _, .ref ra, rfl, rfl, Same.tup s9 hR.t, atI_nat (j := 1) rfl, _, rfl, .inl ⟨ra, xr, _, .ref ty2, rfl, rfl, SqL.of (s9 _ _ er), by rw [e0k]; exact atI_nat hv2, .inr (.inl ⟨ty2, _, _, .int most, rfl, rfl, Same.tup s9 hty2, atI_nat (j := 1) rfl, _, _, rfl, rfl, _, rfl, ?_⟩)⟩⟩)⟩⟩⟩
            by_cases h1 : most < air.getD k 0
            · rw [decide_eq_true h1]
              refine iteT ?_
              exact ⟨_, rfl, _, rfl, by show 2 ≤ sizeLine; decide, fun p' hp' => bad (by rw [egood, decide_eq_false (show ¬ air.getD k 0 ≤ most by omega), Bool.and_false]) p' hp'⟩
            · rw [decide_eq_false h1]
              refine iteF ⟨_, rfl, gg, t9, some_step hno2 ?_⟩
              unfold roomBad
              rw [egood, decide_eq_true (show leastOf ss (k : Int) (i : Int) ≤ air.getD k 0 by omega), decide_eq_true (show air.getD k 0 ≤ most by omega)]
              rfl
        · rintro σ H8 ⟨o7', rfl, g8, t8, hno2⟩
          rw [show (p.1.map V.int).length = rs.length by omega] at hno2
          refine ⟨_, _, _, _, _, rfl, g8, t8, some_step hno ?_⟩
          rw [hFi, hno2]
          rfl
    · rintro σ H3 ⟨o3, o4, o5, o6, o7, rfl, g3, t3, hno⟩
      rw [← hpn] at hno
      exact q0 hno H3 ((g1.trans g3).down wd) t3
end
end Cr
set_option Elab.async false
set_option linter.all false
set_option maxRecDepth 100000
set_option maxHeartbeats 4000000

namespace Cr
open PySem PySem.Spec PyProof.Rows L2
abbrev s_law_changed : Stmt := top 47
abbrev n_law_changed : List Str := ["_law_box", "_law_plan", "_law_hour", "_law_vents", "_law_flows", "_law_k"]
abbrev a_law_changed : List Str := ["_law_box", "_law_plan"]
theorem sc_law_changed : FnScope n_law_changed a_law_changed (defScope s_law_changed) := ⟨rfl, rfl, rfl, by decide +kernel, rfl, by decide +kernel, by decide +kernel⟩
section
variable {P : Program} {w : World} {K : PySem.W.Frag} {mg : Str → Option Value} {base : Heap} {ad : Ad} {Ps : List Addr} {H : Hp}
structure RawCh (K : PySem.W.Frag) (mg : Str → Option Value) : Prop extends RawLf K mg where
  lchg : DefR K mg "_law_changed" s_law_changed a_law_changed
/-- as many hours, vents and flows -/
def alikeP (nr nd : Nat) (pl pl' : Hours) : Prop := pl'.length = pl.length ∧ ∀ p ∈ pl', p.1.length = nr ∧ p.2.length = nd
def spChanged (K : PySem.W.Frag) (Ps : List Addr) : Sp := fun vs H Q _ => ∃ (b l : Addr) (G : Hp) (pa : Addr) (pl : Hours) (nr nd : Nat), vs = [.ref b, .ref pa] ∧ Bx Ps b l G H G H ∧ PlanA K G pa pl ∧ 1 ≤ pl.length ∧ pl.length < 32 ∧ 1 ≤ nr ∧ nr < 32 ∧ nd < 32 ∧ (∀ p ∈ pl, p.1.length = nr ∧ p.2.length = nd) ∧
  ∀ p G' H' pl', Bx Ps b l G H G' H' → PlanA K G' p pl' → alikeP nr nd pl pl' → Q (.ref p) H'
theorem c_changed (T : RawCh K mg) : C8.Cal P w K mg base 2 "_law_changed" (spChanged K Ps) [] := by
  refine T.lchg.cal sc_law_changed (fun vs H Q E h => ?_) (fun f cdv A outer s H vs Q E hr h => ?_)
  · obtain ⟨b, l, G, pa, pl, nr, nd, rfl, _⟩ := h
    rfl
  · obtain ⟨b, l, G, pa, pl, nr, nd, rfl, B, ⟨xs, hxs, hpl⟩, p1, p32, r1, r32, d32, hok, q⟩ := h
    have b_len := T.b_len
    have k__law_take : C8.Cal P w K mg base 1 "_law_take" (spTake Ps) [] := c_take T.toRawL
    refine ⟨_, (pss_cons (ps_set (i := 2) sc_law_changed.nd rfl (Or.inl rfl) (C8.pe_c k__law_take hr (by decide) rfl (pa_cons (pv 0) (pa_cons (pe_callB call_len_seq (by rfl) b_len (by decide +kernel) (pa_cons (pv 1) pa_nil)) pa_nil))))
      (pss_cons (ps_asg (pe_ix ix_seq (pv 1) (pv 2) (fun _ _ => rfl)) (pg_tup rfl (pgs_cons (pg_name (i := 3) sc_law_changed.nd rfl (Or.inl rfl)) (pgs_cons (pg_name (i := 4) sc_law_changed.nd rfl (Or.inl rfl)) pgs_nil))))
      (pss_cons (ps_if (PW.pt (pw_and (pt_cmpR (op_neD hr.units) (pv 4) (pe_lst pa_nil) (nomark _)) (pw_and1 (pt_cmpR op_eq (C8.pe_c k__law_take hr (by decide) rfl (pa_cons (pv 0) (pa_cons pe_int pa_nil))) pe_int (nomark _)))))
        (pss_cons (ps_set (i := 5) sc_law_changed.nd rfl (Or.inl rfl) (C8.pe_c k__law_take hr (by decide) rfl (pa_cons (pv 0) (pa_cons (pe_callB call_len_seq (by rfl) b_len (by decide +kernel) (pa_cons (pv 4) pa_nil)) pa_nil))))
      (pss_one (ps_set (i := 4) sc_law_changed.nd rfl (Or.inl rfl) (pe_op op_cat (pe_op op_cat (pe_slice sl_list (pv 4) po_none (po_some (pv 5))) (pe_lst (pa_cons (pe_op op_add (pe_ix ix_seq (pv 4) (pv 5) (fun _ _ => rfl)) (pe_ix ix_seq (pe_lst (pa_cons pe_int (pa_cons (pe_un un_neg pe_int) (pa_cons pe_int (pa_cons (pe_un un_neg pe_int) pa_nil))))) (C8.pe_c k__law_take hr (by decide) rfl (pa_cons (pv 0) (pa_cons pe_int pa_nil))) (fun _ _ => rfl))) pa_nil))) (pe_slice sl_list (pv 4) (po_some (pe_op op_add (pv 5) pe_int)) po_none)))))
        (pss_cons (ps_set (i := 5) sc_law_changed.nd rfl (Or.inl rfl) (C8.pe_c k__law_take hr (by decide) rfl (pa_cons (pv 0) (pa_cons (pe_callB call_len_seq (by rfl) b_len (by decide +kernel) (pa_cons (pv 3) pa_nil)) pa_nil))))
      (pss_one (ps_set (i := 3) sc_law_changed.nd rfl (Or.inl rfl) (pe_op op_cat (pe_op op_cat (pe_slice sl_list (pv 3) po_none (po_some (pv 5))) (pe_lst (pa_cons (pe_op op_add (pe_ix ix_seq (pv 3) (pv 5) (fun _ _ => rfl)) (pe_ix ix_seq (pe_lst (pa_cons pe_int (pa_cons (pe_un un_neg pe_int) (pa_cons pe_int (pa_cons pe_int pa_nil))))) (C8.pe_c k__law_take hr (by decide) rfl (pa_cons (pv 0) (pa_cons pe_int pa_nil))) (fun _ _ => rfl))) pa_nil))) (pe_slice sl_list (pv 3) (po_some (pe_op op_add (pv 5) pe_int)) po_none))))))
      (pss_one (ps_ret (pe_op op_cat (pe_op op_cat (pe_slice sl_list (pv 1) po_none (po_some (pv 2))) (pe_lst (pa_cons (pe_tup (pa_cons (pv 3) (pa_cons (pv 4) pa_nil))) pa_nil))) (pe_slice sl_list (pv 1) (po_some (pe_op op_add (pv 2) pe_int)) po_none))))))), ?_⟩
    have hlen : xs.length = pl.length := Paired.length hpl
    refine ⟨_, rfl, _, rfl, pa, xs, rfl, .inl (B.wd.same.seq hxs), b, l, _, _, rfl, by omega, by omega, B.start, fun hi H1 a1 c1 B1 => ?_⟩
    obtain ⟨i, rfl⟩ : ∃ i : Nat, hi = (i : Int) := ⟨hi.toNat, by omega⟩
    have hip : i < pl.length := by omega
    obtain ⟨v, hv, ty, va, fa, rfl, hty, hva, hfa⟩ := paired_get' hpl (List.getElem?_eq_getElem hip)
    generalize hpe : pl[i] = p at hva hfa
    have ep : pl[i]? = some p := by rw [List.getElem?_eq_getElem hip, hpe]
    have hfp := hok p (List.mem_of_getElem? ep)
    refine ⟨_, rfl, _, rfl, .inl ⟨pa, xs, _, .ref ty, rfl, rfl, B1.wd.same.seq hxs, atI_nat hv, ty, _, rfl, Same.tup B1.wd.same hty, rfl, _, _, rfl, _, _, rfl, rfl, ?_⟩⟩
    dsimp only
    refine seq_ifS (fun σ H' => ∃ (o5 : Option V) (va' fa' : Addr) (v f : List Int) (G' : Hp), σ = [some (.ref b), some (.ref pa), some (.int (i : Int)), some (.ref va'), some (.ref fa'), o5] ∧ Bx Ps b l G H G' H' ∧ SqL K G' va' (v.map V.int) ∧ SqL K G' fa' (f.map V.int) ∧ v.length = nr ∧ f.length = nd) ?_ ?_
    rotate_left
    · intro κ hκ
      refine ⟨_, rfl, Nat.zero_le _, fun e he => ?_⟩
      have Be := B1.new (o := .lst []) he
      refine ⟨_, _, .lst (Be.wd.same.seq hfa) (dpAll_ints p.2), .lst (SqL.of upd_same) .nil, shaped_ints p.2, by decide +kernel, _, rfl, ?_⟩
      rw [eqv_nil]
      cases hb : p.2.isEmpty with
      | true =>
        refine iteF (iteF ?_)
        have lm : (p.1.map V.int).length = p.1.length := List.length_map _
        refine ⟨_, rfl, _, rfl, va, _, rfl, .inl ((Be).wd.same.seq hva), b, l, _, _, rfl, by omega, by omega, (Be).start, fun ki H2 a2 c2 B2 => ?_⟩
        replace B2 := (Be).trans B2
        obtain ⟨k, rfl⟩ : ∃ k : Nat, ki = (k : Int) := ⟨ki.toNat, by omega⟩
        have hk : k < p.1.length := by omega
        refine ⟨_, rfl, _, rfl, _, rfl, va, _, rfl, B2.wd.same.seq hva, fun s1 hs1 => ?_⟩
        have B3 := B2.trans (B2.start.alloc (o := .lst (cutV (p.1.map V.int) none (some (k : Int)))) hs1)
        have u3 := same_new (o := .lst (cutV (p.1.map V.int) none (some (k : Int)))) (B2.wd.free hs1)
        have hn : atI (p.1.map V.int) (k : Int) = some (.int (p.1.getD k 0)) := ints_get hk
        refine ⟨_, rfl, _, rfl, .inl ⟨va, _, _, .int (p.1.getD k 0), rfl, rfl, B3.wd.same.seq (u3.seq hva), hn, ?_⟩⟩
        refine ⟨_, rfl, by show 4 ≤ sizeLine; decide, fun s2 hs2 => ?_⟩
        have B4 := B3.trans (B3.start.alloc (o := .lst [.int 1, .int (-1), .int 7, .int (1000)]) hs2)
        have u4 := same_new (o := .lst [.int 1, .int (-1), .int 7, .int (1000)]) (B3.wd.free hs2)
        refine ⟨_, rfl, b, l, _, _, rfl, by omega, by omega, B4.start, fun r H5 a5 c5 B5 => ?_⟩
        replace B5 := B4.trans B5
        obtain ⟨v, hv, hvm⟩ := atI_mem (xs := [V.int 1, V.int (-1), V.int 7, V.int (1000)]) (i := r) a5 (by simpa using c5)
        obtain ⟨z, rfl⟩ : ∃ z : Int, v = .int z := by
          simp at hvm
          rcases hvm with rfl | rfl | rfl | rfl <;> exact ⟨_, rfl⟩
        refine .inl ⟨s2, _, _, _, rfl, rfl, SqL.of (B5.wd.same _ _ upd_same), hv, _, _, rfl, rfl, by show 1 ≤ sizeLine; decide, fun s3 hs3 => ?_⟩
        have B6 := B5.trans (B5.start.alloc (o := .lst [.int (p.1.getD k 0 + z)]) hs3)
        have u6 := same_new (o := .lst [.int (p.1.getD k 0 + z)]) (B5.wd.free hs3)
        have e1 := B6.wd.same _ _ (u6 _ _ (u4 _ _ (upd_same (H := G) (a := s1) (o := .lst (cutV (p.1.map V.int) none (some (k : Int)))))))
        refine ⟨s1, s3, _, _, rfl, rfl, e1, upd_same, Nat.le_trans (show _ ≤ 1000 by have := cut_small (xs := p.1.map V.int) (lo := none) (hi := some (k : Int)) (by omega); show _ + 1 ≤ _; omega) (by decide), fun s4 hs4 => ?_⟩
        have B7 := B6.trans (B6.start.alloc (o := .lst (cutV (p.1.map V.int) none (some (k : Int)) ++ [.int (p.1.getD k 0 + z)])) hs4)
        have u7 := same_new (o := .lst (cutV (p.1.map V.int) none (some (k : Int)) ++ [.int (p.1.getD k 0 + z)])) (B6.wd.free hs4)
        have uA := ((u3.trans u4).trans u6).trans u7
        refine ⟨_, rfl, _, rfl, _, _, rfl, rfl, _, rfl, va, _, rfl, B7.wd.same.seq (uA.seq hva), fun s5 hs5 => ?_⟩
        have n45 : s4 ≠ s5 := ne_of_none upd_same hs5
        have B8 := B7.trans (B7.start.alloc (o := .lst (cutV (p.1.map V.int) (some ((k : Int) + 1)) none)) hs5)
        have u8 := same_new (o := .lst (cutV (p.1.map V.int) (some ((k : Int) + 1)) none)) (B7.wd.free hs5)
        refine ⟨s4, s5, _, _, rfl, rfl, by rw [upd_ne n45, upd_same], upd_same, Nat.le_trans (show _ ≤ 1000 by have := cut_small (xs := p.1.map V.int) (lo := none) (hi := some (k : Int)) (by omega); have := cut_small (xs := p.1.map V.int) (lo := some ((k : Int) + 1)) (hi := none) (by omega); rw [List.length_append]; show _ + 1 + _ ≤ _; omega) (by decide), fun s6 hs6 => ?_⟩
        obtain ⟨ns', hnl, hne⟩ := spliced (p.1.getD k 0 + z) hk
        have B9 := B8.trans (B8.start.alloc (o := .lst (ns'.map V.int)) hs6)
        have u9 := same_new (o := .lst (ns'.map V.int)) (B8.wd.free hs6)
        have uB := (uA.trans u8).trans u9
        rw [hne]
        exact hκ _ _ ⟨_, s6, fa, ns', p.2, _, rfl, B9, SqL.of upd_same, uB.seq hfa, hnl.trans hfp.1, hfp.2⟩
      | false =>
        have hpos : 0 < p.2.length := by
          cases hq : p.2 with
          | nil => rw [hq] at hb; cases hb
          | cons a r => exact Nat.succ_pos _
        refine iteT ?_
        refine ⟨_, rfl, b, l, _, _, rfl, by omega, by omega, Be.start, fun r1 Hr ar cr Br => ⟨rfl, _, rfl, ?_⟩⟩
        have Bo := Be.trans Br
        refine ite2 (fun _ => ?_) (fun _ => ?_)
        · have hgo := hpos
          have lm : (p.2.map V.int).length = p.2.length := List.length_map _
          refine ⟨_, rfl, _, rfl, fa, _, rfl, .inl ((Bo).wd.same.seq hfa), b, l, _, _, rfl, by omega, by omega, (Bo).start, fun ki H2 a2 c2 B2 => ?_⟩
          replace B2 := (Bo).trans B2
          obtain ⟨k, rfl⟩ : ∃ k : Nat, ki = (k : Int) := ⟨ki.toNat, by omega⟩
          have hk : k < p.2.length := by omega
          refine ⟨_, rfl, _, rfl, _, rfl, fa, _, rfl, B2.wd.same.seq hfa, fun s1 hs1 => ?_⟩
          have B3 := B2.trans (B2.start.alloc (o := .lst (cutV (p.2.map V.int) none (some (k : Int)))) hs1)
          have u3 := same_new (o := .lst (cutV (p.2.map V.int) none (some (k : Int)))) (B2.wd.free hs1)
          have hn : atI (p.2.map V.int) (k : Int) = some (.int (p.2.getD k 0)) := ints_get hk
          refine ⟨_, rfl, _, rfl, .inl ⟨fa, _, _, .int (p.2.getD k 0), rfl, rfl, B3.wd.same.seq (u3.seq hfa), hn, ?_⟩⟩
          refine ⟨_, rfl, _, rfl, by show 4 ≤ sizeLine; decide, fun s2 hs2 => ?_⟩
          have B4 := B3.trans (B3.start.alloc (o := .lst [.int 1, .int (-1), .int 7, .int (-1000)]) hs2)
          have u4 := same_new (o := .lst [.int 1, .int (-1), .int 7, .int (-1000)]) (B3.wd.free hs2)
          refine ⟨_, rfl, b, l, _, _, rfl, by omega, by omega, B4.start, fun r H5 a5 c5 B5 => ?_⟩
          replace B5 := B4.trans B5
          obtain ⟨v, hv, hvm⟩ := atI_mem (xs := [V.int 1, V.int (-1), V.int 7, V.int (-1000)]) (i := r) a5 (by simpa using c5)
          obtain ⟨z, rfl⟩ : ∃ z : Int, v = .int z := by
            simp at hvm
            rcases hvm with rfl | rfl | rfl | rfl <;> exact ⟨_, rfl⟩
          refine .inl ⟨s2, _, _, _, rfl, rfl, SqL.of (B5.wd.same _ _ upd_same), hv, _, _, rfl, rfl, by show 1 ≤ sizeLine; decide, fun s3 hs3 => ?_⟩
          have B6 := B5.trans (B5.start.alloc (o := .lst [.int (p.2.getD k 0 + z)]) hs3)
          have u6 := same_new (o := .lst [.int (p.2.getD k 0 + z)]) (B5.wd.free hs3)
          have e1 := B6.wd.same _ _ (u6 _ _ (u4 _ _ (upd_same (H := G) (a := s1) (o := .lst (cutV (p.2.map V.int) none (some (k : Int)))))))
          refine ⟨s1, s3, _, _, rfl, rfl, e1, upd_same, Nat.le_trans (show _ ≤ 1000 by have := cut_small (xs := p.2.map V.int) (lo := none) (hi := some (k : Int)) (by omega); show _ + 1 ≤ _; omega) (by decide), fun s4 hs4 => ?_⟩
          have B7 := B6.trans (B6.start.alloc (o := .lst (cutV (p.2.map V.int) none (some (k : Int)) ++ [.int (p.2.getD k 0 + z)])) hs4)
          have u7 := same_new (o := .lst (cutV (p.2.map V.int) none (some (k : Int)) ++ [.int (p.2.getD k 0 + z)])) (B6.wd.free hs4)
          have uA := ((u3.trans u4).trans u6).trans u7
          refine ⟨_, rfl, _, rfl, _, _, rfl, rfl, _, rfl, fa, _, rfl, B7.wd.same.seq (uA.seq hfa), fun s5 hs5 => ?_⟩
          have n45 : s4 ≠ s5 := ne_of_none upd_same hs5
          have B8 := B7.trans (B7.start.alloc (o := .lst (cutV (p.2.map V.int) (some ((k : Int) + 1)) none)) hs5)
          have u8 := same_new (o := .lst (cutV (p.2.map V.int) (some ((k : Int) + 1)) none)) (B7.wd.free hs5)
          refine ⟨s4, s5, _, _, rfl, rfl, by rw [upd_ne n45, upd_same], upd_same, Nat.le_trans (show _ ≤ 1000 by have := cut_small (xs := p.2.map V.int) (lo := none) (hi := some (k : Int)) (by omega); have := cut_small (xs := p.2.map V.int) (lo := some ((k : Int) + 1)) (hi := none) (by omega); rw [List.length_append]; show _ + 1 + _ ≤ _; omega) (by decide), fun s6 hs6 => ?_⟩
          obtain ⟨ns', hnl, hne⟩ := spliced (p.2.getD k 0 + z) hk
          have B9 := B8.trans (B8.start.alloc (o := .lst (ns'.map V.int)) hs6)
          have u9 := same_new (o := .lst (ns'.map V.int)) (B8.wd.free hs6)
          have uB := (uA.trans u8).trans u9
          rw [hne]
          exact hκ _ _ ⟨_, va, s6, p.1, ns', _, rfl, B9, uB.seq hva, SqL.of upd_same, hfp.1, hnl.trans hfp.2⟩
        · have hgo := hpos
          have lm : (p.1.map V.int).length = p.1.length := List.length_map _
          refine ⟨_, rfl, _, rfl, va, _, rfl, .inl ((Bo).wd.same.seq hva), b, l, _, _, rfl, by omega, by omega, (Bo).start, fun ki H2 a2 c2 B2 => ?_⟩
          replace B2 := (Bo).trans B2
          obtain ⟨k, rfl⟩ : ∃ k : Nat, ki = (k : Int) := ⟨ki.toNat, by omega⟩
          have hk : k < p.1.length := by omega
          refine ⟨_, rfl, _, rfl, _, rfl, va, _, rfl, B2.wd.same.seq hva, fun s1 hs1 => ?_⟩
          have B3 := B2.trans (B2.start.alloc (o := .lst (cutV (p.1.map V.int) none (some (k : Int)))) hs1)
          have u3 := same_new (o := .lst (cutV (p.1.map V.int) none (some (k : Int)))) (B2.wd.free hs1)
          have hn : atI (p.1.map V.int) (k : Int) = some (.int (p.1.getD k 0)) := ints_get hk
          refine ⟨_, rfl, _, rfl, .inl ⟨va, _, _, .int (p.1.getD k 0), rfl, rfl, B3.wd.same.seq (u3.seq hva), hn, ?_⟩⟩
          refine ⟨_, rfl, by show 4 ≤ sizeLine; decide, fun s2 hs2 => ?_⟩
          have B4 := B3.trans (B3.start.alloc (o := .lst [.int 1, .int (-1), .int 7, .int (1000)]) hs2)
          have u4 := same_new (o := .lst [.int 1, .int (-1), .int 7, .int (1000)]) (B3.wd.free hs2)
          refine ⟨_, rfl, b, l, _, _, rfl, by omega, by omega, B4.start, fun r H5 a5 c5 B5 => ?_⟩
          replace B5 := B4.trans B5
          obtain ⟨v, hv, hvm⟩ := atI_mem (xs := [V.int 1, V.int (-1), V.int 7, V.int (1000)]) (i := r) a5 (by simpa using c5)
          obtain ⟨z, rfl⟩ : ∃ z : Int, v = .int z := by
            simp at hvm
            rcases hvm with rfl | rfl | rfl | rfl <;> exact ⟨_, rfl⟩
          refine .inl ⟨s2, _, _, _, rfl, rfl, SqL.of (B5.wd.same _ _ upd_same), hv, _, _, rfl, rfl, by show 1 ≤ sizeLine; decide, fun s3 hs3 => ?_⟩
          have B6 := B5.trans (B5.start.alloc (o := .lst [.int (p.1.getD k 0 + z)]) hs3)
          have u6 := same_new (o := .lst [.int (p.1.getD k 0 + z)]) (B5.wd.free hs3)
          have e1 := B6.wd.same _ _ (u6 _ _ (u4 _ _ (upd_same (H := G) (a := s1) (o := .lst (cutV (p.1.map V.int) none (some (k : Int)))))))
          refine ⟨s1, s3, _, _, rfl, rfl, e1, upd_same, Nat.le_trans (show _ ≤ 1000 by have := cut_small (xs := p.1.map V.int) (lo := none) (hi := some (k : Int)) (by omega); show _ + 1 ≤ _; omega) (by decide), fun s4 hs4 => ?_⟩
          have B7 := B6.trans (B6.start.alloc (o := .lst (cutV (p.1.map V.int) none (some (k : Int)) ++ [.int (p.1.getD k 0 + z)])) hs4)
          have u7 := same_new (o := .lst (cutV (p.1.map V.int) none (some (k : Int)) ++ [.int (p.1.getD k 0 + z)])) (B6.wd.free hs4)
          have uA := ((u3.trans u4).trans u6).trans u7
          refine ⟨_, rfl, _, rfl, _, _, rfl, rfl, _, rfl, va, _, rfl, B7.wd.same.seq (uA.seq hva), fun s5 hs5 => ?_⟩
          have n45 : s4 ≠ s5 := ne_of_none upd_same hs5
          have B8 := B7.trans (B7.start.alloc (o := .lst (cutV (p.1.map V.int) (some ((k : Int) + 1)) none)) hs5)
          have u8 := same_new (o := .lst (cutV (p.1.map V.int) (some ((k : Int) + 1)) none)) (B7.wd.free hs5)
          refine ⟨s4, s5, _, _, rfl, rfl, by rw [upd_ne n45, upd_same], upd_same, Nat.le_trans (show _ ≤ 1000 by have := cut_small (xs := p.1.map V.int) (lo := none) (hi := some (k : Int)) (by omega); have := cut_small (xs := p.1.map V.int) (lo := some ((k : Int) + 1)) (hi := none) (by omega); rw [List.length_append]; show _ + 1 + _ ≤ _; omega) (by decide), fun s6 hs6 => ?_⟩
          obtain ⟨ns', hnl, hne⟩ := spliced (p.1.getD k 0 + z) hk
          have B9 := B8.trans (B8.start.alloc (o := .lst (ns'.map V.int)) hs6)
          have u9 := same_new (o := .lst (ns'.map V.int)) (B8.wd.free hs6)
          have uB := (uA.trans u8).trans u9
          rw [hne]
          exact hκ _ _ ⟨_, s6, fa, ns', p.2, _, rfl, B9, SqL.of upd_same, uB.seq hfa, hnl.trans hfp.1, hfp.2⟩
    · rintro σ H2 ⟨o5, va', fa', v, f, G2, rfl, B2, hv', hf', lv, lf⟩
      have s2 := B2.gr.up
      refine ⟨_, rfl, _, rfl, _, rfl, pa, xs, rfl, B2.wd.same.seq (s2.seq hxs), fun s1 hs1 => ?_⟩
      have B3 := B2.trans (B2.start.alloc (o := .lst (cutV xs none (some (i : Int)))) hs1)
      have u3 := same_new (o := .lst (cutV xs none (some (i : Int)))) (B2.wd.free hs1)
      refine ⟨_, rfl, _, rfl, by show 2 ≤ sizeLine; decide, fun tt htt => ⟨by show 1 ≤ sizeLine; decide, fun s3 hs3 => ?_⟩⟩
      have B4 := B3.trans (B3.start.alloc (o := .tup [.ref va', .ref fa']) htt)
      have u4 := same_new (o := .tup [.ref va', .ref fa']) (B3.wd.free htt)
      have B5 := B4.trans (B4.start.alloc (o := .lst [.ref tt]) hs3)
      have u5 := same_new (o := .lst [.ref tt]) (B4.wd.free hs3)
      have e1 := B5.wd.same _ _ (u5 _ _ (u4 _ _ (upd_same (H := G2) (a := s1) (o := .lst (cutV xs none (some (i : Int)))))))
      have sm : ∀ lo hi, (cutV xs lo hi).length < 32 := fun lo hi => cut_small (by omega)
      refine ⟨s1, s3, _, _, rfl, rfl, e1, upd_same, Nat.le_trans (show _ ≤ 1000 by have := sm none (some (i : Int)); show _ + 1 ≤ _; omega) (by decide), fun s4 hs4 => ?_⟩
      have B6 := B5.trans (B5.start.alloc (o := .lst (cutV xs none (some (i : Int)) ++ [.ref tt])) hs4)
      have u6 := same_new (o := .lst (cutV xs none (some (i : Int)) ++ [.ref tt])) (B5.wd.free hs4)
      have uA := ((u3.trans u4).trans u5).trans u6
      refine ⟨_, rfl, _, rfl, _, _, rfl, rfl, _, rfl, pa, xs, rfl, B6.wd.same.seq (uA.seq (s2.seq hxs)), fun s5 hs5 => ?_⟩
      have n45 : s4 ≠ s5 := ne_of_none upd_same hs5
      have B7 := B6.trans (B6.start.alloc (o := .lst (cutV xs (some ((i : Int) + 1)) none)) hs5)
      have u7 := same_new (o := .lst (cutV xs (some ((i : Int) + 1)) none)) (B6.wd.free hs5)
      refine ⟨s4, s5, _, _, rfl, rfl, by rw [upd_ne n45, upd_same], upd_same, Nat.le_trans (show _ ≤ 1000 by have := sm none (some (i : Int)); have := sm (some ((i : Int) + 1)) none; rw [List.length_append]; show _ + 1 + _ ≤ _; omega) (by decide), fun s6 hs6 => ?_⟩
      have B8 := B7.trans (B7.start.alloc (o := .lst ((cutV xs none (some (i : Int)) ++ [.ref tt]) ++ cutV xs (some ((i : Int) + 1)) none)) hs6)
      have u8 := same_new (o := .lst ((cutV xs none (some (i : Int)) ++ [.ref tt]) ++ cutV xs (some ((i : Int) + 1)) none)) (B7.wd.free hs6)
      have uB := ((uA.trans u7).trans u8)
      have hour : HourT K _ (.ref tt) (v, f) := ⟨tt, va', fa', rfl, SqT.of ((((u5.trans u6).trans u7).trans u8) _ _ upd_same), uB.seq hv', uB.seq hf'⟩
      have hpl2 := hours_same (s2.trans uB) hpl
      refine q s6 _ _ ((pl.take i ++ [(v, f)]) ++ pl.drop (i + 1)) B8 ⟨_, SqL.of upd_same, ?_⟩ ⟨?_, fun z hz => ?_⟩
      · have hp := paired_append (paired_append (paired_take i hpl2) (.cons hour .nil)) (paired_drop (i + 1) hpl2)
        have e : (cutV xs none (some (i : Int)) ++ [.ref tt]) ++ cutV xs (some ((i : Int) + 1)) none = (xs.take i ++ [.ref tt]) ++ xs.drop (i + 1) := by rw [cutTo, cutFrom]
        rw [← e] at hp
        exact hp
      · rw [List.length_append, List.length_append, List.length_take, List.length_drop]
        show min i pl.length + 1 + _ = _
        omega
      · rcases List.mem_append.mp hz with hz | hz
        · rcases List.mem_append.mp hz with hz | hz
          · exact hok z (List.mem_of_mem_take hz)
          · simp at hz; rw [hz]; exact ⟨lv, lf⟩
        · exact hok z (List.mem_of_mem_drop hz)
end
end Cr
set_option Elab.async false
set_option linter.all false
set_option maxRecDepth 100000
set_option maxHeartbeats 4000000
/-! Data equal to itself; plans as data; tests that are decided -/
namespace Cr
open PySem PySem.Spec PyProof.Rows L2
mutual
theorem eqv_self : ∀ d : PyData, PyData.canLay0 d = true → PyData.eqv d d = true
  | .none, _ => rfl
  | .bool b, _ => by simp [PyData.eqv]
  | .int i, _ => by simp [PyData.eqv]
  | .str x, _ => by simp [PyData.eqv]
  | .list xs, h => by
    simp only [PyData.canLay0] at h
    simp only [PyData.eqv]
    exact eqvAll_self xs h
  | .tuple xs, h => by
    simp only [PyData.canLay0] at h
    simp only [PyData.eqv]
    exact eqvAll_self xs h
  | .dict _, h => by simp [PyData.canLay0] at h
theorem eqvAll_self : ∀ ds : List PyData, PyData.canLayAll0 ds = true → PyData.eqvAll ds ds = true
  | [], _ => rfl
  | d :: ds, h => by
    simp only [PyData.canLayAll0, Bool.and_eq_true] at h
    simp only [PyData.eqvAll, Bool.and_eq_true]
    exact ⟨eqv_self d h.1, eqvAll_self ds h.2⟩
end
theorem eqv_shaped {d : PyData} (h : SeqAt.shaped d = true) : PyData.eqv d d = true := eqv_self d (by
  unfold SeqAt.shaped at h
  exact (Bool.and_eq_true_iff.mp h).1)
abbrev hI (p : List Int × List Int) : PyData := .tuple [lI p.1, lI p.2]
abbrev dH (pl : Hours) : PyData := .list (pl.map hI)
theorem canAll_hI (pl : Hours) : PyData.canLayAll0 (pl.map hI) = true := by
  induction pl with
  | nil => rfl
  | cons r rs ih => simp only [List.map_cons, PyData.canLayAll0, PyData.canLay0, ih, canAll_ints]; rfl
theorem depth_hI (pl : Hours) : PyData.depthAll (pl.map hI) ≤ 5 := by
  induction pl with
  | nil => simp [PyData.depthAll]
  | cons r rs ih =>
    have h1 := depth_ints r.1
    have h2 := depth_ints r.2
    rw [List.map_cons]
    simp only [PyData.depthAll, PyData.depth]
    omega
theorem shaped_dH (pl : Hours) : SeqAt.shaped (dH pl) = true := by
  unfold SeqAt.shaped
  rw [Bool.and_eq_true, decide_eq_true_eq]
  refine ⟨?_, ?_⟩
  · simp only [PyData.canLay0]
    exact canAll_hI pl
  · have := depth_hI pl
    simp only [PyData.depth]
    omega
section
variable {K : PySem.W.Frag} {G : Hp}
theorem hoursT_dp : ∀ {xs : List V} {pl : Hours}, Paired (HourT K G) xs pl → DpAll K G xs (pl.map hI)
  | _, _, .nil => .nil
  | _, _, .cons ⟨t, va, fa, h1, h2, h3, h4⟩ r => .cons (by rw [h1]; exact .tup h2 (.cons (.lst h3 (dpAll_ints _)) (.cons (.lst h4 (dpAll_ints _)) .nil))) (hoursT_dp r)
theorem PlanA.dp {a : Addr} {pl : Hours} (h : PlanA K G a pl) : Dp K G (.ref a) (dH pl) := by
  obtain ⟨xs, q, r⟩ := h
  exact .lst q (hoursT_dp r)
end
section
variable {c : Prop} {d : Decidable c} {A B : Prop}
theorem iteDT (h : c) (a : A) : if (@decide c d) = true then A else B := by rw [decide_eq_true h]; exact iteT a
theorem iteDF (h : ¬ c) (b : B) : if (@decide c d) = true then A else B := by rw [decide_eq_false h]; exact iteF b
theorem iteNT (h : ¬ c) (a : A) : if (!(@decide c d)) = true then A else B := by rw [decide_eq_false h]; exact iteT a
theorem iteNF (h : c) (b : B) : if (!(@decide c d)) = true then A else B := by rw [decide_eq_true h]; exact iteF b
end
end Cr
set_option Elab.async false
set_option linter.all false
set_option maxRecDepth 100000
set_option maxHeartbeats 4000000

/-! A plan gone through: airs, cost, fault beside the law's own -/
namespace Cr
open PySem PySem.Spec PyProof.Rows L2
abbrev s_law_gone : Stmt := top 50
abbrev n_law_gone : List Str := ["_law_house_here", "_law_rows", "_law_plan", "_law_handed", "_law_found", "_law_due", "_law_told", "_law_vents", "_law_flows"]
abbrev a_law_gone : List Str := ["_law_house_here", "_law_rows", "_law_plan"]
theorem sc_law_gone : FnScope n_law_gone a_law_gone (defScope s_law_gone) := ⟨rfl, rfl, rfl, by decide +kernel, rfl, by decide +kernel, by decide +kernel⟩
theorem shpLL2 (n : Nat) (rs : List (List Int)) (h : rs.length ≤ 1000) (w : ∀ r ∈ rs, r.length ≤ 1000) : shp (n + 2) (dLL rs) := ⟨by rw [List.length_map]; exact h, fun d hd => by
  obtain ⟨r, hr, rfl⟩ := List.mem_map.mp hd
  exact ⟨by rw [List.length_map]; exact w r hr, fun e he => by
    obtain ⟨i, _, rfl⟩ := List.mem_map.mp he
    cases n <;> exact True.intro⟩⟩
theorem faultD_shp {n : Nat} (z : Option (Int × Int)) : shp (n + 1) (faultD z) := by
  cases z with
  | none => exact True.intro
  | some z => exact ⟨by show 2 ≤ 1000; decide, fun d hd => by
      rcases List.mem_cons.mp hd with rfl | hd
      · cases n <;> exact True.intro
      rcases List.mem_cons.mp hd with rfl | hd
      · cases n <;> exact True.intro
      · exact nomatch hd⟩
section
variable {P : Program} {w : World} {K : PySem.W.Frag} {mg : Str → Option Value} {base : Heap} {ad : Ad} {cBP : Addr} {Ps : List Addr} {H : Hp}
structure RawGo (K : PySem.W.Frag) (mg : Str → Option Value) (base : Heap) (ad : Ad) (cBP : Addr) : Prop extends RawFa K mg base ad cBP, RawAb K mg base ad, RawLf K mg where
  lgon : DefR K mg "_law_gone" s_law_gone a_law_gone
def spGone (ad : Ad) (K : PySem.W.Frag) (Ps : List Addr) : Sp := fun vs H Q _ =>
  ∃ (G : Hp) (x t pa : Addr) (h : Nat) (ra da sa : Addr) (rs ds ss : List (List Int)) (pl : Hours), vs = [.ref x, .ref t, .ref pa] ∧ Wd Ps G H ∧ Tabs Ps H ∧ HouseAt ad K G x (h : Int) rs ds ss ∧ RowsAt K G t (h : Int) ra da sa rs ds ss ∧ GoodH (h : Int) rs ds ss ∧ PlanA K G pa pl ∧ fits (h : Int) rs.length ds.length pl ∧
    ∀ H', Gr Ps G H G H' → Tabs Ps H' → Q (.bl true) H'
theorem c_gone (T : RawGo K mg base ad cBP) : C8.Cal P w K mg base 7 "_law_gone" (spGone ad K Ps) [] := by
  refine T.lgon.cal sc_law_gone (fun vs H Q E h => ?_) (fun f cdv A outer s H vs Q E hr h => ?_)
  · obtain ⟨G, x, t, pa, h, ra, da, sa, rs, ds, ss, pl, rfl, _⟩ := h
    rfl
  · obtain ⟨G, x, t, pa, h, ra, da, sa, rs, ds, ss, pl, rfl, wd, tbs, hH, hR, hG, ⟨xs, hxs, hps⟩, hfit, q⟩ := h
    have b_list := T.b_list
    have k_air := c_air (P := P) (w := w) (Ps := Ps) T.toRawAb
    have k_airs : CalX P w K mg base 4 "airs" (spAirs ad K Ps cBP) := c_airs T.toRawAi k_air
    have k_cost : CalX P w K mg base 3 "cost" (spCost ad K Ps cBP) := c_cost T.toRawCo
    have k_fault : CalX P w K mg base 5 "fault" (spFault2 ad K Ps cBP) := c_fault2 T.toRawFa k_air
    have k__law_alike : C8.Cal P w K mg base 4 "_law_alike" (spAlike K 4) [] := c_alike T.toRawL 4
    have k__law_airs : C8.Cal P w K mg base 3 "_law_airs" (spLAirs K Ps) [] := c_lairs T.toRawLa
    have k__law_cost : C8.Cal P w K mg base 1 "_law_cost" (spLPlan K Ps fun _ rs _ _ pl => costOf rs pl) [] := c_lcost T.toRawLc
    have k__law_fault : C8.Cal P w K mg base 4 "_law_fault" (spLFault K Ps) [] := c_lfault T.toRawLf
    refine ⟨_, (pss_cons (ps_setLc (i := 3) (own := [("_law_vents", 7), ("_law_flows", 8)]) rfl sc_law_gone.nd rfl rfl (sw_true rfl rfl rfl (by decide +kernel)) (pi_list (pv 2)) (blkOk_by (own := [("_law_vents", 7), ("_law_flows", 8)]) (N := n_law_gone) (sc := defScope s_law_gone) (by decide +kernel)) (fun _ _ _ _ _ => (pg_tupK (K := K) (n := 2) rfl rfl (pgs_cons (pg_name (i := 7) sc_law_gone.nd rfl (Or.inl rfl) (Or.inr rfl)) (pgs_cons (pg_name (i := 8) sc_law_gone.nd rfl (Or.inl rfl) (Or.inr rfl)) pgs_nil)))) (fun _ _ _ _ _ => pts_nil) (fun _ _ _ _ _ => (pe_tup (pa_cons (pe_callTy (call_list_ofK (K := K) rfl) (by rfl) b_list (by decide +kernel) (pa_cons (pv 7 rfl (Or.inl rfl)) pa_nil)) (pa_cons (pe_callTy (call_list_ofK (K := K) rfl) (by rfl) b_list (by decide +kernel) (pa_cons (pv 8 rfl (Or.inl rfl)) pa_nil)) pa_nil)))))
      (pss_cons (ps_set (i := 4) sc_law_gone.nd rfl (Or.inl rfl) (pe_cx0 k_airs hr (by decide)  rfl (pa_cons (pv 0) (pa_cons (pv 3) pa_nil))))
      (pss_cons (ps_if (PW.pt (pw_or (pt_not (pt_val (C8.pe_c k__law_alike hr (by decide) rfl (pa_cons (pv 4) (pa_cons (C8.pe_c k__law_airs hr (by decide) rfl (pa_cons (pv 1) (pa_cons (pv 2) pa_nil))) pa_nil))))) (pw_or1 (pt_not (pt_val (C8.pe_c k__law_alike hr (by decide) rfl (pa_cons (pe_cx0 k_cost hr (by decide)  rfl (pa_cons (pv 0) (pa_cons (pv 3) pa_nil))) (pa_cons (C8.pe_c k__law_cost hr (by decide) rfl (pa_cons (pv 1) (pa_cons (pv 2) pa_nil))) pa_nil))))))))
        (pss_one (ps_ret pe_bl))
        pss_nil)
      (pss_cons (ps_set (i := 5) sc_law_gone.nd rfl (Or.inl rfl) (C8.pe_c k__law_fault hr (by decide) rfl (pa_cons (pv 1) (pa_cons (pv 2) pa_nil))))
      (pss_cons (ps_set (i := 6) sc_law_gone.nd rfl (Or.inl rfl) (pe_cx0 k_fault hr (by decide)  rfl (pa_cons (pv 0) (pa_cons (pv 3) pa_nil))))
      (pss_cons (ps_if (PW.pt (pw_or (pt_cmpR op_ne (pe_cmp (pc_isN (pv 5)) rfl) (pe_cmp (pc_isN (pv 6)) rfl) (nomark _)) (pw_or1 (PW.pt (pw_and (pt_cmp (pc_notN (pv 5))) (pw_and1 (pt_not (pt_val (C8.pe_c k__law_alike hr (by decide) rfl (pa_cons (pv 6) (pa_cons (pv 5) pa_nil)))))))))))
        (pss_one (ps_ret pe_bl))
        pss_nil)
      (pss_cons (ps_expr (pe_bm0 PySem.F.plainAttrs_list PySem.F.slot_list_clear PySem.F.type_list_clear mt_clear (pv 4)))
      (pss_one (ps_ret (pe_and (pe_cmpR (op_eqD hr.units) (pv 3) (pv 2) (nomark _)) (pe_one (C8.pe_c k__law_alike hr (by decide) rfl (pa_cons (pe_cx0 k_airs hr (by decide)  rfl (pa_cons (pv 0) (pa_cons (pv 3) pa_nil))) (pa_cons (C8.pe_c k__law_airs hr (by decide) rfl (pa_cons (pv 1) (pa_cons (pv 2) pa_nil))) pa_nil)))))))))))))), ?_⟩
    have hcs := house_counts hH.ok
    have hlp := hfit.1
    have hlen : xs.length = pl.length := Paired.length hps
    have hsl : slim pl := ⟨by omega, fun p hp => by have := hfit.2 p hp; omega⟩
    refine ⟨_, rfl, pa, rfl, ⟨xs, wd.same.seq hxs⟩, fun D hD => ?_⟩
    have DP := tbs.nin hD
    have DG := wd.free hD
    refine lc_list (K := K) (a := pa) (xs := xs) (fun i H' => ∃ (Gk : Hp) (ys : List V), Gr Ps G H Gk H' ∧ Tabs Ps H' ∧ H' D = some (.lst ys) ∧ Gk D = none ∧ Paired (HourL K Gk) ys (pl.take i)) ⟨G, [], Gr.new wd hD, tbs.upd DP, upd_same, DG, .nil⟩ (fun i H' _ ⟨Gk, _, g, _⟩ => (g.up.trans g.wd.same).seq hxs) ?_ ?_
    · rintro i y H' hy ⟨Gk, ys, g, tb, hDy, gD, hys⟩
      obtain ⟨p1, ep1, ty, va, fa, rfl, hty, hva, hfa⟩ := paired_get hps hy
      have hi : i < pl.length := (List.getElem?_eq_some_iff.mp ep1).1
      have lys : ys.length = i := by rw [Paired.length hys, List.length_take]; omega
      have s' := g.up.trans g.wd.same
      refine ⟨ty, _, rfl, Same.tup s' hty, rfl, _, _, rfl, _, _, rfl, rfl, (by (repeat rw [wipe_set (by decide)]); exact wipe_wipe _ _), ?_⟩
      refine ⟨_, rfl, va, _, rfl, .inl (s'.seq hva), fun q1 hq1 => ?_⟩
      have g1 := g.trans (Gr.alloc (o := .lst (p1.1.map V.int)) g.wd hq1)
      have u1 := (Gr.alloc (o := .lst (p1.1.map V.int)) g.wd hq1).up
      have t1 := tb.same (same_new (o := .lst (p1.1.map V.int)) hq1)
      have n1 := ne_of_none hDy hq1
      refine ⟨_, rfl, fa, _, rfl, .inl ((g1.up.trans g1.wd.same).seq hfa), fun q2 hq2 => ?_⟩
      have g2 := g1.trans (Gr.alloc (o := .lst (p1.2.map V.int)) g1.wd hq2)
      have u2 := (Gr.alloc (o := .lst (p1.2.map V.int)) g1.wd hq2).up
      have t2 := t1.same (same_new (o := .lst (p1.2.map V.int)) hq2)
      have n2 : D ≠ q2 := ne_of_none (by rw [upd_ne n1]; exact hDy) hq2
      refine ⟨by show 2 ≤ sizeLine; decide, fun tt htt => ?_⟩
      have g3' := g2.trans (Gr.alloc (o := .tup [.ref q1, .ref q2]) g2.wd htt)
      have u3 := (Gr.alloc (o := .tup [.ref q1, .ref q2]) g2.wd htt).up
      have t3' := t2.same (same_new (o := .tup [.ref q1, .ref q2]) htt)
      have n3 : D ≠ tt := ne_of_none (by rw [upd_ne n2, upd_ne n1]; exact hDy) htt
      have e1 := u3 _ _ (u2 _ _ (upd_same (H := Gk) (a := q1) (o := .lst (p1.1.map V.int))))
      have e2 := u3 _ _ (upd_same (H := upd Gk q1 (.lst (p1.1.map V.int))) (a := q2) (o := .lst (p1.2.map V.int)))
      refine ⟨ys, by rw [upd_ne n3, upd_ne n2, upd_ne n1]; exact hDy, small1000 (by omega), _, ys ++ [.ref tt], g3'.poke hD (by rw [upd_ne n3, upd_ne n2, upd_ne n1]; exact gD), t3'.upd DP, upd_same, by rw [upd_ne n3, upd_ne n2, upd_ne n1]; exact gD, ?_⟩
      rw [List.take_add_one, ep1]
      exact paired_snoc (hoursL_same ((u1.trans u2).trans u3) hys) ⟨tt, q1, q2, rfl, SqT.of upd_same, e1, e2⟩
    rintro H1 ⟨Gk, ys, g, tb1, hDy, gD, hys⟩
    rw [hlen, List.take_of_length_le (Nat.le_refl _)] at hys
    have g1 := g.close hD hDy DP gD
    have u1 := same_new (o := .lst ys) gD
    have hK : PlanL K (upd Gk D (.lst ys)) D pl := ⟨ys, upd_same, hoursL_same u1 hys⟩
    generalize upd Gk D (.lst ys) = G1 at *
    have hH1 := hH.same g1.up
    have hR1 := hR.sm g1.up
    have hP1 : PlanA K G1 pa pl := let hP : PlanA K G pa pl := ⟨xs, hxs, hps⟩; hP.same g1.up
    refine ⟨_, rfl, _, rfl, G1, x, D, h, rs, ds, ss, pl, rfl, g1.wd, tb1, hH1, hK.toA, hsl, by omega, by omega, fun _ p2 y2 G2 H2 hp2 g2 gp2 e2 hy2 t2 => ?_, fun hno => absurd hfit hno⟩
    have lA : (airsOf rs ds ss pl).length ≤ 1000 := by unfold airsOf; rw [airs_len]; omega
    have sA : shp 3 (dLL (airsOf rs ds ss pl)) := shpLL2 1 _ lA fun r hr => by rw [airs_rows hfit r hr]; omega
    have p2P : p2 ∉ Ps := tb1.nin hp2
    have hH2 := hH1.same g2.up
    have hR2 := hR1.sm g2.up
    have hP2 := hP1.same g2.up
    refine ⟨_, rfl, _, rfl, _, rfl, G2, t, pa, (h : Int), ra, da, sa, rs, ds, ss, pl, rfl, g2.wd, t2, hR2, hG, hP2, hfit, fun p3 y3 G3 H3 hp3 g3 gp3 e3 hy3 t3 => ?_⟩
    have d2 : Dp K H3 (.ref p2) (dLL (airsOf rs ds ss pl)) := .lst (SqL.of (g3.keep _ _ p2P e2)) (intsL_dp (ints_same (g3.up.trans g3.wd.same) (intsM_L hy2)))
    have d3 : Dp K H3 (.ref p3) (dLL (airsOf rs ds ss pl)) := .lst (SqL.of e3) (intsL_dp (ints_same g3.wd.same hy3))
    refine ⟨.ref p2, .ref p3, _, rfl, d2, d3, sA, ?_⟩
    refine ⟨_, rfl, iteF ?_⟩
    have hH3 := hH2.same g3.up
    have hR3 := hR2.sm g3.up
    have hP3 := hP2.same g3.up
    have hK3 := hK.same (g2.up.trans g3.up)
    refine ⟨_, rfl, _, rfl, G3, x, D, h, rs, ds, ss, pl, rfl, g3.wd, t3, hH3, hK3.toA, hsl, by omega, by omega, fun _ H4 g4 t4 => ?_, fun hno => absurd hfit hno⟩
    refine ⟨_, rfl, _, rfl, G3, t, pa, (h : Int), ra, da, sa, rs, ds, ss, pl, rfl, g4.wd, t4, hR3, hG, hP3, hfit, fun H5 g5 t5 => ?_⟩
    refine ⟨.int _, .int _, .int (costOf rs pl), rfl, .int _, .int _, True.intro, ?_⟩
    refine ⟨_, rfl, iteF ?_⟩
    have g35 := g4.trans g5
    unfold tNext
    dsimp only
    refine seq_cut (fun σ H' => ∃ (dv : V), σ = [some (.ref x), some (.ref t), some (.ref pa), some (.ref D), some (.ref p2), some dv, none, none, none] ∧ Gr Ps G3 H3 G3 H' ∧ Tabs Ps H' ∧ FaultV K H' dv (faultOf rs ds ss pl)) ?_ ?_
    rotate_left
    · intro κ hκ
      refine ⟨_, rfl, _, rfl, G3, t, pa, (h : Int), ra, da, sa, rs, ds, ss, pl, rfl, g35.wd, t5, hR3, hG, hP3, hfit, fun hz H6 g6 t6 => ?_, fun z hz p6 H6 g6 t6 e6 => ?_⟩
      · exact hκ _ _ ⟨.non, rfl, g35.trans g6, t6, by rw [hz]; rfl⟩
      · exact hκ _ _ ⟨.ref p6, rfl, g35.trans g6, t6, by rw [hz]; exact ⟨p6, rfl, SqT.of e6⟩⟩
    rintro σ H6 ⟨dv, rfl, g6, t6, hdv⟩
    refine ⟨_, rfl, _, rfl, G3, x, D, h, rs, ds, ss, pl, rfl, g6.wd, t6, hH3, hK3.toA, hsl, by omega, by omega, fun _ fv H7 g7 t7 hfv => ?_, fun hno => absurd hfit hno⟩
    have hdv7 := hdv.keep t6 g7.keep
    have g37 := g6.trans g7
    dsimp only
    refine seq_if (fun σ H' => σ = [some (.ref x), some (.ref t), some (.ref pa), some (.ref D), some (.ref p2), some dv, some fv, none, none] ∧ Gr Ps G3 H3 G3 H' ∧ Tabs Ps H') ?_ ?_
    rotate_left
    · intro κ hκ
      cases hz : faultOf rs ds ss pl with
      | none =>
        rw [hz] at hdv7 hfv
        obtain rfl : dv = .non := hdv7
        obtain rfl : fv = .non := hfv
        refine ⟨_, rfl, _, rfl, rfl, _, rfl, iteNF rfl ?_⟩
        refine ⟨_, rfl, _, rfl, iteNF rfl ?_⟩
        exact hκ _ _ ⟨rfl, g37, t7⟩
      | some z =>
        have dd := hdv7.dp
        have df := hfv.dp
        rw [hz] at hdv7 hfv dd df
        obtain ⟨pd, rfl, _⟩ := hdv7
        obtain ⟨pf, rfl, _⟩ := hfv
        refine ⟨_, rfl, _, rfl, rfl, _, rfl, iteNF (congrArg V.bl (decide_eq_decide.mpr ⟨fun z => (by cases z), fun z => (by cases z)⟩)) ?_⟩
        refine ⟨_, rfl, _, rfl, iteNT (fun z => by cases z) ?_⟩
        refine ⟨_, rfl, _, rfl, .ref pf, .ref pd, _, rfl, df, dd, faultD_shp (n := 2) (some z), ?_⟩
        refine ⟨_, rfl, iteF ?_⟩
        exact hκ _ _ ⟨rfl, g37, t7⟩
    rintro σ H8 ⟨rfl, g8, t8⟩
    have e8 := g8.keep _ _ p2P (g3.keep _ _ p2P e2)
    have gp2' : G3 p2 = none := g3.fresh p2 gp2 (by rw [e2]; exact fun z => nomatch z)
    refine ⟨_, rfl, .inl ⟨rfl, _, SqL.of e8⟩, ⟨p2, y2, rfl, rfl, e8, ?_⟩⟩
    have gA := ((g2.trans g3).trans g8).poke (o := .lst []) hp2 gp2'
    have tA := t8.upd (o := .lst []) p2P
    generalize upd H8 p2 (.lst []) = H9 at *
    have dH1 : Dp K H9 (.ref D) (dH pl) := dp_same gA.wd.same hK3.toA.dp
    have dH2 : Dp K H9 (.ref pa) (dH pl) := dp_same gA.wd.same hP3.dp
    refine ⟨_, rfl, _, rfl, _, _, dH1, dH2, shaped_dH _, shaped_dH _, _, rfl, ?_⟩
    rw [eqv_shaped (shaped_dH _)]
    refine iteT ?_
    refine ⟨_, rfl, _, rfl, G3, x, D, h, rs, ds, ss, pl, rfl, gA.wd, tA, hH3, hK3.toA, hsl, by omega, by omega, fun _ p10 y10 G10 H10 hp10 g10 gp10 e10 hy10 t10 => ?_, fun hno => absurd hfit hno⟩
    refine ⟨_, rfl, _, rfl, G10, t, pa, (h : Int), ra, da, sa, rs, ds, ss, pl, rfl, g10.wd, t10, hR3.sm g10.up, hG, hP3.same g10.up, hfit, fun p11 y11 G11 H11 hp11 g11 gp11 e11 hy11 t11 => ?_⟩
    have p10P : p10 ∉ Ps := tA.nin hp10
    have d10 : Dp K H11 (.ref p10) (dLL (airsOf rs ds ss pl)) := .lst (SqL.of (g11.keep _ _ p10P e10)) (intsL_dp (ints_same (g11.up.trans g11.wd.same) (intsM_L hy10)))
    have d11 : Dp K H11 (.ref p11) (dLL (airsOf rs ds ss pl)) := .lst (SqL.of e11) (intsL_dp (ints_same g11.wd.same hy11))
    refine ⟨.ref p10, .ref p11, _, rfl, d10, d11, sA, ?_⟩
    have gZ := ((g1.trans gA).trans g10).trans g11
    exact q H11 ⟨Same.refl _, ⟨gZ.up.trans gZ.wd.same, wd.off, gZ.wd.on⟩, gZ.keep, fun c e _ => e⟩ t11
end
end Cr
set_option Elab.async false
set_option linter.all false
set_option maxRecDepth 100000
set_option maxHeartbeats 4000000
/-! xs + ys of lists that are only read -/
namespace Cr
open PySem PySem.Spec PyProof.Rows L2
def rCatA (K : PySem.W.Frag) : R2 := fun x y H Q => ∃ l b xs zs, x = .ref l ∧ y = .ref b ∧ SqL K H l xs ∧ SqL K H b zs ∧ xs.length + zs.length ≤ sizeLine ∧ ∀ p, H p = none → Q (.ref p) (upd H p (.lst (xs ++ zs)))
theorem op_catAK {X : Cx} {K : PySem.W.Frag} (hK : X.K = K) : OpR X (binaryOp .Add) (rCatA K) := by
  subst hK
  intro pins s σ H x y v u Q I rx ry ⟨l, b, xs, zs, e1, e2, hl, hb, hz, q⟩
  subst e1
  subst e2
  cases rx
  cases ry
  obtain ⟨its, r, pl, z⟩ := I.list hl
  obtain ⟨its2, r2, pl2, z2⟩ := I.list hb
  obtain ⟨⟨cls, dd, data, sl⟩, ho, hc, n, hd⟩ := pl.isList
  obtain ⟨⟨cls2, dd2, data2, sl2⟩, ho2, hc2, n2, hd2⟩ := pl2.isList
  simp only at hc hd hc2 hd2
  subst hc hd hc2 hd2
  refine concat_meets ⟨_, ho, rfl⟩ ⟨_, ho2, rfl⟩ noFill_list_add seq_list_add PySem.F.slot_list_add PySem.F.entry_list_add (PySem.F.args_list_add_2 _ _) (list_addW l b its.toArray its2.toArray n n2 dd dd2 sl sl2 (by rw [List.size_toArray, List.size_toArray, ← r.length, ← r2.length]; exact hz)) ⟨ho, ho2, ?_⟩
  rw [show its.toArray ++ its2.toArray = (its ++ its2).toArray by simp]
  exact ⟨.ref _, _, I.lnew (t' := s.toks) (r.append r2) (by rw [List.length_append]; exact hz), rfl, q _ I.fresh⟩
theorem op_catA {X : Cx} : OpR X (binaryOp .Add) (rCatA X.K) := op_catAK rfl
end Cr
set_option Elab.async false
set_option linter.all false
set_option maxRecDepth 100000
set_option maxHeartbeats 4000000

/-! A plan whose counts are not the house's -/
namespace Cr
open PySem PySem.Spec PyProof.Rows L2
abbrev s_law_odd : Stmt := top 49
abbrev n_law_odd : List Str := ["_law_box", "_law_plan", "_law_hour", "_law_vents", "_law_flows", "_law_fewer", "_law_row"]
abbrev a_law_odd : List Str := ["_law_box", "_law_plan"]
theorem sc_law_odd : FnScope n_law_odd a_law_odd (defScope s_law_odd) := ⟨rfl, rfl, rfl, by decide +kernel, rfl, by decide +kernel, by decide +kernel⟩
section
variable {P : Program} {w : World} {K : PySem.W.Frag} {mg : Str → Option Value} {base : Heap} {ad : Ad} {Ps : List Addr} {H : Hp}
structure RawOd (K : PySem.W.Frag) (mg : Str → Option Value) : Prop extends RawL K mg where
  lodd : DefR K mg "_law_odd" s_law_odd a_law_odd
def spOdd (K : PySem.W.Frag) (Ps : List Addr) : Sp := fun vs H Q _ => ∃ (b l : Addr) (G : Hp) (pa : Addr) (h nr nd : Nat) (pl : Hours), vs = [.ref b, .ref pa] ∧ Bx Ps b l G H G H ∧ PlanA K G pa pl ∧ fits (h : Int) nr nd pl ∧ 1 ≤ h ∧ h ≤ 12 ∧ 1 ≤ nr ∧ nr ≤ 6 ∧ nd ≤ 8 ∧
  ∀ p G' H' pl', Bx Ps b l G H G' H' → PlanA K G' p pl' → slim pl' → ¬ fits (h : Int) nr nd pl' → Q (.ref p) H'
theorem c_odd (T : RawOd K mg) : C8.Cal P w K mg base 2 "_law_odd" (spOdd K Ps) [] := by
  refine T.lodd.cal sc_law_odd (fun vs H Q E h => ?_) (fun f cdv A outer s H vs Q E hr h => ?_)
  · obtain ⟨b, l, G, pa, h, nr, nd, pl, rfl, _⟩ := h
    rfl
  · obtain ⟨b, l, G, pa, h, nr, nd, pl, rfl, B, ⟨xs, hxs, hpl⟩, hfit, h1, h12, r1, r6, d8, q⟩ := h
    have b_len := T.b_len
    have k__law_take : C8.Cal P w K mg base 1 "_law_take" (spTake Ps) [] := c_take T.toRawL
    refine ⟨_, (pss_cons (ps_set (i := 2) sc_law_odd.nd rfl (Or.inl rfl) (C8.pe_c k__law_take hr (by decide) rfl (pa_cons (pv 0) (pa_cons (pe_callB call_len_seq (by rfl) b_len (by decide +kernel) (pa_cons (pv 1) pa_nil)) pa_nil))))
      (pss_cons (ps_asg (pe_ix ix_seq (pv 1) (pv 2) (fun _ _ => rfl)) (pg_tup rfl (pgs_cons (pg_name (i := 3) sc_law_odd.nd rfl (Or.inl rfl)) (pgs_cons (pg_name (i := 4) sc_law_odd.nd rfl (Or.inl rfl)) pgs_nil))))
      (pss_cons (ps_set (i := 5) sc_law_odd.nd rfl (Or.inl rfl) (pe_slice sl_list (pv 4) (po_some pe_int) po_none))
      (pss_cons (ps_if (pt_cmpR (op_eqD hr.units) (pv 4) (pe_lst pa_nil) (nomark _))
        (pss_one (ps_set (i := 5) sc_law_odd.nd rfl (Or.inl rfl) (pe_lst (pa_cons pe_int (pa_cons pe_int pa_nil)))))
        pss_nil)
      (pss_cons (ps_set (i := 6) sc_law_odd.nd rfl (Or.inl rfl) (pe_ix ix_seq (pe_lst (pa_cons (pe_tup (pa_cons (pe_op op_catA (pv 3) (pe_lst (pa_cons pe_int pa_nil))) (pa_cons (pv 4) pa_nil))) (pa_cons (pe_tup (pa_cons (pe_slice sl_list (pv 3) (po_some pe_int) po_none) (pa_cons (pv 4) pa_nil))) (pa_cons (pe_tup (pa_cons (pv 3) (pa_cons (pe_op op_catA (pv 4) (pe_lst (pa_cons pe_int pa_nil))) pa_nil))) (pa_cons (pe_tup (pa_cons (pv 3) (pa_cons (pv 5) pa_nil))) pa_nil))))) (C8.pe_c k__law_take hr (by decide) rfl (pa_cons (pv 0) (pa_cons pe_int pa_nil))) (fun _ _ => rfl)))
      (pss_one (ps_ret (pe_ix ix_seq (pe_lst (pa_cons (pe_op op_catA (pv 1) (pe_slice sl_list (pv 1) po_none (po_some pe_int))) (pa_cons (pe_slice sl_list (pv 1) (po_some pe_int) po_none) (pa_cons (pe_op op_catA (pe_op op_catA (pe_slice sl_list (pv 1) po_none (po_some (pv 2))) (pe_lst (pa_cons (pv 6) pa_nil))) (pe_slice sl_list (pv 1) (po_some (pe_op op_add (pv 2) pe_int)) po_none)) pa_nil)))) (C8.pe_c k__law_take hr (by decide) rfl (pa_cons (pv 0) (pa_cons pe_int pa_nil))) (fun _ _ => rfl))))))))), ?_⟩
    have hl := hfit.1
    have hlen : xs.length = pl.length := Paired.length hpl
    refine ⟨_, rfl, _, rfl, pa, xs, rfl, .inl (B.wd.same.seq hxs), b, l, _, _, rfl, by omega, by omega, B.start, fun hi H1 a1 c1 B1 => ?_⟩
    obtain ⟨i, rfl⟩ : ∃ i : Nat, hi = (i : Int) := ⟨hi.toNat, by omega⟩
    have hip : i < pl.length := by omega
    obtain ⟨v, hv, ty, va, fa, rfl, hty, hva, hfa⟩ := paired_get' hpl (List.getElem?_eq_getElem hip)
    generalize hpe : pl[i] = p at hva hfa
    have ep : pl[i]? = some p := by rw [List.getElem?_eq_getElem hip, hpe]
    have hfp := hfit.2 p (List.mem_of_getElem? ep)
    refine ⟨_, rfl, _, rfl, .inl ⟨pa, xs, _, .ref ty, rfl, rfl, B1.wd.same.seq hxs, atI_nat hv, ty, _, rfl, Same.tup B1.wd.same hty, rfl, _, _, rfl, _, _, rfl, rfl, ?_⟩⟩
    refine ⟨_, rfl, _, rfl, fa, _, rfl, B1.wd.same.seq hfa, fun f1 hf1 => ?_⟩
    obtain ⟨G2, B2, u2, e2⟩ := B1.al (o := .lst (cutV (p.2.map V.int) (some 1) none)) hf1
    have lm : (p.1.map V.int).length = p.1.length := List.length_map _
    have lm2 : (p.2.map V.int).length = p.2.length := List.length_map _
    dsimp only
    refine seq_if (fun σ H' => ∃ (fe : Addr) (fs : List Int) (G' : Hp), σ = [some (.ref b), some (.ref pa), some (.int (i : Int)), some (.ref va), some (.ref fa), some (.ref fe), none] ∧ Bx Ps b l G H G' H' ∧ Same G G' ∧ SqL K G' fe (fs.map V.int) ∧ fs.length ≠ nd ∧ fs.length ≤ 10) ?_ ?_
    rotate_left
    · intro κ hκ
      refine ⟨_, rfl, Nat.zero_le _, fun e he => ?_⟩
      obtain ⟨G3, B3, u3, e3⟩ := B2.al (o := .lst []) he
      have s3 := (u2.trans u3).trans B3.wd.same
      refine ⟨_, _, .lst (s3.seq hfa) (dpAll_ints p.2), .lst (SqL.of (B3.wd.same _ _ e3)) .nil, shaped_ints p.2, by decide +kernel, _, rfl, ?_⟩
      rw [eqv_nil]
      cases hb : p.2.isEmpty with
      | true =>
        have h0 : p.2.length = 0 := by rw [List.isEmpty_iff.mp hb]; rfl
        refine iteT ?_
        refine ⟨by show 2 ≤ sizeLine; decide, fun f2 hf2 => ?_⟩
        obtain ⟨G4, B4, u4, e4⟩ := B3.al (o := .lst [.int 0, .int 0]) hf2
        exact hκ _ _ ⟨f2, [0, 0], G4, rfl, B4, (u2.trans u3).trans u4, SqL.of e4, by show 2 ≠ nd; omega, by show 2 ≤ 10; decide⟩
      | false =>
        refine iteF ?_
        have hpos : 0 < p.2.length := by
          cases hq : p.2 with
          | nil => rw [hq] at hb; cases hb
          | cons a r => exact Nat.succ_pos _
        refine hκ _ _ ⟨f1, p.2.drop 1, G3, rfl, B3, u2.trans u3, SqL.of (by rw [u3 _ _ e2, show cutV (p.2.map V.int) (some 1) none = (p.2.map V.int).drop 1 from cutFrom _ 0, List.map_drop]), by rw [List.length_drop]; omega, by rw [List.length_drop]; omega⟩
    rintro σ H3 ⟨fe, fs, G3, rfl, B3, u3, hfe, hfn, hf10⟩
    have s3 := u3.trans B3.wd.same
    refine ⟨_, rfl, by show 1 ≤ sizeLine; decide, fun z1 hz1 => ?_⟩
    obtain ⟨G4, B4, u4, e4⟩ := B3.al (o := .lst [.int 0]) hz1
    refine ⟨va, z1, _, _, rfl, rfl, ((u3.trans u4).trans B4.wd.same).seq hva, SqL.of (B4.wd.same _ _ e4), Nat.le_trans (show (p.1.map V.int).length + 1 ≤ 1000 by omega) (by decide), fun q1 hq1 => ?_⟩
    obtain ⟨G5, B5, u5, e5⟩ := B4.al (o := .lst (p.1.map V.int ++ [.int 0])) hq1
    refine ⟨_, rfl, by show 2 ≤ sizeLine; decide, fun t1 ht1 => ?_⟩
    obtain ⟨G6, B6, u6, e6⟩ := B5.al (o := .tup [.ref q1, .ref fa]) ht1
    have v6 := ((u3.trans u4).trans u5).trans u6
    refine ⟨_, rfl, _, rfl, va, _, rfl, (v6.trans B6.wd.same).seq hva, fun q2 hq2 => ?_⟩
    obtain ⟨G7, B7, u7, e7⟩ := B6.al (o := .lst (cutV (p.1.map V.int) (some 1) none)) hq2
    refine ⟨_, rfl, by show 2 ≤ sizeLine; decide, fun t2 ht2 => ?_⟩
    obtain ⟨G8, B8, u8, e8⟩ := B7.al (o := .tup [.ref q2, .ref fa]) ht2
    refine ⟨_, rfl, _, rfl, by show 1 ≤ sizeLine; decide, fun z2 hz2 => ?_⟩
    obtain ⟨G9, B9, u9, e9⟩ := B8.al (o := .lst [.int 0]) hz2
    have v9 := ((v6.trans u7).trans u8).trans u9
    refine ⟨fa, z2, _, _, rfl, rfl, (v9.trans B9.wd.same).seq hfa, SqL.of (B9.wd.same _ _ e9), Nat.le_trans (show (p.2.map V.int).length + 1 ≤ 1000 by omega) (by decide), fun q3 hq3 => ?_⟩
    obtain ⟨G10, B10, u10, e10⟩ := B9.al (o := .lst (p.2.map V.int ++ [.int 0])) hq3
    refine ⟨by show 2 ≤ sizeLine; decide, fun t3 ht3 => ?_⟩
    obtain ⟨G11, B11, u11, e11⟩ := B10.al (o := .tup [.ref va, .ref q3]) ht3
    refine ⟨_, rfl, _, rfl, by show 2 ≤ sizeLine; decide, fun t4 ht4 => ?_⟩
    obtain ⟨G12, B12, u12, e12⟩ := B11.al (o := .tup [.ref va, .ref fe]) ht4
    refine ⟨by show 4 ≤ sizeLine; decide, fun L4 hL4 => ?_⟩
    obtain ⟨G13, B13, u13, e13⟩ := B12.al (o := .lst [.ref t1, .ref t2, .ref t3, .ref t4]) hL4
    refine ⟨_, rfl, b, l, _, _, rfl, by omega, by omega, B13.start, fun r H14 a14 c14 B14 => ?_⟩
    replace B14 := B13.trans B14
    obtain ⟨v, hv14, hvm⟩ := atI_mem (xs := [V.ref t1, V.ref t2, V.ref t3, V.ref t4]) (i := r) a14 (by simpa using c14)
    have w12 := u12.trans u13
    have w11 := u11.trans w12
    have w10 := u10.trans w11
    have w9 := u9.trans w10
    have w8 := u8.trans w9
    have w7 := u7.trans w8
    have w6 := u6.trans w7
    have w5 := u5.trans w6
    have w4 := u4.trans w5
    have w3 := u3.trans w4
    obtain ⟨pr, hpr, hodd, hp1, hp2⟩ : ∃ pr : List Int × List Int, HourT K G13 v pr ∧ ¬ (pr.1.length = nr ∧ pr.2.length = nd) ∧ pr.1.length ≤ 10 ∧ pr.2.length ≤ 10 := by
      simp only [List.mem_cons, List.mem_nil_iff, or_false] at hvm
      rcases hvm with rfl | rfl | rfl | rfl
      · exact ⟨(p.1 ++ [0], p.2), ⟨t1, q1, fa, rfl, SqT.of (w7 _ _ e6), SqL.of (by rw [w6 _ _ e5, List.map_append]; rfl), w3.seq hfa⟩, fun z => by have := z.1; rw [List.length_append] at this; simp at this; omega, by rw [List.length_append]; simp; omega, by show p.2.length ≤ 10; omega⟩
      · exact ⟨(p.1.drop 1, p.2), ⟨t2, q2, fa, rfl, SqT.of (w9 _ _ e8), SqL.of (by rw [w8 _ _ e7, show cutV (p.1.map V.int) (some 1) none = (p.1.map V.int).drop 1 from cutFrom _ 0, List.map_drop]), w3.seq hfa⟩, fun z => by have := z.1; rw [List.length_drop] at this; omega, by rw [List.length_drop]; omega, by show p.2.length ≤ 10; omega⟩
      · exact ⟨(p.1, p.2 ++ [0]), ⟨t3, va, q3, rfl, SqT.of (w12 _ _ e11), w3.seq hva, SqL.of (by rw [w11 _ _ e10, List.map_append]; rfl)⟩, fun z => by have := z.2; rw [List.length_append] at this; simp at this; omega, by show p.1.length ≤ 10; omega, by rw [List.length_append]; simp; omega⟩
      · exact ⟨(p.1, fs), ⟨t4, va, fe, rfl, SqT.of (u13 _ _ e12), w3.seq hva, w4.seq hfe⟩, fun z => hfn z.2, by show p.1.length ≤ 10; omega, hf10⟩
    refine .inl ⟨L4, _, _, v, rfl, rfl, SqL.of (B14.wd.same _ _ e13), hv14, ?_⟩
    have x14 := w3
    have y14 := x14.trans B14.wd.same
    refine ⟨_, rfl, _, rfl, _, rfl, pa, xs, rfl, y14.seq hxs, fun s1 hs1 => ?_⟩
    obtain ⟨G15, B15, u15, e15⟩ := B14.al (o := .lst (cutV xs none (some 1))) hs1
    have x15 := x14.trans u15
    refine ⟨pa, s1, _, _, rfl, rfl, (x15.trans B15.wd.same).seq hxs, SqL.of (B15.wd.same _ _ e15), Nat.le_trans (show _ ≤ 1000 by have := cutV_length xs none (some 1); omega) (by decide), fun s2 hs2 => ?_⟩
    obtain ⟨G16, B16, u16, e16⟩ := B15.al (o := .lst (xs ++ cutV xs none (some 1))) hs2
    have x16 := x15.trans u16
    refine ⟨_, rfl, _, rfl, pa, xs, rfl, (x16.trans B16.wd.same).seq hxs, fun s3' hs3 => ?_⟩
    obtain ⟨G17, B17, u17, e17⟩ := B16.al (o := .lst (cutV xs (some 1) none)) hs3
    have x17 := x16.trans u17
    refine ⟨_, rfl, _, rfl, _, rfl, pa, xs, rfl, (x17.trans B17.wd.same).seq hxs, fun s4 hs4 => ?_⟩
    obtain ⟨G18, B18, u18, e18⟩ := B17.al (o := .lst (cutV xs none (some (i : Int)))) hs4
    refine ⟨_, rfl, by show 1 ≤ sizeLine; decide, fun s5 hs5 => ?_⟩
    obtain ⟨G19, B19, u19, e19⟩ := B18.al (o := .lst [v]) hs5
    refine ⟨s4, s5, _, _, rfl, rfl, SqL.of (B19.wd.same _ _ (u19 _ _ e18)), SqL.of (B19.wd.same _ _ e19), Nat.le_trans (show _ ≤ 1000 by have := cutV_length xs none (some (i : Int)); show _ + 1 ≤ _; omega) (by decide), fun s6 hs6 => ?_⟩
    obtain ⟨G20, B20, u20, e20⟩ := B19.al (o := .lst (cutV xs none (some (i : Int)) ++ [v])) hs6
    have x20 := ((x17.trans u18).trans u19).trans u20
    refine ⟨_, rfl, _, rfl, _, _, rfl, rfl, _, rfl, pa, xs, rfl, (x20.trans B20.wd.same).seq hxs, fun s7 hs7 => ?_⟩
    obtain ⟨G21, B21, u21, e21⟩ := B20.al (o := .lst (cutV xs (some ((i : Int) + 1)) none)) hs7
    refine ⟨s6, s7, _, _, rfl, rfl, SqL.of (B21.wd.same _ _ (u21 _ _ e20)), SqL.of (B21.wd.same _ _ e21), Nat.le_trans (show _ ≤ 1000 by have := cutV_length xs none (some (i : Int)); have := cutV_length xs (some ((i : Int) + 1)) none; rw [List.length_append]; show _ + 1 + _ ≤ _; omega) (by decide), fun s8 hs8 => ?_⟩
    obtain ⟨G22, B22, u22, e22⟩ := B21.al (o := .lst (cutV xs none (some (i : Int)) ++ [v] ++ cutV xs (some ((i : Int) + 1)) none)) hs8
    refine ⟨by show 3 ≤ sizeLine; decide, fun L3 hL3 => ?_⟩
    obtain ⟨G23, B23, u23, e23⟩ := B22.al (o := .lst [.ref s2, .ref s3', .ref s8]) hL3
    refine ⟨_, rfl, b, l, _, _, rfl, by omega, by omega, B23.start, fun r2 H24 a24 c24 B24 => ?_⟩
    replace B24 := B23.trans B24
    obtain ⟨vv, hv24, hvm2⟩ := atI_mem (xs := [V.ref s2, V.ref s3', V.ref s8]) (i := r2) a24 (by simpa using c24)
    have x23 := ((x20.trans u21).trans u22).trans u23
    have y22 := u23
    have y21 := u22.trans y22
    have y20 := u21.trans y21
    have y17 := ((u18.trans u19).trans u20).trans y20
    have y16 := u17.trans y17
    have y13 := (u15.trans u16).trans y16
    have hps := hours_same x23 hpl
    have slimP : ∀ p ∈ pl, p.1.length < 32 ∧ p.2.length < 32 := fun p hp => by have := hfit.2 p hp; omega
    refine .inl ⟨L3, _, _, vv, rfl, rfl, SqL.of (B24.wd.same _ _ e23), hv24, ?_⟩
    simp only [List.mem_cons, List.mem_nil_iff, or_false] at hvm2
    rcases hvm2 with rfl | rfl | rfl
    · refine q _ _ _ (pl ++ pl.take 1) B24 ⟨_, SqL.of (y16 _ _ e16), ?_⟩ ⟨by rw [List.length_append, List.length_take]; omega, fun p hp => ?_⟩ fun z => ?_
      · rw [show cutV xs none (some 1) = xs.take 1 from cutTo xs 1]
        exact paired_append hps (paired_take 1 hps)
      · rcases List.mem_append.mp hp with m | m
        · exact slimP p m
        · exact slimP p (List.mem_of_mem_take m)
      · have := z.1
        rw [List.length_append, List.length_take] at this
        omega
    · refine q _ _ _ (pl.drop 1) B24 ⟨_, SqL.of (y17 _ _ e17), ?_⟩ ⟨by rw [List.length_drop]; omega, fun p hp => slimP p (List.mem_of_mem_drop hp)⟩ fun z => ?_
      · rw [show cutV xs (some 1) none = xs.drop 1 from cutFrom xs 0]
        exact paired_drop 1 hps
      · have := z.1
        rw [List.length_drop] at this
        omega
    · refine q _ _ _ (pl.take i ++ [pr] ++ pl.drop (i + 1)) B24 ⟨_, SqL.of (y22 _ _ e22), ?_⟩ ⟨by rw [List.length_append, List.length_append, List.length_take, List.length_drop]; show _ + 1 + _ < 32; omega, fun p hp => ?_⟩ fun z => ?_
      · rw [cutTo, cutFrom]
        exact paired_append (paired_append (paired_take i hps) (.cons (hpr.same y13) .nil)) (paired_drop (i + 1) hps)
      · rcases List.mem_append.mp hp with m | m
        · rcases List.mem_append.mp m with m | m
          · exact slimP p (List.mem_of_mem_take m)
          · rw [List.mem_singleton.mp m]; omega
        · exact slimP p (List.mem_of_mem_drop m)
      · exact hodd (z.2 pr (List.mem_append.mpr (.inl (List.mem_append.mpr (.inr (List.mem_singleton.mpr rfl))))))
end
end Cr
set_option Elab.async false
set_option linter.all false
set_option maxRecDepth 100000
set_option maxHeartbeats 4000000

namespace Cr
open PySem PySem.Spec PyProof.Rows L2 NdefX
abbrev slaw : Stmt := top 51
abbrev nlaw : List Str := ["_law_script", "_law_box", "_law_rows", "_law_house_here", "_law_plan", "_law_odd_here", "_law_works", "_law_other", "_law_one", "_law_work"]
abbrev alaw : List Str := ["_law_script"]
theorem sclaw : FnScope nlaw alaw (defScope slaw) := ⟨rfl, rfl, rfl, by decide +kernel, rfl, by decide +kernel, by decide +kernel⟩
/-- a def with its own code's table, found by its name -/
theorem CodR.fn {P : Program} {w : World} {K : PySem.W.Frag} {mg : Str → Option Value} {base : Heap} {x : Str} {st : Stmt} {N ps : List Str} {c T f : Addr} {fd : FuncData} {k : Nat} {sp : Sp} (d : CodR K mg base x st ps c T) (F : Fun K x x st f fd) (hm : mg x = some (.ref f)) (S : FnScope N ps (defScope st)) (len : ∀ vs H Q E, sp vs H Q E → vs.length = ps.length)
    (b : GxR.TabB base mg c T → ∀ (A : Around) (outer : List Env) (s : Shared) (H : Hp) (vs : List V) (Q : VK) (E : XK), Room k (A.deeper (envOfC x (defScope st) s.heap.objs.size f (.ref c))) → sp vs H Q E →
      ∃ t, PSs (cxOf CX0 P w K mg base N x (defScope st) f (.ref c) A outer s H E).nox (defBody st) t ∧ t { nx := fun _ H' => Q .non H', rt := Q } (start N vs) H) : FnOk P w K mg base CX0 (k + 1) f fd ps sp := by
  obtain ⟨f', oc, od, kV, doc, pm, an, ct, osl, lk, hcd, hm', _, _, tb⟩ := d
  cases hm.symm.trans hm'
  obtain ⟨oc2, od2, kV2, doc2, pm2, an2, cdv2, ct2, osl2, rfl, lk2, hcd2⟩ := F.ex
  have e := Option.some.inj (lk.symm.trans lk2)
  obtain rfl : cdv2 = .ref c := by
    injection e with e1 e2 e3 e4
    injection e3 with e5
    injection e5 with e1 e2 e3 e4 e5 e6 e7 e8 e9 e10 e11 e12 e13 e14
    simp_all
  exact fn_of lk2 hcd2 S len fun A outer s H vs Q E hr h => let ⟨t, h1, q⟩ := b tb A outer s H vs Q E hr h; ⟨t, h1.nox, q⟩
theorem Tabs.off {Ps : List Addr} {H : Hp} {c : Addr} {o : HO} (t : Tabs Ps H) (e : H c = some o) (n : ∀ ps, o ≠ .tbl ps) : c ∉ Ps := fun h => by
  obtain ⟨ps, e2, _⟩ := t c h
  rw [e] at e2
  exact n ps (Option.some.inj e2)
theorem lamO_ne {f : Addr} {F : LF} {xs : List V} : LamO f F ≠ .lst xs := fun z => by
  unfold LamO at z
  cases z
theorem lamO_nt {f : Addr} {F : LF} (ps : Array Value) : LamO f F ≠ .tbl ps := fun z => by
  unfold LamO at z
  cases z
theorem codeO_nl {c : Addr} {q : Str} {xs : List V} : LamX.CodeO c q ≠ .lst xs := fun z => by
  unfold LamX.CodeO at z
  cases z
abbrev refs (fs : List (Addr × LF)) : List V := fs.map fun p => V.ref p.1
/-- the works, in the list at W -/
structure Works (Ps : List Addr) (G : Hp) (W : Addr) (q : Str) (H : Hp) (fs : List (Addr × LF)) : Prop where
  wd : Wd Ps G H
  tabs : Tabs Ps H
  gW : G W = none
  lst : H W = some (.lst (refs fs))
  all : ∀ p ∈ fs, H p.1 = some (LamO p.1 p.2) ∧ H p.2.c = some (LamX.CodeO p.2.c p.2.qual)
section
variable {Ps : List Addr} {G H H1 : Hp} {W P f : Addr} {q : Str} {F : LF} {fs : List (Addr × LF)}
theorem TabS.offL {W : Addr} {xs : List V} {o : HO} (t : LamX.TabS H P q) (e : H W = some (.lst xs)) : LamX.TabS (upd H W o) P q := by
  obtain ⟨ps, h1, h2, h3⟩ := t
  refine ⟨ps, by rw [upd_ne (ne_of h1 e (fun z => nomatch z))]; exact h1, h2, fun pos cv hc => ?_⟩
  obtain ⟨c, e1, e2⟩ := h3 pos cv hc
  exact ⟨c, e1, by rw [upd_ne (ne_of e2 e codeO_nl)]; exact e2⟩
theorem Lam1.same (l : Lam1 P q H H1 f F) (t0 : LamX.TabS H P q) {b : Addr} {o : HO} (e : H b = some o) (n : ∀ ps, o ≠ .tbl ps) : H1 b = some o := by
  obtain ⟨ps, h1, _⟩ := t0
  exact l.keep b o (fun z => n ps (Option.some.inj (e.symm.trans (z ▸ h1)))) e
theorem Lam1.wd (l : Lam1 P q H H1 f F) (g0 : G P = none) (hP : P ∉ Ps) (w : Wd Ps G H) (t : Tabs Ps H) : Wd Ps G H1 ∧ Tabs Ps H1 := by
  have t1 : Tabs Ps H1 := fun c hc => by
    obtain ⟨ps, e, r⟩ := t c hc
    exact ⟨ps, l.keep c _ (fun z => hP (z ▸ hc)) e, r⟩
  refine ⟨⟨fun b o e => l.keep b o (fun z => by rw [z, g0] at e; cases e) (w.same b o e), w.off, fun c hc => ?_⟩, t1⟩
  obtain ⟨ps, e, _⟩ := t1 c hc
  rw [e]
  exact fun z => nomatch z
theorem Works.first (l : Lam1 P q H H1 f F) (hq : F.qual = q) (g0 : G P = none) (hP : P ∉ Ps) (w : Wd Ps G H) (t : Tabs Ps H) (hW : H1 W = none) : Works Ps G W q (upd H1 W (.lst [.ref f])) [(f, F)] := by
  obtain ⟨w1, t1⟩ := l.wd g0 hP w t
  have g1 := Gr.new (o := .lst [.ref f]) w1 hW
  have s1 := same_new (o := .lst [.ref f]) hW
  refine ⟨g1.wd, t1.same s1, w1.free hW, upd_same, fun p hp => ?_⟩
  rw [List.mem_singleton.mp hp]
  exact ⟨s1 _ _ l.fn, s1 _ _ (by rw [hq]; exact l.code)⟩
theorem Works.add (x : Works Ps G W q H fs) (l : Lam1 P q H H1 f F) (t0 : LamX.TabS H P q) (hq : F.qual = q) (g0 : G P = none) (hP : P ∉ Ps) : H1 W = some (.lst (refs fs)) ∧ Works Ps G W q (upd H1 W (.lst ((refs fs) ++ [.ref f]))) (fs ++ [(f, F)]) := by
  obtain ⟨w1, t1⟩ := l.wd g0 hP x.wd x.tabs
  have e1 := l.same t0 x.lst (fun ps z => nomatch z)
  have k : ∀ c o, H1 c = some o → (∀ xs, o ≠ .lst xs) → upd H1 W (.lst ((refs fs) ++ [.ref f])) c = some o := fun c o e n => by
    rw [upd_ne (ne_of e e1 (n _))]
    exact e
  have hWP : W ∉ Ps := t1.off e1 fun ps z => nomatch z
  refine ⟨e1, ⟨fun b o e => ?_, w1.off, fun c hc => ?_⟩, fun c hc => ?_, x.gW, by rw [upd_same]; unfold refs; rw [List.map_append]; rfl, fun p hp => ?_⟩
  · rw [upd_ne (fun z => by rw [z, x.gW] at e; cases e)]
    exact w1.same _ _ e
  · have ne : c ≠ W := fun z => hWP (by rw [← z]; exact hc)
    rw [upd_ne ne]
    exact w1.on c hc
  · obtain ⟨ps, e, r⟩ := t1 c hc
    exact ⟨ps, k _ _ e (fun xs z => nomatch z), r⟩
  · rcases List.mem_append.mp hp with hp | hp
    · obtain ⟨a1, a2⟩ := x.all p hp
      exact ⟨k _ _ (l.same t0 a1 lamO_nt) (fun xs => lamO_ne), k _ _ (l.same t0 a2 LamX.codeO_ne) (fun xs => codeO_nl)⟩
    · rw [List.mem_singleton.mp hp]
      exact ⟨k _ _ l.fn (fun xs => lamO_ne), k _ _ (by rw [hq]; exact l.code) (fun xs => codeO_nl)⟩
theorem Works.add2 (x : Works Ps G W q H fs) (l : Lam1 P q H H1 f F) (t0 : LamX.TabS H P q) (hq : F.qual = q) (g0 : G P = none) (hP : P ∉ Ps) : H1 W = some (.lst (refs fs)) ∧ Works Ps G W q (upd H1 W (.lst (refs fs ++ [.ref f]))) (fs ++ [(f, F)]) ∧ LamX.TabS (upd H1 W (.lst (refs fs ++ [.ref f]))) P q :=
  let ⟨e, y⟩ := x.add l t0 hq g0 hP
  ⟨e, y, TabS.offL l.tab e⟩
theorem Works.gr (x : Works Ps G W q H fs) (g : Gr Ps G H G H1) (t : Tabs Ps H1) : Works Ps G W q H1 fs :=
  ⟨g.wd, t, x.gW, g.keep _ _ (x.tabs.off x.lst fun ps z => nomatch z) x.lst, fun p hp => let ⟨a1, a2⟩ := x.all p hp; ⟨g.keep _ _ (x.tabs.off a1 lamO_nt) a1, g.keep _ _ (x.tabs.off a2 LamX.codeO_ne) a2⟩⟩
end
section
variable {P : Program} {w : World} {K : PySem.W.Frag} {mg : Str → Option Value} {base : Heap} {ad : Ad} {cBP cL tL : Addr} {Ps : List Addr} {H : Hp}
structure RawA (K : PySem.W.Frag) (mg : Str → Option Value) (base : Heap) (ad : Ad) (cBP : Addr) : Prop extends RawGo K mg base ad cBP, RawSx K mg base ad cBP, RawOd K mg, RawM K mg base ad, RawN K mg, RawCh K mg where
  rf : RawRf K mg ad cBP
def spLaw (K : PySem.W.Frag) (Ps : List Addr) (tL : Addr) : Sp := fun vs H Q _ => ∃ (a : Addr) (ns : List Int), vs = [.ref a] ∧ SqL K H a (ns.map V.int) ∧ ns.length ≤ 63 ∧ Tabs Ps H ∧ H tL = some (.tbl #[]) ∧ ∀ H', Q (.bl true) H'
theorem c_law (T : RawA K mg base ad cBP) (hP : ad.tNum ∈ Ps) (hLP : tL ∉ Ps) (L : CodR K mg base "law" slaw alaw cL tL) {f : Addr} {fd : FuncData} (F : Fun K "law" "law" slaw f fd) (hm : mg "law" = some (.ref f)) : FnOk P w K mg base CX0 9 f fd alaw (spLaw K Ps tL) := by
  refine L.fn F hm sclaw (fun vs H Q E h => ?_) (fun TB A outer s H vs Q E hr h => ?_)
  · obtain ⟨a, ns, rfl, _⟩ := h
    rfl
  · obtain ⟨a, ns, rfl, ha, hn, tbs, hL, q⟩ := h
    have TL : LamX.TabB base mg cL tL := ⟨TB.code, TB.bm, TB.gP⟩
    have k_air := c_air (P := P) (w := w) (Ps := Ps) T.toRawAb
    have k_airs : CalX P w K mg base 4 "airs" (spAirs ad K Ps cBP) := c_airs T.toRawAi k_air
    have k_cost : CalX P w K mg base 3 "cost" (spCost ad K Ps cBP) := c_cost T.toRawCo
    have k_fault : CalX P w K mg base 5 "fault" (spFault2 ad K Ps cBP) := c_fault2 T.toRawFa k_air
    have k_shows : CalX P w K mg base 6 "shows_least" (spShx ad K Ps cBP) := c_shx T.toRawSx
    have k__law_begun : C8.Cal P w K mg base 1 "_law_begun" (spBegun K) [] := c_begun T.toRawL
    have k__law_take : C8.Cal P w K mg base 1 "_law_take" (spTake Ps) [] := c_take T.toRawL
    have k__law_house : C8.Cal P w K mg base 3 "_law_house" (spLHouse K Ps) [] := c_lhouse T.toRawH
    have k__law_made : C8.Cal P w K mg base 6 "_law_made" (spMade ad K Ps) [] := c_made T.toRawM hP
    have k__law_planned : C8.Cal P w K mg base 3 "_law_planned" (spPlanned K Ps) [] := c_planned T.toRawN
    have k__law_changed : C8.Cal P w K mg base 2 "_law_changed" (spChanged K Ps) [] := c_changed T.toRawCh
    have k__law_odd : C8.Cal P w K mg base 2 "_law_odd" (spOdd K Ps) [] := c_odd T.toRawOd
    have k__law_gone : C8.Cal P w K mg base 7 "_law_gone" (spGone ad K Ps) [] := c_gone T.toRawGo
    refine ⟨_, (pss_cons (ps_set (i := 1) sclaw.nd rfl (Or.inl rfl) (C8.pe_c k__law_begun hr (by decide) rfl (pa_cons (pv 0) pa_nil)))
      (pss_cons (ps_set (i := 2) sclaw.nd rfl (Or.inl rfl) (C8.pe_c k__law_house hr (by decide) rfl (pa_cons (pv 1) pa_nil)))
      (pss_cons (ps_set (i := 3) sclaw.nd rfl (Or.inr rfl) (C8.pe_c k__law_made hr (by decide) rfl (pa_cons (pv 2) pa_nil)))
      (pss_cons (ps_set (i := 4) sclaw.nd rfl (Or.inl rfl) (C8.pe_c k__law_planned hr (by decide) rfl (pa_cons (pv 1) (pa_cons (pv 2) pa_nil))))
      (pss_cons (ps_if (pt_cmpR op_eq (C8.pe_c k__law_take hr (by decide) rfl (pa_cons (pv 1) (pa_cons pe_int pa_nil))) pe_int (nomark _))
        (pss_cons (ps_set (i := 5) sclaw.nd rfl (Or.inr rfl) (C8.pe_c k__law_odd hr (by decide) rfl (pa_cons (pv 1) (pa_cons (pv 4) pa_nil))))
      (pss_cons (ps_set (i := 6) sclaw.nd rfl (Or.inl rfl) (pe_lst (pa_cons (pe_lam TL rfl (LamX.lamS_by (sc := defScope slaw) (by decide +kernel)) rfl) pa_nil)))
      (pss_cons (ps_expr (pe_bm PySem.F.plainAttrs_list PySem.F.slot_list_append PySem.F.type_list_append mt_append (pv 6) (pa_cons (pe_lam TL rfl (LamX.lamS_by (sc := defScope slaw) (by decide +kernel)) rfl) pa_nil)))
      (pss_cons (ps_expr (pe_bm PySem.F.plainAttrs_list PySem.F.slot_list_append PySem.F.type_list_append mt_append (pv 6) (pa_cons (pe_lam TL rfl (LamX.lamS_by (sc := defScope slaw) (by decide +kernel)) rfl) pa_nil)))
      (pss_cons (ps_expr (pe_bm PySem.F.plainAttrs_list PySem.F.slot_list_append PySem.F.type_list_append mt_append (pv 6) (pa_cons (pe_lam TL rfl (LamX.lamS_by (sc := defScope slaw) (by decide +kernel)) rfl) pa_nil)))
      (pss_one (ps_ret (pe_cmpR (op_eqD hr.units) (pe_lcE (own := [("_law_work", 9)]) rfl sclaw.nd (pi_list (pv 6)) (blkOk_by (own := [("_law_work", 9)]) (N := nlaw) (sc := defScope slaw) (by decide +kernel)) (fun _ _ _ _ _ => (pg_name (i := 9) sclaw.nd rfl (Or.inl rfl) (Or.inr rfl))) (fun _ _ _ _ _ _ _ I hfp => (pts_work (ad := ad) (Ps := Ps) (fr := frW) (js := [3, 5]) (i := 9) T.rf (fun _ => rfl) hr rfl rfl (Or.inl rfl) I hfp))) (pe_lst pa_nil) (nomark _)))))))))
        pss_nil)
      (pss_cons (ps_if (pt_cmpR op_eq (C8.pe_c k__law_take hr (by decide) rfl (pa_cons (pv 1) (pa_cons pe_int pa_nil))) pe_int (nomark _))
        (pss_one (ps_set (i := 4) sclaw.nd rfl (Or.inl rfl) (C8.pe_c k__law_changed hr (by decide) rfl (pa_cons (pv 1) (pa_cons (pv 4) pa_nil)))))
        pss_nil)
      (pss_cons (ps_set (i := 7) sclaw.nd rfl (Or.inl rfl) (C8.pe_c k__law_changed hr (by decide) rfl (pa_cons (pv 1) (pa_cons (C8.pe_c k__law_planned hr (by decide) rfl (pa_cons (pv 1) (pa_cons (pv 2) pa_nil))) pa_nil))))
      (pss_cons (ps_for PassesOwn.never rfl (pi_list (pe_lst (pa_cons (pv 4) (pa_cons (pv 7) (pa_cons (pv 4) pa_nil))))) (pg_name (i := 8) sclaw.nd rfl (Or.inl rfl))
        (pss_one (ps_if (pt_not (pt_val (C8.pe_c k__law_gone hr (by decide) rfl (pa_cons (pv 3 rfl (Or.inr (Or.inl rfl))) (pa_cons (pv 2) (pa_cons (pv 8) pa_nil))))))
        (pss_one (ps_ret pe_bl))
        pss_nil)))
      (pss_one (ps_ret pe_bl)))))))))), ?_⟩
    refine ⟨_, rfl, a, ns, rfl, ha, hn, fun b l H1 hb hl hbl s1 box => ?_⟩
    have B1 : Bx Ps b l (fun _ => none) H1 (fun _ => none) H1 := by
      refine ⟨Gr.refl ⟨fun _ _ e => (nomatch e), fun _ _ => rfl, fun c hc => ?_⟩, box, tbs.same s1, hbl, tbs.nin hb, tbs.nin hl⟩
      obtain ⟨z, ns', e1, e2, _⟩ := box
      rcases List.mem_cons.mp hc with rfl | hc
      · rw [e1]; exact fun z => nomatch z
      rcases List.mem_cons.mp hc with rfl | hc
      · rw [e2]; exact fun z => nomatch z
      · obtain ⟨ps, e, _⟩ := tbs.same s1 c hc
        rw [e]; exact fun z => nomatch z
    have hL1 : H1 tL = some (.tbl #[]) := s1 _ _ hL
    have nLF : tL ∉ b :: l :: Ps := fun hc => by
      rcases List.mem_cons.mp hc with e | hc
      · rw [e, hb] at hL; cases hL
      rcases List.mem_cons.mp hc with e | hc
      · rw [e, hl] at hL; cases hL
      · exact hLP hc
    refine ⟨_, rfl, b, l, _, rfl, B1, fun t hi ra da sa rs ds ss G2 H2 B2 hR hG => ?_⟩
    have hh1 := hG.h1
    have hh12 := hG.h12
    have hr1 := hG.r1
    have hr6 := hG.r6
    have hd8 := hG.d8
    obtain ⟨h, rfl⟩ : ∃ h : Nat, hi = (h : Int) := ⟨hi.toNat, by omega⟩
    refine ⟨_, rfl, G2, t, _, ra, da, sa, rs, ds, ss, rfl, B2.wdP, B2.tabs, hR, hG, fun x G3 H3 g3 t3 hH => ?_⟩
    have B3 := B2.trans (B2.start.pure g3 t3)
    have hR3 := hR.sm g3.up
    refine ⟨_, rfl, _, rfl, b, l, G3, t, _, ra, da, sa, rs, ds, ss, rfl, B3.start, hR3, hG, fun pa G4 H4 pl B4 hPL hfit => ?_⟩
    have u4 := B4.gr.up
    replace B4 := B3.trans B4
    have hH4 := hH.same u4
    have hR4 := hR3.sm u4
    refine ⟨_, rfl, b, l, _, _, rfl, by omega, by omega, B4.start, fun r5 H5 a5 c5 B5 => ⟨rfl, _, rfl, ?_⟩⟩
    replace B5 := B4.trans B5
    refine ite2 (fun _ => ?_) (fun _ => ?_)
    · -- a plan that does not fit: the works are refused
      refine ⟨_, rfl, _, rfl, b, l, G4, pa, h, rs.length, ds.length, pl, rfl, B5.start, hPL.toA, hfit, by omega, by omega, by omega, by omega, by omega, fun po G6 H6 plo B6 hPo hslo hno => ?_⟩
      have B6' := B5.trans B6
      have hL6 := B6'.gr.keep _ _ nLF hL1
      have gL : G6 tL = none := B6'.gr.fresh tL rfl (by rw [hL1]; exact fun z => nomatch z)
      have hs1 : ∀ (x pa : Addr) (H : Hp) (Q : VK) (E : XK), odds ad K Ps [some (.ref x), some (.ref pa)] H (fun H' => E (.ref cBP) none H') → spAirs ad K Ps cBP [.ref x, .ref pa] H Q E := fun x pa H Q E ⟨G, x', pa', h, rs, ds, ss, pl, e, wd, tb, hH, hP, sl, h0, h32, no, r⟩ => by
        cases e
        exact ⟨G, x, pa, h, rs, ds, ss, pl, rfl, wd, tb, hH, hP, sl, h0, h32, fun hf => absurd hf no, fun _ => r⟩
      have hs2 : ∀ (x pa : Addr) (H : Hp) (Q : VK) (E : XK), odds ad K Ps [some (.ref x), some (.ref pa)] H (fun H' => E (.ref cBP) none H') → spCost ad K Ps cBP [.ref x, .ref pa] H Q E := fun x pa H Q E ⟨G, x', pa', h, rs, ds, ss, pl, e, wd, tb, hH, hP, sl, h0, h32, no, r⟩ => by
        cases e
        exact ⟨G, x, pa, h, rs, ds, ss, pl, rfl, wd, tb, hH, hP, sl, h0, h32, fun hf => absurd hf no, fun _ => r⟩
      have hs3 : ∀ (x pa : Addr) (H : Hp) (Q : VK) (E : XK), odds ad K Ps [some (.ref x), some (.ref pa)] H (fun H' => E (.ref cBP) none H') → spFault2 ad K Ps cBP [.ref x, .ref pa] H Q E := fun x pa H Q E ⟨G, x', pa', h, rs, ds, ss, pl, e, wd, tb, hH, hP, sl, h0, h32, no, r⟩ => by
        cases e
        exact ⟨G, x, pa, h, rs, ds, ss, pl, rfl, wd, tb, hH, hP, sl, h0, h32, fun hf => absurd hf no, fun _ => r⟩
      refine ⟨LamX.TabS.nil hL6, fun f1 c1 H7 M1 => ⟨by show 1 ≤ sizeLine; decide, fun W hW => ?_⟩⟩
      obtain ⟨F1, M1, q1, o1, cp1⟩ : ∃ F, Lam1 tL _ H6 H7 f1 F ∧ F.qual = (cxOf CX0 P w K mg base nlaw "law" (defScope slaw) f (.ref cL) A outer s H E).nox.env.qual ++ ("<lambda>" : Str) ∧ LOk P w K mg base (L2.CX P w) 7 F frW (spWork ad K Ps cBP) ∧ ((cxOf CX0 P w K mg base nlaw "law" (defScope slaw) f (.ref cL) A outer s H E).nox.Ok → Caps (cxOf CX0 P w K mg base nlaw "law" (defScope slaw) f (.ref cL) A outer s H E).nox F.cl frW [3, 5]) :=
        ⟨_, M1, rfl, lok_two k_airs (by decide) hs1 (by decide) rfl (by decide +kernel) rfl (fun _ _ => rfl), fun ok => Caps.made ok (LamX.lamS_by (sc := defScope slaw) (by decide +kernel)).free (by decide +kernel) rfl⟩
      have X1 := Works.first M1 q1 gL hLP B6'.wdP B6'.tabs hW
      have D1 := M1.tab.ext (H' := upd H7 W (.lst [.ref f1])) fun b o e => (upd_ne (ne_of_none e hW)).trans e
      generalize upd H7 W (.lst [.ref f1]) = H8 at *
      refine ⟨_, rfl, .inl ⟨rfl, _, SqL.of X1.lst⟩, D1, fun f2 c2 H9 M2 => ?_⟩
      obtain ⟨F2, M2, q2, o2, cp2⟩ : ∃ F, Lam1 tL _ H8 H9 f2 F ∧ F.qual = (cxOf CX0 P w K mg base nlaw "law" (defScope slaw) f (.ref cL) A outer s H E).nox.env.qual ++ ("<lambda>" : Str) ∧ LOk P w K mg base (L2.CX P w) 7 F frW (spWork ad K Ps cBP) ∧ ((cxOf CX0 P w K mg base nlaw "law" (defScope slaw) f (.ref cL) A outer s H E).nox.Ok → Caps (cxOf CX0 P w K mg base nlaw "law" (defScope slaw) f (.ref cL) A outer s H E).nox F.cl frW [3, 5]) :=
        ⟨_, M2, rfl, lok_two k_cost (by decide) hs2 (by decide) rfl (by decide +kernel) rfl (fun _ _ => rfl), fun ok => Caps.made ok (LamX.lamS_by (sc := defScope slaw) (by decide +kernel)).free (by decide +kernel) rfl⟩
      obtain ⟨e2, X2, D2⟩ := X1.add2 M2 D1 q2 gL hLP
      refine ⟨W, _, _, rfl, rfl, e2, small1000 (by show 1 ≤ 1000; decide), ?_⟩
      generalize hA : upd H9 W (.lst (refs [(f1, F1)] ++ [.ref f2])) = HA at *
      refine ⟨_, rfl, .inl ⟨rfl, _, SqL.of X2.lst⟩, D2, fun f3 c3 HB M3 => ?_⟩
      obtain ⟨F3, M3, q3, o3, cp3⟩ : ∃ F, Lam1 tL _ HA HB f3 F ∧ F.qual = (cxOf CX0 P w K mg base nlaw "law" (defScope slaw) f (.ref cL) A outer s H E).nox.env.qual ++ ("<lambda>" : Str) ∧ LOk P w K mg base (L2.CX P w) 7 F frW (spWork ad K Ps cBP) ∧ ((cxOf CX0 P w K mg base nlaw "law" (defScope slaw) f (.ref cL) A outer s H E).nox.Ok → Caps (cxOf CX0 P w K mg base nlaw "law" (defScope slaw) f (.ref cL) A outer s H E).nox F.cl frW [3, 5]) :=
        ⟨_, M3, rfl, lok_two k_fault (by decide) hs3 (by decide) rfl (by decide +kernel) rfl (fun _ _ => rfl), fun ok => Caps.made ok (LamX.lamS_by (sc := defScope slaw) (by decide +kernel)).free (by decide +kernel) rfl⟩
      obtain ⟨e3, X3, D3⟩ := X2.add2 M3 D2 q3 gL hLP
      refine ⟨W, _, _, rfl, rfl, e3, small1000 (by show 2 ≤ 1000; decide), ?_⟩
      generalize hC : upd HB W (.lst (refs ([(f1, F1)] ++ [(f2, F2)]) ++ [.ref f3])) = HC at *
      refine ⟨_, rfl, .inl ⟨rfl, _, SqL.of X3.lst⟩, D3, fun f4 c4 HD M4 => ?_⟩
      obtain ⟨F4, M4, q4, o4, cp4⟩ : ∃ F, Lam1 tL _ HC HD f4 F ∧ F.qual = (cxOf CX0 P w K mg base nlaw "law" (defScope slaw) f (.ref cL) A outer s H E).nox.env.qual ++ ("<lambda>" : Str) ∧ LOk P w K mg base (L2.CX P w) 7 F frW (spWork ad K Ps cBP) ∧ ((cxOf CX0 P w K mg base nlaw "law" (defScope slaw) f (.ref cL) A outer s H E).nox.Ok → Caps (cxOf CX0 P w K mg base nlaw "law" (defScope slaw) f (.ref cL) A outer s H E).nox F.cl frW [3, 5]) :=
        ⟨_, M4, rfl, lok_four k_shows rfl (by decide +kernel) rfl (fun _ _ => rfl), fun ok => Caps.made ok (LamX.lamS_by (sc := defScope slaw) (by decide +kernel)).free (by decide +kernel) rfl⟩
      obtain ⟨e4, X4, D4⟩ := X3.add2 M4 D3 q4 gL hLP
      refine ⟨W, _, _, rfl, rfl, e4, small1000 (by show 3 ≤ 1000; decide), ?_⟩
      generalize hZ : upd HD W (.lst (refs ([(f1, F1)] ++ [(f2, F2)] ++ [(f3, F3)]) ++ [.ref f4])) = HZ at *
      have oks : ∀ p ∈ [(f1, F1)] ++ [(f2, F2)] ++ [(f3, F3)] ++ [(f4, F4)], LOk P w K mg base (L2.CX P w) 7 p.2 frW (spWork ad K Ps cBP) ∧ ((cxOf CX0 P w K mg base nlaw "law" (defScope slaw) f (.ref cL) A outer s H E).nox.Ok → Caps (cxOf CX0 P w K mg base nlaw "law" (defScope slaw) f (.ref cL) A outer s H E).nox p.2.cl frW [3, 5]) := fun p hp => by
        simp only [List.mem_append, List.mem_singleton] at hp
        rcases hp with ((e | e) | e) | e
        · rw [e]; exact ⟨o1, cp1⟩
        · rw [e]; exact ⟨o2, cp2⟩
        · rw [e]; exact ⟨o3, cp3⟩
        · rw [e]; exact ⟨o4, cp4⟩
      generalize [(f1, F1)] ++ [(f2, F2)] ++ [(f3, F3)] ++ [(f4, F4)] = fs at X4 oks
      have hH6 := hH4.same B6.gr.up
      refine ⟨_, rfl, W, rfl, ⟨_, SqL.of X4.lst⟩, fun D hD => ?_⟩
      have DP : D ∉ Ps := X4.tabs.nin hD
      have gD := Gr.new (o := .lst []) X4.wd hD
      refine lc_list (K := K) (a := W) (xs := refs fs) (te := fun _ _ _ => False) (fun i H' => Works Ps G6 W _ H' fs ∧ H' D = some (.lst [])) ⟨X4.gr gD (X4.tabs.same (same_new hD)), upd_same⟩ (fun i H' _ y => SqL.of y.1.lst) ?_ ?_
      · rintro i y H' hy ⟨X, hDn⟩
        rw [List.getElem?_map] at hy
        obtain ⟨p, hp, rfl⟩ := Option.map_eq_some_iff.mp hy
        have hp := List.mem_of_getElem? hp
        obtain ⟨o, cp⟩ := oks p hp
        obtain ⟨a1, a2⟩ := X.all p hp
        refine ⟨(by (repeat rw [wipe_set (by decide)]); exact wipe_wipe _ _), p.1, p.2, rfl, o, cp, a1, a2, G6, x, po, h, rs, ds, ss, plo, rfl, X.wd, X.tabs, hH6, hPo, hslo, by omega, by omega, hno, fun H'' g t => ?_⟩
        exact ⟨X.gr g t, g.keep _ _ DP hDn⟩
      · rintro H' ⟨X, hDn⟩
        refine ⟨Nat.zero_le _, fun e he => ?_⟩
        refine ⟨_, _, .lst (SqL.of ((upd_ne (ne_of_none hDn he)).trans hDn)) .nil, .lst (SqL.of upd_same) .nil, by decide +kernel, by decide +kernel, ?_⟩
        rw [show PyData.eqv (.list []) (.list []) = true by decide +kernel]
        exact q _
    · -- plans that fit are gone through
      unfold tNext
      dsimp only
      refine seq_ifS (fun σ H' => ∃ (p1 : Addr) (pl1 : Hours) (G1 : Hp), σ = [some (.ref a), some (.ref b), some (.ref t), some (.ref x), some (.ref p1), none, none, none, none, none] ∧ Bx Ps b l (fun _ => none) H1 G1 H' ∧ Same G4 G1 ∧ PlanA K G1 p1 pl1 ∧ fits (h : Int) rs.length ds.length pl1) ?_ ?_
      rotate_left
      · intro κ hκ
        refine ⟨_, rfl, b, l, _, _, rfl, by omega, by omega, B5.start, fun r6 H6 a6 c6 B6 => ⟨rfl, _, rfl, ?_⟩⟩
        replace B6 := B5.trans B6
        refine ite2 (fun _ => ?_) (fun _ => ?_)
        · have hl := hfit.1
          refine ⟨_, rfl, _, rfl, b, l, G4, pa, pl, rs.length, ds.length, rfl, B6.start, hPL.toA, by omega, by omega, by omega, by omega, by omega, hfit.2, fun p1 G7 H7 pl1 B7 hP7 hal => ?_⟩
          exact hκ _ _ ⟨p1, pl1, G7, rfl, B6.trans B7, B7.gr.up, hP7, by rw [hal.1]; exact hl, hal.2⟩
        · exact hκ _ _ ⟨pa, pl, G4, rfl, B6, Same.refl _, hPL.toA, hfit⟩
      rintro σ H7 ⟨p1, pl1, G7, rfl, B7, u7, hP7, hfit7⟩
      have hR7 := hR4.sm u7
      have hH7 := hH4.same u7
      refine ⟨_, rfl, _, rfl, _, rfl, b, l, G7, t, _, ra, da, sa, rs, ds, ss, rfl, B7.start, hR7, hG, fun p8 G8 H8 pl8 B8 hP8 hfit8 => ?_⟩
      have hl8 := hfit8.1
      refine ⟨b, l, G8, p8, pl8, rs.length, ds.length, rfl, B8.trans B8.start |>.start, hP8.toA, by omega, by omega, by omega, by omega, by omega, hfit8.2, fun p9 G9 H9 pl9 B9 hP9 hal9 => ?_⟩
      have u89 := B8.gr.up.trans B9.gr.up
      replace B9 := (B7.trans B8).trans B9
      have hfit9 : fits (h : Int) rs.length ds.length pl9 := ⟨by rw [hal9.1]; exact hl8, hal9.2⟩
      refine ⟨_, rfl, _, rfl, _, rfl, by show 3 ≤ sizeLine; decide, fun W hW => ?_⟩
      obtain ⟨G10, B10, u10, e10⟩ := B9.al (o := .lst [.ref p1, .ref p9, .ref p1]) hW
      have hR10 := hR7.sm (u89.trans u10)
      have hH10 := hH7.same (u89.trans u10)
      have hA10 := hP7.same (u89.trans u10)
      have hB10 := hP9.same u10
      refine ⟨W, rfl, ⟨_, SqL.of (B10.wd.same _ _ e10)⟩, for_list (K := K) (a := W) (xs := [.ref p1, .ref p9, .ref p1]) (fun i σ H' => ∃ o8 : Option V, σ = [some (.ref a), some (.ref b), some (.ref t), some (.ref x), some (.ref p1), none, none, some (.ref p9), o8, none] ∧ Gr Ps G10 _ G10 H' ∧ Tabs Ps H') ⟨_, rfl, Gr.refl B10.wdP, B10.tabs⟩ (fun i σ H' _ ⟨_, _, g, _⟩ => SqL.of (g.wd.same _ _ e10)) ?_ ?_⟩
      · rintro i y σ H' hy ⟨o8, rfl, g, tb⟩
        obtain ⟨py, ply, rfl, hy1, hy2⟩ : ∃ (py : Addr) (ply : Hours), y = .ref py ∧ PlanA K G10 py ply ∧ fits (h : Int) rs.length ds.length ply := by
          have := List.mem_of_getElem? hy
          simp only [List.mem_cons, List.mem_nil_iff, or_false] at this
          rcases this with rfl | rfl | rfl
          · exact ⟨_, _, rfl, hA10, hfit7⟩
          · exact ⟨_, _, rfl, hB10, hfit9⟩
          · exact ⟨_, _, rfl, hA10, hfit7⟩
        refine ⟨_, rfl, _, rfl, _, rfl, G10, x, t, py, h, ra, da, sa, rs, ds, ss, ply, rfl, g.wd, tb, hH10, hR10, hG, hy1, hy2, fun H'' g' t' => ⟨_, rfl, iteF ?_⟩⟩
        exact ⟨_, rfl, g.trans g', t'⟩
      · rintro σ H' ⟨o8, rfl, g, tb⟩
        exact q _
end
end Cr
set_option Elab.async false
set_option linter.all false
set_option maxRecDepth 100000
set_option maxHeartbeats 4000000
namespace Cr
open PySem PySem.Spec PyProof.Rows L2
/-- what the law's promise asks of the head's heap -/
theorem fin_mk {P : Program} {w : World} {K : PySem.W.Frag} {h : Heap} {mg : Str → Option Value} {fa cBadPlan cHouse cAirError cBadHouse cN_numbers_can_be tN_numbers_can_be cBadText cBroken cNoPlan cNlaw tNlaw : Addr} {tMOST_HOURS tMOST_ROOMS tMOST_DOORS tMOST_STAYS tMOST_NUMBER : Tok}
    {nm_BadHouse : Str} {qb_BadHouse : Str} {Nb_BadHouse : Addr} {bs_BadHouse : List Value} {bm_BadHouse : List Value} {sn_BadHouse : List Str} {sub_BadHouse : List Value} {ab_BadHouse : Bool} {col_BadHouse : Option Bool} {dd_BadHouse : Option Addr} {m0_BadHouse : Option Value} {m1_BadHouse : Option Value} {m2_BadHouse : Option Value} {m3_BadHouse : Option Value} {m5_BadHouse : Option Value}
    (KX : K.In h) (G : h.Ns mainGlobals mg) (hfa : mg "law" = some (.ref fa))
    (a_BadPlan : PySem.W.nsIn K mainGlobals "BadPlan" = some (some (.ref cBadPlan)))
    (a_House : PySem.W.nsIn K mainGlobals "House" = some (some (.ref cHouse)))
    (a_AirError : PySem.W.nsIn K mainGlobals "AirError" = some (some (.ref cAirError)))
    (a_BadHouse : PySem.W.nsIn K mainGlobals "BadHouse" = some (some (.ref cBadHouse)))
    (ai_rd : PySem.W.readsIn K cAirError (.type "type") = true)
    (ai_ga : PySem.W.specialIn K (.ref cAirError) "__getattribute__" = some (some (.builtin "type.__getattribute__")))
    (ai_iv : PySem.W.findCls K (.ref cAirError) (.type "type") "__init__" = some (.val (.builtin "ValueError.__init__")))
    (e_BadHouse : ErrF K cBadHouse "BadHouse.__init__" sBadHouse_init)
    (xL_BadHouse : K.lookup cBadHouse = some (excClassObj nm_BadHouse qb_BadHouse cBadHouse Nb_BadHouse bs_BadHouse bm_BadHouse true sn_BadHouse sub_BadHouse ab_BadHouse col_BadHouse dd_BadHouse m0_BadHouse m1_BadHouse m2_BadHouse m3_BadHouse m5_BadHouse "ValueError.__new__"))
    (xR_BadHouse : PySem.HandSPX.refsVE bm_BadHouse = true)
    (f_BadHouse_setattr : PySem.W.findIn K (.ref cBadHouse) "__setattr__" = some (some (.builtin "object.__setattr__")))
    (st_BadHouse_BaseException : PySem.W.subIn K (.ref cBadHouse) (.type "BaseException") = some true)
    (ty_BadHouse : PySem.W.typeIn K (.ref cBadHouse) = some (.type "type"))
    (kp_BadHouse : PySem.W.keepIn K (.ref cBadHouse) = true)
    (f_BadHouse_word : PySem.W.findIn K (.ref cBadHouse) "word" = some none)
    (f_BadHouse_number : PySem.W.findIn K (.ref cBadHouse) "number" = some none)
    (i_House : MetF K cHouse "__init__" "House.__init__" sHouse_init)
    (mk_House : PySem.W.makesIn K cHouse = true)
    (kp_House : PySem.W.keepIn K (.ref cHouse) = true)
    (pg_House : PySem.W.plainGet K cHouse Str.empty = true)
    (hd_House : PySem.W.hasDictIn K cHouse = true)
    (po_House : PySem.W.plainOver K cHouse = true)
    (f_House_setattr : PySem.W.findIn K (.ref cHouse) "__setattr__" = some (some (.builtin "object.__setattr__")))
    (f_House_hours : PySem.W.findIn K (.ref cHouse) "hours" = some none)
    (f_House_rooms_u : PySem.W.findIn K (.ref cHouse) "_rooms" = some none)
    (f_House_doors_u : PySem.W.findIn K (.ref cHouse) "_doors" = some none)
    (f_House_stays_u : PySem.W.findIn K (.ref cHouse) "_stays" = some none)
    (m_House_rooms : MetF K cHouse "rooms" "House.rooms" sHouse_rooms)
    (m_House_doors : MetF K cHouse "doors" "House.doors" sHouse_doors)
    (m_House_stays : MetF K cHouse "stays" "House.stays" sHouse_stays)
    (m_House_use : MetF K cHouse "use" "House.use" sHouse_use)
    (m_House_least : MetF K cHouse "least" "House.least" sHouse_least)
    (m_House__wants : MetF K cHouse "_wants" "House._wants" sHouse__wants)
    (d__check_counts : DefF K "_check_counts" s_check_counts)
    (d__check_parts : DefF K "_check_parts" s_check_parts)
    (d__room_can_be : DefF K "_room_can_be" s_room_can_be)
    (d__door_can_be : DefF K "_door_can_be" s_door_can_be)
    (d__stay_can_be : DefF K "_stay_can_be" s_stay_can_be)
    (aT_numbers_can_be : PySem.W.tabIn K "_numbers_can_be" = some (cN_numbers_can_be, tN_numbers_can_be))
    (nc_numbers_can_be : CodF K "_numbers_can_be" s_numbers_can_be cN_numbers_can_be)
    (g_MOST_HOURS : PySem.W.nsIn K mainGlobals "MOST_HOURS" = some (some (.int 12 tMOST_HOURS)))
    (g_MOST_ROOMS : PySem.W.nsIn K mainGlobals "MOST_ROOMS" = some (some (.int 6 tMOST_ROOMS)))
    (g_MOST_DOORS : PySem.W.nsIn K mainGlobals "MOST_DOORS" = some (some (.int 8 tMOST_DOORS)))
    (g_MOST_STAYS : PySem.W.nsIn K mainGlobals "MOST_STAYS" = some (some (.int 20 tMOST_STAYS)))
    (g_MOST_NUMBER : PySem.W.nsIn K mainGlobals "MOST_NUMBER" = some (some (.int 999 tMOST_NUMBER)))
    (z_all : PySem.W.nsIn K mainGlobals "all" = some none)
    (z_len : PySem.W.nsIn K mainGlobals "len" = some none)
    (z_max : PySem.W.nsIn K mainGlobals "max" = some none)
    (z_sum : PySem.W.nsIn K mainGlobals "sum" = some none)
    (z_list : PySem.W.nsIn K mainGlobals "list" = some none)
    (z_enumerate : PySem.W.nsIn K mainGlobals "enumerate" = some none)
    (d__law_begun : DefF K "_law_begun" s_law_begun)
    (d__law_take : DefF K "_law_take" s_law_take)
    (d__law_alike : DefF K "_law_alike" s_law_alike)
    (z_int : PySem.W.nsIn K mainGlobals "int" = some none)
    (z_bool : PySem.W.nsIn K mainGlobals "bool" = some none)
    (z_str : PySem.W.nsIn K mainGlobals "str" = some none)
    (z_tuple : PySem.W.nsIn K mainGlobals "tuple" = some none)
    (z_isinstance : PySem.W.nsIn K mainGlobals "isinstance" = some none)
    (z_range : PySem.W.nsIn K mainGlobals "range" = some none)
    (d__law_stay : DefF K "_law_stay" s_law_stay)
    (d__law_house : DefF K "_law_house" s_law_house)
    (z_min : PySem.W.nsIn K mainGlobals "min" = some none)
    (d__law_here : DefF K "_law_here" s_law_here)
    (d__law_use : DefF K "_law_use" s_law_use)
    (d__law_least : DefF K "_law_least" s_law_least)
    (d_check_plan : DefF K "check_plan" scheck_plan)
    (q_BadPlan : PySem.W.excIn K cBadPlan [.type "ValueError", .type "Exception", .type "BaseException", .type "object"] "ValueError.__new__" = true)
    (kp_BadPlan : PySem.W.keepIn K (.ref cBadPlan) = true)
    (st_BadPlan_BaseException : PySem.W.subIn K (.ref cBadPlan) (.type "BaseException") = some true)
    (ty_BadPlan : PySem.W.typeIn K (.ref cBadPlan) = some (.type "type"))
    (d__law_made : DefF K "_law_made" s_law_made)
    (d__law_planned : DefF K "_law_planned" s_law_planned)
    (d__law_cost : DefF K "_law_cost" s_law_cost)
    (d__law_airs : DefF K "_law_airs" s_law_airs)
    (d__law_fault : DefF K "_law_fault" s_law_fault)
    (z_abs : PySem.W.nsIn K mainGlobals "abs" = some none)
    (d_cost : DefF K "cost" scost)
    (z_zip : PySem.W.nsIn K mainGlobals "zip" = some none)
    (d_airs : DefF K "airs" sairs)
    (d_limits_kept : DefF K "limits_kept" slimits_kept)
    (d_fault : DefF K "fault" sfault)
    (d_air_behind : DefF K "air_behind" sair_behind)
    (d__law_refused : DefF K "_law_refused" s_law_refused)
    (st_AirError_BaseException : PySem.W.subIn K (.ref cAirError) (.type "BaseException") = some true)
    (ic_AirError : PySem.W.isClsIn K cAirError = true)
    (ty_AirError : PySem.W.typeIn K (.ref cAirError) = some (.type "type"))
    (sb_BadPlan_AirError : PySem.W.subIn K (.ref cBadPlan) (.ref cAirError) = some true)
    (f_BadPlan_getattribute : PySem.W.findIn K (.ref cBadPlan) "__getattribute__" = some (some (.builtin "BaseException.__getattribute__")))
    (f_BadPlan_getattr : PySem.W.findIn K (.ref cBadPlan) "__getattr__" = some none)
    (f_BadPlan_class : PySem.W.findIn K (.ref cBadPlan) "__class__" = some (some (.builtin "object.__class__")))
    (sp_class : PySem.W.specialIn K (.builtin "object.__class__") "__get__" = some (some (.builtin "getset_descriptor.__get__")))
    (tk_class : PySem.W.takesIn K (.builtin "object.__class__") = some true)
    (mr_BadPlan : PySem.W.mroIn K cBadPlan (.type "object") = some true)
    (hd_BadPlan : PySem.W.hasDictIn K cBadPlan = true)
    (es_BadPlan : (Value.ref cBadPlan == Value.ref cBadPlan) = true)
    (nt_BadPlan_ValueError : (Value.ref cBadPlan == Value.type "ValueError") = false)
    (vm_ValueError : PySem.W.kitMeta "ValueError" = true)
    (st_BadPlan_ValueError : PySem.W.subIn K (.ref cBadPlan) (.type "ValueError") = some true)
    (z_ValueError : PySem.W.nsIn K mainGlobals "ValueError" = some none)
    (ne_BadPlan_BadHouse : (Value.ref cBadPlan == Value.ref cBadHouse) = false)
    (ic_BadHouse : PySem.W.isClsIn K cBadHouse = true)
    (sb_BadPlan_BadHouse : PySem.W.subIn K (.ref cBadPlan) (.ref cBadHouse) = some false)
    (a_BadText : PySem.W.nsIn K mainGlobals "BadText" = some (some (.ref cBadText)))
    (ne_BadPlan_BadText : (Value.ref cBadPlan == Value.ref cBadText) = false)
    (ic_BadText : PySem.W.isClsIn K cBadText = true)
    (ty_BadText : PySem.W.typeIn K (.ref cBadText) = some (.type "type"))
    (sb_BadPlan_BadText : PySem.W.subIn K (.ref cBadPlan) (.ref cBadText) = some false)
    (a_Broken : PySem.W.nsIn K mainGlobals "Broken" = some (some (.ref cBroken)))
    (ne_BadPlan_Broken : (Value.ref cBadPlan == Value.ref cBroken) = false)
    (ic_Broken : PySem.W.isClsIn K cBroken = true)
    (ty_Broken : PySem.W.typeIn K (.ref cBroken) = some (.type "type"))
    (sb_BadPlan_Broken : PySem.W.subIn K (.ref cBadPlan) (.ref cBroken) = some false)
    (a_NoPlan : PySem.W.nsIn K mainGlobals "NoPlan" = some (some (.ref cNoPlan)))
    (ne_BadPlan_NoPlan : (Value.ref cBadPlan == Value.ref cNoPlan) = false)
    (ic_NoPlan : PySem.W.isClsIn K cNoPlan = true)
    (ty_NoPlan : PySem.W.typeIn K (.ref cNoPlan) = some (.type "type"))
    (sb_BadPlan_NoPlan : PySem.W.subIn K (.ref cBadPlan) (.ref cNoPlan) = some false)
    (d__law_gone : DefF K "_law_gone" s_law_gone)
    (d__prices_fit : DefF K "_prices_fit" s_prices_fit)
    (d_bound : DefF K "bound" sbound)
    (d_shows_least : DefF K "shows_least" sshows_least)
    (d__law_odd : DefF K "_law_odd" s_law_odd)
    (d__law_changed : DefF K "_law_changed" s_law_changed)
    (aTlaw : PySem.W.tabIn K "law" = some (cNlaw, tNlaw))
    (nclaw : CodF K "law" slaw cNlaw)
    (ntl : tNlaw ≠ tN_numbers_can_be)
    (d_law : DefF K "law" slaw) :
    ∃ fd : FuncData, (∀ (s : Shared) (v : Value), BindsTo s fd ⟨[v], []⟩ [("_law_script", v)]) ∧ ∀ base : Heap, K.In base → base.Ns mainGlobals mg → GxR.TabB base mg cN_numbers_can_be tN_numbers_can_be → GxR.TabB base mg cNlaw tNlaw → FnOk P w K mg base CX0 9 fa fd ["_law_script"] (spLaw K [tN_numbers_can_be] tNlaw) := by
  have L : DefR K mg "law" slaw alaw := (d_law.r KX G (fun _ _ _ _ _ _ us hl => match us, hl with | [_], _ => rfl))
  obtain ⟨f, fd, FL, hm, bi⟩ := id L
  have e := hfa.symm.trans hm
  cases e
  refine ⟨fd, fun s v => ?_, fun base hb hg TB_numbers_can_be TBlaw => ?_⟩
  · obtain ⟨oc, od, kV, doc, pm, an, cd, ct, sl, efd, _⟩ := FL.ex
    subst efd
    exact .of_eq rfl
  · have RP : RawP K mg base ⟨cHouse, cAirError, .type "type", cBadHouse, cN_numbers_can_be, tN_numbers_can_be⟩ := {
      airI := ⟨ai_rd, ai_ga, ai_iv⟩, m_AirError := (PySem.W.mg_of KX G a_AirError), bh := (e_BadHouse.r (show OexC K cBadHouse from ⟨⟨nm_BadHouse, qb_BadHouse, Nb_BadHouse, bs_BadHouse, bm_BadHouse, sn_BadHouse, sub_BadHouse, ab_BadHouse, col_BadHouse, dd_BadHouse, m0_BadHouse, m1_BadHouse, m2_BadHouse, m3_BadHouse, m5_BadHouse, xL_BadHouse, xR_BadHouse⟩, f_BadHouse_setattr, st_BadHouse_BaseException, ty_BadHouse, kp_BadHouse⟩) (PySem.W.mg_of KX G a_BadHouse) (fun _ _ _ _ _ _ us hl => match us, hl with | [_, _, _], _ => rfl)), bhw := f_BadHouse_word, bhn := f_BadHouse_number
      hi := (i_House.ini (PySem.W.mg_of KX G a_House) mk_House kp_House (fun _ _ _ _ _ _ us hl => match us, hl with | [_, _, _, _, _], _ => rfl)), hcl := ⟨pg_House, hd_House, po_House, f_House_setattr⟩, hnh := f_House_hours, hnr := f_House_rooms_u, hnd := f_House_doors_u, hns := f_House_stays_u
      hro := (m_House_rooms.r (fun _ _ _ _ _ _ us hl => match us, hl with | [_], _ => rfl))
      hdo := (m_House_doors.r (fun _ _ _ _ _ _ us hl => match us, hl with | [_], _ => rfl))
      hst := (m_House_stays.r (fun _ _ _ _ _ _ us hl => match us, hl with | [_], _ => rfl))
      hus := (m_House_use.r (fun _ _ _ _ _ _ us hl => match us, hl with | [_, _, _], _ => rfl))
      hle := (m_House_least.r (fun _ _ _ _ _ _ us hl => match us, hl with | [_, _, _], _ => rfl))
      hwa := (m_House__wants.r (fun _ _ _ _ _ _ us hl => match us, hl with | [_, _, _], _ => rfl))
      cc := (d__check_counts.r KX G (fun _ _ _ _ _ _ us hl => match us, hl with | [_, _, _, _], _ => rfl))
      cp := (d__check_parts.r KX G (fun _ _ _ _ _ _ us hl => match us, hl with | [_, _, _, _], _ => rfl))
      rc := (d__room_can_be.r KX G (fun _ _ _ _ _ _ us hl => match us, hl with | [_], _ => rfl))
      dc := (d__door_can_be.r KX G (fun _ _ _ _ _ _ us hl => match us, hl with | [_, _], _ => rfl))
      sc := (d__stay_can_be.r KX G (fun _ _ _ _ _ _ us hl => match us, hl with | [_, _, _], _ => rfl))
      nc := (nc_numbers_can_be.r KX G TB_numbers_can_be (fun _ _ _ _ _ _ us hl => match us, hl with | [_], _ => rfl))
      gH := ⟨_, PySem.W.mg_of KX G g_MOST_HOURS⟩
      gR := ⟨_, PySem.W.mg_of KX G g_MOST_ROOMS⟩
      gD := ⟨_, PySem.W.mg_of KX G g_MOST_DOORS⟩
      gS := ⟨_, PySem.W.mg_of KX G g_MOST_STAYS⟩
      gN := ⟨_, PySem.W.mg_of KX G g_MOST_NUMBER⟩
      b_all := PySem.W.mg_none_of KX G z_all, b_len := PySem.W.mg_none_of KX G z_len, b_max := PySem.W.mg_none_of KX G z_max, b_sum := PySem.W.mg_none_of KX G z_sum, b_list := PySem.W.mg_none_of KX G z_list, b_enumerate := PySem.W.mg_none_of KX G z_enumerate }
    have RL : RawL K mg := {
      begun := (d__law_begun.r KX G (fun _ _ _ _ _ _ us hl => match us, hl with | [_], _ => rfl)), take := (d__law_take.r KX G (fun _ _ _ _ _ _ us hl => match us, hl with | [_, _], _ => rfl))
      alike := (d__law_alike.r KX G (fun _ _ _ _ _ _ us hl => match us, hl with | [_, _], _ => rfl))
      b_len := PySem.W.mg_none_of KX G z_len, b_list := PySem.W.mg_none_of KX G z_list, b_int := PySem.W.mg_none_of KX G z_int, b_bool := PySem.W.mg_none_of KX G z_bool, b_str := PySem.W.mg_none_of KX G z_str, b_tuple := PySem.W.mg_none_of KX G z_tuple, b_isinstance := PySem.W.mg_none_of KX G z_isinstance, b_range := PySem.W.mg_none_of KX G z_range }
    have RH : RawH K mg := { RL with lstay := (d__law_stay.r KX G (fun _ _ _ _ _ _ us hl => match us, hl with | [_, _, _], _ => rfl)), lhouse := (d__law_house.r KX G (fun _ _ _ _ _ _ us hl => match us, hl with | [_], _ => rfl)), b_min := PySem.W.mg_none_of KX G z_min }
    have RU : RawU K mg := { RH with lhere := (d__law_here.r KX G (fun _ _ _ _ _ _ us hl => match us, hl with | [_, _, _], _ => rfl)), luse := (d__law_use.r KX G (fun _ _ _ _ _ _ us hl => match us, hl with | [_, _, _], _ => rfl)), lleast := (d__law_least.r KX G (fun _ _ _ _ _ _ us hl => match us, hl with | [_, _, _], _ => rfl)), b_sum := PySem.W.mg_none_of KX G z_sum, b_max := PySem.W.mg_none_of KX G z_max }
    have RPl : RawPl K mg base ⟨cHouse, cAirError, .type "type", cBadHouse, cN_numbers_can_be, tN_numbers_can_be⟩ cBadPlan := { RP with chk := (d_check_plan.r KX G (fun _ _ _ _ _ _ us hl => match us, hl with | [_, _], _ => rfl)), bpQ := q_BadPlan, bpM := (PySem.W.mg_of KX G a_BadPlan), bpK := kp_BadPlan, bpS := st_BadPlan_BaseException, bpT := ty_BadPlan }
    have RM : RawM K mg base ⟨cHouse, cAirError, .type "type", cBadHouse, cN_numbers_can_be, tN_numbers_can_be⟩ := { RH, RP with made := (d__law_made.r KX G (fun _ _ _ _ _ _ us hl => match us, hl with | [_], _ => rfl)) }
    have RN : RawN K mg := { RU with plnd := (d__law_planned.r KX G (fun _ _ _ _ _ _ us hl => match us, hl with | [_, _], _ => rfl)) }
    have RLf : RawLf K mg := { RU with lcost := (d__law_cost.r KX G (fun _ _ _ _ _ _ us hl => match us, hl with | [_, _], _ => rfl)), lairs := (d__law_airs.r KX G (fun _ _ _ _ _ _ us hl => match us, hl with | [_, _], _ => rfl)), lfault := (d__law_fault.r KX G (fun _ _ _ _ _ _ us hl => match us, hl with | [_, _], _ => rfl)), b_abs := PySem.W.mg_none_of KX G z_abs }
    have RCo : RawCo K mg base ⟨cHouse, cAirError, .type "type", cBadHouse, cN_numbers_can_be, tN_numbers_can_be⟩ cBadPlan := { RPl with co := (d_cost.r KX G (fun _ _ _ _ _ _ us hl => match us, hl with | [_, _], _ => rfl)), b_zip := PySem.W.mg_none_of KX G z_zip }
    have RFa : RawFa K mg base ⟨cHouse, cAirError, .type "type", cBadHouse, cN_numbers_can_be, tN_numbers_can_be⟩ cBadPlan := { RCo with ai := (d_airs.r KX G (fun _ _ _ _ _ _ us hl => match us, hl with | [_, _], _ => rfl)), lk := (d_limits_kept.r KX G (fun _ _ _ _ _ _ us hl => match us, hl with | [_, _, _], _ => rfl)), fa := (d_fault.r KX G (fun _ _ _ _ _ _ us hl => match us, hl with | [_, _], _ => rfl)) }
    have RAb : RawAb K mg base ⟨cHouse, cAirError, .type "type", cBadHouse, cN_numbers_can_be, tN_numbers_can_be⟩ := { RP with ab := (d_air_behind.r KX G (fun _ _ _ _ _ _ us hl => match us, hl with | [_, _, _, _, _], _ => rfl)), b_zip := PySem.W.mg_none_of KX G z_zip }
    have RRf : RawRf K mg ⟨cHouse, cAirError, .type "type", cBadHouse, cN_numbers_can_be, tN_numbers_can_be⟩ cBadPlan := { lref := (d__law_refused.r KX G (fun _ _ _ _ _ _ us hl => match us, hl with | [_], _ => rfl)), exA := (exm_own st_AirError_BaseException ic_AirError ty_AirError sb_BadPlan_AirError), exC := ⟨f_BadPlan_getattribute, f_BadPlan_getattr, st_BadPlan_BaseException, hd_BadPlan, f_BadPlan_class, sp_class, tk_class, mr_BadPlan⟩, kBP := (kit_self es_BadPlan), iVE := (kit_bltn nt_BadPlan_ValueError vm_ValueError st_BadPlan_ValueError), bpM := (PySem.W.mg_of KX G a_BadPlan), mA := (PySem.W.mg_of KX G a_AirError), b_ValueError := PySem.W.mg_none_of KX G z_ValueError, b_isinstance := PySem.W.mg_none_of KX G z_isinstance, gBH := ⟨cBadHouse, (PySem.W.mg_of KX G a_BadHouse), (kit_own ne_BadPlan_BadHouse ic_BadHouse ty_BadHouse sb_BadPlan_BadHouse)⟩, gBT := ⟨cBadText, (PySem.W.mg_of KX G a_BadText), (kit_own ne_BadPlan_BadText ic_BadText ty_BadText sb_BadPlan_BadText)⟩, gBr := ⟨cBroken, (PySem.W.mg_of KX G a_Broken), (kit_own ne_BadPlan_Broken ic_Broken ty_Broken sb_BadPlan_Broken)⟩, gNP := ⟨cNoPlan, (PySem.W.mg_of KX G a_NoPlan), (kit_own ne_BadPlan_NoPlan ic_NoPlan ty_NoPlan sb_BadPlan_NoPlan)⟩ }
    have RGo : RawGo K mg base ⟨cHouse, cAirError, .type "type", cBadHouse, cN_numbers_can_be, tN_numbers_can_be⟩ cBadPlan := { RFa, RAb, RLf with lgon := (d__law_gone.r KX G (fun _ _ _ _ _ _ us hl => match us, hl with | [_, _, _], _ => rfl)) }
    have RSx : RawSx K mg base ⟨cHouse, cAirError, .type "type", cBadHouse, cN_numbers_can_be, tN_numbers_can_be⟩ cBadPlan := { RFa, RAb with pfi0 := (d__prices_fit.r KX G (fun _ _ _ _ _ _ us hl => match us, hl with | [_, _], _ => rfl)), bnd0 := (d_bound.r KX G (fun _ _ _ _ _ _ us hl => match us, hl with | [_, _], _ => rfl)), shl := (d_shows_least.r KX G (fun _ _ _ _ _ _ us hl => match us, hl with | [_, _, _, _], _ => rfl)) }
    have ROd : RawOd K mg := { RL with lodd := (d__law_odd.r KX G (fun _ _ _ _ _ _ us hl => match us, hl with | [_, _], _ => rfl)) }
    have RCh : RawCh K mg := { RLf with lchg := (d__law_changed.r KX G (fun _ _ _ _ _ _ us hl => match us, hl with | [_, _], _ => rfl)) }
    have RA : RawA K mg base ⟨cHouse, cAirError, .type "type", cBadHouse, cN_numbers_can_be, tN_numbers_can_be⟩ cBadPlan := { RGo, RSx, ROd, RM, RN, RCh with rf := RRf }
    exact c_law RA (by simp) (by simpa using ntl) (nclaw.r KX G TBlaw (fun _ _ _ _ _ _ us hl => match us, hl with | [_], _ => rfl)) FL hfa
theorem law_at {l : PySem.W.OpenLaw} {p : Program} {lo : List Str} {mean : ExcName → Option Value} {mb : Str → Option Value} {d_numbers_can_be : DefRec} {dlaw : DefRec} {w : World} {K : PySem.W.Frag} {h : Heap} {mg : Str → Option Value} {fa cBadPlan cHouse cAirError cBadHouse cN_numbers_can_be tN_numbers_can_be cBadText cBroken cNoPlan cNlaw tNlaw : Addr} {tMOST_HOURS tMOST_ROOMS tMOST_DOORS tMOST_STAYS tMOST_NUMBER : Tok}
    {nm_BadHouse : Str} {qb_BadHouse : Str} {Nb_BadHouse : Addr} {bs_BadHouse : List Value} {bm_BadHouse : List Value} {sn_BadHouse : List Str} {sub_BadHouse : List Value} {ab_BadHouse : Bool} {col_BadHouse : Option Bool} {dd_BadHouse : Option Addr} {m0_BadHouse : Option Value} {m1_BadHouse : Option Value} {m2_BadHouse : Option Value} {m3_BadHouse : Option Value} {m5_BadHouse : Option Value}
    (T : Top p lo mean mg mb h) (KX : K.In h) (G : h.Ns mainGlobals mg) (hfa : mg "law" = some (.ref fa)) (tr_numbers_can_be : (recsOf p).find? (fun e => e.name == ("_numbers_can_be" : Str)) = some d_numbers_can_be) (trlaw : (recsOf p).find? (fun e => e.name == ("law" : Str)) = some dlaw)
    (a_BadPlan : PySem.W.nsIn K mainGlobals "BadPlan" = some (some (.ref cBadPlan)))
    (a_House : PySem.W.nsIn K mainGlobals "House" = some (some (.ref cHouse)))
    (a_AirError : PySem.W.nsIn K mainGlobals "AirError" = some (some (.ref cAirError)))
    (a_BadHouse : PySem.W.nsIn K mainGlobals "BadHouse" = some (some (.ref cBadHouse)))
    (ai_rd : PySem.W.readsIn K cAirError (.type "type") = true)
    (ai_ga : PySem.W.specialIn K (.ref cAirError) "__getattribute__" = some (some (.builtin "type.__getattribute__")))
    (ai_iv : PySem.W.findCls K (.ref cAirError) (.type "type") "__init__" = some (.val (.builtin "ValueError.__init__")))
    (e_BadHouse : ErrF K cBadHouse "BadHouse.__init__" sBadHouse_init)
    (xL_BadHouse : K.lookup cBadHouse = some (excClassObj nm_BadHouse qb_BadHouse cBadHouse Nb_BadHouse bs_BadHouse bm_BadHouse true sn_BadHouse sub_BadHouse ab_BadHouse col_BadHouse dd_BadHouse m0_BadHouse m1_BadHouse m2_BadHouse m3_BadHouse m5_BadHouse "ValueError.__new__"))
    (xR_BadHouse : PySem.HandSPX.refsVE bm_BadHouse = true)
    (f_BadHouse_setattr : PySem.W.findIn K (.ref cBadHouse) "__setattr__" = some (some (.builtin "object.__setattr__")))
    (st_BadHouse_BaseException : PySem.W.subIn K (.ref cBadHouse) (.type "BaseException") = some true)
    (ty_BadHouse : PySem.W.typeIn K (.ref cBadHouse) = some (.type "type"))
    (kp_BadHouse : PySem.W.keepIn K (.ref cBadHouse) = true)
    (f_BadHouse_word : PySem.W.findIn K (.ref cBadHouse) "word" = some none)
    (f_BadHouse_number : PySem.W.findIn K (.ref cBadHouse) "number" = some none)
    (i_House : MetF K cHouse "__init__" "House.__init__" sHouse_init)
    (mk_House : PySem.W.makesIn K cHouse = true)
    (kp_House : PySem.W.keepIn K (.ref cHouse) = true)
    (pg_House : PySem.W.plainGet K cHouse Str.empty = true)
    (hd_House : PySem.W.hasDictIn K cHouse = true)
    (po_House : PySem.W.plainOver K cHouse = true)
    (f_House_setattr : PySem.W.findIn K (.ref cHouse) "__setattr__" = some (some (.builtin "object.__setattr__")))
    (f_House_hours : PySem.W.findIn K (.ref cHouse) "hours" = some none)
    (f_House_rooms_u : PySem.W.findIn K (.ref cHouse) "_rooms" = some none)
    (f_House_doors_u : PySem.W.findIn K (.ref cHouse) "_doors" = some none)
    (f_House_stays_u : PySem.W.findIn K (.ref cHouse) "_stays" = some none)
    (m_House_rooms : MetF K cHouse "rooms" "House.rooms" sHouse_rooms)
    (m_House_doors : MetF K cHouse "doors" "House.doors" sHouse_doors)
    (m_House_stays : MetF K cHouse "stays" "House.stays" sHouse_stays)
    (m_House_use : MetF K cHouse "use" "House.use" sHouse_use)
    (m_House_least : MetF K cHouse "least" "House.least" sHouse_least)
    (m_House__wants : MetF K cHouse "_wants" "House._wants" sHouse__wants)
    (d__check_counts : DefF K "_check_counts" s_check_counts)
    (d__check_parts : DefF K "_check_parts" s_check_parts)
    (d__room_can_be : DefF K "_room_can_be" s_room_can_be)
    (d__door_can_be : DefF K "_door_can_be" s_door_can_be)
    (d__stay_can_be : DefF K "_stay_can_be" s_stay_can_be)
    (aT_numbers_can_be : PySem.W.tabIn K "_numbers_can_be" = some (cN_numbers_can_be, tN_numbers_can_be))
    (nc_numbers_can_be : CodF K "_numbers_can_be" s_numbers_can_be cN_numbers_can_be)
    (g_MOST_HOURS : PySem.W.nsIn K mainGlobals "MOST_HOURS" = some (some (.int 12 tMOST_HOURS)))
    (g_MOST_ROOMS : PySem.W.nsIn K mainGlobals "MOST_ROOMS" = some (some (.int 6 tMOST_ROOMS)))
    (g_MOST_DOORS : PySem.W.nsIn K mainGlobals "MOST_DOORS" = some (some (.int 8 tMOST_DOORS)))
    (g_MOST_STAYS : PySem.W.nsIn K mainGlobals "MOST_STAYS" = some (some (.int 20 tMOST_STAYS)))
    (g_MOST_NUMBER : PySem.W.nsIn K mainGlobals "MOST_NUMBER" = some (some (.int 999 tMOST_NUMBER)))
    (z_all : PySem.W.nsIn K mainGlobals "all" = some none)
    (z_len : PySem.W.nsIn K mainGlobals "len" = some none)
    (z_max : PySem.W.nsIn K mainGlobals "max" = some none)
    (z_sum : PySem.W.nsIn K mainGlobals "sum" = some none)
    (z_list : PySem.W.nsIn K mainGlobals "list" = some none)
    (z_enumerate : PySem.W.nsIn K mainGlobals "enumerate" = some none)
    (d__law_begun : DefF K "_law_begun" s_law_begun)
    (d__law_take : DefF K "_law_take" s_law_take)
    (d__law_alike : DefF K "_law_alike" s_law_alike)
    (z_int : PySem.W.nsIn K mainGlobals "int" = some none)
    (z_bool : PySem.W.nsIn K mainGlobals "bool" = some none)
    (z_str : PySem.W.nsIn K mainGlobals "str" = some none)
    (z_tuple : PySem.W.nsIn K mainGlobals "tuple" = some none)
    (z_isinstance : PySem.W.nsIn K mainGlobals "isinstance" = some none)
    (z_range : PySem.W.nsIn K mainGlobals "range" = some none)
    (d__law_stay : DefF K "_law_stay" s_law_stay)
    (d__law_house : DefF K "_law_house" s_law_house)
    (z_min : PySem.W.nsIn K mainGlobals "min" = some none)
    (d__law_here : DefF K "_law_here" s_law_here)
    (d__law_use : DefF K "_law_use" s_law_use)
    (d__law_least : DefF K "_law_least" s_law_least)
    (d_check_plan : DefF K "check_plan" scheck_plan)
    (q_BadPlan : PySem.W.excIn K cBadPlan [.type "ValueError", .type "Exception", .type "BaseException", .type "object"] "ValueError.__new__" = true)
    (kp_BadPlan : PySem.W.keepIn K (.ref cBadPlan) = true)
    (st_BadPlan_BaseException : PySem.W.subIn K (.ref cBadPlan) (.type "BaseException") = some true)
    (ty_BadPlan : PySem.W.typeIn K (.ref cBadPlan) = some (.type "type"))
    (d__law_made : DefF K "_law_made" s_law_made)
    (d__law_planned : DefF K "_law_planned" s_law_planned)
    (d__law_cost : DefF K "_law_cost" s_law_cost)
    (d__law_airs : DefF K "_law_airs" s_law_airs)
    (d__law_fault : DefF K "_law_fault" s_law_fault)
    (z_abs : PySem.W.nsIn K mainGlobals "abs" = some none)
    (d_cost : DefF K "cost" scost)
    (z_zip : PySem.W.nsIn K mainGlobals "zip" = some none)
    (d_airs : DefF K "airs" sairs)
    (d_limits_kept : DefF K "limits_kept" slimits_kept)
    (d_fault : DefF K "fault" sfault)
    (d_air_behind : DefF K "air_behind" sair_behind)
    (d__law_refused : DefF K "_law_refused" s_law_refused)
    (st_AirError_BaseException : PySem.W.subIn K (.ref cAirError) (.type "BaseException") = some true)
    (ic_AirError : PySem.W.isClsIn K cAirError = true)
    (ty_AirError : PySem.W.typeIn K (.ref cAirError) = some (.type "type"))
    (sb_BadPlan_AirError : PySem.W.subIn K (.ref cBadPlan) (.ref cAirError) = some true)
    (f_BadPlan_getattribute : PySem.W.findIn K (.ref cBadPlan) "__getattribute__" = some (some (.builtin "BaseException.__getattribute__")))
    (f_BadPlan_getattr : PySem.W.findIn K (.ref cBadPlan) "__getattr__" = some none)
    (f_BadPlan_class : PySem.W.findIn K (.ref cBadPlan) "__class__" = some (some (.builtin "object.__class__")))
    (sp_class : PySem.W.specialIn K (.builtin "object.__class__") "__get__" = some (some (.builtin "getset_descriptor.__get__")))
    (tk_class : PySem.W.takesIn K (.builtin "object.__class__") = some true)
    (mr_BadPlan : PySem.W.mroIn K cBadPlan (.type "object") = some true)
    (hd_BadPlan : PySem.W.hasDictIn K cBadPlan = true)
    (es_BadPlan : (Value.ref cBadPlan == Value.ref cBadPlan) = true)
    (nt_BadPlan_ValueError : (Value.ref cBadPlan == Value.type "ValueError") = false)
    (vm_ValueError : PySem.W.kitMeta "ValueError" = true)
    (st_BadPlan_ValueError : PySem.W.subIn K (.ref cBadPlan) (.type "ValueError") = some true)
    (z_ValueError : PySem.W.nsIn K mainGlobals "ValueError" = some none)
    (ne_BadPlan_BadHouse : (Value.ref cBadPlan == Value.ref cBadHouse) = false)
    (ic_BadHouse : PySem.W.isClsIn K cBadHouse = true)
    (sb_BadPlan_BadHouse : PySem.W.subIn K (.ref cBadPlan) (.ref cBadHouse) = some false)
    (a_BadText : PySem.W.nsIn K mainGlobals "BadText" = some (some (.ref cBadText)))
    (ne_BadPlan_BadText : (Value.ref cBadPlan == Value.ref cBadText) = false)
    (ic_BadText : PySem.W.isClsIn K cBadText = true)
    (ty_BadText : PySem.W.typeIn K (.ref cBadText) = some (.type "type"))
    (sb_BadPlan_BadText : PySem.W.subIn K (.ref cBadPlan) (.ref cBadText) = some false)
    (a_Broken : PySem.W.nsIn K mainGlobals "Broken" = some (some (.ref cBroken)))
    (ne_BadPlan_Broken : (Value.ref cBadPlan == Value.ref cBroken) = false)
    (ic_Broken : PySem.W.isClsIn K cBroken = true)
    (ty_Broken : PySem.W.typeIn K (.ref cBroken) = some (.type "type"))
    (sb_BadPlan_Broken : PySem.W.subIn K (.ref cBadPlan) (.ref cBroken) = some false)
    (a_NoPlan : PySem.W.nsIn K mainGlobals "NoPlan" = some (some (.ref cNoPlan)))
    (ne_BadPlan_NoPlan : (Value.ref cBadPlan == Value.ref cNoPlan) = false)
    (ic_NoPlan : PySem.W.isClsIn K cNoPlan = true)
    (ty_NoPlan : PySem.W.typeIn K (.ref cNoPlan) = some (.type "type"))
    (sb_BadPlan_NoPlan : PySem.W.subIn K (.ref cBadPlan) (.ref cNoPlan) = some false)
    (d__law_gone : DefF K "_law_gone" s_law_gone)
    (d__prices_fit : DefF K "_prices_fit" s_prices_fit)
    (d_bound : DefF K "bound" sbound)
    (d_shows_least : DefF K "shows_least" sshows_least)
    (d__law_odd : DefF K "_law_odd" s_law_odd)
    (d__law_changed : DefF K "_law_changed" s_law_changed)
    (aTlaw : PySem.W.tabIn K "law" = some (cNlaw, tNlaw))
    (nclaw : CodF K "law" slaw cNlaw)
    (ntl : tNlaw ≠ tN_numbers_can_be)
    (d_law : DefF K "law" slaw)
    (tn_numbers_can_be : K.lookup tN_numbers_can_be = none) (tnlaw : K.lookup tNlaw = none) : LamX.LawAtS l w K CX0 9 63 "_law_script" mg fa h := by
  obtain ⟨ch_numbers_can_be, ct_numbers_can_be⟩ := PySem.W.tab_of T KX tr_numbers_can_be aT_numbers_can_be
  obtain ⟨chlaw, ctlaw⟩ := PySem.W.tab_of T KX trlaw aTlaw
  obtain ⟨fd, hb, hF⟩ := fin_mk (P := l.prog) (w := w) KX G hfa a_BadPlan a_House a_AirError a_BadHouse ai_rd ai_ga ai_iv e_BadHouse xL_BadHouse xR_BadHouse f_BadHouse_setattr st_BadHouse_BaseException ty_BadHouse kp_BadHouse f_BadHouse_word f_BadHouse_number i_House mk_House kp_House pg_House hd_House po_House f_House_setattr f_House_hours f_House_rooms_u f_House_doors_u f_House_stays_u m_House_rooms m_House_doors m_House_stays m_House_use m_House_least m_House__wants d__check_counts d__check_parts d__room_can_be d__door_can_be d__stay_can_be aT_numbers_can_be nc_numbers_can_be g_MOST_HOURS g_MOST_ROOMS g_MOST_DOORS g_MOST_STAYS g_MOST_NUMBER z_all z_len z_max z_sum z_list z_enumerate d__law_begun d__law_take d__law_alike z_int z_bool z_str z_tuple z_isinstance z_range d__law_stay d__law_house z_min d__law_here d__law_use d__law_least d_check_plan q_BadPlan kp_BadPlan st_BadPlan_BaseException ty_BadPlan d__law_made d__law_planned d__law_cost d__law_airs d__law_fault z_abs d_cost z_zip d_airs d_limits_kept d_fault d_air_behind d__law_refused st_AirError_BaseException ic_AirError ty_AirError sb_BadPlan_AirError f_BadPlan_getattribute f_BadPlan_getattr f_BadPlan_class sp_class tk_class mr_BadPlan hd_BadPlan es_BadPlan nt_BadPlan_ValueError vm_ValueError st_BadPlan_ValueError z_ValueError ne_BadPlan_BadHouse ic_BadHouse sb_BadPlan_BadHouse a_BadText ne_BadPlan_BadText ic_BadText ty_BadText sb_BadPlan_BadText a_Broken ne_BadPlan_Broken ic_Broken ty_Broken sb_BadPlan_Broken a_NoPlan ne_BadPlan_NoPlan ic_NoPlan ty_NoPlan sb_BadPlan_NoPlan d__law_gone d__prices_fit d_bound d_shows_least d__law_odd d__law_changed aTlaw nclaw ntl d_law
  refine ⟨fd, [(cN_numbers_can_be, tN_numbers_can_be), (cNlaw, tNlaw)], spLaw K [tN_numbers_can_be] tNlaw, fun p hp => ?_, fun p hp => ?_, fun p hp => ?_, hb, fun H a ns hl _ hT hS => ⟨a, ns, rfl, hS, hl, fun P hP => ?_, hT (cNlaw, tNlaw) (by simp), fun _ => rfl⟩, fun base hKb hg TB => hF base hKb hg ?_ ?_⟩
  · simp only [List.mem_cons, List.mem_nil_iff, or_false] at hp
    rcases hp with e | e
    · rw [e]; exact ct_numbers_can_be
    · rw [e]; exact ctlaw
  · simp only [List.mem_cons, List.mem_nil_iff, or_false] at hp
    rcases hp with e | e
    · rw [e]; exact tn_numbers_can_be
    · rw [e]; exact tnlaw
  · simp only [List.mem_cons, List.mem_nil_iff, or_false] at hp
    rcases hp with e | e
    · rw [e]; exact ch_numbers_can_be
    · rw [e]; exact chlaw
  · simp only [List.mem_cons, List.mem_nil_iff, or_false] at hP
    have e := hP
    · rw [e]; exact ⟨#[], hT (cN_numbers_can_be, tN_numbers_can_be) (by simp), True.intro⟩
  · have t := TB (cN_numbers_can_be, tN_numbers_can_be) (by simp)
    exact ⟨t.code, t.bm, t.gP⟩
  · have t := TB (cNlaw, tNlaw) (by simp)
    exact ⟨t.code, t.bm, t.gP⟩
end Cr
open PySem PySem.W PyProof.Rows
set_option maxRecDepth 100000 in
set_option maxHeartbeats 0 in
theorem PySem.Challenge.cw_candleroom_k02_plans_gone_through_holds : PySem.Challenge.rw_candleroom_k02_plans_gone_through.Holds := by
  w_on; o_law; k_head; (case hw => w_witness2)
  k_fill
  refine Cr.walk_tab (l := PySem.Challenge.rw_candleroom_k02_plans_gone_through) (n := 63) (k := 9) (CX := fun _ => L2.CX0) (x := "_law_script") rfl (by decide) rfl ⟨rfl, by decide, by decide⟩ (fun w h Y => PySem.W.km_in_of Y) ?F (fun _ _ _ _ _ z => z)
  case F =>
    intro w s₀ mg mb fa h GG KX G hmg
    refine' Cr.law_at GG.T KX G hmg ?tr_numbers_can_be ?trlaw ?a_BadPlan ?a_House ?a_AirError ?a_BadHouse ?ai_rd ?ai_ga ?ai_iv ?e_BadHouse ?xL_BadHouse ?xR_BadHouse ?f_BadHouse_setattr ?st_BadHouse_BaseException ?ty_BadHouse ?kp_BadHouse ?f_BadHouse_word ?f_BadHouse_number ?i_House ?mk_House ?kp_House ?pg_House ?hd_House ?po_House ?f_House_setattr ?f_House_hours ?f_House_rooms_u ?f_House_doors_u ?f_House_stays_u ?m_House_rooms ?m_House_doors ?m_House_stays ?m_House_use ?m_House_least ?m_House__wants ?d__check_counts ?d__check_parts ?d__room_can_be ?d__door_can_be ?d__stay_can_be ?aT_numbers_can_be ?nc_numbers_can_be ?g_MOST_HOURS ?g_MOST_ROOMS ?g_MOST_DOORS ?g_MOST_STAYS ?g_MOST_NUMBER ?z_all ?z_len ?z_max ?z_sum ?z_list ?z_enumerate ?d__law_begun ?d__law_take ?d__law_alike ?z_int ?z_bool ?z_str ?z_tuple ?z_isinstance ?z_range ?d__law_stay ?d__law_house ?z_min ?d__law_here ?d__law_use ?d__law_least ?d_check_plan ?q_BadPlan ?kp_BadPlan ?st_BadPlan_BaseException ?ty_BadPlan ?d__law_made ?d__law_planned ?d__law_cost ?d__law_airs ?d__law_fault ?z_abs ?d_cost ?z_zip ?d_airs ?d_limits_kept ?d_fault ?d_air_behind ?d__law_refused ?st_AirError_BaseException ?ic_AirError ?ty_AirError ?sb_BadPlan_AirError ?f_BadPlan_getattribute ?f_BadPlan_getattr ?f_BadPlan_class ?sp_class ?tk_class ?mr_BadPlan ?hd_BadPlan ?es_BadPlan ?nt_BadPlan_ValueError ?vm_ValueError ?st_BadPlan_ValueError ?z_ValueError ?ne_BadPlan_BadHouse ?ic_BadHouse ?sb_BadPlan_BadHouse ?a_BadText ?ne_BadPlan_BadText ?ic_BadText ?ty_BadText ?sb_BadPlan_BadText ?a_Broken ?ne_BadPlan_Broken ?ic_Broken ?ty_Broken ?sb_BadPlan_Broken ?a_NoPlan ?ne_BadPlan_NoPlan ?ic_NoPlan ?ty_NoPlan ?sb_BadPlan_NoPlan ?d__law_gone ?d__prices_fit ?d_bound ?d_shows_least ?d__law_odd ?d__law_changed ?aTlaw ?nclaw ?ntl ?d_law ?tn_numbers_can_be ?tnlaw
    (case aT_numbers_can_be => first | rfl | kernel_rfl)
    (case tr_numbers_can_be => rfl)
    (case aTlaw => first | rfl | kernel_rfl)
    (case trlaw => rfl)
    (case tn_numbers_can_be => first | kernel_rfl | rfl)
    (case tnlaw => first | kernel_rfl | rfl)
    (case a_BadPlan => k_is)
    (case a_House => k_is)
    (case a_AirError => k_is)
    (case a_BadHouse => k_is)
    (case ai_rd => k_is)
    (case ai_ga => k_is)
    (case ai_iv => k_is)
    (case e_BadHouse => (refine' Cr.ErrF.mk ?za ?zi ?zl ?zc ?zk; (case za => k_is); (case zi => k_is); (case zl => k_is); (case zc => k_is); (case zk => k_is)))
    (case xL_BadHouse => k_is)
    (case xR_BadHouse => decide +kernel)
    (case f_BadHouse_setattr => k_is)
    (case st_BadHouse_BaseException => k_is)
    (case ty_BadHouse => k_is)
    (case kp_BadHouse => k_is)
    (case f_BadHouse_word => k_is)
    (case f_BadHouse_number => k_is)
    (case i_House => (refine' Cr.MetF.mk ?za ?zi ?zl ?zc ?zk; (case za => k_is); (case zi => k_is); (case zl => k_is); (case zc => k_is); (case zk => k_is)))
    (case mk_House => k_is)
    (case kp_House => k_is)
    (case pg_House => k_is)
    (case hd_House => k_is)
    (case po_House => k_is)
    (case f_House_setattr => k_is)
    (case f_House_hours => k_is)
    (case f_House_rooms_u => k_is)
    (case f_House_doors_u => k_is)
    (case f_House_stays_u => k_is)
    (case m_House_rooms => (refine' Cr.MetF.mk ?za ?zi ?zl ?zc ?zk; (case za => k_is); (case zi => k_is); (case zl => k_is); (case zc => k_is); (case zk => k_is)))
    (case m_House_doors => (refine' Cr.MetF.mk ?za ?zi ?zl ?zc ?zk; (case za => k_is); (case zi => k_is); (case zl => k_is); (case zc => k_is); (case zk => k_is)))
    (case m_House_stays => (refine' Cr.MetF.mk ?za ?zi ?zl ?zc ?zk; (case za => k_is); (case zi => k_is); (case zl => k_is); (case zc => k_is); (case zk => k_is)))
    (case m_House_use => (refine' Cr.MetF.mk ?za ?zi ?zl ?zc ?zk; (case za => k_is); (case zi => k_is); (case zl => k_is); (case zc => k_is); (case zk => k_is)))
    (case m_House_least => (refine' Cr.MetF.mk ?za ?zi ?zl ?zc ?zk; (case za => k_is); (case zi => k_is); (case zl => k_is); (case zc => k_is); (case zk => k_is)))
    (case m_House__wants => (refine' Cr.MetF.mk ?za ?zi ?zl ?zc ?zk; (case za => k_is); (case zi => k_is); (case zl => k_is); (case zc => k_is); (case zk => k_is)))
    (case d__check_counts => (refine' Cr.DefF.mk ?za ?zl ?zc ?zk; (case za => k_is); (case zl => k_is); (case zc => k_is); (case zk => k_is)))
    (case d__check_parts => (refine' Cr.DefF.mk ?za ?zl ?zc ?zk; (case za => k_is); (case zl => k_is); (case zc => k_is); (case zk => k_is)))
    (case d__room_can_be => (refine' Cr.DefF.mk ?za ?zl ?zc ?zk; (case za => k_is); (case zl => k_is); (case zc => k_is); (case zk => k_is)))
    (case d__door_can_be => (refine' Cr.DefF.mk ?za ?zl ?zc ?zk; (case za => k_is); (case zl => k_is); (case zc => k_is); (case zk => k_is)))
    (case d__stay_can_be => (refine' Cr.DefF.mk ?za ?zl ?zc ?zk; (case za => k_is); (case zl => k_is); (case zc => k_is); (case zk => k_is)))
    (case nc_numbers_can_be => (refine' Cr.CodF.mk ?za ?zl ?zc ?zk; (case za => k_is); (case zl => k_is); (case zc => k_is); (case zk => k_is)))
    (case g_MOST_HOURS => k_is)
    (case g_MOST_ROOMS => k_is)
    (case g_MOST_DOORS => k_is)
    (case g_MOST_STAYS => k_is)
    (case g_MOST_NUMBER => k_is)
    (case z_all => k_is)
    (case z_len => k_is)
    (case z_max => k_is)
    (case z_sum => k_is)
    (case z_list => k_is)
    (case z_enumerate => k_is)
    (case d__law_begun => (refine' Cr.DefF.mk ?za ?zl ?zc ?zk; (case za => k_is); (case zl => k_is); (case zc => k_is); (case zk => k_is)))
    (case d__law_take => (refine' Cr.DefF.mk ?za ?zl ?zc ?zk; (case za => k_is); (case zl => k_is); (case zc => k_is); (case zk => k_is)))
    (case d__law_alike => (refine' Cr.DefF.mk ?za ?zl ?zc ?zk; (case za => k_is); (case zl => k_is); (case zc => k_is); (case zk => k_is)))
    (case z_int => k_is)
    (case z_bool => k_is)
    (case z_str => k_is)
    (case z_tuple => k_is)
    (case z_isinstance => k_is)
    (case z_range => k_is)
    (case d__law_stay => (refine' Cr.DefF.mk ?za ?zl ?zc ?zk; (case za => k_is); (case zl => k_is); (case zc => k_is); (case zk => k_is)))
    (case d__law_house => (refine' Cr.DefF.mk ?za ?zl ?zc ?zk; (case za => k_is); (case zl => k_is); (case zc => k_is); (case zk => k_is)))
    (case z_min => k_is)
    (case d__law_here => (refine' Cr.DefF.mk ?za ?zl ?zc ?zk; (case za => k_is); (case zl => k_is); (case zc => k_is); (case zk => k_is)))
    (case d__law_use => (refine' Cr.DefF.mk ?za ?zl ?zc ?zk; (case za => k_is); (case zl => k_is); (case zc => k_is); (case zk => k_is)))
    (case d__law_least => (refine' Cr.DefF.mk ?za ?zl ?zc ?zk; (case za => k_is); (case zl => k_is); (case zc => k_is); (case zk => k_is)))
    (case d_check_plan => (refine' Cr.DefF.mk ?za ?zl ?zc ?zk; (case za => k_is); (case zl => k_is); (case zc => k_is); (case zk => k_is)))
    (case q_BadPlan => k_exc)
    (case kp_BadPlan => k_is)
    (case st_BadPlan_BaseException => k_is)
    (case ty_BadPlan => k_is)
    (case d__law_made => (refine' Cr.DefF.mk ?za ?zl ?zc ?zk; (case za => k_is); (case zl => k_is); (case zc => k_is); (case zk => k_is)))
    (case d__law_planned => (refine' Cr.DefF.mk ?za ?zl ?zc ?zk; (case za => k_is); (case zl => k_is); (case zc => k_is); (case zk => k_is)))
    (case d__law_cost => (refine' Cr.DefF.mk ?za ?zl ?zc ?zk; (case za => k_is); (case zl => k_is); (case zc => k_is); (case zk => k_is)))
    (case d__law_airs => (refine' Cr.DefF.mk ?za ?zl ?zc ?zk; (case za => k_is); (case zl => k_is); (case zc => k_is); (case zk => k_is)))
    (case d__law_fault => (refine' Cr.DefF.mk ?za ?zl ?zc ?zk; (case za => k_is); (case zl => k_is); (case zc => k_is); (case zk => k_is)))
    (case z_abs => k_is)
    (case d_cost => (refine' Cr.DefF.mk ?za ?zl ?zc ?zk; (case za => k_is); (case zl => k_is); (case zc => k_is); (case zk => k_is)))
    (case z_zip => k_is)
    (case d_airs => (refine' Cr.DefF.mk ?za ?zl ?zc ?zk; (case za => k_is); (case zl => k_is); (case zc => k_is); (case zk => k_is)))
    (case d_limits_kept => (refine' Cr.DefF.mk ?za ?zl ?zc ?zk; (case za => k_is); (case zl => k_is); (case zc => k_is); (case zk => k_is)))
    (case d_fault => (refine' Cr.DefF.mk ?za ?zl ?zc ?zk; (case za => k_is); (case zl => k_is); (case zc => k_is); (case zk => k_is)))
    (case d_air_behind => (refine' Cr.DefF.mk ?za ?zl ?zc ?zk; (case za => k_is); (case zl => k_is); (case zc => k_is); (case zk => k_is)))
    (case d__law_refused => (refine' Cr.DefF.mk ?za ?zl ?zc ?zk; (case za => k_is); (case zl => k_is); (case zc => k_is); (case zk => k_is)))
    (case st_AirError_BaseException => k_is)
    (case ic_AirError => k_is)
    (case ty_AirError => k_is)
    (case sb_BadPlan_AirError => k_is)
    (case f_BadPlan_getattribute => k_is)
    (case f_BadPlan_getattr => k_is)
    (case f_BadPlan_class => k_is)
    (case sp_class => k_is)
    (case tk_class => k_is)
    (case mr_BadPlan => k_is)
    (case hd_BadPlan => k_is)
    (case es_BadPlan => first | rfl | decide)
    (case nt_BadPlan_ValueError => first | rfl | decide)
    (case vm_ValueError => first | rfl | decide +kernel)
    (case st_BadPlan_ValueError => k_is)
    (case z_ValueError => k_is)
    (case ne_BadPlan_BadHouse => first | rfl | decide)
    (case ic_BadHouse => k_is)
    (case sb_BadPlan_BadHouse => k_is)
    (case a_BadText => k_is)
    (case ne_BadPlan_BadText => first | rfl | decide)
    (case ic_BadText => k_is)
    (case ty_BadText => k_is)
    (case sb_BadPlan_BadText => k_is)
    (case a_Broken => k_is)
    (case ne_BadPlan_Broken => first | rfl | decide)
    (case ic_Broken => k_is)
    (case ty_Broken => k_is)
    (case sb_BadPlan_Broken => k_is)
    (case a_NoPlan => k_is)
    (case ne_BadPlan_NoPlan => first | rfl | decide)
    (case ic_NoPlan => k_is)
    (case ty_NoPlan => k_is)
    (case sb_BadPlan_NoPlan => k_is)
    (case d__law_gone => (refine' Cr.DefF.mk ?za ?zl ?zc ?zk; (case za => k_is); (case zl => k_is); (case zc => k_is); (case zk => k_is)))
    (case d__prices_fit => (refine' Cr.DefF.mk ?za ?zl ?zc ?zk; (case za => k_is); (case zl => k_is); (case zc => k_is); (case zk => k_is)))
    (case d_bound => (refine' Cr.DefF.mk ?za ?zl ?zc ?zk; (case za => k_is); (case zl => k_is); (case zc => k_is); (case zk => k_is)))
    (case d_shows_least => (refine' Cr.DefF.mk ?za ?zl ?zc ?zk; (case za => k_is); (case zl => k_is); (case zc => k_is); (case zk => k_is)))
    (case d__law_odd => (refine' Cr.DefF.mk ?za ?zl ?zc ?zk; (case za => k_is); (case zl => k_is); (case zc => k_is); (case zk => k_is)))
    (case d__law_changed => (refine' Cr.DefF.mk ?za ?zl ?zc ?zk; (case za => k_is); (case zl => k_is); (case zc => k_is); (case zk => k_is)))
    (case nclaw => (refine' Cr.CodF.mk ?za ?zl ?zc ?zk; (case za => k_is); (case zl => k_is); (case zc => k_is); (case zk => k_is)))
    (case ntl => decide)
    (case d_law => (refine' Cr.DefF.mk ?za ?zl ?zc ?zk; (case za => k_is); (case zl => k_is); (case zc => k_is); (case zk => k_is)))
