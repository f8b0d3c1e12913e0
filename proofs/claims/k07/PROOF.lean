import PyProof.Rows.All
import Wide.All
import OpenK.AllK
import Wide.FinOn
import KE.KExcIs
import PyProof.GenCompD
import KE.DataMinMax
import HandS.ForMost
import HandS.Exc
import HandS.TryOnly
import HandS.ExcOwn
import HandS.WordsExc
import HandS.ExcInit
import HandS.ExcIs
import HandS.ExcField
import HandS.IsInst
import HandS.FStr
import HandS.AnyAll
import HandS.SortKw
import HandS.CallSlots
import HandS.EndTab
import HandS.RaiseMore
import HandS.Zip
import HandS.Walk
import KE.KEqDeep
import HandS.Deep
import PySem.Challenge.RW_candleroom_k07_bounds_and_lacks
set_option Elab.async false
set_option linter.all false
set_option maxRecDepth 100000
set_option maxHeartbeats 4000000
/-! Further rules: max with a default, max of a tuple, the base's __init__ of an own error, all of a test over a tuple of ints, a class made in a try -/
namespace Cr
open PySem PySem.Spec PyProof.Rows L2

theorem dpAll_ints {K : PySem.W.Frag} {H : Hp} : ∀ ns : List Int, DpAll K H (ns.map V.int) (ns.map PyData.int)
  | [] => .nil
  | n :: r => .cons (.int n) (dpAll_ints r)
theorem alike_ints (ns : List Int) : PySem.W.AlikeAll (ns.map PyData.int) := by
  refine ⟨fun x hx y hy => ?_, fun x hx => ?_⟩
  · obtain ⟨i, _, rfl⟩ := List.mem_map.mp hx
    obtain ⟨j, _, rfl⟩ := List.mem_map.mp hy
    rfl
  · obtain ⟨i, _, rfl⟩ := List.mem_map.mp hx
    intro h
    cases h
theorem depth_ints : ∀ ns : List Int, PyData.depthAll (ns.map PyData.int) ≤ 1
  | [] => by simp [PyData.depthAll]
  | n :: r => by
    have ih := depth_ints r
    rw [List.map_cons]
    simp only [PyData.depthAll, PyData.depth]
    omega
theorem reads_int {h : Heap} {v : Value} {i : Int} {as : List Addr} (r : Reads h v (.int i) as) : ∃ t, v = .int i t := by
  cases r with
  | int i t => exact ⟨t, rfl⟩
section
variable {X : Cx}
/-- max(xs, default=d) of a list of ints -/
def rMaxDf (K : PySem.W.Frag) : List V → List V → Hp → VK → Prop := fun vs zs H Q => ∃ (a : Addr) (ns : List Int) (d : V), vs = [.ref a] ∧ zs = [d] ∧ SqL K H a (ns.map V.int) ∧ (ns = [] → Q d H) ∧ ∀ n r, ns = n :: r → Q (.int (r.foldl max n)) H
theorem cr_maxDf (hc : X.calm = true) (hu : X.A.units + 64 < cLine) : CallRK X (.builtin "max") [("default" : Str)] (rMaxDf X.K) := by
  intro pins s σ H xs zs us ws Q I r1 r2 h
  obtain ⟨a, ns, d, rfl, rfl, hs, h0, h1⟩ := h
  obtain ⟨its, rv, hl, _⟩ := I.list hs
  rw [Vals.ref1 r1]
  obtain ⟨u, rfl, ru⟩ := vals1 r2
  obtain ⟨as, hr⟩ := Dp.readsAll I (ns.map .int) _ its (dpAll_ints ns) rv
  have hd := depth_ints ns
  show wpAny _ _ (call (.builtin "max") [.ref a] [(Str.ofString "default", u)]) _ _ _
  refine PySem.W.max_list_default (I.ok.hd hc) hl.isList (by simpa using hr) (alike_ints ns) (by omega) (fun e h' tk k => ?_) (fun y ys i v h' tk bs e hv hrd k => ?_)
  · exact ⟨d, H, I.kept k, ru, h0 (List.map_eq_nil_iff.mp e)⟩
  · cases ns with
    | nil => cases e
    | cons n r =>
      obtain ⟨rfl, rfl⟩ := List.cons.inj e
      rw [PySem.W.maxD_ints] at hrd
      obtain ⟨t, rfl⟩ := reads_int hrd
      exact ⟨.int _, H, I.kept k, ⟨t, rfl⟩, h1 n r rfl⟩
/-- max(t) of a tuple of ints -/
def rMaxT (K : PySem.W.Frag) : List V → Hp → VK → Prop := fun vs H Q => ∃ (a : Addr) (n : Int) (r : List Int), vs = [.ref a] ∧ SqT K H a ((n :: r).map V.int) ∧ Q (.int (r.foldl max n)) H
theorem cr_maxT (hc : X.calm = true) (hu : X.A.units + 64 < cLine) : CallR X (.builtin "max") (rMaxT X.K) := by
  intro pins s σ H xs us Q I r1 h
  obtain ⟨a, n, r, rfl, hs, h1⟩ := h
  obtain ⟨its, rv, ht, _⟩ := I.tuple hs
  rw [Vals.ref1 r1]
  obtain ⟨as, hr⟩ := Dp.readsAll I ((n :: r).map .int) _ its (dpAll_ints (n :: r)) rv
  have hd := depth_ints (n :: r)
  obtain ⟨o, ho, hc1, m, hd1⟩ := ht
  refine PySem.W.max_tuple_data (x := .int n) (xs := r.map .int) (I.ok.hd hc) ⟨o, ho, hc1, ⟨m, hd1⟩⟩ (by simpa using hr) (alike_ints (n :: r)) (by rw [List.map_cons] at hd; omega) (fun i v h' tk bs hv hrd k => ?_)
  rw [PySem.W.maxD_ints] at hrd
  obtain ⟨t, rfl⟩ := reads_int hrd
  exact ⟨.int _, H, I.kept k, ⟨t, rfl⟩, h1⟩
end

/-! ### the base's __init__ -/
/-- what the written part says of a base class of own errors whose __init__ is ValueError's -/
structure BaseI (K : PySem.W.Frag) (C : Addr) (mc : Value) : Prop where
  rd : PySem.W.readsIn K C mc = true
  ga : PySem.W.specialIn K (.ref C) "__getattribute__" = some (some (.builtin "type.__getattribute__"))
  iv : PySem.W.findCls K (.ref C) mc "__init__" = some (.val (.builtin "ValueError.__init__"))
section
variable {X : Cx} {e : Expr} {es : List Expr} {ta : TA} {x : Str} {p1 p2 pos : Pos} {C : Addr} {mc : Value}
theorem pe_baseinit {pl : Sem Bool} (T : BaseI X.K C mc) (hg : Gl X x) (hm : X.mg x = some (.ref C)) (ha : PA X (e :: es) ta) (hdb : (x == ("__debug__" : Str)) = false := by decide)
    (hc : eval (.Call (.Attribute (.Name x p1) "__init__" p2) (e :: es) [] pos) X.env = (do
      let ov ← eval (.Name x p1) X.env
      standAt p2.atName
      let (f, first) ← holding [ov] (getMethod ov "__init__" pl)
      callWith pos f first (backTo pos (starEach (e :: es) X.env)) (backToKw pos (keywordEach [] X.env))) := by rfl)
    (he : starEach (e :: es) X.env = (false, eval e X.env) :: starEach es X.env := by rfl) (hpl : (backTo pos (starEach es X.env)).any (·.1) = false := by rfl) :
    PE X (.Call (.Attribute (.Name x p1) "__init__" p2) (e :: es) [] pos) (tVeI X.K ta) := by
  refine ⟨fun pins s σ H Q I h => ?_⟩
  refine PySem.W.methodCall_KW (ld_glob I hg hm ?_ hdb) hc
  refine PySem.W.method_cls I.kIn T.ga (PySem.W.cls_value I.kIn T.rd T.iv (by decide) (PyProof.Rows.callWith_method1 (thn (ha.run pos pins _ σ H _ (I.tok _) h) ?_) he hpl))
  rintro us s1 ⟨_, H1, I1, r1, a, D, ws, rfl, hl, O, ea, q⟩
  cases r1 with
  | cons ra rest =>
    cases ra
    exact oinit_ok O I1 ea (by have := Paired.length rest; rw [sizeLine_eq]; omega) fun s' J => ⟨.non, H1, J, rfl, q⟩
end

/-! ### a class made where what is raised is wished for at the slots (in a try) -/
section
variable {X : Cx} {CX : CXT} {k : Nat} {f C : Addr} {fd : FuncData} {ps : List Str} {sp : Sp} {dvs : List V} {ds : List Value} {E : L2.St → XK} {x : Str} {p pos : Pos} {e : Expr} {es : List Expr} {t : TA}
def tMakeS (C : Addr) (sp : Sp) (dvs : List V) (E : L2.St → XK) (t : TA) : TE := fun σ H Q => t σ H fun vs H1 => ∀ x dx, H1 x = none → H1 dx = none → dx ≠ x →
  sp (.ref x :: (vs ++ dvs)) (upd (upd H1 dx (.own x)) x (.ins C dx [])) (fun v H2 => v = .non ∧ Q (.ref x) H2) (E σ)
theorem pe_makeS (M : Mk X.K C f) (F : FnOk X.prog X.w X.K X.mg X.base CX k f fd ps sp) (hr : Room (k + 1) X.A) (hg : Gl X x) (hm : X.mg x = some (.ref C)) (hb : Binds X.K fd ps ds) (hd : Vals dvs ds) (hx : ∀ σ, PassesAt CX X σ (E σ))
    (ha : PA X (e :: es) t) (hdb : (x == ("__debug__" : Str)) = false := by decide) (he : starEach (e :: es) X.env = (false, eval e X.env) :: starEach es X.env := by rfl) (hpl : (backTo pos (starEach es X.env)).any (·.1) = false := by rfl) :
    PE X (.Call (.Name x p) (e :: es) [] pos) (tMakeS C sp dvs E t) := by
  refine ⟨fun pins s σ H Q I h => ?_⟩
  refine wpAny_Call_Name_kw (ld_glob I hg hm ?_ hdb)
  refine PySem.W.callWith_K (h₀ := X.base) I.ok.mod.kin M.kp (thn (ha.run pos pins s σ H _ I h) fun us s1 ⟨vs, H1, I1, r, q⟩ => ⟨I1.kIn, ?_⟩) he hpl
  have hq := q (s1.heap.objs.size + 1) s1.heap.objs.size (I1.hok.fresh (Nat.le_succ _)) (I1.hok.fresh (Nat.le_refl _)) (Nat.ne_of_lt (Nat.lt_succ_self _))
  have I2 := Inv.made (C := C) I1
  have r2 : Vals (V.ref (s1.heap.objs.size + 1) :: (vs ++ dvs)) (Value.ref (s1.heap.objs.size + 1) :: (us ++ ds)) := .cons rfl (r.append hd)
  have hl : (Value.ref (s1.heap.objs.size + 1) :: us ++ ds).length = ps.length := by
    have e := r2.length
    rw [F.len _ _ _ _ hq] at e
    exact e.symm
  refine wpAny_call (make_map (f := f) I1.kIn M.makes M.init (beq_iff_eq.mp M.fn) (codeAny_mono (F.run _ X.stack _ _ ⟨Value.ref (s1.heap.objs.size + 1) :: us, []⟩ (Value.ref (s1.heap.objs.size + 1) :: (us ++ ds)) _ _ (E σ) (hr.make C us [])
    (I2.env0.make C us []) (hb _ (Value.ref (s1.heap.objs.size + 1) :: us) I2.kIn hl) r2 hq) fun r s' hq' => ?_))
  cases r with
  | error e => exact hx σ pins _ _ e s' I2 hq'
  | ok fl =>
    cases fl with
    | ret u =>
      obtain ⟨v, H', I3, rv, ev, q3⟩ := I2.after hq'
      subst ev
      exact ⟨rv, ⟨V.ref (s1.heap.objs.size + 1), H', I3, rfl, q3⟩⟩
    | next => exact False.elim hq'
    | brk => exact False.elim hq'
    | cont => exact False.elim hq'
end
end Cr
set_option Elab.async false
set_option linter.all false
set_option maxRecDepth 100000
set_option maxHeartbeats 4000000
/-! all(test for x in xs): one rule, whatever xs is (a list, a tuple), for tests that only look -/
namespace Cr
open PySem PySem.Spec PyProof.Rows L2

/-- what the object at a gives to whoever walks over it: C says that it stands, T where its walker is -/
structure Src (prog : Program) (w : World) (a : Addr) (items : Array Value) (it : Obj) (C : Heap → Prop) (T : Nat → Heap → Addr → Prop) : Prop where
  begins : ∀ {A : Around} {s : Shared} {Q E : Value → Shared → Prop}, C s.heap → Q (.ref s.heap.objs.size) { s with heap := s.heap.push it } → wpAny (model prog w) A (pyIter (.ref a)) Q E s
  walks : ∀ (A : Around) (I : Addr), A.handled = none → a ≠ I → Walks prog w A I [I, a] [I] items.size (fun i v => items[i]? = some v) (fun i h => T i h I ∧ C h)
  first : ∀ h : Heap, T 0 (h.push it) h.objs.size
  stay : ∀ {h h' : Heap}, (∀ o, h.get? a = some o → h'.get? a = some o) → C h → C h'
  here : ∀ h, C h → ∃ o, h.get? a = some o ∧ ∀ vs, o.data ≠ .fields vs
variable {prog : Program} {w : World} {a : Addr} {items : Array Value}
theorem src_list : Src prog w a items { cls := .type "list_iterator", data := .fields #[.ref a, .int 0 0] } (fun h => h.IsList a items) (fun i h I => h.IsListIter I a i) where
  begins hc hq := wpAny_pyIter_list hc hq
  walks A I hA hne := Walks.list hA I a hne items
  first h := ⟨_, Heap.get?_push_size _ rfl, rfl, rfl⟩
  stay k hc := hc.at k
  here := fun h ⟨o, e, _, _, hd⟩ => ⟨o, e, fun vs z => by rw [hd] at z; cases z⟩
theorem src_tup : Src prog w a items { cls := .type "tuple_iterator", data := .fields #[.ref a, .int 0 0] } (fun h => h.IsTuple a items) (fun i h I => h.IsTupleIter I a i) where
  begins hc hq := wpAny_pyIter_tuple hc hq
  walks A I hA hne := Walks.tuple hA I a hne items
  first h := ⟨_, Heap.get?_push_size _ rfl, rfl, rfl⟩
  stay k hc := hc.at k
  here := fun h ⟨o, e, _, _, hd⟩ => ⟨o, e, fun vs z => by rw [hd] at z; cases z⟩

/-- from h to h' all stands but the table at P, which has grown by whole entries -/
structure Since (P : Addr) (ps : Array Value) (h h' : Heap) : Prop where
  up : ∀ b u, b ≠ P → h.get? b = some u → h'.get? b = some u
  tab : ∃ more, h'.get? P = some { cls := .none, data := .fields (ps ++ more) } ∧ TriplesOk (ps ++ more).toList
  size : h.objs.size ≤ h'.objs.size
section
variable {X : Cx} {pins : List (Addr × Obj)} {σ : L2.St} {H : Hp} {s : Shared} {c P : Addr} {ps : Array Value}
/-- the generator's code: it stands in the table, or is put there -/
theorem code_made {pos : Pos} {q : Str} {scope : Scope} {Q E : Value → Shared → Prop} (hcode : X.env.code = .ref c) (hd : PySem.W.CodeHd s.heap c P) (hP : s.heap.get? P = some { cls := .none, data := .fields ps }) (ht : TriplesOk ps.toList)
    (hQ : ∀ v h' tk, Since P ps s.heap h' → Q v { s with heap := h', toks := tk }) : wpAny (model X.prog X.w) X.A (genexprCode X.env pos q scope) Q E s := by
  match e : codeAmong pos ps.toList with
  | some v => exact wpAny_genexprCode_hit hcode (hd.code hP ht) e (hQ v s.heap s.toks ⟨fun _ _ _ z => z, ⟨#[], by simpa using hP, by simpa using ht⟩, Nat.le_refl _⟩)
  | none =>
    refine wpAny_genexprCodeX hcode (hd.code hP ht) (hd.tab hP) e fun c' h' tk up lo hi isC _ tab _ => hQ _ h' tk ⟨up, ⟨_, tab.2, ?_⟩, by omega⟩
    obtain ⟨_, _, _, _, _, _, _, _, _, _, _, _, _, _, _, _, _, _, _, tri, _⟩ := isC
    exact tri
/-- where a test runs: the names around it, and what stands of what was -/
structure Seen (X : Cx) (P : Addr) (scope : Scope) (cenv : Env) (s₁ s₂ : Shared) : Prop where
  sc : cenv.scope = scope
  gl : cenv.globals = mainGlobals
  bl : cenv.builtins = builtinsNs
  cells : cenv.cells = cloFrom X.env.cells scope.names []
  up : ∀ b u, b ≠ P → s₁.heap.get? b = some u → s₂.heap.get? b = some u
/-- the test looks at the item at place j and tells tr j -/
def Looks (X : Cx) (P : Addr) (scope : Scope) (x : Str) (elt : Expr) (s₁ : Shared) (vs : List V) (tr : Nat → Bool) : Prop :=
  ∀ (cenv : Env) (A : Around) (E : Value → Shared → Prop) (j : Nat) (v : V) (u : Value) (s₂ : Shared) (m : Str → Option Value), A.depth ≤ X.A.depth + 1 → Seen X P scope cenv s₁ s₂ → vs[j]? = some v → RelV v u →
    s₂.heap.Ns cenv.locals m → m x = some u → wpAny (model X.prog X.w) A (eval elt cenv) (fun y s₃ => y = .bool (tr j) ∧ Keeps s₂ s₃) E s₂
/-- the table is none of the things that the program's head has left -/
theorem tab_apart (I : Inv X pins σ H s) (hP : H P = some (.tbl ps)) {b : Addr} {u : Obj} (e : X.base.get? b = some u) : b ≠ P := fun z => by
  cases (show H P = none from z ▸ (I.bs b u e).2).symm.trans hP
theorem Seen.base {scope : Scope} {cenv : Env} {s₂ : Shared} (Z : Seen X P scope cenv s s₂) (I : Inv X pins σ H s) (hP : H P = some (.tbl ps)) {b : Addr} {u : Obj} (e : X.base.get? b = some u) : s₂.heap.get? b = some u :=
  Z.up b u (tab_apart I hP e) (I.bk b u e)
theorem Seen.globals {scope : Scope} {cenv : Env} {s₂ : Shared} (Z : Seen X P scope cenv s s₂) (I : Inv X pins σ H s) (hP : H P = some (.tbl ps)) : s₂.heap.Ns mainGlobals X.mg :=
  I.mod.glob.keeps fun _ _ => Z.base I hP
/-- a list or a tuple at v, with the items vs -/
def Walked (K : PySem.W.Frag) (H : Hp) (v : V) (vs : List V) : Prop := ∃ a, v = .ref a ∧ (SqL K H a vs ∨ SqT K H a vs)
theorem src_of (I : Inv X pins σ H s) {a : Addr} {vs : List V} (h : SqL X.K H a vs ∨ SqT X.K H a vs) :
    ∃ (items : Array Value) (it : Obj) (C : Heap → Prop) (T : Nat → Heap → Addr → Prop), Src X.prog X.w a items it C T ∧ C s.heap ∧ items.size = vs.length ∧ ∀ (i : Nat) u, items[i]? = some u → ∃ y, vs[i]? = some y ∧ RelV y u := by
  have rel : ∀ {its : List Value}, Vals vs its → ∀ (i : Nat) u, its.toArray[i]? = some u → ∃ y, vs[i]? = some y ∧ RelV y u := fun {its} rv i u e => by
    have e : its[i]? = some u := by simpa using e
    have lt := (List.getElem?_eq_some_iff.mp e).1
    rw [← rv.length] at lt
    obtain ⟨u', e', r⟩ := rv.get (List.getElem?_eq_getElem lt)
    cases e.symm.trans e'
    exact ⟨_, List.getElem?_eq_getElem lt, r⟩
  rcases h with h | h
  · obtain ⟨its, rv, hl, _⟩ := I.list h
    exact ⟨_, _, _, _, src_list, hl.isList, by rw [List.size_toArray, rv.length], rel rv⟩
  · obtain ⟨its, rv, hl, _⟩ := I.tuple h
    exact ⟨_, _, _, _, src_tup, hl, by rw [List.size_toArray, rv.length], rel rv⟩
/-- the generator is made; whoever takes it may walk it, and finds the frame as it was but for the table -/
theorem made {elt iter : Expr} {x : Str} {px pos : Pos} {scope : Scope} {te : TE} {k : Nat} {Q : Value → Shared → Prop} {κ : VK} (hr : Room k X.A) (TB : GxR.TabB X.base X.mg c P) (hcode : X.env.code = .ref c) (S : GxR.GenS X.env scope x) (hi : PE X iter te)
    (hs : ∀ v, genFold iter X.env v = pure v) (I : Inv X pins σ H s) (h : te σ H κ)
    (src : ∀ v H1, κ v H1 → ∃ vs tr, Walked X.K H1 v vs ∧ GxR.TabG H1 P ∧ (∀ ps s1, H1 P = some (.tbl ps) → Inv X pins σ H1 s1 → Looks X P scope x elt s1 vs tr) ∧
      ∀ g s5 fp wr G F St, WalksS X.prog X.w X.A.in1 g fp wr G vs.length F St → St 0 s5 → TruthOf X.prog X.w X.A.in1 F tr → (∀ s', Moved wr G s5 s' → ∃ H2, GxR.Tabbed P H1 H2 ∧ Inv X pins σ H2 s') → Q (.ref g) s5) :
    wpAny (model X.prog X.w) X.A (eval (.GeneratorExp elt [⟨.Name x px, iter, [], 0⟩] scope pos) X.env) Q X.xe s := by
  refine wpAny_GeneratorExp_walksQD hr.hd S.co (closure_ok S.free) S.cell S.dot S.loc S.kind (by have := hr.dp; omega) (thn (hi.run pins s σ H _ I h) ?_) hs
  intro u s1 ⟨v, H1, I1, r1, q⟩
  obtain ⟨vs, tr, ⟨a, rfl, hw⟩, ⟨ps, hP, ht⟩, look, fin⟩ := src v H1 q
  cases (show u = .ref a from r1)
  obtain ⟨items, it, C, T, so, hC, sz, rel⟩ := src_of I1 hw
  refine so.begins hC ⟨I1.nolimit.push it, ?_⟩
  have pAt := I1.hok P _ hP
  obtain ⟨oa, ea, na⟩ := so.here _ hC
  have aP : a ≠ P := fun z => na ps (by rw [z] at ea; cases pAt.symm.trans ea; rfl)
  have push : ∀ b u, s1.heap.get? b = some u → (s1.heap.push it).get? b = some u := fun b u e => Heap.get?_push_of_some _ e
  refine code_made hcode (TB.code.keeps fun b u e => push b u (I1.bk b u e)) (push _ _ pAt) ht fun cv h3 tk S3 => ?_
  have up : ∀ b u, b ≠ P → s1.heap.get? b = some u → h3.get? b = some u := fun b u hb e => S3.up b u hb (push b u e)
  have lt : s1.heap.objs.size < h3.objs.size := by
    have := S3.size
    rw [Heap.size_push] at this
    exact this
  have old : ∀ {b u}, s1.heap.get? b = some u → b < h3.objs.size := fun e => Nat.lt_trans (Heap.lt_size e) lt
  have fresh : ∀ {b u}, s1.heap.get? b = some u → b ≠ s1.heap.objs.size := fun e => Nat.ne_of_lt (Heap.lt_size e)
  have Z3 : ∀ {b u}, X.base.get? b = some u → h3.get? b = some u := fun {b u} e => up b u (tab_apart I1 hP e) (I1.bk b u e)
  -- the built-ins are the boot's own
  obtain ⟨bm, ob, e1, e2, _, _, e5, e6, e7, e8⟩ := TB.bm
  refine wpAny_builtinsFor (m := X.mg) (by rw [I1.ok.glob]; exact I1.mod.glob.keeps fun _ _ => Z3) e1 e2 (Z3 e5) e6 e7 e8 ?_
  obtain ⟨_, ⟨oc, _, _, ec, _⟩, _⟩ := id I1.nolimit
  have cP : cStatics ≠ P := fun z => by
    obtain ⟨_, ⟨o', _, _, e', hd, _⟩, _⟩ := id I1.nolimit
    rw [z, pAt] at e'
    cases e'
    cases hd
  have lim : h3.NoLimit := (I1.nolimit.push it).extBut S3.up cP
  have ready : T 0 h3 s1.heap.objs.size ∧ C h3 := by
    refine (so.walks X.A _ hr.hd (fresh ea)).frame 0 (s1.heap.push it) h3 ⟨so.first _, so.stay (fun o => push a o) hC⟩ fun b hb o e => S3.up b o (fun z => ?_) e
    rcases List.mem_cons.mp hb with y | y
    · exact absurd (z ▸ y) (fresh pAt)
    · exact aP (z ▸ (List.mem_singleton.mp y).symm)
  refine ⟨s1.heap.objs.size, [s1.heap.objs.size, a], [s1.heap.objs.size], items.size, _, _, fun _ => true, fun i y => y = .bool (tr i), rfl, fun A hA => so.walks A _ hA (fresh ea), ready, ?_, lim, fun z => fresh ec (List.mem_singleton.mp z), fun href keep => ⟨?_, ?_⟩, ?_⟩
  · simp only [List.mem_cons, List.not_mem_nil, or_false, forall_eq_or_imp, forall_eq]
    exact ⟨lt, old ea⟩
  · intros
    simp only [List.forIn_nil]
    exact wpAny_pure ⟨rfl, GxR.keeps_refl _⟩
  · intro A E i u s2 m _ dp _ hu _ hn hm stands
    obtain ⟨y, hy, r⟩ := rel i u hu
    refine look ps s1 hP I1 _ A E i y u s2 m dp ⟨rfl, I1.ok.glob, rfl, rfl, fun b o hb e => ?_⟩ hy r hn hm
    exact stands b (List.mem_range.mpr (old e)) (fun z => fresh e (List.mem_singleton.mp z)) o (keep b o (up b o hb e))
  · intro g h5 tk5 gs bare hg _ keep W begun
    have num : (passing (fun _ => true) items.size 0).length = vs.length := by rw [GxR.passing_true, List.length_range, sz]
    refine fin g _ _ _ _ _ _ (num ▸ W.in4_1) begun ?_ fun s' mv => ?_
    · rintro j y s6 Q6 E6 ⟨i, hi, rfl⟩ hq
      rw [GxR.passing_true] at hi
      obtain ⟨_, ej⟩ := List.getElem?_eq_some_iff.mp hi
      rw [List.getElem_range] at ej
      exact wpAny_truthy_bool (ej ▸ hq)
    · obtain ⟨more, hm, tri⟩ := S3.tab
      have far : ∀ {b u}, s1.heap.get? b = some u → b ∉ [h3.objs.size, s1.heap.objs.size] := fun e z => by
        simp only [List.mem_cons, List.not_mem_nil, or_false] at z
        rcases z with z | z
        · exact Nat.ne_of_lt (old e) z
        · exact fresh e z
      have J := GxR.inv_tab (more := more) (h' := s'.heap) (g' := s'.gens) (d' := s'.drawn) (t' := s'.toks) I1 hP (fun b u hb e => mv.heap b u (far e) (keep b u (up b u hb e))) (mv.heap P _ (far pAt) (keep P _ hm)) (AllBare.movedS (I1.bare.push bare) mv)
      exact ⟨_, ⟨⟨_, upd_same, tri⟩, fun b hb => upd_ne hb⟩, GxR.sh_eta s1 s' mv.os ▸ J⟩
/-- all(..): the built-in itself, over such a generator -/
theorem pe_all {elt iter : Expr} {x : Str} {px p pos gpos : Pos} {scope : Scope} {te t : TE} {k : Nat} (hr : Room k X.A) (hg : Gl X "all") (hm : X.mg "all" = none) (hb : bootBuiltins "all" = some (.builtin "all"))
    (TB : GxR.TabB X.base X.mg c P) (hcode : X.env.code = .ref c) (S : GxR.GenS X.env scope x) (hi : PE X iter te) (hs : ∀ v, genFold iter X.env v = pure v)
    (conv : ∀ σ H Q, t σ H Q → ∃ κ : VK, te σ H κ ∧ ∀ v H1, κ v H1 → ∃ vs tr, Walked X.K H1 v vs ∧ GxR.TabG H1 P ∧ (∀ pins ps s1, H1 P = some (.tbl ps) → Inv X pins σ H1 s1 → Looks X P scope x elt s1 vs tr) ∧ ∀ H2, GxR.Tabbed P H1 H2 → Q (.bl ((List.range vs.length).all tr)) H2)
    (he : starEach [.GeneratorExp elt [⟨.Name x px, iter, [], 0⟩] scope gpos] X.env = [(false, eval (.GeneratorExp elt [⟨.Name x px, iter, [], 0⟩] scope gpos) X.env)]) :
    PE X (.Call (.Name "all" p) [.GeneratorExp elt [⟨.Name x px, iter, [], 0⟩] scope gpos] [] pos) t := by
  refine ⟨fun pins s σ H Q I h => wpAny_Call_Name_kw (ld_blt I hg hm hb (PyProof.Rows.callWith_builtin1 ?_ he (by rfl)))⟩
  obtain ⟨κ, hκ, out⟩ := conv σ H Q h
  rw [he]
  refine Calls.spliced_cons (made hr TB hcode S hi hs I hκ fun v H1 q => ?_)
  obtain ⟨vs, tr, hw, hT, look, fin⟩ := out v H1 q
  refine ⟨vs, tr, hw, hT, look pins, fun g s5 fp wr G F St W st truth back => Calls.spliced_nil (call_all_walkS (W.self 0 _ _ _ st ⟨g, fp, wr, G, vs.length, F, St, tr, rfl, W, st, truth, fun s' mv => ?_⟩))⟩
  obtain ⟨H2, hT2, J⟩ := back s' mv
  exact ⟨.bl _, H2, J, rfl, fin H2 hT2⟩
end
theorem all_range {α : Type} (l : List α) (p : α → Bool) (t : Nat → Bool) (h : ∀ j x, l[j]? = some x → t j = p x) : (List.range l.length).all t = l.all p := by
  rw [Bool.eq_iff_iff, List.all_eq_true, List.all_eq_true]
  refine ⟨fun a x hx => ?_, fun a j hj => ?_⟩
  · obtain ⟨j, hj, rfl⟩ := List.getElem_of_mem hx
    rw [← h j _ (List.getElem?_eq_getElem hj)]
    exact a j (List.mem_range.mpr hj)
  · have hj' := List.mem_range.mp hj
    rw [h j _ (List.getElem?_eq_getElem hj')]
    exact a _ (List.getElem_mem hj')
/-- a test of items that is no matter of places -/
def byItem (l : List V) (pb : V → Bool) (j : Nat) : Bool := ((l[j]?).map pb).getD false
theorem byItem_at {l : List V} {pb : V → Bool} {j : Nat} {v : V} (h : l[j]? = some v) : byItem l pb j = pb v := by simp [byItem, h]
theorem all_byItem (l : List V) (pb : V → Bool) : (List.range l.length).all (byItem l pb) = l.all pb := all_range l pb _ fun _ _ e => byItem_at e
/-- the element: a test of an item that asks only the item and the module's names -/
def EltV (X : Cx) (scope : Scope) (x : Str) (elt : Expr) (Pz : V → Prop) (pb : V → Bool) : Prop :=
  ∀ (cenv : Env) (A' : Around) (E' : Value → Shared → Prop) (v : V) (u : Value) (s₂ : Shared) (m₂ : Str → Option Value), cenv.scope = scope → cenv.globals = mainGlobals → s₂.heap.Ns mainGlobals X.mg → Pz v → RelV v u → s₂.heap.Ns cenv.locals m₂ → m₂ x = some u →
    wpAny (model X.prog X.w) A' (eval elt cenv) (fun y s₃ => y = .bool (pb v) ∧ Keeps s₂ s₃) E' s₂
/-- lo <= x <= N, N a number of the module -/
theorem elt_between {X : Cx} {scope : Scope} {x g : Str} {lo hi : Int} {tk : Tok} {j : Nat} {p1 p2 p3 p4 : Pos} (hk : scope.kind = .function) (hl : scope.names.lookup x = some .local) (hgl : scope.names.lookup g = some .globalImplicit) (hm : X.mg g = some (.int hi tk))
    (hd : (x == ("__debug__" : Str)) = false := by decide) (hd2 : (g == ("__debug__" : Str)) = false := by decide) :
    EltV X scope x (.Compare (.Constant (.int lo) j p1) [.LtE, .LtE] [.Name x p2, .Name g p3] p4) (fun v => ∃ i, v = .int i) (fun v => match v with | .int i => decide (lo ≤ i) && decide (i ≤ hi) | _ => false) := by
  intro cenv A' E' v u s₂ m₂ hs hgl' hns hz ru hn hx
  obtain ⟨i, rfl⟩ := hz
  obtain ⟨t, rfl⟩ := ru
  have kk : ∀ k : Nat, Keeps s₂ { s₂ with toks := k } := fun k => ⟨s₂.heap, k, rfl, fun _ _ e => e⟩
  have hkf : cenv.scope.kind = .function := hs ▸ hk
  refine Compare_chain (wpAny_Constant_int (chain_link (wpAny_Name (wpAny_loadName_local hkf (show cenv.scope.names.lookup x = _ from hs ▸ hl) hn hx (PyProof.Rows.le_int (wpAny_truthy_bool ?_))) hd))) (by with_unfolding_all rfl)
  by_cases h1 : lo ≤ i
  · rw [decide_eq_true h1]
    refine ite_tt (chain_last (Calls.Name_function_global hkf (show cenv.scope.names.lookup g = _ from hs ▸ hgl) (Calls.loadGlobal_global (hgl' ▸ hns) hm (PyProof.Rows.le_int ⟨?_, kk _⟩)) hd2))
    simp [h1]
  · rw [decide_eq_false h1]
    refine ite_ff ⟨?_, kk _⟩
    simp [h1]
/-- all(test for x in e), e a tuple; behind it the def's table may have grown -/
def tAllT (K : PySem.W.Frag) (P : Addr) (Pz : V → Prop) (pb : V → Bool) (te : TE) : TE := fun σ H Q => te σ H fun v H1 => ∃ (a : Addr) (vs : List V), v = .ref a ∧ SqT K H1 a vs ∧ (∀ v ∈ vs, Pz v) ∧ GxR.TabG H1 P ∧ ∀ H2, GxR.Tabbed P H1 H2 → Q (.bl (vs.all pb)) H2
theorem pe_allT {X : Cx} {c P : Addr} {elt iter : Expr} {x : Str} {px p pos gpos : Pos} {scope : Scope} {Pz : V → Prop} {pb : V → Bool} {te : TE} {k : Nat} (hr : Room k X.A) (hg : Gl X "all") (hm : X.mg "all" = none) (hb : bootBuiltins "all" = some (.builtin "all"))
    (TB : GxR.TabB X.base X.mg c P) (hcode : X.env.code = .ref c) (S : GxR.GenS X.env scope x) (hi : PE X iter te) (hel : EltV X scope x elt Pz pb) (hs : ∀ v, genFold iter X.env v = pure v)
    (he : starEach [.GeneratorExp elt [⟨.Name x px, iter, [], 0⟩] scope gpos] X.env = [(false, eval (.GeneratorExp elt [⟨.Name x px, iter, [], 0⟩] scope gpos) X.env)] := by rfl) :
    PE X (.Call (.Name "all" p) [.GeneratorExp elt [⟨.Name x px, iter, [], 0⟩] scope gpos] [] pos) (tAllT X.K P Pz pb te) :=
  pe_all hr hg hm hb TB hcode S hi hs (fun σ H Q h => ⟨_, h, fun v H1 ⟨a, vs, ev, ht, hz, hT, q⟩ => ⟨vs, byItem vs pb, ⟨a, ev, .inr ht⟩, hT,
    fun pins ps s1 hP I1 cenv A E j y u s2 m _ Z hy r hn hmx => by
      rw [byItem_at hy]
      exact hel cenv A E y u s2 m Z.sc Z.gl (Z.globals I1 hP) (hz y (List.mem_of_getElem? hy)) r hn hmx,
    fun H2 h2 => by rw [all_byItem]; exact q H2 h2⟩⟩) he
end Cr
set_option Elab.async false
set_option linter.all false
set_option maxRecDepth 100000
set_option maxHeartbeats 4000000
/-! Calls that may raise, in short; the heaps: what is known (G) of what stands (H) -/
namespace Cr
open PySem PySem.Spec PyProof.Rows L2

/-! ### calls in short -/
section
variable {P : Program} {w : World} {K : PySem.W.Frag} {mg : Str → Option Value} {base : Heap}
/-- a def that may raise, called by its name -/
structure CalX (P : Program) (w : World) (K : PySem.W.Frag) (mg : Str → Option Value) (base : Heap) (k : Nat) (x : Str) (sp : Sp) : Prop where
  ex : ∃ (f : Addr) (fd : FuncData) (ps : List Str), FnOk P w K mg base (L2.CX P w) k f fd ps sp ∧ mg x = some (.ref f) ∧ PySem.W.keepIn K (.ref f) = true ∧ Binds K fd ps []
/-- a class that is made by its name, its __init__ raising nothing | perhaps something -/
structure Mak0 (P : Program) (w : World) (K : PySem.W.Frag) (mg : Str → Option Value) (base : Heap) (k : Nat) (x : Str) (C : Addr) (sp : Sp) : Prop where
  ex : ∃ (f : Addr) (fd : FuncData) (ps : List Str), Mk K C f ∧ FnOk P w K mg base CX0 k f fd ps sp ∧ mg x = some (.ref C) ∧ Binds K fd ps []
structure MakX (P : Program) (w : World) (K : PySem.W.Frag) (mg : Str → Option Value) (base : Heap) (k : Nat) (x : Str) (C : Addr) (sp : Sp) : Prop where
  ex : ∃ (f : Addr) (fd : FuncData) (ps : List Str), Mk K C f ∧ FnOk P w K mg base (L2.CX P w) k f fd ps sp ∧ mg x = some (.ref C) ∧ Binds K fd ps []
end
section
variable {X : Cx} {k j : Nat} {C : Addr} {x m : Str} {sp : Sp} {p pos apos : Pos} {e o : Expr} {es : List Expr} {ta : TE} {t : TA} {W : WX} {E : XK}
theorem pe_cx (c : CalX X.prog X.w X.K X.mg X.base k x sp) (hr : Room j X.A) (hk : k ≤ j) (tk : Takes X (fun cls d _ H => E cls d H)) (hg : Gl X x) (ha : PA X (e :: es) t)
    (hdb : (x == ("__debug__" : Str)) = false := by decide) (he : starEach (e :: es) X.env = (false, eval e X.env) :: starEach es X.env := by rfl) (hpl : (backTo pos (starEach es X.env)).any (·.1) = false := by rfl) :
    PE X (.Call (.Name x p) (e :: es) [] pos) (tCall sp [] E t) := by
  obtain ⟨f, fd, ps, F, hm, kp, b⟩ := c.ex
  exact pe_call F (hr.mono hk) hg hm kp b .nil (passes_call tk fun _ _ _ _ h => h) ha hdb he hpl
theorem pe_cxS (c : CalX X.prog X.w X.K X.mg X.base k x sp) (hr : Room j X.A) (hk : k ≤ j) (tk : Takes X W) (hg : Gl X x) (ha : PA X (e :: es) t)
    (hdb : (x == ("__debug__" : Str)) = false := by decide) (he : starEach (e :: es) X.env = (false, eval e X.env) :: starEach es X.env := by rfl) (hpl : (backTo pos (starEach es X.env)).any (·.1) = false := by rfl) :
    PE X (.Call (.Name x p) (e :: es) [] pos) (tCallSD sp [] (WE W) t) := by
  obtain ⟨f, fd, ps, F, hm, kp, b⟩ := c.ex
  exact pe_callSD F (hr.mono hk) hg hm kp b .nil (fun σ => passAt tk σ) ha hdb he hpl
theorem pe_mn (c : Mak0 X.prog X.w X.K X.mg X.base k x C sp) (hr : Room j X.A) (hk : k + 1 ≤ j) (hg : Gl X x) (ha : PA X (e :: es) t)
    (hdb : (x == ("__debug__" : Str)) = false := by decide) (he : starEach (e :: es) X.env = (false, eval e X.env) :: starEach es X.env := by rfl) (hpl : (backTo pos (starEach es X.env)).any (·.1) = false := by rfl) :
    PE X (.Call (.Name x p) (e :: es) [] pos) (tMake C sp [] E0 t) := by
  obtain ⟨f, fd, ps, M, F, hm, b⟩ := c.ex
  exact pe_make M F (hr.mono hk) hg hm b .nil pass0 ha hdb he hpl
theorem pe_mx (c : MakX X.prog X.w X.K X.mg X.base k x C sp) (hr : Room j X.A) (hk : k + 1 ≤ j) (tk : Takes X (fun cls d _ H => E cls d H)) (hg : Gl X x) (ha : PA X (e :: es) t)
    (hdb : (x == ("__debug__" : Str)) = false := by decide) (he : starEach (e :: es) X.env = (false, eval e X.env) :: starEach es X.env := by rfl) (hpl : (backTo pos (starEach es X.env)).any (·.1) = false := by rfl) :
    PE X (.Call (.Name x p) (e :: es) [] pos) (tMake C sp [] E t) := by
  obtain ⟨f, fd, ps, M, F, hm, b⟩ := c.ex
  exact pe_make M F (hr.mono hk) hg hm b .nil (passes_call tk fun _ _ _ _ h => h) ha hdb he hpl
theorem pe_mxS (c : MakX X.prog X.w X.K X.mg X.base k x C sp) (hr : Room j X.A) (hk : k + 1 ≤ j) (tk : Takes X W) (hg : Gl X x) (ha : PA X (e :: es) t)
    (hdb : (x == ("__debug__" : Str)) = false := by decide) (he : starEach (e :: es) X.env = (false, eval e X.env) :: starEach es X.env := by rfl) (hpl : (backTo pos (starEach es X.env)).any (·.1) = false := by rfl) :
    PE X (.Call (.Name x p) (e :: es) [] pos) (tMakeS C sp [] (WE W) t) := by
  obtain ⟨f, fd, ps, M, F, hm, b⟩ := c.ex
  exact pe_makeS M F (hr.mono hk) hg hm b .nil (fun σ => passAt tk σ) ha hdb he hpl
/-- a raising __init__ called in a def where a class may raise where no exception leaves: the caller promises that none does -/
theorem pe_mx0 (c : MakX X.prog X.w X.K X.mg X.base k x C sp) (hr : Room j X.A) (hk : k + 1 ≤ j) (hg : Gl X x) (ha : PA X (e :: es) t)
    (hdb : (x == ("__debug__" : Str)) = false := by decide) (he : starEach (e :: es) X.env = (false, eval e X.env) :: starEach es X.env := by rfl) (hpl : (backTo pos (starEach es X.env)).any (·.1) = false := by rfl) :
    PE X (.Call (.Name x p) (e :: es) [] pos) (tMake C sp [] E0 t) := by
  obtain ⟨f, fd, ps, M, F, hm, b⟩ := c.ex
  exact pe_make M F (hr.mono hk) hg hm b .nil passL ha hdb he hpl
theorem pe_cx0 (c : CalX X.prog X.w X.K X.mg X.base k x sp) (hr : Room j X.A) (hk : k ≤ j) (hg : Gl X x) (ha : PA X (e :: es) t)
    (hdb : (x == ("__debug__" : Str)) = false := by decide) (he : starEach (e :: es) X.env = (false, eval e X.env) :: starEach es X.env := by rfl) (hpl : (backTo pos (starEach es X.env)).any (·.1) = false := by rfl) :
    PE X (.Call (.Name x p) (e :: es) [] pos) (tCall sp [] E0 t) := by
  obtain ⟨f, fd, ps, F, hm, kp, b⟩ := c.ex
  exact pe_call F (hr.mono hk) hg hm kp b .nil passL ha hdb he hpl
end

/-! ### isinstance of a caught error that has its own dict -/
def rIsED (K : PySem.W.Frag) (cls : Value) (d : Option Addr) (a : Addr) : List V → Hp → VK → Prop := fun xs H Q => ∃ (D dd : Addr) (fs : List (Str × V)) (c : V) (cv : Value) (b : Bool), xs = [.ref a, c] ∧ cls = .ref D ∧ ExcC K D ∧ d = some dd ∧ H dd = some (.xd fs) ∧ ClsV c cv ∧ PySem.W.kitOne K (.ref D) cv = some b ∧ Q (.bl b) H
theorem call_isED {X : Cx} {a : Addr} {oe : Obj} {cls : Value} {d : Option Addr} {pn : List (Addr × Obj)} (hz : Zc cls d oe) (hf : ∃ vs, oe.data = .fields vs) : CallR (X.suite a ((a, oe) :: pn)) (.builtin "isinstance") (rIsED X.K cls d a) := by
  intro pins s σ H xs us Q I r h
  obtain ⟨D, dd, fs, c, cv, b, rfl, rfl, C, rfl, hdd, hcv, e, q⟩ := h
  obtain ⟨u1, u2, rfl, r1, r2⟩ := vals2 r
  cases (show u1 = Value.ref a from r1)
  have ec := hcv.eq r2
  subst ec
  obtain ⟨hget, _⟩ := I.pin (a, oe) (List.mem_append.mpr (.inl List.mem_cons_self))
  obtain ⟨vs, hv⟩ := hf
  have hx : ObjOk X.prog X.w H s.heap dd (.xd fs) := I.hok dd _ hdd
  obtain ⟨mA, hns, hr⟩ := hx
  obtain ⟨od, ho, hl⟩ := lookIn_ns hns
  have J : PySem.W.InstAt s.heap a oe D (some od) := ⟨hget, hz.1, by unfold PySem.W.notCls; rw [hv] <;> rfl, by rw [hz.2]; exact ho⟩
  exact PySem.W.kia_one (PySem.W.kitx_exc (by obtain ⟨cd, hc, _⟩ := PySem.W.any_some C.hd; rw [hc]; rfl) C.hg C.hk C.hs C.ha C.hn C.ht C.hm) I.kIn J e (fun z => nomatch z) fun tk => ⟨.bl b, H, I.kept (t' := tk) fun _ _ z => z, rfl, q⟩

/-! ### heaps -/
theorem Same.tup {K : PySem.W.Frag} {H H' : Hp} {a : Addr} {xs : List V} (e : Same H H') (h : SqT K H a xs) : SqT K H' a xs := by
  rcases h with (h | ⟨o, h⟩) | h
  · exact .inl (.inl (e _ _ h))
  · exact .inl (.inr ⟨o, e _ _ h⟩)
  · exact .inr h
mutual
theorem dp_same {K : PySem.W.Frag} {H H' : Hp} (e : Same H H') : ∀ {v : V} {d : PyData}, Dp K H v d → Dp K H' v d
  | _, _, .non => .non
  | _, _, .bl b => .bl b
  | _, _, .int i => .int i
  | _, _, .str x => .str x
  | _, _, .lst h r => .lst (e.seq h) (dpAll_same e r)
  | _, _, .tup h r => .tup (Same.tup e h) (dpAll_same e r)
theorem dpAll_same {K : PySem.W.Frag} {H H' : Hp} (e : Same H H') : ∀ {vs : List V} {ds : List PyData}, DpAll K H vs ds → DpAll K H' vs ds
  | _, _, .nil => .nil
  | _, _, .cons h r => .cons (dp_same e h) (dpAll_same e r)
end
/-- G: what is known; H: what stands; Fs: what stands apart (tables, things that are changed) -/
structure Wd (Fs : List Addr) (G H : Hp) : Prop where
  same : Same G H
  off : ∀ c ∈ Fs, G c = none
  on : ∀ c ∈ Fs, H c ≠ none
/-- G', H' come of G, H -/
structure Gr (Fs : List Addr) (G H G' H' : Hp) : Prop where
  up : Same G G'
  wd : Wd Fs G' H'
  keep : ∀ c o, c ∉ Fs → H c = some o → H' c = some o
  fresh : ∀ c, G c = none → H c ≠ none → G' c = none
section
variable {Fs Fs' : List Addr} {G H G1 H1 G2 H2 : Hp} {p P : Addr} {o u : HO}
theorem Wd.nin (w : Wd Fs G H) (hp : H p = none) : p ∉ Fs := fun h => w.on p h hp
theorem Wd.free (w : Wd Fs G H) (hp : H p = none) : G p = none := w.same.free hp
theorem Gr.refl (w : Wd Fs G H) : Gr Fs G H G H := ⟨Same.refl _, w, fun _ _ _ e => e, fun _ e _ => e⟩
theorem Gr.trans (a : Gr Fs G H G1 H1) (b : Gr Fs G1 H1 G2 H2) : Gr Fs G H G2 H2 := by
  refine ⟨a.up.trans b.up, b.wd, fun c o n e => b.keep c o n (a.keep c o n e), fun c e n => ?_⟩
  by_cases hc : c ∈ Fs
  · exact b.wd.off c hc
  · refine b.fresh c (a.fresh c e n) fun z => ?_
    cases q : H c with
    | none => exact n q
    | some o => rw [a.keep c o hc q] at z; cases z
/-- a new thing that is known from now on -/
theorem Gr.alloc (w : Wd Fs G H) (hp : H p = none) : Gr Fs G H (upd G p o) (upd H p o) := by
  have hn := w.nin hp
  refine ⟨fun b u e => ?_, ⟨fun b u e => ?_, fun c hc => ?_, fun c hc => ?_⟩, fun c u _ e => ?_, fun c e n => ?_⟩
  · rw [upd_ne (ne_of_none (w.same _ _ e) hp)]; exact e
  · by_cases hb : b = p
    · subst hb; rw [upd_same] at e ⊢; exact e
    · rw [upd_ne hb] at e ⊢; exact w.same _ _ e
  · rw [upd_ne (fun z => hn (by rw [← z]; exact hc))]; exact w.off c hc
  · rw [upd_ne (fun z => hn (by rw [← z]; exact hc))]; exact w.on c hc
  · rw [upd_ne (ne_of_none e hp)]; exact e
  · rw [upd_ne (fun z => n (by rw [z]; exact hp))]; exact e
/-- what stands changes, what is known does not -/
theorem Gr.of_keep (w : Wd Fs G H) (k : ∀ c o, c ∉ Fs → H c = some o → H1 c = some o) (on : ∀ c ∈ Fs, H1 c ≠ none) : Gr Fs G H G H1 := by
  refine ⟨Same.refl _, ⟨fun b u e => ?_, w.off, on⟩, k, fun c e _ => e⟩
  refine k b u (fun hb => ?_) (w.same _ _ e)
  rw [w.off b hb] at e; cases e
theorem Gr.skip (w : Wd Fs G H) (s : Same H H1) : Gr Fs G H G H1 := Gr.of_keep w (fun c o _ e => s c o e) fun c hc z => by
  cases q : H c with
  | none => exact w.on c hc q
  | some o => rw [s c o q] at z; cases z
theorem same_new (hp : H p = none) : Same H (upd H p o) := fun b u e => by rw [upd_ne (ne_of_none e hp)]; exact e
theorem Gr.new (w : Wd Fs G H) (hp : H p = none) : Gr Fs G H G (upd H p o) := Gr.skip w (same_new hp)
theorem Gr.tab (w : Wd Fs G H) (hP : P ∈ Fs) (t : GxR.Tabbed P H H1) : Gr Fs G H G H1 := by
  obtain ⟨⟨ps, e, _⟩, k⟩ := t
  refine Gr.of_keep w (fun c o n q => ?_) fun c hc z => ?_
  · rw [k c (fun z => n (z ▸ hP))]; exact q
  · by_cases hcP : c = P
    · rw [hcP, e] at z; cases z
    · rw [k c hcP] at z; exact w.on c hc z
/-- a write at a thing that was not there at the start and is not known -/
theorem Gr.poke (g : Gr Fs G H G1 H1) (hp : H p = none) (hg : G1 p = none) : Gr Fs G H G1 (upd H1 p o) := by
  refine ⟨g.up, ⟨fun b u e => ?_, g.wd.off, fun c hc z => ?_⟩, fun c u n e => ?_, g.fresh⟩
  · rw [upd_ne (fun z => by rw [z, hg] at e; cases e)]; exact g.wd.same _ _ e
  · by_cases hcp : c = p
    · rw [hcp, upd_same] at z; cases z
    · rw [upd_ne hcp] at z; exact g.wd.on c hc z
  · rw [upd_ne (fun z => by rw [z, hp] at e; cases e)]; exact g.keep c u n e
/-- .. is known from now on -/
theorem Gr.close (g : Gr Fs G H G1 H1) (hp : H p = none) (h1 : H1 p = some o) (hn : p ∉ Fs) (hg : G1 p = none) : Gr Fs G H (upd G1 p o) H1 := by
  refine ⟨fun b u e => ?_, ⟨fun b u e => ?_, fun c hc => ?_, g.wd.on⟩, g.keep, fun c e n => ?_⟩
  · have e1 := g.up _ _ e
    rw [upd_ne (fun z => by rw [z, hg] at e1; cases e1)]; exact e1
  · by_cases hb : b = p
    · subst hb; rw [upd_same] at e; rw [h1]; exact e
    · rw [upd_ne hb] at e; exact g.wd.same _ _ e
  · rw [upd_ne (fun z => hn (by rw [← z]; exact hc))]; exact g.wd.off c hc
  · rw [upd_ne (fun z => n (by rw [z]; exact hp))]; exact g.fresh c e n
theorem Gr.widen (g : Gr Fs G H G1 H1) (w : Wd Fs' G H) (sub : ∀ c ∈ Fs, c ∈ Fs') : Gr Fs' G H G1 H1 := by
  refine ⟨g.up, ⟨g.wd.same, fun c hc => g.fresh c (w.off c hc) (w.on c hc), fun c hc z => ?_⟩, fun c o n e => g.keep c o (fun hc => n (sub c hc)) e, g.fresh⟩
  by_cases h : c ∈ Fs
  · exact g.wd.on c h z
  · cases q : H c with
    | none => exact w.on c hc q
    | some o => rw [g.keep c o h q] at z; cases z
theorem Wd.sub (w : Wd Fs' G H) (sub : ∀ c ∈ Fs, c ∈ Fs') : Wd Fs G H := ⟨w.same, fun c hc => w.off c (sub c hc), fun c hc => w.on c (sub c hc)⟩
theorem Gr.at_ (g : Gr Fs G H G1 H1) (e : H p = some o) (n : p ∉ Fs) : H1 p = some o := g.keep p o n e
theorem Gr.dp {K : PySem.W.Frag} {v : V} {d : PyData} (g : Gr Fs G H G1 H1) (h : Dp K G v d) : Dp K G1 v d := dp_same g.up h
end
abbrev Tabs (Ps : List Addr) (H : Hp) : Prop := ∀ P ∈ Ps, GxR.TabG H P
/-- the tables are kept where nothing else than they may change -/
theorem Tabs.keep {Ps Fs : List Addr} {G H G' H' : Hp} (t : Tabs Ps H) (g : Gr Fs G H G' H') (d : ∀ P ∈ Ps, P ∉ Fs) : Tabs Ps H' := fun P hP => by
  obtain ⟨ps, e, r⟩ := t P hP
  exact ⟨ps, g.keep P _ (d P hP) e, r⟩

/-! ### rows: lists of tuples of ints -/
abbrev tI (ns : List Int) : PyData := .tuple (ns.map .int)
abbrev dI (rs : List (List Int)) : PyData := .list (rs.map tI)
def RowT (K : PySem.W.Frag) (G : Hp) (v : V) (ns : List Int) : Prop := ∃ t, v = .ref t ∧ SqT K G t (ns.map V.int)
abbrev RowsV (K : PySem.W.Frag) (G : Hp) : List V → List (List Int) → Prop := Paired (RowT K G)
def Rows (K : PySem.W.Frag) (G : Hp) (a : Addr) (rs : List (List Int)) : Prop := ∃ xs, SqL K G a xs ∧ RowsV K G xs rs
section
variable {K : PySem.W.Frag} {G G' : Hp} {v : V} {ns : List Int} {xs : List V} {rs : List (List Int)} {a : Addr}
theorem RowT.same (e : Same G G') (h : RowT K G v ns) : RowT K G' v ns := let ⟨t, q, r⟩ := h; ⟨t, q, Same.tup e r⟩
theorem rowsV_same (e : Same G G') : ∀ {xs : List V} {rs : List (List Int)}, RowsV K G xs rs → RowsV K G' xs rs
  | _, _, .nil => .nil
  | _, _, .cons h r => .cons (RowT.same e h) (rowsV_same e r)
theorem Rows.same (e : Same G G') (h : Rows K G a rs) : Rows K G' a rs := let ⟨xs, q, r⟩ := h; ⟨xs, e.seq q, rowsV_same e r⟩
theorem RowT.dp (h : RowT K G v ns) : Dp K G v (tI ns) := by
  obtain ⟨t, rfl, r⟩ := h
  exact .tup r (dpAll_ints ns)
theorem rowsV_dp : ∀ {xs : List V} {rs : List (List Int)}, RowsV K G xs rs → DpAll K G xs (rs.map tI)
  | _, _, .nil => .nil
  | _, _, .cons h r => .cons h.dp (rowsV_dp r)
theorem Rows.dp (h : Rows K G a rs) : Dp K G (.ref a) (dI rs) := by
  obtain ⟨xs, q, r⟩ := h
  exact .lst q (rowsV_dp r)
theorem paired_get {α β : Type} {F : α → β → Prop} : ∀ {l : List α} {m : List β} {i : Nat} {x : α}, Paired F l m → l[i]? = some x → ∃ y, m[i]? = some y ∧ F x y
  | _, _, _, _, .nil, e => by simp at e
  | _, _, 0, _, .cons r _, e => by simp at e; subst e; exact ⟨_, rfl, r⟩
  | _, _, i + 1, x, .cons _ t, e => by
    obtain ⟨y, h1, h2⟩ := paired_get (i := i) (x := x) t (by simpa using e)
    exact ⟨y, by simpa using h1, h2⟩
theorem paired_get' {α β : Type} {F : α → β → Prop} : ∀ {l : List α} {m : List β} {i : Nat} {y : β}, Paired F l m → m[i]? = some y → ∃ x, l[i]? = some x ∧ F x y
  | _, _, _, _, .nil, e => by simp at e
  | _, _, 0, _, .cons r _, e => by simp at e; subst e; exact ⟨_, rfl, r⟩
  | _, _, i + 1, x, .cons _ t, e => by
    obtain ⟨y, h1, h2⟩ := paired_get' (i := i) (y := x) t (by simpa using e)
    exact ⟨y, by simpa using h1, h2⟩
theorem paired_append {α β : Type} {F : α → β → Prop} : ∀ {l l' : List α} {m m' : List β}, Paired F l m → Paired F l' m' → Paired F (l ++ l') (m ++ m')
  | _, _, _, _, .nil, s => s
  | _, _, _, _, .cons r t, s => .cons r (paired_append t s)
theorem paired_snoc {α β : Type} {F : α → β → Prop} {l : List α} {m : List β} {x : α} {y : β} (h : Paired F l m) (r : F x y) : Paired F (l ++ [x]) (m ++ [y]) := paired_append h (.cons r .nil)
theorem paired_take {α β : Type} {F : α → β → Prop} : ∀ {l : List α} {m : List β} (n : Nat), Paired F l m → Paired F (l.take n) (m.take n)
  | _, _, 0, _ => .nil
  | _, _, n + 1, .nil => by simp; exact .nil
  | _, _, n + 1, .cons r t => .cons r (paired_take n t)
theorem paired_drop {α β : Type} {F : α → β → Prop} : ∀ {l : List α} {m : List β} (n : Nat), Paired F l m → Paired F (l.drop n) (m.drop n)
  | _, _, 0, r => r
  | _, _, n + 1, .nil => by simp; exact .nil
  | _, _, n + 1, .cons r t => by simpa using paired_drop n t
theorem paired_rep {α β : Type} {F : α → β → Prop} {x : α} {y : β} (r : F x y) : ∀ n, Paired F (List.replicate n x) (List.replicate n y)
  | 0 => .nil
  | n + 1 => .cons r (paired_rep r n)
end
end Cr
set_option Elab.async false
set_option linter.all false
set_option maxRecDepth 100000
set_option maxHeartbeats 4000000
/-! Defs, methods, classes as the top has left them, and their promises by their bodies -/
namespace Cr
open PySem PySem.Spec PyProof.Rows L2
section
variable (K : PySem.W.Frag) (mg : Str → Option Value) (base : Heap)
def DefR (x : Str) (st : Stmt) (ps : List Str) : Prop := ∃ (f : Addr) (fd : FuncData), Fun K x x st f fd ∧ mg x = some (.ref f) ∧ Binds K fd ps []
def MetR (C : Addr) (m qual : Str) (st : Stmt) (ps : List Str) : Prop := ∃ (f : Addr) (fd : FuncData), Meth K C m f ∧ Fun K m qual st f fd ∧ Binds K fd ps []
def IniR (C : Addr) (x qual : Str) (st : Stmt) (ps : List Str) : Prop := ∃ (f : Addr) (fd : FuncData), Mk K C f ∧ Fun K "__init__" qual st f fd ∧ mg x = some (.ref C) ∧ Binds K fd ps []
def ErrR (C : Addr) (x qual : Str) (st : Stmt) (ps : List Str) : Prop := ∃ (f : Addr) (fd : FuncData), OexC K C ∧ PySem.W.findIn K (.ref C) "__init__" = some (some (.ref f)) ∧ PySem.W.typeIn K (.ref f) = some (.type "function") ∧ Fun K "__init__" qual st f fd ∧ mg x = some (.ref C) ∧ Binds K fd ps []
def CodR (x : Str) (st : Stmt) (ps : List Str) (c T : Addr) : Prop := ∃ (f : Addr) (oc : Value) (od : Option Addr) (kV doc pm : Value) (an : Option Addr) (ct : Value) (osl : Array (Option Value)),
  K.lookup f = some ⟨oc, od, .func (PySem.W.fnOf x x (defArgs st) (defBody st) (defScope st) .none kV doc pm an (.ref c) ct), osl⟩ ∧ PySem.W.codeIn K (.ref c) x = true ∧ mg x = some (.ref f) ∧ PySem.W.keepIn K (.ref f) = true ∧
    Binds K (PySem.W.fnOf x x (defArgs st) (defBody st) (defScope st) .none kV doc pm an (.ref c) ct) ps [] ∧ GxR.TabB base mg c T
end
/-- an own error made -/
structure MakE (P : Program) (w : World) (K : PySem.W.Frag) (mg : Str → Option Value) (base : Heap) (k : Nat) (x : Str) (C : Addr) (sp : Sp) : Prop where
  ex : ∃ (f : Addr) (fd : FuncData) (ps : List Str), OexC K C ∧ PySem.W.findIn K (.ref C) "__init__" = some (some (.ref f)) ∧ PySem.W.typeIn K (.ref f) = some (.type "function") ∧ FnOk P w K mg base CX0 k f fd ps sp ∧ mg x = some (.ref C) ∧ Binds K fd ps []
theorem pmk_c {X : Cx} {k j : Nat} {C : Addr} {x : Str} {sp : Sp} {p pos : Pos} {e : Expr} {es : List Expr} {ta : TA} (c : MakE X.prog X.w X.K X.mg X.base k x C sp) (hr : Room j X.A) (hk : k + 1 ≤ j) (hg : Gl X x) (ha : PA X (e :: es) ta)
    (hdb : (x == ("__debug__" : Str)) = false := by decide) (he : starEach (e :: es) X.env = (false, eval e X.env) :: starEach es X.env := by rfl) (hpl : (backTo pos (starEach es X.env)).any (·.1) = false := by rfl) :
    PMk X (.Call (.Name x p) (e :: es) [] pos) (tMkO C sp [] ta) := by
  obtain ⟨f, fd, ps, T, iC, tI, F, hm, b⟩ := c.ex
  exact pmk_oex T iC tI F (hr.mono hk) b .nil pass0 hg hm ha hdb he hpl
section
variable {P : Program} {w : World} {K : PySem.W.Frag} {mg : Str → Option Value} {base : Heap} {x m qual : Str} {st : Stmt} {N ps : List Str} {k : Nat} {sp : Sp} {C c T : Addr}
/-- what a body is to show: nothing leaves it | something may -/
def Body0 (P : Program) (w : World) (K : PySem.W.Frag) (mg : Str → Option Value) (base : Heap) (N : List Str) (qual : Str) (st : Stmt) (k : Nat) (sp : Sp) : Prop :=
  ∀ (f : Addr) (cdv : Value) (A : Around) (outer : List Env) (s : Shared) (H : Hp) (vs : List V) (Q : VK) (E : XK), Room k (A.deeper (envOfC qual (defScope st) s.heap.objs.size f cdv)) → sp vs H Q E →
    ∃ t, PSs (cxOf CX0 P w K mg base N qual (defScope st) f cdv A outer s H E).nox (defBody st) t ∧ t { nx := fun _ H' => Q .non H', rt := Q } (start N vs) H
def BodyX (P : Program) (w : World) (K : PySem.W.Frag) (mg : Str → Option Value) (base : Heap) (N : List Str) (qual : Str) (st : Stmt) (k : Nat) (sp : Sp) : Prop :=
  ∀ (f : Addr) (cdv : Value) (A : Around) (outer : List Env) (s : Shared) (H : Hp) (vs : List V) (Q : VK) (E : XK), Room k (A.deeper (envOfC qual (defScope st) s.heap.objs.size f cdv)) → sp vs H Q E →
    ∃ t, PSs (cxOf (L2.CX P w) P w K mg base N qual (defScope st) f cdv A outer s H E) (defBody st) t ∧ t { nx := fun _ H' => Q .non H', rt := Q } (start N vs) H
theorem DefR.cal (d : DefR K mg x st ps) (S : FnScope N ps (defScope st)) (len : ∀ vs H Q E, sp vs H Q E → vs.length = ps.length) (b : Body0 P w K mg base N x st k sp) : C8.Cal P w K mg base (k + 1) x sp [] := by
  obtain ⟨f, fd, F, hm, bi⟩ := d
  exact ⟨f, fd, ps, [], F.ok S len (fun cdv A outer s H vs Q E hr h => b f cdv A outer s H vs Q E hr h), hm, F.kp, bi, .nil⟩
theorem DefR.calX (d : DefR K mg x st ps) (S : FnScope N ps (defScope st)) (len : ∀ vs H Q E, sp vs H Q E → vs.length = ps.length) (b : BodyX P w K mg base N x st k sp) : CalX P w K mg base (k + 1) x sp := by
  obtain ⟨f, fd, F, hm, bi⟩ := d
  exact ⟨f, fd, ps, F.okX S len (fun cdv A outer s H vs Q E hr h => b f cdv A outer s H vs Q E hr h), hm, F.kp, bi⟩
theorem MetR.met (d : MetR K C m qual st ps) (cl : Cls K C) (S : FnScope N ps (defScope st)) (len : ∀ vs H Q E, sp vs H Q E → vs.length = ps.length) (b : Body0 P w K mg base N qual st k sp) : C8.Met P w K mg base (k + 1) C m sp [] := by
  obtain ⟨f, fd, M, F, bi⟩ := d
  exact ⟨f, fd, ps, [], cl, M, F.ok S len (fun cdv A outer s H vs Q E hr h => b f cdv A outer s H vs Q E hr h), bi, .nil⟩
theorem IniR.makX (d : IniR K mg C x qual st ps) (S : FnScope N ps (defScope st)) (len : ∀ vs H Q E, sp vs H Q E → vs.length = ps.length) (b : BodyX P w K mg base N qual st k sp) : MakX P w K mg base (k + 1) x C sp := by
  obtain ⟨f, fd, M, F, hm, bi⟩ := d
  exact ⟨f, fd, ps, M, F.okX S len (fun cdv A outer s H vs Q E hr h => b f cdv A outer s H vs Q E hr h), hm, bi⟩
theorem ErrR.make (d : ErrR K mg C x qual st ps) (S : FnScope N ps (defScope st)) (len : ∀ vs H Q E, sp vs H Q E → vs.length = ps.length) (b : Body0 P w K mg base N qual st k sp) : MakE P w K mg base (k + 1) x C sp := by
  obtain ⟨f, fd, O, iC, tI, F, hm, bi⟩ := d
  exact ⟨f, fd, ps, O, iC, tI, F.ok S len (fun cdv A outer s H vs Q E hr h => b f cdv A outer s H vs Q E hr h), hm, bi⟩
theorem CodR.cal (d : CodR K mg base x st ps c T) (S : FnScope N ps (defScope st)) (len : ∀ vs H Q E, sp vs H Q E → vs.length = ps.length)
    (b : GxR.TabB base mg c T → ∀ (f : Addr) (A : Around) (outer : List Env) (s : Shared) (H : Hp) (vs : List V) (Q : VK) (E : XK), Room k (A.deeper (envOfC x (defScope st) s.heap.objs.size f (.ref c))) → sp vs H Q E →
      ∃ t, PSs (cxOf CX0 P w K mg base N x (defScope st) f (.ref c) A outer s H E).nox (defBody st) t ∧ t { nx := fun _ H' => Q .non H', rt := Q } (start N vs) H) : C8.Cal P w K mg base (k + 1) x sp [] := by
  obtain ⟨f, oc, od, kV, doc, pm, an, ct, osl, lk, hcd, hm, kp, bi, tb⟩ := d
  refine ⟨f, _, ps, [], fn_of lk hcd S len fun A outer s H vs Q E hr h => ?_, hm, kp, bi, .nil⟩
  obtain ⟨t, h1, q⟩ := b tb f A outer s H vs Q E hr h
  exact ⟨t, h1.nox, q⟩
end
/-! ### the same rules with the written part said (within a comprehension's block) -/
section
variable {X : Cx} {K : PySem.W.Frag} {e : Expr} {es : List Expr} {f : Str} {ta : TE} {t : TGs} {pos : Pos} {k n : Nat}
theorem pg_tupK (hK : X.K = K) (hc : X.calm = true) (h : PGs X es t) (hn : (assignEach es X.env).length = n := by rfl) (hst : (assignEach es X.env).findIdx? (·.1) = none := by rfl) : PG X (.Tuple es k pos) (gTup K n t) := by
  subst hK
  exact pg_tup hc h hn hst
theorem ix_seqK (hK : X.K = K) : IxR X (rIx K) := by
  subst hK
  exact ix_seq
theorem pe_fldK (hK : X.K = K) (he : PE X e ta) (hb : attributeBase e f X.env (eval e X.env) = eval e X.env) : PE X (.Attribute e f pos) (tFld K ta f) := by
  subst hK
  exact pe_fld he hb
def rLenS (K : PySem.W.Frag) : List V → Hp → VK → Prop := fun xs H Q => ∃ p ys, xs = [.ref p] ∧ (SqL K H p ys ∨ SqT K H p ys) ∧ Q (.int ys.length) H
theorem call_len_seqK (hK : X.K = K) : CallR X (.builtin "len") (rLenS K) := by
  subst hK
  exact call_len_seq
theorem cr_sumK (hK : X.K = K) (hc : X.calm = true) : CallR X (.builtin "sum") (rSum K) := by
  subst hK
  exact cr_sum hc
theorem cr_maxK (hK : X.K = K) (hc : X.calm = true) : CallR X (.builtin "max") (rMax K) := by
  subst hK
  exact cr_max hc
theorem cr_maxTK (hK : X.K = K) (hc : X.calm = true) (hu : X.A.units + 64 < cLine) : CallR X (.builtin "max") (rMaxT K) := by
  subst hK
  exact cr_maxT hc hu
theorem op_in_seqK (hK : X.K = K) : OpR X (compareOp .In) (rIn K false) := by
  subst hK
  exact op_in_seq
theorem op_notIn_seqK (hK : X.K = K) : OpR X (compareOp .NotIn) (rIn K true) := by
  subst hK
  exact op_notIn_seq
theorem sl_listK (hK : X.K = K) : SlR X (rSlL K) := by
  subst hK
  exact sl_list
theorem sl_tupK (hK : X.K = K) : SlR X (rSlT K) := by
  subst hK
  exact sl_tup
theorem op_eqDK (hK : X.K = K) (hu : X.A.units + 64 < cLine) : OpR X (compareOp .Eq) (rEqD K) := by
  subst hK
  exact op_eqD hu
def rListOf (K : PySem.W.Frag) : List V → Hp → VK → Prop := fun xs H Q => ∃ p ys, xs = [.ref p] ∧ (SqL K H p ys ∨ SqT K H p ys) ∧ ∀ l, H l = none → Q (.ref l) (upd H l (.lst ys))
theorem call_list_ofK (hK : X.K = K) : CallR X (.type "list") (rListOf K) := by
  subst hK
  exact call_list_of
end
/-! ### the slots of a comprehension's block -/
theorem wipe_comm {σ : L2.St} {i : Nat} {x : Option V} : ∀ {vs : List Nat}, i ∉ vs → wipe (σ.set i x) vs = (wipe σ vs).set i x
  | [], _ => rfl
  | v :: vs, h => by
    have h1 : i ≠ v := fun e => h (by rw [e]; exact List.mem_cons_self)
    have h2 : i ∉ vs := fun e => h (List.mem_cons_of_mem _ e)
    show (wipe (σ.set i x) vs).set v none = ((wipe σ vs).set v none).set i x
    rw [wipe_comm h2, List.set_comm _ _ h1]
theorem wipe_set {σ : L2.St} {i : Nat} {x : Option V} : ∀ {vs : List Nat}, i ∈ vs → wipe (σ.set i x) vs = wipe σ vs
  | v :: vs, h => by
    show (wipe (σ.set i x) vs).set v none = (wipe σ vs).set v none
    by_cases h2 : i ∈ vs
    · rw [wipe_set h2]
    · have e : i = v := by
        rcases List.mem_cons.mp h with e | e
        · exact e
        · exact absurd e h2
      subst e
      rw [wipe_comm h2, List.set_set]
theorem wipe_wipe (σ : L2.St) (vs : List Nat) : wipe (wipe σ vs) vs = wipe σ vs := by
  have key : ∀ (us : List Nat), (∀ u ∈ us, u ∈ vs) → wipe (wipe σ us) vs = wipe σ vs := by
    intro us
    induction us with
    | nil => intro _; rfl
    | cons u us ih =>
      intro h
      show wipe ((wipe σ us).set u none) vs = wipe σ vs
      rw [wipe_set (h u List.mem_cons_self)]
      exact ih fun z hz => h z (List.mem_cons_of_mem _ hz)
  exact key vs fun _ h => h
theorem Tabs.tab {Ps : List Addr} {H H2 : Hp} {T : Addr} (t : Tabs Ps H) (d : GxR.Tabbed T H H2) : Tabs Ps H2 := fun P hP => by
  by_cases e : P = T
  · rw [e]; exact d.1
  · obtain ⟨ps, q, r⟩ := t P hP
    exact ⟨ps, (d.2 P e).trans q, r⟩
theorem Tabs.same {Ps : List Addr} {H H2 : Hp} (t : Tabs Ps H) (s : Same H H2) : Tabs Ps H2 := fun P hP => by
  obtain ⟨ps, q, r⟩ := t P hP
  exact ⟨ps, s _ _ q, r⟩
end Cr
set_option Elab.async false
set_option linter.all false
set_option maxRecDepth 100000
set_option maxHeartbeats 4000000
/-! What a text's top has left, as facts of the written part; the walk's ground -/
namespace Cr
open PySem PySem.Spec PyProof.Rows L2
section
variable {K : PySem.W.Frag} {mg : Str → Option Value} {base h : Heap}
def DefF (K : PySem.W.Frag) (x : Str) (st : Stmt) : Prop := ∃ (f : Addr) (oc : Value) (od : Option Addr) (kV doc pm : Value) (an : Option Addr) (cd ct : Value) (sl : Array (Option Value)),
  PySem.W.nsIn K mainGlobals x = some (some (.ref f)) ∧ K.lookup f = some ⟨oc, od, .func (PySem.W.fnOf x x (defArgs st) (defBody st) (defScope st) .none kV doc pm an cd ct), sl⟩ ∧ PySem.W.codeIn K cd x = true ∧ PySem.W.keepIn K (.ref f) = true
theorem DefF.mk {x : Str} {st : Stmt} {f : Addr} {oc : Value} {od : Option Addr} {kV doc pm : Value} {an : Option Addr} {cd ct : Value} {sl : Array (Option Value)} (a : PySem.W.nsIn K mainGlobals x = some (some (.ref f))) (l : K.lookup f = some ⟨oc, od, .func (PySem.W.fnOf x x (defArgs st) (defBody st) (defScope st) .none kV doc pm an cd ct), sl⟩) (c : PySem.W.codeIn K cd x = true) (k : PySem.W.keepIn K (.ref f) = true) : DefF K x st := ⟨f, oc, od, kV, doc, pm, an, cd, ct, sl, a, l, c, k⟩
theorem DefF.r {x : Str} {st : Stmt} {ps : List Str} (d : DefF K x st) (X : K.In h) (G : h.Ns mainGlobals mg)
    (hb : ∀ (kV doc pm : Value) (an : Option Addr) (cdv ct : Value) (us : List Value), us.length = ps.length → bindArgs (PySem.W.fnOf x x (defArgs st) (defBody st) (defScope st) .none kV doc pm an cdv ct) ⟨us, []⟩ = pure (ps.zip us)) : DefR K mg x st ps := by
  obtain ⟨f, oc, od, kV, doc, pm, an, cd, ct, sl, a, l, c, k⟩ := d
  have F := fun_mk (st := st) l c k
  exact ⟨f, _, F, PySem.W.mg_of X G a, F.binds (ps := ps) hb⟩
def MetF (K : PySem.W.Frag) (C : Addr) (m qual : Str) (st : Stmt) : Prop := ∃ (f : Addr) (oc : Value) (od : Option Addr) (kV doc pm : Value) (an : Option Addr) (cd ct : Value) (sl : Array (Option Value)),
  PySem.W.findIn K (.ref C) m = some (some (.ref f)) ∧ PySem.W.isFn K (.ref f) = true ∧ K.lookup f = some ⟨oc, od, .func (PySem.W.fnOf m qual (defArgs st) (defBody st) (defScope st) .none kV doc pm an cd ct), sl⟩ ∧ PySem.W.codeIn K cd qual = true ∧ PySem.W.keepIn K (.ref f) = true
theorem MetF.mk {C : Addr} {m qual : Str} {st : Stmt} {f : Addr} {oc : Value} {od : Option Addr} {kV doc pm : Value} {an : Option Addr} {cd ct : Value} {sl : Array (Option Value)} (a : PySem.W.findIn K (.ref C) m = some (some (.ref f))) (i : PySem.W.isFn K (.ref f) = true) (l : K.lookup f = some ⟨oc, od, .func (PySem.W.fnOf m qual (defArgs st) (defBody st) (defScope st) .none kV doc pm an cd ct), sl⟩) (c : PySem.W.codeIn K cd qual = true) (k : PySem.W.keepIn K (.ref f) = true) : MetF K C m qual st := ⟨f, oc, od, kV, doc, pm, an, cd, ct, sl, a, i, l, c, k⟩
theorem MetF.r {C : Addr} {m qual : Str} {st : Stmt} {ps : List Str} (d : MetF K C m qual st)
    (hb : ∀ (kV doc pm : Value) (an : Option Addr) (cdv ct : Value) (us : List Value), us.length = ps.length → bindArgs (PySem.W.fnOf m qual (defArgs st) (defBody st) (defScope st) .none kV doc pm an cdv ct) ⟨us, []⟩ = pure (ps.zip us)) : MetR K C m qual st ps := by
  obtain ⟨f, oc, od, kV, doc, pm, an, cd, ct, sl, a, i, l, c, k⟩ := d
  have F := fun_mk (st := st) l c k
  exact ⟨f, _, ⟨a, i, k⟩, F, F.binds (ps := ps) hb⟩
theorem MetF.ini {C : Addr} {x qual : Str} {st : Stmt} {ps : List Str} (d : MetF K C "__init__" qual st) (hm : mg x = some (.ref C)) (mk : PySem.W.makesIn K C = true) (kc : PySem.W.keepIn K (.ref C) = true)
    (hb : ∀ (kV doc pm : Value) (an : Option Addr) (cdv ct : Value) (us : List Value), us.length = ps.length → bindArgs (PySem.W.fnOf "__init__" qual (defArgs st) (defBody st) (defScope st) .none kV doc pm an cdv ct) ⟨us, []⟩ = pure (ps.zip us)) : IniR K mg C x qual st ps := by
  obtain ⟨f, oc, od, kV, doc, pm, an, cd, ct, sl, a, i, l, c, k⟩ := d
  have F := fun_mk (st := st) l c k
  exact ⟨f, _, ⟨mk, a, i, kc⟩, F, hm, F.binds (ps := ps) hb⟩
def ErrF (K : PySem.W.Frag) (C : Addr) (qual : Str) (st : Stmt) : Prop := ∃ (f : Addr) (oc : Value) (od : Option Addr) (kV doc pm : Value) (an : Option Addr) (cd ct : Value) (sl : Array (Option Value)),
  PySem.W.findIn K (.ref C) "__init__" = some (some (.ref f)) ∧ PySem.W.typeIn K (.ref f) = some (.type "function") ∧ K.lookup f = some ⟨oc, od, .func (PySem.W.fnOf "__init__" qual (defArgs st) (defBody st) (defScope st) .none kV doc pm an cd ct), sl⟩ ∧ PySem.W.codeIn K cd qual = true ∧ PySem.W.keepIn K (.ref f) = true
theorem ErrF.mk {C : Addr} {qual : Str} {st : Stmt} {f : Addr} {oc : Value} {od : Option Addr} {kV doc pm : Value} {an : Option Addr} {cd ct : Value} {sl : Array (Option Value)} (a : PySem.W.findIn K (.ref C) "__init__" = some (some (.ref f))) (i : PySem.W.typeIn K (.ref f) = some (.type "function")) (l : K.lookup f = some ⟨oc, od, .func (PySem.W.fnOf "__init__" qual (defArgs st) (defBody st) (defScope st) .none kV doc pm an cd ct), sl⟩) (c : PySem.W.codeIn K cd qual = true) (k : PySem.W.keepIn K (.ref f) = true) : ErrF K C qual st := ⟨f, oc, od, kV, doc, pm, an, cd, ct, sl, a, i, l, c, k⟩
theorem ErrF.r {C : Addr} {x qual : Str} {st : Stmt} {ps : List Str} (d : ErrF K C qual st) (O : OexC K C) (hm : mg x = some (.ref C))
    (hb : ∀ (kV doc pm : Value) (an : Option Addr) (cdv ct : Value) (us : List Value), us.length = ps.length → bindArgs (PySem.W.fnOf "__init__" qual (defArgs st) (defBody st) (defScope st) .none kV doc pm an cdv ct) ⟨us, []⟩ = pure (ps.zip us)) : ErrR K mg C x qual st ps := by
  obtain ⟨f, oc, od, kV, doc, pm, an, cd, ct, sl, a, i, l, c, k⟩ := d
  have F := fun_mk (st := st) l c k
  exact ⟨f, _, O, a, i, F, hm, F.binds (ps := ps) hb⟩
def CodF (K : PySem.W.Frag) (x : Str) (st : Stmt) (cc : Addr) : Prop := ∃ (f : Addr) (oc : Value) (od : Option Addr) (kV doc pm : Value) (an : Option Addr) (ct : Value) (sl : Array (Option Value)),
  PySem.W.nsIn K mainGlobals x = some (some (.ref f)) ∧ K.lookup f = some ⟨oc, od, .func (PySem.W.fnOf x x (defArgs st) (defBody st) (defScope st) .none kV doc pm an (.ref cc) ct), sl⟩ ∧ PySem.W.codeIn K (.ref cc) x = true ∧ PySem.W.keepIn K (.ref f) = true
theorem CodF.mk {x : Str} {st : Stmt} {cc f : Addr} {oc : Value} {od : Option Addr} {kV doc pm : Value} {an : Option Addr} {ct : Value} {sl : Array (Option Value)} (a : PySem.W.nsIn K mainGlobals x = some (some (.ref f))) (l : K.lookup f = some ⟨oc, od, .func (PySem.W.fnOf x x (defArgs st) (defBody st) (defScope st) .none kV doc pm an (.ref cc) ct), sl⟩) (c : PySem.W.codeIn K (.ref cc) x = true) (k : PySem.W.keepIn K (.ref f) = true) : CodF K x st cc := ⟨f, oc, od, kV, doc, pm, an, ct, sl, a, l, c, k⟩
theorem CodF.r {x : Str} {st : Stmt} {ps : List Str} {cc T : Addr} (d : CodF K x st cc) (X : K.In h) (G : h.Ns mainGlobals mg) (tb : GxR.TabB base mg cc T)
    (hb : ∀ (kV doc pm : Value) (an : Option Addr) (cdv ct : Value) (us : List Value), us.length = ps.length → bindArgs (PySem.W.fnOf x x (defArgs st) (defBody st) (defScope st) .none kV doc pm an cdv ct) ⟨us, []⟩ = pure (ps.zip us)) : CodR K mg base x st ps cc T := by
  obtain ⟨f, oc, od, kV, doc, pm, an, ct, sl, a, l, c, k⟩ := d
  have F := fun_mk (st := st) l c k
  exact ⟨f, oc, od, kV, doc, pm, an, ct, sl, l, c, PySem.W.mg_of X G a, k, F.binds (ps := ps) hb, tb⟩
theorem kit_own {D C : Addr} {b : Bool} (ne : (Value.ref D == Value.ref C) = false) (h2 : PySem.W.isClsIn K C = true) (h3 : PySem.W.typeIn K (.ref C) = some (.type "type")) (h4 : PySem.W.subIn K (.ref D) (.ref C) = some b) : PySem.W.kitOne K (.ref D) (.ref C) = some b := by
  have e2 : ((PySem.W.clsIn K C).isSome && PySem.W.typeIn K (.ref C) == some (.type "type")) = true := by
    have h2' : (PySem.W.clsIn K C).isSome = true := h2
    rw [h2', h3] <;> rfl
  unfold PySem.W.kitOne
  rw [ne, if_neg Bool.false_ne_true]
  show (if ((PySem.W.clsIn K C).isSome && PySem.W.typeIn K (.ref C) == some (.type "type")) = true then PySem.W.subIn K (.ref D) (.ref C) else none) = some b
  rw [if_pos e2]
  exact h4
theorem kit_self {C : Addr} (h : (Value.ref C == Value.ref C) = true) : PySem.W.kitOne K (.ref C) (.ref C) = some true := by
  unfold PySem.W.kitOne
  rw [if_pos h]
theorem kit_bltn {D : Addr} {T : String} {b : Bool} (ne : (Value.ref D == Value.type T) = false) (h2 : PySem.W.kitMeta T = true) (h4 : PySem.W.subIn K (.ref D) (.type T) = some b) : PySem.W.kitOne K (.ref D) (.type T) = some b := by
  unfold PySem.W.kitOne
  rw [ne, if_neg Bool.false_ne_true]
  show (if PySem.W.kitMeta T = true then PySem.W.subIn K (.ref D) (.type T) else none) = some b
  rw [if_pos h2]
  exact h4
theorem exm_own {D C : Addr} {b : Bool} (h1 : PySem.W.subIn K (.ref C) (.type "BaseException") = some true) (h2 : PySem.W.isClsIn K C = true) (h3 : PySem.W.typeIn K (.ref C) = some (.type "type")) (h4 : PySem.W.subIn K (.ref D) (.ref C) = some b) : PySem.W.exmOne K (.ref D) (.ref C) = some b := by
  have e1 : (PySem.W.subIn K (.ref C) (.type "BaseException") == some true) = true := by rw [h1] <;> rfl
  have e2 : ((PySem.W.clsIn K C).isSome && PySem.W.typeIn K (.ref C) == some (.type "type")) = true := by
    have h2' : (PySem.W.clsIn K C).isSome = true := h2
    rw [h2', h3] <;> rfl
  show (if (PySem.W.subIn K (.ref C) (.type "BaseException") == some true) = true then (if ((PySem.W.clsIn K C).isSome && PySem.W.typeIn K (.ref C) == some (.type "type")) = true then PySem.W.subIn K (.ref D) (.ref C) else none) else none) = some b
  rw [if_pos e1, if_pos e2]
  exact h4
end
theorem walk_tab {l : PySem.W.OpenLaw} {n k : Nat} {q : Program} {loose : List Str} {XP : (Str → Option Value) → Heap → Prop} {YP : World → Heap → Prop} {d : DefRec} {K : Params → PySem.W.Frag} {CX : World → CXT} {x : Str}
    (hn : l.most = some n) (hn2 : n ≤ sizeLine) (hdf : d.params.defaults = []) (hr : Room k callerA) (hY : ∀ (w : World) (h : Heap), YP w h → (K w.params).In h)
    (F : ∀ (w : World) (s₀ : Shared) (mg mb : Str → Option Value) (fa : Addr) (h : Heap), PySem.W.Ground q loose [] XP w s₀ mg mb h → (K w.params).In h → h.Ns mainGlobals mg → mg d.name = some (.ref fa) → LamX.LawAtS l w (K w.params) (CX w) k n x mg fa h)
    (hCX : ∀ (w : World) (H : Hp) (s : Shared) (e : Value) (s' : Shared), CX w [] H s (fun _ _ _ => False) e s' → False) :
    PySem.W.WalkO q loose XP YP l.row.toRowW d [] (fun f vs => PySem.call f vs) := by
  refine Att.attach_callB hn hdf fun w s₀ s₁ mg mb fa o pm cd doc a vs ns G Y ho hd hcd hmg hobj hints hlen hbits hg => ?_
  have KX := hY w _ Y
  obtain ⟨fd, cs, sp, hT, nT, C, hb, hsp, hF⟩ := F w s₀ mg mb fa _ G KX G.T.g hmg
  exact LamX.law_callTs KX G.T.g G.T.b G.T.builtins G.T.nolimit hg hT nT C G.T.bmain hobj hints (Nat.le_trans hlen hn2) hr hF hb (fun H hH hS => hsp H a ns hlen hbits hH hS) fun H e s' => hCX w H s₁ e s'
end Cr
set_option Elab.async false
set_option linter.all false
set_option maxRecDepth 100000
set_option maxHeartbeats 4000000

namespace Cr
open PySem PySem.Spec PyProof.Rows L2
def top (i : Nat) : Stmt := PySem.Challenge.pw_candleroom_k07_bounds_and_lacks.main.body.getD i (.Pass ⟨0, 0, 0, 0⟩)
abbrev sBadHouse_init : Stmt := inClass (top 2) 0
abbrev nBadHouse_init : List Str := ["self", "word", "number"]
abbrev aBadHouse_init : List Str := ["self", "word", "number"]
theorem scBadHouse_init : FnScope nBadHouse_init aBadHouse_init (defScope sBadHouse_init) := ⟨rfl, rfl, rfl, by decide +kernel, rfl, by decide +kernel, by decide +kernel⟩
abbrev sHouse_init : Stmt := inClass (top 16) 0
abbrev nHouse_init : List Str := ["self", "hours", "rooms", "doors", "stays"]
abbrev aHouse_init : List Str := ["self", "hours", "rooms", "doors", "stays"]
theorem scHouse_init : FnScope nHouse_init aHouse_init (defScope sHouse_init) := ⟨rfl, rfl, rfl, by decide +kernel, rfl, by decide +kernel, by decide +kernel⟩
abbrev sHouse_rooms : Stmt := inClass (top 16) 1
abbrev nHouse_rooms : List Str := ["self"]
abbrev aHouse_rooms : List Str := ["self"]
theorem scHouse_rooms : FnScope nHouse_rooms aHouse_rooms (defScope sHouse_rooms) := ⟨rfl, rfl, rfl, by decide +kernel, rfl, by decide +kernel, by decide +kernel⟩
abbrev sHouse_doors : Stmt := inClass (top 16) 2
abbrev nHouse_doors : List Str := ["self"]
abbrev aHouse_doors : List Str := ["self"]
theorem scHouse_doors : FnScope nHouse_doors aHouse_doors (defScope sHouse_doors) := ⟨rfl, rfl, rfl, by decide +kernel, rfl, by decide +kernel, by decide +kernel⟩
abbrev sHouse_stays : Stmt := inClass (top 16) 3
abbrev nHouse_stays : List Str := ["self"]
abbrev aHouse_stays : List Str := ["self"]
theorem scHouse_stays : FnScope nHouse_stays aHouse_stays (defScope sHouse_stays) := ⟨rfl, rfl, rfl, by decide +kernel, rfl, by decide +kernel, by decide +kernel⟩
abbrev sHouse_use : Stmt := inClass (top 16) 4
abbrev nHouse_use : List Str := ["self", "room", "hour", "use", "_"]
abbrev aHouse_use : List Str := ["self", "room", "hour"]
theorem scHouse_use : FnScope nHouse_use aHouse_use (defScope sHouse_use) := ⟨rfl, rfl, rfl, by decide +kernel, rfl, by decide +kernel, by decide +kernel⟩
abbrev sHouse_least : Stmt := inClass (top 16) 5
abbrev nHouse_least : List Str := ["self", "room", "hour", "_", "need"]
abbrev aHouse_least : List Str := ["self", "room", "hour"]
theorem scHouse_least : FnScope nHouse_least aHouse_least (defScope sHouse_least) := ⟨rfl, rfl, rfl, by decide +kernel, rfl, by decide +kernel, by decide +kernel⟩
abbrev sHouse__wants : Stmt := inClass (top 16) 6
abbrev nHouse__wants : List Str := ["self", "room", "hour", "place", "begin", "end", "use", "need"]
abbrev aHouse__wants : List Str := ["self", "room", "hour"]
theorem scHouse__wants : FnScope nHouse__wants aHouse__wants (defScope sHouse__wants) := ⟨rfl, rfl, rfl, by decide +kernel, rfl, by decide +kernel, by decide +kernel⟩
abbrev s_check_counts : Stmt := top 17
abbrev n_check_counts : List Str := ["hours", "rooms", "doors", "stays"]
abbrev a_check_counts : List Str := ["hours", "rooms", "doors", "stays"]
theorem sc_check_counts : FnScope n_check_counts a_check_counts (defScope s_check_counts) := ⟨rfl, rfl, rfl, by decide +kernel, rfl, by decide +kernel, by decide +kernel⟩
abbrev s_check_parts : Stmt := top 18
abbrev n_check_parts : List Str := ["hours", "rooms", "doors", "stays", "number", "room", "door", "stay"]
abbrev a_check_parts : List Str := ["hours", "rooms", "doors", "stays"]
theorem sc_check_parts : FnScope n_check_parts a_check_parts (defScope s_check_parts) := ⟨rfl, rfl, rfl, by decide +kernel, rfl, by decide +kernel, by decide +kernel⟩
abbrev s_numbers_can_be : Stmt := top 19
abbrev n_numbers_can_be : List Str := ["numbers"]
abbrev a_numbers_can_be : List Str := ["numbers"]
theorem sc_numbers_can_be : FnScope n_numbers_can_be a_numbers_can_be (defScope s_numbers_can_be) := ⟨rfl, rfl, rfl, by decide +kernel, rfl, by decide +kernel, by decide +kernel⟩
abbrev s_room_can_be : Stmt := top 20
abbrev n_room_can_be : List Str := ["room", "air", "most", "_"]
abbrev a_room_can_be : List Str := ["room"]
theorem sc_room_can_be : FnScope n_room_can_be a_room_can_be (defScope s_room_can_be) := ⟨rfl, rfl, rfl, by decide +kernel, rfl, by decide +kernel, by decide +kernel⟩
abbrev s_door_can_be : Stmt := top 21
abbrev n_door_can_be : List Str := ["door", "rooms", "one", "other", "_"]
abbrev a_door_can_be : List Str := ["door", "rooms"]
theorem sc_door_can_be : FnScope n_door_can_be a_door_can_be (defScope s_door_can_be) := ⟨rfl, rfl, rfl, by decide +kernel, rfl, by decide +kernel, by decide +kernel⟩
abbrev s_stay_can_be : Stmt := top 22
abbrev n_stay_can_be : List Str := ["stay", "hours", "rooms", "place", "begin", "end", "_", "need", "most"]
abbrev a_stay_can_be : List Str := ["stay", "hours", "rooms"]
theorem sc_stay_can_be : FnScope n_stay_can_be a_stay_can_be (defScope s_stay_can_be) := ⟨rfl, rfl, rfl, by decide +kernel, rfl, by decide +kernel, by decide +kernel⟩

/-! ### the mathematics: which house can be -/
def numOk (n : Int) : Bool := decide (0 ≤ n) && decide (n ≤ 999)
def numV (v : V) : Bool := match v with
  | .int i => decide (0 ≤ i) && decide (i ≤ 999)
  | _ => false
theorem all_num : ∀ ns : List Int, (ns.map V.int).all numV = ns.all numOk
  | [] => rfl
  | n :: r => by
    rw [List.map_cons, List.all_cons, List.all_cons, all_num r]
    all_goals rfl
def roomOk : List Int → Bool
  | [a, m, l, p] => ([a, m, l, p] : List Int).all numOk && decide (a ≤ m)
  | _ => false
def doorOk (nr : Nat) : List Int → Bool
  | [o, t, l] => ([o, t, l] : List Int).all numOk && (!decide (o = t) && decide (max o t < (nr : Int)))
  | _ => false
def mostOf (rooms : List (List Int)) (r : Int) : Int := ((rooms.getD r.toNat []).getD 1 0)
def stayOk (h : Int) (rooms : List (List Int)) : List Int → Bool
  | [r, b, e, u, n] => ([r, b, e, u, n] : List Int).all numOk && (decide (r < (rooms.length : Int)) && (decide (b < e) && decide (e ≤ h) && decide (n ≤ mostOf rooms r)))
  | _ => false
/-- the first place where ok does not hold -/
def firstNot (ok : List Int → Bool) (rs : List (List Int)) : Option Nat := rs.findIdx? fun r => !ok r
def countBad (h : Int) (rooms doors stays : List (List Int)) : Option (Str × Int) :=
  if ¬ (1 ≤ h ∧ h ≤ 12) then some ("hours", 0) else if ¬ (1 ≤ rooms.length ∧ rooms.length ≤ 6) then some ("rooms", 0) else if doors.length > 8 then some ("doors", 0) else if stays.length > 20 then some ("stays", 0) else none
def partBad (h : Int) (rooms doors stays : List (List Int)) : Option (Str × Int) := match firstNot roomOk rooms with
  | some i => some ("room", (i : Int))
  | none => match firstNot (doorOk rooms.length) doors with
    | some i => some ("door", (i : Int))
    | none => match firstNot (stayOk h rooms) stays with
      | some i => some ("stay", (i : Int))
      | none => none
def houseBad (h : Int) (rooms doors stays : List (List Int)) : Option (Str × Int) := match countBad h rooms doors stays with
  | some z => some z
  | none => partBad h rooms doors stays
/-- the rows are of the right width -/
def Wide (n : Nat) (rs : List (List Int)) : Prop := ∀ r ∈ rs, r.length = n

/-! ### what the text's top has left -/
/-- the addresses of the text's classes, of a code object and its table -/
structure Ad where
  cH : Addr
  cA : Addr
  mA : Value
  cBH : Addr
  cNum : Addr
  tNum : Addr
structure RawP (K : PySem.W.Frag) (mg : Str → Option Value) (base : Heap) (ad : Ad) : Prop where
  airI : BaseI K ad.cA ad.mA
  m_AirError : mg "AirError" = some (.ref ad.cA)
  bh : ErrR K mg ad.cBH "BadHouse" "BadHouse.__init__" sBadHouse_init aBadHouse_init
  bhw : PySem.W.findIn K (.ref ad.cBH) "word" = some none
  bhn : PySem.W.findIn K (.ref ad.cBH) "number" = some none
  hi : IniR K mg ad.cH "House" "House.__init__" sHouse_init aHouse_init
  hcl : Cls K ad.cH
  hnh : NoAttr K ad.cH "hours"
  hnr : NoAttr K ad.cH "_rooms"
  hnd : NoAttr K ad.cH "_doors"
  hns : NoAttr K ad.cH "_stays"
  hro : MetR K ad.cH "rooms" "House.rooms" sHouse_rooms aHouse_rooms
  hdo : MetR K ad.cH "doors" "House.doors" sHouse_doors aHouse_doors
  hst : MetR K ad.cH "stays" "House.stays" sHouse_stays aHouse_stays
  hus : MetR K ad.cH "use" "House.use" sHouse_use aHouse_use
  hle : MetR K ad.cH "least" "House.least" sHouse_least aHouse_least
  hwa : MetR K ad.cH "_wants" "House._wants" sHouse__wants aHouse__wants
  cc : DefR K mg "_check_counts" s_check_counts a_check_counts
  cp : DefR K mg "_check_parts" s_check_parts a_check_parts
  nc : CodR K mg base "_numbers_can_be" s_numbers_can_be a_numbers_can_be ad.cNum ad.tNum
  rc : DefR K mg "_room_can_be" s_room_can_be a_room_can_be
  dc : DefR K mg "_door_can_be" s_door_can_be a_door_can_be
  sc : DefR K mg "_stay_can_be" s_stay_can_be a_stay_can_be
  gH : ∃ t, mg "MOST_HOURS" = some (.int 12 t)
  gR : ∃ t, mg "MOST_ROOMS" = some (.int 6 t)
  gD : ∃ t, mg "MOST_DOORS" = some (.int 8 t)
  gS : ∃ t, mg "MOST_STAYS" = some (.int 20 t)
  gN : ∃ t, mg "MOST_NUMBER" = some (.int 999 t)
  b_all : mg "all" = none
  b_len : mg "len" = none
  b_max : mg "max" = none
  b_sum : mg "sum" = none
  b_list : mg "list" = none
  b_enumerate : mg "enumerate" = none

section
variable {P : Program} {w : World} {K : PySem.W.Frag} {mg : Str → Option Value} {base : Heap} {ad : Ad}
/-! ### BadHouse -/
theorem small_num : ∀ k : Nat, k < 32 → (toString ((k : Nat) : Int) : Str).length ≤ 2 := by decide +kernel
theorem small_log : ∀ k : Nat, k < 32 → ((k : Nat) : Int).natAbs.log2 < 1920 := by decide +kernel
/-- BadHouse.__init__ -/
def spBHi (ad : Ad) : Sp := fun vs H Q _ => ∃ (a : Addr) (wd : Str) (k : Nat), vs = [.ref a, .str wd, .int (k : Int)] ∧ wd.length ≤ 10 ∧ k < 32 ∧ H a = some (exo a ad.cBH none) ∧
  ∀ dx, H dx = none → dx ≠ a → Q .non (upd (upd (upd H dx (exd dx [("word", .str wd)])) a (exo a ad.cBH (some dx))) dx (exd dx [("number", .int (k : Int)), ("word", .str wd)]))
theorem len_app (a b : Str) : (a ++ b).length = a.length + b.length := by
  show (a.cps ++ b.cps).size = _
  rw [Array.size_append] <;> rfl
theorem mk_bh (T : RawP K mg base ad) : MakE P w K mg base 1 "BadHouse" ad.cBH (spBHi ad) := by
  obtain ⟨_, _, O, _⟩ := id T.bh
  refine T.bh.make scBadHouse_init (fun vs H Q E h => ?_) (fun f cdv A outer s H vs Q E hr h => ?_)
  · obtain ⟨a, wd, k, rfl, _⟩ := h
    rfl
  · obtain ⟨a, wd, k, rfl, hw, hk, ha, q⟩ := h
    have m_AirError := T.m_AirError
    have i_AirError := T.airI
    refine ⟨_, (pss_cons (ps_expr (pe_baseinit i_AirError (by rfl) m_AirError (pa_cons (pv 0) (pa_cons (pe_joined (PJ.cons pe_str (PJ.cons (pe_fmt (pv 1)) (PJ.cons pe_str (PJ.cons (pe_fmt (pv 2)) PJ.nil))))) pa_nil))))
      (pss_cons (ps_ost (pv 0) (pv 1))
      (pss_one (ps_ost (pv 0) (pv 2))))), ?_⟩
    have hlw : wd.length ≤ 10 := hw
    have hz := small_num k hk
    have e1 : (Str.empty ++ ("a house cannot be so: " : Str)).length = 22 := by decide +kernel
    have e2 : ((" " : Str)).length = 1 := by decide +kernel
    have ez : ∀ n : Nat, n ≤ 100 → n ≤ sizeLine := fun n h => by rw [sizeLine_eq]; omega
    refine ⟨_, rfl, _, rfl, ez _ (by omega), _, rfl, .inl ⟨_, rfl, ez _ (by omega), _, rfl, ez _ (by rw [len_app, e1]; omega), _, rfl, ez _ (by rw [len_app, len_app, e1, e2]; omega), _, rfl, .inr ⟨_, rfl, small_log k hk, _, rfl, ez _ (by rw [len_app, len_app, len_app, e1, e2]; omega), ?_⟩⟩⟩
    refine ⟨a, ad.cBH, _, rfl, by show 1 ≤ 1000; decide, O, ha, ?_⟩
    refine ⟨_, rfl, _, rfl, a, ad.cBH, rfl, O, T.bhw, .inl ⟨ha, fun dx hdx hne => ?_⟩⟩
    refine ⟨_, rfl, _, rfl, a, ad.cBH, rfl, O, T.bhn, .inr ⟨dx, [("word", .str wd)], upd_same, ?_, ?_, ?_⟩⟩
    · rw [upd_ne hne, upd_same]
    · show 1 ≤ 900
      decide
    · exact q dx hdx hne
end
end Cr
set_option Elab.async false
set_option linter.all false
set_option maxRecDepth 100000
set_option maxHeartbeats 4000000

namespace Cr
open PySem PySem.Spec PyProof.Rows L2
theorem noFree {names : List (Str × NameKind)} {Q : Str × NameKind → Prop} (h : (names.all fun y => !decide (y.2 = .free)) = true) : ∀ y ∈ names, y.2 = .free → Q y := fun y hy e => by
  have z := List.all_eq_true.mp h y hy
  rw [decide_eq_true e] at z
  cases z
theorem len4 {α : Type} {l : List α} (h : l.length = 4) : ∃ a b c d, l = [a, b, c, d] := match l, h with
  | [a, b, c, d], _ => ⟨a, b, c, d, rfl⟩
theorem len3 {α : Type} {l : List α} (h : l.length = 3) : ∃ a b c, l = [a, b, c] := match l, h with
  | [a, b, c], _ => ⟨a, b, c, rfl⟩
theorem len5 {α : Type} {l : List α} (h : l.length = 5) : ∃ a b c d e, l = [a, b, c, d, e] := match l, h with
  | [a, b, c, d, e], _ => ⟨a, b, c, d, e, rfl⟩
section
variable {P : Program} {w : World} {K : PySem.W.Frag} {mg : Str → Option Value} {base : Heap} {ad : Ad} {Ps : List Addr}
def spNum (K : PySem.W.Frag) (Ps : List Addr) : Sp := fun vs H Q _ => ∃ (G : Hp) (t : Addr) (ns : List Int), vs = [.ref t] ∧ Wd Ps G H ∧ Tabs Ps H ∧ SqT K G t (ns.map V.int) ∧ ∀ H', Gr Ps G H G H' → Tabs Ps H' → Q (.bl (ns.all numOk)) H'
theorem c_num (T : RawP K mg base ad) (hP : ad.tNum ∈ Ps) : C8.Cal P w K mg base 1 "_numbers_can_be" (spNum K Ps) [] := by
  refine T.nc.cal sc_numbers_can_be (fun vs H Q E h => ?_) (fun tb f A outer s H vs Q E hr h => ?_)
  · obtain ⟨G, t, ns, rfl, _⟩ := h
    rfl
  · obtain ⟨G, t, ns, rfl, wd, tbs, ht, q⟩ := h
    have b_all := T.b_all
    obtain ⟨tk, g_MOST_NUMBER⟩ := T.gN
    refine ⟨_, (pss_one (ps_ret (pe_allT hr (by rfl) b_all (by decide +kernel) tb rfl ⟨rfl, rfl, by decide +kernel, rfl, rfl, noFree (by decide +kernel)⟩ (pv 0) (elt_between rfl rfl rfl g_MOST_NUMBER) (fun _ => rfl)))), ?_⟩
    refine ⟨_, rfl, t, ns.map V.int, rfl, Same.tup wd.same ht, fun v hv => ?_, tbs _ hP, fun H2 ht2 => ?_⟩
    · obtain ⟨i, _, rfl⟩ := List.mem_map.mp hv
      exact ⟨i, rfl⟩
    · have e : (ns.map V.int).all (fun v => match v with | .int i => decide (0 ≤ i) && decide (i ≤ 999) | _ => false) = ns.all numOk := by
        rw [List.all_map]
        all_goals rfl
      have z := q H2 (Gr.tab wd hP ht2) (Tabs.tab tbs ht2)
      rw [← e] at z
      exact z
/-- a test of one row: its value -/
def spRow (K : PySem.W.Frag) (Ps : List Addr) (n : Nat) (ok : List Int → Bool) : Sp := fun vs H Q _ => ∃ (G : Hp) (v : V) (ns : List Int), vs = [v] ∧ Wd Ps G H ∧ Tabs Ps H ∧ RowT K G v ns ∧ ns.length = n ∧ ∀ H', Gr Ps G H G H' → Tabs Ps H' → Q (.bl (ok ns)) H'
theorem c_room (T : RawP K mg base ad) (hP : ad.tNum ∈ Ps) : C8.Cal P w K mg base 2 "_room_can_be" (spRow K Ps 4 roomOk) [] := by
  refine T.rc.cal sc_room_can_be (fun vs H Q E h => ?_) (fun f cdv A outer s H vs Q E hr h => ?_)
  · obtain ⟨G, t, ns, rfl, _⟩ := h
    rfl
  · obtain ⟨G, v, ns, rfl, wd, tbs, ⟨t, rfl, ht⟩, hl, q⟩ := h
    obtain ⟨a, m, l, p, rfl⟩ := len4 hl
    have k__numbers_can_be : C8.Cal P w K mg base 1 "_numbers_can_be" (spNum K Ps) [] := c_num T hP
    refine ⟨_, (pss_cons (ps_asg (pv 0) (pg_tup rfl (pgs_cons (pg_name (i := 1) sc_room_can_be.nd rfl (Or.inl rfl)) (pgs_cons (pg_name (i := 2) sc_room_can_be.nd rfl (Or.inl rfl)) (pgs_cons (pg_name (i := 3) sc_room_can_be.nd rfl (Or.inl rfl)) (pgs_cons (pg_name (i := 3) sc_room_can_be.nd rfl (Or.inl rfl)) pgs_nil))))))
      (pss_one (ps_ret (pe_and (C8.pe_c k__numbers_can_be hr (by decide) rfl (pa_cons (pv 0) pa_nil)) (pe_one (pe_cmpR op_le (pv 1) (pv 2) (nomark _))))))), ?_⟩
    refine ⟨_, rfl, t, _, rfl, Same.tup wd.same ht, rfl, _, _, rfl, _, _, rfl, _, _, rfl, _, _, rfl, rfl, ?_⟩
    refine ⟨_, rfl, G, t, _, rfl, wd, tbs, ht, fun H' g tb' => ⟨_, rfl, ?_⟩⟩
    have z := q H' g tb'
    refine ite2 (fun hc => ?_) (fun hc => ?_)
    · refine ⟨_, rfl, _, rfl, _, _, rfl, rfl, ?_⟩
      have e : roomOk [a, m, l, p] = decide (a ≤ m) := by
        show (([a, m, l, p] : List Int).all numOk && decide (a ≤ m)) = _
        rw [hc, Bool.true_and]
      rw [e] at z
      exact z
    · have e : roomOk [a, m, l, p] = false := by
        show (([a, m, l, p] : List Int).all numOk && decide (a ≤ m)) = _
        rw [Bool.eq_false_iff.mpr hc, Bool.false_and]
      rw [e] at z
      exact z
theorem max_if (a b : Int) : (if b > a then b else a) = max a b := by
  by_cases h : b > a
  · rw [if_pos h]; omega
  · rw [if_neg h]; omega
def spDoor (K : PySem.W.Frag) (Ps : List Addr) : Sp := fun vs H Q _ => ∃ (G : Hp) (v : V) (ra : Addr) (ns : List Int) (rs : List (List Int)), vs = [v, .ref ra] ∧ Wd Ps G H ∧ Tabs Ps H ∧ RowT K G v ns ∧ ns.length = 3 ∧ Rows K G ra rs ∧ ∀ H', Gr Ps G H G H' → Tabs Ps H' → Q (.bl (doorOk rs.length ns)) H'
theorem c_door (T : RawP K mg base ad) (hP : ad.tNum ∈ Ps) : C8.Cal P w K mg base 2 "_door_can_be" (spDoor K Ps) [] := by
  refine T.dc.cal sc_door_can_be (fun vs H Q E h => ?_) (fun f cdv A outer s H vs Q E hr h => ?_)
  · obtain ⟨G, v, ra, ns, rs, rfl, _⟩ := h
    rfl
  · obtain ⟨G, v, ra, ns, rs, rfl, wd, tbs, ⟨t, rfl, ht⟩, hl, hR, q⟩ := h
    obtain ⟨o, d, l, rfl⟩ := len3 hl
    have b_max := T.b_max
    have b_len := T.b_len
    have k__numbers_can_be : C8.Cal P w K mg base 1 "_numbers_can_be" (spNum K Ps) [] := c_num T hP
    refine ⟨_, (pss_cons (ps_asg (pv 0) (pg_tup rfl (pgs_cons (pg_name (i := 2) sc_door_can_be.nd rfl (Or.inl rfl)) (pgs_cons (pg_name (i := 3) sc_door_can_be.nd rfl (Or.inl rfl)) (pgs_cons (pg_name (i := 4) sc_door_can_be.nd rfl (Or.inl rfl)) pgs_nil)))))
      (pss_one (ps_ret (pe_and (C8.pe_c k__numbers_can_be hr (by decide) rfl (pa_cons (pv 0) pa_nil)) (pe_and (pe_cmpR op_ne (pv 2) (pv 3) (nomark _)) (pe_one (pe_cmpR op_lt (pe_callB (call_max2 rfl) (by rfl) b_max (by decide +kernel) (pa_cons (pv 2) (pa_cons (pv 3) pa_nil))) (pe_callB call_len_seq (by rfl) b_len (by decide +kernel) (pa_cons (pv 1) pa_nil)) (nomark _)))))))), ?_⟩
    refine ⟨_, rfl, t, _, rfl, Same.tup wd.same ht, rfl, _, _, rfl, _, _, rfl, _, _, rfl, rfl, ?_⟩
    refine ⟨_, rfl, G, t, _, rfl, wd, tbs, ht, fun H' g tb' => ⟨_, rfl, ?_⟩⟩
    have z := q H' g tb'
    have e : doorOk rs.length [o, d, l] = (([o, d, l] : List Int).all numOk && (!decide (o = d) && decide (max o d < (rs.length : Int)))) := rfl
    rw [e] at z
    refine ite2 (fun hc => ?_) (fun hc => ?_)
    · rw [hc, Bool.true_and] at z
      obtain ⟨xs, hq, hr2⟩ := hR
      have hlen : xs.length = rs.length := Paired.length hr2
      refine ⟨_, rfl, _, rfl, rfl, _, rfl, ?_⟩
      have e2 : decide (V.int o = V.int d) = decide (o = d) := by simp
      rw [e2]
      refine ite2 (fun hd => ?_) (fun hd => ?_)
      · rw [hd, Bool.true_and] at z
        refine ⟨_, rfl, _, rfl, _, _, rfl, _, rfl, ra, xs, rfl, .inl (g.wd.same.seq hq), _, _, rfl, rfl, ?_⟩
        rw [max_if, hlen]
        exact z
      · rw [Bool.eq_false_iff.mpr hd, Bool.false_and] at z
        exact z
    · rw [Bool.eq_false_iff.mpr hc, Bool.false_and] at z
      exact z
def spStay (K : PySem.W.Frag) (Ps : List Addr) : Sp := fun vs H Q _ => ∃ (G : Hp) (v : V) (h : Int) (ra : Addr) (ns : List Int) (rs : List (List Int)), vs = [v, .int h, .ref ra] ∧ Wd Ps G H ∧ Tabs Ps H ∧ RowT K G v ns ∧ ns.length = 5 ∧ Rows K G ra rs ∧ Wide 4 rs ∧
  ∀ H', Gr Ps G H G H' → Tabs Ps H' → Q (.bl (stayOk h rs ns)) H'
theorem num_all5 {r b e u n : Int} (h : ([r, b, e, u, n] : List Int).all numOk = true) : 0 ≤ r := by
  have := List.all_eq_true.mp h r (by simp)
  unfold numOk at this
  simp at this
  exact this.1
theorem c_stay (T : RawP K mg base ad) (hP : ad.tNum ∈ Ps) : C8.Cal P w K mg base 2 "_stay_can_be" (spStay K Ps) [] := by
  refine T.sc.cal sc_stay_can_be (fun vs H Q E h => ?_) (fun f cdv A outer s H vs Q E hr h => ?_)
  · obtain ⟨G, v, h, ra, ns, rs, rfl, _⟩ := h
    rfl
  · obtain ⟨G, v, h, ra, ns, rs, rfl, wd, tbs, ⟨t, rfl, ht⟩, hl, hR, hW, q⟩ := h
    obtain ⟨r, b, e, u, n, rfl⟩ := len5 hl
    have b_len := T.b_len
    have k__numbers_can_be : C8.Cal P w K mg base 1 "_numbers_can_be" (spNum K Ps) [] := c_num T hP
    refine ⟨_, (pss_cons (ps_asg (pv 0) (pg_tup rfl (pgs_cons (pg_name (i := 3) sc_stay_can_be.nd rfl (Or.inl rfl)) (pgs_cons (pg_name (i := 4) sc_stay_can_be.nd rfl (Or.inl rfl)) (pgs_cons (pg_name (i := 5) sc_stay_can_be.nd rfl (Or.inl rfl)) (pgs_cons (pg_name (i := 6) sc_stay_can_be.nd rfl (Or.inl rfl)) (pgs_cons (pg_name (i := 7) sc_stay_can_be.nd rfl (Or.inl rfl)) pgs_nil)))))))
      (pss_cons (ps_if (PW.pt (pw_or (pt_not (pt_val (C8.pe_c k__numbers_can_be hr (by decide) rfl (pa_cons (pv 0) pa_nil)))) (pw_or1 (pt_cmpR op_ge (pv 3) (pe_callB call_len_seq (by rfl) b_len (by decide +kernel) (pa_cons (pv 2) pa_nil)) (nomark _)))))
        (pss_one (ps_ret pe_bl))
        pss_nil)
      (pss_cons (ps_asg (pe_ix ix_seq (pv 2) (pv 3) (fun _ _ => rfl)) (pg_tup rfl (pgs_cons (pg_name (i := 6) sc_stay_can_be.nd rfl (Or.inl rfl)) (pgs_cons (pg_name (i := 8) sc_stay_can_be.nd rfl (Or.inl rfl)) (pgs_cons (pg_name (i := 6) sc_stay_can_be.nd rfl (Or.inl rfl)) (pgs_cons (pg_name (i := 6) sc_stay_can_be.nd rfl (Or.inl rfl)) pgs_nil))))))
      (pss_one (ps_ret (pe_and (pe_chain op_lt op_le (pv 4) (pv 5) (pv 1)) (pe_one (pe_cmpR op_le (pv 7) (pv 8) (nomark _))))))))), ?_⟩
    refine ⟨_, rfl, t, _, rfl, Same.tup wd.same ht, rfl, _, _, rfl, _, _, rfl, _, _, rfl, _, _, rfl, _, _, rfl, rfl, ?_⟩
    refine ⟨_, rfl, G, t, _, rfl, wd, tbs, ht, fun H' g tb' => ⟨_, rfl, ?_⟩⟩
    have z := q H' g tb'
    have ez : stayOk h rs [r, b, e, u, n] = (([r, b, e, u, n] : List Int).all numOk && (decide (r < (rs.length : Int)) && (decide (b < e) && decide (e ≤ h) && decide (n ≤ mostOf rs r)))) := rfl
    rw [ez] at z
    obtain ⟨xs, hq, hr2⟩ := hR
    have hlen : xs.length = rs.length := Paired.length hr2
    have hq' := g.wd.same.seq hq
    cases hc : ([r, b, e, u, n] : List Int).all numOk with
    | false =>
      rw [hc, Bool.false_and] at z
      refine iteT ?_
      refine iteT ?_
      exact z
    | true =>
      rw [hc, Bool.true_and] at z
      have hr0 := num_all5 hc
      refine iteF ?_
      refine ⟨_, rfl, _, rfl, ra, xs, rfl, .inl hq', _, _, rfl, rfl, _, rfl, ?_⟩
      rw [hlen]
      cases hd : decide ((rs.length : Int) ≤ r) with
      | true =>
        have hd' := of_decide_eq_true hd
        rw [decide_eq_false (show ¬ r < (rs.length : Int) by omega), Bool.false_and] at z
        refine iteT ?_
        exact z
      | false =>
        have hd' := of_decide_eq_false hd
        rw [decide_eq_true (show r < (rs.length : Int) by omega), Bool.true_and] at z
        refine iteF ?_
        have hi : r.toNat < rs.length := by omega
        have hg : rs[r.toNat]? = some rs[r.toNat] := List.getElem?_eq_getElem hi
        obtain ⟨y, hy, ty, rfl, hty⟩ := paired_get' hr2 hg
        have hw4 := hW _ (List.getElem_mem hi)
        obtain ⟨ra', m, rl, rp, em⟩ := len4 hw4
        have hr' : r = ((r.toNat : Nat) : Int) := by omega
        refine ⟨_, rfl, _, rfl, .inl ⟨ra, xs, r, .ref ty, rfl, rfl, hq', ?_, ty, _, rfl, Same.tup g.wd.same hty, ?_, ?_⟩⟩
        · rw [hr']
          exact atI_nat hy
        · rw [em]
          rfl
        · rw [em]
          have hm : mostOf rs r = m := by
            have e1 : rs.getD r.toNat [] = [ra', m, rl, rp] := by rw [List.getD_eq_getElem?_getD, hg, Option.getD_some, em]
            unfold mostOf
            rw [e1]
            rfl
          rw [hm] at z
          refine ⟨_, _, rfl, _, _, rfl, _, _, rfl, _, _, rfl, rfl, ?_⟩
          refine ⟨_, rfl, _, rfl, _, _, rfl, rfl, _, rfl, ?_⟩
          refine ite2 (fun h1 => ?_) (fun h1 => ?_)
          · refine ⟨_, rfl, _, _, rfl, rfl, _, rfl, ?_⟩
            have h1' : decide (b < e) = true := h1
            rw [h1', Bool.true_and] at z
            refine ite2 (fun h2 => ?_) (fun h2 => ?_)
            · rw [h2, Bool.true_and] at z
              exact ⟨_, rfl, _, rfl, _, _, rfl, rfl, z⟩
            · rw [Bool.eq_false_iff.mpr h2, Bool.false_and] at z
              exact z
          · have h1' : decide (b < e) = false := Bool.eq_false_iff.mpr h1
            rw [h1', Bool.false_and, Bool.false_and] at z
            exact ⟨_, rfl, iteF z⟩
end
end Cr
set_option Elab.async false
set_option linter.all false
set_option maxRecDepth 100000
set_option maxHeartbeats 4000000

namespace Cr
open PySem PySem.Spec PyProof.Rows L2
theorem for_enum {K : PySem.W.Frag} {a : Addr} {xs : List V} {g : TG} {tb : TS} {D : Ends} {σ : L2.St} {H : Hp} (Pv : Nat → L2.St → Hp → Prop) (h0 : Pv 0 σ H) (hl : ∀ i σ H, i ≤ xs.length → Pv i σ H → SqL K H a xs)
    (hs : ∀ i x σ H T, xs[i]? = some x → Pv i σ H → H T = none → g (.ref T) σ (upd H T (.tup [.int (i : Nat), x])) fun σ2 H2 => tb { D with nx := Pv (i + 1), ct := Pv (i + 1), bk := D.nx } σ2 H2) (hd : ∀ σ H, Pv xs.length σ H → D.nx σ H) :
    ∃ W : Nat → Nat → L2.St → Hp → Prop, (∃ m, W 0 m σ H) ∧ ∀ i m σ H, W i m σ H →
      ((Ite K a).stop i H ∧ D.nx σ H) ∨ ((Ite K a).go i H ∧ ∃ N : L2.St → Hp → Prop, (∀ σ' H', N σ' H' → ∃ m', m' < m ∧ W (i + 1) m' σ' H') ∧ ∀ x H', (Ite K a).yld i H x H' → g x σ H' fun σ2 H2 => tb { D with nx := N, ct := N, bk := D.nx } σ2 H2) := by
  refine ⟨fun i m σ H => i + m = xs.length ∧ Pv i σ H, ⟨xs.length, Nat.zero_add _, h0⟩, fun i m σ H ⟨left, p⟩ => ?_⟩
  have q := hl i σ H (by omega) p
  cases m with
  | zero =>
    cases left
    exact .inl ⟨⟨xs, q, Nat.le_refl _⟩, hd σ H p⟩
  | succ m =>
    refine .inr ⟨⟨xs, xs[i]'(by omega), q, List.getElem?_eq_getElem _⟩, Pv (i + 1), fun _ _ p' => ⟨m, Nat.lt_succ_self m, by omega, p'⟩, ?_⟩
    rintro _ _ ⟨T, z, rfl, hT, rfl, hz⟩
    exact hs i z σ H T (hz xs q) p hT
theorem firstNot_none {ok : List Int → Bool} {rs : List (List Int)} (h : ∀ (j : Nat) r, j < rs.length → rs[j]? = some r → ok r = true) : firstNot ok rs = none := by
  unfold firstNot
  rw [List.findIdx?_eq_none_iff]
  intro x hx
  obtain ⟨j, hj, e⟩ := List.getElem_of_mem hx
  rw [h j x hj (by rw [List.getElem?_eq_getElem hj, e])]
  rfl
theorem firstNot_some {ok : List Int → Bool} {rs : List (List Int)} {i : Nat} {r : List Int} (e : rs[i]? = some r) (hn : ok r = false) (h : ∀ (j : Nat) r, j < i → rs[j]? = some r → ok r = true) : firstNot ok rs = some i := by
  obtain ⟨hi, e1⟩ := List.getElem?_eq_some_iff.mp e
  unfold firstNot
  rw [List.findIdx?_eq_some_iff_getElem]
  refine ⟨hi, by rw [e1, hn]; rfl, fun j hj => ?_⟩
  have hj2 : j < rs.length := Nat.lt_trans hj hi
  rw [h j _ hj (List.getElem?_eq_getElem hj2)]
  simp
section
variable {P : Program} {w : World} {K : PySem.W.Frag} {mg : Str → Option Value} {base : Heap} {ad : Ad} {Ps : List Addr} {H : Hp}
/-- a BadHouse with this word and number -/
def Raised (ad : Ad) (z : Str × Int) (cls : Value) (d : Option Addr) (H : Hp) : Prop := cls = .ref ad.cBH ∧ ∃ dd, d = some dd ∧ H dd = some (.xd [("number", .int z.2), ("word", .str z.1)])
theorem raise_heap {a dx : Addr} {o1 o2 o3 o4 o5 : HO} (ha : H a = none) (hne : dx ≠ a) : upd (del (upd (upd (upd (upd H a o1) dx o2) a o3) dx o4) a) dx o5 = upd H dx o5 := by
  funext b
  by_cases h1 : b = dx
  · rw [h1, upd_same, upd_same]
  · rw [upd_ne h1, upd_ne h1]
    by_cases h2 : b = a
    · rw [h2, del_same, ha]
    · rw [del_ne h2, upd_ne h1, upd_ne h2, upd_ne h1, upd_ne h2]
theorem raise_bh {wd : Str} {k : Nat} {W : XK} (hw : wd.length ≤ 10) (hk : k < 32) (q : ∀ dx, H dx = none → W (.ref ad.cBH) (some dx) (upd H dx (.xd [("number", .int (k : Int)), ("word", .str wd)]))) :
    [V.str wd, V.int (k : Int)].length ≤ 1000 ∧ ∀ a, H a = none → spBHi ad (.ref a :: ([V.str wd, V.int (k : Int)] ++ [])) (upd H a (exo a ad.cBH none))
      (fun v H2 => v = .non ∧ ∃ (d : Addr) (fs : List (Str × V)), H2 a = some (exo a ad.cBH (some d)) ∧ H2 d = some (exd d fs) ∧ H d = none ∧ W (.ref ad.cBH) (some d) (upd (del H2 a) d (.xd fs))) (fun _ _ _ => False) := by
  refine ⟨by show 2 ≤ 1000; decide, fun a ha => ⟨a, wd, k, rfl, hw, hk, upd_same, fun dx hdx hne => ⟨rfl, dx, _, ?_, upd_same, ?_, ?_⟩⟩⟩
  · rw [upd_ne (Ne.symm hne), upd_same]
  · rw [upd_ne hne] at hdx
    exact hdx
  · rw [raise_heap ha hne]
    rw [upd_ne hne] at hdx
    exact q dx hdx
/-- a def that looks at the parts of a house: nothing, or a BadHouse -/
def spChk (ad : Ad) (K : PySem.W.Frag) (Ps : List Addr) (C : Int → List (List Int) → List (List Int) → List (List Int) → Prop) (bad : Int → List (List Int) → List (List Int) → List (List Int) → Option (Str × Int)) : Sp := fun vs H Q E =>
  ∃ (G : Hp) (h : Int) (ra da sa : Addr) (rs ds ss : List (List Int)), vs = [.int h, .ref ra, .ref da, .ref sa] ∧ Wd Ps G H ∧ Tabs Ps H ∧ Rows K G ra rs ∧ Rows K G da ds ∧ Rows K G sa ss ∧ C h rs ds ss ∧
    (bad h rs ds ss = none → ∀ H', Gr Ps G H G H' → Tabs Ps H' → Q .non H') ∧
    (∀ z, bad h rs ds ss = some z → ∀ cls d H', Raised ad z cls d H' → Gr Ps G H G H' → Tabs Ps H' → E cls d H')
theorem c_counts (T : RawP K mg base ad) : CalX P w K mg base 3 "_check_counts" (spChk ad K Ps (fun _ _ _ _ => True) countBad) := by
  refine T.cc.calX sc_check_counts (fun vs H Q E h => ?_) (fun f cdv A outer s H vs Q E hr h => ?_)
  · obtain ⟨G, h, ra, da, sa, rs, ds, ss, rfl, _⟩ := h
    rfl
  · obtain ⟨G, h, ra, da, sa, rs, ds, ss, rfl, wd, tbs, ⟨xr, qr, rr⟩, ⟨xd, qd, rd⟩, ⟨xs, qs, rS⟩, _, q0, qx⟩ := h
    have b_len := T.b_len
    obtain ⟨_, g_MOST_HOURS⟩ := T.gH
    obtain ⟨_, g_MOST_ROOMS⟩ := T.gR
    obtain ⟨_, g_MOST_DOORS⟩ := T.gD
    obtain ⟨_, g_MOST_STAYS⟩ := T.gS
    have k_BadHouse : MakE P w K mg base 1 "BadHouse" ad.cBH (spBHi ad) := mk_bh T
    have lr : xr.length = rs.length := Paired.length rr
    have ld : xd.length = ds.length := Paired.length rd
    have ls : xs.length = ss.length := Paired.length rS
    have out : ∀ (wd' : Str), wd'.length ≤ 10 → countBad h rs ds ss = some (wd', 0) → ∀ dx, H dx = none → E (.ref ad.cBH) (some dx) (upd H dx (.xd [("number", .int ((0 : Nat) : Int)), ("word", .str wd')])) := fun wd' _ e dx hdx =>
      qx _ e _ _ _ ⟨rfl, dx, rfl, upd_same⟩ (Gr.new wd hdx) (tbs.same (same_new hdx))
    refine ⟨_, (pss_cons (ps_if (pt_not (pt_chain op_le op_le pe_int (pv 0) (pe_glob (v := .int _) rfl g_MOST_HOURS ⟨_, rfl⟩)))
        (pss_one (ps_raise rfl (takes_of rfl rfl rfl rfl) (pmk_c k_BadHouse hr (by decide) rfl (pa_cons pe_str (pa_cons pe_int pa_nil)))))
        pss_nil)
      (pss_cons (ps_if (pt_not (pt_chain op_le op_le pe_int (pe_callB call_len_seq (by rfl) b_len (by decide +kernel) (pa_cons (pv 1) pa_nil)) (pe_glob (v := .int _) rfl g_MOST_ROOMS ⟨_, rfl⟩)))
        (pss_one (ps_raise rfl (takes_of rfl rfl rfl rfl) (pmk_c k_BadHouse hr (by decide) rfl (pa_cons pe_str (pa_cons pe_int pa_nil)))))
        pss_nil)
      (pss_cons (ps_if (pt_cmpR op_gt (pe_callB call_len_seq (by rfl) b_len (by decide +kernel) (pa_cons (pv 2) pa_nil)) (pe_glob (v := .int _) rfl g_MOST_DOORS ⟨_, rfl⟩) (nomark _))
        (pss_one (ps_raise rfl (takes_of rfl rfl rfl rfl) (pmk_c k_BadHouse hr (by decide) rfl (pa_cons pe_str (pa_cons pe_int pa_nil)))))
        pss_nil)
      (pss_one (ps_if (pt_cmpR op_gt (pe_callB call_len_seq (by rfl) b_len (by decide +kernel) (pa_cons (pv 3) pa_nil)) (pe_glob (v := .int _) rfl g_MOST_STAYS ⟨_, rfl⟩) (nomark _))
        (pss_one (ps_raise rfl (takes_of rfl rfl rfl rfl) (pmk_c k_BadHouse hr (by decide) rfl (pa_cons pe_str (pa_cons pe_int pa_nil)))))
        pss_nil))))), ?_⟩
    refine ⟨_, rfl, _, _, rfl, rfl, _, rfl, ?_⟩
    unfold countBad at q0 out
    by_cases h1 : ¬ (1 ≤ h ∧ h ≤ 12)
    · rw [if_pos h1] at out
      by_cases h2 : 1 ≤ h
      · rw [decide_eq_true h2]
        refine iteT ⟨_, _, rfl, rfl, _, rfl, ?_⟩
        rw [decide_eq_false (show ¬ h ≤ 12 from fun z => h1 ⟨h2, z⟩)]
        exact iteT (raise_bh (by decide +kernel) (by decide) (out _ (by decide +kernel) rfl))
      · rw [decide_eq_false h2]
        refine iteF ⟨_, rfl, ?_⟩
        exact iteT (raise_bh (by decide +kernel) (by decide) (out _ (by decide +kernel) rfl))
    rw [if_neg h1] at out q0
    replace h1 := Decidable.not_not.mp h1
    rw [decide_eq_true h1.1]
    refine iteT ⟨_, _, rfl, rfl, _, rfl, ?_⟩
    rw [decide_eq_true h1.2]
    refine iteF ?_
    refine ⟨_, rfl, ra, xr, rfl, .inl (wd.same.seq qr), _, _, rfl, rfl, _, rfl, ?_⟩
    rw [lr]
    by_cases h2 : ¬ (1 ≤ rs.length ∧ rs.length ≤ 6)
    · rw [if_pos h2] at out
      by_cases h3 : (1 : Int) ≤ (rs.length : Int)
      · rw [decide_eq_true h3]
        refine iteT ⟨_, _, rfl, rfl, _, rfl, ?_⟩
        rw [decide_eq_false (show ¬ ((rs.length : Int) ≤ 6) by omega)]
        exact iteT (raise_bh (by decide +kernel) (by decide) (out _ (by decide +kernel) rfl))
      · rw [decide_eq_false h3]
        refine iteF ⟨_, rfl, ?_⟩
        exact iteT (raise_bh (by decide +kernel) (by decide) (out _ (by decide +kernel) rfl))
    rw [if_neg h2] at out q0
    replace h2 := Decidable.not_not.mp h2
    rw [decide_eq_true (show (1 : Int) ≤ (rs.length : Int) by omega)]
    refine iteT ⟨_, _, rfl, rfl, _, rfl, ?_⟩
    rw [decide_eq_true (show (rs.length : Int) ≤ 6 by omega)]
    refine iteF ?_
    refine ⟨_, rfl, da, xd, rfl, .inl (wd.same.seq qd), _, _, rfl, rfl, _, rfl, ?_⟩
    rw [ld]
    by_cases h3 : ds.length > 8
    · rw [if_pos h3] at out
      rw [decide_eq_true (show (8 : Int) < (ds.length : Int) by omega)]
      exact iteT (raise_bh (by decide +kernel) (by decide) (out _ (by decide +kernel) rfl))
    rw [if_neg h3] at out q0
    rw [decide_eq_false (show ¬ ((8 : Int) < (ds.length : Int)) by omega)]
    refine iteF ?_
    refine ⟨_, rfl, sa, xs, rfl, .inl (wd.same.seq qs), _, _, rfl, rfl, _, rfl, ?_⟩
    rw [ls]
    by_cases h4 : ss.length > 20
    · rw [if_pos h4] at out
      rw [decide_eq_true (show (20 : Int) < (ss.length : Int) by omega)]
      exact iteT (raise_bh (by decide +kernel) (by decide) (out _ (by decide +kernel) rfl))
    rw [if_neg h4] at out q0
    rw [decide_eq_false (show ¬ ((20 : Int) < (ss.length : Int)) by omega)]
    exact iteF (q0 rfl H (Gr.refl wd) tbs)
end
end Cr
set_option Elab.async false
set_option linter.all false
set_option maxRecDepth 100000
set_option maxHeartbeats 4000000

namespace Cr
open PySem PySem.Spec PyProof.Rows L2
section
variable {P : Program} {w : World} {K : PySem.W.Frag} {mg : Str → Option Value} {base : Heap} {ad : Ad} {Ps : List Addr} {H : Hp}
/-- what is asked of the rows' widths and counts ahead -/
def WideH (h : Int) (rs ds ss : List (List Int)) : Prop := Wide 4 rs ∧ Wide 3 ds ∧ Wide 5 ss ∧ rs.length < 32 ∧ ds.length < 32 ∧ ss.length < 32
theorem c_parts (T : RawP K mg base ad) (hP : ad.tNum ∈ Ps) : CalX P w K mg base 3 "_check_parts" (spChk ad K Ps WideH partBad) := by
  refine T.cp.calX sc_check_parts (fun vs H Q E h => ?_) (fun f cdv A outer s H vs Q E hr h => ?_)
  · obtain ⟨G, h, ra, da, sa, rs, ds, ss, rfl, _⟩ := h
    rfl
  · obtain ⟨G, h, ra, da, sa, rs, ds, ss, rfl, wd, tbs, hR, hD, hS, ⟨w4, w3, w5, lr, ld, ls⟩, q0, qx⟩ := h
    obtain ⟨xr, qr, rr⟩ := id hR
    obtain ⟨xd, qd, rd⟩ := id hD
    obtain ⟨xs, qs, rS⟩ := id hS
    have b_enumerate := T.b_enumerate
    have k_BadHouse : MakE P w K mg base 1 "BadHouse" ad.cBH (spBHi ad) := mk_bh T
    have k__room_can_be : C8.Cal P w K mg base 2 "_room_can_be" (spRow K Ps 4 roomOk) [] := c_room T hP
    have k__door_can_be : C8.Cal P w K mg base 2 "_door_can_be" (spDoor K Ps) [] := c_door T hP
    have k__stay_can_be : C8.Cal P w K mg base 2 "_stay_can_be" (spStay K Ps) [] := c_stay T hP
    have out : ∀ (wd' : Str) (i : Nat) H', partBad h rs ds ss = some (wd', (i : Int)) → Gr Ps G H G H' → Tabs Ps H' → ∀ dx, H' dx = none → E (.ref ad.cBH) (some dx) (upd H' dx (.xd [("number", .int (i : Int)), ("word", .str wd')])) := fun wd' i H' e g t dx hdx =>
      qx _ e _ _ _ ⟨rfl, dx, rfl, upd_same⟩ (g.trans (Gr.new g.wd hdx)) (t.same (same_new hdx))
    refine ⟨_, (pss_cons (ps_for (passes_of rfl) rfl (pi_enum (by rfl) b_enumerate (pa_cons (pv 1) pa_nil)) (pg_tup rfl (pgs_cons (pg_name (i := 4) sc_check_parts.nd rfl (Or.inl rfl)) (pgs_cons (pg_name (i := 5) sc_check_parts.nd rfl (Or.inl rfl)) pgs_nil)))
        (pss_one (ps_if (pt_not (pt_val (C8.pe_c k__room_can_be hr (by decide) rfl (pa_cons (pv 5) pa_nil))))
        (pss_one (ps_raise rfl (takes_of rfl rfl rfl rfl) (pmk_c k_BadHouse hr (by decide) rfl (pa_cons pe_str (pa_cons (pv 4) pa_nil)))))
        pss_nil)))
      (pss_cons (ps_for (passes_of rfl) rfl (pi_enum (by rfl) b_enumerate (pa_cons (pv 2) pa_nil)) (pg_tup rfl (pgs_cons (pg_name (i := 4) sc_check_parts.nd rfl (Or.inl rfl)) (pgs_cons (pg_name (i := 6) sc_check_parts.nd rfl (Or.inl rfl)) pgs_nil)))
        (pss_one (ps_if (pt_not (pt_val (C8.pe_c k__door_can_be hr (by decide) rfl (pa_cons (pv 6) (pa_cons (pv 1) pa_nil)))))
        (pss_one (ps_raise rfl (takes_of rfl rfl rfl rfl) (pmk_c k_BadHouse hr (by decide) rfl (pa_cons pe_str (pa_cons (pv 4) pa_nil)))))
        pss_nil)))
      (pss_one (ps_for (passes_of rfl) rfl (pi_enum (by rfl) b_enumerate (pa_cons (pv 3) pa_nil)) (pg_tup rfl (pgs_cons (pg_name (i := 4) sc_check_parts.nd rfl (Or.inl rfl)) (pgs_cons (pg_name (i := 7) sc_check_parts.nd rfl (Or.inl rfl)) pgs_nil)))
        (pss_one (ps_if (pt_not (pt_val (C8.pe_c k__stay_can_be hr (by decide) rfl (pa_cons (pv 7) (pa_cons (pv 0) (pa_cons (pv 1) pa_nil))))))
        (pss_one (ps_raise rfl (takes_of rfl rfl rfl rfl) (pmk_c k_BadHouse hr (by decide) rfl (pa_cons pe_str (pa_cons (pv 4) pa_nil)))))
        pss_nil)))))), ?_⟩
    refine ⟨_, rfl, ra, xr, rfl, wd.same.seq qr, for_enum (K := K) (a := ra) (xs := xr) (fun i σ H' => ∃ v4 v5, σ = [some (.int h), some (.ref ra), some (.ref da), some (.ref sa), v4, v5, none, none] ∧ Gr Ps G H G H' ∧ Tabs Ps H' ∧ ∀ (j : Nat) r, j < i → rs[j]? = some r → roomOk r = true)
      ⟨none, none, rfl, Gr.refl wd, tbs, fun j r hj => absurd hj (Nat.not_lt_zero _)⟩ (fun i σ H' _ ⟨_, _, _, g, _⟩ => g.wd.same.seq qr) ?_ ?_⟩
    · rintro i x σ H' U hx ⟨v4, v5, rfl, g, tb', hj⟩ hU
      obtain ⟨r, er, hrow⟩ := paired_get rr hx
      have hi : i < rs.length := (List.getElem?_eq_some_iff.mp er).1
      have g2 := g.trans (Gr.new (o := .tup [.int (i : Nat), x]) g.wd hU)
      refine ⟨U, _, rfl, SqT.of upd_same, rfl, _, _, rfl, _, _, rfl, rfl, ?_⟩
      refine ⟨_, rfl, G, x, r, rfl, g2.wd, tb'.same (same_new hU), hrow, w4 r (List.mem_of_getElem? er), fun H3 g3 tb3 => ⟨_, rfl, ?_⟩⟩
      cases hok : roomOk r with
      | false =>
        refine iteT ⟨_, rfl, ?_⟩
        refine raise_bh (by decide +kernel) (by omega) (out _ i H3 ?_ (g2.trans g3) tb3)
        unfold partBad
        rw [firstNot_some er hok hj]
      | true =>
        refine iteF ⟨_, _, rfl, g2.trans g3, tb3, fun j r' h1 h2 => ?_⟩
        by_cases e : j = i
        · subst e
          rw [er] at h2
          cases h2
          exact hok
        · exact hj j r' (by omega) h2
    rintro σ H1 ⟨v4, v5, rfl, g1, tb1, hj1⟩
    have f1 : firstNot roomOk rs = none := firstNot_none fun j r a b => hj1 j r (by rw [Paired.length rr]; exact a) b
    refine ⟨_, rfl, da, xd, rfl, g1.wd.same.seq qd, for_enum (K := K) (a := da) (xs := xd) (fun i σ H' => ∃ v4 v6, σ = [some (.int h), some (.ref ra), some (.ref da), some (.ref sa), v4, v5, v6, none] ∧ Gr Ps G H G H' ∧ Tabs Ps H' ∧ ∀ (j : Nat) r, j < i → ds[j]? = some r → doorOk rs.length r = true)
      ⟨_, none, rfl, g1, tb1, fun j r hj => absurd hj (Nat.not_lt_zero _)⟩ (fun i σ H' _ ⟨_, _, _, g, _⟩ => g.wd.same.seq qd) ?_ ?_⟩
    · rintro i x σ H' U hx ⟨v4, v6, rfl, g, tb', hj⟩ hU
      obtain ⟨r, er, hrow⟩ := paired_get rd hx
      have hi : i < ds.length := (List.getElem?_eq_some_iff.mp er).1
      have g2 := g.trans (Gr.new (o := .tup [.int (i : Nat), x]) g.wd hU)
      refine ⟨U, _, rfl, SqT.of upd_same, rfl, _, _, rfl, _, _, rfl, rfl, ?_⟩
      refine ⟨_, rfl, _, rfl, G, x, ra, r, rs, rfl, g2.wd, tb'.same (same_new hU), hrow, w3 r (List.mem_of_getElem? er), hR, fun H3 g3 tb3 => ⟨_, rfl, ?_⟩⟩
      cases hok : doorOk rs.length r with
      | false =>
        refine iteT ⟨_, rfl, ?_⟩
        refine raise_bh (by decide +kernel) (by omega) (out _ i H3 ?_ (g2.trans g3) tb3)
        unfold partBad
        rw [f1]
        show (match firstNot (doorOk rs.length) ds with | some i => some (("door" : Str), (i : Int)) | none => _) = _
        rw [firstNot_some er hok hj]
      | true =>
        refine iteF ⟨_, _, rfl, g2.trans g3, tb3, fun j r' h1 h2 => ?_⟩
        by_cases e : j = i
        · subst e
          rw [er] at h2
          cases h2
          exact hok
        · exact hj j r' (by omega) h2
    rintro σ H2 ⟨v4', v6, rfl, g2, tb2, hj2⟩
    have f2 : firstNot (doorOk rs.length) ds = none := firstNot_none fun j r a b => hj2 j r (by rw [Paired.length rd]; exact a) b
    refine ⟨_, rfl, sa, xs, rfl, g2.wd.same.seq qs, for_enum (K := K) (a := sa) (xs := xs) (fun i σ H' => ∃ v4 v7, σ = [some (.int h), some (.ref ra), some (.ref da), some (.ref sa), v4, v5, v6, v7] ∧ Gr Ps G H G H' ∧ Tabs Ps H' ∧ ∀ (j : Nat) r, j < i → ss[j]? = some r → stayOk h rs r = true)
      ⟨_, none, rfl, g2, tb2, fun j r hj => absurd hj (Nat.not_lt_zero _)⟩ (fun i σ H' _ ⟨_, _, _, g, _⟩ => g.wd.same.seq qs) ?_ ?_⟩
    · rintro i x σ H' U hx ⟨v4, v7, rfl, g, tb', hj⟩ hU
      obtain ⟨r, er, hrow⟩ := paired_get rS hx
      have hi : i < ss.length := (List.getElem?_eq_some_iff.mp er).1
      have g2 := g.trans (Gr.new (o := .tup [.int (i : Nat), x]) g.wd hU)
      refine ⟨U, _, rfl, SqT.of upd_same, rfl, _, _, rfl, _, _, rfl, rfl, ?_⟩
      refine ⟨_, rfl, _, rfl, _, rfl, G, x, h, ra, r, rs, rfl, g2.wd, tb'.same (same_new hU), hrow, w5 r (List.mem_of_getElem? er), hR, w4, fun H3 g3 tb3 => ⟨_, rfl, ?_⟩⟩
      cases hok : stayOk h rs r with
      | false =>
        refine iteT ⟨_, rfl, ?_⟩
        refine raise_bh (by decide +kernel) (by omega) (out _ i H3 ?_ (g2.trans g3) tb3)
        unfold partBad
        rw [f1]
        show (match firstNot (doorOk rs.length) ds with | some i => some (("door" : Str), (i : Int)) | none => _) = _
        rw [f2]
        show (match firstNot (stayOk h rs) ss with | some i => some (("stay" : Str), (i : Int)) | none => _) = _
        rw [firstNot_some er hok hj]
      | true =>
        refine iteF ⟨_, _, rfl, g2.trans g3, tb3, fun j r' h1 h2 => ?_⟩
        by_cases e : j = i
        · subst e
          rw [er] at h2
          cases h2
          exact hok
        · exact hj j r' (by omega) h2
    rintro σ H3 ⟨_, _, rfl, g3, tb3, hj3⟩
    have f3 : firstNot (stayOk h rs) ss = none := firstNot_none fun j r a b => hj3 j r (by rw [Paired.length rS]; exact a) b
    refine q0 ?_ H3 g3 tb3
    unfold partBad
    rw [f1]
    show (match firstNot (doorOk rs.length) ds with | some i => some (("door" : Str), (i : Int)) | none => _) = _
    rw [f2]
    show (match firstNot (stayOk h rs) ss with | some i => some (("stay" : Str), (i : Int)) | none => _) = _
    rw [f3]
end
end Cr
set_option Elab.async false
set_option linter.all false
set_option maxRecDepth 100000
set_option maxHeartbeats 4000000

namespace Cr
open PySem PySem.Spec PyProof.Rows L2
/-! ### more of the heaps -/
section
variable {Fs Fs' : List Addr} {G H G1 H1 : Hp} {p : Addr} {o : HO}
theorem Gr.pokeF (g : Gr Fs G H G1 H1) (hp : p ∈ Fs) : Gr Fs G H G1 (upd H1 p o) := by
  have ne : ∀ {b u}, G1 b = some u → b ≠ p := fun {b u} e z => by
    rw [z, g.wd.off p hp] at e; cases e
  refine ⟨g.up, ⟨fun b u e => ?_, g.wd.off, fun c hc z => ?_⟩, fun c u n e => ?_, g.fresh⟩
  · rw [upd_ne (ne e)]; exact g.wd.same _ _ e
  · by_cases hcp : c = p
    · rw [hcp, upd_same] at z; cases z
    · rw [upd_ne hcp] at z; exact g.wd.on c hc z
  · rw [upd_ne (fun z => n (by rw [z]; exact hp))]; exact g.keep c u n e
theorem Gr.free' (g : Gr Fs G H G1 H1) (h : H1 p = none) : H p = none := by
  cases q : H p with
  | none => rfl
  | some o => rw [g.keep p o (g.wd.nin h) q] at h; cases h
theorem Tabs.upd {Ps : List Addr} (t : Tabs Ps H) (n : p ∉ Ps) : Tabs Ps (upd H p o) := fun P hP => by
  obtain ⟨ps, q, r⟩ := t P hP
  exact ⟨ps, by rw [upd_ne (fun z => n (by rw [← z]; exact hP))]; exact q, r⟩
theorem Tabs.nin {Ps : List Addr} (t : Tabs Ps H) (h : H p = none) : p ∉ Ps := fun hP => by
  obtain ⟨ps, q, r⟩ := t p hP
  rw [h] at q; cases q
/-- an instance made and filled stands known in the end -/
theorem Gr.made {H2 : Hp} (w : Wd Fs G H) (hx : H p = none) (s : Same H H2) (g : Gr (p :: Fs) G H2 G1 H1) (e : H1 p = some o) : Gr Fs G H (L2.upd G1 p o) H1 := by
  have hn := w.nin hx
  have gp : G1 p = none := g.wd.off p List.mem_cons_self
  refine ⟨fun b u q => ?_, ⟨fun b u q => ?_, fun c hc => ?_, fun c hc => g.wd.on c (List.mem_cons_of_mem _ hc)⟩, fun c u n q => ?_, fun c q n => ?_⟩
  · have q1 := g.up _ _ q
    rw [upd_ne (fun z => by rw [z, gp] at q1; cases q1)]; exact q1
  · by_cases hb : b = p
    · subst hb; rw [upd_same] at q; rw [e]; exact q
    · rw [upd_ne hb] at q; exact g.wd.same _ _ q
  · rw [upd_ne (fun z => hn (by rw [← z]; exact hc))]; exact g.wd.off c (List.mem_cons_of_mem _ hc)
  · have hcp : c ≠ p := fun z => by rw [z, hx] at q; cases q
    exact g.keep c u (fun hc => by
      rcases List.mem_cons.mp hc with z | z
      · exact hcp z
      · exact n z) (s _ _ q)
  · have hcp : c ≠ p := fun z => n (by rw [z]; exact hx)
    rw [upd_ne hcp]
    refine g.fresh c q fun z => n ?_
    cases h : H c with
    | none => rfl
    | some u => rw [s _ _ h] at z; cases z
end
/-! ### a house: what is used, what must be left -/
def inHere (r t : Int) (s : List Int) : Bool := decide (s.getD 0 0 = r) && (decide (s.getD 1 0 ≤ t) && decide (t < s.getD 2 0))
def wantsOf (ss : List (List Int)) (r t : Int) : List (List Int) := (ss.filter (inHere r t)).map fun s => [s.getD 3 0, s.getD 4 0]
def useOf (ss : List (List Int)) (r t : Int) : Int := ((wantsOf ss r t).map fun s => s.getD 0 0).sum
def leastOf (ss : List (List Int)) (r t : Int) : Int := ((wantsOf ss r t).map fun s => s.getD 1 0).foldl max 0
theorem wantsOf_take {ss : List (List Int)} {i : Nat} {s : List Int} (r t : Int) (e : ss[i]? = some s) : wantsOf (ss.take (i + 1)) r t = wantsOf (ss.take i) r t ++ (if inHere r t s = true then [[s.getD 3 0, s.getD 4 0]] else []) := by
  unfold wantsOf
  rw [List.take_add_one, e]
  rw [List.filter_append, List.map_append]
  congr 1
  by_cases h : inHere r t s = true
  · rw [if_pos h]; simp [h]
  · rw [if_neg h]; simp [h]
/-- the fields of a House, as __init__ stores them -/
def hf (h : Int) (a b c : Addr) : List (Str × V) := putF "_stays" (.ref c) (putF "_doors" (.ref b) (putF "_rooms" (.ref a) (putF "hours" (.int h) [])))
theorem n1 : ¬ (("hours" : Str) = "_rooms") := by decide +kernel
theorem n2 : ¬ (("hours" : Str) = "_doors") := by decide +kernel
theorem n3 : ¬ (("hours" : Str) = "_stays") := by decide +kernel
theorem n4 : ¬ (("_rooms" : Str) = "_doors") := by decide +kernel
theorem n5 : ¬ (("_rooms" : Str) = "_stays") := by decide +kernel
theorem n6 : ¬ (("_doors" : Str) = "_stays") := by decide +kernel
theorem hf_h (h : Int) (a b c : Addr) : (hf h a b c).lookup ("hours" : Str) = some (.int h) := by
  unfold hf
  rw [lookup_putF, if_neg n3, lookup_putF, if_neg n2, lookup_putF, if_neg n1, lookup_putF, if_pos rfl]
theorem hf_r (h : Int) (a b c : Addr) : (hf h a b c).lookup ("_rooms" : Str) = some (.ref a) := by
  unfold hf
  rw [lookup_putF, if_neg n5, lookup_putF, if_neg n4, lookup_putF, if_pos rfl]
theorem hf_d (h : Int) (a b c : Addr) : (hf h a b c).lookup ("_doors" : Str) = some (.ref b) := by
  unfold hf
  rw [lookup_putF, if_neg n6, lookup_putF, if_pos rfl]
theorem hf_s (h : Int) (a b c : Addr) : (hf h a b c).lookup ("_stays" : Str) = some (.ref c) := by
  unfold hf
  rw [lookup_putF, if_pos rfl]
theorem hf_no (h : Int) (a b c : Addr) {m : Str} (h1 : ¬ m = "_stays") (h2 : ¬ m = "_doors") (h3 : ¬ m = "_rooms") (h4 : ¬ m = "hours") : (hf h a b c).lookup m = none := by
  unfold hf
  rw [lookup_putF, if_neg h1, lookup_putF, if_neg h2, lookup_putF, if_neg h3, lookup_putF, if_neg h4]
  all_goals rfl
structure HouseAt (ad : Ad) (K : PySem.W.Frag) (G : Hp) (x : Addr) (h : Int) (rs ds ss : List (List Int)) : Prop where
  ob : ∃ dx a b c, G x = some (.ins ad.cH dx (hf h a b c)) ∧ Rows K G a rs ∧ Rows K G b ds ∧ Rows K G c ss
  ok : houseBad h rs ds ss = none
  w4 : Wide 4 rs
  w3 : Wide 3 ds
  w5 : Wide 5 ss
theorem HouseAt.same {ad : Ad} {K : PySem.W.Frag} {G G' : Hp} {x : Addr} {h : Int} {rs ds ss : List (List Int)} (e : Same G G') (a : HouseAt ad K G x h rs ds ss) : HouseAt ad K G' x h rs ds ss := by
  obtain ⟨⟨dx, a, b, c, q, r1, r2, r3⟩, h1, h2, h3, h4⟩ := a
  exact ⟨⟨dx, a, b, c, e _ _ q, r1.same e, r2.same e, r3.same e⟩, h1, h2, h3, h4⟩
section
variable {P : Program} {w : World} {K : PySem.W.Frag} {mg : Str → Option Value} {base : Heap} {ad : Ad} {Ps : List Addr} {H : Hp}
def spHi (ad : Ad) (K : PySem.W.Frag) (Ps : List Addr) : Sp := fun vs H Q E =>
  ∃ (G : Hp) (x dx : Addr) (h : Int) (ra da sa : Addr) (rs ds ss : List (List Int)), vs = [.ref x, .int h, .ref ra, .ref da, .ref sa] ∧ Wd (x :: Ps) G H ∧ Tabs Ps H ∧ x ∉ Ps ∧ H x = some (.ins ad.cH dx []) ∧ Rows K G ra rs ∧ Rows K G da ds ∧ Rows K G sa ss ∧ Wide 4 rs ∧ Wide 3 ds ∧ Wide 5 ss ∧
    (houseBad h rs ds ss = none → ∀ G' H' a b c, H a = none → H b = none → H c = none → Gr (x :: Ps) G H G' H' → Tabs Ps H' → H' x = some (.ins ad.cH dx (hf h a b c)) → Rows K G' a rs → Rows K G' b ds → Rows K G' c ss → Q .non H') ∧
    (∀ z, houseBad h rs ds ss = some z → ∀ cls d H', Raised ad z cls d H' → Gr (x :: Ps) G H G H' → Tabs Ps H' → E cls d H')
theorem count_lens {h : Int} {rs ds ss : List (List Int)} (e : countBad h rs ds ss = none) : rs.length < 32 ∧ ds.length < 32 ∧ ss.length < 32 := by
  unfold countBad at e
  split at e
  · cases e
  split at e
  · cases e
  rename_i h1 h2
  split at e
  · cases e
  split at e
  · cases e
  omega
theorem putF_len (f : Str) (v : V) {fs : List (Str × V)} {n : Nat} (h : fs.length ≤ n) : (putF f v fs).length ≤ n + 1 := Nat.le_trans (length_putF f v fs) (Nat.succ_le_succ h)
theorem mk_house (T : RawP K mg base ad) (hP : ad.tNum ∈ Ps) : MakX P w K mg base 4 "House" ad.cH (spHi ad K Ps) := by
  refine T.hi.makX scHouse_init (fun vs H Q E h => ?_) (fun f cdv A outer s H vs Q E hr h => ?_)
  · obtain ⟨G, x, dx, h, ra, da, sa, rs, ds, ss, rfl, _⟩ := h
    rfl
  · obtain ⟨G, x, dx, h, ra, da, sa, rs, ds, ss, rfl, wd, tbs, hxP, hx, hR, hD, hS, w4, w3, w5, q0, qx⟩ := h
    have b_list := T.b_list
    have k__check_counts : CalX P w K mg base 3 "_check_counts" (spChk ad K Ps (fun _ _ _ _ => True) countBad) := c_counts T
    have k__check_parts : CalX P w K mg base 3 "_check_parts" (spChk ad K Ps WideH partBad) := c_parts T hP
    have sub : ∀ c ∈ Ps, c ∈ x :: Ps := fun c hc => List.mem_cons_of_mem _ hc
    have wdP : Wd Ps G H := wd.sub sub
    refine ⟨_, (pss_cons (ps_expr (pe_cx k__check_counts hr (by decide) (takes_of rfl rfl rfl rfl) rfl (pa_cons (pv 1) (pa_cons (pv 2) (pa_cons (pv 3) (pa_cons (pv 4) pa_nil))))))
      (pss_cons (ps_expr (pe_cx k__check_parts hr (by decide) (takes_of rfl rfl rfl rfl) rfl (pa_cons (pv 1) (pa_cons (pv 2) (pa_cons (pv 3) (pa_cons (pv 4) pa_nil))))))
      (pss_cons (ps_fld (pv 0) (pv 1) rfl)
      (pss_cons (ps_fld (pv 0) (pe_callTy call_list_of (by rfl) b_list (by decide +kernel) (pa_cons (pv 2) pa_nil)) rfl)
      (pss_cons (ps_fld (pv 0) (pe_callTy call_list_of (by rfl) b_list (by decide +kernel) (pa_cons (pv 3) pa_nil)) rfl)
      (pss_one (ps_fld (pv 0) (pe_callTy call_list_of (by rfl) b_list (by decide +kernel) (pa_cons (pv 4) pa_nil)) rfl))))))), ?_⟩
    refine ⟨_, rfl, _, rfl, _, rfl, _, rfl, G, h, ra, da, sa, rs, ds, ss, rfl, wdP, tbs, hR, hD, hS, True.intro, fun e1 H1 g1 t1 => ?_, fun z e1 cls d H1 rz g1 t1 => ?_⟩
    rotate_left
    · refine qx z ?_ cls d H1 rz (g1.widen wd sub) t1
      unfold houseBad
      rw [e1]
    obtain ⟨lr, ld, ls⟩ := count_lens e1
    refine ⟨_, rfl, _, rfl, _, rfl, _, rfl, G, h, ra, da, sa, rs, ds, ss, rfl, g1.wd, t1, hR, hD, hS, ⟨w4, w3, w5, lr, ld, ls⟩, fun e2 H2 g2 t2 => ?_, fun z e2 cls d H2 rz g2 t2 => ?_⟩
    rotate_left
    · refine qx z ?_ cls d H2 rz ((g1.trans g2).widen wd sub) t2
      unfold houseBad
      rw [e1]
      exact e2
    have ok : houseBad h rs ds ss = none := by
      unfold houseBad
      rw [e1]
      exact e2
    have gx := (g1.trans g2).widen wd sub
    have hx2 : H2 x = some (.ins ad.cH dx []) := (g1.trans g2).keep x _ hxP hx
    have hxF : x ∈ x :: Ps := List.mem_cons_self
    obtain ⟨xr, qr, rr⟩ := id hR
    obtain ⟨xd, qd, rd⟩ := id hD
    obtain ⟨xs, qs, rS⟩ := id hS
    -- self.hours = hours
    refine ⟨_, rfl, _, rfl, x, ad.cH, dx, _, rfl, hx2, T.hcl, T.hnh, by show 0 < 1000; decide, ?_⟩
    have g3 : Gr (x :: Ps) G H G (upd H2 x (.ins ad.cH dx (putF "hours" (.int h) []))) := gx.pokeF hxF
    have t3 : Tabs Ps (upd H2 x (.ins ad.cH dx (putF "hours" (.int h) []))) := t2.upd hxP
    have l1 : (putF "hours" (V.int h) []).length ≤ 1 := putF_len _ _ (Nat.le_refl 0)
    -- self._rooms = list(rooms)
    refine ⟨_, rfl, ra, xr, rfl, .inl (g3.wd.same.seq qr), fun a ha => ?_⟩
    have nax : x ≠ a := fun z => by rw [← z, upd_same] at ha; cases ha
    have g4 := g3.trans (Gr.alloc (o := .lst xr) g3.wd ha)
    have t4 := t3.same (same_new (o := .lst xr) ha)
    refine ⟨_, rfl, x, ad.cH, dx, _, rfl, by rw [upd_ne nax, upd_same], T.hcl, T.hnr, by show _ < 1000; omega, ?_⟩
    have g5 := g4.pokeF (o := .ins ad.cH dx (putF "_rooms" (.ref a) (putF "hours" (.int h) []))) hxF
    have t5 := t4.upd (o := .ins ad.cH dx (putF "_rooms" (.ref a) (putF "hours" (.int h) []))) hxP
    have l2 : (putF "_rooms" (V.ref a) (putF "hours" (V.int h) [])).length ≤ 2 := putF_len _ _ l1
    have ra5 : Rows K (upd G a (.lst xr)) a rs := ⟨xr, SqL.of upd_same, rowsV_same g4.up rr⟩
    -- self._doors = list(doors)
    refine ⟨_, rfl, da, xd, rfl, .inl (g5.wd.same.seq (g4.up.seq qd)), fun b hb => ?_⟩
    have nbx : x ≠ b := fun z => by rw [← z, upd_same] at hb; cases hb
    have g6 := g5.trans (Gr.alloc (o := .lst xd) g5.wd hb)
    have t6 := t5.same (same_new (o := .lst xd) hb)
    refine ⟨_, rfl, x, ad.cH, dx, _, rfl, by rw [upd_ne nbx, upd_same], T.hcl, T.hnd, by show _ < 1000; omega, ?_⟩
    have g7 := g6.pokeF (o := .ins ad.cH dx (putF "_doors" (.ref b) (putF "_rooms" (.ref a) (putF "hours" (.int h) [])))) hxF
    have t7 := t6.upd (o := .ins ad.cH dx (putF "_doors" (.ref b) (putF "_rooms" (.ref a) (putF "hours" (.int h) [])))) hxP
    have l3 : (putF "_doors" (V.ref b) (putF "_rooms" (V.ref a) (putF "hours" (V.int h) []))).length ≤ 3 := putF_len _ _ l2
    have rb7 : Rows K (upd (upd G a (.lst xr)) b (.lst xd)) b ds := ⟨xd, SqL.of upd_same, rowsV_same g6.up rd⟩
    have s67 := (Gr.alloc (o := .lst xd) g5.wd hb).up
    -- self._stays = list(stays)
    refine ⟨_, rfl, sa, xs, rfl, .inl (g7.wd.same.seq (g6.up.seq qs)), fun c hc => ?_⟩
    have ncx : x ≠ c := fun z => by rw [← z, upd_same] at hc; cases hc
    have g8 := g7.trans (Gr.alloc (o := .lst xs) g7.wd hc)
    have t8 := t7.same (same_new (o := .lst xs) hc)
    refine ⟨_, rfl, x, ad.cH, dx, _, rfl, by rw [upd_ne ncx, upd_same], T.hcl, T.hns, by show _ < 1000; omega, ?_⟩
    have s89 := (Gr.alloc (o := .lst xs) g7.wd hc).up
    have fa : H a = none := g3.free' ha
    have fb : H b = none := g5.free' hb
    have fc : H c = none := g7.free' hc
    exact q0 ok _ _ a b c fa fb fc (g8.pokeF hxF) (t8.upd hxP) upd_same ((ra5.same s67).same s89) (rb7.same s89) ⟨xs, SqL.of upd_same, rowsV_same g8.up rS⟩
/-- a new list of rows is told -/
def spNewRows (ad : Ad) (K : PySem.W.Frag) (Ps : List Addr) (R : Int → List (List Int) → List (List Int) → List (List Int) → List (List Int)) : Sp := fun vs H Q _ =>
  ∃ (G : Hp) (x : Addr) (h : Int) (rs ds ss : List (List Int)), vs = [.ref x] ∧ Wd Ps G H ∧ Tabs Ps H ∧ HouseAt ad K G x h rs ds ss ∧
    ∀ l xs H', H l = none → Gr Ps G H G H' → H' l = some (.lst xs) → RowsV K G xs (R h rs ds ss) → Tabs Ps H' → Q (.ref l) H'
theorem c_rooms (T : RawP K mg base ad) : C8.Met P w K mg base 1 ad.cH "rooms" (spNewRows ad K Ps fun _ rs _ _ => rs) [] := by
  refine T.hro.met T.hcl scHouse_rooms (fun vs H Q E h => ?_) (fun f cdv A outer s H vs Q E hr h => ?_)
  · obtain ⟨G, x, h, rs, ds, ss, rfl, _⟩ := h
    rfl
  · obtain ⟨G, x, h, rs, ds, ss, rfl, wd, tbs, ⟨⟨dx, a, b, c, hx, ⟨xr, qr, rr⟩, _, _⟩, _, _, _, _⟩, q⟩ := h
    have b_list := T.b_list
    refine ⟨_, (pss_one (ps_ret (pe_callTy call_list_of (by rfl) b_list (by decide +kernel) (pa_cons (pe_fld (pv 0) rfl) pa_nil)))), ?_⟩
    exact ⟨_, rfl, x, ad.cH, dx, _, _, rfl, wd.same _ _ hx, T.hcl, T.hnr, hf_r _ _ _ _, a, xr, rfl, .inl (wd.same.seq qr), fun l hl => q l xr _ hl (Gr.new wd hl) upd_same rr (tbs.same (same_new hl))⟩
theorem c_doors (T : RawP K mg base ad) : C8.Met P w K mg base 1 ad.cH "doors" (spNewRows ad K Ps fun _ _ ds _ => ds) [] := by
  refine T.hdo.met T.hcl scHouse_doors (fun vs H Q E h => ?_) (fun f cdv A outer s H vs Q E hr h => ?_)
  · obtain ⟨G, x, h, rs, ds, ss, rfl, _⟩ := h
    rfl
  · obtain ⟨G, x, h, rs, ds, ss, rfl, wd, tbs, ⟨⟨dx, a, b, c, hx, _, ⟨xr, qr, rr⟩, _⟩, _, _, _, _⟩, q⟩ := h
    have b_list := T.b_list
    refine ⟨_, (pss_one (ps_ret (pe_callTy call_list_of (by rfl) b_list (by decide +kernel) (pa_cons (pe_fld (pv 0) rfl) pa_nil)))), ?_⟩
    exact ⟨_, rfl, x, ad.cH, dx, _, _, rfl, wd.same _ _ hx, T.hcl, T.hnd, hf_d _ _ _ _, b, xr, rfl, .inl (wd.same.seq qr), fun l hl => q l xr _ hl (Gr.new wd hl) upd_same rr (tbs.same (same_new hl))⟩
theorem c_stays (T : RawP K mg base ad) : C8.Met P w K mg base 1 ad.cH "stays" (spNewRows ad K Ps fun _ _ _ ss => ss) [] := by
  refine T.hst.met T.hcl scHouse_stays (fun vs H Q E h => ?_) (fun f cdv A outer s H vs Q E hr h => ?_)
  · obtain ⟨G, x, h, rs, ds, ss, rfl, _⟩ := h
    rfl
  · obtain ⟨G, x, h, rs, ds, ss, rfl, wd, tbs, ⟨⟨dx, a, b, c, hx, _, _, ⟨xr, qr, rr⟩⟩, _, _, _, _⟩, q⟩ := h
    have b_list := T.b_list
    refine ⟨_, (pss_one (ps_ret (pe_callTy call_list_of (by rfl) b_list (by decide +kernel) (pa_cons (pe_fld (pv 0) rfl) pa_nil)))), ?_⟩
    exact ⟨_, rfl, x, ad.cH, dx, _, _, rfl, wd.same _ _ hx, T.hcl, T.hns, hf_s _ _ _ _, c, xr, rfl, .inl (wd.same.seq qr), fun l hl => q l xr _ hl (Gr.new wd hl) upd_same rr (tbs.same (same_new hl))⟩
end
end Cr
set_option Elab.async false
set_option linter.all false
set_option maxRecDepth 100000
set_option maxHeartbeats 4000000

namespace Cr
open PySem PySem.Spec PyProof.Rows L2
theorem wants_two {ss : List (List Int)} {r t : Int} {z : List Int} (h : z ∈ wantsOf ss r t) : ∃ u n, z = [u, n] := by
  unfold wantsOf at h
  obtain ⟨s, _, rfl⟩ := List.mem_map.mp h
  exact ⟨_, _, rfl⟩
theorem wants_len (ss : List (List Int)) (r t : Int) : (wantsOf ss r t).length ≤ ss.length := by
  unfold wantsOf
  rw [List.length_map]
  exact List.length_filter_le ..
theorem foldl_max_start : ∀ (l : List Int) (a b : Int), l.foldl max (max a b) = max a (l.foldl max b)
  | [], _, _ => rfl
  | x :: l, a, b => by
    rw [List.foldl_cons, List.foldl_cons, show max (max a b) x = max a (max b x) by omega, foldl_max_start l a (max b x)]
theorem map_take_succ {α β : Type} {l : List α} {i : Nat} {a : α} (f : α → β) (e : l[i]? = some a) : (l.take (i + 1)).map f = (l.take i).map f ++ [f a] := by
  rw [List.take_add_one, e, List.map_append]
  rfl
theorem houseBad_lens {h : Int} {rs ds ss : List (List Int)} (e : houseBad h rs ds ss = none) : rs.length < 32 ∧ ds.length < 32 ∧ ss.length < 32 := by
  unfold houseBad at e
  cases q : countBad h rs ds ss with
  | some z => rw [q] at e; cases e
  | none => exact count_lens q
/-- a house has been checked: its stays are so -/
theorem houseBad_stay {h : Int} {rs ds ss : List (List Int)} (e : houseBad h rs ds ss = none) {s : List Int} (hs : s ∈ ss) : stayOk h rs s = true := by
  unfold houseBad at e
  cases q : countBad h rs ds ss with
  | some z => rw [q] at e; cases e
  | none =>
    rw [q] at e
    have e' : partBad h rs ds ss = none := e
    unfold partBad at e'
    split at e'
    · cases e'
    split at e'
    · cases e'
    split at e'
    · cases e'
    rename_i q3
    unfold firstNot at q3
    have z := (List.findIdx?_eq_none_iff.mp q3) s hs
    simpa using z
theorem stayOk_need {h : Int} {rs : List (List Int)} {s : List Int} (e : stayOk h rs s = true) : 0 ≤ s.getD 4 0 := by
  unfold stayOk at e
  split at e
  · rename_i r b e1 u n
    rw [Bool.and_eq_true] at e
    have := List.all_eq_true.mp e.1 n (by simp)
    unfold numOk at this
    simp at this
    exact this.1
  · cases e
section
variable {P : Program} {w : World} {K : PySem.W.Frag} {mg : Str → Option Value} {base : Heap} {ad : Ad} {Ps : List Addr} {H : Hp}
def spWants (ad : Ad) (K : PySem.W.Frag) (Ps : List Addr) : Sp := fun vs H Q _ =>
  ∃ (G : Hp) (x : Addr) (h : Int) (rs ds ss : List (List Int)) (r t : Int), vs = [.ref x, .int r, .int t] ∧ Wd Ps G H ∧ Tabs Ps H ∧ HouseAt ad K G x h rs ds ss ∧
    ∀ l xs G' H', H l = none → Gr Ps G H G' H' → G' l = none → H' l = some (.lst xs) → RowsV K G' xs (wantsOf ss r t) → Tabs Ps H' → Q (.ref l) H'
theorem c_wants (T : RawP K mg base ad) : C8.Met P w K mg base 1 ad.cH "_wants" (spWants ad K Ps) [] := by
  refine T.hwa.met T.hcl scHouse__wants (fun vs H Q E h => ?_) (fun f cdv A outer s H vs Q E hr h => ?_)
  · obtain ⟨G, x, h, rs, ds, ss, r, t, rfl, _⟩ := h
    rfl
  · obtain ⟨G, x, h, rs, ds, ss, r, t, rfl, wd, tbs, ⟨⟨dx, a, b, c, hx, _, _, ⟨xr, qr, rr⟩⟩, hok, _, _, w5⟩, q⟩ := h
    have lens := houseBad_lens hok
    have hlen : xr.length = ss.length := Paired.length rr
    refine ⟨_, (pss_one (ps_ret (pe_lc (own := [("place", 3), ("begin", 4), ("end", 5), ("use", 6), ("need", 7)]) rfl scHouse__wants.nd (pi_list (pe_fld (pv 0) rfl)) (blkOk_by (own := [("place", 3), ("begin", 4), ("end", 5), ("use", 6), ("need", 7)]) (N := nHouse__wants) (sc := defScope sHouse__wants) (by decide +kernel)) (fun _ _ _ _ _ => (pg_tupK (K := K) (n := 5) rfl rfl (pgs_cons (pg_name (i := 3) scHouse__wants.nd rfl (Or.inl rfl) (Or.inr rfl)) (pgs_cons (pg_name (i := 4) scHouse__wants.nd rfl (Or.inl rfl) (Or.inr rfl)) (pgs_cons (pg_name (i := 5) scHouse__wants.nd rfl (Or.inl rfl) (Or.inr rfl)) (pgs_cons (pg_name (i := 6) scHouse__wants.nd rfl (Or.inl rfl) (Or.inr rfl)) (pgs_cons (pg_name (i := 7) scHouse__wants.nd rfl (Or.inl rfl) (Or.inr rfl)) pgs_nil))))))) (fun _ _ _ _ _ => pts_one (PW.pt (pw_and (pt_cmpR op_eq (pv 3 rfl (Or.inl rfl)) (pv 1 rfl (Or.inr (Or.inl rfl))) (nomark _)) (pw_and1 (pt_chain op_le op_lt (pv 4 rfl (Or.inl rfl)) (pv 2 rfl (Or.inr (Or.inl rfl))) (pv 5 rfl (Or.inl rfl))))))) (fun _ _ _ _ _ => (pe_tup (pa_cons (pv 6 rfl (Or.inl rfl)) (pa_cons (pv 7 rfl (Or.inl rfl)) pa_nil))))))), ?_⟩
    refine ⟨_, rfl, x, ad.cH, dx, _, _, rfl, wd.same _ _ hx, T.hcl, T.hns, hf_s _ _ _ _, c, rfl, ⟨xr, wd.same.seq qr⟩, fun D hD => ?_⟩
    have hDP := tbs.nin hD
    refine lc_list (K := K) (a := c) (xs := xr) (fun i H' => ∃ G' acc, Gr Ps G H G' H' ∧ Tabs Ps H' ∧ G' D = none ∧ H' D = some (.lst acc) ∧ RowsV K G' acc (wantsOf (ss.take i) r t))
      ⟨G, [], Gr.new wd hD, tbs.upd hDP, wd.free hD, upd_same, .nil⟩ (fun i H' _ ⟨G', acc, g, _⟩ => g.wd.same.seq (g.up.seq qr)) ?_ ?_
    · rintro i y H' hy ⟨G', acc, g, tb, gD, hacc, hrv⟩
      obtain ⟨z, ez, ty, rfl, hty⟩ := paired_get rr hy
      have hz5 := w5 z (List.mem_of_getElem? ez)
      obtain ⟨pl, bg, en, us, nd, rfl⟩ := len5 hz5
      have hlt : i < ss.length := (List.getElem?_eq_some_iff.mp ez).1
      have hal : acc.length ≤ ss.length := by
        rw [Paired.length hrv]
        exact Nat.le_trans (wants_len _ _ _) (by rw [List.length_take]; omega)
      have hstep := wantsOf_take r t ez
      refine ⟨ty, _, rfl, Same.tup g.wd.same (Same.tup g.up hty), rfl, _, _, rfl, _, _, rfl, _, _, rfl, _, _, rfl, _, _, rfl, rfl, (by (repeat rw [wipe_set (by decide)]); exact wipe_wipe _ _), ?_⟩
      refine ⟨_, rfl, _, rfl, rfl, _, rfl, ?_⟩
      have e0 : decide (V.int pl = V.int r) = decide (pl = r) := by simp
      rw [e0]
      have ein : inHere r t [pl, bg, en, us, nd] = (decide (pl = r) && (decide (bg ≤ t) && decide (t < en))) := rfl
      rw [ein] at hstep
      have stay : (decide (pl = r) && (decide (bg ≤ t) && decide (t < en))) = false → ∃ G' acc, Gr Ps G H G' H' ∧ Tabs Ps H' ∧ G' D = none ∧ H' D = some (.lst acc) ∧ RowsV K G' acc (wantsOf (ss.take (i + 1)) r t) := fun e => by
        rw [e, if_neg Bool.false_ne_true, List.append_nil] at hstep
        exact ⟨G', acc, g, tb, gD, hacc, by rw [hstep]; exact hrv⟩
      refine ite2 (fun h1 => ?_) (fun h1 => ?_)
      · rw [h1, Bool.true_and] at stay hstep
        refine ⟨_, rfl, _, rfl, _, _, rfl, rfl, _, rfl, ?_⟩
        refine ite2 (fun h2 => ?_) (fun h2 => ?_)
        · rw [h2, Bool.true_and] at stay hstep
          refine ⟨_, rfl, _, _, rfl, rfl, _, rfl, ?_⟩
          refine ite2 (fun h3 => ?_) (fun h3 => ?_)
          · have h3' : decide (t < en) = true := h3
            rw [h3', if_pos rfl] at hstep
            refine ⟨_, rfl, _, rfl, by show 2 ≤ sizeLine; decide, fun p hp => ?_⟩
            have npD : D ≠ p := fun z => by rw [z, hp] at hacc; cases hacc
            have g2 := g.trans (Gr.alloc (o := .tup [.int us, .int nd]) g.wd hp)
            have gD2 : upd G' p (.tup [.int us, .int nd]) D = none := by rw [upd_ne npD]; exact gD
            refine ⟨acc, by rw [upd_ne npD]; exact hacc, small1000 (by omega), _, acc ++ [.ref p], g2.poke hD gD2, (tb.same (same_new hp)).upd hDP, gD2, upd_same, ?_⟩
            rw [hstep]
            exact paired_snoc (rowsV_same (Gr.alloc (o := .tup [.int us, .int nd]) g.wd hp).up hrv) ⟨p, rfl, SqT.of upd_same⟩
          · exact stay (Bool.eq_false_iff.mpr h3)
        · rw [Bool.eq_false_iff.mpr h2, Bool.false_and] at stay
          exact ⟨_, rfl, iteF (stay rfl)⟩
      · rw [Bool.eq_false_iff.mpr h1, Bool.false_and] at stay
        exact stay rfl
    · rintro H' ⟨G', acc, g, tb, gD, hacc, hrv⟩
      rw [List.take_of_length_le (by omega)] at hrv
      exact q D acc G' H' hD g gD hacc hrv tb
def spTwo (ad : Ad) (K : PySem.W.Frag) (Ps : List Addr) (F : List (List Int) → Int → Int → Int) : Sp := fun vs H Q _ =>
  ∃ (G : Hp) (x : Addr) (h : Int) (rs ds ss : List (List Int)) (r t : Int), vs = [.ref x, .int r, .int t] ∧ Wd Ps G H ∧ Tabs Ps H ∧ HouseAt ad K G x h rs ds ss ∧
    ∀ G' H', Gr Ps G H G' H' → Tabs Ps H' → Q (.int (F ss r t)) H'
theorem hf_wants (h : Int) (a b c : Addr) : (hf h a b c).lookup ("_wants" : Str) = none := hf_no _ _ _ _ (by decide +kernel) (by decide +kernel) (by decide +kernel) (by decide +kernel)
theorem c_use (T : RawP K mg base ad) : C8.Met P w K mg base 2 ad.cH "use" (spTwo ad K Ps useOf) [] := by
  refine T.hus.met T.hcl scHouse_use (fun vs H Q E h => ?_) (fun f cdv A outer s H vs Q E hr h => ?_)
  · obtain ⟨G, x, h, rs, ds, ss, r, t, rfl, _⟩ := h
    rfl
  · obtain ⟨G, x, h, rs, ds, ss, r, t, rfl, wd, tbs, hH, q⟩ := h
    have b_sum := T.b_sum
    have k_House__wants : C8.Met P w K mg base 1 ad.cH "_wants" (spWants ad K Ps) [] := c_wants T
    obtain ⟨dx, a, b, c, hx, _⟩ := hH.ob
    have lens := houseBad_lens hH.ok
    refine ⟨_, (pss_one (ps_ret (pe_callB (cr_sum rfl) (by rfl) b_sum (by decide +kernel) (pa_cons (pe_lc (own := [("use", 3), ("_", 4)]) rfl scHouse_use.nd (pi_list (C8.pe_mt k_House__wants hr (by decide) (pv 0) (pa_cons (pv 1) (pa_cons (pv 2) pa_nil)))) (blkOk_by (own := [("use", 3), ("_", 4)]) (N := nHouse_use) (sc := defScope sHouse_use) (by decide +kernel)) (fun _ _ _ _ _ => (pg_tupK (K := K) (n := 2) rfl rfl (pgs_cons (pg_name (i := 3) scHouse_use.nd rfl (Or.inl rfl) (Or.inr rfl)) (pgs_cons (pg_name (i := 4) scHouse_use.nd rfl (Or.inl rfl) (Or.inr rfl)) pgs_nil)))) (fun _ _ _ _ _ => pts_nil) (fun _ _ _ _ _ => (pv 3 rfl (Or.inl rfl)))) pa_nil)))), ?_⟩
    refine ⟨_, rfl, x, dx, _, rfl, wd.same _ _ hx, hf_wants _ _ _ _, _, rfl, _, rfl, G, x, h, rs, ds, ss, r, t, rfl, wd, tbs, hH, fun l xs G1 H1 hl g1 gl hxs hrv t1 => ⟨l, rfl, ⟨xs, SqL.of hxs⟩, fun D hD => ?_⟩⟩
    have hDP := t1.nin hD
    have nlD : l ≠ D := ne_of_none hxs hD
    have hlen : xs.length = (wantsOf ss r t).length := Paired.length hrv
    have hln : xs.length < 32 := by
      have := wants_len ss r t
      omega
    refine lc_list (K := K) (a := l) (xs := xs) (fun i H' => Gr Ps G H G1 H' ∧ Tabs Ps H' ∧ H' l = some (.lst xs) ∧ H' D = some (.lst (((wantsOf ss r t).take i).map fun z => V.int (z.getD 0 0))))
      ⟨g1.trans (Gr.new g1.wd hD), t1.upd hDP, by rw [upd_ne nlD]; exact hxs, upd_same⟩ (fun i H' _ ⟨_, _, e, _⟩ => SqL.of e) ?_ ?_
    · rintro i y H' hy ⟨g, tb, hl', hacc⟩
      obtain ⟨z, ez, ty, rfl, hty⟩ := paired_get hrv hy
      obtain ⟨u, n, rfl⟩ := wants_two (List.mem_of_getElem? ez)
      refine ⟨ty, _, rfl, Same.tup g.wd.same hty, rfl, _, _, rfl, _, _, rfl, rfl, (by (repeat rw [wipe_set (by decide)]); exact wipe_wipe _ _), ?_⟩
      have hi : i < xs.length := (List.getElem?_eq_some_iff.mp hy).1
      refine ⟨_, rfl, _, hacc, small1000 (by rw [List.length_map, List.length_take]; omega), g.poke (g1.free' hD) (g1.wd.free hD), tb.upd hDP, by rw [upd_ne nlD]; exact hl', ?_⟩
      rw [upd_same, map_take_succ _ ez]
      rfl
    · rintro H' ⟨g, tb, hl', hacc⟩
      rw [List.take_of_length_le (by omega)] at hacc
      refine ⟨D, (wantsOf ss r t).map fun z => z.getD 0 0, rfl, SqL.of (by rw [hacc, List.map_map]; rfl), ?_⟩
      exact q G1 H' g tb
theorem c_least (T : RawP K mg base ad) : C8.Met P w K mg base 2 ad.cH "least" (spTwo ad K Ps leastOf) [] := by
  refine T.hle.met T.hcl scHouse_least (fun vs H Q E h => ?_) (fun f cdv A outer s H vs Q E hr h => ?_)
  · obtain ⟨G, x, h, rs, ds, ss, r, t, rfl, _⟩ := h
    rfl
  · obtain ⟨G, x, h, rs, ds, ss, r, t, rfl, wd, tbs, hH, q⟩ := h
    have b_max := T.b_max
    have k_House__wants : C8.Met P w K mg base 1 ad.cH "_wants" (spWants ad K Ps) [] := c_wants T
    obtain ⟨dx, a, b, c, hx, _⟩ := hH.ob
    have lens := houseBad_lens hH.ok
    refine ⟨_, (pss_one (ps_ret (pe_callBK (cr_maxDf rfl hr.units) (by rfl) b_max (by decide +kernel) (pa_cons (pe_lc (own := [("_", 3), ("need", 4)]) rfl scHouse_least.nd (pi_list (C8.pe_mt k_House__wants hr (by decide) (pv 0) (pa_cons (pv 1) (pa_cons (pv 2) pa_nil)))) (blkOk_by (own := [("_", 3), ("need", 4)]) (N := nHouse_least) (sc := defScope sHouse_least) (by decide +kernel)) (fun _ _ _ _ _ => (pg_tupK (K := K) (n := 2) rfl rfl (pgs_cons (pg_name (i := 3) scHouse_least.nd rfl (Or.inl rfl) (Or.inr rfl)) (pgs_cons (pg_name (i := 4) scHouse_least.nd rfl (Or.inl rfl) (Or.inr rfl)) pgs_nil)))) (fun _ _ _ _ _ => pts_nil) (fun _ _ _ _ _ => (pv 4 rfl (Or.inl rfl)))) pa_nil) (pk_cons pe_int pk_nil)))), ?_⟩
    refine ⟨_, rfl, x, dx, _, rfl, wd.same _ _ hx, hf_wants _ _ _ _, _, rfl, _, rfl, G, x, h, rs, ds, ss, r, t, rfl, wd, tbs, hH, fun l xs G1 H1 hl g1 gl hxs hrv t1 => ⟨l, rfl, ⟨xs, SqL.of hxs⟩, fun D hD => ?_⟩⟩
    have hDP := t1.nin hD
    have nlD : l ≠ D := ne_of_none hxs hD
    have hlen : xs.length = (wantsOf ss r t).length := Paired.length hrv
    have hln : xs.length < 32 := by
      have := wants_len ss r t
      omega
    refine lc_list (K := K) (a := l) (xs := xs) (fun i H' => Gr Ps G H G1 H' ∧ Tabs Ps H' ∧ H' l = some (.lst xs) ∧ H' D = some (.lst (((wantsOf ss r t).take i).map fun z => V.int (z.getD 1 0))))
      ⟨g1.trans (Gr.new g1.wd hD), t1.upd hDP, by rw [upd_ne nlD]; exact hxs, upd_same⟩ (fun i H' _ ⟨_, _, e, _⟩ => SqL.of e) ?_ ?_
    · rintro i y H' hy ⟨g, tb, hl', hacc⟩
      obtain ⟨z, ez, ty, rfl, hty⟩ := paired_get hrv hy
      obtain ⟨u, n, rfl⟩ := wants_two (List.mem_of_getElem? ez)
      refine ⟨ty, _, rfl, Same.tup g.wd.same hty, rfl, _, _, rfl, _, _, rfl, rfl, (by (repeat rw [wipe_set (by decide)]); exact wipe_wipe _ _), ?_⟩
      have hi : i < xs.length := (List.getElem?_eq_some_iff.mp hy).1
      refine ⟨_, rfl, _, hacc, small1000 (by rw [List.length_map, List.length_take]; omega), g.poke (g1.free' hD) (g1.wd.free hD), tb.upd hDP, by rw [upd_ne nlD]; exact hl', ?_⟩
      rw [upd_same, map_take_succ _ ez]
      rfl
    · rintro H' ⟨g, tb, hl', hacc⟩
      rw [List.take_of_length_le (by omega)] at hacc
      refine ⟨D, (wantsOf ss r t).map fun z => z.getD 1 0, .int 0, rfl, rfl, SqL.of (by rw [hacc, List.map_map]; rfl), fun e => ?_, fun n rr e => ?_⟩
      · have z := q G1 H' g tb
        unfold leastOf at z
        rw [e] at z
        exact z
      · have z := q G1 H' g tb
        unfold leastOf at z
        rw [e, List.foldl_cons] at z
        have hn : 0 ≤ n := by
          have hm : n ∈ (wantsOf ss r t).map (fun z => z.getD 1 0) := by rw [e]; exact List.mem_cons_self
          obtain ⟨y, hy, rfl⟩ := List.mem_map.mp hm
          unfold wantsOf at hy
          obtain ⟨s', hs', rfl⟩ := List.mem_map.mp hy
          exact stayOk_need (houseBad_stay hH.ok (List.mem_filter.mp hs').1)
        rw [show max 0 n = n by omega] at z
        exact z
end
end Cr
set_option Elab.async false
set_option linter.all false
set_option maxRecDepth 100000
set_option maxHeartbeats 4000000

namespace Cr
open PySem PySem.Spec PyProof.Rows L2
abbrev s_law_begun : Stmt := top 24
abbrev n_law_begun : List Str := ["_law_script", "_law_stirred", "_law_cell"]
abbrev a_law_begun : List Str := ["_law_script"]
theorem sc_law_begun : FnScope n_law_begun a_law_begun (defScope s_law_begun) := ⟨rfl, rfl, rfl, by decide +kernel, rfl, by decide +kernel, by decide +kernel⟩
abbrev s_law_take : Stmt := top 25
abbrev n_law_take : List Str := ["_law_box", "_law_many", "_law_number"]
abbrev a_law_take : List Str := ["_law_box", "_law_many"]
theorem sc_law_take : FnScope n_law_take a_law_take (defScope s_law_take) := ⟨rfl, rfl, rfl, by decide +kernel, rfl, by decide +kernel, by decide +kernel⟩
abbrev s_law_alike : Stmt := top 26
abbrev n_law_alike : List Str := ["_law_found", "_law_due", "_law_k"]
abbrev a_law_alike : List Str := ["_law_found", "_law_due"]
theorem sc_law_alike : FnScope n_law_alike a_law_alike (defScope s_law_alike) := ⟨rfl, rfl, rfl, by decide +kernel, rfl, by decide +kernel, by decide +kernel⟩
/-! ### the box of draws: a list at b of the script's numbers (a list at l) and a number -/
def BoxAt (b l : Addr) (H : Hp) : Prop := ∃ (z : Int) (ns : List Int), H b = some (.lst [.ref l, .int z]) ∧ H l = some (.lst (ns.map V.int)) ∧ ns.length ≤ 63
structure Bx (Ps : List Addr) (b l : Addr) (G0 H0 G H : Hp) : Prop where
  gr : Gr (b :: l :: Ps) G0 H0 G H
  box : BoxAt b l H
  tabs : Tabs Ps H
  bl : b ≠ l
  nb : b ∉ Ps
  nl : l ∉ Ps
section
variable {Ps : List Addr} {b l p : Addr} {G0 H0 G H G1 H1 : Hp} {o : HO}
theorem bF {b l : Addr} {Ps : List Addr} : b ∈ b :: l :: Ps := List.mem_cons_self
theorem lF {b l : Addr} {Ps : List Addr} : l ∈ b :: l :: Ps := List.mem_cons_of_mem _ List.mem_cons_self
theorem Bx.start (x : Bx Ps b l G0 H0 G H) : Bx Ps b l G H G H := ⟨Gr.refl x.gr.wd, x.box, x.tabs, x.bl, x.nb, x.nl⟩
theorem Bx.trans (x : Bx Ps b l G0 H0 G H) (y : Bx Ps b l G H G1 H1) : Bx Ps b l G0 H0 G1 H1 := ⟨x.gr.trans y.gr, y.box, y.tabs, x.bl, x.nb, x.nl⟩
theorem Bx.wd (x : Bx Ps b l G0 H0 G H) : Wd (b :: l :: Ps) G H := x.gr.wd
theorem Bx.neb (x : Bx Ps b l G0 H0 G H) (hp : H p = none) : b ≠ p := fun z => by
  obtain ⟨_, _, e, _⟩ := x.box
  rw [z, hp] at e; cases e
theorem Bx.nel (x : Bx Ps b l G0 H0 G H) (hp : H p = none) : l ≠ p := fun z => by
  obtain ⟨_, _, _, e, _⟩ := x.box
  rw [z, hp] at e; cases e
theorem BoxAt.upd (h : BoxAt b l H) (hb : b ≠ p) (hl : l ≠ p) : BoxAt b l (upd H p o) := by
  obtain ⟨z, ns, e1, e2, e3⟩ := h
  exact ⟨z, ns, by rw [upd_ne hb]; exact e1, by rw [upd_ne hl]; exact e2, e3⟩
theorem Bx.new (x : Bx Ps b l G0 H0 G H) (hp : H p = none) : Bx Ps b l G0 H0 G (upd H p o) :=
  ⟨x.gr.trans (Gr.new x.wd hp), x.box.upd (x.neb hp) (x.nel hp), x.tabs.same (same_new hp), x.bl, x.nb, x.nl⟩
theorem Bx.alloc (x : Bx Ps b l G0 H0 G H) (hp : H p = none) : Bx Ps b l G0 H0 (upd G p o) (upd H p o) :=
  ⟨x.gr.trans (Gr.alloc x.wd hp), x.box.upd (x.neb hp) (x.nel hp), x.tabs.same (same_new hp), x.bl, x.nb, x.nl⟩
/-- a thing made since the start and not known: not the box, no table -/
theorem Bx.apart (x : Bx Ps b l G0 H0 G0 H0) (h0 : H0 p = none) : b ≠ p ∧ l ≠ p ∧ p ∉ Ps := ⟨x.neb h0, x.nel h0, x.tabs.nin h0⟩
theorem Bx.poke (x : Bx Ps b l G0 H0 G H) (s : Bx Ps b l G0 H0 G0 H0) (h0 : H0 p = none) (hg : G p = none) : Bx Ps b l G0 H0 G (upd H p o) := by
  obtain ⟨h1, h2, h3⟩ := s.apart h0
  exact ⟨x.gr.poke h0 hg, x.box.upd h1 h2, x.tabs.upd h3, x.bl, x.nb, x.nl⟩
theorem Bx.close (x : Bx Ps b l G0 H0 G H) (s : Bx Ps b l G0 H0 G0 H0) (h0 : H0 p = none) (h1 : H p = some o) (hg : G p = none) : Bx Ps b l G0 H0 (upd G p o) H := by
  obtain ⟨a1, a2, a3⟩ := s.apart h0
  refine ⟨x.gr.close h0 h1 (fun h => ?_) hg, x.box, x.tabs, x.bl, x.nb, x.nl⟩
  rcases List.mem_cons.mp h with z | h
  · exact a1 z.symm
  rcases List.mem_cons.mp h with z | h
  · exact a2 z.symm
  · exact a3 h
theorem Bx.pure (x : Bx Ps b l G0 H0 G H) (g : Gr Ps G H G1 H1) (t : Tabs Ps H1) : Bx Ps b l G0 H0 G1 H1 := by
  have gw := g.widen x.wd (fun c hc => List.mem_cons_of_mem _ (List.mem_cons_of_mem _ hc))
  refine ⟨x.gr.trans gw, ?_, t, x.bl, x.nb, x.nl⟩
  obtain ⟨z, ns, e1, e2, e3⟩ := x.box
  exact ⟨z, ns, g.keep _ _ x.nb e1, g.keep _ _ x.nl e2, e3⟩
theorem Bx.wdP (x : Bx Ps b l G0 H0 G H) : Wd Ps G H := x.wd.sub fun c hc => List.mem_cons_of_mem _ (List.mem_cons_of_mem _ hc)
end
section
variable {P : Program} {w : World} {K : PySem.W.Frag} {mg : Str → Option Value} {base : Heap} {Ps : List Addr} {H : Hp}
/-- what the top says of the law's helpers -/
structure RawL (K : PySem.W.Frag) (mg : Str → Option Value) : Prop where
  begun : DefR K mg "_law_begun" s_law_begun a_law_begun
  take : DefR K mg "_law_take" s_law_take a_law_take
  alike : DefR K mg "_law_alike" s_law_alike a_law_alike
  b_len : mg "len" = none
  b_list : mg "list" = none
  b_int : mg "int" = none
  b_bool : mg "bool" = none
  b_str : mg "str" = none
  b_tuple : mg "tuple" = none
  b_isinstance : mg "isinstance" = none
  b_range : mg "range" = none
def spBegun (K : PySem.W.Frag) : Sp := fun vs H Q _ => ∃ (a : Addr) (ns : List Int), vs = [.ref a] ∧ SqL K H a (ns.map V.int) ∧ ns.length ≤ 63 ∧ ∀ b l H', H b = none → H l = none → b ≠ l → Same H H' → BoxAt b l H' → Q (.ref b) H'
theorem c_begun (T : RawL K mg) : C8.Cal P w K mg base 1 "_law_begun" (spBegun K) [] := by
  refine T.begun.cal sc_law_begun (fun vs H Q E h => ?_) (fun f cdv A outer s H vs Q E hr h => ?_)
  · obtain ⟨a, ns, rfl, _⟩ := h
    rfl
  · obtain ⟨a, ns, rfl, ha, hl, q⟩ := h
    have b_len := T.b_len
    have b_list := T.b_list
    have b_int := T.b_int
    refine ⟨_, (pss_cons (ps_set (i := 1) sc_law_begun.nd rfl (Or.inl rfl) pe_int)
      (pss_cons (ps_for PassesOwn.never rfl (pi_list (pv 0)) (pg_name (i := 2) sc_law_begun.nd rfl (Or.inl rfl))
        (pss_one (ps_set (i := 1) sc_law_begun.nd rfl (Or.inl rfl) (pe_op op_modN (pe_op op_add (pe_op op_add (pe_op op_mul (pv 1) pe_int) (pe_op op_mul (pv 2) pe_int)) pe_int) pe_int))))
      (pss_one (ps_ret (pe_lst (pa_cons (pe_callTy call_list_of (by rfl) b_list (by decide +kernel) (pa_cons (pv 0) pa_nil)) (pa_cons (pe_op op_mul (pv 1) (pe_callTy call_int1 (by rfl) b_int (by decide +kernel) (pa_cons (pe_cmpR op_gt (pe_callB call_len_seq (by rfl) b_len (by decide +kernel) (pa_cons (pv 0) pa_nil)) pe_int (nomark _)) pa_nil))) pa_nil))))))), ?_⟩
    refine ⟨_, rfl, a, rfl, ⟨_, ha⟩, for_list (K := K) (a := a) (xs := ns.map V.int) (fun i σ H' => ∃ (z : Int) (v : Option V), σ = [some (.ref a), some (.int z), v] ∧ H' = H) ⟨0, none, rfl, rfl⟩ (fun i σ H' _ ⟨_, _, _, e⟩ => by rw [e]; exact ha) ?_ ?_⟩
    · rintro i x σ H' hx ⟨z, v, rfl, rfl⟩
      rw [List.getElem?_map] at hx
      obtain ⟨n, _, rfl⟩ := Option.map_eq_some_iff.mp hx
      refine ⟨_, rfl, _, _, rfl, rfl, .inr ⟨by decide, by decide⟩, _, rfl, _, _, rfl, rfl, .inr ⟨by decide, by decide⟩, _, _, rfl, rfl, _, _, rfl, rfl, _, _, rfl, rfl, by show (2147483647 : Int) ≠ 0; decide, ?_⟩
      exact ⟨_, _, rfl, rfl⟩
    · rintro σ H' ⟨z, v, rfl, rfl⟩
      refine ⟨_, rfl, a, _, rfl, .inl ha, fun l hl' => ?_⟩
      refine ⟨_, rfl, _, rfl, a, _, rfl, .inl ((same_new hl').seq ha), _, _, rfl, rfl, .inr ⟨_, rfl, _, _, rfl, rfl, .inr ?_, by show 2 ≤ sizeLine; decide, fun b hb => ?_⟩⟩
      · split <;> decide
      · have nlb : l ≠ b := ne_of_none upd_same hb
        rw [upd_ne (Ne.symm nlb)] at hb
        refine q b l _ hb hl' (Ne.symm nlb) (fun c o e => ?_) ⟨_, ns, upd_same, by rw [upd_ne nlb, upd_same], hl⟩
        rw [upd_ne (ne_of_none e hb), upd_ne (ne_of_none e hl')]
        exact e
theorem shaped_ints (ns : List Int) : SeqAt.shaped (.list (ns.map PyData.int)) = true := by
  unfold SeqAt.shaped
  rw [Bool.and_eq_true, decide_eq_true_eq]
  constructor
  · show PyData.canLay0 (.list (ns.map PyData.int)) = true
    induction ns with
    | nil => rfl
    | cons n r ih =>
      simp only [List.map_cons, PyData.canLay0, PyData.canLayAll0] at ih ⊢
      simp [ih]
  · have := depth_ints ns
    simp only [PyData.depth]
    omega
theorem eqv_nil (ns : List Int) : PyData.eqv (.list (ns.map PyData.int)) (.list []) = ns.isEmpty := by
  cases ns with
  | nil => rfl
  | cons n r => rfl
theorem ixN_zero {n : Nat} (h : 0 < n) : ixN n 0 = some 0 := by
  unfold ixN
  rw [if_pos (by omega), if_pos (by omega)]
  rfl
theorem fmod_range (x : Int) {m : Int} (h : 0 < m) : 0 ≤ x.fmod m ∧ x.fmod m < m := ⟨Int.fmod_nonneg_of_pos x h, Int.fmod_lt_of_pos x h⟩
/-- a number is drawn -/
def spTake (Ps : List Addr) : Sp := fun vs H Q _ => ∃ (b l : Addr) (m : Int) (G : Hp), vs = [.ref b, .int m] ∧ 0 < m ∧ m < 1000000 ∧ Bx Ps b l G H G H ∧ ∀ (r : Int) H', 0 ≤ r → r < m → Bx Ps b l G H G H' → Q (.int r) H'
theorem c_take (T : RawL K mg) : C8.Cal P w K mg base 1 "_law_take" (spTake Ps) [] := by
  refine T.take.cal sc_law_take (fun vs H Q E h => ?_) (fun f cdv A outer s H vs Q E hr h => ?_)
  · obtain ⟨b, l, m, G, rfl, _⟩ := h
    rfl
  · obtain ⟨b, l, m, G, rfl, m0, m1, B, q⟩ := h
    obtain ⟨z, ns, hb, hl, hn⟩ := B.box
    refine ⟨_, (pss_cons (ps_if (pt_cmpR (op_eqD hr.units) (pe_ix ix_seq (pv 0) pe_int (fun _ _ => rfl)) (pe_lst pa_nil) (nomark _))
        (pss_cons (ps_asg (pe_op op_modN (pe_op op_mul (pe_ix ix_seq (pv 0) pe_int (fun _ _ => rfl)) pe_int) pe_int) (pg_sub (pv 0) pe_int set_list))
      (pss_one (ps_ret (pe_op op_modN (pe_op op_fdivN (pe_ix ix_seq (pv 0) pe_int (fun _ _ => rfl)) pe_int) (pv 1)))))
        pss_nil)
      (pss_cons (ps_set (i := 2) sc_law_take.nd rfl (Or.inl rfl) (pe_ix ix_seq (pe_ix ix_seq (pv 0) pe_int (fun _ _ => rfl)) pe_int (fun _ _ => rfl)))
      (pss_cons (ps_asg (pe_op op_fdivN (pv 2) (pv 1)) (pg_sub (pe_ix ix_seq (pv 0) pe_int (fun _ _ => rfl)) pe_int set_list))
      (pss_cons (ps_if (PW.pt (pw_or (pt_cmpR op_eq (pe_ix ix_seq (pe_ix ix_seq (pv 0) pe_int (fun _ _ => rfl)) pe_int (fun _ _ => rfl)) pe_int (nomark _)) (pw_or1 (pt_cmpR op_eq (pe_ix ix_seq (pe_ix ix_seq (pv 0) pe_int (fun _ _ => rfl)) pe_int (fun _ _ => rfl)) (pe_un un_neg pe_int) (nomark _)))))
        (pss_one (ps_expr (pe_bm PySem.F.plainAttrs_list PySem.F.slot_list_pop PySem.F.type_list_pop mt_popAt (pe_ix ix_seq (pv 0) pe_int (fun _ _ => rfl)) (pa_cons pe_int pa_nil))))
        pss_nil)
      (pss_one (ps_ret (pe_op op_modN (pv 2) (pv 1)))))))), ?_⟩
    have ix0 : atI [V.ref l, V.int z] (((0 : Nat) : Nat) : Int) = some (V.ref l) := atI_nat rfl
    have ix1 : atI [V.ref l, V.int z] ((1 : Nat) : Int) = some (V.int z) := atI_nat rfl
    refine ⟨_, rfl, .inl ⟨b, _, _, _, rfl, rfl, SqL.of hb, ix0, Nat.zero_le _, fun e he => ?_⟩⟩
    have nbe : b ≠ e := B.neb he
    have nle : l ≠ e := B.nel he
    have hb1 : (upd H e (.lst [])) b = some (.lst [.ref l, .int z]) := by rw [upd_ne nbe]; exact hb
    have hl1 : (upd H e (.lst [])) l = some (.lst (ns.map V.int)) := by rw [upd_ne nle]; exact hl
    have B1 : Bx Ps b l G H G (upd H e (.lst [])) := B.new he
    refine ⟨_, _, .lst (SqL.of hl1) (dpAll_ints ns), .lst (SqL.of upd_same) .nil, shaped_ints ns, by decide +kernel, _, rfl, ?_⟩
    rw [eqv_nil]
    cases ns with
    | nil =>
      refine iteT ?_
      refine ⟨_, rfl, .inl ⟨b, _, _, _, rfl, rfl, SqL.of hb1, ix1, _, _, rfl, rfl, .inr ⟨by decide, by decide⟩, _, _, rfl, rfl, by show (2147483647 : Int) ≠ 0; decide, ?_⟩⟩
      refine ⟨_, rfl, b, _, _, 1, rfl, rfl, hb1, rfl, ?_⟩
      refine ⟨_, rfl, .inl ⟨b, _, _, _, rfl, rfl, SqL.of upd_same, atI_nat (j := 1) rfl, _, _, rfl, rfl, ⟨by decide, by decide⟩, _, rfl, _, _, rfl, rfl, by omega, ?_⟩⟩
      obtain ⟨r1, r2⟩ := fmod_range (((z * 48271).fmod 2147483647).fdiv 7) m0
      refine q _ _ r1 r2 ⟨B1.gr.pokeF bF, ⟨_, [], upd_same, by rw [upd_ne B.bl.symm]; exact hl1, by decide⟩, B1.tabs.upd B.nb, B.bl, B.nb, B.nl⟩
    | cons n r =>
      refine iteF ?_
      refine ⟨_, rfl, .inl ⟨b, _, _, _, rfl, rfl, SqL.of hb1, ix0, .inl ⟨l, _, _, _, rfl, rfl, SqL.of hl1, atI_nat (j := 0) rfl, ?_⟩⟩⟩
      refine ⟨_, rfl, _, rfl, _, _, rfl, rfl, ⟨by omega, by omega⟩, ?_⟩
      refine ⟨_, rfl, .inl ⟨b, _, _, _, rfl, rfl, SqL.of hb1, ix0, l, _, _, 0, rfl, rfl, hl1, ixN_zero (by simp), ?_⟩⟩
      have hb2 : ∀ o, (upd (upd H e (.lst [])) l o) b = some (.lst [.ref l, .int z]) := fun o => by rw [upd_ne B.bl]; exact hb1
      have B2 : ∀ k : Int, Bx Ps b l G H G (upd (upd H e (.lst [])) l (.lst ((k :: r).map V.int))) := fun k => ⟨B1.gr.pokeF lF, ⟨z, k :: r, hb2 _, upd_same, hn⟩, B1.tabs.upd B.nl, B.bl, B.nb, B.nl⟩
      obtain ⟨r1, r2⟩ := fmod_range n m0
      have fin : ∀ H', Bx Ps b l G H G H' → ∃ v, ([some (.ref b), some (.int m), some (.int n)] : L2.St)[2]? = some (some v) ∧ ∃ v2, ([some (.ref b), some (.int m), some (.int n)] : L2.St)[1]? = some (some v2) ∧ ∃ i j, v = .int i ∧ v2 = .int j ∧ j ≠ 0 ∧ Q (.int (i.fmod j)) H' := fun H' B' => ⟨_, rfl, _, rfl, n, m, rfl, rfl, by omega, q _ H' r1 r2 B'⟩
      have pop : ∀ k : Int, Bx Ps b l G H G (upd (upd (upd H e (.lst [])) l (.lst ((k :: r).map V.int))) l (.lst (r.map V.int))) := fun k => ⟨(B2 k).gr.pokeF lF, ⟨z, r, by rw [upd_ne B.bl]; exact hb2 _, upd_same, by simp at hn; omega⟩, (B2 k).tabs.upd B.nl, B.bl, B.nb, B.nl⟩
      refine ⟨_, rfl, .inl ⟨b, _, _, _, rfl, rfl, SqL.of (hb2 _), ix0, .inl ⟨l, _, _, _, rfl, rfl, SqL.of upd_same, atI_nat (j := 0) rfl, rfl, _, rfl, ?_⟩⟩⟩
      have dopop : ∀ k : Int, ∃ v, ([some (.ref b), some (.int m), some (.int n)] : L2.St)[0]? = some (some v) ∧ (∀ Q' : VK, (Q' (.ref l) (upd (upd H e (.lst [])) l (.lst ((k :: r).map V.int)))) → rIx K v (.int 0) (upd (upd H e (.lst [])) l (.lst ((k :: r).map V.int))) Q') := fun k => ⟨_, rfl, fun Q' h => .inl ⟨b, _, _, _, rfl, rfl, SqL.of (hb2 _), ix0, h⟩⟩
      by_cases h0 : n.fdiv m = 0
      · rw [decide_eq_true (show V.int (n.fdiv m) = V.int 0 by rw [h0])]
        refine iteT (iteT ?_)
        refine ⟨_, rfl, .inl ⟨b, _, _, _, rfl, rfl, SqL.of (hb2 _), ix0, .inl ⟨rfl, _, SqL.of upd_same⟩, l, _, _, 0, _, rfl, rfl, upd_same, by decide, by decide, (ixN_seq (ixN_zero (by simp))).1, rfl, ?_⟩⟩
        exact fin _ (pop _)
      · rw [decide_eq_false (show ¬ V.int (n.fdiv m) = V.int 0 from fun z => h0 (V.int.inj z))]
        refine iteF ?_
        refine ⟨_, rfl, .inl ⟨b, _, _, _, rfl, rfl, SqL.of (hb2 _), ix0, .inl ⟨l, _, _, _, rfl, rfl, SqL.of upd_same, atI_nat (j := 0) rfl, _, rfl, rfl, _, rfl, ?_⟩⟩⟩
        by_cases h1 : n.fdiv m = -1
        · rw [decide_eq_true (show V.int (n.fdiv m) = V.int (-1) by rw [h1])]
          refine iteT ?_
          refine ⟨_, rfl, .inl ⟨b, _, _, _, rfl, rfl, SqL.of (hb2 _), ix0, .inl ⟨rfl, _, SqL.of upd_same⟩, l, _, _, 0, _, rfl, rfl, upd_same, by decide, by decide, (ixN_seq (ixN_zero (by simp))).1, rfl, ?_⟩⟩
          exact fin _ (pop _)
        · rw [decide_eq_false (show ¬ V.int (n.fdiv m) = V.int (-1) from fun z => h1 (V.int.inj z))]
          refine iteF ?_
          exact fin _ (B2 _)
end
end Cr
set_option Elab.async false
set_option linter.all false
set_option maxRecDepth 100000
set_option maxHeartbeats 4000000

namespace Cr
open PySem PySem.Spec PyProof.Rows L2
/-! ### two things of the same data are told alike -/
def shp : Nat → PyData → Prop
  | _, .none => True
  | _, .bool _ => True
  | _, .int _ => True
  | _, .str _ => True
  | n + 1, .list ds => ds.length ≤ 1000 ∧ ∀ d ∈ ds, shp n d
  | n + 1, .tuple ds => ds.length ≤ 1000 ∧ ∀ d ∈ ds, shp n d
  | _, _ => False
def spAlike (K : PySem.W.Frag) : Nat → Sp
  | 0 => fun _ _ _ _ => False
  | n + 1 => fun vs H Q _ => ∃ (x y : V) (d : PyData), vs = [x, y] ∧ Dp K H x d ∧ Dp K H y d ∧ shp n d ∧ Q (.bl true) H
section
variable {K : PySem.W.Frag} {H : Hp}
theorem sqL_ty {a : Addr} {xs : List V} (h : SqL K H a xs) : TyX K H (.ref a) (.type "list") := by
  rcases h with (h | ⟨o, h⟩) | ⟨o, vs, n, h, hc, _⟩
  · exact .base (.lst h)
  · exact .base (.frz h)
  · exact .kList h hc
theorem sqT_ty {a : Addr} {xs : List V} (h : SqT K H a xs) : TyX K H (.ref a) (.type "tuple") := by
  rcases h with (h | ⟨o, h⟩) | ⟨o, vs, n, h, hc, _⟩
  · exact .base (.tup h)
  · exact .fTuple h
  · exact .kTuple h hc
theorem dpAll_len : ∀ {xs : List V} {ds : List PyData}, DpAll K H xs ds → xs.length = ds.length
  | _, _, .nil => rfl
  | _, _, .cons _ r => congrArg (· + 1) (dpAll_len r)
theorem dpAll_get : ∀ {xs : List V} {ds : List PyData} {i : Nat} {d : PyData}, DpAll K H xs ds → ds[i]? = some d → ∃ x, xs[i]? = some x ∧ Dp K H x d
  | _, _, _, _, .nil, e => by simp at e
  | _, _, 0, _, .cons r _, e => by simp at e; subst e; exact ⟨_, rfl, r⟩
  | _, _, i + 1, d, .cons _ t, e => by
    obtain ⟨y, h1, h2⟩ := dpAll_get (i := i) (d := d) t (by simpa using e)
    exact ⟨y, by simpa using h1, h2⟩
end
section
variable {P : Program} {w : World} {K : PySem.W.Frag} {mg : Str → Option Value} {base : Heap}
theorem c_alike (T : RawL K mg) : ∀ n : Nat, C8.Cal P w K mg base n "_law_alike" (spAlike K n) []
  | 0 => by
    obtain ⟨f, fd, F, hm, bi⟩ := T.alike
    exact ⟨f, fd, _, [], ⟨fun _ _ _ _ h => h.elim, fun _ _ _ _ _ _ _ _ _ _ _ _ _ h => h.elim⟩, hm, F.kp, bi, .nil⟩
  | n + 1 => by
    have k__law_alike : C8.Cal P w K mg base n "_law_alike" (spAlike K n) [] := c_alike T n
    refine T.alike.cal sc_law_alike (fun vs H Q E h => ?_) (fun f cdv A outer s H vs Q E hr h => ?_)
    · obtain ⟨x, y, d, rfl, _⟩ := h
      rfl
    · obtain ⟨x, y, d, rfl, hx, hy, hs, q⟩ := h
      have b_len := T.b_len
      have b_int := T.b_int
      have b_bool := T.b_bool
      have b_str := T.b_str
      have b_tuple := T.b_tuple
      have b_list := T.b_list
      have b_isinstance := T.b_isinstance
      have b_range := T.b_range
      refine ⟨_, (pss_cons (ps_if (pt_cmp (pc_isN (pv 1)))
        (pss_one (ps_ret (pe_cmp (pc_isN (pv 0)) rfl)))
        pss_nil)
      (pss_cons (ps_if (pt_val (pe_callB call_isi (by rfl) b_isinstance (by decide +kernel) (pa_cons (pv 1) (pa_cons (pe_bltn (v := .ty "bool") (by rfl) b_bool (by decide +kernel) rfl) pa_nil))))
        (pss_one (ps_ret (pe_and (pe_callB call_isi (by rfl) b_isinstance (by decide +kernel) (pa_cons (pv 0) (pa_cons (pe_bltn (v := .ty "bool") (by rfl) b_bool (by decide +kernel) rfl) pa_nil))) (pe_one (pe_cmpR op_eq (pv 0) (pv 1) (nomark _))))))
        pss_nil)
      (pss_cons (ps_if (pt_val (pe_callB call_isi (by rfl) b_isinstance (by decide +kernel) (pa_cons (pv 1) (pa_cons (pe_bltn (v := .ty "int") (by rfl) b_int (by decide +kernel) rfl) pa_nil))))
        (pss_one (ps_ret (pe_and (pe_callB call_isi (by rfl) b_isinstance (by decide +kernel) (pa_cons (pv 0) (pa_cons (pe_bltn (v := .ty "int") (by rfl) b_int (by decide +kernel) rfl) pa_nil))) (pe_and (pe_not (pe_callB call_isi (by rfl) b_isinstance (by decide +kernel) (pa_cons (pv 0) (pa_cons (pe_bltn (v := .ty "bool") (by rfl) b_bool (by decide +kernel) rfl) pa_nil)))) (pe_one (pe_cmpR op_eq (pv 0) (pv 1) (nomark _)))))))
        pss_nil)
      (pss_cons (ps_if (pt_val (pe_callB call_isi (by rfl) b_isinstance (by decide +kernel) (pa_cons (pv 1) (pa_cons (pe_bltn (v := .ty "str") (by rfl) b_str (by decide +kernel) rfl) pa_nil))))
        (pss_one (ps_ret (pe_and (pe_callB call_isi (by rfl) b_isinstance (by decide +kernel) (pa_cons (pv 0) (pa_cons (pe_bltn (v := .ty "str") (by rfl) b_str (by decide +kernel) rfl) pa_nil))) (pe_one (pe_cmpR op_eq (pv 0) (pv 1) (nomark _))))))
        pss_nil)
      (pss_cons (ps_if (PW.pt (pw_or (pt_cmpR op_ne (pe_callB call_isi (by rfl) b_isinstance (by decide +kernel) (pa_cons (pv 1) (pa_cons (pe_bltn (v := .ty "tuple") (by rfl) b_tuple (by decide +kernel) rfl) pa_nil))) (pe_callB call_isi (by rfl) b_isinstance (by decide +kernel) (pa_cons (pv 0) (pa_cons (pe_bltn (v := .ty "tuple") (by rfl) b_tuple (by decide +kernel) rfl) pa_nil))) (nomark _)) (pw_or1 (pt_cmpR op_ne (pe_callB call_isi (by rfl) b_isinstance (by decide +kernel) (pa_cons (pv 1) (pa_cons (pe_bltn (v := .ty "list") (by rfl) b_list (by decide +kernel) rfl) pa_nil))) (pe_callB call_isi (by rfl) b_isinstance (by decide +kernel) (pa_cons (pv 0) (pa_cons (pe_bltn (v := .ty "list") (by rfl) b_list (by decide +kernel) rfl) pa_nil))) (nomark _)))))
        (pss_one (ps_ret pe_bl))
        pss_nil)
      (pss_cons (ps_if (pt_cmpR op_ne (pe_callB call_len_seq (by rfl) b_len (by decide +kernel) (pa_cons (pv 0) pa_nil)) (pe_callB call_len_seq (by rfl) b_len (by decide +kernel) (pa_cons (pv 1) pa_nil)) (nomark _))
        (pss_one (ps_ret pe_bl))
        pss_nil)
      (pss_cons (ps_for PassesOwn.never rfl (pi_range1 (by rfl) b_range (pa_cons (pe_callB call_len_seq (by rfl) b_len (by decide +kernel) (pa_cons (pv 1) pa_nil)) pa_nil)) (pg_name (i := 2) sc_law_alike.nd rfl (Or.inl rfl))
        (pss_one (ps_if (pt_not (pt_val (C8.pe_c k__law_alike hr (Nat.le_refl _) rfl (pa_cons (pe_ix ix_seq (pv 0) (pv 2) (fun _ _ => rfl)) (pa_cons (pe_ix ix_seq (pv 1) (pv 2) (fun _ _ => rfl)) pa_nil)))))
        (pss_one (ps_ret pe_bl))
        pss_nil)))
      (pss_one (ps_ret pe_bl))))))))), ?_⟩
      cases hy with
      | non =>
        cases hx
        exact ⟨_, rfl, _, rfl, iteT ⟨_, rfl, q⟩⟩
      | bl k =>
        cases hx
        refine ⟨_, rfl, _, rfl, iteF ?_⟩
        refine ⟨_, rfl, _, _, _, _, true, rfl, .ty _, .base (.bl k), kit_ty (by decide +kernel), _, rfl, iteT ?_⟩
        refine ⟨_, rfl, _, _, _, _, true, rfl, .ty _, .base (.bl k), kit_ty (by decide +kernel), _, rfl, iteT ?_⟩
        refine ⟨_, rfl, _, rfl, rfl, ?_⟩
        rw [decide_eq_true (rfl : V.bl k = V.bl k)]
        exact q
      | int i =>
        cases hx
        refine ⟨_, rfl, _, rfl, iteF ?_⟩
        refine ⟨_, rfl, _, _, _, _, false, rfl, .ty _, .base (.int i), kit_ty (by decide +kernel), _, rfl, iteF ?_⟩
        refine ⟨_, rfl, _, _, _, _, true, rfl, .ty _, .base (.int i), kit_ty (by decide +kernel), _, rfl, iteT ?_⟩
        refine ⟨_, rfl, _, _, _, _, true, rfl, .ty _, .base (.int i), kit_ty (by decide +kernel), _, rfl, iteT ?_⟩
        refine ⟨_, rfl, _, _, _, _, false, rfl, .ty _, .base (.int i), kit_ty (by decide +kernel), _, rfl, _, rfl, iteT ?_⟩
        refine ⟨_, rfl, _, rfl, rfl, ?_⟩
        rw [decide_eq_true (rfl : V.int i = V.int i)]
        exact q
      | str z =>
        cases hx
        refine ⟨_, rfl, _, rfl, iteF ?_⟩
        refine ⟨_, rfl, _, _, _, _, false, rfl, .ty _, .base (.str z), kit_ty (by decide +kernel), _, rfl, iteF ?_⟩
        refine ⟨_, rfl, _, _, _, _, false, rfl, .ty _, .base (.str z), kit_ty (by decide +kernel), _, rfl, iteF ?_⟩
        refine ⟨_, rfl, _, _, _, _, true, rfl, .ty _, .base (.str z), kit_ty (by decide +kernel), _, rfl, iteT ?_⟩
        refine ⟨_, rfl, _, _, _, _, true, rfl, .ty _, .base (.str z), kit_ty (by decide +kernel), _, rfl, iteT ?_⟩
        refine ⟨_, rfl, _, rfl, rfl, ?_⟩
        rw [decide_eq_true (rfl : V.str z = V.str z)]
        exact q
      | @lst a xs ds ha hd =>
        cases hx with
        | @lst a' xs' _ ha' hd' =>
        cases n with
        | zero => exact hs.elim
        | succ n =>
        refine ⟨_, rfl, _, rfl, iteF ?_⟩
        refine ⟨_, rfl, _, _, _, _, false, rfl, .ty _, sqL_ty ha, kit_ty (by decide +kernel), _, rfl, iteF ?_⟩
        refine ⟨_, rfl, _, _, _, _, false, rfl, .ty _, sqL_ty ha, kit_ty (by decide +kernel), _, rfl, iteF ?_⟩
        refine ⟨_, rfl, _, _, _, _, false, rfl, .ty _, sqL_ty ha, kit_ty (by decide +kernel), _, rfl, iteF ?_⟩
        refine ⟨_, rfl, _, _, _, _, false, rfl, .ty _, sqL_ty ha, kit_ty (by decide +kernel), _, rfl, _, _, _, _, false, rfl, .ty _, sqL_ty ha', kit_ty (by decide +kernel), rfl, _, rfl, iteF ?_⟩
        refine ⟨_, rfl, _, _, _, _, true, rfl, .ty _, sqL_ty ha, kit_ty (by decide +kernel), _, rfl, _, _, _, _, true, rfl, .ty _, sqL_ty ha', kit_ty (by decide +kernel), rfl, _, rfl, iteF ?_⟩
        have e1 := dpAll_len hd
        have e2 := dpAll_len hd'
        refine ⟨_, rfl, _, _, rfl, .inl ha', _, rfl, _, _, rfl, .inl ha, rfl, _, rfl, ?_⟩
        rw [decide_eq_true (show V.int (xs'.length : Int) = V.int (xs.length : Int) by rw [e1, e2])]
        refine iteF ?_
        have hz : xs.length ≤ 1000 := by
          rw [e1]
          exact hs.1
        refine ⟨_, rfl, _, _, rfl, .inl ha, _, rfl, by omega, by omega, for_range (lo := 0) (n := xs.length) (fun i σ H' => (∃ v : Option V, σ = [some (.ref a'), some (.ref a), v]) ∧ H' = H) ⟨⟨none, rfl⟩, rfl⟩ ?_ ?_⟩
        · rintro i σ H' hi ⟨⟨v, rfl⟩, rfl⟩
          have hid : i < ds.length := by omega
          obtain ⟨y1, hy1, dy1⟩ := dpAll_get hd (List.getElem?_eq_getElem hid)
          obtain ⟨x1, hx1, dx1⟩ := dpAll_get hd' (List.getElem?_eq_getElem hid)
          have e0 : (0 : Int) + (i : Int) = ((i : Nat) : Int) := by omega
          refine ⟨_, rfl, _, rfl, .inl ⟨a', _, _, _, rfl, rfl, ha', by rw [e0]; exact atI_nat hx1, _, rfl, _, rfl, .inl ⟨a, _, _, _, rfl, rfl, ha, by rw [e0]; exact atI_nat hy1, ?_⟩⟩⟩
          exact ⟨x1, y1, ds[i], rfl, dx1, dy1, hs.2 _ (List.getElem_mem hid), _, rfl, iteF ⟨⟨_, rfl⟩, rfl⟩⟩
        · rintro σ H' ⟨_, rfl⟩
          exact q
      | @tup a xs ds ha hd =>
        cases hx with
        | @tup a' xs' _ ha' hd' =>
        cases n with
        | zero => exact hs.elim
        | succ n =>
        refine ⟨_, rfl, _, rfl, iteF ?_⟩
        refine ⟨_, rfl, _, _, _, _, false, rfl, .ty _, sqT_ty ha, kit_ty (by decide +kernel), _, rfl, iteF ?_⟩
        refine ⟨_, rfl, _, _, _, _, false, rfl, .ty _, sqT_ty ha, kit_ty (by decide +kernel), _, rfl, iteF ?_⟩
        refine ⟨_, rfl, _, _, _, _, false, rfl, .ty _, sqT_ty ha, kit_ty (by decide +kernel), _, rfl, iteF ?_⟩
        refine ⟨_, rfl, _, _, _, _, true, rfl, .ty _, sqT_ty ha, kit_ty (by decide +kernel), _, rfl, _, _, _, _, true, rfl, .ty _, sqT_ty ha', kit_ty (by decide +kernel), rfl, _, rfl, iteF ?_⟩
        refine ⟨_, rfl, _, _, _, _, false, rfl, .ty _, sqT_ty ha, kit_ty (by decide +kernel), _, rfl, _, _, _, _, false, rfl, .ty _, sqT_ty ha', kit_ty (by decide +kernel), rfl, _, rfl, iteF ?_⟩
        have e1 := dpAll_len hd
        have e2 := dpAll_len hd'
        refine ⟨_, rfl, _, _, rfl, .inr ha', _, rfl, _, _, rfl, .inr ha, rfl, _, rfl, ?_⟩
        rw [decide_eq_true (show V.int (xs'.length : Int) = V.int (xs.length : Int) by rw [e1, e2])]
        refine iteF ?_
        have hz : xs.length ≤ 1000 := by
          rw [e1]
          exact hs.1
        refine ⟨_, rfl, _, _, rfl, .inr ha, _, rfl, by omega, by omega, for_range (lo := 0) (n := xs.length) (fun i σ H' => (∃ v : Option V, σ = [some (.ref a'), some (.ref a), v]) ∧ H' = H) ⟨⟨none, rfl⟩, rfl⟩ ?_ ?_⟩
        · rintro i σ H' hi ⟨⟨v, rfl⟩, rfl⟩
          have hid : i < ds.length := by omega
          obtain ⟨y1, hy1, dy1⟩ := dpAll_get hd (List.getElem?_eq_getElem hid)
          obtain ⟨x1, hx1, dx1⟩ := dpAll_get hd' (List.getElem?_eq_getElem hid)
          have e0 : (0 : Int) + (i : Int) = ((i : Nat) : Int) := by omega
          refine ⟨_, rfl, _, rfl, .inr (.inl ⟨a', _, _, _, rfl, rfl, ha', by rw [e0]; exact atI_nat hx1, _, rfl, _, rfl, .inr (.inl ⟨a, _, _, _, rfl, rfl, ha, by rw [e0]; exact atI_nat hy1, ?_⟩)⟩)⟩
          exact ⟨x1, y1, ds[i], rfl, dx1, dy1, hs.2 _ (List.getElem_mem hid), _, rfl, iteF ⟨⟨_, rfl⟩, rfl⟩⟩
        · rintro σ H' ⟨_, rfl⟩
          exact q
end
end Cr
set_option Elab.async false
set_option linter.all false
set_option maxRecDepth 100000
set_option maxHeartbeats 4000000

namespace Cr
open PySem PySem.Spec PyProof.Rows L2
abbrev s_law_stay : Stmt := top 27
abbrev n_law_stay : List Str := ["_law_box", "_law_hours", "_law_rooms", "_law_room", "_law_begin", "_law_end", "_law_most", "_law_use_here"]
abbrev a_law_stay : List Str := ["_law_box", "_law_hours", "_law_rooms"]
theorem sc_law_stay : FnScope n_law_stay a_law_stay (defScope s_law_stay) := ⟨rfl, rfl, rfl, by decide +kernel, rfl, by decide +kernel, by decide +kernel⟩
abbrev s_law_house : Stmt := top 28
abbrev n_law_house : List Str := ["_law_box", "_law_hours", "_law_rooms", "_law_k", "_law_most", "_law_air", "_law_limit", "_law_price", "_law_doors", "_law_one", "_law_other", "_law_stays"]
abbrev a_law_house : List Str := ["_law_box"]
theorem sc_law_house : FnScope n_law_house a_law_house (defScope s_law_house) := ⟨rfl, rfl, rfl, by decide +kernel, rfl, by decide +kernel, by decide +kernel⟩
/-! ### draws -/
theorem atI_mem {α : Type} {xs : List α} {i : Int} (h0 : 0 ≤ i) (h1 : i < (xs.length : Int)) : ∃ v, atI xs i = some v ∧ v ∈ xs := by
  obtain ⟨n, rfl⟩ : ∃ n : Nat, i = (n : Int) := ⟨i.toNat, by omega⟩
  have hi : n < xs.length := by omega
  exact ⟨xs[n], atI_nat (List.getElem?_eq_getElem hi), List.getElem_mem hi⟩
def rInt1 : List V → Hp → VK → Prop := fun xs H Q => (∃ i, xs = [.int i] ∧ Q (.int i) H) ∨ ∃ k, xs = [.bl k] ∧ Q (.int (if k then 1 else 0)) H
section
variable {Ps : List Addr} {b l p : Addr} {G0 H0 G H G1 H1 : Hp} {K : PySem.W.Frag} {m : Int} {Q : VK} {E : XK}
/-- [x, y][int(take(m) == 1)] -/
theorem pick2 {σ : L2.St} {x y : V} (hs : σ[0]? = some (some (.ref b))) (B : Bx Ps b l G0 H0 G H) (h0 : 0 < m) (h1 : m < 1000000) (hp : G p = some (.lst [x, y])) (k : ∀ v H', (v = x ∨ v = y) → Bx Ps b l G H G H' → Q v H') :
    tCB rInt1 (tCons (tOp rEq (tCall (spTake Ps) [] C8.E0 (tCons (tVar 0) (tCons (tC (.int m)) tNil))) (tC (.int 1))) tNil) σ H (fun z H2 => rIx K (.ref p) z H2 Q) := by
  refine ⟨_, hs, b, l, m, G, rfl, h0, h1, B.start, fun r H' _ _ B' => ?_⟩
  have hl : SqL K H' p [x, y] := SqL.of (B'.wd.same _ _ hp)
  refine ⟨rfl, .inr ⟨_, rfl, ?_⟩⟩
  by_cases hr : V.int r = V.int 1
  · rw [decide_eq_true hr]
    exact .inl ⟨p, _, _, y, rfl, rfl, hl, atI_nat (j := 1) rfl, k y H' (.inr rfl) B'⟩
  · rw [decide_eq_false hr]
    exact .inl ⟨p, _, _, x, rfl, rfl, hl, atI_nat (j := 0) rfl, k x H' (.inl rfl) B'⟩
end
theorem numOk_of {n : Int} (h0 : 0 ≤ n) (h1 : n ≤ 999) : numOk n = true := by
  unfold numOk
  rw [decide_eq_true h0, decide_eq_true h1]
  rfl
theorem numOk_inv {n : Int} (h : numOk n = true) : 0 ≤ n ∧ n ≤ 999 := by
  unfold numOk at h
  simpa using h
theorem roomOk_inv {a m l p : Int} (h : roomOk [a, m, l, p] = true) : (0 ≤ a ∧ a ≤ 999) ∧ (0 ≤ m ∧ m ≤ 999) ∧ (0 ≤ l ∧ l ≤ 999) ∧ (0 ≤ p ∧ p ≤ 999) ∧ a ≤ m := by
  replace h : (([a, m, l, p] : List Int).all numOk && decide (a ≤ m)) = true := h
  rw [Bool.and_eq_true] at h
  obtain ⟨h1, h2⟩ := h
  have z := List.all_eq_true.mp h1
  exact ⟨numOk_inv (z a (by simp)), numOk_inv (z m (by simp)), numOk_inv (z l (by simp)), numOk_inv (z p (by simp)), of_decide_eq_true h2⟩
theorem roomOk_of {a m l p : Int} (ha : 0 ≤ a) (h : a ≤ m) (hm : m ≤ 999) (hl : 0 ≤ l ∧ l ≤ 999) (hp : 0 ≤ p ∧ p ≤ 999) : roomOk [a, m, l, p] = true := by
  show (([a, m, l, p] : List Int).all numOk && decide (a ≤ m)) = true
  rw [decide_eq_true h, Bool.and_true, List.all_eq_true]
  intro x hx
  simp at hx
  rcases hx with rfl | rfl | rfl | rfl <;> exact numOk_of (by omega) (by omega)
theorem doorOk_of {n : Nat} {o t l : Int} (ho : 0 ≤ o ∧ o < n) (ht : 0 ≤ t ∧ t < n) (hn : (n : Int) ≤ 999) (hne : o ≠ t) (hl : 0 ≤ l ∧ l ≤ 999) : doorOk n [o, t, l] = true := by
  show (([o, t, l] : List Int).all numOk && (!decide (o = t) && decide (max o t < (n : Int)))) = true
  rw [Bool.and_eq_true]
  constructor
  · rw [List.all_eq_true]
    intro x hx
    simp at hx
    rcases hx with rfl | rfl | rfl <;> exact numOk_of (by omega) (by omega)
  · simp only [decide_eq_false hne, Bool.not_false, Bool.true_and]
    exact decide_eq_true (by omega)
theorem mostOf_at {rs : List (List Int)} {i : Int} {a m l p : Int} (h0 : 0 ≤ i) (e : rs[i.toNat]? = some [a, m, l, p]) : mostOf rs i = m := by
  unfold mostOf
  rw [show rs.getD i.toNat [] = [a, m, l, p] by rw [List.getD_eq_getElem?_getD, e]; rfl]
  rfl
theorem stayOk_of {h : Int} {rs : List (List Int)} {r b e u n : Int} (hr : 0 ≤ r) (hr2 : r < (rs.length : Int)) (hl : rs.length ≤ 6) (hb : 0 ≤ b) (hbe : b < e) (heh : e ≤ h) (hh : h ≤ 12) (hu : 0 ≤ u ∧ u ≤ 999) (hn : 0 ≤ n) (hm : n ≤ mostOf rs r) (hm2 : mostOf rs r ≤ 999) : stayOk h rs [r, b, e, u, n] = true := by
  show (([r, b, e, u, n] : List Int).all numOk && (decide (r < (rs.length : Int)) && (decide (b < e) && decide (e ≤ h) && decide (n ≤ mostOf rs r)))) = true
  rw [decide_eq_true hr2, decide_eq_true hbe, decide_eq_true heh, decide_eq_true hm, List.all_eq_true.mpr]
  · rfl
  · intro x hx
    simp at hx
    rcases hx with rfl | rfl | rfl | rfl | rfl <;> exact numOk_of (by omega) (by omega)
section
variable {P : Program} {w : World} {K : PySem.W.Frag} {mg : Str → Option Value} {base : Heap} {Ps : List Addr} {H : Hp}
structure RawH (K : PySem.W.Frag) (mg : Str → Option Value) : Prop extends RawL K mg where
  lstay : DefR K mg "_law_stay" s_law_stay a_law_stay
  lhouse : DefR K mg "_law_house" s_law_house a_law_house
  b_min : mg "min" = none
def spLStay (K : PySem.W.Frag) (Ps : List Addr) : Sp := fun vs H Q _ => ∃ (b l : Addr) (h : Int) (ra : Addr) (G : Hp) (rs : List (List Int)), vs = [.ref b, .int h, .ref ra] ∧ Bx Ps b l G H G H ∧ 1 ≤ h ∧ h ≤ 12 ∧ Rows K G ra rs ∧ 1 ≤ rs.length ∧ rs.length ≤ 6 ∧ Wide 4 rs ∧ (∀ r ∈ rs, roomOk r = true) ∧
  ∀ t ns G' H', Bx Ps b l G H G' H' → RowT K G' (.ref t) ns → ns.length = 5 → stayOk h rs ns = true → Q (.ref t) H'
theorem c_lstay (T : RawH K mg) : C8.Cal P w K mg base 2 "_law_stay" (spLStay K Ps) [] := by
  refine T.lstay.cal sc_law_stay (fun vs H Q E h => ?_) (fun f cdv A outer s H vs Q E hr h => ?_)
  · obtain ⟨b, l, h, ra, G, rs, rfl, _⟩ := h
    rfl
  · obtain ⟨b, l, h, ra, G, rs, rfl, B, h1, h12, hR, l1, l6, w4, rok, q⟩ := h
    obtain ⟨xs, hq, hrv⟩ := hR
    have hlen : xs.length = rs.length := Paired.length hrv
    have b_len := T.b_len
    have b_min := T.b_min
    have k__law_take : C8.Cal P w K mg base 1 "_law_take" (spTake Ps) [] := c_take T.toRawL
    refine ⟨_, (pss_cons (ps_set (i := 3) sc_law_stay.nd rfl (Or.inl rfl) (C8.pe_c k__law_take hr (by decide) rfl (pa_cons (pv 0) (pa_cons (pe_callB call_len_seq (by rfl) b_len (by decide +kernel) (pa_cons (pv 2) pa_nil)) pa_nil))))
      (pss_cons (ps_set (i := 4) sc_law_stay.nd rfl (Or.inl rfl) (C8.pe_c k__law_take hr (by decide) rfl (pa_cons (pv 0) (pa_cons (pv 1) pa_nil))))
      (pss_cons (ps_set (i := 5) sc_law_stay.nd rfl (Or.inl rfl) (pe_op op_add (pe_op op_add (pv 4) pe_int) (C8.pe_c k__law_take hr (by decide) rfl (pa_cons (pv 0) (pa_cons (pe_op op_sub (pv 1) (pv 4)) pa_nil)))))
      (pss_cons (ps_set (i := 6) sc_law_stay.nd rfl (Or.inl rfl) (pe_callB (call_min2 rfl) (by rfl) b_min (by decide +kernel) (pa_cons (pe_ix ix_seq (pe_ix ix_seq (pv 2) (pv 3) (fun _ _ => rfl)) pe_int (fun _ _ => rfl)) (pa_cons (pe_ix ix_seq (pe_lst (pa_cons pe_int (pa_cons pe_int (pa_cons pe_int pa_nil)))) (C8.pe_c k__law_take hr (by decide) rfl (pa_cons (pv 0) (pa_cons pe_int pa_nil))) (fun _ _ => rfl)) pa_nil))))
      (pss_cons (ps_set (i := 7) sc_law_stay.nd rfl (Or.inl rfl) (C8.pe_c k__law_take hr (by decide) rfl (pa_cons (pv 0) (pa_cons (pe_ix ix_seq (pe_lst (pa_cons pe_int (pa_cons pe_int pa_nil))) (C8.pe_c k__law_take hr (by decide) rfl (pa_cons (pv 0) (pa_cons pe_int pa_nil))) (fun _ _ => rfl)) pa_nil))))
      (pss_cons (ps_if (pt_cmpR op_eq (C8.pe_c k__law_take hr (by decide) rfl (pa_cons (pv 0) (pa_cons pe_int pa_nil))) pe_int (nomark _))
        (pss_one (ps_set (i := 7) sc_law_stay.nd rfl (Or.inl rfl) (C8.pe_c k__law_take hr (by decide) rfl (pa_cons (pv 0) (pa_cons pe_int pa_nil)))))
        pss_nil)
      (pss_one (ps_ret (pe_tup (pa_cons (pv 3) (pa_cons (pv 4) (pa_cons (pv 5) (pa_cons (pv 7) (pa_cons (C8.pe_c k__law_take hr (by decide) rfl (pa_cons (pv 0) (pa_cons (pe_op op_add (pv 6) pe_int) pa_nil))) pa_nil)))))))))))))), ?_⟩
    -- room, begin, end
    refine ⟨_, rfl, _, rfl, ra, xs, rfl, .inl (B.wd.same.seq hq), b, l, _, _, rfl, by omega, by omega, B.start, fun r1 H1 a1 c1 B1 => ?_⟩
    replace B1 := B.trans B1
    refine ⟨_, rfl, _, rfl, b, l, _, _, rfl, by omega, by omega, B1.start, fun r2 H2 a2 c2 B2 => ?_⟩
    replace B2 := B1.trans B2
    refine ⟨_, rfl, _, _, rfl, rfl, _, rfl, _, rfl, _, rfl, _, _, rfl, rfl, b, l, _, _, rfl, by omega, by omega, B2.start, fun r3 H3 a3 c3 B3 => ⟨_, _, rfl, rfl, ?_⟩⟩
    replace B3 := B2.trans B3
    -- most
    have hi : r1.toNat < rs.length := by omega
    have hg : rs[r1.toNat]? = some rs[r1.toNat] := List.getElem?_eq_getElem hi
    obtain ⟨y, hy, ty, rfl, hty⟩ := paired_get' hrv hg
    obtain ⟨ra', m, rl, rp, em⟩ := len4 (w4 _ (List.getElem_mem hi))
    have hok := rok _ (List.getElem_mem hi)
    rw [em] at hok hty hg
    obtain ⟨_, ⟨m0, m9⟩, _⟩ := roomOk_inv hok
    have hmost := mostOf_at a1 hg
    refine ⟨_, rfl, _, rfl, .inl ⟨ra, xs, r1, .ref ty, rfl, rfl, B3.wd.same.seq hq, ?_, .inr (.inl ⟨ty, _, _, .int m, rfl, rfl, Same.tup B3.wd.same hty, atI_nat (j := 1) rfl, ?_⟩)⟩⟩
    · rw [show r1 = ((r1.toNat : Nat) : Int) by omega]
      exact atI_nat hy
    refine ⟨by show 3 ≤ sizeLine; decide, fun p hp => ?_⟩
    have B4 := B3.alloc (o := .lst [.int 5, .int 12, .int 999]) hp
    refine ⟨_, rfl, b, l, _, _, rfl, by omega, by omega, B4.start, fun r4 H4 a4 c4 B5 => ?_⟩
    replace B5 := B4.trans B5
    obtain ⟨v, hv, hvm⟩ := atI_mem (xs := [V.int 5, V.int 12, V.int 999]) (i := r4) a4 (by simpa using c4)
    obtain ⟨k, rfl, hk⟩ : ∃ k : Int, v = .int k ∧ 5 ≤ k := by
      simp at hvm
      rcases hvm with rfl | rfl | rfl
      · exact ⟨_, rfl, by decide⟩
      · exact ⟨_, rfl, by decide⟩
      · exact ⟨_, rfl, by decide⟩
    refine .inl ⟨p, _, _, _, rfl, rfl, SqL.of (B5.wd.same _ _ upd_same), hv, _, _, rfl, ?_⟩
    have hmo : 0 ≤ (if k < m then k else m) ∧ (if k < m then k else m) ≤ m := by
      by_cases e : k < m
      · rw [if_pos e]; omega
      · rw [if_neg e]; omega
    generalize (if k < m then k else m) = mo at hmo
    -- use
    refine ⟨_, rfl, by show 2 ≤ sizeLine; decide, fun p2 hp2 => ?_⟩
    have B6 := B5.alloc (o := .lst [.int 4, .int 10]) hp2
    refine ⟨_, rfl, b, l, _, _, rfl, by omega, by omega, B6.start, fun r5 H5 a5 c5 B7 => ?_⟩
    replace B7 := B6.trans B7
    obtain ⟨v, hv, hvm⟩ := atI_mem (xs := [V.int 4, V.int 10]) (i := r5) a5 (by simpa using c5)
    obtain ⟨k2, rfl, hk2⟩ : ∃ k : Int, v = .int k ∧ 4 ≤ k ∧ k ≤ 10 := by
      simp at hvm
      rcases hvm with rfl | rfl
      · exact ⟨_, rfl, by decide, by decide⟩
      · exact ⟨_, rfl, by decide, by decide⟩
    refine .inl ⟨p2, _, _, _, rfl, rfl, SqL.of (B7.wd.same _ _ upd_same), hv, b, l, _, _, rfl, by omega, by omega, B7.start, fun r6 H6 a6 c6 B8 => ?_⟩
    replace B8 := B7.trans B8
    refine ⟨_, rfl, b, l, _, _, rfl, by omega, by omega, B8.start, fun r7 H7 a7 c7 B9 => ⟨rfl, _, rfl, ?_⟩⟩
    replace B9 := B8.trans B9
    -- the end, from any use
    have fin : ∀ (u : Int) G' H', 0 ≤ u ∧ u ≤ 999 → Bx Ps b l G H G' H' → Same G G' → ∃ v, ([some (.ref b), some (.int h), some (.ref ra), some (.int r1), some (.int r2), some (.int (r2 + 1 + r3)), some (.int mo), some (.int u)] : L2.St)[3]? = some (some v) ∧
        (tCons (tVar 4) (tCons (tVar 5) (tCons (tVar 7) (tCons (tCall (spTake Ps) [] C8.E0 (tCons (tVar 0) (tCons (tOp (rI0 fun i j => .int (i + j)) (tVar 6) (tC (.int 1))) tNil))) tNil)))) [some (.ref b), some (.int h), some (.ref ra), some (.int r1), some (.int r2), some (.int (r2 + 1 + r3)), some (.int mo), some (.int u)] H' fun xs H1 => (v :: xs).length ≤ sizeLine ∧ ∀ p, H1 p = none → Q (.ref p) (upd H1 p (.tup (v :: xs))) := fun u G' H' hu B' _ => by
      refine ⟨_, rfl, _, rfl, _, rfl, _, rfl, _, rfl, _, rfl, _, _, rfl, rfl, b, l, _, _, rfl, by omega, by omega, B'.start, fun r8 H8 a8 c8 B10 => ⟨by show 5 ≤ sizeLine; decide, fun t ht => ?_⟩⟩
      refine q t [r1, r2, r2 + 1 + r3, u, r8] _ _ ((B'.trans B10).alloc ht) ⟨t, rfl, SqT.of upd_same⟩ rfl ?_
      exact stayOk_of a1 (by omega) l6 a2 (by omega) (by omega) h12 hu a8 (by omega) (by omega)
    refine ite2 (fun _ => ?_) (fun _ => ?_)
    · exact ⟨_, rfl, b, l, _, _, rfl, by omega, by omega, B9.start, fun r9 H9 a9 c9 B11 => fin r9 _ H9 (by omega) (B9.trans B11) B9.gr.up⟩
    · exact fin r6 _ H7 (by omega) B9 B9.gr.up
end
end Cr
set_option Elab.async false
set_option linter.all false
set_option maxRecDepth 100000
set_option maxHeartbeats 4000000

namespace Cr
open PySem PySem.Spec PyProof.Rows L2
/-- a list of rows that is the law's own -/
def RowsL (K : PySem.W.Frag) (G : Hp) (a : Addr) (rs : List (List Int)) : Prop := ∃ xs, G a = some (.lst xs) ∧ RowsV K G xs rs
theorem RowsL.rows {K : PySem.W.Frag} {G : Hp} {a : Addr} {rs : List (List Int)} (h : RowsL K G a rs) : Rows K G a rs := let ⟨xs, e, r⟩ := h; ⟨xs, SqL.of e, r⟩
theorem RowsL.same {K : PySem.W.Frag} {G G' : Hp} {a : Addr} {rs : List (List Int)} (s : Same G G') (h : RowsL K G a rs) : RowsL K G' a rs := let ⟨xs, e, r⟩ := h; ⟨xs, s _ _ e, rowsV_same s r⟩
/-! ### a list of rows under way: not known until it is done -/
structure Opn (K : PySem.W.Frag) (Ps : List Addr) (b l : Addr) (G0 H0 : Hp) (p : Addr) (xs : List V) (rs : List (List Int)) (G H : Hp) : Prop where
  bx : Bx Ps b l G0 H0 G H
  h0 : H0 p = none
  at_ : H p = some (.lst xs)
  g : G p = none
  rv : RowsV K G xs rs
section
variable {K : PySem.W.Frag} {Ps : List Addr} {b l p : Addr} {G0 H0 G H G1 H1 : Hp} {xs : List V} {rs : List (List Int)} {v : V} {ns : List Int}
theorem Opn.begin (B : Bx Ps b l G0 H0 G H) (hp : H p = none) : Opn K Ps b l G H p [] [] G (upd H p (.lst [])) :=
  ⟨B.start.new hp, hp, upd_same, B.wd.free hp, .nil⟩
theorem Opn.start (o : Opn K Ps b l G0 H0 p xs rs G H) : Bx Ps b l G0 H0 G0 H0 → b ≠ p ∧ l ≠ p ∧ p ∉ Ps := fun s => s.apart o.h0
theorem Opn.nin (o : Opn K Ps b l G0 H0 p xs rs G H) (s : Bx Ps b l G0 H0 G0 H0) : p ∉ b :: l :: Ps := fun h => by
  obtain ⟨a1, a2, a3⟩ := s.apart o.h0
  rcases List.mem_cons.mp h with z | h
  · exact a1 z.symm
  rcases List.mem_cons.mp h with z | h
  · exact a2 z.symm
  · exact a3 h
theorem Opn.step (o : Opn K Ps b l G0 H0 p xs rs G H) (s : Bx Ps b l G0 H0 G0 H0) (y : Bx Ps b l G H G1 H1) : Opn K Ps b l G0 H0 p xs rs G1 H1 :=
  ⟨o.bx.trans y, o.h0, y.gr.keep _ _ (o.nin s) o.at_, y.gr.fresh p o.g (by rw [o.at_]; exact fun z => nomatch z), rowsV_same y.gr.up o.rv⟩
theorem Opn.push (o : Opn K Ps b l G0 H0 p xs rs G H) (s : Bx Ps b l G0 H0 G0 H0) (r : RowT K G v ns) : Opn K Ps b l G0 H0 p (xs ++ [v]) (rs ++ [ns]) G (upd H p (.lst (xs ++ [v]))) :=
  ⟨o.bx.poke s o.h0 o.g, o.h0, upd_same, o.g, paired_snoc o.rv r⟩
theorem Opn.done (o : Opn K Ps b l G0 H0 p xs rs G H) (s : Bx Ps b l G0 H0 G0 H0) : Bx Ps b l G0 H0 (upd G p (.lst xs)) H ∧ RowsL K (upd G p (.lst xs)) p rs :=
  ⟨o.bx.close s o.h0 o.at_ o.g, xs, upd_same, rowsV_same (same_new o.g) o.rv⟩
theorem Opn.len (o : Opn K Ps b l G0 H0 p xs rs G H) : xs.length = rs.length := Paired.length o.rv
end
theorem seq_if {c : TT} {t u rest : TS} {D : Ends} {σ : L2.St} {H : Hp} {i : Nat} {v : V} (Pv : L2.St → Hp → Prop) (hd : ∀ σ H, Pv σ H → rest D σ H) (h : ∀ κ : L2.St → Hp → Prop, (∀ σ H, Pv σ H → κ σ H) → tIfS c t u { D with nx := κ } (σ.set i (some v)) H) : gName i v σ H (tSeq (tIfS c t u) rest D) := h (rest D) hd
theorem other_ne {a t n : Int} (a0 : 0 ≤ a) (an : a < n) (t0 : 0 ≤ t) (tn : t < n - 1) : (0 ≤ (a + 1 + t).fmod n ∧ (a + 1 + t).fmod n < n) ∧ a ≠ (a + 1 + t).fmod n := by
  have h := fmod_range (a + 1 + t) (show 0 < n by omega)
  refine ⟨h, ?_⟩
  rw [Int.fmod_eq_emod_of_nonneg _ (by omega)]
  by_cases e : a + 1 + t < n
  · rw [Int.emod_eq_of_lt (by omega) e]; omega
  · have e2 : (a + 1 + t) % n = a + 1 + t - n := by
      rw [show a + 1 + t = (a + 1 + t - n) + n by omega, Int.add_emod_right, Int.emod_eq_of_lt (by omega) (by omega)]; omega
    rw [e2]; omega
/-- the rows of a house -/
structure GoodH (h : Int) (rs ds ss : List (List Int)) : Prop where
  h1 : 1 ≤ h
  h12 : h ≤ 12
  r1 : 1 ≤ rs.length
  r6 : rs.length ≤ 6
  d8 : ds.length ≤ 8
  s20 : ss.length ≤ 20
  w4 : Wide 4 rs
  w3 : Wide 3 ds
  w5 : Wide 5 ss
  rok : ∀ r ∈ rs, roomOk r = true
  dok : ∀ d ∈ ds, doorOk rs.length d = true
  sok : ∀ s ∈ ss, stayOk h rs s = true
structure RowsAt (K : PySem.W.Frag) (G : Hp) (t : Addr) (h : Int) (ra da sa : Addr) (rs ds ss : List (List Int)) : Prop where
  t : SqT K G t [.int h, .ref ra, .ref da, .ref sa]
  r : RowsL K G ra rs
  d : RowsL K G da ds
  s : RowsL K G sa ss
theorem firstNot_all {ok : List Int → Bool} {rs : List (List Int)} (h : ∀ r ∈ rs, ok r = true) : firstNot ok rs = none :=
  firstNot_none fun j r _ e => h r (List.mem_of_getElem? e)
theorem GoodH.bad {h : Int} {rs ds ss : List (List Int)} (g : GoodH h rs ds ss) : houseBad h rs ds ss = none := by
  have hc : countBad h rs ds ss = none := by
    have := g.h1; have := g.h12; have := g.r1; have := g.r6; have := g.d8; have := g.s20
    unfold countBad
    rw [if_neg (by omega), if_neg (by omega), if_neg (by omega), if_neg (by omega)]
  unfold houseBad
  rw [hc]
  show partBad h rs ds ss = none
  unfold partBad
  rw [firstNot_all g.rok, firstNot_all g.dok, firstNot_all g.sok]
section
variable {P : Program} {w : World} {K : PySem.W.Frag} {mg : Str → Option Value} {base : Heap} {Ps : List Addr} {H : Hp}
def spLHouse (K : PySem.W.Frag) (Ps : List Addr) : Sp := fun vs H Q _ => ∃ (b l : Addr) (G : Hp), vs = [.ref b] ∧ Bx Ps b l G H G H ∧
  ∀ t h ra da sa rs ds ss G' H', Bx Ps b l G H G' H' → RowsAt K G' t h ra da sa rs ds ss → GoodH h rs ds ss → Q (.ref t) H'
theorem c_lhouse (T : RawH K mg) : C8.Cal P w K mg base 3 "_law_house" (spLHouse K Ps) [] := by
  refine T.lhouse.cal sc_law_house (fun vs H Q E h => ?_) (fun f cdv A outer s H vs Q E hr h => ?_)
  · obtain ⟨b, l, G, rfl, _⟩ := h
    rfl
  · obtain ⟨b, l, G, rfl, B, q⟩ := h
    have b_len := T.b_len
    have b_min := T.b_min
    have b_int := T.b_int
    have b_range := T.b_range
    have k__law_take : C8.Cal P w K mg base 1 "_law_take" (spTake Ps) [] := c_take T.toRawL
    have k__law_stay : C8.Cal P w K mg base 2 "_law_stay" (spLStay K Ps) [] := c_lstay T
    refine ⟨_, (pss_cons (ps_set (i := 1) sc_law_house.nd rfl (Or.inl rfl) (pe_op op_add pe_int (C8.pe_c k__law_take hr (by decide) rfl (pa_cons (pv 0) (pa_cons (pe_ix ix_seq (pe_lst (pa_cons pe_int (pa_cons pe_int pa_nil))) (pe_callTy call_int1 (by rfl) b_int (by decide +kernel) (pa_cons (pe_cmpR op_eq (C8.pe_c k__law_take hr (by decide) rfl (pa_cons (pv 0) (pa_cons pe_int pa_nil))) pe_int (nomark _)) pa_nil)) (fun _ _ => rfl)) pa_nil)))))
      (pss_cons (ps_set (i := 2) sc_law_house.nd rfl (Or.inl rfl) (pe_lst pa_nil))
      (pss_cons (ps_for PassesOwn.never rfl (pi_range1 (by rfl) b_range (pa_cons (pe_op op_add pe_int (C8.pe_c k__law_take hr (by decide) rfl (pa_cons (pv 0) (pa_cons (pe_ix ix_seq (pe_lst (pa_cons pe_int (pa_cons pe_int pa_nil))) (pe_callTy call_int1 (by rfl) b_int (by decide +kernel) (pa_cons (pe_cmpR op_eq (C8.pe_c k__law_take hr (by decide) rfl (pa_cons (pv 0) (pa_cons pe_int pa_nil))) pe_int (nomark _)) pa_nil)) (fun _ _ => rfl)) pa_nil)))) pa_nil)) (pg_name (i := 3) sc_law_house.nd rfl (Or.inl rfl))
        (pss_cons (ps_set (i := 4) sc_law_house.nd rfl (Or.inl rfl) (pe_ix ix_seq (pe_lst (pa_cons (C8.pe_c k__law_take hr (by decide) rfl (pa_cons (pv 0) (pa_cons pe_int pa_nil))) (pa_cons (C8.pe_c k__law_take hr (by decide) rfl (pa_cons (pv 0) (pa_cons pe_int pa_nil))) pa_nil))) (pe_callTy call_int1 (by rfl) b_int (by decide +kernel) (pa_cons (pe_cmpR op_eq (C8.pe_c k__law_take hr (by decide) rfl (pa_cons (pv 0) (pa_cons pe_int pa_nil))) pe_int (nomark _)) pa_nil)) (fun _ _ => rfl)))
      (pss_cons (ps_set (i := 5) sc_law_house.nd rfl (Or.inl rfl) (pe_ix ix_seq (pe_lst (pa_cons (pe_callB (call_min2 rfl) (by rfl) b_min (by decide +kernel) (pa_cons (pv 4) (pa_cons (C8.pe_c k__law_take hr (by decide) rfl (pa_cons (pv 0) (pa_cons pe_int pa_nil))) pa_nil))) (pa_cons (C8.pe_c k__law_take hr (by decide) rfl (pa_cons (pv 0) (pa_cons (pe_op op_add (pv 4) pe_int) pa_nil))) pa_nil))) (pe_callTy call_int1 (by rfl) b_int (by decide +kernel) (pa_cons (pe_cmpR op_eq (C8.pe_c k__law_take hr (by decide) rfl (pa_cons (pv 0) (pa_cons pe_int pa_nil))) pe_int (nomark _)) pa_nil)) (fun _ _ => rfl)))
      (pss_cons (ps_set (i := 6) sc_law_house.nd rfl (Or.inl rfl) (pe_ix ix_seq (pe_lst (pa_cons (C8.pe_c k__law_take hr (by decide) rfl (pa_cons (pv 0) (pa_cons pe_int pa_nil))) (pa_cons (C8.pe_c k__law_take hr (by decide) rfl (pa_cons (pv 0) (pa_cons pe_int pa_nil))) pa_nil))) (pe_callTy call_int1 (by rfl) b_int (by decide +kernel) (pa_cons (pe_cmpR op_eq (C8.pe_c k__law_take hr (by decide) rfl (pa_cons (pv 0) (pa_cons pe_int pa_nil))) pe_int (nomark _)) pa_nil)) (fun _ _ => rfl)))
      (pss_cons (ps_set (i := 7) sc_law_house.nd rfl (Or.inl rfl) (pe_ix ix_seq (pe_lst (pa_cons (C8.pe_c k__law_take hr (by decide) rfl (pa_cons (pv 0) (pa_cons pe_int pa_nil))) (pa_cons (C8.pe_c k__law_take hr (by decide) rfl (pa_cons (pv 0) (pa_cons pe_int pa_nil))) pa_nil))) (pe_callTy call_int1 (by rfl) b_int (by decide +kernel) (pa_cons (pe_cmpR op_eq (C8.pe_c k__law_take hr (by decide) rfl (pa_cons (pv 0) (pa_cons pe_int pa_nil))) pe_int (nomark _)) pa_nil)) (fun _ _ => rfl)))
      (pss_one (ps_expr (pe_bm PySem.F.plainAttrs_list PySem.F.slot_list_append PySem.F.type_list_append mt_append (pv 2) (pa_cons (pe_tup (pa_cons (pv 5) (pa_cons (pv 4) (pa_cons (pv 6) (pa_cons (pv 7) pa_nil))))) pa_nil)))))))))
      (pss_cons (ps_set (i := 8) sc_law_house.nd rfl (Or.inl rfl) (pe_lst pa_nil))
      (pss_cons (ps_if (pt_cmpR op_gt (pe_callB call_len_seq (by rfl) b_len (by decide +kernel) (pa_cons (pv 2) pa_nil)) pe_int (nomark _))
        (pss_one (ps_for PassesOwn.never rfl (pi_range1 (by rfl) b_range (pa_cons (pe_ix ix_seq (pe_lst (pa_cons (C8.pe_c k__law_take hr (by decide) rfl (pa_cons (pv 0) (pa_cons pe_int pa_nil))) (pa_cons (C8.pe_c k__law_take hr (by decide) rfl (pa_cons (pv 0) (pa_cons pe_int pa_nil))) pa_nil))) (pe_callTy call_int1 (by rfl) b_int (by decide +kernel) (pa_cons (pe_cmpR op_eq (C8.pe_c k__law_take hr (by decide) rfl (pa_cons (pv 0) (pa_cons pe_int pa_nil))) pe_int (nomark _)) pa_nil)) (fun _ _ => rfl)) pa_nil)) (pg_name (i := 3) sc_law_house.nd rfl (Or.inl rfl))
        (pss_cons (ps_set (i := 9) sc_law_house.nd rfl (Or.inl rfl) (C8.pe_c k__law_take hr (by decide) rfl (pa_cons (pv 0) (pa_cons (pe_callB call_len_seq (by rfl) b_len (by decide +kernel) (pa_cons (pv 2) pa_nil)) pa_nil))))
      (pss_cons (ps_set (i := 10) sc_law_house.nd rfl (Or.inl rfl) (pe_op op_modN (pe_op op_add (pe_op op_add (pv 9) pe_int) (C8.pe_c k__law_take hr (by decide) rfl (pa_cons (pv 0) (pa_cons (pe_op op_sub (pe_callB call_len_seq (by rfl) b_len (by decide +kernel) (pa_cons (pv 2) pa_nil)) pe_int) pa_nil)))) (pe_callB call_len_seq (by rfl) b_len (by decide +kernel) (pa_cons (pv 2) pa_nil))))
      (pss_cons (ps_set (i := 6) sc_law_house.nd rfl (Or.inl rfl) (pe_ix ix_seq (pe_lst (pa_cons (C8.pe_c k__law_take hr (by decide) rfl (pa_cons (pv 0) (pa_cons pe_int pa_nil))) (pa_cons (C8.pe_c k__law_take hr (by decide) rfl (pa_cons (pv 0) (pa_cons pe_int pa_nil))) pa_nil))) (pe_callTy call_int1 (by rfl) b_int (by decide +kernel) (pa_cons (pe_cmpR op_eq (C8.pe_c k__law_take hr (by decide) rfl (pa_cons (pv 0) (pa_cons pe_int pa_nil))) pe_int (nomark _)) pa_nil)) (fun _ _ => rfl)))
      (pss_one (ps_expr (pe_bm PySem.F.plainAttrs_list PySem.F.slot_list_append PySem.F.type_list_append mt_append (pv 8) (pa_cons (pe_tup (pa_cons (pv 9) (pa_cons (pv 10) (pa_cons (pv 6) pa_nil)))) pa_nil)))))))))
        pss_nil)
      (pss_cons (ps_set (i := 11) sc_law_house.nd rfl (Or.inl rfl) (pe_lst pa_nil))
      (pss_cons (ps_for PassesOwn.never rfl (pi_range1 (by rfl) b_range (pa_cons (pe_ix ix_seq (pe_lst (pa_cons (C8.pe_c k__law_take hr (by decide) rfl (pa_cons (pv 0) (pa_cons pe_int pa_nil))) (pa_cons (C8.pe_c k__law_take hr (by decide) rfl (pa_cons (pv 0) (pa_cons pe_int pa_nil))) pa_nil))) (pe_callTy call_int1 (by rfl) b_int (by decide +kernel) (pa_cons (pe_cmpR op_eq (C8.pe_c k__law_take hr (by decide) rfl (pa_cons (pv 0) (pa_cons pe_int pa_nil))) pe_int (nomark _)) pa_nil)) (fun _ _ => rfl)) pa_nil)) (pg_name (i := 3) sc_law_house.nd rfl (Or.inl rfl))
        (pss_one (ps_expr (pe_bm PySem.F.plainAttrs_list PySem.F.slot_list_append PySem.F.type_list_append mt_append (pv 11) (pa_cons (C8.pe_c k__law_stay hr (by decide) rfl (pa_cons (pv 0) (pa_cons (pv 1) (pa_cons (pv 2) pa_nil)))) pa_nil)))))
      (pss_one (ps_ret (pe_tup (pa_cons (pv 1) (pa_cons (pv 2) (pa_cons (pv 8) (pa_cons (pv 11) pa_nil)))))))))))))), ?_⟩
    -- hours
    refine ⟨_, rfl, by show 2 ≤ sizeLine; decide, fun p hp => ?_⟩
    have B1 := B.alloc (o := .lst [.int 4, .int 12]) hp
    refine pick2 rfl B1 (by decide) (by decide) upd_same fun v H2 hv B2 => ?_
    replace B2 := B1.trans B2
    obtain ⟨k, rfl, hk⟩ : ∃ k : Int, v = .int k ∧ 1 ≤ k ∧ k ≤ 12 := by
      rcases hv with rfl | rfl
      · exact ⟨_, rfl, by decide, by decide⟩
      · exact ⟨_, rfl, by decide, by decide⟩
    refine ⟨b, l, _, _, rfl, by omega, by omega, B2.start, fun r3 H3 a3 c3 B3 => ⟨_, _, rfl, rfl, ?_⟩⟩
    obtain ⟨G3, B3⟩ : ∃ G3, Bx Ps b l G H G3 H3 := ⟨_, B2.trans B3⟩
    have hh : 1 ≤ 1 + r3 ∧ 1 + r3 ≤ 12 := by omega
    -- rooms
    refine ⟨Nat.zero_le _, fun pr hpr => ?_⟩
    have O0 := Opn.begin (K := K) B3 hpr
    have S0 := B3.start
    refine ⟨_, rfl, by show 2 ≤ sizeLine; decide, fun p2 hp2 => ?_⟩
    have O1 := O0.step S0 (O0.bx.start.alloc (o := .lst [.int 3, .int 6]) hp2)
    refine pick2 rfl O1.bx (by decide) (by decide) upd_same fun v H4 hv B4 => ?_
    replace O1 := O1.step S0 B4
    obtain ⟨k2, rfl, hk2⟩ : ∃ k : Int, v = .int k ∧ 1 ≤ k ∧ k ≤ 6 := by
      rcases hv with rfl | rfl
      · exact ⟨_, rfl, by decide, by decide⟩
      · exact ⟨_, rfl, by decide, by decide⟩
    refine ⟨b, l, _, _, rfl, by omega, by omega, O1.bx.start, fun r5 H5 a5 c5 B5 => ⟨_, _, rfl, rfl, ?_⟩⟩
    replace O1 := O1.step S0 B5
    obtain ⟨nr, hnr⟩ : ∃ nr : Nat, (1 + r5 : Int) = nr := ⟨(1 + r5).toNat, by omega⟩
    refine ⟨1 + r5, rfl, by omega, by omega, ?_⟩
    rw [hnr]
    refine for_range (lo := 0) (n := nr) (fun i σ H' => ∃ (o3 o4 o5 o6 o7 : Option V) (G' : Hp) (xs : List V) (rs : List (List Int)), σ = [some (.ref b), some (.int (1 + r3)), some (.ref pr), o3, o4, o5, o6, o7, none, none, none, none] ∧ Opn K Ps b l G3 H3 pr xs rs G' H' ∧ rs.length = i ∧ Wide 4 rs ∧ ∀ r ∈ rs, roomOk r = true) ?_ ?_ ?_
    · exact ⟨none, none, none, none, none, _, [], [], rfl, O1, rfl, by simp [Wide], by simp⟩
    · rintro i σ H' hi ⟨o3, o4, o5, o6, o7, G', xs, rs, rfl, O, hlen, w4, rok⟩
      -- most
      refine ⟨_, rfl, b, l, _, _, rfl, by omega, by omega, O.bx.start, fun r1 H1 a1 c1 B' => ?_⟩
      replace O := O.step S0 B'
      refine ⟨_, rfl, b, l, _, _, rfl, by omega, by omega, O.bx.start, fun r2 H2 a2 c2 B' => ?_⟩
      replace O := O.step S0 B'
      refine ⟨by show 2 ≤ sizeLine; decide, fun p3 hp3 => ?_⟩
      replace O := O.step S0 (O.bx.start.alloc (o := .lst [.int r1, .int r2]) hp3)
      refine pick2 rfl O.bx (by decide) (by decide) upd_same fun v H4 hv B' => ?_
      replace O := O.step S0 B'
      obtain ⟨most, rfl, hmost⟩ : ∃ k : Int, v = .int k ∧ 0 ≤ k ∧ k < 1000 := by
        rcases hv with rfl | rfl
        · exact ⟨_, rfl, by omega, by omega⟩
        · exact ⟨_, rfl, by omega, by omega⟩
      -- air
      refine ⟨_, rfl, _, rfl, b, l, _, _, rfl, by omega, by omega, O.bx.start, fun r3 H3 a3 c3 B' => ?_⟩
      replace O := O.step S0 B'
      refine ⟨_, _, rfl, ?_⟩
      have hmo : 0 ≤ (if r3 < most then r3 else most) ∧ (if r3 < most then r3 else most) ≤ most := by
        by_cases e : r3 < most
        · rw [if_pos e]; omega
        · rw [if_neg e]; omega
      generalize (if r3 < most then r3 else most) = mo at hmo
      refine ⟨_, rfl, _, rfl, _, _, rfl, rfl, b, l, _, _, rfl, by omega, by omega, O.bx.start, fun r4 H4 a4 c4 B' => ?_⟩
      replace O := O.step S0 B'
      refine ⟨by show 2 ≤ sizeLine; decide, fun p4 hp4 => ?_⟩
      replace O := O.step S0 (O.bx.start.alloc (o := .lst [.int mo, .int r4]) hp4)
      refine pick2 rfl O.bx (by decide) (by decide) upd_same fun v H5 hv B' => ?_
      replace O := O.step S0 B'
      obtain ⟨air, rfl, hair⟩ : ∃ k : Int, v = .int k ∧ 0 ≤ k ∧ k ≤ most := by
        rcases hv with rfl | rfl
        · exact ⟨_, rfl, by omega, by omega⟩
        · exact ⟨_, rfl, by omega, by omega⟩
      -- limit
      refine ⟨_, rfl, b, l, _, _, rfl, by omega, by omega, O.bx.start, fun r5 H5 a5 c5 B' => ?_⟩
      replace O := O.step S0 B'
      refine ⟨_, rfl, b, l, _, _, rfl, by omega, by omega, O.bx.start, fun r6 H6 a6 c6 B' => ?_⟩
      replace O := O.step S0 B'
      refine ⟨by show 2 ≤ sizeLine; decide, fun p5 hp5 => ?_⟩
      replace O := O.step S0 (O.bx.start.alloc (o := .lst [.int r5, .int r6]) hp5)
      refine pick2 rfl O.bx (by decide) (by decide) upd_same fun v H7 hv B' => ?_
      replace O := O.step S0 B'
      obtain ⟨limit, rfl, hlimit⟩ : ∃ k : Int, v = .int k ∧ 0 ≤ k ∧ k ≤ 999 := by
        rcases hv with rfl | rfl
        · exact ⟨_, rfl, by omega, by omega⟩
        · exact ⟨_, rfl, by omega, by omega⟩
      -- price
      refine ⟨_, rfl, b, l, _, _, rfl, by omega, by omega, O.bx.start, fun r7 H8 a7 c7 B' => ?_⟩
      replace O := O.step S0 B'
      refine ⟨_, rfl, b, l, _, _, rfl, by omega, by omega, O.bx.start, fun r8 H9 a8 c8 B' => ?_⟩
      replace O := O.step S0 B'
      refine ⟨by show 2 ≤ sizeLine; decide, fun p6 hp6 => ?_⟩
      replace O := O.step S0 (O.bx.start.alloc (o := .lst [.int r7, .int r8]) hp6)
      refine pick2 rfl O.bx (by decide) (by decide) upd_same fun v H10 hv B' => ?_
      replace O := O.step S0 B'
      obtain ⟨price, rfl, hprice⟩ : ∃ k : Int, v = .int k ∧ 0 ≤ k ∧ k ≤ 999 := by
        rcases hv with rfl | rfl
        · exact ⟨_, rfl, by omega, by omega⟩
        · exact ⟨_, rfl, by omega, by omega⟩
      -- append
      refine ⟨_, rfl, .inl ⟨rfl, xs, SqL.of O.at_⟩, _, rfl, _, rfl, _, rfl, _, rfl, by show 4 ≤ sizeLine; decide, fun t ht => ?_⟩
      replace O := O.step S0 (O.bx.start.alloc (o := .tup [.int air, .int most, .int limit, .int price]) ht)
      refine ⟨pr, xs, _, rfl, rfl, O.at_, ?_, ?_⟩
      · have := O.len
        exact Nat.lt_of_lt_of_le (show xs.length < 1000 by omega) (by decide)
      · replace O := O.push (v := .ref t) (ns := [air, most, limit, price]) S0 ⟨t, rfl, SqT.of upd_same⟩
        refine ⟨_, _, _, _, _, _, _, _, rfl, O, by simp; omega, ?_, ?_⟩
        · intro r hr
          rcases List.mem_append.mp hr with h | h
          · exact w4 r h
          · simp at h; subst h; rfl
        · intro r hr
          rcases List.mem_append.mp hr with h | h
          · exact rok r h
          · simp at h; subst h
            exact roomOk_of (by omega) (by omega) (by omega) (by omega) (by omega)
    · rintro σ H0 ⟨o3, o4, o5, o6, o7, G', xs, rs, rfl, O, hlen, w4, rok⟩
      obtain ⟨G4, B4, Rr⟩ : ∃ G4, Bx Ps b l G H G4 H0 ∧ RowsL K G4 pr rs := ⟨_, B3.trans (O.done S0).1, (O.done S0).2⟩
      have hxl := O.len
      have hn1 : 1 ≤ rs.length ∧ rs.length ≤ 6 := by omega
      obtain ⟨xs, hxl0, hrv⟩ := Rr
      have hxs := SqL.of (K := K) hxl0
      have hxl := Paired.length hrv
      -- doors
      refine ⟨Nat.zero_le _, fun pd hpd => ?_⟩
      have O0 := Opn.begin (K := K) B4 hpd
      have S0 := B4.start
      dsimp only
      refine seq_if (fun σ H' => ∃ (o3 o4 o5 o6 o7 o9 o10 : Option V) (G' : Hp) (ds : List (List Int)), σ = [some (.ref b), some (.int (1 + r3)), some (.ref pr), o3, o4, o5, o6, o7, some (.ref pd), o9, o10, none] ∧ Bx Ps b l G H G' H' ∧ Same G4 G' ∧ RowsL K G' pd ds ∧ ds.length ≤ 8 ∧ Wide 3 ds ∧ ∀ d ∈ ds, doorOk rs.length d = true) ?_ ?_
      rotate_left
      · intro κ hκ
        refine ⟨_, rfl, pr, xs, rfl, .inl (O0.bx.wd.same.seq hxs), _, _, rfl, rfl, _, rfl, ?_⟩
        refine ite2 (fun hd => ?_) (fun hd => ?_)
        rotate_left
        · refine hκ _ _ ⟨_, _, _, _, _, _, _, _, [], rfl, B4.trans (O0.done S0).1, (O0.done S0).1.gr.up, (O0.done S0).2, by simp, by simp [Wide], by simp⟩
        · have hd1 : 1 < rs.length := by
            have := of_decide_eq_true hd
            omega
          refine ⟨_, rfl, b, l, _, _, rfl, by omega, by omega, O0.bx.start, fun r1 H1 a1 c1 B' => ?_⟩
          have O := O0.step S0 B'
          refine ⟨_, rfl, b, l, _, _, rfl, by omega, by omega, O.bx.start, fun r2 H2 a2 c2 B' => ?_⟩
          replace O := O.step S0 B'
          refine ⟨by show 2 ≤ sizeLine; decide, fun p3 hp3 => ?_⟩
          replace O := O.step S0 (O.bx.start.alloc (o := .lst [.int r1, .int r2]) hp3)
          refine pick2 rfl O.bx (by decide) (by decide) upd_same fun v H4 hv B' => ?_
          replace O := O.step S0 B'
          obtain ⟨nd, rfl, hnd⟩ : ∃ k : Nat, v = .int (k : Int) ∧ k ≤ 8 := by
            rcases hv with rfl | rfl
            · exact ⟨r1.toNat, by congr 1; omega, by omega⟩
            · exact ⟨r2.toNat, by congr 1; omega, by omega⟩
          refine ⟨(nd : Int), rfl, by omega, by omega, ?_⟩
          refine for_range (lo := 0) (n := nd) (fun i σ H' => ∃ (o3 o6 o9 o10 : Option V) (G' : Hp) (ys : List V) (ds : List (List Int)), σ = [some (.ref b), some (.int (1 + r3)), some (.ref pr), o3, o4, o5, o6, o7, some (.ref pd), o9, o10, none] ∧ Opn K Ps b l G4 H0 pd ys ds G' H' ∧ ds.length = i ∧ Wide 3 ds ∧ ∀ d ∈ ds, doorOk rs.length d = true) ?_ ?_ ?_
          · exact ⟨_, _, _, _, _, [], [], rfl, O, rfl, by simp [Wide], by simp⟩
          · rintro i σ H' hi ⟨o3, o6, o9, o10, G', ys, ds, rfl, O, hlen, w3, dok⟩
            have hS : Same G4 G' := O.bx.gr.up
            have hz : ∀ G2 H2, Bx Ps b l G' H' G2 H2 → SqL K H2 pr xs := fun G2 H2 B' => (hS.trans (B'.gr.up.trans B'.wd.same)).seq hxs
            have hz0 := hz _ _ O.bx.start
            have Oz := O
            refine ⟨_, rfl, _, rfl, pr, xs, rfl, .inl hz0, b, l, _, _, rfl, by omega, by omega, O.bx.start, fun r3 H3 a3 c3 B' => ?_⟩
            replace O := O.step S0 B'
            have Bs := B'
            refine ⟨_, rfl, _, _, rfl, rfl, _, rfl, _, rfl, pr, xs, rfl, .inl (hz _ _ Bs), _, _, rfl, rfl, b, l, _, _, rfl, by omega, by omega, O.bx.start, fun r4 H4 a4 c4 B' => ⟨_, _, rfl, rfl, ?_⟩⟩
            replace O := O.step S0 B'
            replace Bs := Bs.trans B'
            refine ⟨_, rfl, pr, xs, rfl, .inl (hz _ _ Bs), _, _, rfl, rfl, by omega, ?_⟩
            obtain ⟨⟨f1, f2⟩, f3⟩ := other_ne a3 c3 a4 c4
            generalize hq : (r3 + 1 + r4).fmod (xs.length : Int) = other at f1 f2 f3
            refine ⟨_, rfl, b, l, _, _, rfl, by omega, by omega, O.bx.start, fun r5 H5 a5 c5 B' => ?_⟩
            replace O := O.step S0 B'
            refine ⟨_, rfl, b, l, _, _, rfl, by omega, by omega, O.bx.start, fun r6 H6 a6 c6 B' => ?_⟩
            replace O := O.step S0 B'
            refine ⟨by show 2 ≤ sizeLine; decide, fun p5 hp5 => ?_⟩
            replace O := O.step S0 (O.bx.start.alloc (o := .lst [.int r5, .int r6]) hp5)
            refine pick2 rfl O.bx (by decide) (by decide) upd_same fun v H7 hv B' => ?_
            replace O := O.step S0 B'
            obtain ⟨limit, rfl, hlimit⟩ : ∃ k : Int, v = .int k ∧ 0 ≤ k ∧ k ≤ 999 := by
              rcases hv with rfl | rfl
              · exact ⟨_, rfl, by omega, by omega⟩
              · exact ⟨_, rfl, by omega, by omega⟩
            refine ⟨_, rfl, .inl ⟨rfl, ys, SqL.of O.at_⟩, _, rfl, _, rfl, _, rfl, by show 3 ≤ sizeLine; decide, fun t ht => ?_⟩
            replace O := O.step S0 (O.bx.start.alloc (o := .tup [.int r3, .int ((r3 + 1 + r4).fmod (xs.length : Int)), .int limit]) ht)
            refine ⟨pd, ys, _, rfl, rfl, O.at_, ?_, ?_⟩
            · have := O.len
              exact Nat.lt_of_lt_of_le (show ys.length < 1000 by omega) (by decide)
            · replace O := O.push (v := .ref t) (ns := [r3, (r3 + 1 + r4).fmod (xs.length : Int), limit]) S0 ⟨t, rfl, SqT.of upd_same⟩
              refine ⟨_, _, _, _, _, _, _, rfl, O, by simp; omega, ?_, ?_⟩
              · intro r hr
                rcases List.mem_append.mp hr with h | h
                · exact w3 r h
                · simp at h; subst h; rfl
              · intro r hr
                rcases List.mem_append.mp hr with h | h
                · exact dok r h
                · simp at h; subst h
                  rw [hq]
                  exact doorOk_of (by omega) (by omega) (by omega) f3 hlimit
          · rintro σ H' ⟨o3, o6, o9, o10, G', ys, ds, rfl, O, hlen, w3, dok⟩
            refine hκ _ _ ⟨_, _, _, _, _, _, _, _, ds, rfl, B4.trans (O.done S0).1, (O.done S0).1.gr.up, (O.done S0).2, by omega, w3, dok⟩
      · rintro σ H5 ⟨o3, o4, o5, o6, o7, o9, o10, G5, ds, rfl, B5, hS, hds, hdl, w3, dok⟩
        -- stays
        refine ⟨Nat.zero_le _, fun ps hps => ?_⟩
        have O0 := Opn.begin (K := K) B5 hps
        have S0 := B5.start
        have hxs5 : SqL K G5 pr xs := hS.seq hxs
        refine ⟨_, rfl, b, l, _, _, rfl, by omega, by omega, O0.bx.start, fun r1 H1 a1 c1 B' => ?_⟩
        have O := O0.step S0 B'
        refine ⟨_, rfl, b, l, _, _, rfl, by omega, by omega, O.bx.start, fun r2 H2 a2 c2 B' => ?_⟩
        replace O := O.step S0 B'
        refine ⟨by show 2 ≤ sizeLine; decide, fun p3 hp3 => ?_⟩
        replace O := O.step S0 (O.bx.start.alloc (o := .lst [.int r1, .int r2]) hp3)
        refine pick2 rfl O.bx (by decide) (by decide) upd_same fun v H4 hv B' => ?_
        replace O := O.step S0 B'
        obtain ⟨nd, rfl, hnd⟩ : ∃ k : Nat, v = .int (k : Int) ∧ k ≤ 20 := by
          rcases hv with rfl | rfl
          · exact ⟨r1.toNat, by congr 1; omega, by omega⟩
          · exact ⟨r2.toNat, by congr 1; omega, by omega⟩
        refine ⟨(nd : Int), rfl, by omega, by omega, ?_⟩
        refine for_range (lo := 0) (n := nd) (fun i σ H' => ∃ (o3 : Option V) (G' : Hp) (ys : List V) (ss : List (List Int)), σ = [some (.ref b), some (.int (1 + r3)), some (.ref pr), o3, o4, o5, o6, o7, some (.ref pd), o9, o10, some (.ref ps)] ∧ Opn K Ps b l G5 H5 ps ys ss G' H' ∧ ss.length = i ∧ Wide 5 ss ∧ ∀ s ∈ ss, stayOk (1 + r3) rs s = true) ?_ ?_ ?_
        · exact ⟨_, _, [], [], rfl, O, rfl, by simp [Wide], by simp⟩
        · rintro i σ H' hi ⟨o3, G', ys, ss, rfl, O, hlen, w5, sok⟩
          have hS' : Same G5 G' := O.bx.gr.up
          refine ⟨_, rfl, .inl ⟨rfl, ys, SqL.of O.at_⟩, _, rfl, _, rfl, _, rfl, ?_⟩
          refine ⟨b, l, _, pr, G', rs, rfl, O.bx.start, by omega, by omega, ⟨xs, hS'.seq hxs5, rowsV_same (hS.trans hS') hrv⟩, by omega, by omega, w4, rok, fun t ns G2 H2 B' ht h5 hok => ?_⟩
          replace O := O.step S0 B'
          refine ⟨ps, ys, _, rfl, rfl, O.at_, ?_, ?_⟩
          · have := O.len
            exact Nat.lt_of_lt_of_le (show ys.length < 1000 by omega) (by decide)
          · replace O := O.push (v := .ref t) (ns := ns) S0 ht
            refine ⟨_, _, _, _, rfl, O, by simp; omega, ?_, ?_⟩
            · intro r hr
              rcases List.mem_append.mp hr with h | h
              · exact w5 r h
              · simp at h; subst h; exact h5
            · intro r hr
              rcases List.mem_append.mp hr with h | h
              · exact sok r h
              · simp at h; subst h
                exact hok
        · rintro σ H6 ⟨o3, G', ys, ss, rfl, O, hlen, w5, sok⟩
          obtain ⟨B6, R6⟩ := O.done S0
          refine ⟨_, rfl, _, rfl, _, rfl, _, rfl, by show 4 ≤ sizeLine; decide, fun t ht => ?_⟩
          refine q t (1 + r3) pr pd ps rs ds ss _ _ ((B5.trans B6).alloc ht) ⟨SqT.of upd_same, ?_, ?_, ?_⟩ ⟨by omega, by omega, by omega, by omega, by omega, by omega, w4, w3, w5, rok, dok, sok⟩
          · exact RowsL.same (same_new (B6.wd.free ht)) ⟨xs, B6.gr.up _ _ (hS _ _ hxl0), rowsV_same (hS.trans B6.gr.up) hrv⟩
          · exact RowsL.same (same_new (B6.wd.free ht)) (RowsL.same B6.gr.up hds)
          · exact RowsL.same (same_new (B6.wd.free ht)) R6
end
end Cr
set_option Elab.async false
set_option linter.all false
set_option maxRecDepth 100000
set_option maxHeartbeats 4000000

namespace Cr
open PySem PySem.Spec PyProof.Rows L2
abbrev s_law_here : Stmt := top 30
abbrev n_law_here : List Str := ["_law_rows", "_law_room", "_law_hour", "_law_stay_here"]
abbrev a_law_here : List Str := ["_law_rows", "_law_room", "_law_hour"]
theorem sc_law_here : FnScope n_law_here a_law_here (defScope s_law_here) := ⟨rfl, rfl, rfl, by decide +kernel, rfl, by decide +kernel, by decide +kernel⟩
abbrev s_law_use : Stmt := top 31
abbrev n_law_use : List Str := ["_law_rows", "_law_room", "_law_hour", "_law_stay_here"]
abbrev a_law_use : List Str := ["_law_rows", "_law_room", "_law_hour"]
theorem sc_law_use : FnScope n_law_use a_law_use (defScope s_law_use) := ⟨rfl, rfl, rfl, by decide +kernel, rfl, by decide +kernel, by decide +kernel⟩
abbrev s_law_least : Stmt := top 32
abbrev n_law_least : List Str := ["_law_rows", "_law_room", "_law_hour", "_law_stay_here"]
abbrev a_law_least : List Str := ["_law_rows", "_law_room", "_law_hour"]
theorem sc_law_least : FnScope n_law_least a_law_least (defScope s_law_least) := ⟨rfl, rfl, rfl, by decide +kernel, rfl, by decide +kernel, by decide +kernel⟩
theorem RowsAt.sm {K : PySem.W.Frag} {G G' : Hp} {t : Addr} {h : Int} {ra da sa : Addr} {rs ds ss : List (List Int)} (e : Same G G') (a : RowsAt K G t h ra da sa rs ds ss) : RowsAt K G' t h ra da sa rs ds ss := ⟨Same.tup e a.t, a.r.same e, a.d.same e, a.s.same e⟩
theorem here_take {ss : List (List Int)} {i : Nat} {s : List Int} (r t : Int) (e : ss[i]? = some s) : (ss.take (i + 1)).filter (inHere r t) = (ss.take i).filter (inHere r t) ++ (if inHere r t s = true then [s] else []) := by
  rw [List.take_add_one, e]
  rw [List.filter_append]
  congr 1
  by_cases h : inHere r t s = true
  · rw [if_pos h]; simp [h]
  · rw [if_neg h]; simp [h]
theorem here_len (ss : List (List Int)) (r t : Int) : (ss.filter (inHere r t)).length ≤ ss.length := List.length_filter_le _ _
section
variable {P : Program} {w : World} {K : PySem.W.Frag} {mg : Str → Option Value} {base : Heap} {Ps : List Addr} {H : Hp}
structure RawU (K : PySem.W.Frag) (mg : Str → Option Value) : Prop extends RawH K mg where
  lhere : DefR K mg "_law_here" s_law_here a_law_here
  luse : DefR K mg "_law_use" s_law_use a_law_use
  lleast : DefR K mg "_law_least" s_law_least a_law_least
  b_sum : mg "sum" = none
  b_max : mg "max" = none
def spLHere (K : PySem.W.Frag) (Ps : List Addr) : Sp := fun vs H Q _ => ∃ (G : Hp) (t : Addr) (h : Int) (ra da sa : Addr) (rs ds ss : List (List Int)) (r u : Int), vs = [.ref t, .int r, .int u] ∧ Wd Ps G H ∧ Tabs Ps H ∧ RowsAt K G t h ra da sa rs ds ss ∧ Wide 5 ss ∧ ss.length ≤ 20 ∧
  ∀ l ys H', H l = none → Gr Ps G H G H' → H' l = some (.lst ys) → RowsV K G ys (ss.filter (inHere r u)) → Tabs Ps H' → Q (.ref l) H'
theorem c_lhere (T : RawU K mg) : C8.Cal P w K mg base 1 "_law_here" (spLHere K Ps) [] := by
  refine T.lhere.cal sc_law_here (fun vs H Q E h => ?_) (fun f cdv A outer s H vs Q E hr h => ?_)
  · obtain ⟨G, t, h, ra, da, sa, rs, ds, ss, r, u, rfl, _⟩ := h
    rfl
  · obtain ⟨G, t, h, ra, da, sa, rs, ds, ss, r, u, rfl, wd, tbs, ⟨ht, _, _, xr, qr, rr⟩, w5, l20, q⟩ := h
    replace qr := SqL.of (K := K) qr
    have hlen : xr.length = ss.length := Paired.length rr
    refine ⟨_, (pss_one (ps_ret (pe_lc (own := [("_law_stay_here", 3)]) rfl sc_law_here.nd (pi_list (pe_ix ix_seq (pv 0) pe_int (fun _ _ => rfl))) (blkOk_by (own := [("_law_stay_here", 3)]) (N := n_law_here) (sc := defScope s_law_here) (by decide +kernel)) (fun _ _ _ _ _ => (pg_name (i := 3) sc_law_here.nd rfl (Or.inl rfl) (Or.inr rfl))) (fun _ _ _ _ _ => pts_one (PW.pt (pw_and (pt_cmpR op_eq (pe_ix (ix_seqK (K := K) rfl) (pv 3 rfl (Or.inl rfl)) pe_int (fun _ _ => rfl)) (pv 1 rfl (Or.inr (Or.inl rfl))) (nomark _)) (pw_and (pt_cmpR op_le (pe_ix (ix_seqK (K := K) rfl) (pv 3 rfl (Or.inl rfl)) pe_int (fun _ _ => rfl)) (pv 2 rfl (Or.inr (Or.inl rfl))) (nomark _)) (pw_and1 (pt_cmpR op_lt (pv 2 rfl (Or.inr (Or.inl rfl))) (pe_ix (ix_seqK (K := K) rfl) (pv 3 rfl (Or.inl rfl)) pe_int (fun _ _ => rfl)) (nomark _))))))) (fun _ _ _ _ _ => (pv 3 rfl (Or.inl rfl)))))), ?_⟩
    refine ⟨_, rfl, .inr (.inl ⟨t, _, _, .ref sa, rfl, rfl, Same.tup wd.same ht, atI_nat (j := 3) rfl, sa, rfl, ⟨xr, wd.same.seq qr⟩, fun D hD => ?_⟩)⟩
    have hDP := tbs.nin hD
    refine lc_list (K := K) (a := sa) (xs := xr) (fun i H' => ∃ acc, Gr Ps G H G H' ∧ Tabs Ps H' ∧ H' D = some (.lst acc) ∧ RowsV K G acc ((ss.take i).filter (inHere r u)))
      ⟨[], Gr.new wd hD, tbs.upd hDP, upd_same, .nil⟩ (fun i H' _ ⟨acc, g, _⟩ => g.wd.same.seq qr) ?_ ?_
    · rintro i y H' hy ⟨acc, g, tb, hacc, hrv⟩
      obtain ⟨z, ez, ty, rfl, hty⟩ := paired_get rr hy
      have hz5 := w5 z (List.mem_of_getElem? ez)
      obtain ⟨pl, bg, en, us, nd, rfl⟩ := len5 hz5
      have hlt : i < ss.length := (List.getElem?_eq_some_iff.mp ez).1
      have hal : acc.length ≤ ss.length := by
        rw [Paired.length hrv]
        exact Nat.le_trans (here_len _ _ _) (by rw [List.length_take]; omega)
      have hstep := here_take r u ez
      have gD : G D = none := wd.free hD
      have hq : SqT K H' ty ([pl, bg, en, us, nd].map V.int) := Same.tup g.wd.same hty
      refine ⟨(by (repeat rw [wipe_set (by decide)]); exact wipe_wipe _ _), ?_⟩
      refine ⟨_, rfl, .inr (.inl ⟨ty, _, _, .int pl, rfl, rfl, hq, atI_nat (j := 0) rfl, _, rfl, rfl, _, rfl, ?_⟩)⟩
      have e0 : decide (V.int pl = V.int r) = decide (pl = r) := by simp
      rw [e0]
      have ein : inHere r u [pl, bg, en, us, nd] = (decide (pl = r) && (decide (bg ≤ u) && decide (u < en))) := rfl
      rw [ein] at hstep
      have stay : (decide (pl = r) && (decide (bg ≤ u) && decide (u < en))) = false → ∃ acc, Gr Ps G H G H' ∧ Tabs Ps H' ∧ H' D = some (.lst acc) ∧ RowsV K G acc ((ss.take (i + 1)).filter (inHere r u)) := fun e => by
        rw [e, if_neg Bool.false_ne_true, List.append_nil] at hstep
        exact ⟨acc, g, tb, hacc, by rw [hstep]; exact hrv⟩
      refine ite2 (fun h1 => ?_) (fun h1 => ?_)
      · rw [h1, Bool.true_and] at stay hstep
        refine ⟨_, rfl, .inr (.inl ⟨ty, _, _, .int bg, rfl, rfl, hq, atI_nat (j := 1) rfl, _, rfl, _, _, rfl, rfl, _, rfl, ?_⟩)⟩
        refine ite2 (fun h2 => ?_) (fun h2 => ?_)
        · have h2' : decide (bg ≤ u) = true := h2
          rw [h2', Bool.true_and] at stay hstep
          refine ⟨_, rfl, _, rfl, .inr (.inl ⟨ty, _, _, .int en, rfl, rfl, hq, atI_nat (j := 2) rfl, _, _, rfl, rfl, _, rfl, ?_⟩)⟩
          refine ite2 (fun h3 => ?_) (fun h3 => ?_)
          · have h3' : decide (u < en) = true := h3
            rw [h3', if_pos rfl] at hstep
            refine ⟨_, rfl, acc, hacc, small1000 (by omega), acc ++ [.ref ty], g.poke hD gD, tb.upd hDP, upd_same, ?_⟩
            rw [hstep]
            exact paired_snoc hrv ⟨ty, rfl, hty⟩
          · exact stay (Bool.eq_false_iff.mpr h3)
        · have h2' : decide (bg ≤ u) = false := Bool.eq_false_iff.mpr h2
          rw [h2', Bool.false_and] at stay
          exact iteF (stay rfl)
      · rw [Bool.eq_false_iff.mpr h1, Bool.false_and] at stay
        exact stay rfl
    · rintro H' ⟨acc, g, tb, hacc, hrv⟩
      rw [List.take_of_length_le (by omega)] at hrv
      exact q D acc H' hD g hacc hrv tb
def spLTwo (K : PySem.W.Frag) (Ps : List Addr) (F : List (List Int) → Int → Int → Int) : Sp := fun vs H Q _ => ∃ (G : Hp) (t : Addr) (h : Int) (ra da sa : Addr) (rs ds ss : List (List Int)) (r u : Int), vs = [.ref t, .int r, .int u] ∧ Wd Ps G H ∧ Tabs Ps H ∧ RowsAt K G t h ra da sa rs ds ss ∧ Wide 5 ss ∧ ss.length ≤ 20 ∧ (∀ s ∈ ss, 0 ≤ s.getD 4 0) ∧
  ∀ H', Gr Ps G H G H' → Tabs Ps H' → Q (.int (F ss r u)) H'
theorem use_here (ss : List (List Int)) (r u : Int) : useOf ss r u = ((ss.filter (inHere r u)).map fun z => z.getD 3 0).sum := by
  unfold useOf wantsOf
  rw [List.map_map]
  rfl
theorem least_here (ss : List (List Int)) (r u : Int) : leastOf ss r u = ((ss.filter (inHere r u)).map fun z => z.getD 4 0).foldl max 0 := by
  unfold leastOf wantsOf
  rw [List.map_map]
  rfl
theorem foldl_max_eq : ∀ (l : List Int) (a m : Int), m ∈ a :: l → (∀ y, y ∈ a :: l → y ≤ m) → l.foldl max a = m
  | [], a, m, hm, _ => by simp at hm; exact hm.symm
  | x :: l, a, m, hm, h => by
    rw [List.foldl_cons]
    have ha := h a (by simp)
    have hx := h x (by simp)
    refine foldl_max_eq l (max a x) m ?_ fun y hy => ?_
    · rcases List.mem_cons.mp hm with e | hm
      · rw [show max a x = m by omega]; exact List.mem_cons_self
      rcases List.mem_cons.mp hm with e | hm
      · rw [show max a x = m by omega]; exact List.mem_cons_self
      · exact List.mem_cons_of_mem _ hm
    · rcases List.mem_cons.mp hy with e | hy
      · omega
      · exact h y (List.mem_cons_of_mem _ (List.mem_cons_of_mem _ hy))
theorem c_luse (T : RawU K mg) : C8.Cal P w K mg base 2 "_law_use" (spLTwo K Ps useOf) [] := by
  refine T.luse.cal sc_law_use (fun vs H Q E h => ?_) (fun f cdv A outer s H vs Q E hr h => ?_)
  · obtain ⟨G, t, h, ra, da, sa, rs, ds, ss, r, u, rfl, _⟩ := h
    rfl
  · obtain ⟨G, t, h, ra, da, sa, rs, ds, ss, r, u, rfl, wd, tbs, hR, w5, l20, pos, q⟩ := h
    have b_sum := T.b_sum
    have k__law_here : C8.Cal P w K mg base 1 "_law_here" (spLHere K Ps) [] := c_lhere T
    refine ⟨_, (pss_one (ps_ret (pe_callB (cr_sum rfl) (by rfl) b_sum (by decide +kernel) (pa_cons (pe_lc (own := [("_law_stay_here", 3)]) rfl sc_law_use.nd (pi_list (C8.pe_c k__law_here hr (by decide) rfl (pa_cons (pv 0) (pa_cons (pv 1) (pa_cons (pv 2) pa_nil))))) (blkOk_by (own := [("_law_stay_here", 3)]) (N := n_law_use) (sc := defScope s_law_use) (by decide +kernel)) (fun _ _ _ _ _ => (pg_name (i := 3) sc_law_use.nd rfl (Or.inl rfl) (Or.inr rfl))) (fun _ _ _ _ _ => pts_nil) (fun _ _ _ _ _ => (pe_ix (ix_seqK (K := K) rfl) (pv 3 rfl (Or.inl rfl)) pe_int (fun _ _ => rfl)))) pa_nil)))), ?_⟩
    refine ⟨_, rfl, _, rfl, _, rfl, G, t, h, ra, da, sa, rs, ds, ss, r, u, rfl, wd, tbs, hR, w5, l20, fun l xs H1 hl g1 hxs hrv t1 => ⟨l, rfl, ⟨xs, SqL.of hxs⟩, fun D hD => ?_⟩⟩
    have hDP := t1.nin hD
    have nlD : l ≠ D := ne_of_none hxs hD
    have hlen : xs.length = (ss.filter (inHere r u)).length := Paired.length hrv
    have hln : xs.length < 32 := by
      have := here_len ss r u
      omega
    refine lc_list (K := K) (a := l) (xs := xs) (fun i H' => Gr Ps G H G H' ∧ Tabs Ps H' ∧ H' l = some (.lst xs) ∧ H' D = some (.lst (((ss.filter (inHere r u)).take i).map fun z => V.int (z.getD 3 0))))
      ⟨g1.trans (Gr.new g1.wd hD), t1.upd hDP, by rw [upd_ne nlD]; exact hxs, upd_same⟩ (fun i H' _ ⟨_, _, e, _⟩ => SqL.of e) ?_ ?_
    · rintro i y H' hy ⟨g, tb, hl', hacc⟩
      obtain ⟨z, ez, ty, rfl, hty⟩ := paired_get hrv hy
      obtain ⟨pl, bg, en, us, nd, rfl⟩ := len5 (w5 z ((List.mem_filter.mp (List.mem_of_getElem? ez)).1))
      have hi : i < xs.length := (List.getElem?_eq_some_iff.mp hy).1
      refine ⟨(by (repeat rw [wipe_set (by decide)]); exact wipe_wipe _ _), ?_⟩
      refine ⟨_, rfl, .inr (.inl ⟨ty, _, _, .int us, rfl, rfl, Same.tup g.wd.same hty, atI_nat (j := 3) rfl, ?_⟩)⟩
      refine ⟨_, hacc, small1000 (by rw [List.length_map, List.length_take]; omega), g.poke (g1.free' hD) (g1.wd.free hD), tb.upd hDP, by rw [upd_ne nlD.symm.symm]; exact hl', ?_⟩
      rw [upd_same, map_take_succ _ ez]
      rfl
    · rintro H' ⟨g, tb, hl', hacc⟩
      rw [List.take_of_length_le (by omega)] at hacc
      refine ⟨D, (ss.filter (inHere r u)).map fun z => z.getD 3 0, rfl, SqL.of (by rw [hacc, List.map_map]; rfl), ?_⟩
      rw [← use_here]
      exact q H' g tb
theorem c_lleast (T : RawU K mg) : C8.Cal P w K mg base 2 "_law_least" (spLTwo K Ps leastOf) [] := by
  refine T.lleast.cal sc_law_least (fun vs H Q E h => ?_) (fun f cdv A outer s H vs Q E hr h => ?_)
  · obtain ⟨G, t, h, ra, da, sa, rs, ds, ss, r, u, rfl, _⟩ := h
    rfl
  · obtain ⟨G, t, h, ra, da, sa, rs, ds, ss, r, u, rfl, wd, tbs, hR, w5, l20, pos, q⟩ := h
    have b_max := T.b_max
    have k__law_here : C8.Cal P w K mg base 1 "_law_here" (spLHere K Ps) [] := c_lhere T
    refine ⟨_, (pss_one (ps_ret (pe_callB (cr_max rfl) (by rfl) b_max (by decide +kernel) (pa_cons (pe_op op_cat (pe_lst (pa_cons pe_int pa_nil)) (pe_lc (own := [("_law_stay_here", 3)]) rfl sc_law_least.nd (pi_list (C8.pe_c k__law_here hr (by decide) rfl (pa_cons (pv 0) (pa_cons (pv 1) (pa_cons (pv 2) pa_nil))))) (blkOk_by (own := [("_law_stay_here", 3)]) (N := n_law_least) (sc := defScope s_law_least) (by decide +kernel)) (fun _ _ _ _ _ => (pg_name (i := 3) sc_law_least.nd rfl (Or.inl rfl) (Or.inr rfl))) (fun _ _ _ _ _ => pts_nil) (fun _ _ _ _ _ => (pe_ix (ix_seqK (K := K) rfl) (pv 3 rfl (Or.inl rfl)) pe_int (fun _ _ => rfl))))) pa_nil)))), ?_⟩
    refine ⟨by show 1 ≤ sizeLine; decide, fun p hp => ?_⟩
    have gp := Gr.new (o := .lst [.int 0]) wd hp
    have tp := tbs.same (same_new (o := .lst [.int 0]) hp)
    refine ⟨_, rfl, _, rfl, _, rfl, G, t, h, ra, da, sa, rs, ds, ss, r, u, rfl, gp.wd, tp, hR, w5, l20, fun l xs H1 hl g1 hxs hrv t1 => ⟨l, rfl, ⟨xs, SqL.of hxs⟩, fun D hD => ?_⟩⟩
    have hp1 : H1 p = some (.lst [.int 0]) := g1.keep _ _ (wd.nin hp) upd_same
    have hDP := t1.nin hD
    have nlD : l ≠ D := ne_of_none hxs hD
    have npD : p ≠ D := ne_of_none hp1 hD
    have hlen : xs.length = (ss.filter (inHere r u)).length := Paired.length hrv
    have hln : xs.length < 32 := by
      have := here_len ss r u
      omega
    have hDn : H D = none := gp.free' (g1.free' hD)
    refine lc_list (K := K) (a := l) (xs := xs) (fun i H' => Gr Ps G H G H' ∧ Tabs Ps H' ∧ H' l = some (.lst xs) ∧ H' p = some (.lst [.int 0]) ∧ H' D = some (.lst (((ss.filter (inHere r u)).take i).map fun z => V.int (z.getD 4 0))))
      ⟨(gp.trans g1).trans (Gr.new g1.wd hD), t1.upd hDP, by rw [upd_ne nlD]; exact hxs, by rw [upd_ne npD]; exact hp1, upd_same⟩ (fun i H' _ ⟨_, _, e, _⟩ => SqL.of e) ?_ ?_
    · rintro i y H' hy ⟨g, tb, hl', hp', hacc⟩
      obtain ⟨z, ez, ty, rfl, hty⟩ := paired_get hrv hy
      obtain ⟨pl, bg, en, us, nd, rfl⟩ := len5 (w5 z (List.mem_filter.mp (List.mem_of_getElem? ez)).1)
      have hi : i < xs.length := (List.getElem?_eq_some_iff.mp hy).1
      refine ⟨(by (repeat rw [wipe_set (by decide)]); exact wipe_wipe _ _), ?_⟩
      refine ⟨_, rfl, .inr (.inl ⟨ty, _, _, .int nd, rfl, rfl, Same.tup g.wd.same hty, atI_nat (j := 4) rfl, ?_⟩)⟩
      refine ⟨_, hacc, small1000 (by rw [List.length_map, List.length_take]; omega), g.poke hDn (wd.free hDn), tb.upd hDP, by rw [upd_ne nlD]; exact hl', by rw [upd_ne npD]; exact hp', ?_⟩
      rw [upd_same, map_take_succ _ ez]
      rfl
    · rintro H' ⟨g, tb, hl', hp', hacc⟩
      rw [List.take_of_length_le (by omega)] at hacc
      refine ⟨p, D, _, _, rfl, rfl, hp', hacc, by show 1 + _ ≤ _; rw [List.length_map]; exact Nat.le_trans (show _ ≤ 1000 by omega) (by decide), fun m hm => ?_⟩
      refine ⟨m, 0 :: (ss.filter (inHere r u)).map fun z => z.getD 4 0, rfl, SqL.of (by rw [upd_same, List.map_cons, List.map_map]; rfl), by simp, fun mx h1 h2 => ?_⟩
      rw [← foldl_max_eq _ _ _ h1 h2, ← least_here]
      exact q _ (g.trans (Gr.new g.wd hm)) (tb.same (same_new hm))
end
end Cr
set_option Elab.async false
set_option linter.all false
set_option maxRecDepth 100000
set_option maxHeartbeats 4000000

namespace Cr
open PySem PySem.Spec PyProof.Rows L2
abbrev s_law_made : Stmt := top 29
abbrev n_law_made : List Str := ["_law_rows"]
abbrev a_law_made : List Str := ["_law_rows"]
theorem sc_law_made : FnScope n_law_made a_law_made (defScope s_law_made) := ⟨rfl, rfl, rfl, by decide +kernel, rfl, by decide +kernel, by decide +kernel⟩
section
variable {Ps : List Addr} {G H : Hp} {x dx : Addr} {o1 o2 : HO}
theorem new_wd (wd : Wd Ps G H) (hx : H x = none) (hdx : H dx = none) (hne : dx ≠ x) : Same H (upd (upd H dx o1) x o2) ∧ Wd (x :: Ps) G (upd (upd H dx o1) x o2) := by
  have s2 : Same H (upd (upd H dx o1) x o2) := (same_new hdx).trans (same_new (by rw [upd_ne hne.symm]; exact hx))
  have g2 := Gr.skip wd s2
  refine ⟨s2, g2.wd.same, fun c hc => ?_, fun c hc => ?_⟩
  · rcases List.mem_cons.mp hc with rfl | hc
    · exact wd.free hx
    · exact wd.off c hc
  · rcases List.mem_cons.mp hc with rfl | hc
    · rw [upd_same]; exact fun z => nomatch z
    · exact g2.wd.on c hc
end
section
variable {P : Program} {w : World} {K : PySem.W.Frag} {mg : Str → Option Value} {base : Heap} {ad : Ad} {Ps : List Addr} {H : Hp}
structure RawM (K : PySem.W.Frag) (mg : Str → Option Value) (base : Heap) (ad : Ad) : Prop extends RawH K mg, RawP K mg base ad where
  made : DefR K mg "_law_made" s_law_made a_law_made
def spMade (ad : Ad) (K : PySem.W.Frag) (Ps : List Addr) : Sp := fun vs H Q _ => ∃ (G : Hp) (t : Addr) (h : Int) (ra da sa : Addr) (rs ds ss : List (List Int)), vs = [.ref t] ∧ Wd Ps G H ∧ Tabs Ps H ∧ RowsAt K G t h ra da sa rs ds ss ∧ GoodH h rs ds ss ∧
  ∀ x G' H', Gr Ps G H G' H' → Tabs Ps H' → HouseAt ad K G' x h rs ds ss → Q (.ref x) H'
theorem c_made (T : RawM K mg base ad) (hP : ad.tNum ∈ Ps) : C8.Cal P w K mg base 6 "_law_made" (spMade ad K Ps) [] := by
  refine T.made.cal sc_law_made (fun vs H Q E h => ?_) (fun f cdv A outer s H vs Q E hr h => ?_)
  · obtain ⟨G, t, h, ra, da, sa, rs, ds, ss, rfl, _⟩ := h
    rfl
  · obtain ⟨G, t, h, ra, da, sa, rs, ds, ss, rfl, wd, tbs, hR, hG, q⟩ := h
    have b_list := T.b_list
    have k_House : MakX P w K mg base 4 "House" ad.cH (spHi ad K Ps) := mk_house T.toRawP hP
    refine ⟨_, (pss_one (ps_ret (pe_mx0 k_House hr (by decide)  rfl (pa_cons (pe_ix ix_seq (pv 0) pe_int (fun _ _ => rfl)) (pa_cons (pe_callTy call_list_of (by rfl) b_list (by decide +kernel) (pa_cons (pe_ix ix_seq (pv 0) pe_int (fun _ _ => rfl)) pa_nil)) (pa_cons (pe_callTy call_list_of (by rfl) b_list (by decide +kernel) (pa_cons (pe_ix ix_seq (pv 0) pe_int (fun _ _ => rfl)) pa_nil)) (pa_cons (pe_callTy call_list_of (by rfl) b_list (by decide +kernel) (pa_cons (pe_ix ix_seq (pv 0) pe_int (fun _ _ => rfl)) pa_nil)) pa_nil))))))), ?_⟩
    obtain ⟨xr, er, vr⟩ := id hR.r
    obtain ⟨xd, ed, vd⟩ := id hR.d
    obtain ⟨xs, es, vs⟩ := id hR.s
    refine ⟨_, rfl, .inr (.inl ⟨t, _, _, .int h, rfl, rfl, Same.tup wd.same hR.t, atI_nat (j := 0) rfl, ?_⟩)⟩
    refine ⟨_, rfl, .inr (.inl ⟨t, _, _, .ref ra, rfl, rfl, Same.tup wd.same hR.t, atI_nat (j := 1) rfl, ra, xr, rfl, .inl (SqL.of (wd.same _ _ er)), fun pa hpa => ?_⟩)⟩
    have g1 := Gr.alloc (o := .lst xr) wd hpa
    refine ⟨_, rfl, .inr (.inl ⟨t, _, _, .ref da, rfl, rfl, Same.tup (g1.up.trans g1.wd.same) hR.t, atI_nat (j := 2) rfl, da, xd, rfl, .inl (SqL.of ((g1.up.trans g1.wd.same) _ _ ed)), fun pb hpb => ?_⟩)⟩
    have g2 := g1.trans (Gr.alloc (o := .lst xd) g1.wd hpb)
    refine ⟨_, rfl, .inr (.inl ⟨t, _, _, .ref sa, rfl, rfl, Same.tup (g2.up.trans g2.wd.same) hR.t, atI_nat (j := 3) rfl, sa, xs, rfl, .inl (SqL.of ((g2.up.trans g2.wd.same) _ _ es)), fun pc hpc => ?_⟩)⟩
    have sB := (Gr.alloc (o := .lst xd) g1.wd hpb).up
    have sC := (Gr.alloc (o := .lst xs) g2.wd hpc).up
    have g3 := g2.trans (Gr.alloc (o := .lst xs) g2.wd hpc)
    have t3 : Tabs Ps _ := ((tbs.same (same_new (o := .lst xr) hpa)).same (same_new (o := .lst xd) hpb)).same (same_new (o := .lst xs) hpc)
    refine fun x dx hx hdx hne => ?_
    obtain ⟨s2, wd2⟩ := new_wd (o1 := .own x) (o2 := .ins ad.cH dx []) g3.wd hx hdx hne
    have rowsA : Rows K (upd (upd (upd G pa (.lst xr)) pb (.lst xd)) pc (.lst xs)) pa rs := ⟨xr, SqL.of ((sB.trans sC) _ _ upd_same), rowsV_same g3.up vr⟩
    have rowsB : Rows K (upd (upd (upd G pa (.lst xr)) pb (.lst xd)) pc (.lst xs)) pb ds := ⟨xd, SqL.of (sC _ _ upd_same), rowsV_same g3.up vd⟩
    have rowsC : Rows K (upd (upd (upd G pa (.lst xr)) pb (.lst xd)) pc (.lst xs)) pc ss := ⟨xs, SqL.of upd_same, rowsV_same g3.up vs⟩
    refine ⟨_, x, dx, h, pa, pb, pc, rs, ds, ss, rfl, wd2, t3.same s2, t3.nin hx, upd_same, rowsA, rowsB, rowsC, hG.w4, hG.w3, hG.w5, fun _ G6 H6 a' b' c' _ _ _ g6 t6 hx6 r1 r2 r3 => ⟨rfl, ?_⟩, fun z e => by rw [hG.bad] at e; cases e⟩
    have g7 := g3.trans (g6.made g3.wd hx s2 hx6)
    have sx := same_new (o := .ins ad.cH dx (hf h a' b' c')) (g6.wd.off x List.mem_cons_self)
    exact q x _ H6 g7 t6 ⟨⟨dx, a', b', c', upd_same, r1.same sx, r2.same sx, r3.same sx⟩, hG.bad, hG.w4, hG.w3, hG.w5⟩
end
end Cr
set_option Elab.async false
set_option linter.all false
set_option maxRecDepth 100000
set_option maxHeartbeats 4000000
/-! Slices, joins behind an if -/
namespace Cr
open PySem PySem.Spec PyProof.Rows L2
theorem Gr.down {Fs : List Addr} {G H G1 H1 : Hp} (g : Gr Fs G H G1 H1) (w : Wd Fs G H) : Gr Fs G H G H1 := ⟨Same.refl _, ⟨g.up.trans g.wd.same, w.off, g.wd.on⟩, g.keep, fun _ e _ => e⟩
theorem lcG {J : It} {n : Nat} {Gd : Hp → Prop} {Y : Nat → Hp → V → Hp → Prop} {B : V → Hp → (Hp → Prop) → Prop} {H0 : Hp} {Qd : Hp → Prop} (w : Walk J n Gd Y) (Pv : Nat → Hp → Prop) (h0 : Pv 0 H0) (hG : ∀ i H, i ≤ n → Pv i H → Gd H)
    (hs : ∀ i x H H', i < n → Pv i H → Y i H x H' → B x H' (Pv (i + 1))) (hd : ∀ H, Pv n H → Qd H) :
    ∃ W : Nat → Nat → Hp → Prop, (∃ m, W 0 m H0) ∧ ∀ i m H, W i m H → (J.stop i H ∧ Qd H) ∨ (J.go i H ∧ ∃ Nx : Hp → Prop, (∀ H', Nx H' → ∃ m', m' < m ∧ W (i + 1) m' H') ∧ ∀ x H', J.yld i H x H' → B x H' Nx) := by
  refine ⟨fun i m H => m = n - i ∧ i ≤ n ∧ Pv i H, ⟨n, by simp, Nat.zero_le _, h0⟩, ?_⟩
  rintro i m H ⟨rfl, hi, p⟩
  have q := hG i H hi p
  by_cases hlt : i < n
  · exact .inr ⟨w.goes i H hlt q, Pv (i + 1), fun H' p' => ⟨n - (i + 1), by omega, rfl, hlt, p'⟩, fun x H' y => hs i x H H' hlt p (w.yields i H x H' hlt q y)⟩
  · have e : i = n := by omega
    subst e
    exact .inl ⟨w.stops H q, hd H p⟩
theorem pi_zipK {X : Cx} {K : PySem.W.Frag} {e e2 : Expr} {ta : TA} {p pos tpos : Pos} {elts : List Expr} {kk : Nat} (hK : X.K = K) (hg : Gl X "zip") (hm : X.mg "zip" = none) (ha : PA X [e, e2] ta)
    (hs : starEach [e, e2] X.env = (false, eval e X.env) :: starEach [e2] X.env := by rfl) (hpl : (backTo pos (starEach [e2] X.env)).any (·.1) = false := by rfl) :
    PI X (.Tuple elts kk tpos) (.Call (.Name "zip" p) [e, e2] [] pos) (iZip K ta) := by
  subst hK
  exact pi_zip hg hm ha hs hpl
theorem le1000 {n : Nat} (h : n ≤ 1000) : n ≤ sizeLine := Nat.le_trans h (by rw [sizeLine_eq]; decide)
theorem cutTo (xs : List V) (k : Nat) : cutV xs none (some (k : Int)) = xs.take k := by
  unfold cutV
  rw [HT.sIx_none, HT.sIx_nat, List.drop_zero, Nat.sub_zero]
  by_cases h : k ≤ xs.length
  · rw [Nat.min_eq_left h]
  · rw [Nat.min_eq_right (by omega), List.take_of_length_le (Nat.le_refl _), List.take_of_length_le (by omega)]
theorem cutFrom (xs : List V) (k : Nat) : cutV xs (some ((k : Int) + 1)) none = xs.drop (k + 1) := by
  rw [show ((k : Int) + 1) = ((k + 1 : Nat) : Int) by omega]
  unfold cutV
  rw [HT.sIx_none, HT.sIx_nat]
  by_cases h : k + 1 ≤ xs.length
  · rw [Nat.min_eq_left h, List.take_of_length_le (by rw [List.length_drop]; omega)]
  · rw [Nat.min_eq_right (by omega), Nat.sub_self, List.take_zero, List.drop_of_length_le (by omega)]
/-- one item changed -/
theorem spliced {ns : List Int} {k : Nat} (x : Int) (h : k < ns.length) : ∃ ns' : List Int, ns'.length = ns.length ∧ (cutV (ns.map V.int) none (some (k : Int)) ++ [V.int x]) ++ cutV (ns.map V.int) (some ((k : Int) + 1)) none = ns'.map V.int := by
  refine ⟨(ns.take k ++ [x]) ++ ns.drop (k + 1), ?_, ?_⟩
  · rw [List.length_append, List.length_append, List.length_take, List.length_drop]
    show min k ns.length + 1 + _ = _
    omega
  · rw [cutTo, cutFrom, List.map_append, List.map_append, List.map_take, List.map_drop]
    rfl
theorem cut_small {xs : List V} {lo hi : Option Int} (h : xs.length < 32) : (cutV xs lo hi).length < 32 := Nat.lt_of_le_of_lt (cutV_length xs lo hi) h
theorem seq_ifS {c : TT} {t u rest : TS} {D : Ends} {σ : L2.St} {H : Hp} (Pv : L2.St → Hp → Prop) (hd : ∀ σ H, Pv σ H → rest D σ H) (h : ∀ κ : L2.St → Hp → Prop, (∀ σ H, Pv σ H → κ σ H) → tIfS c t u { D with nx := κ } σ H) : tSeq (tIfS c t u) rest D σ H := h (rest D) hd
def IntsL (K : PySem.W.Frag) (G : Hp) (v : V) (ns : List Int) : Prop := ∃ a, v = .ref a ∧ SqL K G a (ns.map V.int)
theorem ints_same {K : PySem.W.Frag} {G G' : Hp} (e : Same G G') : ∀ {xs : List V} {ls : List (List Int)}, Paired (IntsL K G) xs ls → Paired (IntsL K G') xs ls
  | _, _, .nil => .nil
  | _, _, .cons ⟨a, h1, h2⟩ r => .cons ⟨a, h1, e.seq h2⟩ (ints_same e r)
theorem seq_cut {t u : TS} {D : Ends} {σ : L2.St} {H : Hp} (Pv : L2.St → Hp → Prop) (hd : ∀ σ H, Pv σ H → u D σ H) (h : ∀ κ : L2.St → Hp → Prop, (∀ σ H, Pv σ H → κ σ H) → t { D with nx := κ } σ H) : tSeq t u D σ H := h (u D) hd
theorem u65 {k : Nat} {A : Around} (r : Room k A) : A.units + 65 < cLine := by have := r.un; omega
/-- a sum over the numbers below n -/
def sumTo (f : Nat → Int) : Nat → Int
  | 0 => 0
  | n + 1 => sumTo f n + f n
theorem sumTo_succ (f : Nat → Int) (n : Nat) : sumTo f (n + 1) = sumTo f n + f n := rfl
theorem sumTo_congr {f g : Nat → Int} : ∀ {n : Nat}, (∀ i, i < n → f i = g i) → sumTo f n = sumTo g n
  | 0, _ => rfl
  | n + 1, h => by rw [sumTo_succ, sumTo_succ, sumTo_congr fun i hi => h i (Nat.lt_succ_of_lt hi), h n (Nat.lt_succ_self n)]
theorem sumTo_add (f g : Nat → Int) : ∀ n : Nat, sumTo (fun i => f i + g i) n = sumTo f n + sumTo g n
  | 0 => rfl
  | n + 1 => by rw [sumTo_succ, sumTo_succ, sumTo_succ, sumTo_add f g n]; omega
theorem sumTo_sub (f g : Nat → Int) : ∀ n : Nat, sumTo (fun i => f i - g i) n = sumTo f n - sumTo g n
  | 0 => rfl
  | n + 1 => by rw [sumTo_succ, sumTo_succ, sumTo_succ, sumTo_sub f g n]; omega
theorem sumTo_zero : ∀ n : Nat, sumTo (fun _ => 0) n = 0
  | 0 => rfl
  | n + 1 => by rw [sumTo_succ, sumTo_zero n]; rfl
theorem max_if' (a b : Int) : (if b > a then b else a) = max a b := by
  by_cases h : b > a
  · rw [if_pos h]; omega
  · rw [if_neg h]; omega
theorem min_if' (a b : Int) : (if b < a then b else a) = min a b := by
  by_cases h : b < a
  · rw [if_pos h]; omega
  · rw [if_neg h]; omega
/-! ### prices: a list of lists of ints -/
def PricesA (K : PySem.W.Frag) (G : Hp) (a : Addr) (ps : List (List Int)) : Prop := ∃ xs, SqL K G a xs ∧ Paired (IntsL K G) xs ps
theorem PricesA.same {K : PySem.W.Frag} {G G' : Hp} {a : Addr} {ps : List (List Int)} (e : Same G G') (h : PricesA K G a ps) : PricesA K G' a ps := let ⟨xs, h1, h2⟩ := h; ⟨xs, e.seq h1, ints_same e h2⟩
/-- the price of room r in hour t, 0 where there is none -/
def pr (ps : List (List Int)) (r t : Nat) : Int := (ps.getD t []).getD r 0
def fitP (h : Int) (nr : Nat) (ps : List (List Int)) : Prop := (ps.length : Int) = h ∧ ∀ row ∈ ps, row.length = nr ∧ ∀ p ∈ row, -1000000 ≤ p ∧ p ≤ 1000000
theorem getD_out {α : Type} {l : List α} {i : Nat} {d : α} (h : l.length ≤ i) : l.getD i d = d := by
  rw [List.getD_eq_getElem?_getD, List.getElem?_eq_none h]
  rfl
theorem pr_out {ps : List (List Int)} {r t : Nat} (h : ps.length ≤ t) : pr ps r t = 0 := by
  unfold pr
  rw [getD_out h]
  rfl
theorem getD_at {α : Type} {l : List α} {i : Nat} {d : α} (h : i < l.length) : l.getD i d = l[i] := by
  rw [List.getD_eq_getElem?_getD, List.getElem?_eq_getElem h]
  rfl
theorem pr_in {h : Int} {nr : Nat} {ps : List (List Int)} (f : fitP h nr ps) {r t : Nat} : -1000000 ≤ pr ps r t ∧ pr ps r t ≤ 1000000 := by
  unfold pr
  by_cases ht : t < ps.length
  · rw [getD_at ht]
    by_cases hr : r < (ps[t]).length
    · rw [getD_at hr]
      exact (f.2 _ (List.getElem_mem ht)).2 _ (List.getElem_mem hr)
    · rw [getD_out (by omega)]
      decide
  · rw [show ps.getD t [] = [] from getD_out (by omega)]
    show -1000000 ≤ (0 : Int) ∧ (0 : Int) ≤ 1000000
    decide
/-- what stands at row t of prices -/
theorem pr_row {K : PySem.W.Frag} {G : Hp} {h : Int} {nr : Nat} {ps : List (List Int)} {xs : List V} (f : fitP h nr ps) (hp : Paired (IntsL K G) xs ps) {t : Nat} (ht : t < ps.length) :
    ∃ a, xs[t]? = some (.ref a) ∧ SqL K G a ((ps.getD t []).map V.int) ∧ (ps.getD t []).length = nr := by
  obtain ⟨v, hv, a, rfl, hs⟩ := paired_get' hp (List.getElem?_eq_getElem ht)
  rw [getD_at ht]
  exact ⟨a, hv, hs, (f.2 _ (List.getElem_mem ht)).1⟩
theorem ints_getD {ns : List Int} {k : Nat} (hk : k < ns.length) : atI (ns.map V.int) ((k : Nat) : Int) = some (.int (ns.getD k 0)) := by
  rw [getD_at hk]
  exact atI_nat (by rw [List.getElem?_map, List.getElem?_eq_getElem hk]; rfl)
/-- prices whose list is the heap's own -/
def PricesL (K : PySem.W.Frag) (G : Hp) (a : Addr) (ps : List (List Int)) : Prop := ∃ xs, G a = some (.lst xs) ∧ Paired (IntsL K G) xs ps
theorem PricesL.same {K : PySem.W.Frag} {G G' : Hp} {a : Addr} {ps : List (List Int)} (e : Same G G') (h : PricesL K G a ps) : PricesL K G' a ps := let ⟨xs, h1, h2⟩ := h; ⟨xs, e _ _ h1, ints_same e h2⟩
theorem PricesL.toA {K : PySem.W.Frag} {G : Hp} {a : Addr} {ps : List (List Int)} (h : PricesL K G a ps) : PricesA K G a ps := let ⟨xs, h1, h2⟩ := h; ⟨xs, SqL.of h1, h2⟩
end Cr
set_option Elab.async false
set_option linter.all false
set_option maxRecDepth 100000
set_option maxHeartbeats 4000000
/-! Equality and membership of rows, of lists of lists of ints -/
namespace Cr
open PySem PySem.Spec PyProof.Rows L2
abbrev lI (ns : List Int) : PyData := .list (ns.map .int)
abbrev dLL (ps : List (List Int)) : PyData := .list (ps.map lI)
theorem eqv_tI (a b : List Int) : PyData.eqv (tI a) (tI b) = decide (a = b) := by
  have := PySem.W.ked_eqvAll a b
  simp only [PyData.eqv]
  exact this
theorem eqv_lI (a b : List Int) : PyData.eqv (lI a) (lI b) = decide (a = b) := by
  have := PySem.W.ked_eqvAll a b
  simp only [PyData.eqv]
  exact this
theorem any_tI (rs : List (List Int)) (p : List Int) : ((rs.map tI).any fun z => PyData.eqv z (tI p)) = decide (p ∈ rs) := by
  induction rs with
  | nil => simp
  | cons r rs ih =>
    rw [List.map_cons, List.any_cons, ih, eqv_tI]
    by_cases h : r = p
    · simp [h]
    · simp [h, Ne.symm h]
theorem eqvAll_lI : ∀ a b : List (List Int), PyData.eqvAll (a.map lI) (b.map lI) = decide (a = b)
  | [], [] => rfl
  | [], b :: bs => rfl
  | a :: as, [] => rfl
  | a :: as, b :: bs => by
    rw [List.map_cons, List.map_cons]
    simp only [PyData.eqvAll]
    rw [eqv_lI, eqvAll_lI as bs]
    by_cases h : a = b <;> by_cases h2 : as = bs <;> simp [h, h2]
theorem eqv_dLL (a b : List (List Int)) : PyData.eqv (dLL a) (dLL b) = decide (a = b) := by
  have := eqvAll_lI a b
  simp only [PyData.eqv]
  exact this
theorem canAll_ints (ns : List Int) : PyData.canLayAll0 (ns.map PyData.int) = true := by
  induction ns with
  | nil => rfl
  | cons n r ih => simp only [List.map_cons, PyData.canLayAll0, PyData.canLay0, ih]; rfl
theorem canAll_tI (rs : List (List Int)) : PyData.canLayAll0 (rs.map tI) = true := by
  induction rs with
  | nil => rfl
  | cons r rs ih => simp only [List.map_cons, PyData.canLayAll0, PyData.canLay0, ih, canAll_ints]; rfl
theorem canAll_lI (rs : List (List Int)) : PyData.canLayAll0 (rs.map lI) = true := by
  induction rs with
  | nil => rfl
  | cons r rs ih => simp only [List.map_cons, PyData.canLayAll0, PyData.canLay0, ih, canAll_ints]; rfl
theorem depth_tI (rs : List (List Int)) : PyData.depthAll (rs.map tI) ≤ 3 := by
  induction rs with
  | nil => simp [PyData.depthAll]
  | cons r rs ih =>
    have := depth_ints r
    rw [List.map_cons]
    simp only [PyData.depthAll, PyData.depth]
    omega
theorem depth_lI (rs : List (List Int)) : PyData.depthAll (rs.map lI) ≤ 3 := by
  induction rs with
  | nil => simp [PyData.depthAll]
  | cons r rs ih =>
    have := depth_ints r
    rw [List.map_cons]
    simp only [PyData.depthAll, PyData.depth]
    omega
theorem shaped_tI (ns : List Int) : SeqAt.shaped (tI ns) = true := by
  unfold SeqAt.shaped
  rw [Bool.and_eq_true, decide_eq_true_eq]
  refine ⟨?_, ?_⟩
  · simp only [PyData.canLay0]
    exact canAll_ints ns
  · have := depth_ints ns
    simp only [PyData.depth]
    omega
theorem shaped_dI (rs : List (List Int)) : SeqAt.shaped (dI rs) = true := by
  unfold SeqAt.shaped
  rw [Bool.and_eq_true, decide_eq_true_eq]
  refine ⟨?_, ?_⟩
  · simp only [PyData.canLay0]
    exact canAll_tI rs
  · have := depth_tI rs
    simp only [PyData.depth]
    omega
theorem shaped_dLL (rs : List (List Int)) : SeqAt.shaped (dLL rs) = true := by
  unfold SeqAt.shaped
  rw [Bool.and_eq_true, decide_eq_true_eq]
  refine ⟨?_, ?_⟩
  · simp only [PyData.canLay0]
    exact canAll_lI rs
  · have := depth_lI rs
    simp only [PyData.depth]
    omega
theorem eqvAll_tI : ∀ a b : List (List Int), PyData.eqvAll (a.map tI) (b.map tI) = decide (a = b)
  | [], [] => rfl
  | [], b :: bs => rfl
  | a :: as, [] => rfl
  | a :: as, b :: bs => by
    rw [List.map_cons, List.map_cons]
    simp only [PyData.eqvAll]
    rw [eqv_tI, eqvAll_tI as bs]
    by_cases h : a = b <;> by_cases h2 : as = bs <;> simp [h, h2]
theorem eqv_dI (a b : List (List Int)) : PyData.eqv (dI a) (dI b) = decide (a = b) := by
  have := eqvAll_tI a b
  simp only [PyData.eqv]
  exact this
section
variable {K : PySem.W.Frag} {G : Hp}
theorem intsL_dp : ∀ {xs : List V} {ps : List (List Int)}, Paired (IntsL K G) xs ps → DpAll K G xs (ps.map lI)
  | _, _, .nil => .nil
  | _, _, .cons ⟨a, h1, h2⟩ r => .cons (by rw [h1]; exact .lst h2 (dpAll_ints _)) (intsL_dp r)
theorem PricesA.dp {a : Addr} {ps : List (List Int)} (h : PricesA K G a ps) : Dp K G (.ref a) (dLL ps) := by
  obtain ⟨xs, q, r⟩ := h
  exact .lst q (intsL_dp r)
end
end Cr
set_option Elab.async false
set_option linter.all false
set_option maxRecDepth 100000
set_option maxHeartbeats 4000000
/-! What a house that can be says of its numbers -/
namespace Cr
open PySem PySem.Spec PyProof.Rows L2
theorem firstNot_mem {ok : List Int → Bool} {rs : List (List Int)} (e : firstNot ok rs = none) {s : List Int} (hs : s ∈ rs) : ok s = true := by
  unfold firstNot at e
  have z := (List.findIdx?_eq_none_iff.mp e) s hs
  simpa using z
theorem houseBad_all {h : Int} {rs ds ss : List (List Int)} (e : houseBad h rs ds ss = none) :
    countBad h rs ds ss = none ∧ firstNot roomOk rs = none ∧ firstNot (doorOk rs.length) ds = none ∧ firstNot (stayOk h rs) ss = none := by
  unfold houseBad at e
  split at e
  · cases e
  rename_i e0
  refine ⟨e0, ?_⟩
  unfold partBad at e
  split at e
  · cases e
  rename_i e1
  split at e
  · cases e
  rename_i e2
  split at e
  · cases e
  rename_i e3
  exact ⟨e1, e2, e3⟩
theorem houseBad_room {h : Int} {rs ds ss : List (List Int)} (e : houseBad h rs ds ss = none) {s : List Int} (hs : s ∈ rs) : roomOk s = true := firstNot_mem (houseBad_all e).2.1 hs
theorem houseBad_door {h : Int} {rs ds ss : List (List Int)} (e : houseBad h rs ds ss = none) {s : List Int} (hs : s ∈ ds) : doorOk rs.length s = true := firstNot_mem (houseBad_all e).2.2.1 hs
theorem house_counts {h : Int} {rs ds ss : List (List Int)} (e : houseBad h rs ds ss = none) : (1 ≤ h ∧ h ≤ 12) ∧ (1 ≤ rs.length ∧ rs.length ≤ 6) ∧ ds.length ≤ 8 ∧ ss.length ≤ 20 := by
  have e0 := (houseBad_all e).1
  unfold countBad at e0
  split at e0
  · cases e0
  split at e0
  · cases e0
  split at e0
  · cases e0
  split at e0
  · cases e0
  rename_i h1 h2 h3 h4
  exact ⟨Decidable.not_not.mp h1, Decidable.not_not.mp h2, by omega, by omega⟩
theorem all_numOk {ns : List Int} (h : ns.all numOk = true) {n : Int} (hn : n ∈ ns) : 0 ≤ n ∧ n ≤ 999 := by
  have z := List.all_eq_true.mp h n hn
  unfold numOk at z
  simp at z
  exact z
theorem room_num {h : Int} {rs ds ss : List (List Int)} (e : houseBad h rs ds ss = none) (w : Wide 4 rs) {s : List Int} (hs : s ∈ rs) : ∃ a m l p, s = [a, m, l, p] ∧ (0 ≤ a ∧ a ≤ m ∧ m ≤ 999) ∧ (0 ≤ l ∧ l ≤ 999) ∧ 0 ≤ p ∧ p ≤ 999 := by
  obtain ⟨a, m, l, p, rfl⟩ := len4 (w s hs)
  have z := houseBad_room e hs
  replace z : (([a, m, l, p] : List Int).all numOk && decide (a ≤ m)) = true := z
  rw [Bool.and_eq_true] at z
  have n := fun x hx => all_numOk z.1 (n := x) hx
  exact ⟨a, m, l, p, rfl, ⟨(n a (by simp)).1, of_decide_eq_true z.2, (n m (by simp)).2⟩, n l (by simp), n p (by simp)⟩
theorem door_num {h : Int} {rs ds ss : List (List Int)} (e : houseBad h rs ds ss = none) (w : Wide 3 ds) {s : List Int} (hs : s ∈ ds) : ∃ (o t : Nat) (l : Int), s = [(o : Int), (t : Int), l] ∧ o < rs.length ∧ t < rs.length ∧ o ≠ t ∧ 0 ≤ l ∧ l ≤ 999 := by
  obtain ⟨o, t, l, rfl⟩ := len3 (w s hs)
  have z := houseBad_door e hs
  replace z : (([o, t, l] : List Int).all numOk && (!decide (o = t) && decide (max o t < (rs.length : Int)))) = true := z
  rw [Bool.and_eq_true, Bool.and_eq_true] at z
  have n := fun x hx => all_numOk z.1 (n := x) hx
  have z3 := of_decide_eq_true z.2.2
  have z2 : o ≠ t := by simpa using z.2.1
  have no := n o (by simp)
  have nt := n t (by simp)
  exact ⟨o.toNat, t.toNat, l, by rw [Int.toNat_of_nonneg no.1, Int.toNat_of_nonneg nt.1], by omega, by omega, by omega, n l (by simp)⟩
theorem stay_num {h : Int} {rs ds ss : List (List Int)} (e : houseBad h rs ds ss = none) (w : Wide 5 ss) {s : List Int} (hs : s ∈ ss) : ∃ (r b t : Nat) (u n : Int), s = [(r : Int), (b : Int), (t : Int), u, n] ∧ r < rs.length ∧ b < t ∧ (t : Int) ≤ h ∧ (0 ≤ u ∧ u ≤ 999) ∧ 0 ≤ n ∧ n ≤ mostOf rs r := by
  obtain ⟨r, b, t, u, n, rfl⟩ := len5 (w s hs)
  have z := firstNot_mem (houseBad_all e).2.2.2 hs
  replace z : (([r, b, t, u, n] : List Int).all numOk && (decide (r < (rs.length : Int)) && (decide (b < t) && decide (t ≤ h) && decide (n ≤ mostOf rs r)))) = true := z
  rw [Bool.and_eq_true, Bool.and_eq_true, Bool.and_eq_true, Bool.and_eq_true] at z
  have m := fun x hx => all_numOk z.1 (n := x) hx
  have mr := m r (by simp)
  have mb := m b (by simp)
  have mt := m t (by simp)
  have z2 := of_decide_eq_true z.2.1
  have z3 := of_decide_eq_true z.2.2.1.1
  have z4 := of_decide_eq_true z.2.2.1.2
  have z5 := of_decide_eq_true z.2.2.2
  exact ⟨r.toNat, b.toNat, t.toNat, u, n, by rw [Int.toNat_of_nonneg mr.1, Int.toNat_of_nonneg mb.1, Int.toNat_of_nonneg mt.1], by omega, by omega, by omega, m u (by simp), (m n (by simp)).1, by rw [Int.toNat_of_nonneg mr.1]; exact z5⟩
theorem room_num2 {h : Int} {rs ds ss : List (List Int)} {a m l p : Int} (e : houseBad h rs ds ss = none) (w : Wide 4 rs) (hs : [a, m, l, p] ∈ rs) : 0 ≤ p ∧ p ≤ 999 := by
  obtain ⟨a', m', l', p', e', _, _, h⟩ := room_num e w hs
  have : p = p' := by injection e' with _ e'; injection e' with _ e'; injection e' with _ e'; injection e'
  rw [this]; exact h
theorem doorOk_inv2 {n : Nat} {o t l : Int} (h : doorOk n [o, t, l] = true) : (0 ≤ o ∧ o ≤ 999) ∧ (0 ≤ t ∧ t ≤ 999) ∧ (0 ≤ l ∧ l ≤ 999) ∧ o ≠ t ∧ o < n ∧ t < n := by
  replace h : (([o, t, l] : List Int).all numOk && (!decide (o = t) && decide (max o t < (n : Int)))) = true := h
  rw [Bool.and_eq_true] at h
  obtain ⟨h1, h2⟩ := h
  have z := fun x hx => all_numOk h1 (n := x) hx
  simp at h2
  exact ⟨z o (by simp), z t (by simp), z l (by simp), h2.1, by omega, by omega⟩
end Cr
set_option Elab.async false
set_option linter.all false
set_option maxRecDepth 100000
set_option maxHeartbeats 4000000
/-! Bounds and lacks: the mathematics -/
namespace Cr
open PySem PySem.Spec PyProof.Rows L2
/-! ### the bound by prices -/
def roomPart (rs ss ps : List (List Int)) (t r : Nat) : Int :=
  pr ps r t * useOf ss r t - (rs.getD r []).getD 2 0 * max (pr ps r t - (rs.getD r []).getD 3 0) 0 + (pr ps r t - pr ps r (t + 1)) * (if pr ps r t - pr ps r (t + 1) > 0 then leastOf ss r t else (rs.getD r []).getD 1 0) - (if t = 0 then (rs.getD r []).getD 0 0 * pr ps r t else 0)
def doorPart (ds ps : List (List Int)) (t j : Nat) : Int := (ds.getD j []).getD 2 0 * (((pr ps ((ds.getD j []).getD 0 0).toNat t - pr ps ((ds.getD j []).getD 1 0).toNat t).natAbs : Nat) : Int)
def hourBound (rs ds ss ps : List (List Int)) (t : Nat) : Int := sumTo (roomPart rs ss ps t) rs.length - sumTo (doorPart ds ps t) ds.length
def boundOf (h : Nat) (rs ds ss ps : List (List Int)) : Int := sumTo (hourBound rs ds ss ps) h
theorem abs_if (n : Int) : (if n < 0 then -n else n) = ((n.natAbs : Nat) : Int) := by
  by_cases h : n < 0
  · rw [if_pos h]; omega
  · rw [if_neg h]; omega
theorem hf_nf (m : Str) (h : Int) (a b c : Addr) (h1 : ¬ m = "_stays") (h2 : ¬ m = "_doors") (h3 : ¬ m = "_rooms") (h4 : ¬ m = "hours") : (hf h a b c).lookup m = none := hf_no _ _ _ _ h1 h2 h3 h4
/-! ### what places lack -/
def inP (pls : List (List Int)) (t r : Int) : Bool := decide ([t, r] ∈ pls)
def placeDoor (ds pls : List (List Int)) (t r j : Nat) : Int :=
  (if (r : Int) = (ds.getD j []).getD 0 0 ∧ inP pls t ((ds.getD j []).getD 1 0) = false then (ds.getD j []).getD 2 0 else 0) + (if (r : Int) = (ds.getD j []).getD 1 0 ∧ inP pls t ((ds.getD j []).getD 0 0) = false then (ds.getD j []).getD 2 0 else 0)
def placePart (rs ds ss pls : List (List Int)) (t r : Nat) : Int :=
  useOf ss r t - (rs.getD r []).getD 2 0 + (if inP pls ((t : Int) + 1) r = true then 0 else leastOf ss r t) - (if t = 0 then (rs.getD r []).getD 0 0 else if inP pls ((t : Int) - 1) r = true then 0 else (rs.getD r []).getD 1 0) - sumTo (placeDoor ds pls t r) ds.length
def partAt (rs ds ss pls : List (List Int)) (p : List Int) : Int := placePart rs ds ss pls (p.getD 0 0).toNat (p.getD 1 0).toNat
def lackOf (rs ds ss pls : List (List Int)) : Int := (pls.map (partAt rs ds ss pls)).sum
def placesOk (h nr : Nat) (pls : List (List Int)) : Prop := ∀ p ∈ pls, ∃ t r : Nat, p = [(t : Int), (r : Int)] ∧ t < h ∧ r < nr
theorem inP_out {h nr : Nat} {pls : List (List Int)} (ok : placesOk h nr pls) (r : Int) : inP pls (h : Int) r = false := by
  unfold inP
  rw [decide_eq_false_iff_not]
  intro z
  obtain ⟨t, r', e, ht, _⟩ := ok _ z
  simp at e
  omega
theorem notIn_inP (pls : List (List Int)) (a b : Int) : (!((pls.map tI).any fun z => PyData.eqv z (tI [a, b]))) = !inP pls a b := by
  rw [any_tI]
  rfl
def isPl (h nr : Nat) (t r : Int) : Bool := (decide (0 ≤ t) && decide (t < (h : Int))) && (decide (0 ≤ r) && decide (r < (nr : Int)))
end Cr
set_option Elab.async false
set_option linter.all false
set_option maxRecDepth 100000
set_option maxHeartbeats 4000000

namespace Cr
open PySem PySem.Spec PyProof.Rows L2
abbrev sbound : Stmt := top 4
abbrev nbound : List Str := ["house", "prices", "total", "hour", "room", "one", "other", "limit"]
abbrev abound : List Str := ["house", "prices"]
theorem scbound : FnScope nbound abound (defScope sbound) := ⟨rfl, rfl, rfl, by decide +kernel, rfl, by decide +kernel, by decide +kernel⟩
abbrev s_room_bound : Stmt := top 6
abbrev n_room_bound : List Str := ["house", "prices", "room", "hour", "air", "most", "limit", "vent_price", "price", "part", "fall"]
abbrev a_room_bound : List Str := ["house", "prices", "room", "hour"]
theorem sc_room_bound : FnScope n_room_bound a_room_bound (defScope s_room_bound) := ⟨rfl, rfl, rfl, by decide +kernel, rfl, by decide +kernel, by decide +kernel⟩
abbrev s_price : Stmt := top 7
abbrev n_price : List Str := ["house", "prices", "room", "hour"]
abbrev a_price : List Str := ["house", "prices", "room", "hour"]
theorem sc_price : FnScope n_price a_price (defScope s_price) := ⟨rfl, rfl, rfl, by decide +kernel, rfl, by decide +kernel, by decide +kernel⟩
section
variable {P : Program} {w : World} {K : PySem.W.Frag} {mg : Str → Option Value} {base : Heap} {ad : Ad} {Ps : List Addr} {H : Hp}
structure RawPa (K : PySem.W.Frag) (mg : Str → Option Value) (base : Heap) (ad : Ad) : Prop extends RawP K mg base ad where
  bnd : DefR K mg "bound" sbound abound
  rbd : DefR K mg "_room_bound" s_room_bound a_room_bound
  prc : DefR K mg "_price" s_price a_price
  b_range : mg "range" = none
  b_min : mg "min" = none
  b_abs : mg "abs" = none
def spPrice (ad : Ad) (K : PySem.W.Frag) : Sp := fun vs H Q _ =>
  ∃ (G : Hp) (x pa : Addr) (h : Int) (rs ds ss ps : List (List Int)) (r t : Nat), vs = [.ref x, .ref pa, .int (r : Int), .int (t : Int)] ∧ Same G H ∧ HouseAt ad K G x h rs ds ss ∧ PricesA K G pa ps ∧ fitP h rs.length ps ∧ r < rs.length ∧ Q (.int (pr ps r t)) H
theorem c_price (T : RawPa K mg base ad) : C8.Cal P w K mg base 1 "_price" (spPrice ad K) [] := by
  refine T.prc.cal sc_price (fun vs H Q E h => ?_) (fun f cdv A outer s H vs Q E hr h => ?_)
  · obtain ⟨G, x, pa, h, rs, ds, ss, ps, r, t, rfl, _⟩ := h
    rfl
  · obtain ⟨G, x, pa, h, rs, ds, ss, ps, r, t, rfl, sm, hH, ⟨xs, hxs, hps⟩, hfit, hr', q⟩ := h
    have b_min := T.b_min
    have b_len := T.b_len
    refine ⟨_, (pss_cons (ps_if (PW.pt (pw_or (pt_cmpR op_ge (pv 3) (pe_callB (call_min2 rfl) (by rfl) b_min (by decide +kernel) (pa_cons (pe_fld (pv 0) rfl) (pa_cons (pe_callB call_len_seq (by rfl) b_len (by decide +kernel) (pa_cons (pv 1) pa_nil)) pa_nil))) (nomark _)) (pw_or1 (pt_cmpR op_ge (pv 2) (pe_callB call_len_seq (by rfl) b_len (by decide +kernel) (pa_cons (pe_ix ix_seq (pv 1) (pv 3) (fun _ _ => rfl)) pa_nil)) (nomark _)))))
        (pss_one (ps_ret pe_int))
        pss_nil)
      (pss_one (ps_ret (pe_ix ix_seq (pe_ix ix_seq (pv 1) (pv 3) (fun _ _ => rfl)) (pv 2) (fun _ _ => rfl))))), ?_⟩
    obtain ⟨dx, ra, da, sa, hx, _⟩ := hH.ob
    have hlen : xs.length = ps.length := Paired.length hps
    have hl := hfit.1
    refine ⟨_, rfl, _, rfl, x, ad.cH, dx, _, _, rfl, sm _ _ hx, T.hcl, T.hnh, hf_h _ _ _ _, _, rfl, pa, xs, rfl, .inl (sm.seq hxs), _, _, rfl, _, _, rfl, rfl, _, rfl, ?_⟩
    rw [min_if', show min h (xs.length : Int) = h by omega]
    by_cases ht : t < ps.length
    · rw [decide_eq_false (show ¬ (t : Int) ≥ h by omega)]
      obtain ⟨a, ha, hs, hal⟩ := pr_row hfit hps ht
      refine iteF ?_
      refine ⟨_, rfl, _, rfl, _, rfl, .inl ⟨pa, xs, _, .ref a, rfl, rfl, sm.seq hxs, atI_nat ha, a, _, rfl, .inl (sm.seq hs), _, _, rfl, rfl, _, rfl, ?_⟩⟩
      rw [decide_eq_false (show ¬ (r : Int) ≥ (((ps.getD t []).map V.int).length : Int) by rw [List.length_map]; omega)]
      refine iteF ?_
      refine ⟨_, rfl, _, rfl, .inl ⟨pa, xs, _, .ref a, rfl, rfl, sm.seq hxs, atI_nat ha, _, rfl, .inl ⟨a, _, _, _, rfl, rfl, sm.seq hs, ints_getD (by omega), ?_⟩⟩⟩
      exact q
    · rw [decide_eq_true (show (t : Int) ≥ h by omega)]
      refine iteT ?_
      rw [pr_out (by omega)] at q
      exact q
/-- the part of a room in an hour -/
def spRB (ad : Ad) (K : PySem.W.Frag) (Ps : List Addr) : Sp := fun vs H Q _ =>
  ∃ (G : Hp) (x pa : Addr) (h : Int) (rs ds ss ps : List (List Int)) (r t : Nat), vs = [.ref x, .ref pa, .int (r : Int), .int (t : Int)] ∧ Wd Ps G H ∧ Tabs Ps H ∧ HouseAt ad K G x h rs ds ss ∧ PricesA K G pa ps ∧ fitP h rs.length ps ∧ r < rs.length ∧
    ∀ H', Gr Ps G H G H' → Tabs Ps H' → Q (.int (roomPart rs ss ps t r)) H'
theorem c_rb (T : RawPa K mg base ad) : C8.Cal P w K mg base 3 "_room_bound" (spRB ad K Ps) [] := by
  refine T.rbd.cal sc_room_bound (fun vs H Q E h => ?_) (fun f cdv A outer s H vs Q E hr h => ?_)
  · obtain ⟨G, x, pa, h, rs, ds, ss, ps, r, t, rfl, _⟩ := h
    rfl
  · obtain ⟨G, x, pa, h, rs, ds, ss, ps, r, t, rfl, wd, tbs, hH, hPr, hfit, hr', q⟩ := h
    have b_max := T.b_max
    have k__price : C8.Cal P w K mg base 1 "_price" (spPrice ad K) [] := c_price T
    have k_House_rooms : C8.Met P w K mg base 1 ad.cH "rooms" (spNewRows ad K Ps fun _ rs _ _ => rs) [] := c_rooms T.toRawP
    have k_House_use : C8.Met P w K mg base 2 ad.cH "use" (spTwo ad K Ps useOf) [] := c_use T.toRawP
    have k_House_least : C8.Met P w K mg base 2 ad.cH "least" (spTwo ad K Ps leastOf) [] := c_least T.toRawP
    refine ⟨_, (pss_cons (ps_asg (pe_ix ix_seq (C8.pe_mt0 k_House_rooms hr (by decide) (pv 0)) (pv 2) (fun _ _ => rfl)) (pg_tup rfl (pgs_cons (pg_name (i := 4) sc_room_bound.nd rfl (Or.inl rfl)) (pgs_cons (pg_name (i := 5) sc_room_bound.nd rfl (Or.inl rfl)) (pgs_cons (pg_name (i := 6) sc_room_bound.nd rfl (Or.inl rfl)) (pgs_cons (pg_name (i := 7) sc_room_bound.nd rfl (Or.inl rfl)) pgs_nil))))))
      (pss_cons (ps_set (i := 8) sc_room_bound.nd rfl (Or.inl rfl) (C8.pe_c k__price hr (by decide) rfl (pa_cons (pv 0) (pa_cons (pv 1) (pa_cons (pv 2) (pa_cons (pv 3) pa_nil))))))
      (pss_cons (ps_set (i := 9) sc_room_bound.nd rfl (Or.inl rfl) (pe_op op_sub (pe_op op_mul (pv 8) (C8.pe_mt k_House_use hr (by decide) (pv 0) (pa_cons (pv 2) (pa_cons (pv 3) pa_nil)))) (pe_op op_mul (pv 6) (pe_callB (call_max2 rfl) (by rfl) b_max (by decide +kernel) (pa_cons (pe_op op_sub (pv 8) (pv 7)) (pa_cons pe_int pa_nil))))))
      (pss_cons (ps_set (i := 10) sc_room_bound.nd rfl (Or.inl rfl) (pe_op op_sub (pv 8) (C8.pe_c k__price hr (by decide) rfl (pa_cons (pv 0) (pa_cons (pv 1) (pa_cons (pv 2) (pa_cons (pe_op op_add (pv 3) pe_int) pa_nil)))))))
      (pss_cons (ps_aug (i := 9) sc_room_bound.nd rfl (Or.inl rfl) (pe_op op_mul (pv 10) (pe_ifExp (pt_cmpR op_gt (pv 10) pe_int (nomark _)) (C8.pe_mt k_House_least hr (by decide) (pv 0) (pa_cons (pv 2) (pa_cons (pv 3) pa_nil))) (pv 5))) ip_add)
      (pss_cons (ps_if (pt_cmpR op_eq (pv 3) pe_int (nomark _))
        (pss_one (ps_aug (i := 9) sc_room_bound.nd rfl (Or.inl rfl) (pe_op op_mul (pv 4) (pv 8)) ip_sub))
        pss_nil)
      (pss_one (ps_ret (pv 9))))))))), ?_⟩
    obtain ⟨dx, ra, da, sa, hx, _⟩ := hH.ob
    have nf : ∀ m : Str, ¬ m = "_stays" → ¬ m = "_doors" → ¬ m = "_rooms" → ¬ m = "hours" → (hf h ra da sa).lookup m = none := fun m h1 h2 h3 h4 => hf_nf m _ _ _ _ h1 h2 h3 h4
    refine ⟨_, rfl, x, dx, _, rfl, wd.same _ _ hx, nf _ (by decide +kernel) (by decide +kernel) (by decide +kernel) (by decide +kernel), ?_⟩
    refine ⟨G, x, h, rs, ds, ss, rfl, wd, tbs, hH, fun p1 y1 H1 hp1 g1 e1 rv1 t1 => ?_⟩
    obtain ⟨v, hv, ty, rfl, hty⟩ := paired_get' rv1 (List.getElem?_eq_getElem hr')
    obtain ⟨air, most, lim, vp, ec, ⟨a0, am, m9⟩, ⟨l0, l9⟩, p0, p9⟩ := room_num hH.ok hH.w4 (List.getElem_mem hr')
    have eD : rs.getD r [] = [air, most, lim, vp] := (getD_at hr').trans ec
    rw [ec] at hty
    have hb := fun u => pr_in (r := r) (t := u) hfit
    refine ⟨_, rfl, .inl ⟨p1, y1, _, .ref ty, rfl, rfl, SqL.of e1, atI_nat hv, ty, _, rfl, Same.tup g1.wd.same hty, rfl, _, _, rfl, _, _, rfl, _, _, rfl, _, _, rfl, rfl, ?_⟩⟩
    refine ⟨_, rfl, _, rfl, _, rfl, _, rfl, G, x, pa, h, rs, ds, ss, ps, r, t, rfl, g1.wd.same, hH, hPr, hfit, hr', ?_⟩
    -- what is used, the vent
    refine ⟨_, rfl, _, rfl, x, dx, _, rfl, g1.wd.same _ _ hx, nf _ (by decide +kernel) (by decide +kernel) (by decide +kernel) (by decide +kernel), _, rfl, _, rfl, ?_⟩
    refine ⟨G, x, h, rs, ds, ss, _, _, rfl, g1.wd, t1, hH, fun G2 H2 g2 t2 => ?_⟩
    replace g2 := g1.trans (g2.down g1.wd)
    refine ⟨_, _, rfl, rfl, .inl ⟨by have := hb t; omega, by have := hb t; omega⟩, ?_⟩
    refine ⟨_, rfl, _, rfl, _, rfl, _, _, rfl, rfl, _, _, rfl, _, _, rfl, rfl, .inl ⟨by omega, by omega⟩, _, _, rfl, rfl, ?_⟩
    -- the fall
    refine ⟨_, rfl, _, rfl, _, rfl, _, rfl, _, rfl, _, _, rfl, rfl, ?_⟩
    refine ⟨G, x, pa, h, rs, ds, ss, ps, r, t + 1, rfl, g2.wd.same, hH, hPr, hfit, hr', ?_⟩
    refine ⟨_, _, rfl, rfl, ?_⟩
    rw [max_if']
    dsimp only
    refine seq_cut (fun σ H' => σ = [some (.ref x), some (.ref pa), some (.int (r : Int)), some (.int (t : Int)), some (.int air), some (.int most), some (.int lim), some (.int vp), some (.int (pr ps r t)), some (.int (pr ps r t * useOf ss r t - lim * max (pr ps r t - vp) 0 + (pr ps r t - pr ps r (t + 1)) * (if pr ps r t - pr ps r (t + 1) > 0 then leastOf ss r t else most))), some (.int (pr ps r t - pr ps r (t + 1)))] ∧ Gr Ps G H G H' ∧ Tabs Ps H') ?_ ?_
    · rintro σ H3 ⟨rfl, g3, t3⟩
      have fin : roomPart rs ss ps t r = pr ps r t * useOf ss r t - lim * max (pr ps r t - vp) 0 + (pr ps r t - pr ps r (t + 1)) * (if pr ps r t - pr ps r (t + 1) > 0 then leastOf ss r t else most) - (if t = 0 then air * pr ps r t else 0) := by
        unfold roomPart
        rw [eD]
        rfl
      have z := q H3 g3 t3
      rw [fin] at z
      refine ⟨_, rfl, rfl, _, rfl, ?_⟩
      by_cases h0 : t = 0
      · rw [decide_eq_true (show V.int (t : Int) = V.int 0 by rw [h0]; rfl)]
        rw [if_pos h0] at z
        refine iteT ?_
        refine ⟨_, rfl, _, rfl, _, rfl, _, _, rfl, rfl, .inl ⟨by omega, by omega⟩, _, _, rfl, rfl, ?_⟩
        exact ⟨_, rfl, z⟩
      · rw [decide_eq_false (show ¬ V.int (t : Int) = V.int 0 from fun e => h0 (by have := V.int.inj e; omega))]
        rw [if_neg h0, Int.sub_zero] at z
        refine iteF ?_
        exact ⟨_, rfl, z⟩
    · intro κ hκ
      refine ⟨_, rfl, _, rfl, _, rfl, _, _, rfl, rfl, _, rfl, ?_⟩
      have b0 := hb t
      have b1 := hb (t + 1)
      by_cases hf : pr ps r t - pr ps r (t + 1) > 0
      · rw [decide_eq_true hf]
        refine iteT ?_
        refine ⟨_, rfl, x, dx, _, rfl, g2.wd.same _ _ hx, nf _ (by decide +kernel) (by decide +kernel) (by decide +kernel) (by decide +kernel), _, rfl, _, rfl, ?_⟩
        refine ⟨G, x, h, rs, ds, ss, _, _, rfl, g2.wd, t2, hH, fun G3 H3 g3 t3 => ?_⟩
        refine ⟨_, _, rfl, rfl, .inl ⟨by omega, by omega⟩, _, _, rfl, rfl, ?_⟩
        refine hκ _ _ ⟨?_, g2.trans (g3.down g2.wd), t3⟩
        rw [if_pos hf]
        rfl
      · rw [decide_eq_false hf]
        refine iteF ?_
        refine ⟨_, rfl, _, _, rfl, rfl, .inl ⟨by omega, by omega⟩, _, _, rfl, rfl, ?_⟩
        refine hκ _ _ ⟨?_, g2, t2⟩
        rw [if_neg hf]
        rfl
def spBound (ad : Ad) (K : PySem.W.Frag) (Ps : List Addr) : Sp := fun vs H Q _ =>
  ∃ (G : Hp) (x pa : Addr) (h : Nat) (rs ds ss ps : List (List Int)), vs = [.ref x, .ref pa] ∧ Wd Ps G H ∧ Tabs Ps H ∧ HouseAt ad K G x (h : Int) rs ds ss ∧ PricesA K G pa ps ∧ fitP (h : Int) rs.length ps ∧
    ∀ H', Gr Ps G H G H' → Tabs Ps H' → Q (.int (boundOf h rs ds ss ps)) H'
theorem c_bound (T : RawPa K mg base ad) : C8.Cal P w K mg base 4 "bound" (spBound ad K Ps) [] := by
  refine T.bnd.cal scbound (fun vs H Q E h => ?_) (fun f cdv A outer s H vs Q E hr h => ?_)
  · obtain ⟨G, x, pa, h, rs, ds, ss, ps, rfl, _⟩ := h
    rfl
  · obtain ⟨G, x, pa, h, rs, ds, ss, ps, rfl, wd, tbs, hH, hPr, hfit, q⟩ := h
    have b_abs := T.b_abs
    have b_len := T.b_len
    have b_range := T.b_range
    have k__price : C8.Cal P w K mg base 1 "_price" (spPrice ad K) [] := c_price T
    have k__room_bound : C8.Cal P w K mg base 3 "_room_bound" (spRB ad K Ps) [] := c_rb T
    have k_House_rooms : C8.Met P w K mg base 1 ad.cH "rooms" (spNewRows ad K Ps fun _ rs _ _ => rs) [] := c_rooms T.toRawP
    have k_House_doors : C8.Met P w K mg base 1 ad.cH "doors" (spNewRows ad K Ps fun _ _ ds _ => ds) [] := c_doors T.toRawP
    refine ⟨_, (pss_cons (ps_set (i := 2) scbound.nd rfl (Or.inl rfl) pe_int)
      (pss_cons (ps_for PassesOwn.never rfl (pi_range1 (by rfl) b_range (pa_cons (pe_fld (pv 0) rfl) pa_nil)) (pg_name (i := 3) scbound.nd rfl (Or.inl rfl))
        (pss_cons (ps_for PassesOwn.never rfl (pi_range1 (by rfl) b_range (pa_cons (pe_callB call_len_seq (by rfl) b_len (by decide +kernel) (pa_cons (C8.pe_mt0 k_House_rooms hr (by decide) (pv 0)) pa_nil)) pa_nil)) (pg_name (i := 4) scbound.nd rfl (Or.inl rfl))
        (pss_one (ps_aug (i := 2) scbound.nd rfl (Or.inl rfl) (C8.pe_c k__room_bound hr (by decide) rfl (pa_cons (pv 0) (pa_cons (pv 1) (pa_cons (pv 4) (pa_cons (pv 3) pa_nil))))) ip_add)))
      (pss_one (ps_for PassesOwn.never rfl (pi_list (C8.pe_mt0 k_House_doors hr (by decide) (pv 0))) (pg_tup rfl (pgs_cons (pg_name (i := 5) scbound.nd rfl (Or.inl rfl)) (pgs_cons (pg_name (i := 6) scbound.nd rfl (Or.inl rfl)) (pgs_cons (pg_name (i := 7) scbound.nd rfl (Or.inl rfl)) pgs_nil))))
        (pss_one (ps_aug (i := 2) scbound.nd rfl (Or.inl rfl) (pe_op op_mul (pv 7) (pe_callB call_abs (by rfl) b_abs (by decide +kernel) (pa_cons (pe_op op_sub (C8.pe_c k__price hr (by decide) rfl (pa_cons (pv 0) (pa_cons (pv 1) (pa_cons (pv 5) (pa_cons (pv 3) pa_nil))))) (C8.pe_c k__price hr (by decide) rfl (pa_cons (pv 0) (pa_cons (pv 1) (pa_cons (pv 6) (pa_cons (pv 3) pa_nil)))))) pa_nil))) ip_sub))))))
      (pss_one (ps_ret (pv 2))))), ?_⟩
    obtain ⟨dx, ra, da, sa, hx, _⟩ := hH.ob
    have nf : ∀ m : Str, ¬ m = "_stays" → ¬ m = "_doors" → ¬ m = "_rooms" → ¬ m = "hours" → (hf h ra da sa).lookup m = none := fun m h1 h2 h3 h4 => hf_nf m _ _ _ _ h1 h2 h3 h4
    have hc := house_counts hH.ok
    have hb := fun r t => pr_in (r := r) (t := t) hfit
    refine ⟨_, rfl, x, ad.cH, dx, _, _, rfl, wd.same _ _ hx, T.hcl, T.hnh, hf_h _ _ _ _, ?_⟩
    refine ⟨(h : Int), rfl, by omega, by omega, ?_⟩
    refine for_range (lo := 0) (n := h) (fun i σ H' => ∃ (o3 o4 o5 o6 o7 : Option V), σ = [some (.ref x), some (.ref pa), some (.int (sumTo (hourBound rs ds ss ps) i)), o3, o4, o5, o6, o7] ∧ Gr Ps G H G H' ∧ Tabs Ps H') ⟨_, _, _, _, _, rfl, Gr.refl wd, tbs⟩ ?_ ?_
    · rintro t σ H1 ht ⟨o3, o4, o5, o6, o7, rfl, g1, t1⟩
      refine ⟨_, rfl, x, dx, _, rfl, g1.wd.same _ _ hx, nf _ (by decide +kernel) (by decide +kernel) (by decide +kernel) (by decide +kernel), ?_⟩
      refine ⟨G, x, h, rs, ds, ss, rfl, g1.wd, t1, hH, fun p2 y2 H2 hp2 g2 e2 rv2 t2 => ⟨p2, y2, rfl, .inl (SqL.of e2), ?_⟩⟩
      replace g2 := g1.trans g2
      have l2 : y2.length = rs.length := Paired.length rv2
      refine ⟨(y2.length : Int), rfl, by omega, by omega, ?_⟩
      refine for_range (lo := 0) (n := y2.length) (fun r σ H' => ∃ (o4 : Option V), σ = [some (.ref x), some (.ref pa), some (.int (sumTo (hourBound rs ds ss ps) t + sumTo (roomPart rs ss ps t) r)), some (.int (0 + (t : Int))), o4, o5, o6, o7] ∧ Gr Ps G H G H' ∧ Tabs Ps H') ⟨_, by rw [show sumTo (roomPart rs ss ps t) 0 = 0 from rfl, Int.add_zero]; rfl, g2, t2⟩ ?_ ?_
      · rintro r σ H3 hr3 ⟨o4, rfl, g3, t3⟩
        refine ⟨_, rfl, _, rfl, _, rfl, _, rfl, _, rfl, ?_⟩
        refine ⟨G, x, pa, h, rs, ds, ss, ps, r, t, by rw [Int.zero_add, Int.zero_add]; rfl, g3.wd, t3, hH, hPr, hfit, by omega, fun H4 g4 t4 => ?_⟩
        refine ⟨_, _, rfl, rfl, ?_⟩
        exact ⟨_, by rw [sumTo_succ, ← Int.add_assoc]; rfl, g3.trans g4, t4⟩
      · rintro σ H3 ⟨o4, rfl, g3, t3⟩
        refine ⟨_, rfl, x, dx, _, rfl, g3.wd.same _ _ hx, nf _ (by decide +kernel) (by decide +kernel) (by decide +kernel) (by decide +kernel), ?_⟩
        refine ⟨G, x, h, rs, ds, ss, rfl, g3.wd, t3, hH, fun p4 y4 H4 hp4 g4 e4 rv4 t4 => ?_⟩
        replace g4 := g3.trans g4
        have l4 : y4.length = ds.length := Paired.length rv4
        have p4P : p4 ∉ Ps := t3.nin hp4
        have gA : Gr Ps G H4 G H4 := Gr.refl g4.wd
        refine ⟨p4, rfl, ⟨y4, SqL.of e4⟩, for_list (K := K) (a := p4) (xs := y4) (fun j σ H' => ∃ (o5 o6 o7 : Option V), σ = [some (.ref x), some (.ref pa), some (.int (sumTo (hourBound rs ds ss ps) t + sumTo (roomPart rs ss ps t) rs.length - sumTo (doorPart ds ps t) j)), some (.int (0 + (t : Int))), o4, o5, o6, o7] ∧ Gr Ps G H4 G H' ∧ Tabs Ps H') ⟨_, _, _, by rw [show sumTo (doorPart ds ps t) 0 = 0 from rfl, Int.sub_zero, l2], gA, t4⟩ (fun j σ H' _ ⟨_, _, _, _, g, _⟩ => SqL.of (g.keep _ _ p4P e4)) ?_ ?_⟩
        · rintro j v σ H5 hv ⟨o5, o6, o7, rfl, g5, t5⟩
          obtain ⟨z, ez, ty, rfl, hty⟩ := paired_get rv4 hv
          obtain ⟨one, oth, lim, rfl, n1, n2, _, l0, l9⟩ := door_num hH.ok hH.w3 (List.mem_of_getElem? ez)
          have hjd : j < ds.length := (List.getElem?_eq_some_iff.mp ez).1
          have eD : ds.getD j [] = [(one : Int), (oth : Int), lim] := (getD_at hjd).trans (List.getElem?_eq_some_iff.mp ez).2
          refine ⟨ty, _, rfl, Same.tup g5.wd.same hty, rfl, _, _, rfl, _, _, rfl, _, _, rfl, rfl, ?_⟩
          refine ⟨_, rfl, _, rfl, _, rfl, _, rfl, _, rfl, _, rfl, ?_⟩
          refine ⟨G, x, pa, h, rs, ds, ss, ps, one, t, by rw [Int.zero_add]; rfl, g5.wd.same, hH, hPr, hfit, n1, ?_⟩
          refine ⟨_, rfl, _, rfl, _, rfl, _, rfl, ?_⟩
          refine ⟨G, x, pa, h, rs, ds, ss, ps, oth, t, by rw [Int.zero_add]; rfl, g5.wd.same, hH, hPr, hfit, n2, ?_⟩
          refine ⟨_, _, rfl, rfl, _, rfl, _, _, rfl, rfl, .inl ⟨by omega, by omega⟩, _, _, rfl, rfl, ?_⟩
          refine ⟨some (.int (one : Int)), some (.int (oth : Int)), some (.int lim), ?_, g5, t5⟩
          rw [sumTo_succ, abs_if, show doorPart ds ps t j = lim * (((pr ps one t - pr ps oth t).natAbs : Nat) : Int) by unfold doorPart; rw [eD]; rfl, show ∀ a b c : Int, a - (b + c) = a - b - c by omega]
          rfl
        · rintro σ H5 ⟨o5, o6, o7, rfl, g5, t5⟩
          rw [l4]
          refine ⟨some (.int (0 + (t : Int))), o4, o5, o6, o7, ?_, g4.trans g5, t5⟩
          rw [sumTo_succ]
          unfold hourBound
          rw [show ∀ a b c : Int, a + (b - c) = a + b - c by omega]
    · rintro σ H1 ⟨o3, o4, o5, o6, o7, rfl, g1, t1⟩
      exact ⟨_, rfl, q H1 g1 t1⟩
end
end Cr
set_option Elab.async false
set_option linter.all false
set_option maxRecDepth 100000
set_option maxHeartbeats 4000000

namespace Cr
open PySem PySem.Spec PyProof.Rows L2
abbrev slack : Stmt := top 5
abbrev nlack : List Str := ["house", "places", "hour", "room"]
abbrev alack : List Str := ["house", "places"]
theorem sclack : FnScope nlack alack (defScope slack) := ⟨rfl, rfl, rfl, by decide +kernel, rfl, by decide +kernel, by decide +kernel⟩
abbrev s_is_place : Stmt := top 8
abbrev n_is_place : List Str := ["house", "hour", "room"]
abbrev a_is_place : List Str := ["house", "hour", "room"]
theorem sc_is_place : FnScope n_is_place a_is_place (defScope s_is_place) := ⟨rfl, rfl, rfl, by decide +kernel, rfl, by decide +kernel, by decide +kernel⟩
abbrev s_place_lack : Stmt := top 9
abbrev n_place_lack : List Str := ["house", "places", "hour", "room", "air", "most", "limit", "_", "part", "one", "other", "door_limit"]
abbrev a_place_lack : List Str := ["house", "places", "hour", "room"]
theorem sc_place_lack : FnScope n_place_lack a_place_lack (defScope s_place_lack) := ⟨rfl, rfl, rfl, by decide +kernel, rfl, by decide +kernel, by decide +kernel⟩
section
variable {P : Program} {w : World} {K : PySem.W.Frag} {mg : Str → Option Value} {base : Heap} {ad : Ad} {Ps : List Addr} {H : Hp}
structure RawLk2 (K : PySem.W.Frag) (mg : Str → Option Value) (base : Heap) (ad : Ad) : Prop extends RawPa K mg base ad where
  lak : DefR K mg "lack" slack alack
  isp : DefR K mg "_is_place" s_is_place a_is_place
  pla : DefR K mg "_place_lack" s_place_lack a_place_lack
def spPL (ad : Ad) (K : PySem.W.Frag) (Ps : List Addr) : Sp := fun vs H Q _ =>
  ∃ (G : Hp) (x pa : Addr) (h : Nat) (rs ds ss pls : List (List Int)) (t r : Nat), vs = [.ref x, .ref pa, .int (t : Int), .int (r : Int)] ∧ Wd Ps G H ∧ Tabs Ps H ∧ HouseAt ad K G x (h : Int) rs ds ss ∧ Rows K G pa pls ∧ placesOk h rs.length pls ∧ t < h ∧ r < rs.length ∧
    ∀ H', Gr Ps G H G H' → Tabs Ps H' → Q (.int (placePart rs ds ss pls t r)) H'
theorem c_pl (T : RawLk2 K mg base ad) : C8.Cal P w K mg base 3 "_place_lack" (spPL ad K Ps) [] := by
  refine T.pla.cal sc_place_lack (fun vs H Q E h => ?_) (fun f cdv A outer s H vs Q E hr h => ?_)
  · obtain ⟨G, x, pa, h, rs, ds, ss, pls, t, r, rfl, _⟩ := h
    rfl
  · obtain ⟨G, x, pa, h, rs, ds, ss, pls, t, r, rfl, wd, tbs, hH, hPl, hok, ht, hr', q⟩ := h
    have k_House_rooms : C8.Met P w K mg base 1 ad.cH "rooms" (spNewRows ad K Ps fun _ rs _ _ => rs) [] := c_rooms T.toRawP
    have k_House_doors : C8.Met P w K mg base 1 ad.cH "doors" (spNewRows ad K Ps fun _ _ ds _ => ds) [] := c_doors T.toRawP
    have k_House_use : C8.Met P w K mg base 2 ad.cH "use" (spTwo ad K Ps useOf) [] := c_use T.toRawP
    have k_House_least : C8.Met P w K mg base 2 ad.cH "least" (spTwo ad K Ps leastOf) [] := c_least T.toRawP
    refine ⟨_, (pss_cons (ps_asg (pe_ix ix_seq (C8.pe_mt0 k_House_rooms hr (by decide) (pv 0)) (pv 3) (fun _ _ => rfl)) (pg_tup rfl (pgs_cons (pg_name (i := 4) sc_place_lack.nd rfl (Or.inl rfl)) (pgs_cons (pg_name (i := 5) sc_place_lack.nd rfl (Or.inl rfl)) (pgs_cons (pg_name (i := 6) sc_place_lack.nd rfl (Or.inl rfl)) (pgs_cons (pg_name (i := 7) sc_place_lack.nd rfl (Or.inl rfl)) pgs_nil))))))
      (pss_cons (ps_set (i := 8) sc_place_lack.nd rfl (Or.inl rfl) (pe_op op_sub (C8.pe_mt k_House_use hr (by decide) (pv 0) (pa_cons (pv 3) (pa_cons (pv 2) pa_nil))) (pv 6)))
      (pss_cons (ps_if (PW.pt (pw_or (pt_cmpR op_eq (pe_op op_add (pv 2) pe_int) (pe_fld (pv 0) rfl) (nomark _)) (pw_or1 (pt_cmpR (op_notInD (u65 hr)) (pe_tup (pa_cons (pe_op op_add (pv 2) pe_int) (pa_cons (pv 3) pa_nil))) (pv 1) (by rfl)))))
        (pss_one (ps_aug (i := 8) sc_place_lack.nd rfl (Or.inl rfl) (C8.pe_mt k_House_least hr (by decide) (pv 0) (pa_cons (pv 3) (pa_cons (pv 2) pa_nil))) ip_add))
        pss_nil)
      (pss_cons (ps_if (pt_cmpR op_eq (pv 2) pe_int (nomark _))
        (pss_one (ps_aug (i := 8) sc_place_lack.nd rfl (Or.inl rfl) (pv 4) ip_sub))
        (pss_one (ps_if (pt_cmpR (op_notInD (u65 hr)) (pe_tup (pa_cons (pe_op op_sub (pv 2) pe_int) (pa_cons (pv 3) pa_nil))) (pv 1) (by rfl))
        (pss_one (ps_aug (i := 8) sc_place_lack.nd rfl (Or.inl rfl) (pv 5) ip_sub))
        pss_nil)))
      (pss_cons (ps_for PassesOwn.never rfl (pi_list (C8.pe_mt0 k_House_doors hr (by decide) (pv 0))) (pg_tup rfl (pgs_cons (pg_name (i := 9) sc_place_lack.nd rfl (Or.inl rfl)) (pgs_cons (pg_name (i := 10) sc_place_lack.nd rfl (Or.inl rfl)) (pgs_cons (pg_name (i := 11) sc_place_lack.nd rfl (Or.inl rfl)) pgs_nil))))
        (pss_cons (ps_if (PW.pt (pw_and (pt_cmpR op_eq (pv 3) (pv 9) (nomark _)) (pw_and1 (pt_cmpR (op_notInD (u65 hr)) (pe_tup (pa_cons (pv 2) (pa_cons (pv 10) pa_nil))) (pv 1) (by rfl)))))
        (pss_one (ps_aug (i := 8) sc_place_lack.nd rfl (Or.inl rfl) (pv 11) ip_sub))
        pss_nil)
      (pss_one (ps_if (PW.pt (pw_and (pt_cmpR op_eq (pv 3) (pv 10) (nomark _)) (pw_and1 (pt_cmpR (op_notInD (u65 hr)) (pe_tup (pa_cons (pv 2) (pa_cons (pv 9) pa_nil))) (pv 1) (by rfl)))))
        (pss_one (ps_aug (i := 8) sc_place_lack.nd rfl (Or.inl rfl) (pv 11) ip_sub))
        pss_nil))))
      (pss_one (ps_ret (pv 8)))))))), ?_⟩
    obtain ⟨dx, ra, da, sa, hx, _⟩ := hH.ob
    have nf : ∀ m : Str, ¬ m = "_stays" → ¬ m = "_doors" → ¬ m = "_rooms" → ¬ m = "hours" → (hf h ra da sa).lookup m = none := fun m h1 h2 h3 h4 => hf_nf m _ _ _ _ h1 h2 h3 h4
    refine ⟨_, rfl, x, dx, _, rfl, wd.same _ _ hx, nf _ (by decide +kernel) (by decide +kernel) (by decide +kernel) (by decide +kernel), ?_⟩
    refine ⟨G, x, h, rs, ds, ss, rfl, wd, tbs, hH, fun p1 y1 H1 hp1 g1 e1 rv1 t1 => ?_⟩
    obtain ⟨v, hv, ty, rfl, hty⟩ := paired_get' rv1 (List.getElem?_eq_getElem hr')
    obtain ⟨air, most, lim, vp, ec, ⟨a0, am, m9⟩, ⟨l0, l9⟩, p0, p9⟩ := room_num hH.ok hH.w4 (List.getElem_mem hr')
    have eD : rs.getD r [] = [air, most, lim, vp] := (getD_at hr').trans ec
    rw [ec] at hty
    refine ⟨_, rfl, .inl ⟨p1, y1, _, .ref ty, rfl, rfl, SqL.of e1, atI_nat hv, ty, _, rfl, Same.tup g1.wd.same hty, rfl, _, _, rfl, _, _, rfl, _, _, rfl, _, _, rfl, rfl, ?_⟩⟩
    refine ⟨_, rfl, x, dx, _, rfl, g1.wd.same _ _ hx, nf _ (by decide +kernel) (by decide +kernel) (by decide +kernel) (by decide +kernel), _, rfl, _, rfl, ?_⟩
    refine ⟨G, x, h, rs, ds, ss, _, _, rfl, g1.wd, t1, hH, fun G2 H2 g2 t2 => ?_⟩
    replace g2 := g1.trans (g2.down g1.wd)
    refine ⟨_, rfl, _, _, rfl, rfl, ?_⟩
    dsimp only
    refine seq_cut (fun σ H' => σ = [some (.ref x), some (.ref pa), some (.int (t : Int)), some (.int (r : Int)), some (.int air), some (.int most), some (.int lim), some (.int vp), some (.int (useOf ss r t - lim + (if inP pls ((t : Int) + 1) r = true then 0 else leastOf ss r t))), none, none, none] ∧ Gr Ps G H G H' ∧ Tabs Ps H') ?_ ?_
    rotate_left
    · intro κ hκ
      refine ⟨_, rfl, _, _, rfl, rfl, _, rfl, x, ad.cH, dx, _, _, rfl, g2.wd.same _ _ hx, T.hcl, T.hnh, hf_h _ _ _ _, rfl, _, rfl, ?_⟩
      by_cases hth : t + 1 = h
      · rw [decide_eq_true (show V.int ((t : Int) + 1) = V.int (h : Int) by rw [← hth]; rfl)]
        refine iteT (iteT ?_)
        have e := inP_out hok r
        rw [show ((h : Nat) : Int) = (t : Int) + 1 by omega] at e
        refine ⟨_, rfl, _, rfl, x, dx, _, rfl, g2.wd.same _ _ hx, nf _ (by decide +kernel) (by decide +kernel) (by decide +kernel) (by decide +kernel), _, rfl, _, rfl, ?_⟩
        refine ⟨G, x, h, rs, ds, ss, _, _, rfl, g2.wd, t2, hH, fun G4 H4 g4 t4 => ⟨_, _, rfl, rfl, ?_⟩⟩
        refine hκ _ _ ⟨?_, g2.trans (g4.down g2.wd), t4⟩
        rw [if_neg (by rw [e]; exact Bool.false_ne_true)]
        rfl
      rw [decide_eq_false (show ¬ V.int ((t : Int) + 1) = V.int (h : Int) from fun e => hth (by have := V.int.inj e; omega))]
      refine iteF ?_
      refine ⟨_, rfl, _, _, rfl, rfl, _, rfl, by show 2 ≤ sizeLine; decide, fun p3 hp3 => ?_⟩
      have g3 := g2.trans (Gr.new (o := .tup [.int ((t : Int) + 1), .int (r : Int)]) g2.wd hp3)
      have t3 := t2.same (same_new (o := .tup [.int ((t : Int) + 1), .int (r : Int)]) hp3)
      refine ⟨_, rfl, tI [(t : Int) + 1, r], pls.map tI, .tup (SqT.of upd_same) (dpAll_ints [_, _]), (Rows.same g3.wd.same hPl).dp, shaped_tI _, shaped_dI _, _, rfl, ?_⟩
      rw [notIn_inP]
      cases e : inP pls ((t : Int) + 1) r with
      | false =>
        refine iteT ?_
        refine ⟨_, rfl, _, rfl, x, dx, _, rfl, g3.wd.same _ _ hx, nf _ (by decide +kernel) (by decide +kernel) (by decide +kernel) (by decide +kernel), _, rfl, _, rfl, ?_⟩
        refine ⟨G, x, h, rs, ds, ss, _, _, rfl, g3.wd, t3, hH, fun G4 H4 g4 t4 => ⟨_, _, rfl, rfl, ?_⟩⟩
        refine hκ _ _ ⟨?_, g3.trans (g4.down g3.wd), t4⟩
        rw [if_neg (by rw [e]; exact Bool.false_ne_true)]
        rfl
      | true =>
        refine iteF ?_
        refine hκ _ _ ⟨?_, g3, t3⟩
        rw [if_pos e, Int.add_zero]
        rfl
    · rintro σ H3 ⟨rfl, g3, t3⟩
      refine seq_cut (fun σ H' => σ = [some (.ref x), some (.ref pa), some (.int (t : Int)), some (.int (r : Int)), some (.int air), some (.int most), some (.int lim), some (.int vp), some (.int (useOf ss r t - lim + (if inP pls ((t : Int) + 1) r = true then 0 else leastOf ss r t) - (if t = 0 then air else if inP pls ((t : Int) - 1) r = true then 0 else most))), none, none, none] ∧ Gr Ps G H G H' ∧ Tabs Ps H') ?_ ?_
      rotate_left
      · intro κ hκ
        refine ⟨_, rfl, rfl, _, rfl, ?_⟩
        by_cases h0 : t = 0
        · rw [decide_eq_true (show V.int (t : Int) = V.int 0 by rw [h0]; rfl)]
          refine iteT ?_
          refine ⟨_, rfl, _, rfl, _, _, rfl, rfl, ?_⟩
          refine hκ _ _ ⟨?_, g3, t3⟩
          rw [if_pos h0]
          rfl
        rw [decide_eq_false (show ¬ V.int (t : Int) = V.int 0 from fun e => h0 (by have := V.int.inj e; omega))]
        refine iteF ?_
        refine ⟨_, rfl, _, _, rfl, rfl, _, rfl, by show 2 ≤ sizeLine; decide, fun p4 hp4 => ?_⟩
        have g4 := g3.trans (Gr.new (o := .tup [.int ((t : Int) - 1), .int (r : Int)]) g3.wd hp4)
        have t4 := t3.same (same_new (o := .tup [.int ((t : Int) - 1), .int (r : Int)]) hp4)
        refine ⟨_, rfl, tI [(t : Int) - 1, r], pls.map tI, .tup (SqT.of upd_same) (dpAll_ints [_, _]), (Rows.same g4.wd.same hPl).dp, shaped_tI _, shaped_dI _, _, rfl, ?_⟩
        rw [notIn_inP]
        cases e : inP pls ((t : Int) - 1) r with
        | false =>
          refine iteT ?_
          refine ⟨_, rfl, _, rfl, _, _, rfl, rfl, ?_⟩
          refine hκ _ _ ⟨?_, g4, t4⟩
          rw [if_neg h0, if_neg (show ¬ inP pls ((t : Int) - 1) r = true by rw [e]; exact Bool.false_ne_true)]
          all_goals rfl
        | true =>
          refine iteF ?_
          refine hκ _ _ ⟨?_, g4, t4⟩
          rw [if_neg h0, if_pos e, Int.sub_zero]
          all_goals rfl
      · rintro σ H5 ⟨rfl, g5, t5⟩
        refine ⟨_, rfl, x, dx, _, rfl, g5.wd.same _ _ hx, nf _ (by decide +kernel) (by decide +kernel) (by decide +kernel) (by decide +kernel), ?_⟩
        refine ⟨G, x, h, rs, ds, ss, rfl, g5.wd, t5, hH, fun p6 y6 H6 hp6 g6 e6 rv6 t6 => ?_⟩
        replace g6 := g5.trans g6
        have l6 : y6.length = ds.length := Paired.length rv6
        have p6P : p6 ∉ Ps := t5.nin hp6
        generalize hbase : useOf ss r t - lim + (if inP pls ((t : Int) + 1) r = true then 0 else leastOf ss r t) - (if t = 0 then air else if inP pls ((t : Int) - 1) r = true then 0 else most) = base0
        refine ⟨p6, rfl, ⟨y6, SqL.of e6⟩, for_list (K := K) (a := p6) (xs := y6) (fun j σ H' => ∃ (o9 o10 o11 : Option V), σ = [some (.ref x), some (.ref pa), some (.int (t : Int)), some (.int (r : Int)), some (.int air), some (.int most), some (.int lim), some (.int vp), some (.int (base0 - sumTo (placeDoor ds pls t r) j)), o9, o10, o11] ∧ Gr Ps G H6 G H' ∧ Tabs Ps H') ⟨_, _, _, by rw [show sumTo (placeDoor ds pls t r) 0 = 0 from rfl, Int.sub_zero], Gr.refl g6.wd, t6⟩ (fun j σ H' _ ⟨_, _, _, _, g, _⟩ => SqL.of (g.keep _ _ p6P e6)) ?_ ?_⟩
        · rintro j v σ H7 hv ⟨o9, o10, o11, rfl, g7, t7⟩
          obtain ⟨z, ez, ty, rfl, hty⟩ := paired_get rv6 hv
          obtain ⟨one, oth, l, rfl, n1, n2, _, l0, l9⟩ := door_num hH.ok hH.w3 (List.mem_of_getElem? ez)
          have hjd : j < ds.length := (List.getElem?_eq_some_iff.mp ez).1
          have eJ : ds.getD j [] = [(one : Int), (oth : Int), l] := (getD_at hjd).trans (List.getElem?_eq_some_iff.mp ez).2
          have eP : placeDoor ds pls t r j = (if (r : Int) = (one : Int) ∧ inP pls t oth = false then l else 0) + (if (r : Int) = (oth : Int) ∧ inP pls t one = false then l else 0) := by
            unfold placeDoor
            rw [eJ]
            rfl
          refine ⟨ty, _, rfl, Same.tup g7.wd.same hty, rfl, _, _, rfl, _, _, rfl, _, _, rfl, rfl, ?_⟩
          refine seq_cut (fun σ H' => σ = [some (.ref x), some (.ref pa), some (.int (t : Int)), some (.int (r : Int)), some (.int air), some (.int most), some (.int lim), some (.int vp), some (.int (base0 - sumTo (placeDoor ds pls t r) j - (if (r : Int) = (one : Int) ∧ inP pls t oth = false then l else 0))), some (.int (one : Int)), some (.int (oth : Int)), some (.int l)] ∧ Gr Ps G H6 G H' ∧ Tabs Ps H') ?_ ?_
          rotate_left
          · intro κ hκ
            refine ⟨_, rfl, _, rfl, rfl, _, rfl, ?_⟩
            by_cases h1 : (r : Int) = (one : Int)
            · rw [decide_eq_true (show V.int (r : Int) = V.int (one : Int) by rw [h1])]
              refine iteT ?_
              refine ⟨_, rfl, _, rfl, by show 2 ≤ sizeLine; decide, fun p8 hp8 => ?_⟩
              have g8 := g7.trans (Gr.new (o := .tup [.int (t : Int), .int (oth : Int)]) g7.wd hp8)
              have t8 := t7.same (same_new (o := .tup [.int (t : Int), .int (oth : Int)]) hp8)
              refine ⟨_, rfl, tI [(t : Int), (oth : Int)], pls.map tI, .tup (SqT.of upd_same) (dpAll_ints [_, _]), (Rows.same g8.wd.same hPl).dp, shaped_tI _, shaped_dI _, _, rfl, ?_⟩
              rw [notIn_inP]
              cases e : inP pls (t : Int) (oth : Int) with
              | false =>
                refine iteT ?_
                refine ⟨_, rfl, _, rfl, _, _, rfl, rfl, ?_⟩
                refine hκ _ _ ⟨?_, g8, t8⟩
                rw [if_pos (⟨h1, e⟩ : (r : Int) = (one : Int) ∧ inP pls t oth = false)]
                all_goals rfl
              | true =>
                refine iteF ?_
                refine hκ _ _ ⟨?_, g8, t8⟩
                rw [if_neg (show ¬ ((r : Int) = (one : Int) ∧ inP pls t oth = false) from fun z => by rw [e] at z; exact nomatch z.2), Int.sub_zero]
                all_goals rfl
            · rw [decide_eq_false (show ¬ V.int (r : Int) = V.int (one : Int) from fun e => h1 (V.int.inj e))]
              refine iteF ?_
              refine hκ _ _ ⟨?_, g7, t7⟩
              rw [if_neg (show ¬ ((r : Int) = (one : Int) ∧ inP pls t oth = false) from fun z => h1 z.1), Int.sub_zero]
              all_goals rfl
          · rintro σ H8 ⟨rfl, g8, t8⟩
            have fin : ∀ (val : Int) (H' : Hp), val = base0 - sumTo (placeDoor ds pls t r) j - (if (r : Int) = (one : Int) ∧ inP pls t oth = false then l else 0) - (if (r : Int) = (oth : Int) ∧ inP pls t one = false then l else 0) → Gr Ps G H6 G H' → Tabs Ps H' →
                ∃ (o9 o10 o11 : Option V), [some (V.ref x), some (.ref pa), some (.int (t : Int)), some (.int (r : Int)), some (.int air), some (.int most), some (.int lim), some (.int vp), some (.int val), some (.int (one : Int)), some (.int (oth : Int)), some (.int l)] = [some (.ref x), some (.ref pa), some (.int (t : Int)), some (.int (r : Int)), some (.int air), some (.int most), some (.int lim), some (.int vp), some (.int (base0 - sumTo (placeDoor ds pls t r) (j + 1))), o9, o10, o11] ∧ Gr Ps G H6 G H' ∧ Tabs Ps H' := fun val H' e g tb => ⟨_, _, _, by rw [sumTo_succ, eP, show ∀ a b c d : Int, a - (b + (c + d)) = a - b - c - d by omega, ← e], g, tb⟩
            refine ⟨_, rfl, _, rfl, rfl, _, rfl, ?_⟩
            by_cases h1 : (r : Int) = (oth : Int)
            · rw [decide_eq_true (show V.int (r : Int) = V.int (oth : Int) by rw [h1])]
              refine iteT ?_
              refine ⟨_, rfl, _, rfl, by show 2 ≤ sizeLine; decide, fun p9 hp9 => ?_⟩
              have g9 := g8.trans (Gr.new (o := .tup [.int (t : Int), .int (one : Int)]) g8.wd hp9)
              have t9 := t8.same (same_new (o := .tup [.int (t : Int), .int (one : Int)]) hp9)
              refine ⟨_, rfl, tI [(t : Int), (one : Int)], pls.map tI, .tup (SqT.of upd_same) (dpAll_ints [_, _]), (Rows.same g9.wd.same hPl).dp, shaped_tI _, shaped_dI _, _, rfl, ?_⟩
              rw [notIn_inP]
              cases e : inP pls (t : Int) (one : Int) with
              | false =>
                refine iteT ?_
                refine ⟨_, rfl, _, rfl, _, _, rfl, rfl, ?_⟩
                exact fin _ _ (by rw [if_pos (⟨h1, e⟩ : (r : Int) = (oth : Int) ∧ inP pls t one = false)]) g9 t9
              | true =>
                refine iteF ?_
                exact fin _ _ (by rw [if_neg (show ¬ ((r : Int) = (oth : Int) ∧ inP pls t one = false) from fun z => by rw [e] at z; exact nomatch z.2), Int.sub_zero]) g9 t9
            · rw [decide_eq_false (show ¬ V.int (r : Int) = V.int (oth : Int) from fun e => h1 (V.int.inj e))]
              refine iteF ?_
              exact fin _ _ (by rw [if_neg (show ¬ ((r : Int) = (oth : Int) ∧ inP pls t one = false) from fun z => h1 z.1), Int.sub_zero]) g8 t8
        · rintro σ H7 ⟨o9, o10, o11, rfl, g7, t7⟩
          refine ⟨_, rfl, ?_⟩
          have z := q H7 (g6.trans g7) t7
          have e : placePart rs ds ss pls t r = base0 - sumTo (placeDoor ds pls t r) y6.length := by
            rw [← hbase, l6]
            unfold placePart
            rw [eD]
            rfl
          rw [e] at z
          exact z
def spIP (ad : Ad) (K : PySem.W.Frag) (Ps : List Addr) : Sp := fun vs H Q _ =>
  ∃ (G : Hp) (x : Addr) (h : Nat) (rs ds ss : List (List Int)) (t r : Int), vs = [.ref x, .int t, .int r] ∧ Wd Ps G H ∧ Tabs Ps H ∧ HouseAt ad K G x (h : Int) rs ds ss ∧
    ∀ H', Gr Ps G H G H' → Tabs Ps H' → Q (.bl (isPl h rs.length t r)) H'
theorem c_ip (T : RawLk2 K mg base ad) : C8.Cal P w K mg base 2 "_is_place" (spIP ad K Ps) [] := by
  refine T.isp.cal sc_is_place (fun vs H Q E h => ?_) (fun f cdv A outer s H vs Q E hr h => ?_)
  · obtain ⟨G, x, h, rs, ds, ss, t, r, rfl, _⟩ := h
    rfl
  · obtain ⟨G, x, h, rs, ds, ss, t, r, rfl, wd, tbs, hH, q⟩ := h
    have b_len := T.b_len
    have k_House_rooms : C8.Met P w K mg base 1 ad.cH "rooms" (spNewRows ad K Ps fun _ rs _ _ => rs) [] := c_rooms T.toRawP
    refine ⟨_, (pss_one (ps_ret (pe_and (pe_chain op_le op_lt pe_int (pv 1) (pe_fld (pv 0) rfl)) (pe_one (pe_chain op_le op_lt pe_int (pv 2) (pe_callB call_len_seq (by rfl) b_len (by decide +kernel) (pa_cons (C8.pe_mt0 k_House_rooms hr (by decide) (pv 0)) pa_nil))))))), ?_⟩
    obtain ⟨dx, ra, da, sa, hx, _⟩ := hH.ob
    have nf : ∀ m : Str, ¬ m = "_stays" → ¬ m = "_doors" → ¬ m = "_rooms" → ¬ m = "hours" → (hf h ra da sa).lookup m = none := fun m h1 h2 h3 h4 => hf_nf m _ _ _ _ h1 h2 h3 h4
    unfold isPl at q
    refine ⟨_, rfl, _, _, rfl, rfl, _, rfl, ?_⟩
    have no : ∀ H', (decide (0 ≤ t) && decide (t < (h : Int))) = false → Gr Ps G H G H' → Tabs Ps H' → Q (.bl false) H' := fun H' e g tb => by
      have z := q H' g tb
      rw [e, Bool.false_and] at z
      exact z
    by_cases h1 : 0 ≤ t
    · rw [decide_eq_true h1] at q no ⊢
      rw [Bool.true_and] at q no
      refine iteT ?_
      refine ⟨_, rfl, x, ad.cH, dx, _, _, rfl, wd.same _ _ hx, T.hcl, T.hnh, hf_h _ _ _ _, _, _, rfl, rfl, _, rfl, ?_⟩
      by_cases h2 : t < (h : Int)
      · rw [decide_eq_true h2] at q ⊢
        rw [Bool.true_and] at q
        refine iteT ?_
        refine ⟨_, rfl, _, _, rfl, rfl, _, rfl, ?_⟩
        by_cases h3 : 0 ≤ r
        · rw [decide_eq_true h3] at q ⊢
          rw [Bool.true_and] at q
          refine iteT ?_
          refine ⟨_, rfl, x, dx, _, rfl, wd.same _ _ hx, nf _ (by decide +kernel) (by decide +kernel) (by decide +kernel) (by decide +kernel), ?_⟩
          refine ⟨G, x, h, rs, ds, ss, rfl, wd, tbs, hH, fun p1 y1 H1 hp1 g1 e1 rv1 t1 => ⟨p1, y1, rfl, .inl (SqL.of e1), _, _, rfl, rfl, ?_⟩⟩
          rw [show y1.length = rs.length from Paired.length rv1]
          exact q H1 g1 t1
        · rw [decide_eq_false h3] at q ⊢
          refine iteF ?_
          have z := q H (Gr.refl wd) tbs
          rw [Bool.false_and] at z
          exact z
      · rw [decide_eq_false h2] at no ⊢
        exact iteF (no H rfl (Gr.refl wd) tbs)
    · rw [decide_eq_false h1] at no ⊢
      refine iteF ⟨_, rfl, ?_⟩
      exact iteF (no H rfl (Gr.refl wd) tbs)
def spLack (ad : Ad) (K : PySem.W.Frag) (Ps : List Addr) : Sp := fun vs H Q _ =>
  ∃ (G : Hp) (x pa : Addr) (h : Nat) (rs ds ss pls : List (List Int)), vs = [.ref x, .ref pa] ∧ Wd Ps G H ∧ Tabs Ps H ∧ HouseAt ad K G x (h : Int) rs ds ss ∧ Rows K G pa pls ∧ placesOk h rs.length pls ∧ pls.length ≤ 200 ∧
    ∀ H', Gr Ps G H G H' → Tabs Ps H' → Q (.int (lackOf rs ds ss pls)) H'
theorem c_lack (T : RawLk2 K mg base ad) : C8.Cal P w K mg base 4 "lack" (spLack ad K Ps) [] := by
  refine T.lak.cal sclack (fun vs H Q E h => ?_) (fun f cdv A outer s H vs Q E hr h => ?_)
  · obtain ⟨G, x, pa, h, rs, ds, ss, pls, rfl, _⟩ := h
    rfl
  · obtain ⟨G, x, pa, h, rs, ds, ss, pls, rfl, wd, tbs, hH, hPl, hok, hlen, q⟩ := h
    have b_sum := T.b_sum
    have k__is_place : C8.Cal P w K mg base 2 "_is_place" (spIP ad K Ps) [] := c_ip T
    have k__place_lack : C8.Cal P w K mg base 3 "_place_lack" (spPL ad K Ps) [] := c_pl T
    refine ⟨_, (pss_one (ps_ret (pe_callB (cr_sum rfl) (by rfl) b_sum (by decide +kernel) (pa_cons (pe_lc (own := [("hour", 2), ("room", 3)]) rfl sclack.nd (pi_list (pv 1 rfl (Or.inr (Or.inl rfl)))) (blkOk_by (own := [("hour", 2), ("room", 3)]) (N := nlack) (sc := defScope slack) (by decide +kernel)) (fun _ _ _ _ _ => (pg_tupK (K := K) (n := 2) rfl rfl (pgs_cons (pg_name (i := 2) sclack.nd rfl (Or.inl rfl) (Or.inr rfl)) (pgs_cons (pg_name (i := 3) sclack.nd rfl (Or.inl rfl) (Or.inr rfl)) pgs_nil)))) (fun _ _ _ _ _ => pts_one (pt_val (C8.pe_c k__is_place hr (by decide) rfl (pa_cons (pv 0 rfl (Or.inr (Or.inl rfl))) (pa_cons (pv 2 rfl (Or.inl rfl)) (pa_cons (pv 3 rfl (Or.inl rfl)) pa_nil)))))) (fun _ _ _ _ _ => (C8.pe_c k__place_lack hr (by decide) rfl (pa_cons (pv 0 rfl (Or.inr (Or.inl rfl))) (pa_cons (pv 1 rfl (Or.inr (Or.inl rfl))) (pa_cons (pv 2 rfl (Or.inl rfl)) (pa_cons (pv 3 rfl (Or.inl rfl)) pa_nil))))))) pa_nil)))), ?_⟩
    obtain ⟨xs, hxs, hrv⟩ := id hPl
    have hl : xs.length = pls.length := Paired.length hrv
    refine ⟨_, rfl, pa, rfl, ⟨xs, wd.same.seq hxs⟩, fun D hD => ?_⟩
    have hDP := tbs.nin hD
    have gD := wd.free hD
    refine lc_list (K := K) (a := pa) (xs := xs) (fun i H' => Gr Ps G H G H' ∧ Tabs Ps H' ∧ H' D = some (.lst (((pls.take i).map (partAt rs ds ss pls)).map V.int))) ⟨Gr.new wd hD, tbs.upd hDP, upd_same⟩ (fun i H' _ ⟨g, _⟩ => g.wd.same.seq hxs) ?_ ?_
    · rintro i y H1 hy ⟨g1, t1, hacc⟩
      obtain ⟨z, ez, ty, rfl, hty⟩ := paired_get hrv hy
      obtain ⟨t, r, rfl, ht, hr2⟩ := hok z (List.mem_of_getElem? ez)
      have hi : i < pls.length := (List.getElem?_eq_some_iff.mp ez).1
      refine ⟨ty, _, rfl, Same.tup g1.wd.same hty, rfl, _, _, rfl, _, _, rfl, rfl, (by (repeat rw [wipe_set (by decide)]); exact wipe_wipe _ _), ?_⟩
      refine ⟨_, rfl, _, rfl, _, rfl, G, x, h, rs, ds, ss, _, _, rfl, g1.wd, t1, hH, fun H2 g2 t2 => ⟨_, rfl, ?_⟩⟩
      rw [show isPl h rs.length (t : Int) (r : Int) = true by
        unfold isPl
        rw [decide_eq_true (show (0 : Int) ≤ (t : Int) by omega), decide_eq_true (show (t : Int) < (h : Int) by omega), decide_eq_true (show (0 : Int) ≤ (r : Int) by omega), decide_eq_true (show (r : Int) < (rs.length : Int) by omega)]
        rfl]
      refine iteT ?_
      refine ⟨_, rfl, _, rfl, _, rfl, _, rfl, G, x, pa, h, rs, ds, ss, pls, t, r, rfl, g2.wd, t2, hH, hPl, hok, ht, hr2, fun H3 g3 t3 => ?_⟩
      have g13 := (g1.trans g2).trans g3
      have hacc3 := g3.keep _ _ hDP (g2.keep _ _ hDP hacc)
      refine ⟨_, hacc3, small1000 (by rw [List.length_map, List.length_map, List.length_take]; omega), g13.poke hD gD, t3.upd hDP, ?_⟩
      rw [upd_same, List.take_add_one, ez]
      simp [partAt]
    · rintro H1 ⟨g1, t1, hacc⟩
      rw [hl, List.take_of_length_le (Nat.le_refl _)] at hacc
      exact ⟨D, _, rfl, SqL.of hacc, q H1 g1 t1⟩
end
end Cr
set_option Elab.async false
set_option linter.all false
set_option maxRecDepth 100000
set_option maxHeartbeats 4000000

namespace Cr
open PySem PySem.Spec PyProof.Rows L2
abbrev s_law_bound : Stmt := top 33
abbrev n_law_bound : List Str := ["_law_rows", "_law_prices", "_law_whole", "_law_hour", "_law_later", "_law_k", "_law_air", "_law_most", "_law_limit", "_law_price", "_law_here_here", "_law_falls", "_law_row", "_law_one", "_law_other"]
abbrev a_law_bound : List Str := ["_law_rows", "_law_prices"]
theorem sc_law_bound : FnScope n_law_bound a_law_bound (defScope s_law_bound) := ⟨rfl, rfl, rfl, by decide +kernel, rfl, by decide +kernel, by decide +kernel⟩
theorem zeros_at {n k : Nat} (h : k < n) : atI ((List.replicate ((n : Nat) : Int).toNat [V.int 0]).flatten) ((k : Nat) : Int) = some (.int 0) := by
  refine atI_nat ?_
  rw [Int.toNat_natCast]
  have e : ∀ n : Nat, (List.replicate n [V.int 0]).flatten = List.replicate n (V.int 0) := by
    intro n
    induction n with
    | zero => rfl
    | succ n ih => rw [List.replicate_succ, List.flatten_cons, ih, List.replicate_succ]; rfl
  rw [e, List.getElem?_replicate, if_pos h]
section
variable {P : Program} {w : World} {K : PySem.W.Frag} {mg : Str → Option Value} {base : Heap} {ad : Ad} {Ps : List Addr} {H : Hp}
structure RawLb (K : PySem.W.Frag) (mg : Str → Option Value) : Prop extends RawU K mg where
  lbnd : DefR K mg "_law_bound" s_law_bound a_law_bound
  b_abs : mg "abs" = none
def spLBound (K : PySem.W.Frag) (Ps : List Addr) : Sp := fun vs H Q _ =>
  ∃ (G : Hp) (t pa : Addr) (h : Nat) (ra da sa : Addr) (rs ds ss ps : List (List Int)), vs = [.ref t, .ref pa] ∧ Wd Ps G H ∧ Tabs Ps H ∧ RowsAt K G t (h : Int) ra da sa rs ds ss ∧ GoodH (h : Int) rs ds ss ∧ PricesL K G pa ps ∧ fitP (h : Int) rs.length ps ∧
    ∀ H', Gr Ps G H G H' → Tabs Ps H' → Q (.int (boundOf h rs ds ss ps)) H'
theorem c_lbound (T : RawLb K mg) : C8.Cal P w K mg base 3 "_law_bound" (spLBound K Ps) [] := by
  refine T.lbnd.cal sc_law_bound (fun vs H Q E h => ?_) (fun f cdv A outer s H vs Q E hr h => ?_)
  · obtain ⟨G, t, pa, h, ra, da, sa, rs, ds, ss, ps, rfl, _⟩ := h
    rfl
  · obtain ⟨G, t, pa, h, ra, da, sa, rs, ds, ss, ps, rfl, wd, tbs, hR, hG, ⟨xp, hxp, hps⟩, hfit, q⟩ := h
    have b_len := T.b_len
    have b_max := T.b_max
    have b_abs := T.b_abs
    have b_range := T.b_range
    have k__law_use : C8.Cal P w K mg base 2 "_law_use" (spLTwo K Ps useOf) [] := c_luse T.toRawU
    have k__law_least : C8.Cal P w K mg base 2 "_law_least" (spLTwo K Ps leastOf) [] := c_lleast T.toRawU
    refine ⟨_, (pss_cons (ps_set (i := 2) sc_law_bound.nd rfl (Or.inl rfl) pe_int)
      (pss_cons (ps_for PassesOwn.never rfl (pi_range1 (by rfl) b_range (pa_cons (pe_ix ix_seq (pv 0) pe_int (fun _ _ => rfl)) pa_nil)) (pg_name (i := 3) sc_law_bound.nd rfl (Or.inl rfl))
        (pss_cons (ps_set (i := 4) sc_law_bound.nd rfl (Or.inl rfl) (pe_ix ix_seq (pe_op op_cat (pv 1) (pe_lst (pa_cons (pe_op op_rep (pe_lst (pa_cons pe_int pa_nil)) (pe_callB call_len_seq (by rfl) b_len (by decide +kernel) (pa_cons (pe_ix ix_seq (pv 0) pe_int (fun _ _ => rfl)) pa_nil))) pa_nil))) (pe_op op_add (pv 3) pe_int) (fun _ _ => rfl)))
      (pss_cons (ps_for PassesOwn.never rfl (pi_range1 (by rfl) b_range (pa_cons (pe_callB call_len_seq (by rfl) b_len (by decide +kernel) (pa_cons (pe_ix ix_seq (pv 0) pe_int (fun _ _ => rfl)) pa_nil)) pa_nil)) (pg_name (i := 5) sc_law_bound.nd rfl (Or.inl rfl))
        (pss_cons (ps_asg (pe_ix ix_seq (pe_ix ix_seq (pv 0) pe_int (fun _ _ => rfl)) (pv 5) (fun _ _ => rfl)) (pg_tup rfl (pgs_cons (pg_name (i := 6) sc_law_bound.nd rfl (Or.inl rfl)) (pgs_cons (pg_name (i := 7) sc_law_bound.nd rfl (Or.inl rfl)) (pgs_cons (pg_name (i := 8) sc_law_bound.nd rfl (Or.inl rfl)) (pgs_cons (pg_name (i := 9) sc_law_bound.nd rfl (Or.inl rfl)) pgs_nil))))))
      (pss_cons (ps_set (i := 10) sc_law_bound.nd rfl (Or.inl rfl) (pe_ix ix_seq (pe_ix ix_seq (pv 1) (pv 3) (fun _ _ => rfl)) (pv 5) (fun _ _ => rfl)))
      (pss_cons (ps_set (i := 2) sc_law_bound.nd rfl (Or.inl rfl) (pe_op op_sub (pe_op op_add (pv 2) (pe_op op_mul (pv 10) (C8.pe_c k__law_use hr (by decide) rfl (pa_cons (pv 0) (pa_cons (pv 5) (pa_cons (pv 3) pa_nil)))))) (pe_op op_mul (pv 8) (pe_callB (call_max2 rfl) (by rfl) b_max (by decide +kernel) (pa_cons pe_int (pa_cons (pe_op op_sub (pv 10) (pv 9)) pa_nil))))))
      (pss_cons (ps_set (i := 11) sc_law_bound.nd rfl (Or.inl rfl) (pe_op op_sub (pv 10) (pe_ix ix_seq (pv 4) (pv 5) (fun _ _ => rfl))))
      (pss_cons (ps_if (pt_cmpR op_gt (pv 11) pe_int (nomark _))
        (pss_one (ps_set (i := 2) sc_law_bound.nd rfl (Or.inl rfl) (pe_op op_add (pv 2) (pe_op op_mul (pv 11) (C8.pe_c k__law_least hr (by decide) rfl (pa_cons (pv 0) (pa_cons (pv 5) (pa_cons (pv 3) pa_nil))))))))
        (pss_one (ps_set (i := 2) sc_law_bound.nd rfl (Or.inl rfl) (pe_op op_add (pv 2) (pe_op op_mul (pv 11) (pv 7))))))
      (pss_one (ps_if (pt_cmpR op_eq (pv 3) pe_int (nomark _))
        (pss_one (ps_set (i := 2) sc_law_bound.nd rfl (Or.inl rfl) (pe_op op_sub (pv 2) (pe_op op_mul (pv 10) (pv 6)))))
        pss_nil))))))))
      (pss_cons (ps_set (i := 12) sc_law_bound.nd rfl (Or.inl rfl) (pe_ix ix_seq (pv 1) (pv 3) (fun _ _ => rfl)))
      (pss_one (ps_for PassesOwn.never rfl (pi_list (pe_ix ix_seq (pv 0) pe_int (fun _ _ => rfl))) (pg_tup rfl (pgs_cons (pg_name (i := 13) sc_law_bound.nd rfl (Or.inl rfl)) (pgs_cons (pg_name (i := 14) sc_law_bound.nd rfl (Or.inl rfl)) (pgs_cons (pg_name (i := 8) sc_law_bound.nd rfl (Or.inl rfl)) pgs_nil))))
        (pss_one (ps_set (i := 2) sc_law_bound.nd rfl (Or.inl rfl) (pe_op op_sub (pv 2) (pe_op op_mul (pv 8) (pe_callB call_abs (by rfl) b_abs (by decide +kernel) (pa_cons (pe_op op_sub (pe_ix ix_seq (pv 12) (pv 13) (fun _ _ => rfl)) (pe_ix ix_seq (pv 12) (pv 14) (fun _ _ => rfl))) pa_nil))))))))))))
      (pss_one (ps_ret (pv 2))))), ?_⟩
    obtain ⟨xr, er, vr⟩ := id hR.r
    obtain ⟨xd, ed, vd⟩ := id hR.d
    have lr : xr.length = rs.length := Paired.length vr
    have ld : xd.length = ds.length := Paired.length vd
    have lp : xp.length = ps.length := Paired.length hps
    have hr6 := hG.r6
    have hh12 := hG.h12
    have hl := hfit.1
    have pos : ∀ s ∈ ss, 0 ≤ s.getD 4 0 := fun s hs => stayOk_need (hG.sok s hs)
    have hb := fun r t => pr_in (r := r) (t := t) hfit
    have hts : ∀ {H'}, Gr Ps G H G H' → SqT K H' t [.int (h : Int), .ref ra, .ref da, .ref sa] := fun g => Same.tup g.wd.same hR.t
    refine ⟨_, rfl, .inr (.inl ⟨t, _, _, .int (h : Int), rfl, rfl, hts (Gr.refl wd), atI_nat (j := 0) rfl, ?_⟩)⟩
    refine ⟨(h : Int), rfl, by omega, by omega, ?_⟩
    refine for_range (lo := 0) (n := h) (fun i σ H' => ∃ (o3 o4 o5 o6 o7 o8 o9 o10 o11 o12 o13 o14 : Option V), σ = [some (.ref t), some (.ref pa), some (.int (sumTo (hourBound rs ds ss ps) i)), o3, o4, o5, o6, o7, o8, o9, o10, o11, o12, o13, o14] ∧ Gr Ps G H G H' ∧ Tabs Ps H') ⟨_, _, _, _, _, _, _, _, _, _, _, _, rfl, Gr.refl wd, tbs⟩ ?_ ?_
    · rintro u σ H1 hu ⟨o3, o4, o5, o6, o7, o8, o9, o10, o11, o12, o13, o14, rfl, g1, t1⟩
      -- the row behind
      refine ⟨_, rfl, by show 1 ≤ sizeLine; decide, fun p2 hp2 => ?_⟩
      have g2 := g1.trans (Gr.alloc (o := .lst [.int 0]) g1.wd hp2)
      have t2 := t1.same (same_new (o := .lst [.int 0]) hp2)
      refine ⟨_, rfl, .inr (.inl ⟨t, _, _, .ref ra, rfl, rfl, Same.tup (g2.up.trans g2.wd.same) hR.t, atI_nat (j := 1) rfl, ra, xr, rfl, .inl (SqL.of (g2.wd.same _ _ (g2.up _ _ er))), ?_⟩)⟩
      refine ⟨p2, (xr.length : Int), _, rfl, rfl, upd_same, by omega, by omega, le1000 (by show 1 * _ ≤ 1000; omega), fun p3 hp3 => ?_⟩
      have g3 := g2.trans (Gr.alloc (o := .lst (List.replicate ((xr.length : Nat) : Int).toNat [V.int 0]).flatten) g2.wd hp3)
      have t3 := t2.same (same_new (o := .lst (List.replicate ((xr.length : Nat) : Int).toNat [V.int 0]).flatten) hp3)
      refine ⟨by show 1 ≤ sizeLine; decide, fun p4 hp4 => ?_⟩
      have u4 := (Gr.alloc (o := .lst [.ref p3]) g3.wd hp4).up
      have g4 := g3.trans (Gr.alloc (o := .lst [.ref p3]) g3.wd hp4)
      have t4 := t3.same (same_new (o := .lst [.ref p3]) hp4)
      refine ⟨pa, p4, _, _, rfl, rfl, g4.wd.same _ _ (g4.up _ _ hxp), upd_same, le1000 (by show xp.length + 1 ≤ 1000; omega), fun p5 hp5 => ?_⟩
      have u5 := (Gr.alloc (o := .lst (xp ++ [.ref p3])) g4.wd hp5).up
      have g5 := g4.trans (Gr.alloc (o := .lst (xp ++ [.ref p3])) g4.wd hp5)
      have t5 := t4.same (same_new (o := .lst (xp ++ [.ref p3])) hp5)
      have ez3 := (u4.trans u5) _ _ (upd_same (H := _) (a := p3) (o := .lst (List.replicate ((xr.length : Nat) : Int).toNat [V.int 0]).flatten))
      obtain ⟨la, ys, hla, hys, hye⟩ : ∃ la ys, atI (xp ++ [V.ref p3]) (0 + (u : Int) + 1) = some (.ref la) ∧ SqL K (upd (upd (upd (upd G p2 (.lst [.int 0])) p3 (.lst (List.replicate ((xr.length : Nat) : Int).toNat [V.int 0]).flatten)) p4 (.lst [.ref p3])) p5 (.lst (xp ++ [.ref p3]))) la ys ∧ ∀ k : Nat, k < rs.length → atI ys (0 + (k : Int)) = some (.int (pr ps k (u + 1))) := by
        by_cases hu1 : u + 1 < ps.length
        · obtain ⟨a', ha', hs', hal'⟩ := pr_row hfit hps hu1
          refine ⟨a', _, ?_, g5.up.seq hs', fun k hk => ?_⟩
          · rw [show (0 + (u : Int) + 1) = ((u + 1 : Nat) : Int) by omega]
            exact atI_nat (by rw [List.getElem?_append_left (by omega)]; exact ha')
          · rw [show (0 + (k : Int)) = ((k : Nat) : Int) by omega]
            exact ints_getD (by omega)
        · refine ⟨p3, _, ?_, SqL.of ez3, fun k hk => ?_⟩
          · rw [show (0 + (u : Int) + 1) = ((u + 1 : Nat) : Int) by omega]
            exact atI_nat (by rw [show u + 1 = xp.length by omega, List.getElem?_append_right (Nat.le_refl _), Nat.sub_self]; rfl)
          · rw [show (0 + (k : Int)) = ((k : Nat) : Int) by omega, pr_out (by omega)]
            exact zeros_at (by omega)
      generalize upd (upd (upd (upd G p2 (.lst [.int 0])) p3 (.lst (List.replicate ((xr.length : Nat) : Int).toNat [V.int 0]).flatten)) p4 (.lst [.ref p3])) p5 (.lst (xp ++ [.ref p3])) = G5 at g5 hys
      refine ⟨_, rfl, _, _, rfl, rfl, .inl ⟨p5, _, _, _, rfl, rfl, SqL.of upd_same, hla, ?_⟩⟩
      obtain ⟨ca, hca, hcs, hcl⟩ := pr_row hfit hps (show u < ps.length by omega)
      have hca' : atI xp (0 + (u : Int)) = some (.ref ca) := by
        rw [show (0 + (u : Int)) = ((u : Nat) : Int) by omega]
        exact atI_nat hca
      -- the rooms
      refine ⟨_, rfl, .inr (.inl ⟨t, _, _, .ref ra, rfl, rfl, Same.tup (g5.up.trans g5.wd.same) hR.t, atI_nat (j := 1) rfl, ra, xr, rfl, .inl (SqL.of (g5.wd.same _ _ (g5.up _ _ er))), ?_⟩)⟩
      refine ⟨(xr.length : Int), rfl, by omega, by omega, ?_⟩
      refine for_range (lo := 0) (n := xr.length) (fun k σ H' => ∃ (o5 o6 o7 o8 o9 o10 o11 o12 o13 o14 : Option V), σ = [some (.ref t), some (.ref pa), some (.int (sumTo (hourBound rs ds ss ps) u + sumTo (roomPart rs ss ps u) k)), some (.int (0 + (u : Int))), some (.ref la), o5, o6, o7, o8, o9, o10, o11, o12, o13, o14] ∧ Gr Ps G H G5 H' ∧ Tabs Ps H') ⟨_, _, _, _, _, _, _, _, _, _, by rw [show sumTo (roomPart rs ss ps u) 0 = 0 from rfl, Int.add_zero]; rfl, g5, t5⟩ ?_ ?_
      · rintro k σ H6 hk ⟨o5, o6, o7, o8, o9, o10, o11, o12, o13, o14, rfl, g6, t6⟩
        have hkr : k < rs.length := by omega
        have s6 := g6.up.trans g6.wd.same
        obtain ⟨v, hv, ty, rfl, hty⟩ := paired_get' vr (List.getElem?_eq_getElem hkr)
        obtain ⟨air, most, lim, vp, ec, ⟨a0, am, m9⟩, ⟨l0, l9⟩, p0, p9⟩ := room_num hG.bad hG.w4 (List.getElem_mem hkr)
        have eD : rs.getD k [] = [air, most, lim, vp] := (getD_at hkr).trans ec
        rw [ec] at hty
        have hat : atI xr (0 + (k : Int)) = some (.ref ty) := by
          rw [show (0 + (k : Int)) = ((k : Nat) : Int) by omega]
          exact atI_nat hv
        have hpk : atI ((ps.getD u []).map V.int) (0 + (k : Int)) = some (.int (pr ps k u)) := by
          rw [show (0 + (k : Int)) = ((k : Nat) : Int) by omega]
          exact ints_getD (by omega)
        refine ⟨_, rfl, .inr (.inl ⟨t, _, _, .ref ra, rfl, rfl, Same.tup s6 hR.t, atI_nat (j := 1) rfl, _, rfl, .inl ⟨ra, xr, _, .ref ty, rfl, rfl, SqL.of (s6 _ _ er), hat, ?_⟩⟩)⟩
        refine ⟨ty, _, rfl, Same.tup s6 hty, rfl, _, _, rfl, _, _, rfl, _, _, rfl, _, _, rfl, rfl, ?_⟩
        refine ⟨_, rfl, _, rfl, .inl ⟨pa, xp, _, .ref ca, rfl, rfl, SqL.of (s6 _ _ hxp), hca', _, rfl, .inl ⟨ca, _, _, _, rfl, rfl, s6.seq hcs, hpk, ?_⟩⟩⟩
        refine ⟨_, rfl, _, rfl, _, rfl, _, rfl, _, rfl, G5, t, (h : Int), ra, da, sa, rs, ds, ss, (k : Int), (u : Int), by rw [Int.zero_add, Int.zero_add]; rfl, g6.wd, t6, hR.sm g5.up, hG.w5, hG.s20, pos, fun H7 g7 t7 => ?_⟩
        replace g7 := g6.trans g7
        have b0 := hb k u
        have b1 := hb k (u + 1)
        refine ⟨_, _, rfl, rfl, .inl ⟨by omega, by omega⟩, _, _, rfl, rfl, ?_⟩
        refine ⟨_, rfl, _, rfl, _, rfl, _, _, rfl, rfl, _, _, rfl, _, _, rfl, rfl, .inl ⟨by omega, by omega⟩, _, _, rfl, rfl, ?_⟩
        refine ⟨_, rfl, _, rfl, _, rfl, .inl ⟨la, ys, _, _, rfl, rfl, g7.wd.same.seq hys, hye k hkr, _, _, rfl, rfl, ?_⟩⟩
        rw [max_if']
        dsimp only
        refine seq_cut (fun σ H' => σ = [some (.ref t), some (.ref pa), some (.int (sumTo (hourBound rs ds ss ps) u + sumTo (roomPart rs ss ps u) k + pr ps k u * useOf ss k u - lim * max 0 (pr ps k u - vp) + (pr ps k u - pr ps k (u + 1)) * (if pr ps k u - pr ps k (u + 1) > 0 then leastOf ss k u else most))), some (.int (0 + (u : Int))), some (.ref la), some (.int (0 + (k : Int))), some (.int air), some (.int most), some (.int lim), some (.int vp), some (.int (pr ps k u)), some (.int (pr ps k u - pr ps k (u + 1))), o12, o13, o14] ∧ Gr Ps G H G5 H' ∧ Tabs Ps H') ?_ ?_
        rotate_left
        · intro κ hκ
          refine ⟨_, rfl, _, _, rfl, rfl, _, rfl, ?_⟩
          by_cases hf : pr ps k u - pr ps k (u + 1) > 0
          · rw [decide_eq_true hf]
            refine iteT ?_
            refine ⟨_, rfl, _, rfl, _, rfl, _, rfl, _, rfl, G5, t, (h : Int), ra, da, sa, rs, ds, ss, (k : Int), (u : Int), by rw [Int.zero_add, Int.zero_add]; rfl, g7.wd, t7, hR.sm g5.up, hG.w5, hG.s20, pos, fun H8 g8 t8 => ?_⟩
            refine ⟨_, _, rfl, rfl, .inl ⟨by omega, by omega⟩, _, _, rfl, rfl, ?_⟩
            refine hκ _ _ ⟨?_, g7.trans g8, t8⟩
            rw [if_pos hf]
            all_goals rfl
          · rw [decide_eq_false hf]
            refine iteF ?_
            refine ⟨_, rfl, _, rfl, _, rfl, _, _, rfl, rfl, .inl ⟨by omega, by omega⟩, _, _, rfl, rfl, ?_⟩
            refine hκ _ _ ⟨?_, g7, t7⟩
            rw [if_neg hf]
            all_goals rfl
        · rintro σ H8 ⟨rfl, g8, t8⟩
          have fin : ∀ (val : Int) (H' : Hp), val = sumTo (hourBound rs ds ss ps) u + sumTo (roomPart rs ss ps u) k + pr ps k u * useOf ss k u - lim * max 0 (pr ps k u - vp) + (pr ps k u - pr ps k (u + 1)) * (if pr ps k u - pr ps k (u + 1) > 0 then leastOf ss k u else most) - (if u = 0 then pr ps k u * air else 0) → Gr Ps G H G5 H' → Tabs Ps H' →
              ∃ (o5 o6 o7 o8 o9 o10 o11 o12' o13' o14' : Option V), [some (V.ref t), some (.ref pa), some (.int (val)), some (.int (0 + (u : Int))), some (.ref la), some (.int (0 + (k : Int))), some (.int air), some (.int most), some (.int lim), some (.int vp), some (.int (pr ps k u)), some (.int (pr ps k u - pr ps k (u + 1))), o12, o13, o14] = [some (.ref t), some (.ref pa), some (.int (sumTo (hourBound rs ds ss ps) u + sumTo (roomPart rs ss ps u) (k + 1))), some (.int (0 + (u : Int))), some (.ref la), o5, o6, o7, o8, o9, o10, o11, o12', o13', o14'] ∧ Gr Ps G H G5 H' ∧ Tabs Ps H' := fun val H' e g tb => by
            have eR : roomPart rs ss ps u k = pr ps k u * useOf ss k u - lim * max (pr ps k u - vp) 0 + (pr ps k u - pr ps k (u + 1)) * (if pr ps k u - pr ps k (u + 1) > 0 then leastOf ss k u else most) - (if u = 0 then air * pr ps k u else 0) := by
              unfold roomPart
              rw [eD]
              rfl
            have ev : val = sumTo (hourBound rs ds ss ps) u + sumTo (roomPart rs ss ps u) (k + 1) := by
              rw [e, sumTo_succ, eR, Int.max_comm 0, Int.mul_comm (pr ps k u) air]
              omega
            exact ⟨_, _, _, _, _, _, _, _, _, _, by rw [ev], g, tb⟩
          refine ⟨_, rfl, rfl, _, rfl, ?_⟩
          by_cases h0 : u = 0
          · rw [decide_eq_true (show V.int (0 + (u : Int)) = V.int 0 by rw [h0]; rfl)]
            refine iteT ?_
            refine ⟨_, rfl, _, rfl, _, rfl, _, _, rfl, rfl, .inl ⟨by omega, by omega⟩, _, _, rfl, rfl, ?_⟩
            exact fin _ _ (by rw [if_pos h0]) g8 t8
          · rw [decide_eq_false (show ¬ V.int (0 + (u : Int)) = V.int 0 from fun e => h0 (by have := V.int.inj e; omega))]
            refine iteF ?_
            exact fin _ _ (by rw [if_neg h0, Int.sub_zero]) g8 t8
      · rintro σ H6 ⟨o5, o6, o7, o8, o9, o10, o11, o12, o13, o14, rfl, g6, t6⟩
        have s6 := g6.up.trans g6.wd.same
        refine ⟨_, rfl, _, rfl, .inl ⟨pa, xp, _, .ref ca, rfl, rfl, SqL.of (s6 _ _ hxp), hca', ?_⟩⟩
        refine ⟨_, rfl, .inr (.inl ⟨t, _, _, .ref da, rfl, rfl, Same.tup s6 hR.t, atI_nat (j := 2) rfl, da, rfl, ⟨xd, SqL.of (s6 _ _ ed)⟩, ?_⟩)⟩
        refine for_list (K := K) (a := da) (xs := xd) (fun j σ H' => ∃ (o13 o14 o8' : Option V), σ = [some (.ref t), some (.ref pa), some (.int (sumTo (hourBound rs ds ss ps) u + sumTo (roomPart rs ss ps u) rs.length - sumTo (doorPart ds ps u) j)), some (.int (0 + (u : Int))), some (.ref la), o5, o6, o7, o8', o9, o10, o11, some (.ref ca), o13, o14] ∧ Gr Ps G H G5 H' ∧ Tabs Ps H') ⟨_, _, _, by rw [show sumTo (doorPart ds ps u) 0 = 0 from rfl, Int.sub_zero, lr]; rfl, g6, t6⟩ (fun j σ H' _ ⟨_, _, _, _, g, _⟩ => SqL.of (g.wd.same _ _ (g.up _ _ ed))) ?_ ?_
        · rintro j v σ H7 hv ⟨o13, o14, o8', rfl, g7, t7⟩
          have s7 := g7.up.trans g7.wd.same
          obtain ⟨z, ez, ty, rfl, hty⟩ := paired_get vd hv
          obtain ⟨one, oth, lim, rfl, n1, n2, _, l0, l9⟩ := door_num hG.bad hG.w3 (List.mem_of_getElem? ez)
          have hjd : j < ds.length := (List.getElem?_eq_some_iff.mp ez).1
          have eJ : ds.getD j [] = [(one : Int), (oth : Int), lim] := (getD_at hjd).trans (List.getElem?_eq_some_iff.mp ez).2
          have b1 := hb one u
          have b2 := hb oth u
          refine ⟨ty, _, rfl, Same.tup s7 hty, rfl, _, _, rfl, _, _, rfl, _, _, rfl, rfl, ?_⟩
          refine ⟨_, rfl, _, rfl, _, rfl, _, rfl, .inl ⟨ca, _, _, .int (pr ps one u), rfl, rfl, s7.seq hcs, ints_getD (by omega), _, rfl, _, rfl, .inl ⟨ca, _, _, .int (pr ps oth u), rfl, rfl, s7.seq hcs, ints_getD (by omega), ?_⟩⟩⟩
          refine ⟨_, _, rfl, rfl, _, rfl, _, _, rfl, rfl, .inl ⟨by omega, by omega⟩, _, _, rfl, rfl, ?_⟩
          refine ⟨some (.int (one : Int)), some (.int (oth : Int)), some (.int lim), ?_, g7, t7⟩
          rw [sumTo_succ, abs_if, show doorPart ds ps u j = lim * (((pr ps one u - pr ps oth u).natAbs : Nat) : Int) by unfold doorPart; rw [eJ]; rfl, show ∀ a b c : Int, a - (b + c) = a - b - c by omega]
          rfl
        · rintro σ H7 ⟨o13, o14, o8', rfl, g7, t7⟩
          refine ⟨some (.int (0 + (u : Int))), some (.ref la), o5, o6, o7, o8', o9, o10, o11, some (.ref ca), o13, o14, ?_, g7.down wd |>.trans (Gr.refl (g7.down wd).wd), t7⟩
          rw [ld, sumTo_succ]
          unfold hourBound
          rw [show ∀ a b c : Int, a + (b - c) = a + b - c by omega]
    · rintro σ H1 ⟨o3, o4, o5, o6, o7, o8, o9, o10, o11, o12, o13, o14, rfl, g1, t1⟩
      exact ⟨_, rfl, q H1 g1 t1⟩
end
end Cr
set_option Elab.async false
set_option linter.all false
set_option maxRecDepth 100000
set_option maxHeartbeats 4000000

namespace Cr
open PySem PySem.Spec PyProof.Rows L2
abbrev s_law_lack : Stmt := top 34
abbrev n_law_lack : List Str := ["_law_rows", "_law_places", "_law_whole", "_law_hour", "_law_k", "_law_air", "_law_most", "_law_limit", "_law_price", "_law_one", "_law_other", "_law_through"]
abbrev a_law_lack : List Str := ["_law_rows", "_law_places"]
theorem sc_law_lack : FnScope n_law_lack a_law_lack (defScope s_law_lack) := ⟨rfl, rfl, rfl, by decide +kernel, rfl, by decide +kernel, by decide +kernel⟩
section
variable {P : Program} {w : World} {K : PySem.W.Frag} {mg : Str → Option Value} {base : Heap} {ad : Ad} {Ps : List Addr} {H : Hp}
structure RawLl (K : PySem.W.Frag) (mg : Str → Option Value) : Prop extends RawU K mg where
  llak : DefR K mg "_law_lack" s_law_lack a_law_lack
def spLLack (K : PySem.W.Frag) (Ps : List Addr) : Sp := fun vs H Q _ =>
  ∃ (G : Hp) (t pa : Addr) (h : Nat) (ra da sa : Addr) (rs ds ss pls : List (List Int)), vs = [.ref t, .ref pa] ∧ Wd Ps G H ∧ Tabs Ps H ∧ RowsAt K G t (h : Int) ra da sa rs ds ss ∧ GoodH (h : Int) rs ds ss ∧ Rows K G pa pls ∧ placesOk h rs.length pls ∧
    ∀ H', Gr Ps G H G H' → Tabs Ps H' → Q (.int (lackOf rs ds ss pls)) H'
theorem c_llack (T : RawLl K mg) : C8.Cal P w K mg base 3 "_law_lack" (spLLack K Ps) [] := by
  refine T.llak.cal sc_law_lack (fun vs H Q E h => ?_) (fun f cdv A outer s H vs Q E hr h => ?_)
  · obtain ⟨G, t, pa, h, ra, da, sa, rs, ds, ss, pls, rfl, _⟩ := h
    rfl
  · obtain ⟨G, ta, pa, h, ra, da, sa, rs, ds, ss, pls, rfl, wd, tbs, hR, hG, hPl, hok, q⟩ := h
    have k__law_use : C8.Cal P w K mg base 2 "_law_use" (spLTwo K Ps useOf) [] := c_luse T.toRawU
    have k__law_least : C8.Cal P w K mg base 2 "_law_least" (spLTwo K Ps leastOf) [] := c_lleast T.toRawU
    refine ⟨_, (pss_cons (ps_set (i := 2) sc_law_lack.nd rfl (Or.inl rfl) pe_int)
      (pss_cons (ps_for PassesOwn.never rfl (pi_list (pv 1)) (pg_tup rfl (pgs_cons (pg_name (i := 3) sc_law_lack.nd rfl (Or.inl rfl)) (pgs_cons (pg_name (i := 4) sc_law_lack.nd rfl (Or.inl rfl)) pgs_nil)))
        (pss_cons (ps_asg (pe_ix ix_seq (pe_ix ix_seq (pv 0) pe_int (fun _ _ => rfl)) (pv 4) (fun _ _ => rfl)) (pg_tup rfl (pgs_cons (pg_name (i := 5) sc_law_lack.nd rfl (Or.inl rfl)) (pgs_cons (pg_name (i := 6) sc_law_lack.nd rfl (Or.inl rfl)) (pgs_cons (pg_name (i := 7) sc_law_lack.nd rfl (Or.inl rfl)) (pgs_cons (pg_name (i := 8) sc_law_lack.nd rfl (Or.inl rfl)) pgs_nil))))))
      (pss_cons (ps_set (i := 2) sc_law_lack.nd rfl (Or.inl rfl) (pe_op op_sub (pe_op op_add (pv 2) (C8.pe_c k__law_use hr (by decide) rfl (pa_cons (pv 0) (pa_cons (pv 4) (pa_cons (pv 3) pa_nil))))) (pv 7)))
      (pss_cons (ps_if (pt_cmpR (op_notInD (u65 hr)) (pe_tup (pa_cons (pe_op op_add (pv 3) pe_int) (pa_cons (pv 4) pa_nil))) (pv 1) (by rfl))
        (pss_one (ps_set (i := 2) sc_law_lack.nd rfl (Or.inl rfl) (pe_op op_add (pv 2) (C8.pe_c k__law_least hr (by decide) rfl (pa_cons (pv 0) (pa_cons (pv 4) (pa_cons (pv 3) pa_nil)))))))
        pss_nil)
      (pss_cons (ps_if (pt_cmpR op_eq (pv 3) pe_int (nomark _))
        (pss_one (ps_set (i := 2) sc_law_lack.nd rfl (Or.inl rfl) (pe_op op_sub (pv 2) (pv 5))))
        (pss_one (ps_if (pt_cmpR (op_notInD (u65 hr)) (pe_tup (pa_cons (pe_op op_sub (pv 3) pe_int) (pa_cons (pv 4) pa_nil))) (pv 1) (by rfl))
        (pss_one (ps_set (i := 2) sc_law_lack.nd rfl (Or.inl rfl) (pe_op op_sub (pv 2) (pv 6))))
        pss_nil)))
      (pss_one (ps_for PassesOwn.never rfl (pi_list (pe_ix ix_seq (pv 0) pe_int (fun _ _ => rfl))) (pg_tup rfl (pgs_cons (pg_name (i := 9) sc_law_lack.nd rfl (Or.inl rfl)) (pgs_cons (pg_name (i := 10) sc_law_lack.nd rfl (Or.inl rfl)) (pgs_cons (pg_name (i := 11) sc_law_lack.nd rfl (Or.inl rfl)) pgs_nil))))
        (pss_cons (ps_if (PW.pt (pw_and (pt_cmpR op_eq (pv 9) (pv 4) (nomark _)) (pw_and1 (pt_cmpR (op_notInD (u65 hr)) (pe_tup (pa_cons (pv 3) (pa_cons (pv 10) pa_nil))) (pv 1) (by rfl)))))
        (pss_one (ps_set (i := 2) sc_law_lack.nd rfl (Or.inl rfl) (pe_op op_sub (pv 2) (pv 11))))
        pss_nil)
      (pss_one (ps_if (PW.pt (pw_and (pt_cmpR op_eq (pv 10) (pv 4) (nomark _)) (pw_and1 (pt_cmpR (op_notInD (u65 hr)) (pe_tup (pa_cons (pv 3) (pa_cons (pv 9) pa_nil))) (pv 1) (by rfl)))))
        (pss_one (ps_set (i := 2) sc_law_lack.nd rfl (Or.inl rfl) (pe_op op_sub (pv 2) (pv 11))))
        pss_nil))))))))))
      (pss_one (ps_ret (pv 2))))), ?_⟩
    obtain ⟨xr, er, vr⟩ := id hR.r
    obtain ⟨xd, ed, vd⟩ := id hR.d
    obtain ⟨xs, hxs, hrv⟩ := id hPl
    have lr : xr.length = rs.length := Paired.length vr
    have ld : xd.length = ds.length := Paired.length vd
    have hl : xs.length = pls.length := Paired.length hrv
    have pos : ∀ s ∈ ss, 0 ≤ s.getD 4 0 := fun s hs => stayOk_need (hG.sok s hs)
    refine ⟨_, rfl, pa, rfl, ⟨xs, wd.same.seq hxs⟩, ?_⟩
    refine for_list (K := K) (a := pa) (xs := xs) (fun i σ H' => ∃ (o3 o4 o5 o6 o7 o8 o9 o10 o11 : Option V), σ = [some (.ref ta), some (.ref pa), some (.int ((pls.take i).map (partAt rs ds ss pls)).sum), o3, o4, o5, o6, o7, o8, o9, o10, o11] ∧ Gr Ps G H G H' ∧ Tabs Ps H') ⟨_, _, _, _, _, _, _, _, _, rfl, Gr.refl wd, tbs⟩ (fun i σ H' _ ⟨_, _, _, _, _, _, _, _, _, _, g, _⟩ => g.wd.same.seq hxs) ?_ ?_
    · rintro i y σ H1 hy ⟨o3, o4, o5, o6, o7, o8, o9, o10, o11, rfl, g1, t1⟩
      obtain ⟨z, ez, ty0, rfl, hty0⟩ := paired_get hrv hy
      obtain ⟨t, r, rfl, ht, hr'⟩ := hok z (List.mem_of_getElem? ez)
      generalize hW : ((pls.take i).map (partAt rs ds ss pls)).sum = W0
      have hsum : ((pls.take (i + 1)).map (partAt rs ds ss pls)).sum = W0 + placePart rs ds ss pls t r := by
        rw [List.take_add_one, ez, ← hW]
        simp [partAt]
      obtain ⟨v, hv, ty, rfl, hty⟩ := paired_get' vr (List.getElem?_eq_getElem hr')
      obtain ⟨air, most, lim, vp, ec, ⟨a0, am, m9⟩, ⟨l0, l9⟩, p0, p9⟩ := room_num hG.bad hG.w4 (List.getElem_mem hr')
      have eD : rs.getD r [] = [air, most, lim, vp] := (getD_at hr').trans ec
      rw [ec] at hty
      refine ⟨ty0, _, rfl, Same.tup g1.wd.same hty0, rfl, _, _, rfl, _, _, rfl, rfl, ?_⟩
      refine ⟨_, rfl, .inr (.inl ⟨ta, _, _, .ref ra, rfl, rfl, Same.tup g1.wd.same hR.t, atI_nat (j := 1) rfl, _, rfl, .inl ⟨ra, xr, _, .ref ty, rfl, rfl, SqL.of (g1.wd.same _ _ er), atI_nat hv, ?_⟩⟩)⟩
      refine ⟨ty, _, rfl, Same.tup g1.wd.same hty, rfl, _, _, rfl, _, _, rfl, _, _, rfl, _, _, rfl, rfl, ?_⟩
      refine ⟨_, rfl, _, rfl, _, rfl, _, rfl, G, ta, (h : Int), ra, da, sa, rs, ds, ss, (r : Int), (t : Int), rfl, g1.wd, t1, hR, hG.w5, hG.s20, pos, fun H2 g2 t2 => ?_⟩
      replace g2 := g1.trans g2
      refine ⟨_, _, rfl, rfl, _, rfl, _, _, rfl, rfl, ?_⟩
      dsimp only
      refine seq_cut (fun σ H' => σ = [some (.ref ta), some (.ref pa), some (.int (W0 + useOf ss r t - lim + (if inP pls ((t : Int) + 1) r = true then 0 else leastOf ss r t))), some (.int (t : Int)), some (.int (r : Int)), some (.int air), some (.int most), some (.int lim), some (.int vp), o9, o10, o11] ∧ Gr Ps G H G H' ∧ Tabs Ps H') ?_ ?_
      rotate_left
      · intro κ hκ
        refine ⟨_, rfl, _, _, rfl, rfl, _, rfl, by show 2 ≤ sizeLine; decide, fun p3 hp3 => ?_⟩
        have g3 := g2.trans (Gr.new (o := .tup [.int ((t : Int) + 1), .int (r : Int)]) g2.wd hp3)
        have t3 := t2.same (same_new (o := .tup [.int ((t : Int) + 1), .int (r : Int)]) hp3)
        refine ⟨_, rfl, tI [(t : Int) + 1, r], pls.map tI, .tup (SqT.of upd_same) (dpAll_ints [_, _]), (Rows.same g3.wd.same hPl).dp, shaped_tI _, shaped_dI _, _, rfl, ?_⟩
        rw [notIn_inP]
        cases e : inP pls ((t : Int) + 1) r with
        | false =>
          refine iteT ?_
          refine ⟨_, rfl, _, rfl, _, rfl, _, rfl, G, ta, (h : Int), ra, da, sa, rs, ds, ss, (r : Int), (t : Int), rfl, g3.wd, t3, hR, hG.w5, hG.s20, pos, fun H4 g4 t4 => ⟨_, _, rfl, rfl, ?_⟩⟩
          refine hκ _ _ ⟨?_, g3.trans g4, t4⟩
          rw [if_neg (show ¬ inP pls ((t : Int) + 1) r = true by rw [e]; exact Bool.false_ne_true)]
          all_goals rfl
        | true =>
          refine iteF ?_
          refine hκ _ _ ⟨?_, g3, t3⟩
          rw [if_pos e, Int.add_zero]
          all_goals rfl
      · rintro σ H3 ⟨rfl, g3, t3⟩
        refine seq_cut (fun σ H' => σ = [some (.ref ta), some (.ref pa), some (.int (W0 + useOf ss r t - lim + (if inP pls ((t : Int) + 1) r = true then 0 else leastOf ss r t) - (if t = 0 then air else if inP pls ((t : Int) - 1) r = true then 0 else most))), some (.int (t : Int)), some (.int (r : Int)), some (.int air), some (.int most), some (.int lim), some (.int vp), o9, o10, o11] ∧ Gr Ps G H G H' ∧ Tabs Ps H') ?_ ?_
        rotate_left
        · intro κ hκ
          refine ⟨_, rfl, rfl, _, rfl, ?_⟩
          by_cases h0 : t = 0
          · rw [decide_eq_true (show V.int (t : Int) = V.int 0 by rw [h0]; rfl)]
            refine iteT ?_
            refine ⟨_, rfl, _, rfl, _, _, rfl, rfl, ?_⟩
            refine hκ _ _ ⟨?_, g3, t3⟩
            rw [if_pos h0]
            rfl
          rw [decide_eq_false (show ¬ V.int (t : Int) = V.int 0 from fun e => h0 (by have := V.int.inj e; omega))]
          refine iteF ?_
          refine ⟨_, rfl, _, _, rfl, rfl, _, rfl, by show 2 ≤ sizeLine; decide, fun p4 hp4 => ?_⟩
          have g4 := g3.trans (Gr.new (o := .tup [.int ((t : Int) - 1), .int (r : Int)]) g3.wd hp4)
          have t4 := t3.same (same_new (o := .tup [.int ((t : Int) - 1), .int (r : Int)]) hp4)
          refine ⟨_, rfl, tI [(t : Int) - 1, r], pls.map tI, .tup (SqT.of upd_same) (dpAll_ints [_, _]), (Rows.same g4.wd.same hPl).dp, shaped_tI _, shaped_dI _, _, rfl, ?_⟩
          rw [notIn_inP]
          cases e : inP pls ((t : Int) - 1) r with
          | false =>
            refine iteT ?_
            refine ⟨_, rfl, _, rfl, _, _, rfl, rfl, ?_⟩
            refine hκ _ _ ⟨?_, g4, t4⟩
            rw [if_neg h0, if_neg (show ¬ inP pls ((t : Int) - 1) r = true by rw [e]; exact Bool.false_ne_true)]
            all_goals rfl
          | true =>
            refine iteF ?_
            refine hκ _ _ ⟨?_, g4, t4⟩
            rw [if_neg h0, if_pos e, Int.sub_zero]
            all_goals rfl
        · rintro σ H5 ⟨rfl, g5, t5⟩
          refine ⟨_, rfl, .inr (.inl ⟨ta, _, _, .ref da, rfl, rfl, Same.tup g5.wd.same hR.t, atI_nat (j := 2) rfl, da, rfl, ⟨xd, SqL.of (g5.wd.same _ _ ed)⟩, ?_⟩)⟩
          generalize hbase : W0 + useOf ss r t - lim + (if inP pls ((t : Int) + 1) r = true then 0 else leastOf ss r t) - (if t = 0 then air else if inP pls ((t : Int) - 1) r = true then 0 else most) = base0
          refine for_list (K := K) (a := da) (xs := xd) (fun j σ H' => ∃ (o9 o10 o11 : Option V), σ = [some (.ref ta), some (.ref pa), some (.int (base0 - sumTo (placeDoor ds pls t r) j)), some (.int (t : Int)), some (.int (r : Int)), some (.int air), some (.int most), some (.int lim), some (.int vp), o9, o10, o11] ∧ Gr Ps G H G H' ∧ Tabs Ps H') ⟨_, _, _, by rw [show sumTo (placeDoor ds pls t r) 0 = 0 from rfl, Int.sub_zero], g5, t5⟩ (fun j σ H' _ ⟨_, _, _, _, g, _⟩ => SqL.of (g.wd.same _ _ ed)) ?_ ?_
          · rintro j v σ H7 hv ⟨o9, o10, o11, rfl, g7, t7⟩
            obtain ⟨z, ez2, tyd, rfl, htyd⟩ := paired_get vd hv
            obtain ⟨one, oth, l, rfl, n1, n2, _, l0, l9⟩ := door_num hG.bad hG.w3 (List.mem_of_getElem? ez2)
            have hjd : j < ds.length := (List.getElem?_eq_some_iff.mp ez2).1
            have eJ : ds.getD j [] = [(one : Int), (oth : Int), l] := (getD_at hjd).trans (List.getElem?_eq_some_iff.mp ez2).2
            have eP : placeDoor ds pls t r j = (if (r : Int) = (one : Int) ∧ inP pls t oth = false then l else 0) + (if (r : Int) = (oth : Int) ∧ inP pls t one = false then l else 0) := by
              unfold placeDoor
              rw [eJ]
              rfl
            refine ⟨tyd, _, rfl, Same.tup g7.wd.same htyd, rfl, _, _, rfl, _, _, rfl, _, _, rfl, rfl, ?_⟩
            refine seq_cut (fun σ H' => σ = [some (.ref ta), some (.ref pa), some (.int (base0 - sumTo (placeDoor ds pls t r) j - (if (r : Int) = (one : Int) ∧ inP pls t oth = false then l else 0))), some (.int (t : Int)), some (.int (r : Int)), some (.int air), some (.int most), some (.int lim), some (.int vp), some (.int (one : Int)), some (.int (oth : Int)), some (.int l)] ∧ Gr Ps G H G H' ∧ Tabs Ps H') ?_ ?_
            rotate_left
            · intro κ hκ
              refine ⟨_, rfl, _, rfl, rfl, _, rfl, ?_⟩
              by_cases h1 : (r : Int) = (one : Int)
              · rw [decide_eq_true (show V.int (one : Int) = V.int (r : Int) by rw [h1])]
                refine iteT ?_
                refine ⟨_, rfl, _, rfl, by show 2 ≤ sizeLine; decide, fun p8 hp8 => ?_⟩
                have g8 := g7.trans (Gr.new (o := .tup [.int (t : Int), .int (oth : Int)]) g7.wd hp8)
                have t8 := t7.same (same_new (o := .tup [.int (t : Int), .int (oth : Int)]) hp8)
                refine ⟨_, rfl, tI [(t : Int), (oth : Int)], pls.map tI, .tup (SqT.of upd_same) (dpAll_ints [_, _]), (Rows.same g8.wd.same hPl).dp, shaped_tI _, shaped_dI _, _, rfl, ?_⟩
                rw [notIn_inP]
                cases e : inP pls (t : Int) (oth : Int) with
                | false =>
                  refine iteT ?_
                  refine ⟨_, rfl, _, rfl, _, _, rfl, rfl, ?_⟩
                  refine hκ _ _ ⟨?_, g8, t8⟩
                  rw [if_pos (⟨h1, e⟩ : (r : Int) = (one : Int) ∧ inP pls t oth = false)]
                  all_goals rfl
                | true =>
                  refine iteF ?_
                  refine hκ _ _ ⟨?_, g8, t8⟩
                  rw [if_neg (show ¬ ((r : Int) = (one : Int) ∧ inP pls t oth = false) from fun z => by rw [e] at z; exact nomatch z.2), Int.sub_zero]
                  all_goals rfl
              · rw [decide_eq_false (show ¬ V.int (one : Int) = V.int (r : Int) from fun e => h1 (V.int.inj e).symm)]
                refine iteF ?_
                refine hκ _ _ ⟨?_, g7, t7⟩
                rw [if_neg (show ¬ ((r : Int) = (one : Int) ∧ inP pls t oth = false) from fun z => h1 z.1), Int.sub_zero]
                all_goals rfl
            · rintro σ H8 ⟨rfl, g8, t8⟩
              have fin : ∀ (val : Int) (H' : Hp), val = base0 - sumTo (placeDoor ds pls t r) j - (if (r : Int) = (one : Int) ∧ inP pls t oth = false then l else 0) - (if (r : Int) = (oth : Int) ∧ inP pls t one = false then l else 0) → Gr Ps G H G H' → Tabs Ps H' →
                  ∃ (o9 o10 o11 : Option V), [some (V.ref ta), some (.ref pa), some (.int val), some (.int (t : Int)), some (.int (r : Int)), some (.int air), some (.int most), some (.int lim), some (.int vp), some (.int (one : Int)), some (.int (oth : Int)), some (.int l)] = [some (.ref ta), some (.ref pa), some (.int (base0 - sumTo (placeDoor ds pls t r) (j + 1))), some (.int (t : Int)), some (.int (r : Int)), some (.int air), some (.int most), some (.int lim), some (.int vp), o9, o10, o11] ∧ Gr Ps G H G H' ∧ Tabs Ps H' := fun val H' e g tb => ⟨_, _, _, by rw [sumTo_succ, eP, show ∀ a b c d : Int, a - (b + (c + d)) = a - b - c - d by omega, ← e], g, tb⟩
              refine ⟨_, rfl, _, rfl, rfl, _, rfl, ?_⟩
              by_cases h1 : (r : Int) = (oth : Int)
              · rw [decide_eq_true (show V.int (oth : Int) = V.int (r : Int) by rw [h1])]
                refine iteT ?_
                refine ⟨_, rfl, _, rfl, by show 2 ≤ sizeLine; decide, fun p9 hp9 => ?_⟩
                have g9 := g8.trans (Gr.new (o := .tup [.int (t : Int), .int (one : Int)]) g8.wd hp9)
                have t9 := t8.same (same_new (o := .tup [.int (t : Int), .int (one : Int)]) hp9)
                refine ⟨_, rfl, tI [(t : Int), (one : Int)], pls.map tI, .tup (SqT.of upd_same) (dpAll_ints [_, _]), (Rows.same g9.wd.same hPl).dp, shaped_tI _, shaped_dI _, _, rfl, ?_⟩
                rw [notIn_inP]
                cases e : inP pls (t : Int) (one : Int) with
                | false =>
                  refine iteT ?_
                  refine ⟨_, rfl, _, rfl, _, _, rfl, rfl, ?_⟩
                  exact fin _ _ (by rw [if_pos (⟨h1, e⟩ : (r : Int) = (oth : Int) ∧ inP pls t one = false)]) g9 t9
                | true =>
                  refine iteF ?_
                  exact fin _ _ (by rw [if_neg (show ¬ ((r : Int) = (oth : Int) ∧ inP pls t one = false) from fun z => by rw [e] at z; exact nomatch z.2), Int.sub_zero]) g9 t9
              · rw [decide_eq_false (show ¬ V.int (oth : Int) = V.int (r : Int) from fun e => h1 (V.int.inj e).symm)]
                refine iteF ?_
                exact fin _ _ (by rw [if_neg (show ¬ ((r : Int) = (oth : Int) ∧ inP pls t one = false) from fun z => h1 z.1), Int.sub_zero]) g8 t8
          · rintro σ H7 ⟨o9, o10, o11, rfl, g7, t7⟩
            refine ⟨some (.int (t : Int)), some (.int (r : Int)), some (.int air), some (.int most), some (.int lim), some (.int vp), o9, o10, o11, ?_, g7, t7⟩
            have e : placePart rs ds ss pls t r = base0 - sumTo (placeDoor ds pls t r) xd.length - W0 := by
              rw [← hbase, ld]
              unfold placePart
              rw [eD]
              show useOf ss ↑r ↑t - lim + (if inP pls (↑t + 1) ↑r = true then 0 else leastOf ss ↑r ↑t) - (if t = 0 then air else if inP pls (↑t - 1) ↑r = true then 0 else most) - sumTo (placeDoor ds pls t r) ds.length = _
              omega
            rw [hsum, e, show ∀ a b : Int, a + (b - a) = b by omega]
    · rintro σ H1 ⟨o3, o4, o5, o6, o7, o8, o9, o10, o11, rfl, g1, t1⟩
      rw [hl, List.take_of_length_le (Nat.le_refl _)]
      exact ⟨_, rfl, q H1 g1 t1⟩
end
end Cr
set_option Elab.async false
set_option linter.all false
set_option maxRecDepth 100000
set_option maxHeartbeats 4000000
/-! Lists under way that are not known -/
namespace Cr
open PySem PySem.Spec PyProof.Rows L2
/-- a list that stands and is not known -/
def Own (G H : Hp) (p : Addr) (xs : List V) : Prop := H p = some (.lst xs) ∧ G p = none
section
variable {Ps : List Addr} {b l p q : Addr} {G0 H0 G H G1 H1 : Hp} {xs : List V} {o : HO}
theorem Own.step (w : Own G H p xs) (n : p ∉ b :: l :: Ps) (y : Bx Ps b l G H G1 H1) : Own G1 H1 p xs :=
  ⟨y.gr.keep _ _ n w.1, y.gr.fresh p w.2 (by rw [w.1]; exact fun z => nomatch z)⟩
theorem Own.off (w : Own G H p xs) (ne : p ≠ q) : Own G (upd H q o) p xs := ⟨by rw [upd_ne ne]; exact w.1, w.2⟩
theorem Own.off2 (w : Own G H p xs) (ne : p ≠ q) : Own (upd G q o) H p xs := ⟨w.1, by rw [upd_ne ne]; exact w.2⟩
theorem Own.made (B : Bx Ps b l G0 H0 G H) (hp : H p = none) : Own G (upd H p (.lst xs)) p xs := ⟨upd_same, B.wd.free hp⟩
def Own4 (G H : Hp) (p1 p2 p3 p4 : Addr) (x1 x2 x3 x4 : List V) : Prop := Own G H p1 x1 ∧ Own G H p2 x2 ∧ Own G H p3 x3 ∧ Own G H p4 x4
theorem Own4.step {p1 p2 p3 p4 : Addr} {x1 x2 x3 x4 : List V} (w : Own4 G H p1 p2 p3 p4 x1 x2 x3 x4) (n1 : p1 ∉ b :: l :: Ps) (n2 : p2 ∉ b :: l :: Ps) (n3 : p3 ∉ b :: l :: Ps) (n4 : p4 ∉ b :: l :: Ps) (y : Bx Ps b l G H G1 H1) : Own4 G1 H1 p1 p2 p3 p4 x1 x2 x3 x4 :=
  ⟨w.1.step n1 y, w.2.1.step n2 y, w.2.2.1.step n3 y, w.2.2.2.step n4 y⟩
theorem Own4.nes {p1 p2 p3 p4 : Addr} {x1 x2 x3 x4 : List V} (w : Own4 G H p1 p2 p3 p4 x1 x2 x3 x4) (h : H q = none) : p1 ≠ q ∧ p2 ≠ q ∧ p3 ≠ q ∧ p4 ≠ q := ⟨ne_of_none w.1.1 h, ne_of_none w.2.1.1 h, ne_of_none w.2.2.1.1 h, ne_of_none w.2.2.2.1 h⟩
theorem Own4.off {p1 p2 p3 p4 : Addr} {x1 x2 x3 x4 : List V} (w : Own4 G H p1 p2 p3 p4 x1 x2 x3 x4) (n : p1 ≠ q ∧ p2 ≠ q ∧ p3 ≠ q ∧ p4 ≠ q) : Own4 G (upd H q o) p1 p2 p3 p4 x1 x2 x3 x4 := ⟨w.1.off n.1, w.2.1.off n.2.1, w.2.2.1.off n.2.2.1, w.2.2.2.off n.2.2.2⟩
theorem int_at {ns : List Int} {k : Nat} (hk : k < ns.length) : ∃ a, atI (ns.map V.int) (0 + (k : Int)) = some (.int a) := by
  refine ⟨ns[k], ?_⟩
  rw [show (0 + (k : Int)) = ((k : Nat) : Int) by omega]
  exact atI_nat (by rw [List.getElem?_map, List.getElem?_eq_getElem hk]; rfl)
theorem ixN_at {n k : Nat} (h : k < n) : ixN n (0 + (k : Int)) = some k := by
  unfold ixN
  rw [if_pos (by omega), if_pos (by omega)]
  congr 1
  omega
theorem Bx.ninF (B : Bx Ps b l G0 H0 G H) (hp : H p = none) : p ∉ b :: l :: Ps := fun h => by
  rcases List.mem_cons.mp h with z | h
  · exact B.neb hp z.symm
  rcases List.mem_cons.mp h with z | h
  · exact B.nel hp z.symm
  · exact B.tabs.nin hp h
theorem Bx.free' (B : Bx Ps b l G0 H0 G H) (hp : H p = none) : H0 p = none := B.gr.free' hp
end
theorem Bx.al {Ps : List Addr} {b l p : Addr} {G0 H0 G H : Hp} {o : HO} (B : Bx Ps b l G0 H0 G H) (hp : H p = none) : ∃ G', Bx Ps b l G0 H0 G' (upd H p o) ∧ Same G G' ∧ G' p = some o := ⟨upd G p o, B.alloc hp, same_new (B.wd.free hp), upd_same⟩
end Cr
set_option Elab.async false
set_option linter.all false
set_option maxRecDepth 100000
set_option maxHeartbeats 4000000

namespace Cr
open PySem PySem.Spec PyProof.Rows L2
abbrev s_law_drawn : Stmt := top 35
abbrev n_law_drawn : List Str := ["_law_box", "_law_rows", "_law_prices", "_law_hour", "_law_places", "_law_k"]
abbrev a_law_drawn : List Str := ["_law_box", "_law_rows"]
theorem sc_law_drawn : FnScope n_law_drawn a_law_drawn (defScope s_law_drawn) := ⟨rfl, rfl, rfl, by decide +kernel, rfl, by decide +kernel, by decide +kernel⟩
section
variable {P : Program} {w : World} {K : PySem.W.Frag} {mg : Str → Option Value} {base : Heap} {ad : Ad} {Ps : List Addr} {H : Hp}
structure RawLd (K : PySem.W.Frag) (mg : Str → Option Value) : Prop extends RawU K mg where
  ldrn : DefR K mg "_law_drawn" s_law_drawn a_law_drawn
def spDrawn (K : PySem.W.Frag) (Ps : List Addr) : Sp := fun vs H Q _ => ∃ (b l : Addr) (G : Hp) (t : Addr) (h : Nat) (ra da sa : Addr) (rs ds ss : List (List Int)), vs = [.ref b, .ref t] ∧ Bx Ps b l G H G H ∧ RowsAt K G t (h : Int) ra da sa rs ds ss ∧ GoodH (h : Int) rs ds ss ∧
  ∀ p pa qa G' H' ps pls, Bx Ps b l G H G' H' → G' p = some (.tup [.ref pa, .ref qa]) → PricesL K G' pa ps → fitP (h : Int) rs.length ps → RowsL K G' qa pls → placesOk h rs.length pls → pls.length ≤ 200 → Q (.ref p) H'
theorem c_drawn (T : RawLd K mg) : C8.Cal P w K mg base 2 "_law_drawn" (spDrawn K Ps) [] := by
  refine T.ldrn.cal sc_law_drawn (fun vs H Q E h => ?_) (fun f cdv A outer s H vs Q E hr h => ?_)
  · obtain ⟨b, l, G, t, h, ra, da, sa, rs, ds, ss, rfl, _⟩ := h
    rfl
  · obtain ⟨b, l, G, t, h, ra, da, sa, rs, ds, ss, rfl, B, hR, hG, q⟩ := h
    have k__law_take : C8.Cal P w K mg base 1 "_law_take" (spTake Ps) [] := c_take T.toRawL
    have b_len := T.b_len
    have b_range := T.b_range
    have b_int := T.b_int
    refine ⟨_, (pss_cons (ps_set (i := 2) sc_law_drawn.nd rfl (Or.inl rfl) (pe_lst pa_nil))
      (pss_cons (ps_for PassesOwn.never rfl (pi_range1 (by rfl) b_range (pa_cons (pe_ix ix_seq (pv 1) pe_int (fun _ _ => rfl)) pa_nil)) (pg_name (i := 3) sc_law_drawn.nd rfl (Or.inr rfl))
        (pss_one (ps_expr (pe_bm PySem.F.plainAttrs_list PySem.F.slot_list_append PySem.F.type_list_append mt_append (pv 2) (pa_cons (pe_lc (own := [("_law_k", 5)]) rfl sc_law_drawn.nd (pi_list (pe_ix ix_seq (pv 1) pe_int (fun _ _ => rfl))) (blkOk_by (own := [("_law_k", 5)]) (N := n_law_drawn) (sc := defScope s_law_drawn) (by decide +kernel)) (fun _ _ _ _ _ => (pg_name (i := 5) sc_law_drawn.nd rfl (Or.inl rfl) (Or.inr rfl))) (fun _ _ _ _ _ => pts_nil) (fun _ _ _ _ _ => (pe_ix (ix_seqK (K := K) rfl) (pe_lst (pa_cons (pe_op op_sub (C8.pe_c k__law_take hr (by decide) rfl (pa_cons (pv 0 rfl (Or.inr (Or.inl rfl))) (pa_cons pe_int pa_nil))) pe_int) (pa_cons (C8.pe_c k__law_take hr (by decide) rfl (pa_cons (pv 0 rfl (Or.inr (Or.inl rfl))) (pa_cons pe_int pa_nil))) pa_nil))) (pe_callTy call_int1 (by rfl) b_int (by decide +kernel) (pa_cons (pe_cmpR op_eq (C8.pe_c k__law_take hr (by decide) rfl (pa_cons (pv 0 rfl (Or.inr (Or.inl rfl))) (pa_cons pe_int pa_nil))) pe_int (nomark _)) pa_nil)) (fun _ _ => rfl)))) pa_nil)))))
      (pss_cons (ps_set (i := 4) sc_law_drawn.nd rfl (Or.inl rfl) (pe_lst pa_nil))
      (pss_cons (ps_for PassesOwn.never rfl (pi_range1 (by rfl) b_range (pa_cons (pe_ix ix_seq (pv 1) pe_int (fun _ _ => rfl)) pa_nil)) (pg_name (i := 3) sc_law_drawn.nd rfl (Or.inr rfl))
        (pss_one (ps_set (i := 4) sc_law_drawn.nd rfl (Or.inl rfl) (pe_op op_cat (pv 4) (pe_lc (own := [("_law_k", 5)]) rfl sc_law_drawn.nd (pi_range1 (by rfl) b_range (pa_cons (pe_callB call_len_seq (by rfl) b_len (by decide +kernel) (pa_cons (pe_ix ix_seq (pv 1) pe_int (fun _ _ => rfl)) pa_nil)) pa_nil)) (blkOk_by (own := [("_law_k", 5)]) (N := n_law_drawn) (sc := defScope s_law_drawn) (by decide +kernel)) (fun _ _ _ _ _ => (pg_name (i := 5) sc_law_drawn.nd rfl (Or.inl rfl) (Or.inr rfl))) (fun _ _ _ _ _ => pts_one (pt_cmpR op_gt (C8.pe_c k__law_take hr (by decide) rfl (pa_cons (pv 0 rfl (Or.inr (Or.inl rfl))) (pa_cons pe_int pa_nil))) pe_int (nomark _))) (fun _ _ _ _ _ => (pe_tup (pa_cons (pv 3 rfl (Or.inr (Or.inl rfl))) (pa_cons (pv 5 rfl (Or.inl rfl)) pa_nil)))))))))
      (pss_one (ps_ret (pe_tup (pa_cons (pv 2) (pa_cons (pv 4) pa_nil))))))))), ?_⟩
    obtain ⟨xr, er, vr⟩ := id hR.r
    have lr : xr.length = rs.length := Paired.length vr
    have hr6 := hG.r6
    have hh12 := hG.h12
    refine ⟨Nat.zero_le _, fun pp hpp => ?_⟩
    have nP := B.ninF hpp
    have B1 := B.new (o := .lst []) hpp
    refine ⟨_, rfl, .inr (.inl ⟨t, _, _, .int (h : Int), rfl, rfl, Same.tup B1.wd.same hR.t, atI_nat (j := 0) rfl, ?_⟩)⟩
    refine ⟨(h : Int), rfl, by omega, by omega, ?_⟩
    refine for_range (lo := 0) (n := h) (fun i σ H' => ∃ (o3 : Option V) (G' : Hp) (xs : List V) (ps : List (List Int)), σ = [some (.ref b), some (.ref t), some (.ref pp), o3, none, none] ∧ Bx Ps b l G H G' H' ∧ Own G' H' pp xs ∧ Paired (IntsL K G') xs ps ∧ ps.length = i ∧ ∀ row ∈ ps, row.length = rs.length ∧ ∀ p ∈ row, -1000000 ≤ p ∧ p ≤ 1000000) ⟨_, _, [], [], rfl, B1, Own.made B hpp, .nil, rfl, by simp⟩ ?_ ?_
    · rintro u σ H2 hu ⟨o3, G2, xs, ps, rfl, B2, oP, hps, hpl, hok⟩
      have s2 := B2.gr.up.trans B2.wd.same
      refine ⟨_, rfl, .inl ⟨rfl, _, SqL.of oP.1⟩, ?_⟩
      refine ⟨_, rfl, .inr (.inl ⟨t, _, _, .ref ra, rfl, rfl, Same.tup s2 hR.t, atI_nat (j := 1) rfl, ra, rfl, ⟨xr, SqL.of (s2 _ _ er)⟩, fun D hD => ?_⟩)⟩
      have nD := B2.ninF hD
      have hDH := B2.free' hD
      have npD : pp ≠ D := ne_of_none oP.1 hD
      refine lc_list (K := K) (a := ra) (xs := xr) (fun i H' => ∃ (G' : Hp) (acc : List Int), Bx Ps b l G H G' H' ∧ Same G2 G' ∧ Own G' H' pp xs ∧ Own G' H' D (acc.map V.int) ∧ acc.length = i ∧ ∀ p ∈ acc, -1000000 ≤ p ∧ p ≤ 1000000) ⟨G2, [], B2.new hD, Same.refl _, oP.off npD, Own.made B2 hD, rfl, by simp⟩ (fun i H' _ ⟨G', _, b', s', _⟩ => SqL.of (b'.wd.same _ _ (b'.gr.up _ _ er))) ?_ ?_
      · rintro i y H3 hy ⟨G3, acc, B3, s3, oP3, oD, hal, hab⟩
        refine ⟨(by (repeat rw [wipe_set (by decide)]); exact wipe_wipe _ _), ?_⟩
        refine ⟨_, rfl, b, l, _, _, rfl, by omega, by omega, B3.start, fun r1 H4 a4 c4 B4 => ⟨_, _, rfl, rfl, ?_⟩⟩
        refine ⟨_, rfl, b, l, _, _, rfl, by omega, by omega, B4.start, fun r2 H5 a5 c5 B5 => ?_⟩
        replace B5 := B4.trans B5
        refine ⟨by show 2 ≤ sizeLine; decide, fun p3 hp3 => ?_⟩
        obtain ⟨G6, B6, u6, e6⟩ := B5.al (o := .lst [.int (r1 - 3), .int r2]) hp3
        refine pick2 rfl B6 (by decide) (by decide) e6 fun v H7 hv B7 => ?_
        replace B7 := B6.trans B7
        obtain ⟨z, rfl, hz⟩ : ∃ z : Int, v = .int z ∧ -1000000 ≤ z ∧ z ≤ 1000000 := by
          rcases hv with rfl | rfl
          · exact ⟨_, rfl, by omega, by omega⟩
          · exact ⟨_, rfl, by omega, by omega⟩
        have oP7 := oP3.step nP B7
        have oD7 := oD.step nD B7
        have hi : i < xr.length := (List.getElem?_eq_some_iff.mp hy).1
        refine ⟨_, oD7.1, small1000 (by rw [List.length_map]; omega), G6, acc ++ [z], (B3.trans B7).poke B hDH oD7.2, s3.trans u6, oP7.off npD, ⟨by rw [upd_same, List.map_append]; rfl, oD7.2⟩, by rw [List.length_append, hal]; rfl, fun p hp => ?_⟩
        rcases List.mem_append.mp hp with hp | hp
        · exact hab p hp
        · simp at hp; rw [hp]; exact hz
      · rintro H3 ⟨G3, acc, B3, s3, oP3, oD, hal, hab⟩
        have B4 := B3.close B hDH oD.1 oD.2
        have u4 := same_new (o := .lst (acc.map V.int)) oD.2
        have oP4 := oP3.off2 (o := .lst (acc.map V.int)) npD
        have hxl : xs.length = ps.length := Paired.length hps
        refine ⟨pp, _, _, rfl, rfl, oP4.1, small1000 (by omega), ?_⟩
        refine ⟨_, _, xs ++ [.ref D], ps ++ [acc], rfl, B4.poke B (B.free' hpp) oP4.2, ⟨upd_same, oP4.2⟩, paired_snoc (ints_same (s3.trans u4) hps) ⟨D, rfl, SqL.of upd_same⟩, by rw [List.length_append, hpl]; rfl, fun row hrow => ?_⟩
        rcases List.mem_append.mp hrow with hrow | hrow
        · exact hok row hrow
        · simp at hrow; rw [hrow]; exact ⟨by omega, hab⟩
    · rintro σ H2 ⟨o3, G2, xs, ps, rfl, B2, oP, hps, hpl, hok⟩
      have B3 := B2.close B (B.free' hpp) oP.1 oP.2
      have u3 := same_new (o := .lst xs) oP.2
      have hPr : PricesL K (upd G2 pp (.lst xs)) pp ps := ⟨xs, upd_same, ints_same u3 hps⟩
      generalize upd G2 pp (.lst xs) = G3 at B3 u3 hPr
      have hfit : fitP (h : Int) rs.length ps := ⟨by rw [hpl], hok⟩
      refine ⟨Nat.zero_le _, fun q0 hq0 => ?_⟩
      obtain ⟨G4, B4, u4, e4⟩ := B3.al (o := .lst []) hq0
      refine ⟨_, rfl, .inr (.inl ⟨t, _, _, .int (h : Int), rfl, rfl, Same.tup (B4.gr.up.trans B4.wd.same) hR.t, atI_nat (j := 0) rfl, ?_⟩)⟩
      refine ⟨(h : Int), rfl, by omega, by omega, ?_⟩
      refine for_range (lo := 0) (n := h) (fun i σ H' => ∃ (o3 : Option V) (qa : Addr) (G' : Hp) (pls : List (List Int)), σ = [some (.ref b), some (.ref t), some (.ref pp), o3, some (.ref qa), none] ∧ Bx Ps b l G H G' H' ∧ Same G3 G' ∧ RowsL K G' qa pls ∧ pls.length ≤ 6 * i ∧ placesOk h rs.length pls) ⟨_, q0, G4, [], rfl, B4, u4, ⟨[], e4, .nil⟩, Nat.le_refl _, fun p hp => by cases hp⟩ ?_ ?_
      · rintro u σ H5 hu ⟨o3, qa, G5, pls, rfl, B5, u5, ⟨xq, hxq, hrq⟩, hll, hpo⟩
        have s5 := B5.gr.up.trans B5.wd.same
        have lq : xq.length = pls.length := Paired.length hrq
        refine ⟨_, rfl, _, rfl, .inr (.inl ⟨t, _, _, .ref ra, rfl, rfl, Same.tup s5 hR.t, atI_nat (j := 1) rfl, ra, xr, rfl, .inl (SqL.of (s5 _ _ er)), ?_⟩)⟩
        refine ⟨(xr.length : Int), rfl, by omega, by omega, fun D hD => ?_⟩
        have nD := B5.ninF hD
        have hDH := B5.free' hD
        refine lc_range (lo := 0) (n := xr.length) (fun i H' => ∃ (G' : Hp) (ys : List V) (acc : List (List Int)), Bx Ps b l G H G' H' ∧ Same G5 G' ∧ Own G' H' D ys ∧ RowsV K G' ys acc ∧ acc.length ≤ i ∧ placesOk h rs.length acc) ⟨G5, [], [], B5.new hD, Same.refl _, Own.made B5 hD, .nil, Nat.le_refl _, fun p hp => by cases hp⟩ ?_ ?_
        · rintro i H6 hi ⟨G6, ys, acc, B6, u6, oD, hrv, hal, hao⟩
          have ly : ys.length = acc.length := Paired.length hrv
          refine ⟨(by (repeat rw [wipe_set (by decide)]); exact wipe_wipe _ _), ?_⟩
          refine ⟨_, rfl, b, l, _, _, rfl, by omega, by omega, B6.start, fun r1 H7 a7 c7 B7 => ⟨_, _, rfl, rfl, _, rfl, ?_⟩⟩
          have oD7 := oD.step nD B7
          have B67 := B6.trans B7
          refine ite2 (fun _ => ?_) (fun _ => ?_)
          · refine ⟨_, rfl, _, rfl, by show 2 ≤ sizeLine; decide, fun tt htt => ?_⟩
            have nDt : D ≠ tt := ne_of_none oD7.1 htt
            obtain ⟨G8, hG8, B8, u8, e8⟩ : ∃ G8, G8 = upd G6 tt (.tup [.int (0 + (u : Int)), .int (0 + (i : Int))]) ∧ Bx Ps b l G H G8 (upd H7 tt (.tup [.int (0 + (u : Int)), .int (0 + (i : Int))])) ∧ Same G6 G8 ∧ G8 tt = some (.tup [.int (0 + (u : Int)), .int (0 + (i : Int))]) := ⟨_, rfl, B67.alloc htt, same_new (B67.wd.free htt), upd_same⟩
            have oD8 : Own G8 (upd H7 tt (.tup [.int (0 + (u : Int)), .int (0 + (i : Int))])) D ys := by rw [hG8]; exact (oD7.off nDt).off2 nDt
            refine ⟨ys, oD8.1, small1000 (by omega), G8, ys ++ [.ref tt], acc ++ [[(u : Int), (i : Int)]], B8.poke B hDH oD8.2, u6.trans u8, ⟨upd_same, oD8.2⟩, paired_snoc (rowsV_same u8 hrv) ⟨tt, rfl, SqT.of (by rw [e8, Int.zero_add, Int.zero_add]; rfl)⟩, by rw [List.length_append]; show _ + 1 ≤ _; omega, fun p hp => ?_⟩
            rcases List.mem_append.mp hp with hp | hp
            · exact hao p hp
            · simp at hp; rw [hp]; exact ⟨u, i, rfl, hu, by omega⟩
          · exact ⟨G6, ys, acc, B67, u6, oD7, hrv, by omega, hao⟩
        · rintro H6 ⟨G6, ys, acc, B6, u6, oD, hrv, hal, hao⟩
          have B7 := B6.close B hDH oD.1 oD.2
          have u7 := same_new (o := .lst ys) oD.2
          have ly : ys.length = acc.length := Paired.length hrv
          refine ⟨qa, D, _, _, rfl, rfl, B7.wd.same _ _ (u7 _ _ (u6 _ _ hxq)), oD.1, le1000 (by omega), fun p8 hp8 => ?_⟩
          obtain ⟨G8, B8, u8, e8⟩ := B7.al (o := .lst (xq ++ ys)) hp8
          have uA := (u6.trans u7).trans u8
          refine ⟨_, p8, G8, pls ++ acc, rfl, B8, u5.trans uA, ⟨_, e8, paired_append (rowsV_same uA hrq) (rowsV_same (u7.trans u8) hrv)⟩, by rw [List.length_append]; omega, fun p hp => ?_⟩
          rcases List.mem_append.mp hp with hp | hp
          · exact hpo p hp
          · exact hao p hp
      · rintro σ H5 ⟨o3, qa, G5, pls, rfl, B5, u5, hRL, hll, hpo⟩
        refine ⟨_, rfl, _, rfl, by show 2 ≤ sizeLine; decide, fun tt htt => ?_⟩
        obtain ⟨G6, B6, u6, e6⟩ := B5.al (o := .tup [.ref pp, .ref qa]) htt
        exact q tt pp qa G6 _ ps pls B6 e6 (hPr.same (u5.trans u6)) hfit (hRL.same u6) hpo (by omega)
end
end Cr
set_option Elab.async false
set_option linter.all false
set_option maxRecDepth 100000
set_option maxHeartbeats 4000000

namespace Cr
open PySem PySem.Spec PyProof.Rows L2
abbrev slaw : Stmt := top 36
abbrev nlaw : List Str := ["_law_script", "_law_box", "_law_rows", "_law_house_here", "_law_one", "_law_other", "_law_prices", "_law_places", "_law_handed", "_law_some", "_law_row"]
abbrev alaw : List Str := ["_law_script"]
theorem sclaw : FnScope nlaw alaw (defScope slaw) := ⟨rfl, rfl, rfl, by decide +kernel, rfl, by decide +kernel, by decide +kernel⟩
section
variable {P : Program} {w : World} {K : PySem.W.Frag} {mg : Str → Option Value} {base : Heap} {ad : Ad} {Ps : List Addr} {b l p : Addr} {G0 H0 G H : Hp} {o : HO}
structure RawA (K : PySem.W.Frag) (mg : Str → Option Value) (base : Heap) (ad : Ad) : Prop extends RawM K mg base ad, RawLk2 K mg base ad, RawLb K mg, RawLl K mg, RawLd K mg
def spLaw (K : PySem.W.Frag) (Ps : List Addr) : Sp := fun vs H Q _ => ∃ (a : Addr) (ns : List Int), vs = [.ref a] ∧ SqL K H a (ns.map V.int) ∧ ns.length ≤ 63 ∧ Tabs Ps H ∧ ∀ H', Q (.bl true) H'
/-- prices and places drawn -/
def DrawnAt (K : PySem.W.Frag) (G : Hp) (h nr : Nat) (v : V) : Prop := ∃ tt pa qa ps pls, v = .ref tt ∧ G tt = some (.tup [.ref pa, .ref qa]) ∧ PricesL K G pa ps ∧ fitP (h : Int) nr ps ∧ RowsL K G qa pls ∧ placesOk h nr pls ∧ pls.length ≤ 200
theorem DrawnAt.same {h nr : Nat} {v : V} {G G' : Hp} (e : Same G G') (d : DrawnAt K G h nr v) : DrawnAt K G' h nr v := by
  obtain ⟨tt, pa, qa, ps, pls, h1, h2, h3, h4, h5, h6, h7⟩ := d
  exact ⟨tt, pa, qa, ps, pls, h1, e _ _ h2, h3.same e, h4, h5.same e, h6, h7⟩
theorem c_law (T : RawA K mg base ad) (hP : ad.tNum ∈ Ps) {f : Addr} {fd : FuncData} (F : Fun K "law" "law" slaw f fd) : FnOk P w K mg base CX0 7 f fd alaw (spLaw K Ps) := by
  refine F.ok sclaw (fun vs H Q E h => ?_) (fun cdv A outer s H vs Q E hr h => ?_)
  · obtain ⟨a, ns, rfl, _⟩ := h
    rfl
  · obtain ⟨a, ns, rfl, ha, hn, tbs, q⟩ := h
    have k__law_begun : C8.Cal P w K mg base 1 "_law_begun" (spBegun K) [] := c_begun T.toRawL
    have k__law_house : C8.Cal P w K mg base 3 "_law_house" (spLHouse K Ps) [] := c_lhouse T.toRawH
    have k__law_made : C8.Cal P w K mg base 6 "_law_made" (spMade ad K Ps) [] := c_made T.toRawM hP
    have k__law_drawn : C8.Cal P w K mg base 2 "_law_drawn" (spDrawn K Ps) [] := c_drawn T.toRawLd
    have k__law_bound : C8.Cal P w K mg base 3 "_law_bound" (spLBound K Ps) [] := c_lbound T.toRawLb
    have k__law_lack : C8.Cal P w K mg base 3 "_law_lack" (spLLack K Ps) [] := c_llack T.toRawLl
    have k_bound : C8.Cal P w K mg base 4 "bound" (spBound ad K Ps) [] := c_bound T.toRawPa
    have k_lack : C8.Cal P w K mg base 4 "lack" (spLack ad K Ps) [] := c_lack T.toRawLk2
    have k__law_alike : C8.Cal P w K mg base 1 "_law_alike" (spAlike K 1) [] := c_alike T.toRawL 1
    have b_list := T.b_list
    refine ⟨_, (pss_cons (ps_set (i := 1) sclaw.nd rfl (Or.inl rfl) (C8.pe_c k__law_begun hr (by decide) rfl (pa_cons (pv 0) pa_nil)))
      (pss_cons (ps_set (i := 2) sclaw.nd rfl (Or.inl rfl) (C8.pe_c k__law_house hr (by decide) rfl (pa_cons (pv 1) pa_nil)))
      (pss_cons (ps_set (i := 3) sclaw.nd rfl (Or.inl rfl) (C8.pe_c k__law_made hr (by decide) rfl (pa_cons (pv 2) pa_nil)))
      (pss_cons (ps_set (i := 4) sclaw.nd rfl (Or.inl rfl) (C8.pe_c k__law_drawn hr (by decide) rfl (pa_cons (pv 1) (pa_cons (pv 2) pa_nil))))
      (pss_cons (ps_set (i := 5) sclaw.nd rfl (Or.inl rfl) (C8.pe_c k__law_drawn hr (by decide) rfl (pa_cons (pv 1) (pa_cons (pv 2) pa_nil))))
      (pss_cons (ps_for PassesOwn.never rfl (pi_list (pe_lst (pa_cons (pv 4) (pa_cons (pv 5) (pa_cons (pv 4) pa_nil))))) (pg_tup rfl (pgs_cons (pg_name (i := 6) sclaw.nd rfl (Or.inl rfl)) (pgs_cons (pg_name (i := 7) sclaw.nd rfl (Or.inl rfl)) pgs_nil)))
        (pss_cons (ps_setLc (i := 8) (own := [("_law_row", 10)]) rfl sclaw.nd rfl rfl (sw_true rfl rfl rfl (by decide +kernel)) (pi_list (pv 6)) (blkOk_by (own := [("_law_row", 10)]) (N := nlaw) (sc := defScope slaw) (by decide +kernel)) (fun _ _ _ _ _ => (pg_name (i := 10) sclaw.nd rfl (Or.inl rfl) (Or.inr rfl))) (fun _ _ _ _ _ => pts_nil) (fun _ _ _ _ _ => (pe_callTy (call_list_ofK (K := K) rfl) (by rfl) b_list (by decide +kernel) (pa_cons (pv 10 rfl (Or.inl rfl)) pa_nil))))
      (pss_cons (ps_set (i := 9) sclaw.nd rfl (Or.inl rfl) (pe_callTy call_list_of (by rfl) b_list (by decide +kernel) (pa_cons (pv 7) pa_nil)))
      (pss_cons (ps_if (PW.pt (pw_or (pt_not (pt_val (C8.pe_c k__law_alike hr (by decide) rfl (pa_cons (C8.pe_c k_bound hr (by decide) rfl (pa_cons (pv 3) (pa_cons (pv 8) pa_nil))) (pa_cons (C8.pe_c k__law_bound hr (by decide) rfl (pa_cons (pv 2) (pa_cons (pv 6) pa_nil))) pa_nil))))) (pw_or1 (pt_cmpR (op_neD hr.units) (pv 8) (pv 6) (nomark _)))))
        (pss_one (ps_ret pe_bl))
        pss_nil)
      (pss_one (ps_if (PW.pt (pw_or (pt_not (pt_val (C8.pe_c k__law_alike hr (by decide) rfl (pa_cons (C8.pe_c k_lack hr (by decide) rfl (pa_cons (pv 3) (pa_cons (pv 9) pa_nil))) (pa_cons (C8.pe_c k__law_lack hr (by decide) rfl (pa_cons (pv 2) (pa_cons (pv 7) pa_nil))) pa_nil))))) (pw_or1 (pt_cmpR (op_neD hr.units) (pv 9) (pv 7) (nomark _)))))
        (pss_one (ps_ret pe_bl))
        pss_nil))))))
      (pss_one (ps_ret pe_bl)))))))), ?_⟩
    refine ⟨_, rfl, a, ns, rfl, ha, hn, fun b l H1 hb hl hbl s1 box => ?_⟩
    have B1 : Bx Ps b l (fun _ => none) H1 (fun _ => none) H1 := by
      refine ⟨Gr.refl ⟨fun _ _ e => (nomatch e), fun _ _ => rfl, fun c hc => ?_⟩, box, tbs.same s1, hbl, tbs.nin hb, tbs.nin hl⟩
      obtain ⟨z, ns', e1, e2, _⟩ := box
      rcases List.mem_cons.mp hc with rfl | hc
      · rw [e1]; exact fun z => nomatch z
      rcases List.mem_cons.mp hc with rfl | hc
      · rw [e2]; exact fun z => nomatch z
      · obtain ⟨ps, e, _⟩ := tbs.same s1 c hc
        rw [e]; exact fun z => nomatch z
    refine ⟨_, rfl, b, l, _, rfl, B1, fun t hi ra da sa rs ds ss G2 H2 B2 hR hG => ?_⟩
    have hh1 := hG.h1
    obtain ⟨h, rfl⟩ : ∃ h : Nat, hi = (h : Int) := ⟨hi.toNat, by omega⟩
    refine ⟨_, rfl, G2, t, _, ra, da, sa, rs, ds, ss, rfl, B2.wdP, B2.tabs, hR, hG, fun x G3 H3 g3 t3 hH => ?_⟩
    have B3 := B2.trans (B2.start.pure g3 t3)
    have hR3 := hR.sm g3.up
    refine ⟨_, rfl, _, rfl, b, l, G3, t, h, ra, da, sa, rs, ds, ss, rfl, B3.start, hR3, hG, fun p4 pa4 qa4 G4 H4 ps4 pls4 B4 e4 hp4 f4 hq4 o4 n4 => ?_⟩
    have u4 := B4.gr.up
    replace B4 := B3.trans B4
    refine ⟨_, rfl, _, rfl, b, l, G4, t, h, ra, da, sa, rs, ds, ss, rfl, B4.start, hR3.sm u4, hG, fun p5 pa5 qa5 G5 H5 ps5 pls5 B5 e5 hp5 f5 hq5 o5 n5 => ?_⟩
    have u5 := B5.gr.up
    replace B5 := B4.trans B5
    have d4 : DrawnAt K G5 h rs.length (.ref p4) := DrawnAt.same u5 ⟨p4, pa4, qa4, ps4, pls4, rfl, e4, hp4, f4, hq4, o4, n4⟩
    have d5 : DrawnAt K G5 h rs.length (.ref p5) := ⟨p5, pa5, qa5, ps5, pls5, rfl, e5, hp5, f5, hq5, o5, n5⟩
    have hR5 := (hR3.sm u4).sm u5
    have hH5 := (hH.same u4).same u5
    refine ⟨_, rfl, _, rfl, _, rfl, by show 3 ≤ sizeLine; decide, fun p6 hp6 => ?_⟩
    obtain ⟨G6, B6, u6, e6⟩ := B5.al (o := .lst [.ref p4, .ref p5, .ref p4]) hp6
    have hR6 := hR5.sm u6
    have hH6 := hH5.same u6
    have all6 : ∀ v ∈ [V.ref p4, V.ref p5, V.ref p4], DrawnAt K G6 h rs.length v := fun v hv => by
      simp only [List.mem_cons, List.mem_nil_iff, or_false] at hv
      rcases hv with rfl | rfl | rfl
      · exact d4.same u6
      · exact d5.same u6
      · exact d4.same u6
    refine ⟨p6, rfl, ⟨_, SqL.of (B6.wd.same _ _ e6)⟩, for_list (K := K) (a := p6) (xs := [V.ref p4, V.ref p5, V.ref p4]) (fun i σ H' => ∃ (o6 o7 o8 o9 : Option V), σ = [some (.ref a), some (.ref b), some (.ref t), some (.ref x), some (.ref p4), some (.ref p5), o6, o7, o8, o9, none] ∧ Gr Ps G6 (upd H5 p6 (.lst [.ref p4, .ref p5, .ref p4])) G6 H' ∧ Tabs Ps H') ⟨_, _, _, _, rfl, Gr.refl B6.wdP, B6.tabs⟩ (fun i σ H' _ ⟨_, _, _, _, _, g, _⟩ => SqL.of (g.wd.same _ _ e6)) ?_ ?_⟩
    · rintro i v σ H7 hv ⟨o6, o7, o8, o9, rfl, g7, t7⟩
      obtain ⟨tt, pa, qa, ps, pls, rfl, ett, ⟨xs, hxs, hps⟩, hfit, ⟨xq, hxq, hrq⟩, hpo, hpl⟩ := all6 v (List.mem_of_getElem? hv)
      refine ⟨tt, _, rfl, SqT.of (g7.wd.same _ _ ett), rfl, _, _, rfl, _, _, rfl, rfl, ?_⟩
      -- copies
      have hlen : xs.length = ps.length := Paired.length hps
      have hl12 := hfit.1
      have hh12 := hG.h12
      refine ⟨_, rfl, pa, rfl, ⟨xs, SqL.of (g7.wd.same _ _ hxs)⟩, fun D hD => ?_⟩
      have hDP := t7.nin hD
      have hD0 := g7.free' hD
      refine lc_list (K := K) (a := pa) (xs := xs) (fun i H' => ∃ (G' : Hp) (ys : List V), Gr Ps G6 (upd H5 p6 (.lst [.ref p4, .ref p5, .ref p4])) G' H' ∧ Tabs Ps H' ∧ H' D = some (.lst ys) ∧ G' D = none ∧ Paired (IntsL K G') ys (ps.take i)) ⟨G6, [], g7.trans (Gr.new g7.wd hD), t7.upd hDP, upd_same, g7.wd.free hD, .nil⟩ (fun i H' _ ⟨G', _, g, _⟩ => SqL.of (g.wd.same _ _ (g.up _ _ hxs))) ?_ ?_
      · rintro i y H8 hy ⟨G8, ys, g8, t8, hD8, gD8, hys⟩
        obtain ⟨row, erow, ar, rfl, har⟩ := paired_get hps hy
        have hi : i < ps.length := (List.getElem?_eq_some_iff.mp erow).1
        have lys : ys.length = i := by rw [Paired.length hys, List.length_take]; omega
        refine ⟨(by (repeat rw [wipe_set (by decide)]); exact wipe_wipe _ _), ?_⟩
        refine ⟨_, rfl, ar, _, rfl, .inl (g8.wd.same.seq (g8.up.seq har)), fun q9 hq9 => ?_⟩
        have nD9 : D ≠ q9 := ne_of_none hD8 hq9
        have g9 := g8.trans (Gr.alloc (o := .lst (row.map V.int)) g8.wd hq9)
        have u9 := (Gr.alloc (o := .lst (row.map V.int)) g8.wd hq9).up
        refine ⟨ys, by rw [upd_ne nD9]; exact hD8, small1000 (by omega), _, ys ++ [.ref q9], g9.poke hD0 (by rw [upd_ne nD9]; exact gD8), (t8.same (same_new hq9)).upd hDP, upd_same, by rw [upd_ne nD9]; exact gD8, ?_⟩
        rw [List.take_add_one, erow]
        exact paired_snoc (ints_same u9 hys) ⟨q9, rfl, SqL.of upd_same⟩
      · rintro H8 ⟨G8, ys, g8, t8, hD8, gD8, hys⟩
        rw [hlen, List.take_of_length_le (Nat.le_refl _)] at hys
        have g9 := g8.close hD0 hD8 hDP gD8
        have u9 := same_new (o := .lst ys) gD8
        have hPA : PricesA K (upd G8 D (.lst ys)) D ps := ⟨ys, SqL.of upd_same, ints_same u9 hys⟩
        generalize upd G8 D (.lst ys) = G9 at g9 u9 hPA
        refine ⟨_, rfl, qa, xq, rfl, .inl (SqL.of (g9.wd.same _ _ (g9.up _ _ hxq))), fun p10 hp10 => ?_⟩
        have g10 := g9.trans (Gr.alloc (o := .lst xq) g9.wd hp10)
        have u10 := (Gr.alloc (o := .lst xq) g9.wd hp10).up
        have t10 := t8.same (same_new (o := .lst xq) hp10)
        have hRo : Rows K (upd G9 p10 (.lst xq)) p10 pls := ⟨xq, SqL.of upd_same, rowsV_same g10.up hrq⟩
        replace hPA := hPA.same u10
        generalize upd G9 p10 (.lst xq) = G10 at g10 hRo hPA
        have hPL : PricesL K G10 pa ps := PricesL.same g10.up ⟨xs, hxs, hps⟩
        have hRq : Rows K G10 qa pls := Rows.same g10.up ⟨xq, SqL.of hxq, hrq⟩
        -- the bound
        refine ⟨_, rfl, _, rfl, G10, x, D, h, rs, ds, ss, ps, rfl, g10.wd, t10, hH6.same g10.up, hPA, hfit, fun H11 g11 t11 => ?_⟩
        refine ⟨_, rfl, _, rfl, G10, t, pa, h, ra, da, sa, rs, ds, ss, ps, rfl, g11.wd, t11, hR6.sm g10.up, hG, hPL, hfit, fun H12 g12 t12 => ?_⟩
        refine ⟨_, _, .int _, rfl, .int _, .int _, True.intro, _, rfl, ?_⟩
        refine iteF ?_
        have w12 := (g11.trans g12).wd
        refine ⟨_, rfl, _, rfl, dLL ps, dLL ps, dp_same w12.same hPA.dp, dp_same w12.same hPL.toA.dp, shaped_dLL _, shaped_dLL _, _, rfl, ?_⟩
        rw [eqv_dLL, decide_eq_true rfl]
        refine iteF ?_
        -- the lack
        refine ⟨_, rfl, _, rfl, G10, x, p10, h, rs, ds, ss, pls, rfl, w12, t12, hH6.same g10.up, hRo, hpo, hpl, fun H13 g13 t13 => ?_⟩
        refine ⟨_, rfl, _, rfl, G10, t, qa, h, ra, da, sa, rs, ds, ss, pls, rfl, g13.wd, t13, hR6.sm g10.up, hG, hRq, hpo, fun H14 g14 t14 => ?_⟩
        refine ⟨_, _, .int _, rfl, .int _, .int _, True.intro, _, rfl, ?_⟩
        refine iteF ?_
        have gZ := ((g11.trans g12).trans g13).trans g14
        refine ⟨_, rfl, _, rfl, dI pls, dI pls, dp_same gZ.wd.same hRo.dp, dp_same gZ.wd.same hRq.dp, shaped_dI _, shaped_dI _, _, rfl, ?_⟩
        rw [eqv_dI, decide_eq_true rfl]
        refine iteF ?_
        exact ⟨_, _, _, _, rfl, (g10.trans gZ).down B6.wdP, t14⟩
    · rintro σ H7 ⟨o6, o7, o8, o9, rfl, g7, t7⟩
      exact q _
end
end Cr
set_option Elab.async false
set_option linter.all false
set_option maxRecDepth 100000
set_option maxHeartbeats 4000000
namespace Cr
open PySem PySem.Spec PyProof.Rows L2
/-- what the law's promise asks of the head's heap -/
theorem fin_mk {P : Program} {w : World} {K : PySem.W.Frag} {h : Heap} {mg : Str → Option Value} {fa cHouse cAirError cBadHouse cN_numbers_can_be tN_numbers_can_be : Addr} {tMOST_HOURS tMOST_ROOMS tMOST_DOORS tMOST_STAYS tMOST_NUMBER : Tok}
    {nm_BadHouse : Str} {qb_BadHouse : Str} {Nb_BadHouse : Addr} {bs_BadHouse : List Value} {bm_BadHouse : List Value} {sn_BadHouse : List Str} {sub_BadHouse : List Value} {ab_BadHouse : Bool} {col_BadHouse : Option Bool} {dd_BadHouse : Option Addr} {m0_BadHouse : Option Value} {m1_BadHouse : Option Value} {m2_BadHouse : Option Value} {m3_BadHouse : Option Value} {m5_BadHouse : Option Value}
    (KX : K.In h) (G : h.Ns mainGlobals mg) (hfa : mg "law" = some (.ref fa))
    (a_House : PySem.W.nsIn K mainGlobals "House" = some (some (.ref cHouse)))
    (a_AirError : PySem.W.nsIn K mainGlobals "AirError" = some (some (.ref cAirError)))
    (a_BadHouse : PySem.W.nsIn K mainGlobals "BadHouse" = some (some (.ref cBadHouse)))
    (ai_rd : PySem.W.readsIn K cAirError (.type "type") = true)
    (ai_ga : PySem.W.specialIn K (.ref cAirError) "__getattribute__" = some (some (.builtin "type.__getattribute__")))
    (ai_iv : PySem.W.findCls K (.ref cAirError) (.type "type") "__init__" = some (.val (.builtin "ValueError.__init__")))
    (e_BadHouse : ErrF K cBadHouse "BadHouse.__init__" sBadHouse_init)
    (xL_BadHouse : K.lookup cBadHouse = some (excClassObj nm_BadHouse qb_BadHouse cBadHouse Nb_BadHouse bs_BadHouse bm_BadHouse true sn_BadHouse sub_BadHouse ab_BadHouse col_BadHouse dd_BadHouse m0_BadHouse m1_BadHouse m2_BadHouse m3_BadHouse m5_BadHouse "ValueError.__new__"))
    (xR_BadHouse : PySem.HandSPX.refsVE bm_BadHouse = true)
    (f_BadHouse_setattr : PySem.W.findIn K (.ref cBadHouse) "__setattr__" = some (some (.builtin "object.__setattr__")))
    (st_BadHouse_BaseException : PySem.W.subIn K (.ref cBadHouse) (.type "BaseException") = some true)
    (ty_BadHouse : PySem.W.typeIn K (.ref cBadHouse) = some (.type "type"))
    (kp_BadHouse : PySem.W.keepIn K (.ref cBadHouse) = true)
    (f_BadHouse_word : PySem.W.findIn K (.ref cBadHouse) "word" = some none)
    (f_BadHouse_number : PySem.W.findIn K (.ref cBadHouse) "number" = some none)
    (i_House : MetF K cHouse "__init__" "House.__init__" sHouse_init)
    (mk_House : PySem.W.makesIn K cHouse = true)
    (kp_House : PySem.W.keepIn K (.ref cHouse) = true)
    (pg_House : PySem.W.plainGet K cHouse Str.empty = true)
    (hd_House : PySem.W.hasDictIn K cHouse = true)
    (po_House : PySem.W.plainOver K cHouse = true)
    (f_House_setattr : PySem.W.findIn K (.ref cHouse) "__setattr__" = some (some (.builtin "object.__setattr__")))
    (f_House_hours : PySem.W.findIn K (.ref cHouse) "hours" = some none)
    (f_House_rooms_u : PySem.W.findIn K (.ref cHouse) "_rooms" = some none)
    (f_House_doors_u : PySem.W.findIn K (.ref cHouse) "_doors" = some none)
    (f_House_stays_u : PySem.W.findIn K (.ref cHouse) "_stays" = some none)
    (m_House_rooms : MetF K cHouse "rooms" "House.rooms" sHouse_rooms)
    (m_House_doors : MetF K cHouse "doors" "House.doors" sHouse_doors)
    (m_House_stays : MetF K cHouse "stays" "House.stays" sHouse_stays)
    (m_House_use : MetF K cHouse "use" "House.use" sHouse_use)
    (m_House_least : MetF K cHouse "least" "House.least" sHouse_least)
    (m_House__wants : MetF K cHouse "_wants" "House._wants" sHouse__wants)
    (d__check_counts : DefF K "_check_counts" s_check_counts)
    (d__check_parts : DefF K "_check_parts" s_check_parts)
    (d__room_can_be : DefF K "_room_can_be" s_room_can_be)
    (d__door_can_be : DefF K "_door_can_be" s_door_can_be)
    (d__stay_can_be : DefF K "_stay_can_be" s_stay_can_be)
    (aT_numbers_can_be : PySem.W.tabIn K "_numbers_can_be" = some (cN_numbers_can_be, tN_numbers_can_be))
    (nc_numbers_can_be : CodF K "_numbers_can_be" s_numbers_can_be cN_numbers_can_be)
    (g_MOST_HOURS : PySem.W.nsIn K mainGlobals "MOST_HOURS" = some (some (.int 12 tMOST_HOURS)))
    (g_MOST_ROOMS : PySem.W.nsIn K mainGlobals "MOST_ROOMS" = some (some (.int 6 tMOST_ROOMS)))
    (g_MOST_DOORS : PySem.W.nsIn K mainGlobals "MOST_DOORS" = some (some (.int 8 tMOST_DOORS)))
    (g_MOST_STAYS : PySem.W.nsIn K mainGlobals "MOST_STAYS" = some (some (.int 20 tMOST_STAYS)))
    (g_MOST_NUMBER : PySem.W.nsIn K mainGlobals "MOST_NUMBER" = some (some (.int 999 tMOST_NUMBER)))
    (z_all : PySem.W.nsIn K mainGlobals "all" = some none)
    (z_len : PySem.W.nsIn K mainGlobals "len" = some none)
    (z_max : PySem.W.nsIn K mainGlobals "max" = some none)
    (z_sum : PySem.W.nsIn K mainGlobals "sum" = some none)
    (z_list : PySem.W.nsIn K mainGlobals "list" = some none)
    (z_enumerate : PySem.W.nsIn K mainGlobals "enumerate" = some none)
    (d__law_begun : DefF K "_law_begun" s_law_begun)
    (d__law_take : DefF K "_law_take" s_law_take)
    (d__law_alike : DefF K "_law_alike" s_law_alike)
    (z_int : PySem.W.nsIn K mainGlobals "int" = some none)
    (z_bool : PySem.W.nsIn K mainGlobals "bool" = some none)
    (z_str : PySem.W.nsIn K mainGlobals "str" = some none)
    (z_tuple : PySem.W.nsIn K mainGlobals "tuple" = some none)
    (z_isinstance : PySem.W.nsIn K mainGlobals "isinstance" = some none)
    (z_range : PySem.W.nsIn K mainGlobals "range" = some none)
    (d__law_stay : DefF K "_law_stay" s_law_stay)
    (d__law_house : DefF K "_law_house" s_law_house)
    (z_min : PySem.W.nsIn K mainGlobals "min" = some none)
    (d__law_here : DefF K "_law_here" s_law_here)
    (d__law_use : DefF K "_law_use" s_law_use)
    (d__law_least : DefF K "_law_least" s_law_least)
    (d__law_made : DefF K "_law_made" s_law_made)
    (d_bound : DefF K "bound" sbound)
    (d__room_bound : DefF K "_room_bound" s_room_bound)
    (d__price : DefF K "_price" s_price)
    (z_abs : PySem.W.nsIn K mainGlobals "abs" = some none)
    (d_lack : DefF K "lack" slack)
    (d__is_place : DefF K "_is_place" s_is_place)
    (d__place_lack : DefF K "_place_lack" s_place_lack)
    (d__law_bound : DefF K "_law_bound" s_law_bound)
    (d__law_lack : DefF K "_law_lack" s_law_lack)
    (d__law_drawn : DefF K "_law_drawn" s_law_drawn)
    (d_law : DefF K "law" slaw) :
    ∃ fd : FuncData, (∀ (s : Shared) (v : Value), BindsTo s fd ⟨[v], []⟩ [("_law_script", v)]) ∧ ∀ base : Heap, K.In base → base.Ns mainGlobals mg → GxR.TabB base mg cN_numbers_can_be tN_numbers_can_be → FnOk P w K mg base CX0 7 fa fd ["_law_script"] (spLaw K [tN_numbers_can_be]) := by
  have L : DefR K mg "law" slaw alaw := (d_law.r KX G (fun _ _ _ _ _ _ us hl => match us, hl with | [_], _ => rfl))
  obtain ⟨f, fd, FL, hm, bi⟩ := id L
  have e := hfa.symm.trans hm
  cases e
  refine ⟨fd, fun s v => ?_, fun base hb hg TB_numbers_can_be => ?_⟩
  · obtain ⟨oc, od, kV, doc, pm, an, cd, ct, sl, efd, _⟩ := FL.ex
    subst efd
    exact .of_eq rfl
  · have RP : RawP K mg base ⟨cHouse, cAirError, .type "type", cBadHouse, cN_numbers_can_be, tN_numbers_can_be⟩ := {
      airI := ⟨ai_rd, ai_ga, ai_iv⟩, m_AirError := (PySem.W.mg_of KX G a_AirError), bh := (e_BadHouse.r (show OexC K cBadHouse from ⟨⟨nm_BadHouse, qb_BadHouse, Nb_BadHouse, bs_BadHouse, bm_BadHouse, sn_BadHouse, sub_BadHouse, ab_BadHouse, col_BadHouse, dd_BadHouse, m0_BadHouse, m1_BadHouse, m2_BadHouse, m3_BadHouse, m5_BadHouse, xL_BadHouse, xR_BadHouse⟩, f_BadHouse_setattr, st_BadHouse_BaseException, ty_BadHouse, kp_BadHouse⟩) (PySem.W.mg_of KX G a_BadHouse) (fun _ _ _ _ _ _ us hl => match us, hl with | [_, _, _], _ => rfl)), bhw := f_BadHouse_word, bhn := f_BadHouse_number
      hi := (i_House.ini (PySem.W.mg_of KX G a_House) mk_House kp_House (fun _ _ _ _ _ _ us hl => match us, hl with | [_, _, _, _, _], _ => rfl)), hcl := ⟨pg_House, hd_House, po_House, f_House_setattr⟩, hnh := f_House_hours, hnr := f_House_rooms_u, hnd := f_House_doors_u, hns := f_House_stays_u
      hro := (m_House_rooms.r (fun _ _ _ _ _ _ us hl => match us, hl with | [_], _ => rfl))
      hdo := (m_House_doors.r (fun _ _ _ _ _ _ us hl => match us, hl with | [_], _ => rfl))
      hst := (m_House_stays.r (fun _ _ _ _ _ _ us hl => match us, hl with | [_], _ => rfl))
      hus := (m_House_use.r (fun _ _ _ _ _ _ us hl => match us, hl with | [_, _, _], _ => rfl))
      hle := (m_House_least.r (fun _ _ _ _ _ _ us hl => match us, hl with | [_, _, _], _ => rfl))
      hwa := (m_House__wants.r (fun _ _ _ _ _ _ us hl => match us, hl with | [_, _, _], _ => rfl))
      cc := (d__check_counts.r KX G (fun _ _ _ _ _ _ us hl => match us, hl with | [_, _, _, _], _ => rfl))
      cp := (d__check_parts.r KX G (fun _ _ _ _ _ _ us hl => match us, hl with | [_, _, _, _], _ => rfl))
      rc := (d__room_can_be.r KX G (fun _ _ _ _ _ _ us hl => match us, hl with | [_], _ => rfl))
      dc := (d__door_can_be.r KX G (fun _ _ _ _ _ _ us hl => match us, hl with | [_, _], _ => rfl))
      sc := (d__stay_can_be.r KX G (fun _ _ _ _ _ _ us hl => match us, hl with | [_, _, _], _ => rfl))
      nc := (nc_numbers_can_be.r KX G TB_numbers_can_be (fun _ _ _ _ _ _ us hl => match us, hl with | [_], _ => rfl))
      gH := ⟨_, PySem.W.mg_of KX G g_MOST_HOURS⟩
      gR := ⟨_, PySem.W.mg_of KX G g_MOST_ROOMS⟩
      gD := ⟨_, PySem.W.mg_of KX G g_MOST_DOORS⟩
      gS := ⟨_, PySem.W.mg_of KX G g_MOST_STAYS⟩
      gN := ⟨_, PySem.W.mg_of KX G g_MOST_NUMBER⟩
      b_all := PySem.W.mg_none_of KX G z_all, b_len := PySem.W.mg_none_of KX G z_len, b_max := PySem.W.mg_none_of KX G z_max, b_sum := PySem.W.mg_none_of KX G z_sum, b_list := PySem.W.mg_none_of KX G z_list, b_enumerate := PySem.W.mg_none_of KX G z_enumerate }
    have RL : RawL K mg := {
      begun := (d__law_begun.r KX G (fun _ _ _ _ _ _ us hl => match us, hl with | [_], _ => rfl)), take := (d__law_take.r KX G (fun _ _ _ _ _ _ us hl => match us, hl with | [_, _], _ => rfl))
      alike := (d__law_alike.r KX G (fun _ _ _ _ _ _ us hl => match us, hl with | [_, _], _ => rfl))
      b_len := PySem.W.mg_none_of KX G z_len, b_list := PySem.W.mg_none_of KX G z_list, b_int := PySem.W.mg_none_of KX G z_int, b_bool := PySem.W.mg_none_of KX G z_bool, b_str := PySem.W.mg_none_of KX G z_str, b_tuple := PySem.W.mg_none_of KX G z_tuple, b_isinstance := PySem.W.mg_none_of KX G z_isinstance, b_range := PySem.W.mg_none_of KX G z_range }
    have RH : RawH K mg := { RL with lstay := (d__law_stay.r KX G (fun _ _ _ _ _ _ us hl => match us, hl with | [_, _, _], _ => rfl)), lhouse := (d__law_house.r KX G (fun _ _ _ _ _ _ us hl => match us, hl with | [_], _ => rfl)), b_min := PySem.W.mg_none_of KX G z_min }
    have RU : RawU K mg := { RH with lhere := (d__law_here.r KX G (fun _ _ _ _ _ _ us hl => match us, hl with | [_, _, _], _ => rfl)), luse := (d__law_use.r KX G (fun _ _ _ _ _ _ us hl => match us, hl with | [_, _, _], _ => rfl)), lleast := (d__law_least.r KX G (fun _ _ _ _ _ _ us hl => match us, hl with | [_, _, _], _ => rfl)), b_sum := PySem.W.mg_none_of KX G z_sum, b_max := PySem.W.mg_none_of KX G z_max }
    have RM : RawM K mg base ⟨cHouse, cAirError, .type "type", cBadHouse, cN_numbers_can_be, tN_numbers_can_be⟩ := { RH, RP with made := (d__law_made.r KX G (fun _ _ _ _ _ _ us hl => match us, hl with | [_], _ => rfl)) }
    have RPa : RawPa K mg base ⟨cHouse, cAirError, .type "type", cBadHouse, cN_numbers_can_be, tN_numbers_can_be⟩ := { RP with bnd := (d_bound.r KX G (fun _ _ _ _ _ _ us hl => match us, hl with | [_, _], _ => rfl)), rbd := (d__room_bound.r KX G (fun _ _ _ _ _ _ us hl => match us, hl with | [_, _, _, _], _ => rfl)), prc := (d__price.r KX G (fun _ _ _ _ _ _ us hl => match us, hl with | [_, _, _, _], _ => rfl)), b_range := PySem.W.mg_none_of KX G z_range, b_min := PySem.W.mg_none_of KX G z_min, b_abs := PySem.W.mg_none_of KX G z_abs }
    have RLk2 : RawLk2 K mg base ⟨cHouse, cAirError, .type "type", cBadHouse, cN_numbers_can_be, tN_numbers_can_be⟩ := { RPa with lak := (d_lack.r KX G (fun _ _ _ _ _ _ us hl => match us, hl with | [_, _], _ => rfl)), isp := (d__is_place.r KX G (fun _ _ _ _ _ _ us hl => match us, hl with | [_, _, _], _ => rfl)), pla := (d__place_lack.r KX G (fun _ _ _ _ _ _ us hl => match us, hl with | [_, _, _, _], _ => rfl)) }
    have RLb : RawLb K mg := { RU with lbnd := (d__law_bound.r KX G (fun _ _ _ _ _ _ us hl => match us, hl with | [_, _], _ => rfl)), b_abs := PySem.W.mg_none_of KX G z_abs }
    have RLl : RawLl K mg := { RU with llak := (d__law_lack.r KX G (fun _ _ _ _ _ _ us hl => match us, hl with | [_, _], _ => rfl)) }
    have RLd : RawLd K mg := { RU with ldrn := (d__law_drawn.r KX G (fun _ _ _ _ _ _ us hl => match us, hl with | [_, _], _ => rfl)) }
    have RA : RawA K mg base ⟨cHouse, cAirError, .type "type", cBadHouse, cN_numbers_can_be, tN_numbers_can_be⟩ := { RM, RLk2, RLb, RLl, RLd with }
    exact c_law RA (by simp) FL
theorem law_at {l : PySem.W.OpenLaw} {p : Program} {lo : List Str} {mean : ExcName → Option Value} {mb : Str → Option Value} {d_numbers_can_be : DefRec} {w : World} {K : PySem.W.Frag} {h : Heap} {mg : Str → Option Value} {fa cHouse cAirError cBadHouse cN_numbers_can_be tN_numbers_can_be : Addr} {tMOST_HOURS tMOST_ROOMS tMOST_DOORS tMOST_STAYS tMOST_NUMBER : Tok}
    {nm_BadHouse : Str} {qb_BadHouse : Str} {Nb_BadHouse : Addr} {bs_BadHouse : List Value} {bm_BadHouse : List Value} {sn_BadHouse : List Str} {sub_BadHouse : List Value} {ab_BadHouse : Bool} {col_BadHouse : Option Bool} {dd_BadHouse : Option Addr} {m0_BadHouse : Option Value} {m1_BadHouse : Option Value} {m2_BadHouse : Option Value} {m3_BadHouse : Option Value} {m5_BadHouse : Option Value}
    (T : Top p lo mean mg mb h) (KX : K.In h) (G : h.Ns mainGlobals mg) (hfa : mg "law" = some (.ref fa)) (tr_numbers_can_be : (recsOf p).find? (fun e => e.name == ("_numbers_can_be" : Str)) = some d_numbers_can_be)
    (a_House : PySem.W.nsIn K mainGlobals "House" = some (some (.ref cHouse)))
    (a_AirError : PySem.W.nsIn K mainGlobals "AirError" = some (some (.ref cAirError)))
    (a_BadHouse : PySem.W.nsIn K mainGlobals "BadHouse" = some (some (.ref cBadHouse)))
    (ai_rd : PySem.W.readsIn K cAirError (.type "type") = true)
    (ai_ga : PySem.W.specialIn K (.ref cAirError) "__getattribute__" = some (some (.builtin "type.__getattribute__")))
    (ai_iv : PySem.W.findCls K (.ref cAirError) (.type "type") "__init__" = some (.val (.builtin "ValueError.__init__")))
    (e_BadHouse : ErrF K cBadHouse "BadHouse.__init__" sBadHouse_init)
    (xL_BadHouse : K.lookup cBadHouse = some (excClassObj nm_BadHouse qb_BadHouse cBadHouse Nb_BadHouse bs_BadHouse bm_BadHouse true sn_BadHouse sub_BadHouse ab_BadHouse col_BadHouse dd_BadHouse m0_BadHouse m1_BadHouse m2_BadHouse m3_BadHouse m5_BadHouse "ValueError.__new__"))
    (xR_BadHouse : PySem.HandSPX.refsVE bm_BadHouse = true)
    (f_BadHouse_setattr : PySem.W.findIn K (.ref cBadHouse) "__setattr__" = some (some (.builtin "object.__setattr__")))
    (st_BadHouse_BaseException : PySem.W.subIn K (.ref cBadHouse) (.type "BaseException") = some true)
    (ty_BadHouse : PySem.W.typeIn K (.ref cBadHouse) = some (.type "type"))
    (kp_BadHouse : PySem.W.keepIn K (.ref cBadHouse) = true)
    (f_BadHouse_word : PySem.W.findIn K (.ref cBadHouse) "word" = some none)
    (f_BadHouse_number : PySem.W.findIn K (.ref cBadHouse) "number" = some none)
    (i_House : MetF K cHouse "__init__" "House.__init__" sHouse_init)
    (mk_House : PySem.W.makesIn K cHouse = true)
    (kp_House : PySem.W.keepIn K (.ref cHouse) = true)
    (pg_House : PySem.W.plainGet K cHouse Str.empty = true)
    (hd_House : PySem.W.hasDictIn K cHouse = true)
    (po_House : PySem.W.plainOver K cHouse = true)
    (f_House_setattr : PySem.W.findIn K (.ref cHouse) "__setattr__" = some (some (.builtin "object.__setattr__")))
    (f_House_hours : PySem.W.findIn K (.ref cHouse) "hours" = some none)
    (f_House_rooms_u : PySem.W.findIn K (.ref cHouse) "_rooms" = some none)
    (f_House_doors_u : PySem.W.findIn K (.ref cHouse) "_doors" = some none)
    (f_House_stays_u : PySem.W.findIn K (.ref cHouse) "_stays" = some none)
    (m_House_rooms : MetF K cHouse "rooms" "House.rooms" sHouse_rooms)
    (m_House_doors : MetF K cHouse "doors" "House.doors" sHouse_doors)
    (m_House_stays : MetF K cHouse "stays" "House.stays" sHouse_stays)
    (m_House_use : MetF K cHouse "use" "House.use" sHouse_use)
    (m_House_least : MetF K cHouse "least" "House.least" sHouse_least)
    (m_House__wants : MetF K cHouse "_wants" "House._wants" sHouse__wants)
    (d__check_counts : DefF K "_check_counts" s_check_counts)
    (d__check_parts : DefF K "_check_parts" s_check_parts)
    (d__room_can_be : DefF K "_room_can_be" s_room_can_be)
    (d__door_can_be : DefF K "_door_can_be" s_door_can_be)
    (d__stay_can_be : DefF K "_stay_can_be" s_stay_can_be)
    (aT_numbers_can_be : PySem.W.tabIn K "_numbers_can_be" = some (cN_numbers_can_be, tN_numbers_can_be))
    (nc_numbers_can_be : CodF K "_numbers_can_be" s_numbers_can_be cN_numbers_can_be)
    (g_MOST_HOURS : PySem.W.nsIn K mainGlobals "MOST_HOURS" = some (some (.int 12 tMOST_HOURS)))
    (g_MOST_ROOMS : PySem.W.nsIn K mainGlobals "MOST_ROOMS" = some (some (.int 6 tMOST_ROOMS)))
    (g_MOST_DOORS : PySem.W.nsIn K mainGlobals "MOST_DOORS" = some (some (.int 8 tMOST_DOORS)))
    (g_MOST_STAYS : PySem.W.nsIn K mainGlobals "MOST_STAYS" = some (some (.int 20 tMOST_STAYS)))
    (g_MOST_NUMBER : PySem.W.nsIn K mainGlobals "MOST_NUMBER" = some (some (.int 999 tMOST_NUMBER)))
    (z_all : PySem.W.nsIn K mainGlobals "all" = some none)
    (z_len : PySem.W.nsIn K mainGlobals "len" = some none)
    (z_max : PySem.W.nsIn K mainGlobals "max" = some none)
    (z_sum : PySem.W.nsIn K mainGlobals "sum" = some none)
    (z_list : PySem.W.nsIn K mainGlobals "list" = some none)
    (z_enumerate : PySem.W.nsIn K mainGlobals "enumerate" = some none)
    (d__law_begun : DefF K "_law_begun" s_law_begun)
    (d__law_take : DefF K "_law_take" s_law_take)
    (d__law_alike : DefF K "_law_alike" s_law_alike)
    (z_int : PySem.W.nsIn K mainGlobals "int" = some none)
    (z_bool : PySem.W.nsIn K mainGlobals "bool" = some none)
    (z_str : PySem.W.nsIn K mainGlobals "str" = some none)
    (z_tuple : PySem.W.nsIn K mainGlobals "tuple" = some none)
    (z_isinstance : PySem.W.nsIn K mainGlobals "isinstance" = some none)
    (z_range : PySem.W.nsIn K mainGlobals "range" = some none)
    (d__law_stay : DefF K "_law_stay" s_law_stay)
    (d__law_house : DefF K "_law_house" s_law_house)
    (z_min : PySem.W.nsIn K mainGlobals "min" = some none)
    (d__law_here : DefF K "_law_here" s_law_here)
    (d__law_use : DefF K "_law_use" s_law_use)
    (d__law_least : DefF K "_law_least" s_law_least)
    (d__law_made : DefF K "_law_made" s_law_made)
    (d_bound : DefF K "bound" sbound)
    (d__room_bound : DefF K "_room_bound" s_room_bound)
    (d__price : DefF K "_price" s_price)
    (z_abs : PySem.W.nsIn K mainGlobals "abs" = some none)
    (d_lack : DefF K "lack" slack)
    (d__is_place : DefF K "_is_place" s_is_place)
    (d__place_lack : DefF K "_place_lack" s_place_lack)
    (d__law_bound : DefF K "_law_bound" s_law_bound)
    (d__law_lack : DefF K "_law_lack" s_law_lack)
    (d__law_drawn : DefF K "_law_drawn" s_law_drawn)
    (d_law : DefF K "law" slaw)
    (tn_numbers_can_be : K.lookup tN_numbers_can_be = none) : LamX.LawAtS l w K CX0 7 63 "_law_script" mg fa h := by
  obtain ⟨ch_numbers_can_be, ct_numbers_can_be⟩ := PySem.W.tab_of T KX tr_numbers_can_be aT_numbers_can_be
  obtain ⟨fd, hb, hF⟩ := fin_mk (P := l.prog) (w := w) KX G hfa a_House a_AirError a_BadHouse ai_rd ai_ga ai_iv e_BadHouse xL_BadHouse xR_BadHouse f_BadHouse_setattr st_BadHouse_BaseException ty_BadHouse kp_BadHouse f_BadHouse_word f_BadHouse_number i_House mk_House kp_House pg_House hd_House po_House f_House_setattr f_House_hours f_House_rooms_u f_House_doors_u f_House_stays_u m_House_rooms m_House_doors m_House_stays m_House_use m_House_least m_House__wants d__check_counts d__check_parts d__room_can_be d__door_can_be d__stay_can_be aT_numbers_can_be nc_numbers_can_be g_MOST_HOURS g_MOST_ROOMS g_MOST_DOORS g_MOST_STAYS g_MOST_NUMBER z_all z_len z_max z_sum z_list z_enumerate d__law_begun d__law_take d__law_alike z_int z_bool z_str z_tuple z_isinstance z_range d__law_stay d__law_house z_min d__law_here d__law_use d__law_least d__law_made d_bound d__room_bound d__price z_abs d_lack d__is_place d__place_lack d__law_bound d__law_lack d__law_drawn d_law
  refine ⟨fd, [(cN_numbers_can_be, tN_numbers_can_be)], spLaw K [tN_numbers_can_be], fun p hp => ?_, fun p hp => ?_, fun p hp => ?_, hb, fun H a ns hl _ hT hS => ⟨a, ns, rfl, hS, hl, fun P hP => ?_, fun _ => rfl⟩, fun base hKb hg TB => hF base hKb hg ?_⟩
  · simp only [List.mem_cons, List.mem_nil_iff, or_false] at hp
    have e := hp
    · rw [e]; exact ct_numbers_can_be
  · simp only [List.mem_cons, List.mem_nil_iff, or_false] at hp
    have e := hp
    · rw [e]; exact tn_numbers_can_be
  · simp only [List.mem_cons, List.mem_nil_iff, or_false] at hp
    have e := hp
    · rw [e]; exact ch_numbers_can_be
  · simp only [List.mem_cons, List.mem_nil_iff, or_false] at hP
    have e := hP
    · rw [e]; exact ⟨#[], hT (cN_numbers_can_be, tN_numbers_can_be) (by simp), True.intro⟩
  · have t := TB (cN_numbers_can_be, tN_numbers_can_be) (by simp)
    exact ⟨t.code, t.bm, t.gP⟩
end Cr
open PySem PySem.W PyProof.Rows
set_option maxRecDepth 100000 in
set_option maxHeartbeats 0 in
theorem PySem.Challenge.cw_candleroom_k07_bounds_and_lacks_holds : PySem.Challenge.rw_candleroom_k07_bounds_and_lacks.Holds := by
  w_on; o_law; k_head; (case hw => w_witness2)
  k_fill
  refine Cr.walk_tab (l := PySem.Challenge.rw_candleroom_k07_bounds_and_lacks) (n := 63) (k := 7) (CX := fun _ => L2.CX0) (x := "_law_script") rfl (by decide) rfl ⟨rfl, by decide, by decide⟩ (fun w h Y => PySem.W.kIn_of Y) ?F (fun _ _ _ _ _ z => z)
  case F =>
    intro w s₀ mg mb fa h GG KX G hmg
    refine' Cr.law_at GG.T KX G hmg ?tr_numbers_can_be ?a_House ?a_AirError ?a_BadHouse ?ai_rd ?ai_ga ?ai_iv ?e_BadHouse ?xL_BadHouse ?xR_BadHouse ?f_BadHouse_setattr ?st_BadHouse_BaseException ?ty_BadHouse ?kp_BadHouse ?f_BadHouse_word ?f_BadHouse_number ?i_House ?mk_House ?kp_House ?pg_House ?hd_House ?po_House ?f_House_setattr ?f_House_hours ?f_House_rooms_u ?f_House_doors_u ?f_House_stays_u ?m_House_rooms ?m_House_doors ?m_House_stays ?m_House_use ?m_House_least ?m_House__wants ?d__check_counts ?d__check_parts ?d__room_can_be ?d__door_can_be ?d__stay_can_be ?aT_numbers_can_be ?nc_numbers_can_be ?g_MOST_HOURS ?g_MOST_ROOMS ?g_MOST_DOORS ?g_MOST_STAYS ?g_MOST_NUMBER ?z_all ?z_len ?z_max ?z_sum ?z_list ?z_enumerate ?d__law_begun ?d__law_take ?d__law_alike ?z_int ?z_bool ?z_str ?z_tuple ?z_isinstance ?z_range ?d__law_stay ?d__law_house ?z_min ?d__law_here ?d__law_use ?d__law_least ?d__law_made ?d_bound ?d__room_bound ?d__price ?z_abs ?d_lack ?d__is_place ?d__place_lack ?d__law_bound ?d__law_lack ?d__law_drawn ?d_law ?tn_numbers_can_be
    (case aT_numbers_can_be => first | rfl | kernel_rfl)
    (case tr_numbers_can_be => rfl)
    (case tn_numbers_can_be => first | kernel_rfl | rfl)
    (case a_House => k_is)
    (case a_AirError => k_is)
    (case a_BadHouse => k_is)
    (case ai_rd => k_is)
    (case ai_ga => k_is)
    (case ai_iv => k_is)
    (case e_BadHouse => (refine' Cr.ErrF.mk ?za ?zi ?zl ?zc ?zk; (case za => k_is); (case zi => k_is); (case zl => k_is); (case zc => k_is); (case zk => k_is)))
    (case xL_BadHouse => k_is)
    (case xR_BadHouse => decide +kernel)
    (case f_BadHouse_setattr => k_is)
    (case st_BadHouse_BaseException => k_is)
    (case ty_BadHouse => k_is)
    (case kp_BadHouse => k_is)
    (case f_BadHouse_word => k_is)
    (case f_BadHouse_number => k_is)
    (case i_House => (refine' Cr.MetF.mk ?za ?zi ?zl ?zc ?zk; (case za => k_is); (case zi => k_is); (case zl => k_is); (case zc => k_is); (case zk => k_is)))
    (case mk_House => k_is)
    (case kp_House => k_is)
    (case pg_House => k_is)
    (case hd_House => k_is)
    (case po_House => k_is)
    (case f_House_setattr => k_is)
    (case f_House_hours => k_is)
    (case f_House_rooms_u => k_is)
    (case f_House_doors_u => k_is)
    (case f_House_stays_u => k_is)
    (case m_House_rooms => (refine' Cr.MetF.mk ?za ?zi ?zl ?zc ?zk; (case za => k_is); (case zi => k_is); (case zl => k_is); (case zc => k_is); (case zk => k_is)))
    (case m_House_doors => (refine' Cr.MetF.mk ?za ?zi ?zl ?zc ?zk; (case za => k_is); (case zi => k_is); (case zl => k_is); (case zc => k_is); (case zk => k_is)))
    (case m_House_stays => (refine' Cr.MetF.mk ?za ?zi ?zl ?zc ?zk; (case za => k_is); (case zi => k_is); (case zl => k_is); (case zc => k_is); (case zk => k_is)))
    (case m_House_use => (refine' Cr.MetF.mk ?za ?zi ?zl ?zc ?zk; (case za => k_is); (case zi => k_is); (case zl => k_is); (case zc => k_is); (case zk => k_is)))
    (case m_House_least => (refine' Cr.MetF.mk ?za ?zi ?zl ?zc ?zk; (case za => k_is); (case zi => k_is); (case zl => k_is); (case zc => k_is); (case zk => k_is)))
    (case m_House__wants => (refine' Cr.MetF.mk ?za ?zi ?zl ?zc ?zk; (case za => k_is); (case zi => k_is); (case zl => k_is); (case zc => k_is); (case zk => k_is)))
    (case d__check_counts => (refine' Cr.DefF.mk ?za ?zl ?zc ?zk; (case za => k_is); (case zl => k_is); (case zc => k_is); (case zk => k_is)))
    (case d__check_parts => (refine' Cr.DefF.mk ?za ?zl ?zc ?zk; (case za => k_is); (case zl => k_is); (case zc => k_is); (case zk => k_is)))
    (case d__room_can_be => (refine' Cr.DefF.mk ?za ?zl ?zc ?zk; (case za => k_is); (case zl => k_is); (case zc => k_is); (case zk => k_is)))
    (case d__door_can_be => (refine' Cr.DefF.mk ?za ?zl ?zc ?zk; (case za => k_is); (case zl => k_is); (case zc => k_is); (case zk => k_is)))
    (case d__stay_can_be => (refine' Cr.DefF.mk ?za ?zl ?zc ?zk; (case za => k_is); (case zl => k_is); (case zc => k_is); (case zk => k_is)))
    (case nc_numbers_can_be => (refine' Cr.CodF.mk ?za ?zl ?zc ?zk; (case za => k_is); (case zl => k_is); (case zc => k_is); (case zk => k_is)))
    (case g_MOST_HOURS => k_is)
    (case g_MOST_ROOMS => k_is)
    (case g_MOST_DOORS => k_is)
    (case g_MOST_STAYS => k_is)
    (case g_MOST_NUMBER => k_is)
    (case z_all => k_is)
    (case z_len => k_is)
    (case z_max => k_is)
    (case z_sum => k_is)
    (case z_list => k_is)
    (case z_enumerate => k_is)
    (case d__law_begun => (refine' Cr.DefF.mk ?za ?zl ?zc ?zk; (case za => k_is); (case zl => k_is); (case zc => k_is); (case zk => k_is)))
    (case d__law_take => (refine' Cr.DefF.mk ?za ?zl ?zc ?zk; (case za => k_is); (case zl => k_is); (case zc => k_is); (case zk => k_is)))
    (case d__law_alike => (refine' Cr.DefF.mk ?za ?zl ?zc ?zk; (case za => k_is); (case zl => k_is); (case zc => k_is); (case zk => k_is)))
    (case z_int => k_is)
    (case z_bool => k_is)
    (case z_str => k_is)
    (case z_tuple => k_is)
    (case z_isinstance => k_is)
    (case z_range => k_is)
    (case d__law_stay => (refine' Cr.DefF.mk ?za ?zl ?zc ?zk; (case za => k_is); (case zl => k_is); (case zc => k_is); (case zk => k_is)))
    (case d__law_house => (refine' Cr.DefF.mk ?za ?zl ?zc ?zk; (case za => k_is); (case zl => k_is); (case zc => k_is); (case zk => k_is)))
    (case z_min => k_is)
    (case d__law_here => (refine' Cr.DefF.mk ?za ?zl ?zc ?zk; (case za => k_is); (case zl => k_is); (case zc => k_is); (case zk => k_is)))
    (case d__law_use => (refine' Cr.DefF.mk ?za ?zl ?zc ?zk; (case za => k_is); (case zl => k_is); (case zc => k_is); (case zk => k_is)))
    (case d__law_least => (refine' Cr.DefF.mk ?za ?zl ?zc ?zk; (case za => k_is); (case zl => k_is); (case zc => k_is); (case zk => k_is)))
    (case d__law_made => (refine' Cr.DefF.mk ?za ?zl ?zc ?zk; (case za => k_is); (case zl => k_is); (case zc => k_is); (case zk => k_is)))
    (case d_bound => (refine' Cr.DefF.mk ?za ?zl ?zc ?zk; (case za => k_is); (case zl => k_is); (case zc => k_is); (case zk => k_is)))
    (case d__room_bound => (refine' Cr.DefF.mk ?za ?zl ?zc ?zk; (case za => k_is); (case zl => k_is); (case zc => k_is); (case zk => k_is)))
    (case d__price => (refine' Cr.DefF.mk ?za ?zl ?zc ?zk; (case za => k_is); (case zl => k_is); (case zc => k_is); (case zk => k_is)))
    (case z_abs => k_is)
    (case d_lack => (refine' Cr.DefF.mk ?za ?zl ?zc ?zk; (case za => k_is); (case zl => k_is); (case zc => k_is); (case zk => k_is)))
    (case d__is_place => (refine' Cr.DefF.mk ?za ?zl ?zc ?zk; (case za => k_is); (case zl => k_is); (case zc => k_is); (case zk => k_is)))
    (case d__place_lack => (refine' Cr.DefF.mk ?za ?zl ?zc ?zk; (case za => k_is); (case zl => k_is); (case zc => k_is); (case zk => k_is)))
    (case d__law_bound => (refine' Cr.DefF.mk ?za ?zl ?zc ?zk; (case za => k_is); (case zl => k_is); (case zc => k_is); (case zk => k_is)))
    (case d__law_lack => (refine' Cr.DefF.mk ?za ?zl ?zc ?zk; (case za => k_is); (case zl => k_is); (case zc => k_is); (case zk => k_is)))
    (case d__law_drawn => (refine' Cr.DefF.mk ?za ?zl ?zc ?zk; (case za => k_is); (case zl => k_is); (case zc => k_is); (case zk => k_is)))
    (case d_law => (refine' Cr.DefF.mk ?za ?zl ?zc ?zk; (case za => k_is); (case zl => k_is); (case zc => k_is); (case zk => k_is)))
