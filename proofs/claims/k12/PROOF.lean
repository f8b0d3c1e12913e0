import PyProof.Rows.All
import Wide.All
import OpenK.AllK
import Wide.FinOn
import KE.KExcIs
import PyProof.GenCompD
import KE.DataMinMax
import HandS.ForMost
import HandS.Exc
import HandS.TryOnly
import HandS.ExcOwn
import HandS.WordsExc
import HandS.ExcInit
import HandS.ExcIs
import HandS.ExcField
import HandS.IsInst
import HandS.FStr
import HandS.AnyAll
import HandS.SortKw
import HandS.CallSlots
import HandS.EndTab
import HandS.StrMore
import HandS.More
import HandS.Text
import HandS.Strs
import HandS.RaiseMore
import HandS.Zip
import HandS.Walk
import HandS.Deep
import KE.KEqDeep
import PySem.Challenge.RW_candleroom_k12_texts_refused
set_option Elab.async false
set_option linter.all false
set_option maxRecDepth 100000
set_option maxHeartbeats 4000000
/-! Further rules: max with a default, max of a tuple, the base's __init__ of an own error, all of a test over a tuple of ints, a class made in a try -/
namespace Cr
open PySem PySem.Spec PyProof.Rows L2

theorem dpAll_ints {K : PySem.W.Frag} {H : Hp} : ∀ ns : List Int, DpAll K H (ns.map V.int) (ns.map PyData.int)
  | [] => .nil
  | n :: r => .cons (.int n) (dpAll_ints r)
theorem alike_ints (ns : List Int) : PySem.W.AlikeAll (ns.map PyData.int) := by
  refine ⟨fun x hx y hy => ?_, fun x hx => ?_⟩
  · obtain ⟨i, _, rfl⟩ := List.mem_map.mp hx
    obtain ⟨j, _, rfl⟩ := List.mem_map.mp hy
    rfl
  · obtain ⟨i, _, rfl⟩ := List.mem_map.mp hx
    intro h
    cases h
theorem depth_ints : ∀ ns : List Int, PyData.depthAll (ns.map PyData.int) ≤ 1
  | [] => by simp [PyData.depthAll]
  | n :: r => by
    have ih := depth_ints r
    rw [List.map_cons]
    simp only [PyData.depthAll, PyData.depth]
    omega
theorem reads_int {h : Heap} {v : Value} {i : Int} {as : List Addr} (r : Reads h v (.int i) as) : ∃ t, v = .int i t := by
  cases r with
  | int i t => exact ⟨t, rfl⟩
section
variable {X : Cx}
/-- max(xs, default=d) of a list of ints -/
def rMaxDf (K : PySem.W.Frag) : List V → List V → Hp → VK → Prop := fun vs zs H Q => ∃ (a : Addr) (ns : List Int) (d : V), vs = [.ref a] ∧ zs = [d] ∧ SqL K H a (ns.map V.int) ∧ (ns = [] → Q d H) ∧ ∀ n r, ns = n :: r → Q (.int (r.foldl max n)) H
theorem cr_maxDf (hc : X.calm = true) (hu : X.A.units + 64 < cLine) : CallRK X (.builtin "max") [("default" : Str)] (rMaxDf X.K) := by
  intro pins s σ H xs zs us ws Q I r1 r2 h
  obtain ⟨a, ns, d, rfl, rfl, hs, h0, h1⟩ := h
  obtain ⟨its, rv, hl, _⟩ := I.list hs
  rw [Vals.ref1 r1]
  obtain ⟨u, rfl, ru⟩ := vals1 r2
  obtain ⟨as, hr⟩ := Dp.readsAll I (ns.map .int) _ its (dpAll_ints ns) rv
  have hd := depth_ints ns
  show wpAny _ _ (call (.builtin "max") [.ref a] [(Str.ofString "default", u)]) _ _ _
  refine PySem.W.max_list_default (I.ok.hd hc) hl.isList (by simpa using hr) (alike_ints ns) (by omega) (fun e h' tk k => ?_) (fun y ys i v h' tk bs e hv hrd k => ?_)
  · exact ⟨d, H, I.kept k, ru, h0 (List.map_eq_nil_iff.mp e)⟩
  · cases ns with
    | nil => cases e
    | cons n r =>
      obtain ⟨rfl, rfl⟩ := List.cons.inj e
      rw [PySem.W.maxD_ints] at hrd
      obtain ⟨t, rfl⟩ := reads_int hrd
      exact ⟨.int _, H, I.kept k, ⟨t, rfl⟩, h1 n r rfl⟩
/-- max(t) of a tuple of ints -/
def rMaxT (K : PySem.W.Frag) : List V → Hp → VK → Prop := fun vs H Q => ∃ (a : Addr) (n : Int) (r : List Int), vs = [.ref a] ∧ SqT K H a ((n :: r).map V.int) ∧ Q (.int (r.foldl max n)) H
theorem cr_maxT (hc : X.calm = true) (hu : X.A.units + 64 < cLine) : CallR X (.builtin "max") (rMaxT X.K) := by
  intro pins s σ H xs us Q I r1 h
  obtain ⟨a, n, r, rfl, hs, h1⟩ := h
  obtain ⟨its, rv, ht, _⟩ := I.tuple hs
  rw [Vals.ref1 r1]
  obtain ⟨as, hr⟩ := Dp.readsAll I ((n :: r).map .int) _ its (dpAll_ints (n :: r)) rv
  have hd := depth_ints (n :: r)
  obtain ⟨o, ho, hc1, m, hd1⟩ := ht
  refine PySem.W.max_tuple_data (x := .int n) (xs := r.map .int) (I.ok.hd hc) ⟨o, ho, hc1, ⟨m, hd1⟩⟩ (by simpa using hr) (alike_ints (n :: r)) (by rw [List.map_cons] at hd; omega) (fun i v h' tk bs hv hrd k => ?_)
  rw [PySem.W.maxD_ints] at hrd
  obtain ⟨t, rfl⟩ := reads_int hrd
  exact ⟨.int _, H, I.kept k, ⟨t, rfl⟩, h1⟩
end

/-! ### the base's __init__ -/
/-- what the written part says of a base class of own errors whose __init__ is ValueError's -/
structure BaseI (K : PySem.W.Frag) (C : Addr) (mc : Value) : Prop where
  rd : PySem.W.readsIn K C mc = true
  ga : PySem.W.specialIn K (.ref C) "__getattribute__" = some (some (.builtin "type.__getattribute__"))
  iv : PySem.W.findCls K (.ref C) mc "__init__" = some (.val (.builtin "ValueError.__init__"))
section
variable {X : Cx} {e : Expr} {es : List Expr} {ta : TA} {x : Str} {p1 p2 pos : Pos} {C : Addr} {mc : Value}
theorem pe_baseinit {pl : Sem Bool} (T : BaseI X.K C mc) (hg : Gl X x) (hm : X.mg x = some (.ref C)) (ha : PA X (e :: es) ta) (hdb : (x == ("__debug__" : Str)) = false := by decide)
    (hc : eval (.Call (.Attribute (.Name x p1) "__init__" p2) (e :: es) [] pos) X.env = (do
      let ov ← eval (.Name x p1) X.env
      standAt p2.atName
      let (f, first) ← holding [ov] (getMethod ov "__init__" pl)
      callWith pos f first (backTo pos (starEach (e :: es) X.env)) (backToKw pos (keywordEach [] X.env))) := by rfl)
    (he : starEach (e :: es) X.env = (false, eval e X.env) :: starEach es X.env := by rfl) (hpl : (backTo pos (starEach es X.env)).any (·.1) = false := by rfl) :
    PE X (.Call (.Attribute (.Name x p1) "__init__" p2) (e :: es) [] pos) (tVeI X.K ta) := by
  refine ⟨fun pins s σ H Q I h => ?_⟩
  refine PySem.W.methodCall_KW (ld_glob I hg hm ?_ hdb) hc
  refine PySem.W.method_cls I.kIn T.ga (PySem.W.cls_value I.kIn T.rd T.iv (by decide) (PyProof.Rows.callWith_method1 (thn (ha.run pos pins _ σ H _ (I.tok _) h) ?_) he hpl))
  rintro us s1 ⟨_, H1, I1, r1, a, D, ws, rfl, hl, O, ea, q⟩
  cases r1 with
  | cons ra rest =>
    cases ra
    exact oinit_ok O I1 ea (by have := Paired.length rest; rw [sizeLine_eq]; omega) fun s' J => ⟨.non, H1, J, rfl, q⟩
end

/-! ### a class made where what is raised is wished for at the slots (in a try) -/
section
variable {X : Cx} {CX : CXT} {k : Nat} {f C : Addr} {fd : FuncData} {ps : List Str} {sp : Sp} {dvs : List V} {ds : List Value} {E : L2.St → XK} {x : Str} {p pos : Pos} {e : Expr} {es : List Expr} {t : TA}
def tMakeS (C : Addr) (sp : Sp) (dvs : List V) (E : L2.St → XK) (t : TA) : TE := fun σ H Q => t σ H fun vs H1 => ∀ x dx, H1 x = none → H1 dx = none → dx ≠ x →
  sp (.ref x :: (vs ++ dvs)) (upd (upd H1 dx (.own x)) x (.ins C dx [])) (fun v H2 => v = .non ∧ Q (.ref x) H2) (E σ)
theorem pe_makeS (M : Mk X.K C f) (F : FnOk X.prog X.w X.K X.mg X.base CX k f fd ps sp) (hr : Room (k + 1) X.A) (hg : Gl X x) (hm : X.mg x = some (.ref C)) (hb : Binds X.K fd ps ds) (hd : Vals dvs ds) (hx : ∀ σ, PassesAt CX X σ (E σ))
    (ha : PA X (e :: es) t) (hdb : (x == ("__debug__" : Str)) = false := by decide) (he : starEach (e :: es) X.env = (false, eval e X.env) :: starEach es X.env := by rfl) (hpl : (backTo pos (starEach es X.env)).any (·.1) = false := by rfl) :
    PE X (.Call (.Name x p) (e :: es) [] pos) (tMakeS C sp dvs E t) := by
  refine ⟨fun pins s σ H Q I h => ?_⟩
  refine wpAny_Call_Name_kw (ld_glob I hg hm ?_ hdb)
  refine PySem.W.callWith_K (h₀ := X.base) I.ok.mod.kin M.kp (thn (ha.run pos pins s σ H _ I h) fun us s1 ⟨vs, H1, I1, r, q⟩ => ⟨I1.kIn, ?_⟩) he hpl
  have hq := q (s1.heap.objs.size + 1) s1.heap.objs.size (I1.hok.fresh (Nat.le_succ _)) (I1.hok.fresh (Nat.le_refl _)) (Nat.ne_of_lt (Nat.lt_succ_self _))
  have I2 := Inv.made (C := C) I1
  have r2 : Vals (V.ref (s1.heap.objs.size + 1) :: (vs ++ dvs)) (Value.ref (s1.heap.objs.size + 1) :: (us ++ ds)) := .cons rfl (r.append hd)
  have hl : (Value.ref (s1.heap.objs.size + 1) :: us ++ ds).length = ps.length := by
    have e := r2.length
    rw [F.len _ _ _ _ hq] at e
    exact e.symm
  refine wpAny_call (make_map (f := f) I1.kIn M.makes M.init (beq_iff_eq.mp M.fn) (codeAny_mono (F.run _ X.stack _ _ ⟨Value.ref (s1.heap.objs.size + 1) :: us, []⟩ (Value.ref (s1.heap.objs.size + 1) :: (us ++ ds)) _ _ (E σ) (hr.make C us [])
    (I2.env0.make C us []) (hb _ (Value.ref (s1.heap.objs.size + 1) :: us) I2.kIn hl) r2 hq) fun r s' hq' => ?_))
  cases r with
  | error e => exact hx σ pins _ _ e s' I2 hq'
  | ok fl =>
    cases fl with
    | ret u =>
      obtain ⟨v, H', I3, rv, ev, q3⟩ := I2.after hq'
      subst ev
      exact ⟨rv, ⟨V.ref (s1.heap.objs.size + 1), H', I3, rfl, q3⟩⟩
    | next => exact False.elim hq'
    | brk => exact False.elim hq'
    | cont => exact False.elim hq'
end
end Cr
set_option Elab.async false
set_option linter.all false
set_option maxRecDepth 100000
set_option maxHeartbeats 4000000
/-! all(test for x in xs): one rule, whatever xs is (a list, a tuple), for tests that only look -/
namespace Cr
open PySem PySem.Spec PyProof.Rows L2

/-- what the object at a gives to whoever walks over it: C says that it stands, T where its walker is -/
structure Src (prog : Program) (w : World) (a : Addr) (items : Array Value) (it : Obj) (C : Heap → Prop) (T : Nat → Heap → Addr → Prop) : Prop where
  begins : ∀ {A : Around} {s : Shared} {Q E : Value → Shared → Prop}, C s.heap → Q (.ref s.heap.objs.size) { s with heap := s.heap.push it } → wpAny (model prog w) A (pyIter (.ref a)) Q E s
  walks : ∀ (A : Around) (I : Addr), A.handled = none → a ≠ I → Walks prog w A I [I, a] [I] items.size (fun i v => items[i]? = some v) (fun i h => T i h I ∧ C h)
  first : ∀ h : Heap, T 0 (h.push it) h.objs.size
  stay : ∀ {h h' : Heap}, (∀ o, h.get? a = some o → h'.get? a = some o) → C h → C h'
  here : ∀ h, C h → ∃ o, h.get? a = some o ∧ ∀ vs, o.data ≠ .fields vs
variable {prog : Program} {w : World} {a : Addr} {items : Array Value}
theorem src_list : Src prog w a items { cls := .type "list_iterator", data := .fields #[.ref a, .int 0 0] } (fun h => h.IsList a items) (fun i h I => h.IsListIter I a i) where
  begins hc hq := wpAny_pyIter_list hc hq
  walks A I hA hne := Walks.list hA I a hne items
  first h := ⟨_, Heap.get?_push_size _ rfl, rfl, rfl⟩
  stay k hc := hc.at k
  here := fun h ⟨o, e, _, _, hd⟩ => ⟨o, e, fun vs z => by rw [hd] at z; cases z⟩
theorem src_tup : Src prog w a items { cls := .type "tuple_iterator", data := .fields #[.ref a, .int 0 0] } (fun h => h.IsTuple a items) (fun i h I => h.IsTupleIter I a i) where
  begins hc hq := wpAny_pyIter_tuple hc hq
  walks A I hA hne := Walks.tuple hA I a hne items
  first h := ⟨_, Heap.get?_push_size _ rfl, rfl, rfl⟩
  stay k hc := hc.at k
  here := fun h ⟨o, e, _, _, hd⟩ => ⟨o, e, fun vs z => by rw [hd] at z; cases z⟩

/-- from h to h' all stands but the table at P, which has grown by whole entries -/
structure Since (P : Addr) (ps : Array Value) (h h' : Heap) : Prop where
  up : ∀ b u, b ≠ P → h.get? b = some u → h'.get? b = some u
  tab : ∃ more, h'.get? P = some { cls := .none, data := .fields (ps ++ more) } ∧ TriplesOk (ps ++ more).toList
  size : h.objs.size ≤ h'.objs.size
section
variable {X : Cx} {pins : List (Addr × Obj)} {σ : L2.St} {H : Hp} {s : Shared} {c P : Addr} {ps : Array Value}
/-- the generator's code: it stands in the table, or is put there -/
theorem code_made {pos : Pos} {q : Str} {scope : Scope} {Q E : Value → Shared → Prop} (hcode : X.env.code = .ref c) (hd : PySem.W.CodeHd s.heap c P) (hP : s.heap.get? P = some { cls := .none, data := .fields ps }) (ht : TriplesOk ps.toList)
    (hQ : ∀ v h' tk, Since P ps s.heap h' → Q v { s with heap := h', toks := tk }) : wpAny (model X.prog X.w) X.A (genexprCode X.env pos q scope) Q E s := by
  match e : codeAmong pos ps.toList with
  | some v => exact wpAny_genexprCode_hit hcode (hd.code hP ht) e (hQ v s.heap s.toks ⟨fun _ _ _ z => z, ⟨#[], by simpa using hP, by simpa using ht⟩, Nat.le_refl _⟩)
  | none =>
    refine wpAny_genexprCodeX hcode (hd.code hP ht) (hd.tab hP) e fun c' h' tk up lo hi isC _ tab _ => hQ _ h' tk ⟨up, ⟨_, tab.2, ?_⟩, by omega⟩
    obtain ⟨_, _, _, _, _, _, _, _, _, _, _, _, _, _, _, _, _, _, _, tri, _⟩ := isC
    exact tri
/-- where a test runs: the names around it, and what stands of what was -/
structure Seen (X : Cx) (P : Addr) (scope : Scope) (cenv : Env) (s₁ s₂ : Shared) : Prop where
  sc : cenv.scope = scope
  gl : cenv.globals = mainGlobals
  bl : cenv.builtins = builtinsNs
  cells : cenv.cells = cloFrom X.env.cells scope.names []
  up : ∀ b u, b ≠ P → s₁.heap.get? b = some u → s₂.heap.get? b = some u
/-- the test looks at the item at place j and tells tr j -/
def Looks (X : Cx) (P : Addr) (scope : Scope) (x : Str) (elt : Expr) (s₁ : Shared) (vs : List V) (tr : Nat → Bool) : Prop :=
  ∀ (cenv : Env) (A : Around) (E : Value → Shared → Prop) (j : Nat) (v : V) (u : Value) (s₂ : Shared) (m : Str → Option Value), A.depth ≤ X.A.depth + 1 → Seen X P scope cenv s₁ s₂ → vs[j]? = some v → RelV v u →
    s₂.heap.Ns cenv.locals m → m x = some u → wpAny (model X.prog X.w) A (eval elt cenv) (fun y s₃ => y = .bool (tr j) ∧ Keeps s₂ s₃) E s₂
/-- the table is none of the things that the program's head has left -/
theorem tab_apart (I : Inv X pins σ H s) (hP : H P = some (.tbl ps)) {b : Addr} {u : Obj} (e : X.base.get? b = some u) : b ≠ P := fun z => by
  cases (show H P = none from z ▸ (I.bs b u e).2).symm.trans hP
theorem Seen.base {scope : Scope} {cenv : Env} {s₂ : Shared} (Z : Seen X P scope cenv s s₂) (I : Inv X pins σ H s) (hP : H P = some (.tbl ps)) {b : Addr} {u : Obj} (e : X.base.get? b = some u) : s₂.heap.get? b = some u :=
  Z.up b u (tab_apart I hP e) (I.bk b u e)
theorem Seen.globals {scope : Scope} {cenv : Env} {s₂ : Shared} (Z : Seen X P scope cenv s s₂) (I : Inv X pins σ H s) (hP : H P = some (.tbl ps)) : s₂.heap.Ns mainGlobals X.mg :=
  I.mod.glob.keeps fun _ _ => Z.base I hP
/-- a list or a tuple at v, with the items vs -/
def Walked (K : PySem.W.Frag) (H : Hp) (v : V) (vs : List V) : Prop := ∃ a, v = .ref a ∧ (SqL K H a vs ∨ SqT K H a vs)
theorem src_of (I : Inv X pins σ H s) {a : Addr} {vs : List V} (h : SqL X.K H a vs ∨ SqT X.K H a vs) :
    ∃ (items : Array Value) (it : Obj) (C : Heap → Prop) (T : Nat → Heap → Addr → Prop), Src X.prog X.w a items it C T ∧ C s.heap ∧ items.size = vs.length ∧ ∀ (i : Nat) u, items[i]? = some u → ∃ y, vs[i]? = some y ∧ RelV y u := by
  have rel : ∀ {its : List Value}, Vals vs its → ∀ (i : Nat) u, its.toArray[i]? = some u → ∃ y, vs[i]? = some y ∧ RelV y u := fun {its} rv i u e => by
    have e : its[i]? = some u := by simpa using e
    have lt := (List.getElem?_eq_some_iff.mp e).1
    rw [← rv.length] at lt
    obtain ⟨u', e', r⟩ := rv.get (List.getElem?_eq_getElem lt)
    cases e.symm.trans e'
    exact ⟨_, List.getElem?_eq_getElem lt, r⟩
  rcases h with h | h
  · obtain ⟨its, rv, hl, _⟩ := I.list h
    exact ⟨_, _, _, _, src_list, hl.isList, by rw [List.size_toArray, rv.length], rel rv⟩
  · obtain ⟨its, rv, hl, _⟩ := I.tuple h
    exact ⟨_, _, _, _, src_tup, hl, by rw [List.size_toArray, rv.length], rel rv⟩
/-- the generator is made; whoever takes it may walk it, and finds the frame as it was but for the table -/
theorem made {elt iter : Expr} {x : Str} {px pos : Pos} {scope : Scope} {te : TE} {k : Nat} {Q : Value → Shared → Prop} {κ : VK} (hr : Room k X.A) (TB : GxR.TabB X.base X.mg c P) (hcode : X.env.code = .ref c) (S : GxR.GenS X.env scope x) (hi : PE X iter te)
    (hs : ∀ v, genFold iter X.env v = pure v) (I : Inv X pins σ H s) (h : te σ H κ)
    (src : ∀ v H1, κ v H1 → ∃ vs tr, Walked X.K H1 v vs ∧ GxR.TabG H1 P ∧ (∀ ps s1, H1 P = some (.tbl ps) → Inv X pins σ H1 s1 → Looks X P scope x elt s1 vs tr) ∧
      ∀ g s5 fp wr G F St, WalksS X.prog X.w X.A.in1 g fp wr G vs.length F St → St 0 s5 → TruthOf X.prog X.w X.A.in1 F tr → (∀ s', Moved wr G s5 s' → ∃ H2, GxR.Tabbed P H1 H2 ∧ Inv X pins σ H2 s') → Q (.ref g) s5) :
    wpAny (model X.prog X.w) X.A (eval (.GeneratorExp elt [⟨.Name x px, iter, [], 0⟩] scope pos) X.env) Q X.xe s := by
  refine wpAny_GeneratorExp_walksQD hr.hd S.co (closure_ok S.free) S.cell S.dot S.loc S.kind (by have := hr.dp; omega) (thn (hi.run pins s σ H _ I h) ?_) hs
  intro u s1 ⟨v, H1, I1, r1, q⟩
  obtain ⟨vs, tr, ⟨a, rfl, hw⟩, ⟨ps, hP, ht⟩, look, fin⟩ := src v H1 q
  cases (show u = .ref a from r1)
  obtain ⟨items, it, C, T, so, hC, sz, rel⟩ := src_of I1 hw
  refine so.begins hC ⟨I1.nolimit.push it, ?_⟩
  have pAt := I1.hok P _ hP
  obtain ⟨oa, ea, na⟩ := so.here _ hC
  have aP : a ≠ P := fun z => na ps (by rw [z] at ea; cases pAt.symm.trans ea; rfl)
  have push : ∀ b u, s1.heap.get? b = some u → (s1.heap.push it).get? b = some u := fun b u e => Heap.get?_push_of_some _ e
  refine code_made hcode (TB.code.keeps fun b u e => push b u (I1.bk b u e)) (push _ _ pAt) ht fun cv h3 tk S3 => ?_
  have up : ∀ b u, b ≠ P → s1.heap.get? b = some u → h3.get? b = some u := fun b u hb e => S3.up b u hb (push b u e)
  have lt : s1.heap.objs.size < h3.objs.size := by
    have := S3.size
    rw [Heap.size_push] at this
    exact this
  have old : ∀ {b u}, s1.heap.get? b = some u → b < h3.objs.size := fun e => Nat.lt_trans (Heap.lt_size e) lt
  have fresh : ∀ {b u}, s1.heap.get? b = some u → b ≠ s1.heap.objs.size := fun e => Nat.ne_of_lt (Heap.lt_size e)
  have Z3 : ∀ {b u}, X.base.get? b = some u → h3.get? b = some u := fun {b u} e => up b u (tab_apart I1 hP e) (I1.bk b u e)
  -- the built-ins are the boot's own
  obtain ⟨bm, ob, e1, e2, _, _, e5, e6, e7, e8⟩ := TB.bm
  refine wpAny_builtinsFor (m := X.mg) (by rw [I1.ok.glob]; exact I1.mod.glob.keeps fun _ _ => Z3) e1 e2 (Z3 e5) e6 e7 e8 ?_
  obtain ⟨_, ⟨oc, _, _, ec, _⟩, _⟩ := id I1.nolimit
  have cP : cStatics ≠ P := fun z => by
    obtain ⟨_, ⟨o', _, _, e', hd, _⟩, _⟩ := id I1.nolimit
    rw [z, pAt] at e'
    cases e'
    cases hd
  have lim : h3.NoLimit := (I1.nolimit.push it).extBut S3.up cP
  have ready : T 0 h3 s1.heap.objs.size ∧ C h3 := by
    refine (so.walks X.A _ hr.hd (fresh ea)).frame 0 (s1.heap.push it) h3 ⟨so.first _, so.stay (fun o => push a o) hC⟩ fun b hb o e => S3.up b o (fun z => ?_) e
    rcases List.mem_cons.mp hb with y | y
    · exact absurd (z ▸ y) (fresh pAt)
    · exact aP (z ▸ (List.mem_singleton.mp y).symm)
  refine ⟨s1.heap.objs.size, [s1.heap.objs.size, a], [s1.heap.objs.size], items.size, _, _, fun _ => true, fun i y => y = .bool (tr i), rfl, fun A hA => so.walks A _ hA (fresh ea), ready, ?_, lim, fun z => fresh ec (List.mem_singleton.mp z), fun href keep => ⟨?_, ?_⟩, ?_⟩
  · simp only [List.mem_cons, List.not_mem_nil, or_false, forall_eq_or_imp, forall_eq]
    exact ⟨lt, old ea⟩
  · intros
    simp only [List.forIn_nil]
    exact wpAny_pure ⟨rfl, GxR.keeps_refl _⟩
  · intro A E i u s2 m _ dp _ hu _ hn hm stands
    obtain ⟨y, hy, r⟩ := rel i u hu
    refine look ps s1 hP I1 _ A E i y u s2 m dp ⟨rfl, I1.ok.glob, rfl, rfl, fun b o hb e => ?_⟩ hy r hn hm
    exact stands b (List.mem_range.mpr (old e)) (fun z => fresh e (List.mem_singleton.mp z)) o (keep b o (up b o hb e))
  · intro g h5 tk5 gs bare hg _ keep W begun
    have num : (passing (fun _ => true) items.size 0).length = vs.length := by rw [GxR.passing_true, List.length_range, sz]
    refine fin g _ _ _ _ _ _ (num ▸ W.in4_1) begun ?_ fun s' mv => ?_
    · rintro j y s6 Q6 E6 ⟨i, hi, rfl⟩ hq
      rw [GxR.passing_true] at hi
      obtain ⟨_, ej⟩ := List.getElem?_eq_some_iff.mp hi
      rw [List.getElem_range] at ej
      exact wpAny_truthy_bool (ej ▸ hq)
    · obtain ⟨more, hm, tri⟩ := S3.tab
      have far : ∀ {b u}, s1.heap.get? b = some u → b ∉ [h3.objs.size, s1.heap.objs.size] := fun e z => by
        simp only [List.mem_cons, List.not_mem_nil, or_false] at z
        rcases z with z | z
        · exact Nat.ne_of_lt (old e) z
        · exact fresh e z
      have J := GxR.inv_tab (more := more) (h' := s'.heap) (g' := s'.gens) (d' := s'.drawn) (t' := s'.toks) I1 hP (fun b u hb e => mv.heap b u (far e) (keep b u (up b u hb e))) (mv.heap P _ (far pAt) (keep P _ hm)) (AllBare.movedS (I1.bare.push bare) mv)
      exact ⟨_, ⟨⟨_, upd_same, tri⟩, fun b hb => upd_ne hb⟩, GxR.sh_eta s1 s' mv.os ▸ J⟩
/-- all(..): the built-in itself, over such a generator -/
theorem pe_all {elt iter : Expr} {x : Str} {px p pos gpos : Pos} {scope : Scope} {te t : TE} {k : Nat} (hr : Room k X.A) (hg : Gl X "all") (hm : X.mg "all" = none) (hb : bootBuiltins "all" = some (.builtin "all"))
    (TB : GxR.TabB X.base X.mg c P) (hcode : X.env.code = .ref c) (S : GxR.GenS X.env scope x) (hi : PE X iter te) (hs : ∀ v, genFold iter X.env v = pure v)
    (conv : ∀ σ H Q, t σ H Q → ∃ κ : VK, te σ H κ ∧ ∀ v H1, κ v H1 → ∃ vs tr, Walked X.K H1 v vs ∧ GxR.TabG H1 P ∧ (∀ pins ps s1, H1 P = some (.tbl ps) → Inv X pins σ H1 s1 → Looks X P scope x elt s1 vs tr) ∧ ∀ H2, GxR.Tabbed P H1 H2 → Q (.bl ((List.range vs.length).all tr)) H2)
    (he : starEach [.GeneratorExp elt [⟨.Name x px, iter, [], 0⟩] scope gpos] X.env = [(false, eval (.GeneratorExp elt [⟨.Name x px, iter, [], 0⟩] scope gpos) X.env)]) :
    PE X (.Call (.Name "all" p) [.GeneratorExp elt [⟨.Name x px, iter, [], 0⟩] scope gpos] [] pos) t := by
  refine ⟨fun pins s σ H Q I h => wpAny_Call_Name_kw (ld_blt I hg hm hb (PyProof.Rows.callWith_builtin1 ?_ he (by rfl)))⟩
  obtain ⟨κ, hκ, out⟩ := conv σ H Q h
  rw [he]
  refine Calls.spliced_cons (made hr TB hcode S hi hs I hκ fun v H1 q => ?_)
  obtain ⟨vs, tr, hw, hT, look, fin⟩ := out v H1 q
  refine ⟨vs, tr, hw, hT, look pins, fun g s5 fp wr G F St W st truth back => Calls.spliced_nil (call_all_walkS (W.self 0 _ _ _ st ⟨g, fp, wr, G, vs.length, F, St, tr, rfl, W, st, truth, fun s' mv => ?_⟩))⟩
  obtain ⟨H2, hT2, J⟩ := back s' mv
  exact ⟨.bl _, H2, J, rfl, fin H2 hT2⟩
end
theorem all_range {α : Type} (l : List α) (p : α → Bool) (t : Nat → Bool) (h : ∀ j x, l[j]? = some x → t j = p x) : (List.range l.length).all t = l.all p := by
  rw [Bool.eq_iff_iff, List.all_eq_true, List.all_eq_true]
  refine ⟨fun a x hx => ?_, fun a j hj => ?_⟩
  · obtain ⟨j, hj, rfl⟩ := List.getElem_of_mem hx
    rw [← h j _ (List.getElem?_eq_getElem hj)]
    exact a j (List.mem_range.mpr hj)
  · have hj' := List.mem_range.mp hj
    rw [h j _ (List.getElem?_eq_getElem hj')]
    exact a _ (List.getElem_mem hj')
/-- a test of items that is no matter of places -/
def byItem (l : List V) (pb : V → Bool) (j : Nat) : Bool := ((l[j]?).map pb).getD false
theorem byItem_at {l : List V} {pb : V → Bool} {j : Nat} {v : V} (h : l[j]? = some v) : byItem l pb j = pb v := by simp [byItem, h]
theorem all_byItem (l : List V) (pb : V → Bool) : (List.range l.length).all (byItem l pb) = l.all pb := all_range l pb _ fun _ _ e => byItem_at e
/-- the element: a test of an item that asks only the item and the module's names -/
def EltV (X : Cx) (scope : Scope) (x : Str) (elt : Expr) (Pz : V → Prop) (pb : V → Bool) : Prop :=
  ∀ (cenv : Env) (A' : Around) (E' : Value → Shared → Prop) (v : V) (u : Value) (s₂ : Shared) (m₂ : Str → Option Value), cenv.scope = scope → cenv.globals = mainGlobals → s₂.heap.Ns mainGlobals X.mg → Pz v → RelV v u → s₂.heap.Ns cenv.locals m₂ → m₂ x = some u →
    wpAny (model X.prog X.w) A' (eval elt cenv) (fun y s₃ => y = .bool (pb v) ∧ Keeps s₂ s₃) E' s₂
/-- lo <= x <= N, N a number of the module -/
theorem elt_between {X : Cx} {scope : Scope} {x g : Str} {lo hi : Int} {tk : Tok} {j : Nat} {p1 p2 p3 p4 : Pos} (hk : scope.kind = .function) (hl : scope.names.lookup x = some .local) (hgl : scope.names.lookup g = some .globalImplicit) (hm : X.mg g = some (.int hi tk))
    (hd : (x == ("__debug__" : Str)) = false := by decide) (hd2 : (g == ("__debug__" : Str)) = false := by decide) :
    EltV X scope x (.Compare (.Constant (.int lo) j p1) [.LtE, .LtE] [.Name x p2, .Name g p3] p4) (fun v => ∃ i, v = .int i) (fun v => match v with | .int i => decide (lo ≤ i) && decide (i ≤ hi) | _ => false) := by
  intro cenv A' E' v u s₂ m₂ hs hgl' hns hz ru hn hx
  obtain ⟨i, rfl⟩ := hz
  obtain ⟨t, rfl⟩ := ru
  have kk : ∀ k : Nat, Keeps s₂ { s₂ with toks := k } := fun k => ⟨s₂.heap, k, rfl, fun _ _ e => e⟩
  have hkf : cenv.scope.kind = .function := hs ▸ hk
  refine Compare_chain (wpAny_Constant_int (chain_link (wpAny_Name (wpAny_loadName_local hkf (show cenv.scope.names.lookup x = _ from hs ▸ hl) hn hx (PyProof.Rows.le_int (wpAny_truthy_bool ?_))) hd))) (by with_unfolding_all rfl)
  by_cases h1 : lo ≤ i
  · rw [decide_eq_true h1]
    refine ite_tt (chain_last (Calls.Name_function_global hkf (show cenv.scope.names.lookup g = _ from hs ▸ hgl) (Calls.loadGlobal_global (hgl' ▸ hns) hm (PyProof.Rows.le_int ⟨?_, kk _⟩)) hd2))
    simp [h1]
  · rw [decide_eq_false h1]
    refine ite_ff ⟨?_, kk _⟩
    simp [h1]
/-- all(test for x in e), e a tuple; behind it the def's table may have grown -/
def tAllT (K : PySem.W.Frag) (P : Addr) (Pz : V → Prop) (pb : V → Bool) (te : TE) : TE := fun σ H Q => te σ H fun v H1 => ∃ (a : Addr) (vs : List V), v = .ref a ∧ SqT K H1 a vs ∧ (∀ v ∈ vs, Pz v) ∧ GxR.TabG H1 P ∧ ∀ H2, GxR.Tabbed P H1 H2 → Q (.bl (vs.all pb)) H2
theorem pe_allT {X : Cx} {c P : Addr} {elt iter : Expr} {x : Str} {px p pos gpos : Pos} {scope : Scope} {Pz : V → Prop} {pb : V → Bool} {te : TE} {k : Nat} (hr : Room k X.A) (hg : Gl X "all") (hm : X.mg "all" = none) (hb : bootBuiltins "all" = some (.builtin "all"))
    (TB : GxR.TabB X.base X.mg c P) (hcode : X.env.code = .ref c) (S : GxR.GenS X.env scope x) (hi : PE X iter te) (hel : EltV X scope x elt Pz pb) (hs : ∀ v, genFold iter X.env v = pure v)
    (he : starEach [.GeneratorExp elt [⟨.Name x px, iter, [], 0⟩] scope gpos] X.env = [(false, eval (.GeneratorExp elt [⟨.Name x px, iter, [], 0⟩] scope gpos) X.env)] := by rfl) :
    PE X (.Call (.Name "all" p) [.GeneratorExp elt [⟨.Name x px, iter, [], 0⟩] scope gpos] [] pos) (tAllT X.K P Pz pb te) :=
  pe_all hr hg hm hb TB hcode S hi hs (fun σ H Q h => ⟨_, h, fun v H1 ⟨a, vs, ev, ht, hz, hT, q⟩ => ⟨vs, byItem vs pb, ⟨a, ev, .inr ht⟩, hT,
    fun pins ps s1 hP I1 cenv A E j y u s2 m _ Z hy r hn hmx => by
      rw [byItem_at hy]
      exact hel cenv A E y u s2 m Z.sc Z.gl (Z.globals I1 hP) (hz y (List.mem_of_getElem? hy)) r hn hmx,
    fun H2 h2 => by rw [all_byItem]; exact q H2 h2⟩⟩) he
end Cr
set_option Elab.async false
set_option linter.all false
set_option maxRecDepth 100000
set_option maxHeartbeats 4000000
/-! Calls that may raise, in short; the heaps: what is known (G) of what stands (H) -/
namespace Cr
open PySem PySem.Spec PyProof.Rows L2

/-! ### calls in short -/
section
variable {P : Program} {w : World} {K : PySem.W.Frag} {mg : Str → Option Value} {base : Heap}
/-- a def that may raise, called by its name -/
structure CalX (P : Program) (w : World) (K : PySem.W.Frag) (mg : Str → Option Value) (base : Heap) (k : Nat) (x : Str) (sp : Sp) : Prop where
  ex : ∃ (f : Addr) (fd : FuncData) (ps : List Str), FnOk P w K mg base (L2.CX P w) k f fd ps sp ∧ mg x = some (.ref f) ∧ PySem.W.keepIn K (.ref f) = true ∧ Binds K fd ps []
/-- a class that is made by its name, its __init__ raising nothing | perhaps something -/
structure Mak0 (P : Program) (w : World) (K : PySem.W.Frag) (mg : Str → Option Value) (base : Heap) (k : Nat) (x : Str) (C : Addr) (sp : Sp) : Prop where
  ex : ∃ (f : Addr) (fd : FuncData) (ps : List Str), Mk K C f ∧ FnOk P w K mg base CX0 k f fd ps sp ∧ mg x = some (.ref C) ∧ Binds K fd ps []
structure MakX (P : Program) (w : World) (K : PySem.W.Frag) (mg : Str → Option Value) (base : Heap) (k : Nat) (x : Str) (C : Addr) (sp : Sp) : Prop where
  ex : ∃ (f : Addr) (fd : FuncData) (ps : List Str), Mk K C f ∧ FnOk P w K mg base (L2.CX P w) k f fd ps sp ∧ mg x = some (.ref C) ∧ Binds K fd ps []
end
section
variable {X : Cx} {k j : Nat} {C : Addr} {x m : Str} {sp : Sp} {p pos apos : Pos} {e o : Expr} {es : List Expr} {ta : TE} {t : TA} {W : WX} {E : XK}
theorem pe_cx (c : CalX X.prog X.w X.K X.mg X.base k x sp) (hr : Room j X.A) (hk : k ≤ j) (tk : Takes X (fun cls d _ H => E cls d H)) (hg : Gl X x) (ha : PA X (e :: es) t)
    (hdb : (x == ("__debug__" : Str)) = false := by decide) (he : starEach (e :: es) X.env = (false, eval e X.env) :: starEach es X.env := by rfl) (hpl : (backTo pos (starEach es X.env)).any (·.1) = false := by rfl) :
    PE X (.Call (.Name x p) (e :: es) [] pos) (tCall sp [] E t) := by
  obtain ⟨f, fd, ps, F, hm, kp, b⟩ := c.ex
  exact pe_call F (hr.mono hk) hg hm kp b .nil (passes_call tk fun _ _ _ _ h => h) ha hdb he hpl
theorem pe_cxS (c : CalX X.prog X.w X.K X.mg X.base k x sp) (hr : Room j X.A) (hk : k ≤ j) (tk : Takes X W) (hg : Gl X x) (ha : PA X (e :: es) t)
    (hdb : (x == ("__debug__" : Str)) = false := by decide) (he : starEach (e :: es) X.env = (false, eval e X.env) :: starEach es X.env := by rfl) (hpl : (backTo pos (starEach es X.env)).any (·.1) = false := by rfl) :
    PE X (.Call (.Name x p) (e :: es) [] pos) (tCallSD sp [] (WE W) t) := by
  obtain ⟨f, fd, ps, F, hm, kp, b⟩ := c.ex
  exact pe_callSD F (hr.mono hk) hg hm kp b .nil (fun σ => passAt tk σ) ha hdb he hpl
theorem pe_mn (c : Mak0 X.prog X.w X.K X.mg X.base k x C sp) (hr : Room j X.A) (hk : k + 1 ≤ j) (hg : Gl X x) (ha : PA X (e :: es) t)
    (hdb : (x == ("__debug__" : Str)) = false := by decide) (he : starEach (e :: es) X.env = (false, eval e X.env) :: starEach es X.env := by rfl) (hpl : (backTo pos (starEach es X.env)).any (·.1) = false := by rfl) :
    PE X (.Call (.Name x p) (e :: es) [] pos) (tMake C sp [] E0 t) := by
  obtain ⟨f, fd, ps, M, F, hm, b⟩ := c.ex
  exact pe_make M F (hr.mono hk) hg hm b .nil pass0 ha hdb he hpl
theorem pe_mx (c : MakX X.prog X.w X.K X.mg X.base k x C sp) (hr : Room j X.A) (hk : k + 1 ≤ j) (tk : Takes X (fun cls d _ H => E cls d H)) (hg : Gl X x) (ha : PA X (e :: es) t)
    (hdb : (x == ("__debug__" : Str)) = false := by decide) (he : starEach (e :: es) X.env = (false, eval e X.env) :: starEach es X.env := by rfl) (hpl : (backTo pos (starEach es X.env)).any (·.1) = false := by rfl) :
    PE X (.Call (.Name x p) (e :: es) [] pos) (tMake C sp [] E t) := by
  obtain ⟨f, fd, ps, M, F, hm, b⟩ := c.ex
  exact pe_make M F (hr.mono hk) hg hm b .nil (passes_call tk fun _ _ _ _ h => h) ha hdb he hpl
theorem pe_mxS (c : MakX X.prog X.w X.K X.mg X.base k x C sp) (hr : Room j X.A) (hk : k + 1 ≤ j) (tk : Takes X W) (hg : Gl X x) (ha : PA X (e :: es) t)
    (hdb : (x == ("__debug__" : Str)) = false := by decide) (he : starEach (e :: es) X.env = (false, eval e X.env) :: starEach es X.env := by rfl) (hpl : (backTo pos (starEach es X.env)).any (·.1) = false := by rfl) :
    PE X (.Call (.Name x p) (e :: es) [] pos) (tMakeS C sp [] (WE W) t) := by
  obtain ⟨f, fd, ps, M, F, hm, b⟩ := c.ex
  exact pe_makeS M F (hr.mono hk) hg hm b .nil (fun σ => passAt tk σ) ha hdb he hpl
/-- a raising __init__ called in a def where a class may raise where no exception leaves: the caller promises that none does -/
theorem pe_mx0 (c : MakX X.prog X.w X.K X.mg X.base k x C sp) (hr : Room j X.A) (hk : k + 1 ≤ j) (hg : Gl X x) (ha : PA X (e :: es) t)
    (hdb : (x == ("__debug__" : Str)) = false := by decide) (he : starEach (e :: es) X.env = (false, eval e X.env) :: starEach es X.env := by rfl) (hpl : (backTo pos (starEach es X.env)).any (·.1) = false := by rfl) :
    PE X (.Call (.Name x p) (e :: es) [] pos) (tMake C sp [] E0 t) := by
  obtain ⟨f, fd, ps, M, F, hm, b⟩ := c.ex
  exact pe_make M F (hr.mono hk) hg hm b .nil passL ha hdb he hpl
theorem pe_cx0 (c : CalX X.prog X.w X.K X.mg X.base k x sp) (hr : Room j X.A) (hk : k ≤ j) (hg : Gl X x) (ha : PA X (e :: es) t)
    (hdb : (x == ("__debug__" : Str)) = false := by decide) (he : starEach (e :: es) X.env = (false, eval e X.env) :: starEach es X.env := by rfl) (hpl : (backTo pos (starEach es X.env)).any (·.1) = false := by rfl) :
    PE X (.Call (.Name x p) (e :: es) [] pos) (tCall sp [] E0 t) := by
  obtain ⟨f, fd, ps, F, hm, kp, b⟩ := c.ex
  exact pe_call F (hr.mono hk) hg hm kp b .nil passL ha hdb he hpl
end

/-! ### isinstance of a caught error that has its own dict -/
def rIsED (K : PySem.W.Frag) (cls : Value) (d : Option Addr) (a : Addr) : List V → Hp → VK → Prop := fun xs H Q => ∃ (D dd : Addr) (fs : List (Str × V)) (c : V) (cv : Value) (b : Bool), xs = [.ref a, c] ∧ cls = .ref D ∧ ExcC K D ∧ d = some dd ∧ H dd = some (.xd fs) ∧ ClsV c cv ∧ PySem.W.kitOne K (.ref D) cv = some b ∧ Q (.bl b) H
theorem call_isED {X : Cx} {a : Addr} {oe : Obj} {cls : Value} {d : Option Addr} {pn : List (Addr × Obj)} (hz : Zc cls d oe) (hf : ∃ vs, oe.data = .fields vs) : CallR (X.suite a ((a, oe) :: pn)) (.builtin "isinstance") (rIsED X.K cls d a) := by
  intro pins s σ H xs us Q I r h
  obtain ⟨D, dd, fs, c, cv, b, rfl, rfl, C, rfl, hdd, hcv, e, q⟩ := h
  obtain ⟨u1, u2, rfl, r1, r2⟩ := vals2 r
  cases (show u1 = Value.ref a from r1)
  have ec := hcv.eq r2
  subst ec
  obtain ⟨hget, _⟩ := I.pin (a, oe) (List.mem_append.mpr (.inl List.mem_cons_self))
  obtain ⟨vs, hv⟩ := hf
  have hx : ObjOk X.prog X.w H s.heap dd (.xd fs) := I.hok dd _ hdd
  obtain ⟨mA, hns, hr⟩ := hx
  obtain ⟨od, ho, hl⟩ := lookIn_ns hns
  have J : PySem.W.InstAt s.heap a oe D (some od) := ⟨hget, hz.1, by unfold PySem.W.notCls; rw [hv] <;> rfl, by rw [hz.2]; exact ho⟩
  exact PySem.W.kia_one (PySem.W.kitx_exc (by obtain ⟨cd, hc, _⟩ := PySem.W.any_some C.hd; rw [hc]; rfl) C.hg C.hk C.hs C.ha C.hn C.ht C.hm) I.kIn J e (fun z => nomatch z) fun tk => ⟨.bl b, H, I.kept (t' := tk) fun _ _ z => z, rfl, q⟩

/-! ### heaps -/
theorem Same.tup {K : PySem.W.Frag} {H H' : Hp} {a : Addr} {xs : List V} (e : Same H H') (h : SqT K H a xs) : SqT K H' a xs := by
  rcases h with (h | ⟨o, h⟩) | h
  · exact .inl (.inl (e _ _ h))
  · exact .inl (.inr ⟨o, e _ _ h⟩)
  · exact .inr h
mutual
theorem dp_same {K : PySem.W.Frag} {H H' : Hp} (e : Same H H') : ∀ {v : V} {d : PyData}, Dp K H v d → Dp K H' v d
  | _, _, .non => .non
  | _, _, .bl b => .bl b
  | _, _, .int i => .int i
  | _, _, .str x => .str x
  | _, _, .lst h r => .lst (e.seq h) (dpAll_same e r)
  | _, _, .tup h r => .tup (Same.tup e h) (dpAll_same e r)
theorem dpAll_same {K : PySem.W.Frag} {H H' : Hp} (e : Same H H') : ∀ {vs : List V} {ds : List PyData}, DpAll K H vs ds → DpAll K H' vs ds
  | _, _, .nil => .nil
  | _, _, .cons h r => .cons (dp_same e h) (dpAll_same e r)
end
/-- G: what is known; H: what stands; Fs: what stands apart (tables, things that are changed) -/
structure Wd (Fs : List Addr) (G H : Hp) : Prop where
  same : Same G H
  off : ∀ c ∈ Fs, G c = none
  on : ∀ c ∈ Fs, H c ≠ none
/-- G', H' come of G, H -/
structure Gr (Fs : List Addr) (G H G' H' : Hp) : Prop where
  up : Same G G'
  wd : Wd Fs G' H'
  keep : ∀ c o, c ∉ Fs → H c = some o → H' c = some o
  fresh : ∀ c, G c = none → H c ≠ none → G' c = none
section
variable {Fs Fs' : List Addr} {G H G1 H1 G2 H2 : Hp} {p P : Addr} {o u : HO}
theorem Wd.nin (w : Wd Fs G H) (hp : H p = none) : p ∉ Fs := fun h => w.on p h hp
theorem Wd.free (w : Wd Fs G H) (hp : H p = none) : G p = none := w.same.free hp
theorem Gr.refl (w : Wd Fs G H) : Gr Fs G H G H := ⟨Same.refl _, w, fun _ _ _ e => e, fun _ e _ => e⟩
theorem Gr.trans (a : Gr Fs G H G1 H1) (b : Gr Fs G1 H1 G2 H2) : Gr Fs G H G2 H2 := by
  refine ⟨a.up.trans b.up, b.wd, fun c o n e => b.keep c o n (a.keep c o n e), fun c e n => ?_⟩
  by_cases hc : c ∈ Fs
  · exact b.wd.off c hc
  · refine b.fresh c (a.fresh c e n) fun z => ?_
    cases q : H c with
    | none => exact n q
    | some o => rw [a.keep c o hc q] at z; cases z
/-- a new thing that is known from now on -/
theorem Gr.alloc (w : Wd Fs G H) (hp : H p = none) : Gr Fs G H (upd G p o) (upd H p o) := by
  have hn := w.nin hp
  refine ⟨fun b u e => ?_, ⟨fun b u e => ?_, fun c hc => ?_, fun c hc => ?_⟩, fun c u _ e => ?_, fun c e n => ?_⟩
  · rw [upd_ne (ne_of_none (w.same _ _ e) hp)]; exact e
  · by_cases hb : b = p
    · subst hb; rw [upd_same] at e ⊢; exact e
    · rw [upd_ne hb] at e ⊢; exact w.same _ _ e
  · rw [upd_ne (fun z => hn (by rw [← z]; exact hc))]; exact w.off c hc
  · rw [upd_ne (fun z => hn (by rw [← z]; exact hc))]; exact w.on c hc
  · rw [upd_ne (ne_of_none e hp)]; exact e
  · rw [upd_ne (fun z => n (by rw [z]; exact hp))]; exact e
/-- what stands changes, what is known does not -/
theorem Gr.of_keep (w : Wd Fs G H) (k : ∀ c o, c ∉ Fs → H c = some o → H1 c = some o) (on : ∀ c ∈ Fs, H1 c ≠ none) : Gr Fs G H G H1 := by
  refine ⟨Same.refl _, ⟨fun b u e => ?_, w.off, on⟩, k, fun c e _ => e⟩
  refine k b u (fun hb => ?_) (w.same _ _ e)
  rw [w.off b hb] at e; cases e
theorem Gr.skip (w : Wd Fs G H) (s : Same H H1) : Gr Fs G H G H1 := Gr.of_keep w (fun c o _ e => s c o e) fun c hc z => by
  cases q : H c with
  | none => exact w.on c hc q
  | some o => rw [s c o q] at z; cases z
theorem same_new (hp : H p = none) : Same H (upd H p o) := fun b u e => by rw [upd_ne (ne_of_none e hp)]; exact e
theorem Gr.new (w : Wd Fs G H) (hp : H p = none) : Gr Fs G H G (upd H p o) := Gr.skip w (same_new hp)
theorem Gr.tab (w : Wd Fs G H) (hP : P ∈ Fs) (t : GxR.Tabbed P H H1) : Gr Fs G H G H1 := by
  obtain ⟨⟨ps, e, _⟩, k⟩ := t
  refine Gr.of_keep w (fun c o n q => ?_) fun c hc z => ?_
  · rw [k c (fun z => n (z ▸ hP))]; exact q
  · by_cases hcP : c = P
    · rw [hcP, e] at z; cases z
    · rw [k c hcP] at z; exact w.on c hc z
/-- a write at a thing that was not there at the start and is not known -/
theorem Gr.poke (g : Gr Fs G H G1 H1) (hp : H p = none) (hg : G1 p = none) : Gr Fs G H G1 (upd H1 p o) := by
  refine ⟨g.up, ⟨fun b u e => ?_, g.wd.off, fun c hc z => ?_⟩, fun c u n e => ?_, g.fresh⟩
  · rw [upd_ne (fun z => by rw [z, hg] at e; cases e)]; exact g.wd.same _ _ e
  · by_cases hcp : c = p
    · rw [hcp, upd_same] at z; cases z
    · rw [upd_ne hcp] at z; exact g.wd.on c hc z
  · rw [upd_ne (fun z => by rw [z, hp] at e; cases e)]; exact g.keep c u n e
/-- .. is known from now on -/
theorem Gr.close (g : Gr Fs G H G1 H1) (hp : H p = none) (h1 : H1 p = some o) (hn : p ∉ Fs) (hg : G1 p = none) : Gr Fs G H (upd G1 p o) H1 := by
  refine ⟨fun b u e => ?_, ⟨fun b u e => ?_, fun c hc => ?_, g.wd.on⟩, g.keep, fun c e n => ?_⟩
  · have e1 := g.up _ _ e
    rw [upd_ne (fun z => by rw [z, hg] at e1; cases e1)]; exact e1
  · by_cases hb : b = p
    · subst hb; rw [upd_same] at e; rw [h1]; exact e
    · rw [upd_ne hb] at e; exact g.wd.same _ _ e
  · rw [upd_ne (fun z => hn (by rw [← z]; exact hc))]; exact g.wd.off c hc
  · rw [upd_ne (fun z => n (by rw [z]; exact hp))]; exact g.fresh c e n
theorem Gr.widen (g : Gr Fs G H G1 H1) (w : Wd Fs' G H) (sub : ∀ c ∈ Fs, c ∈ Fs') : Gr Fs' G H G1 H1 := by
  refine ⟨g.up, ⟨g.wd.same, fun c hc => g.fresh c (w.off c hc) (w.on c hc), fun c hc z => ?_⟩, fun c o n e => g.keep c o (fun hc => n (sub c hc)) e, g.fresh⟩
  by_cases h : c ∈ Fs
  · exact g.wd.on c h z
  · cases q : H c with
    | none => exact w.on c hc q
    | some o => rw [g.keep c o h q] at z; cases z
theorem Wd.sub (w : Wd Fs' G H) (sub : ∀ c ∈ Fs, c ∈ Fs') : Wd Fs G H := ⟨w.same, fun c hc => w.off c (sub c hc), fun c hc => w.on c (sub c hc)⟩
theorem Gr.at_ (g : Gr Fs G H G1 H1) (e : H p = some o) (n : p ∉ Fs) : H1 p = some o := g.keep p o n e
theorem Gr.dp {K : PySem.W.Frag} {v : V} {d : PyData} (g : Gr Fs G H G1 H1) (h : Dp K G v d) : Dp K G1 v d := dp_same g.up h
end
abbrev Tabs (Ps : List Addr) (H : Hp) : Prop := ∀ P ∈ Ps, GxR.TabG H P
/-- the tables are kept where nothing else than they may change -/
theorem Tabs.keep {Ps Fs : List Addr} {G H G' H' : Hp} (t : Tabs Ps H) (g : Gr Fs G H G' H') (d : ∀ P ∈ Ps, P ∉ Fs) : Tabs Ps H' := fun P hP => by
  obtain ⟨ps, e, r⟩ := t P hP
  exact ⟨ps, g.keep P _ (d P hP) e, r⟩

/-! ### rows: lists of tuples of ints -/
abbrev tI (ns : List Int) : PyData := .tuple (ns.map .int)
abbrev dI (rs : List (List Int)) : PyData := .list (rs.map tI)
def RowT (K : PySem.W.Frag) (G : Hp) (v : V) (ns : List Int) : Prop := ∃ t, v = .ref t ∧ SqT K G t (ns.map V.int)
abbrev RowsV (K : PySem.W.Frag) (G : Hp) : List V → List (List Int) → Prop := Paired (RowT K G)
def Rows (K : PySem.W.Frag) (G : Hp) (a : Addr) (rs : List (List Int)) : Prop := ∃ xs, SqL K G a xs ∧ RowsV K G xs rs
section
variable {K : PySem.W.Frag} {G G' : Hp} {v : V} {ns : List Int} {xs : List V} {rs : List (List Int)} {a : Addr}
theorem RowT.same (e : Same G G') (h : RowT K G v ns) : RowT K G' v ns := let ⟨t, q, r⟩ := h; ⟨t, q, Same.tup e r⟩
theorem rowsV_same (e : Same G G') : ∀ {xs : List V} {rs : List (List Int)}, RowsV K G xs rs → RowsV K G' xs rs
  | _, _, .nil => .nil
  | _, _, .cons h r => .cons (RowT.same e h) (rowsV_same e r)
theorem Rows.same (e : Same G G') (h : Rows K G a rs) : Rows K G' a rs := let ⟨xs, q, r⟩ := h; ⟨xs, e.seq q, rowsV_same e r⟩
theorem RowT.dp (h : RowT K G v ns) : Dp K G v (tI ns) := by
  obtain ⟨t, rfl, r⟩ := h
  exact .tup r (dpAll_ints ns)
theorem rowsV_dp : ∀ {xs : List V} {rs : List (List Int)}, RowsV K G xs rs → DpAll K G xs (rs.map tI)
  | _, _, .nil => .nil
  | _, _, .cons h r => .cons h.dp (rowsV_dp r)
theorem Rows.dp (h : Rows K G a rs) : Dp K G (.ref a) (dI rs) := by
  obtain ⟨xs, q, r⟩ := h
  exact .lst q (rowsV_dp r)
theorem paired_get {α β : Type} {F : α → β → Prop} : ∀ {l : List α} {m : List β} {i : Nat} {x : α}, Paired F l m → l[i]? = some x → ∃ y, m[i]? = some y ∧ F x y
  | _, _, _, _, .nil, e => by simp at e
  | _, _, 0, _, .cons r _, e => by simp at e; subst e; exact ⟨_, rfl, r⟩
  | _, _, i + 1, x, .cons _ t, e => by
    obtain ⟨y, h1, h2⟩ := paired_get (i := i) (x := x) t (by simpa using e)
    exact ⟨y, by simpa using h1, h2⟩
theorem paired_get' {α β : Type} {F : α → β → Prop} : ∀ {l : List α} {m : List β} {i : Nat} {y : β}, Paired F l m → m[i]? = some y → ∃ x, l[i]? = some x ∧ F x y
  | _, _, _, _, .nil, e => by simp at e
  | _, _, 0, _, .cons r _, e => by simp at e; subst e; exact ⟨_, rfl, r⟩
  | _, _, i + 1, x, .cons _ t, e => by
    obtain ⟨y, h1, h2⟩ := paired_get' (i := i) (y := x) t (by simpa using e)
    exact ⟨y, by simpa using h1, h2⟩
theorem paired_append {α β : Type} {F : α → β → Prop} : ∀ {l l' : List α} {m m' : List β}, Paired F l m → Paired F l' m' → Paired F (l ++ l') (m ++ m')
  | _, _, _, _, .nil, s => s
  | _, _, _, _, .cons r t, s => .cons r (paired_append t s)
theorem paired_snoc {α β : Type} {F : α → β → Prop} {l : List α} {m : List β} {x : α} {y : β} (h : Paired F l m) (r : F x y) : Paired F (l ++ [x]) (m ++ [y]) := paired_append h (.cons r .nil)
theorem paired_take {α β : Type} {F : α → β → Prop} : ∀ {l : List α} {m : List β} (n : Nat), Paired F l m → Paired F (l.take n) (m.take n)
  | _, _, 0, _ => .nil
  | _, _, n + 1, .nil => by simp; exact .nil
  | _, _, n + 1, .cons r t => .cons r (paired_take n t)
theorem paired_drop {α β : Type} {F : α → β → Prop} : ∀ {l : List α} {m : List β} (n : Nat), Paired F l m → Paired F (l.drop n) (m.drop n)
  | _, _, 0, r => r
  | _, _, n + 1, .nil => by simp; exact .nil
  | _, _, n + 1, .cons r t => by simpa using paired_drop n t
theorem paired_rep {α β : Type} {F : α → β → Prop} {x : α} {y : β} (r : F x y) : ∀ n, Paired F (List.replicate n x) (List.replicate n y)
  | 0 => .nil
  | n + 1 => .cons r (paired_rep r n)
end
end Cr
set_option Elab.async false
set_option linter.all false
set_option maxRecDepth 100000
set_option maxHeartbeats 4000000
/-! Defs, methods, classes as the top has left them, and their promises by their bodies -/
namespace Cr
open PySem PySem.Spec PyProof.Rows L2
section
variable (K : PySem.W.Frag) (mg : Str → Option Value) (base : Heap)
def DefR (x : Str) (st : Stmt) (ps : List Str) : Prop := ∃ (f : Addr) (fd : FuncData), Fun K x x st f fd ∧ mg x = some (.ref f) ∧ Binds K fd ps []
def MetR (C : Addr) (m qual : Str) (st : Stmt) (ps : List Str) : Prop := ∃ (f : Addr) (fd : FuncData), Meth K C m f ∧ Fun K m qual st f fd ∧ Binds K fd ps []
def IniR (C : Addr) (x qual : Str) (st : Stmt) (ps : List Str) : Prop := ∃ (f : Addr) (fd : FuncData), Mk K C f ∧ Fun K "__init__" qual st f fd ∧ mg x = some (.ref C) ∧ Binds K fd ps []
def ErrR (C : Addr) (x qual : Str) (st : Stmt) (ps : List Str) : Prop := ∃ (f : Addr) (fd : FuncData), OexC K C ∧ PySem.W.findIn K (.ref C) "__init__" = some (some (.ref f)) ∧ PySem.W.typeIn K (.ref f) = some (.type "function") ∧ Fun K "__init__" qual st f fd ∧ mg x = some (.ref C) ∧ Binds K fd ps []
def CodR (x : Str) (st : Stmt) (ps : List Str) (c T : Addr) : Prop := ∃ (f : Addr) (oc : Value) (od : Option Addr) (kV doc pm : Value) (an : Option Addr) (ct : Value) (osl : Array (Option Value)),
  K.lookup f = some ⟨oc, od, .func (PySem.W.fnOf x x (defArgs st) (defBody st) (defScope st) .none kV doc pm an (.ref c) ct), osl⟩ ∧ PySem.W.codeIn K (.ref c) x = true ∧ mg x = some (.ref f) ∧ PySem.W.keepIn K (.ref f) = true ∧
    Binds K (PySem.W.fnOf x x (defArgs st) (defBody st) (defScope st) .none kV doc pm an (.ref c) ct) ps [] ∧ GxR.TabB base mg c T
end
/-- an own error made -/
structure MakE (P : Program) (w : World) (K : PySem.W.Frag) (mg : Str → Option Value) (base : Heap) (k : Nat) (x : Str) (C : Addr) (sp : Sp) : Prop where
  ex : ∃ (f : Addr) (fd : FuncData) (ps : List Str), OexC K C ∧ PySem.W.findIn K (.ref C) "__init__" = some (some (.ref f)) ∧ PySem.W.typeIn K (.ref f) = some (.type "function") ∧ FnOk P w K mg base CX0 k f fd ps sp ∧ mg x = some (.ref C) ∧ Binds K fd ps []
theorem pmk_c {X : Cx} {k j : Nat} {C : Addr} {x : Str} {sp : Sp} {p pos : Pos} {e : Expr} {es : List Expr} {ta : TA} (c : MakE X.prog X.w X.K X.mg X.base k x C sp) (hr : Room j X.A) (hk : k + 1 ≤ j) (hg : Gl X x) (ha : PA X (e :: es) ta)
    (hdb : (x == ("__debug__" : Str)) = false := by decide) (he : starEach (e :: es) X.env = (false, eval e X.env) :: starEach es X.env := by rfl) (hpl : (backTo pos (starEach es X.env)).any (·.1) = false := by rfl) :
    PMk X (.Call (.Name x p) (e :: es) [] pos) (tMkO C sp [] ta) := by
  obtain ⟨f, fd, ps, T, iC, tI, F, hm, b⟩ := c.ex
  exact pmk_oex T iC tI F (hr.mono hk) b .nil pass0 hg hm ha hdb he hpl
section
variable {P : Program} {w : World} {K : PySem.W.Frag} {mg : Str → Option Value} {base : Heap} {x m qual : Str} {st : Stmt} {N ps : List Str} {k : Nat} {sp : Sp} {C c T : Addr}
/-- what a body is to show: nothing leaves it | something may -/
def Body0 (P : Program) (w : World) (K : PySem.W.Frag) (mg : Str → Option Value) (base : Heap) (N : List Str) (qual : Str) (st : Stmt) (k : Nat) (sp : Sp) : Prop :=
  ∀ (f : Addr) (cdv : Value) (A : Around) (outer : List Env) (s : Shared) (H : Hp) (vs : List V) (Q : VK) (E : XK), Room k (A.deeper (envOfC qual (defScope st) s.heap.objs.size f cdv)) → sp vs H Q E →
    ∃ t, PSs (cxOf CX0 P w K mg base N qual (defScope st) f cdv A outer s H E).nox (defBody st) t ∧ t { nx := fun _ H' => Q .non H', rt := Q } (start N vs) H
def BodyX (P : Program) (w : World) (K : PySem.W.Frag) (mg : Str → Option Value) (base : Heap) (N : List Str) (qual : Str) (st : Stmt) (k : Nat) (sp : Sp) : Prop :=
  ∀ (f : Addr) (cdv : Value) (A : Around) (outer : List Env) (s : Shared) (H : Hp) (vs : List V) (Q : VK) (E : XK), Room k (A.deeper (envOfC qual (defScope st) s.heap.objs.size f cdv)) → sp vs H Q E →
    ∃ t, PSs (cxOf (L2.CX P w) P w K mg base N qual (defScope st) f cdv A outer s H E) (defBody st) t ∧ t { nx := fun _ H' => Q .non H', rt := Q } (start N vs) H
theorem DefR.cal (d : DefR K mg x st ps) (S : FnScope N ps (defScope st)) (len : ∀ vs H Q E, sp vs H Q E → vs.length = ps.length) (b : Body0 P w K mg base N x st k sp) : C8.Cal P w K mg base (k + 1) x sp [] := by
  obtain ⟨f, fd, F, hm, bi⟩ := d
  exact ⟨f, fd, ps, [], F.ok S len (fun cdv A outer s H vs Q E hr h => b f cdv A outer s H vs Q E hr h), hm, F.kp, bi, .nil⟩
theorem DefR.calX (d : DefR K mg x st ps) (S : FnScope N ps (defScope st)) (len : ∀ vs H Q E, sp vs H Q E → vs.length = ps.length) (b : BodyX P w K mg base N x st k sp) : CalX P w K mg base (k + 1) x sp := by
  obtain ⟨f, fd, F, hm, bi⟩ := d
  exact ⟨f, fd, ps, F.okX S len (fun cdv A outer s H vs Q E hr h => b f cdv A outer s H vs Q E hr h), hm, F.kp, bi⟩
theorem MetR.met (d : MetR K C m qual st ps) (cl : Cls K C) (S : FnScope N ps (defScope st)) (len : ∀ vs H Q E, sp vs H Q E → vs.length = ps.length) (b : Body0 P w K mg base N qual st k sp) : C8.Met P w K mg base (k + 1) C m sp [] := by
  obtain ⟨f, fd, M, F, bi⟩ := d
  exact ⟨f, fd, ps, [], cl, M, F.ok S len (fun cdv A outer s H vs Q E hr h => b f cdv A outer s H vs Q E hr h), bi, .nil⟩
theorem IniR.makX (d : IniR K mg C x qual st ps) (S : FnScope N ps (defScope st)) (len : ∀ vs H Q E, sp vs H Q E → vs.length = ps.length) (b : BodyX P w K mg base N qual st k sp) : MakX P w K mg base (k + 1) x C sp := by
  obtain ⟨f, fd, M, F, hm, bi⟩ := d
  exact ⟨f, fd, ps, M, F.okX S len (fun cdv A outer s H vs Q E hr h => b f cdv A outer s H vs Q E hr h), hm, bi⟩
theorem ErrR.make (d : ErrR K mg C x qual st ps) (S : FnScope N ps (defScope st)) (len : ∀ vs H Q E, sp vs H Q E → vs.length = ps.length) (b : Body0 P w K mg base N qual st k sp) : MakE P w K mg base (k + 1) x C sp := by
  obtain ⟨f, fd, O, iC, tI, F, hm, bi⟩ := d
  exact ⟨f, fd, ps, O, iC, tI, F.ok S len (fun cdv A outer s H vs Q E hr h => b f cdv A outer s H vs Q E hr h), hm, bi⟩
theorem CodR.cal (d : CodR K mg base x st ps c T) (S : FnScope N ps (defScope st)) (len : ∀ vs H Q E, sp vs H Q E → vs.length = ps.length)
    (b : GxR.TabB base mg c T → ∀ (f : Addr) (A : Around) (outer : List Env) (s : Shared) (H : Hp) (vs : List V) (Q : VK) (E : XK), Room k (A.deeper (envOfC x (defScope st) s.heap.objs.size f (.ref c))) → sp vs H Q E →
      ∃ t, PSs (cxOf CX0 P w K mg base N x (defScope st) f (.ref c) A outer s H E).nox (defBody st) t ∧ t { nx := fun _ H' => Q .non H', rt := Q } (start N vs) H) : C8.Cal P w K mg base (k + 1) x sp [] := by
  obtain ⟨f, oc, od, kV, doc, pm, an, ct, osl, lk, hcd, hm, kp, bi, tb⟩ := d
  refine ⟨f, _, ps, [], fn_of lk hcd S len fun A outer s H vs Q E hr h => ?_, hm, kp, bi, .nil⟩
  obtain ⟨t, h1, q⟩ := b tb f A outer s H vs Q E hr h
  exact ⟨t, h1.nox, q⟩
end
/-! ### the same rules with the written part said (within a comprehension's block) -/
section
variable {X : Cx} {K : PySem.W.Frag} {e : Expr} {es : List Expr} {f : Str} {ta : TE} {t : TGs} {pos : Pos} {k n : Nat}
theorem pg_tupK (hK : X.K = K) (hc : X.calm = true) (h : PGs X es t) (hn : (assignEach es X.env).length = n := by rfl) (hst : (assignEach es X.env).findIdx? (·.1) = none := by rfl) : PG X (.Tuple es k pos) (gTup K n t) := by
  subst hK
  exact pg_tup hc h hn hst
theorem ix_seqK (hK : X.K = K) : IxR X (rIx K) := by
  subst hK
  exact ix_seq
theorem pe_fldK (hK : X.K = K) (he : PE X e ta) (hb : attributeBase e f X.env (eval e X.env) = eval e X.env) : PE X (.Attribute e f pos) (tFld K ta f) := by
  subst hK
  exact pe_fld he hb
def rLenS (K : PySem.W.Frag) : List V → Hp → VK → Prop := fun xs H Q => ∃ p ys, xs = [.ref p] ∧ (SqL K H p ys ∨ SqT K H p ys) ∧ Q (.int ys.length) H
theorem call_len_seqK (hK : X.K = K) : CallR X (.builtin "len") (rLenS K) := by
  subst hK
  exact call_len_seq
theorem cr_sumK (hK : X.K = K) (hc : X.calm = true) : CallR X (.builtin "sum") (rSum K) := by
  subst hK
  exact cr_sum hc
theorem cr_maxK (hK : X.K = K) (hc : X.calm = true) : CallR X (.builtin "max") (rMax K) := by
  subst hK
  exact cr_max hc
theorem cr_maxTK (hK : X.K = K) (hc : X.calm = true) (hu : X.A.units + 64 < cLine) : CallR X (.builtin "max") (rMaxT K) := by
  subst hK
  exact cr_maxT hc hu
theorem op_in_seqK (hK : X.K = K) : OpR X (compareOp .In) (rIn K false) := by
  subst hK
  exact op_in_seq
theorem op_notIn_seqK (hK : X.K = K) : OpR X (compareOp .NotIn) (rIn K true) := by
  subst hK
  exact op_notIn_seq
theorem sl_listK (hK : X.K = K) : SlR X (rSlL K) := by
  subst hK
  exact sl_list
theorem sl_tupK (hK : X.K = K) : SlR X (rSlT K) := by
  subst hK
  exact sl_tup
theorem op_eqDK (hK : X.K = K) (hu : X.A.units + 64 < cLine) : OpR X (compareOp .Eq) (rEqD K) := by
  subst hK
  exact op_eqD hu
def rListOf (K : PySem.W.Frag) : List V → Hp → VK → Prop := fun xs H Q => ∃ p ys, xs = [.ref p] ∧ (SqL K H p ys ∨ SqT K H p ys) ∧ ∀ l, H l = none → Q (.ref l) (upd H l (.lst ys))
theorem call_list_ofK (hK : X.K = K) : CallR X (.type "list") (rListOf K) := by
  subst hK
  exact call_list_of
end
/-! ### the slots of a comprehension's block -/
theorem wipe_comm {σ : L2.St} {i : Nat} {x : Option V} : ∀ {vs : List Nat}, i ∉ vs → wipe (σ.set i x) vs = (wipe σ vs).set i x
  | [], _ => rfl
  | v :: vs, h => by
    have h1 : i ≠ v := fun e => h (by rw [e]; exact List.mem_cons_self)
    have h2 : i ∉ vs := fun e => h (List.mem_cons_of_mem _ e)
    show (wipe (σ.set i x) vs).set v none = ((wipe σ vs).set v none).set i x
    rw [wipe_comm h2, List.set_comm _ _ h1]
theorem wipe_set {σ : L2.St} {i : Nat} {x : Option V} : ∀ {vs : List Nat}, i ∈ vs → wipe (σ.set i x) vs = wipe σ vs
  | v :: vs, h => by
    show (wipe (σ.set i x) vs).set v none = (wipe σ vs).set v none
    by_cases h2 : i ∈ vs
    · rw [wipe_set h2]
    · have e : i = v := by
        rcases List.mem_cons.mp h with e | e
        · exact e
        · exact absurd e h2
      subst e
      rw [wipe_comm h2, List.set_set]
theorem wipe_wipe (σ : L2.St) (vs : List Nat) : wipe (wipe σ vs) vs = wipe σ vs := by
  have key : ∀ (us : List Nat), (∀ u ∈ us, u ∈ vs) → wipe (wipe σ us) vs = wipe σ vs := by
    intro us
    induction us with
    | nil => intro _; rfl
    | cons u us ih =>
      intro h
      show wipe ((wipe σ us).set u none) vs = wipe σ vs
      rw [wipe_set (h u List.mem_cons_self)]
      exact ih fun z hz => h z (List.mem_cons_of_mem _ hz)
  exact key vs fun _ h => h
theorem Tabs.tab {Ps : List Addr} {H H2 : Hp} {T : Addr} (t : Tabs Ps H) (d : GxR.Tabbed T H H2) : Tabs Ps H2 := fun P hP => by
  by_cases e : P = T
  · rw [e]; exact d.1
  · obtain ⟨ps, q, r⟩ := t P hP
    exact ⟨ps, (d.2 P e).trans q, r⟩
theorem Tabs.same {Ps : List Addr} {H H2 : Hp} (t : Tabs Ps H) (s : Same H H2) : Tabs Ps H2 := fun P hP => by
  obtain ⟨ps, q, r⟩ := t P hP
  exact ⟨ps, s _ _ q, r⟩
end Cr
set_option Elab.async false
set_option linter.all false
set_option maxRecDepth 100000
set_option maxHeartbeats 4000000
/-! What a text's top has left, as facts of the written part; the walk's ground -/
namespace Cr
open PySem PySem.Spec PyProof.Rows L2
section
variable {K : PySem.W.Frag} {mg : Str → Option Value} {base h : Heap}
def DefF (K : PySem.W.Frag) (x : Str) (st : Stmt) : Prop := ∃ (f : Addr) (oc : Value) (od : Option Addr) (kV doc pm : Value) (an : Option Addr) (cd ct : Value) (sl : Array (Option Value)),
  PySem.W.nsIn K mainGlobals x = some (some (.ref f)) ∧ K.lookup f = some ⟨oc, od, .func (PySem.W.fnOf x x (defArgs st) (defBody st) (defScope st) .none kV doc pm an cd ct), sl⟩ ∧ PySem.W.codeIn K cd x = true ∧ PySem.W.keepIn K (.ref f) = true
theorem DefF.mk {x : Str} {st : Stmt} {f : Addr} {oc : Value} {od : Option Addr} {kV doc pm : Value} {an : Option Addr} {cd ct : Value} {sl : Array (Option Value)} (a : PySem.W.nsIn K mainGlobals x = some (some (.ref f))) (l : K.lookup f = some ⟨oc, od, .func (PySem.W.fnOf x x (defArgs st) (defBody st) (defScope st) .none kV doc pm an cd ct), sl⟩) (c : PySem.W.codeIn K cd x = true) (k : PySem.W.keepIn K (.ref f) = true) : DefF K x st := ⟨f, oc, od, kV, doc, pm, an, cd, ct, sl, a, l, c, k⟩
theorem DefF.r {x : Str} {st : Stmt} {ps : List Str} (d : DefF K x st) (X : K.In h) (G : h.Ns mainGlobals mg)
    (hb : ∀ (kV doc pm : Value) (an : Option Addr) (cdv ct : Value) (us : List Value), us.length = ps.length → bindArgs (PySem.W.fnOf x x (defArgs st) (defBody st) (defScope st) .none kV doc pm an cdv ct) ⟨us, []⟩ = pure (ps.zip us)) : DefR K mg x st ps := by
  obtain ⟨f, oc, od, kV, doc, pm, an, cd, ct, sl, a, l, c, k⟩ := d
  have F := fun_mk (st := st) l c k
  exact ⟨f, _, F, PySem.W.mg_of X G a, F.binds (ps := ps) hb⟩
def MetF (K : PySem.W.Frag) (C : Addr) (m qual : Str) (st : Stmt) : Prop := ∃ (f : Addr) (oc : Value) (od : Option Addr) (kV doc pm : Value) (an : Option Addr) (cd ct : Value) (sl : Array (Option Value)),
  PySem.W.findIn K (.ref C) m = some (some (.ref f)) ∧ PySem.W.isFn K (.ref f) = true ∧ K.lookup f = some ⟨oc, od, .func (PySem.W.fnOf m qual (defArgs st) (defBody st) (defScope st) .none kV doc pm an cd ct), sl⟩ ∧ PySem.W.codeIn K cd qual = true ∧ PySem.W.keepIn K (.ref f) = true
theorem MetF.mk {C : Addr} {m qual : Str} {st : Stmt} {f : Addr} {oc : Value} {od : Option Addr} {kV doc pm : Value} {an : Option Addr} {cd ct : Value} {sl : Array (Option Value)} (a : PySem.W.findIn K (.ref C) m = some (some (.ref f))) (i : PySem.W.isFn K (.ref f) = true) (l : K.lookup f = some ⟨oc, od, .func (PySem.W.fnOf m qual (defArgs st) (defBody st) (defScope st) .none kV doc pm an cd ct), sl⟩) (c : PySem.W.codeIn K cd qual = true) (k : PySem.W.keepIn K (.ref f) = true) : MetF K C m qual st := ⟨f, oc, od, kV, doc, pm, an, cd, ct, sl, a, i, l, c, k⟩
theorem MetF.r {C : Addr} {m qual : Str} {st : Stmt} {ps : List Str} (d : MetF K C m qual st)
    (hb : ∀ (kV doc pm : Value) (an : Option Addr) (cdv ct : Value) (us : List Value), us.length = ps.length → bindArgs (PySem.W.fnOf m qual (defArgs st) (defBody st) (defScope st) .none kV doc pm an cdv ct) ⟨us, []⟩ = pure (ps.zip us)) : MetR K C m qual st ps := by
  obtain ⟨f, oc, od, kV, doc, pm, an, cd, ct, sl, a, i, l, c, k⟩ := d
  have F := fun_mk (st := st) l c k
  exact ⟨f, _, ⟨a, i, k⟩, F, F.binds (ps := ps) hb⟩
theorem MetF.ini {C : Addr} {x qual : Str} {st : Stmt} {ps : List Str} (d : MetF K C "__init__" qual st) (hm : mg x = some (.ref C)) (mk : PySem.W.makesIn K C = true) (kc : PySem.W.keepIn K (.ref C) = true)
    (hb : ∀ (kV doc pm : Value) (an : Option Addr) (cdv ct : Value) (us : List Value), us.length = ps.length → bindArgs (PySem.W.fnOf "__init__" qual (defArgs st) (defBody st) (defScope st) .none kV doc pm an cdv ct) ⟨us, []⟩ = pure (ps.zip us)) : IniR K mg C x qual st ps := by
  obtain ⟨f, oc, od, kV, doc, pm, an, cd, ct, sl, a, i, l, c, k⟩ := d
  have F := fun_mk (st := st) l c k
  exact ⟨f, _, ⟨mk, a, i, kc⟩, F, hm, F.binds (ps := ps) hb⟩
def ErrF (K : PySem.W.Frag) (C : Addr) (qual : Str) (st : Stmt) : Prop := ∃ (f : Addr) (oc : Value) (od : Option Addr) (kV doc pm : Value) (an : Option Addr) (cd ct : Value) (sl : Array (Option Value)),
  PySem.W.findIn K (.ref C) "__init__" = some (some (.ref f)) ∧ PySem.W.typeIn K (.ref f) = some (.type "function") ∧ K.lookup f = some ⟨oc, od, .func (PySem.W.fnOf "__init__" qual (defArgs st) (defBody st) (defScope st) .none kV doc pm an cd ct), sl⟩ ∧ PySem.W.codeIn K cd qual = true ∧ PySem.W.keepIn K (.ref f) = true
theorem ErrF.mk {C : Addr} {qual : Str} {st : Stmt} {f : Addr} {oc : Value} {od : Option Addr} {kV doc pm : Value} {an : Option Addr} {cd ct : Value} {sl : Array (Option Value)} (a : PySem.W.findIn K (.ref C) "__init__" = some (some (.ref f))) (i : PySem.W.typeIn K (.ref f) = some (.type "function")) (l : K.lookup f = some ⟨oc, od, .func (PySem.W.fnOf "__init__" qual (defArgs st) (defBody st) (defScope st) .none kV doc pm an cd ct), sl⟩) (c : PySem.W.codeIn K cd qual = true) (k : PySem.W.keepIn K (.ref f) = true) : ErrF K C qual st := ⟨f, oc, od, kV, doc, pm, an, cd, ct, sl, a, i, l, c, k⟩
theorem ErrF.r {C : Addr} {x qual : Str} {st : Stmt} {ps : List Str} (d : ErrF K C qual st) (O : OexC K C) (hm : mg x = some (.ref C))
    (hb : ∀ (kV doc pm : Value) (an : Option Addr) (cdv ct : Value) (us : List Value), us.length = ps.length → bindArgs (PySem.W.fnOf "__init__" qual (defArgs st) (defBody st) (defScope st) .none kV doc pm an cdv ct) ⟨us, []⟩ = pure (ps.zip us)) : ErrR K mg C x qual st ps := by
  obtain ⟨f, oc, od, kV, doc, pm, an, cd, ct, sl, a, i, l, c, k⟩ := d
  have F := fun_mk (st := st) l c k
  exact ⟨f, _, O, a, i, F, hm, F.binds (ps := ps) hb⟩
def CodF (K : PySem.W.Frag) (x : Str) (st : Stmt) (cc : Addr) : Prop := ∃ (f : Addr) (oc : Value) (od : Option Addr) (kV doc pm : Value) (an : Option Addr) (ct : Value) (sl : Array (Option Value)),
  PySem.W.nsIn K mainGlobals x = some (some (.ref f)) ∧ K.lookup f = some ⟨oc, od, .func (PySem.W.fnOf x x (defArgs st) (defBody st) (defScope st) .none kV doc pm an (.ref cc) ct), sl⟩ ∧ PySem.W.codeIn K (.ref cc) x = true ∧ PySem.W.keepIn K (.ref f) = true
theorem CodF.mk {x : Str} {st : Stmt} {cc f : Addr} {oc : Value} {od : Option Addr} {kV doc pm : Value} {an : Option Addr} {ct : Value} {sl : Array (Option Value)} (a : PySem.W.nsIn K mainGlobals x = some (some (.ref f))) (l : K.lookup f = some ⟨oc, od, .func (PySem.W.fnOf x x (defArgs st) (defBody st) (defScope st) .none kV doc pm an (.ref cc) ct), sl⟩) (c : PySem.W.codeIn K (.ref cc) x = true) (k : PySem.W.keepIn K (.ref f) = true) : CodF K x st cc := ⟨f, oc, od, kV, doc, pm, an, ct, sl, a, l, c, k⟩
theorem CodF.r {x : Str} {st : Stmt} {ps : List Str} {cc T : Addr} (d : CodF K x st cc) (X : K.In h) (G : h.Ns mainGlobals mg) (tb : GxR.TabB base mg cc T)
    (hb : ∀ (kV doc pm : Value) (an : Option Addr) (cdv ct : Value) (us : List Value), us.length = ps.length → bindArgs (PySem.W.fnOf x x (defArgs st) (defBody st) (defScope st) .none kV doc pm an cdv ct) ⟨us, []⟩ = pure (ps.zip us)) : CodR K mg base x st ps cc T := by
  obtain ⟨f, oc, od, kV, doc, pm, an, ct, sl, a, l, c, k⟩ := d
  have F := fun_mk (st := st) l c k
  exact ⟨f, oc, od, kV, doc, pm, an, ct, sl, l, c, PySem.W.mg_of X G a, k, F.binds (ps := ps) hb, tb⟩
theorem kit_own {D C : Addr} {b : Bool} (ne : (Value.ref D == Value.ref C) = false) (h2 : PySem.W.isClsIn K C = true) (h3 : PySem.W.typeIn K (.ref C) = some (.type "type")) (h4 : PySem.W.subIn K (.ref D) (.ref C) = some b) : PySem.W.kitOne K (.ref D) (.ref C) = some b := by
  have e2 : ((PySem.W.clsIn K C).isSome && PySem.W.typeIn K (.ref C) == some (.type "type")) = true := by
    have h2' : (PySem.W.clsIn K C).isSome = true := h2
    rw [h2', h3] <;> rfl
  unfold PySem.W.kitOne
  rw [ne, if_neg Bool.false_ne_true]
  show (if ((PySem.W.clsIn K C).isSome && PySem.W.typeIn K (.ref C) == some (.type "type")) = true then PySem.W.subIn K (.ref D) (.ref C) else none) = some b
  rw [if_pos e2]
  exact h4
theorem kit_self {C : Addr} (h : (Value.ref C == Value.ref C) = true) : PySem.W.kitOne K (.ref C) (.ref C) = some true := by
  unfold PySem.W.kitOne
  rw [if_pos h]
theorem kit_bltn {D : Addr} {T : String} {b : Bool} (ne : (Value.ref D == Value.type T) = false) (h2 : PySem.W.kitMeta T = true) (h4 : PySem.W.subIn K (.ref D) (.type T) = some b) : PySem.W.kitOne K (.ref D) (.type T) = some b := by
  unfold PySem.W.kitOne
  rw [ne, if_neg Bool.false_ne_true]
  show (if PySem.W.kitMeta T = true then PySem.W.subIn K (.ref D) (.type T) else none) = some b
  rw [if_pos h2]
  exact h4
theorem exm_own {D C : Addr} {b : Bool} (h1 : PySem.W.subIn K (.ref C) (.type "BaseException") = some true) (h2 : PySem.W.isClsIn K C = true) (h3 : PySem.W.typeIn K (.ref C) = some (.type "type")) (h4 : PySem.W.subIn K (.ref D) (.ref C) = some b) : PySem.W.exmOne K (.ref D) (.ref C) = some b := by
  have e1 : (PySem.W.subIn K (.ref C) (.type "BaseException") == some true) = true := by rw [h1] <;> rfl
  have e2 : ((PySem.W.clsIn K C).isSome && PySem.W.typeIn K (.ref C) == some (.type "type")) = true := by
    have h2' : (PySem.W.clsIn K C).isSome = true := h2
    rw [h2', h3] <;> rfl
  show (if (PySem.W.subIn K (.ref C) (.type "BaseException") == some true) = true then (if ((PySem.W.clsIn K C).isSome && PySem.W.typeIn K (.ref C) == some (.type "type")) = true then PySem.W.subIn K (.ref D) (.ref C) else none) else none) = some b
  rw [if_pos e1, if_pos e2]
  exact h4
end
theorem walk_tab {l : PySem.W.OpenLaw} {n k : Nat} {q : Program} {loose : List Str} {XP : (Str → Option Value) → Heap → Prop} {YP : World → Heap → Prop} {d : DefRec} {K : Params → PySem.W.Frag} {CX : World → CXT} {x : Str}
    (hn : l.most = some n) (hn2 : n ≤ sizeLine) (hdf : d.params.defaults = []) (hr : Room k callerA) (hY : ∀ (w : World) (h : Heap), YP w h → (K w.params).In h)
    (F : ∀ (w : World) (s₀ : Shared) (mg mb : Str → Option Value) (fa : Addr) (h : Heap), PySem.W.Ground q loose [] XP w s₀ mg mb h → (K w.params).In h → h.Ns mainGlobals mg → mg d.name = some (.ref fa) → LamX.LawAtS l w (K w.params) (CX w) k n x mg fa h)
    (hCX : ∀ (w : World) (H : Hp) (s : Shared) (e : Value) (s' : Shared), CX w [] H s (fun _ _ _ => False) e s' → False) :
    PySem.W.WalkO q loose XP YP l.row.toRowW d [] (fun f vs => PySem.call f vs) := by
  refine Att.attach_callB hn hdf fun w s₀ s₁ mg mb fa o pm cd doc a vs ns G Y ho hd hcd hmg hobj hints hlen hbits hg => ?_
  have KX := hY w _ Y
  obtain ⟨fd, cs, sp, hT, nT, C, hb, hsp, hF⟩ := F w s₀ mg mb fa _ G KX G.T.g hmg
  exact LamX.law_callTs KX G.T.g G.T.b G.T.builtins G.T.nolimit hg hT nT C G.T.bmain hobj hints (Nat.le_trans hlen hn2) hr hF hb (fun H hH hS => hsp H a ns hlen hbits hH hS) fun H e s' => hCX w H s₁ e s'
end Cr
set_option Elab.async false
set_option linter.all false
set_option maxRecDepth 100000
set_option maxHeartbeats 4000000
/-! isinstance of a caught error, with or without a dict of its own, by one class or a tuple of classes -/
namespace Cr
open PySem PySem.Spec PyProof.Rows L2
def rIsEX (K : PySem.W.Frag) (cls : Value) (d : Option Addr) (a : Addr) : List V → Hp → VK → Prop := fun xs H Q => ∃ (D : Addr) (c : V) (b : Bool), xs = [.ref a, c] ∧ cls = .ref D ∧ ExcC K D ∧ (match d with | none => True | some dd => ∃ fs, H dd = some (.xd fs)) ∧
  ((∃ cv, ClsV c cv ∧ PySem.W.kitOne K (.ref D) cv = some b) ∨ (∃ tp cs us, c = .ref tp ∧ H tp = some (.tup cs) ∧ Paired ClsV cs us ∧ PySem.W.kitAny K (.ref D) us = some b)) ∧ Q (.bl b) H
theorem call_isEX {X : Cx} {a : Addr} {oe : Obj} {cls : Value} {d : Option Addr} {pn : List (Addr × Obj)} (hz : Zc cls d oe) (hf : ∃ vs, oe.data = .fields vs) : CallR (X.suite a ((a, oe) :: pn)) (.builtin "isinstance") (rIsEX X.K cls d a) := by
  intro pins s σ H xs us Q I r h
  obtain ⟨D, c, b, rfl, rfl, C, hd, hc, q⟩ := h
  obtain ⟨u1, u2, rfl, r1, r2⟩ := vals2 r
  cases (show u1 = Value.ref a from r1)
  obtain ⟨hget, _⟩ := I.pin (a, oe) (List.mem_append.mpr (.inl List.mem_cons_self))
  obtain ⟨vs, hv⟩ := hf
  obtain ⟨od, J⟩ : ∃ od, PySem.W.InstAt s.heap a oe D od := by
    cases d with
    | none =>
      exact ⟨none, hget, hz.1, by unfold PySem.W.notCls; rw [hv] <;> rfl, by rw [hz.2]; exact True.intro⟩
    | some dd =>
      obtain ⟨fs, hdd⟩ := hd
      have hx : ObjOk X.prog X.w H s.heap dd (.xd fs) := I.hok dd _ hdd
      obtain ⟨mA, hns, hr⟩ := hx
      obtain ⟨od, ho, hl⟩ := lookIn_ns hns
      exact ⟨some od, hget, hz.1, by unfold PySem.W.notCls; rw [hv] <;> rfl, by rw [hz.2]; exact ho⟩
  have Z := PySem.W.kitx_exc (K := X.K) (C := D) (x := a) (ox := oe) (od := od) (gt := none) (by obtain ⟨cd, hc, _⟩ := PySem.W.any_some C.hd; rw [hc]; rfl) C.hg C.hk C.hs C.ha C.hn C.ht C.hm
  rcases hc with ⟨cv, hcv, e⟩ | ⟨tp, cs, us', rfl, hT, k, e⟩
  · have ec := hcv.eq r2
    subst ec
    exact PySem.W.kia_one Z I.kIn J e (fun z => nomatch z) fun tk => ⟨.bl b, H, I.kept (t' := tk) fun _ _ z => z, rfl, q⟩
  · cases (show u2 = Value.ref tp from r2)
    obtain ⟨_, its, rv, o, h1, h2, n, h3⟩ := (show ObjOk X.prog X.w H s.heap tp (.tup cs) from I.hok tp _ hT)
    have e3 := ClsV.all k rv
    subst e3
    obtain ⟨oc, od', dt, sl⟩ := o
    simp only at h2 h3
    subst h2 h3
    exact PySem.W.kia_tup Z I.kIn J h1 e (fun z => nomatch z) fun tk => ⟨.bl b, H, I.tok tk, rfl, q⟩
theorem kitAny_f {K : PySem.W.Frag} {t : Value} : ∀ {cs : List Value}, (∀ c ∈ cs, PySem.W.kitOne K t c = some false) → PySem.W.kitAny K t cs = some false
  | [], _ => rfl
  | c :: r, h => by
    unfold PySem.W.kitAny
    rw [h c List.mem_cons_self]
    exact kitAny_f fun z hz => h z (List.mem_cons_of_mem _ hz)
end Cr
set_option Elab.async false
set_option linter.all false
set_option maxRecDepth 100000
set_option maxHeartbeats 4000000
/-! all(len(row) == n for row in xs), xs a list of lists, n a name of the def -/
namespace Cr
open PySem PySem.Spec PyProof.Rows L2
section
variable {X : Cx} {P : Addr} {scope : Scope} {cenv : Env} {s₁ s₂ : Shared} {pins : List (Addr × Obj)} {σ : L2.St} {H : Hp} {ps : Array Value}
/-- what is no table stands where a test runs -/
theorem Seen.stands (Z : Seen X P scope cenv s₁ s₂) (hP : s₁.heap.get? P = some { cls := .none, data := .fields ps }) {b : Addr} {o : Obj} (e : s₁.heap.get? b = some o) (n : ∀ vs, o.data ≠ .fields vs) : s₂.heap.get? b = some o :=
  Z.up b o (fun z => n ps (by rw [z] at e; cases hP.symm.trans e; rfl)) e
/-- a name of the def around, in the generator's own cells -/
theorem Seen.cell (Z : Seen X P scope cenv s₁ s₂) {g : Str} {c : Addr} (hg : scope.names.lookup g = some .free) (hc : X.env.cells.lookup g = some c) : cenv.cells.lookup g = some c := by
  rw [Z.cells]
  obtain ⟨c2, e2⟩ := mem_lookup (cloFrom_has (cells := X.env.cells) (acc := []) (PySem.mem_of_lookup hg))
  rcases cloFrom_mem (PySem.mem_of_lookup e2) with hm | ⟨_, h2⟩
  · cases hm
  · rw [hc] at h2
    exact e2.trans (h2 ▸ rfl)
/-- len(row) == n, n a cell of the def -/
theorem len_is {x g : Str} {n : Int} {b c : Addr} {arr : Array Value} {tk : Tok} {m : Str → Option Value} {A : Around} {E : Value → Shared → Prop} {p1 p2 p3 p4 p5 : Pos} (hk : scope.kind = .function) (hl : scope.names.lookup x = some .local)
    (hlen : scope.names.lookup ("len" : Str) = some .globalImplicit) (hmLen : X.mg "len" = none) (hg : scope.names.lookup g = some .free) (hd : (x == ("__debug__" : Str)) = false) (hd2 : (g == ("__debug__" : Str)) = false) (hd3 : (g == ("__classdict__" : Str)) = false)
    (Z : Seen X P scope cenv s₁ s₂) (I : Inv X pins σ H s₁) (hP : H P = some (.tbl ps)) (hb : s₁.heap.IsList b arr) (hz : arr.size ≤ sizeLine) (hc : X.env.cells.lookup g = some c) (hcell : s₁.heap.IsCell c (some (.int n tk))) (hn : s₂.heap.Ns cenv.locals m) (hx : m x = some (.ref b)) :
    wpAny (model X.prog X.w) A (eval (.Compare (.Call (.Name "len" p1) [.Name x p2] [] p3) [.Eq] [.Name g p4] p5) cenv) (fun y s₃ => y = .bool (decide ((arr.size : Int) = n)) ∧ Keeps s₂ s₃) E s₂ := by
  have hP1 := I.hok P _ hP
  have kf : cenv.scope.kind = .function := Z.sc ▸ hk
  have look : ∀ {y : Str} {k : NameKind}, scope.names.lookup y = some k → cenv.scope.names.lookup y = some k := fun e => by rw [Z.sc]; exact e
  have B2 : s₂.heap.IsList b arr := let ⟨o, ho, h1, h2, h3⟩ := hb; ⟨o, Z.stands hP1 ho (fun vs z => nomatch h3.symm.trans z), h1, h2, h3⟩
  have C2 : s₂.heap.IsCell c (some (.int n tk)) := let ⟨o, ho, h1⟩ := hcell; ⟨o, Z.stands hP1 ho (fun vs z => nomatch h1.symm.trans z), h1⟩
  obtain ⟨mb, hb1, hb2⟩ := I.mod.blt
  have N2 : s₂.heap.Ns builtinsNs mb := hb1.keeps fun _ _ => Z.base I hP
  refine wpAny_Compare1 (wpAny_Call_Name_kw (Calls.Name_function_global kf (look hlen) (Calls.loadGlobal_builtin (by rw [Z.gl]; exact Z.globals I hP) hmLen (by rw [Z.bl]; exact N2) ((hb2 "len" (by decide)).trans boot_len) ?_) (by decide))) (by rfl)
  refine PyProof.Rows.callWith_builtin1 (PyProof.Rows.args_cons (wpAny_Name (wpAny_loadName_local kf (look hl) hn hx (PyProof.Rows.args_nil (Calls.call_len_list B2 (by rw [sizeLine_eq] at hz; omega) ?_))) hd) rfl) rfl rfl
  exact wpAny_Name (wpAny_loadName_free (s := { s₂ with toks := s₂.toks + 1 + 1 }) kf (look hg) (Z.cell hg hc) C2 (PyProof.Rows.eq_int ⟨rfl, s₂.heap, _, rfl, fun _ _ e => e⟩) hd3) hd2
end
section
variable {X : Cx}
theorem look_cell {pins : List (Addr × Obj)} {σ : L2.St} {H : Hp} {s : Shared} (I : Inv X pins σ H s) {i : Nat} {g : Str} {n : Int} (hN : X.N[i]? = some g) (hc : X.env.scope.names.lookup g = some .cell) (h : σ[i]? = some (some (.int n))) : ∃ c tk, X.env.cells.lookup g = some c ∧ s.heap.IsCell c (some (.int n tk)) := by
  obtain ⟨m, hn, hl⟩ := I.loc
  obtain ⟨w', r, q⟩ := hl i g _ hN h (.inr (.inl hc))
  obtain ⟨tk, rfl⟩ : ∃ tk, w' = .int n tk := r
  rcases q with ⟨k', _⟩ | ⟨_, c, e', z⟩
  · have k' : X.env.scope.names.lookup g = some .local := k'
    rw [hc] at k'
    cases k'
  · exact ⟨c, tk, e', z⟩
/-- all(len(row) == g for row in e) -/
def tAllLen (K : PySem.W.Frag) (P : Addr) (i : Nat) (te : TE) : TE := fun σ H Q => te σ H fun v H1 => ∃ (a : Addr) (vs : List V) (rs : List (List V)) (n : Int), v = .ref a ∧ SqL K H1 a vs ∧ Paired (fun v ys => ∃ b, v = .ref b ∧ SqL K H1 b ys) vs rs ∧ σ[i]? = some (some (.int n)) ∧ GxR.TabG H1 P ∧
  ∀ H2, GxR.Tabbed P H1 H2 → Q (.bl (rs.all fun ys => decide ((ys.length : Int) = n))) H2
theorem pe_allLen {c P : Addr} {iter : Expr} {x g : Str} {px p pos gpos p1 p2 p3 p4 p5 : Pos} {scope : Scope} {te : TE} {k i : Nat}
    (hr : Room k X.A) (hg : Gl X "all") (hm : X.mg "all" = none) (hb : bootBuiltins "all" = some (.builtin "all")) (TB : GxR.TabB X.base X.mg c P) (hcode : X.env.code = .ref c) (S : GxR.GenS X.env scope x) (hi : PE X iter te) (hlen : scope.names.lookup ("len" : Str) = some .globalImplicit) (hmLen : X.mg "len" = none)
    (hgf : scope.names.lookup g = some .free) (hN : X.N[i]? = some g) (hc : X.env.scope.names.lookup g = some .cell) (hs : ∀ v, genFold iter X.env v = pure v)
    (hd : (x == ("__debug__" : Str)) = false := by decide) (hd2 : (g == ("__debug__" : Str)) = false := by decide) (hd3 : (g == ("__classdict__" : Str)) = false := by decide)
    (he : starEach [.GeneratorExp (.Compare (.Call (.Name "len" p1) [.Name x p2] [] p3) [.Eq] [.Name g p4] p5) [⟨.Name x px, iter, [], 0⟩] scope gpos] X.env = [(false, eval (.GeneratorExp (.Compare (.Call (.Name "len" p1) [.Name x p2] [] p3) [.Eq] [.Name g p4] p5) [⟨.Name x px, iter, [], 0⟩] scope gpos) X.env)] := by rfl) :
    PE X (.Call (.Name "all" p) [.GeneratorExp (.Compare (.Call (.Name "len" p1) [.Name x p2] [] p3) [.Eq] [.Name g p4] p5) [⟨.Name x px, iter, [], 0⟩] scope gpos] [] pos) (tAllLen X.K P i te) := by
  refine pe_all hr hg hm hb TB hcode S hi hs (fun σ H Q h => ⟨_, h, fun v H1 ⟨a, vs, rs, n, ev, hl, hp, hσ, hT, q⟩ => ?_⟩) he
  refine ⟨vs, fun j => decide ((((rs.getD j []).length : Nat) : Int) = n), ⟨a, ev, .inl hl⟩, hT, fun pins ps s1 hP I1 cenv A E j y u s2 m _ Z hy r hn hx => ?_, fun H2 h2 => ?_⟩
  · obtain ⟨ys, hys, b, rfl, hb⟩ := paired_get hp hy
    cases (show u = .ref b from r)
    obtain ⟨its, rv, pl, hz⟩ := I1.list hb
    obtain ⟨c, tk, hcl, hcell⟩ := look_cell I1 hN hc hσ
    have num : its.toArray.size = ys.length := by rw [List.size_toArray, rv.length]
    have := len_is (A := A) (E := E) (p1 := p1) (p2 := p2) (p3 := p3) (p4 := p4) (p5 := p5) S.kind S.loc hlen hmLen hgf hd hd2 hd3 Z I1 hP pl.isList (num ▸ hz) hcl hcell hn hx
    rwa [num, show ys = rs.getD j [] by rw [List.getD_eq_getElem?_getD, hys]; rfl] at this
  · rw [Paired.length hp, all_range rs (fun ys => decide ((ys.length : Int) = n)) _ fun j ys e => by rw [List.getD_eq_getElem?_getD, e]; rfl]
    exact q H2 h2
end
end Cr
set_option Elab.async false
set_option linter.all false
set_option maxRecDepth 100000
set_option maxHeartbeats 4000000
/-! Expressions over texts and numbers that change no object: a def's body that is quiet -/
namespace Cr
open PySem PySem.Spec PyProof.Rows L2
section
variable {prog : Program} {w : World} {A : Around} {env : Env} {h : Heap}
/-- e tells v; no object is made or changed -/
def QE (prog : Program) (w : World) (A : Around) (env : Env) (h : Heap) (e : Expr) (v : V) : Prop :=
  ∀ (s : Shared) (Q E : Value → Shared → Prop), s.heap = h → (∀ u k, RelV v u → Q u { s with toks := k }) → wpAny (model prog w) A (eval e env) Q E s
def QT (prog : Program) (w : World) (A : Around) (env : Env) (h : Heap) (e : Expr) (b : Bool) : Prop :=
  ∀ (s : Shared) (Q : Bool → Shared → Prop) (E : Value → Shared → Prop), s.heap = h → (∀ k, Q b { s with toks := k }) → wpAny (model prog w) A (isTrue e env (eval e env)) Q E s
/-- what stands around: the frame's names, the module's, the built-ins -/
structure Qf (env : Env) (h : Heap) (mg : Str → Option Value) (m : Str → Option Value) : Prop where
  kind : env.scope.kind = .function
  ns : h.Ns env.locals m
  gl : env.globals = mainGlobals
  gns : h.Ns mainGlobals mg
  bl : env.builtins = builtinsNs
  bns : ∃ mb, h.Ns builtinsNs mb ∧ ∀ x : Str, x ≠ "__name__" → mb x = bootBuiltins x
variable {mg m : Str → Option Value}
theorem q_name {x : Str} {v : V} {u : Value} {p : Pos} (f : Qf env h mg m) (hl : env.scope.names.lookup x = some .local) (hm : m x = some u) (r : RelV v u) (hd : (x == ("__debug__" : Str)) = false := by decide) : QE prog w A env h (.Name x p) v := fun s Q E hs hQ =>
  wpAny_Name (wpAny_loadName_local f.kind hl (by rw [hs]; exact f.ns) hm (hQ u s.toks r)) hd
theorem q_glob {x : Str} {v : V} {u : Value} {p : Pos} (f : Qf env h mg m) (hl : env.scope.names.lookup x = some .globalImplicit) (hm : mg x = some u) (r : RelV v u) (hd : (x == ("__debug__" : Str)) = false := by decide) : QE prog w A env h (.Name x p) v := fun s Q E hs hQ =>
  Calls.Name_function_global f.kind hl (Calls.loadGlobal_global (by rw [f.gl, hs]; exact f.gns) hm (hQ u s.toks r)) hd
theorem q_int {i : Int} {j : Nat} {p : Pos} : QE prog w A env h (.Constant (.int i) j p) (.int i) := fun s Q E hs hQ => wpAny_Constant_int (hQ _ _ ⟨_, rfl⟩)
theorem q_str {x : Str} {j : Nat} {p : Pos} : QE prog w A env h (.Constant (.str x) j p) (.str x) := fun s Q E hs hQ => Calls.Constant_str (hQ _ _ ⟨_, rfl⟩)
theorem q_len {x : Str} {a : Str} {u : Value} {p p2 p3 : Pos} (f : Qf env h mg m) (hg : env.scope.names.lookup ("len" : Str) = some .globalImplicit) (hm0 : mg "len" = none) (hl : env.scope.names.lookup x = some .local) (hm : m x = some u) (r : RelV (.str a) u) (hz : a.length ≤ sizeLine)
    (hd : (x == ("__debug__" : Str)) = false := by decide) : QE prog w A env h (.Call (.Name "len" p) [.Name x p2] [] p3) (.int a.length) := fun s Q E hs hQ => by
  obtain ⟨mb, b1, b2⟩ := f.bns
  obtain ⟨t, rfl⟩ := r
  refine wpAny_Call_Name_kw (Calls.Name_function_global f.kind hg (Calls.loadGlobal_builtin (by rw [f.gl, hs]; exact f.gns) hm0 (by rw [f.bl, hs]; exact b1) ((b2 "len" (by decide)).trans boot_len) ?_) (by decide))
  refine PyProof.Rows.callWith_builtin1 (PyProof.Rows.args_cons (wpAny_Name (wpAny_loadName_local f.kind hl (by rw [hs]; exact f.ns) hm (PyProof.Rows.args_nil ?_)) hd) rfl) rfl rfl
  exact len_str (by rw [sizeLine_eq] at hz; omega) (hQ _ _ ⟨_, rfl⟩)
theorem q_m0 {x nm : Str} {id : String} {a : Str} {u : Value} {v : V} {p apos cpos : Pos} (f : Qf env h mg m) (hl : env.scope.names.lookup x = some .local) (hm : m x = some u) (r : RelV (.str a) u) (pa : PlainAttrs "str") (slot : Slot "str" nm id) (hty : typeOf (.builtin id) = pure (.type "method_descriptor"))
    (rule : ∀ (t : Tok) (s : Shared) (Q E : Value → Shared → Prop), (∀ u k, RelV v u → Q u { s with toks := k }) → wpAny (model prog w) A (call (.builtin id) [.str a t]) Q E s)
    (hbase : attributeBase (.Name x p) nm env (eval (.Name x p) env) = eval (.Name x p) env := by rfl) (hline : (apos.endLine == cpos.line) = true := by rfl) (hd : (x == ("__debug__" : Str)) = false := by decide) :
    QE prog w A env h (.Call (.Attribute (.Name x p) nm apos) [] [] cpos) v := fun s Q E hs hQ => by
  obtain ⟨t, rfl⟩ := r
  refine wpAny_Call_method0_late hbase hline (wpAny_Name (wpAny_loadName_local f.kind hl (by rw [hs]; exact f.ns) hm ?_) hd)
  exact ⟨"str", id, pa, slot, hty, typeIs_str s a t, fun _ e => (nomatch e), Calls.callWith_builtin rfl (PySem.evalArgs_none (rule t s Q E hQ))⟩
theorem q_at {x a : Str} {u : Value} {i : Int} {j : Nat} {c : Nat} {p p2 p3 : Pos} (f : Qf env h mg m) (hl : env.scope.names.lookup x = some .local) (hm : m x = some u) (r : RelV (.str a) u) (hz : a.length ≤ sizeLine) (hc : atI a.cps.toList i = some c) (hd : (x == ("__debug__" : Str)) = false := by decide) :
    QE prog w A env h (.Subscript (.Name x p) (.Constant (.int i) j p2) p3) (.str ⟨#[c]⟩) := fun s Q E hs hQ => by
  obtain ⟨t, rfl⟩ := r
  refine Subscript_ (wpAny_Name (wpAny_loadName_local f.kind hl (by rw [hs]; exact f.ns) hm (wpAny_Constant_int ?_)) hd)
  obtain ⟨k, h1, h2, h3, h4, h5⟩ := atI_get hc
  have hll : a.cps.toList.length = a.length := by simp [Str.length]
  rw [hll] at h1 h4 h5
  have hn := line63
  exact tail_any (typeIs_str _ a t) slot_str_getitem.lookup (getItem_str (c := c) (by
    have e1 : decide (i < -(2 ^ 63 : Int)) = false := decide_eq_false (by omega)
    have e2 : decide (i ≥ 2 ^ 63) = false := decide_eq_false (by omega)
    rw [e1, e2, Bool.or_false]) (by rw [h1]; simpa using h2) (hQ _ _ ⟨_, rfl⟩)) rfl
theorem q_eq {a b : Expr} {x y : Str} {p : Pos} (ha : QE prog w A env h a (.str x)) (hb : QE prog w A env h b (.str y)) (hmk : behindInMarks .Eq b = false := by with_unfolding_all rfl) : QE prog w A env h (.Compare a [.Eq] [b] p) (.bl (x == y)) := fun s Q E hs hQ => by
  refine wpAny_Compare1 (ha s _ E hs fun u k ⟨t, e⟩ => hb _ _ E hs fun u2 k2 ⟨t2, e2⟩ => ?_) hmk
  subst e e2
  exact eq_str (hQ _ _ rfl)
theorem q_ne {a b : Expr} {x y : Str} {p : Pos} (ha : QE prog w A env h a (.str x)) (hb : QE prog w A env h b (.str y)) (hmk : behindInMarks .NotEq b = false := by with_unfolding_all rfl) : QE prog w A env h (.Compare a [.NotEq] [b] p) (.bl (x != y)) := fun s Q E hs hQ => by
  refine wpAny_Compare1 (ha s _ E hs fun u k ⟨t, e⟩ => hb _ _ E hs fun u2 k2 ⟨t2, e2⟩ => ?_) hmk
  subst e e2
  exact ne_str (hQ _ _ rfl)
/-- a or b, as a value -/
theorem q_or {a b : Expr} {x : Bool} {v : Bool} {p : Pos} (ha : QE prog w A env h a (.bl x)) (hb : x = false → QE prog w A env h b (.bl v)) (hv : x = true → v = true) : QE prog w A env h (.BoolOp .Or [a, b] p) (.bl v) := fun s Q E hs hQ => by
  refine BoolOp_or (ha s _ E hs fun u k e => ?_)
  cases (show u = .bool x from e)
  refine wpAny_truthy_bool ?_
  cases x with
  | true =>
    rw [hv rfl] at hQ
    exact hQ _ _ rfl
  | false => exact BoolOp_one (hb rfl _ _ E hs fun u k2 r => hQ u k2 r)
/-! tests -/
theorem qt_val {e : Expr} {b : Bool} (he : QE prog w A env h e (.bl b)) (hp : ∀ whole, isTrue e env whole = (do let v ← whole; standAt e.pos; holding [v] (truthy v)) := by intro _; rfl) : QT prog w A env h e b := fun s Q E hs hQ => by
  refine isTrue_plain (he s _ E hs fun u k r => ?_) (hp _)
  cases (show u = .bool b from r)
  exact wpAny_truthy_bool (hQ k)
theorem qt_not {e : Expr} {b : Bool} {p : Pos} (he : QT prog w A env h e b) : QT prog w A env h (.UnaryOp .Not e p) (!b) := fun s Q E hs hQ => isTrue_not (he s (fun c s' => Q (!c) s') E hs fun k => hQ k)
theorem qt_or {a b : Expr} {x y : Bool} {p : Pos} (ha : QT prog w A env h a x) (hb : x = false → QT prog w A env h b y) : QT prog w A env h (.BoolOp .Or [a, b] p) (x || y) := fun s Q E hs hQ => by
  refine isTrue_or (ha s _ E hs fun k => ?_)
  cases x with
  | true => exact hQ k
  | false =>
    refine isTrue_or (hb rfl _ _ E hs fun k2 => ?_)
    cases y with
    | true => exact hQ k2
    | false => exact isTrue_or_nil (hQ k2)
/-- a <= b <= c, numbers -/
theorem qt_chain {a b c : Expr} {i j k : Int} {p : Pos} (ha : QE prog w A env h a (.int i)) (hb : QE prog w A env h b (.int j)) (hc : QE prog w A env h c (.int k)) (hmk : lastMarks [CmpOp.LtE, CmpOp.LtE] [b, c] = false := by with_unfolding_all rfl) :
    QT prog w A env h (.Compare a [.LtE, .LtE] [b, c] p) (decide (i ≤ j) && decide (j ≤ k)) := fun s Q E hs hQ => by
  refine isTrue_chain (ha s _ E hs fun u k1 ⟨t, e⟩ => test_link (hb _ _ E hs fun u2 k2 ⟨t2, e2⟩ => ?_)) hmk
  subst e e2
  refine PyProof.Rows.le_int (wpAny_truthy_bool ?_)
  by_cases h1 : i ≤ j
  · rw [decide_eq_true h1] at hQ ⊢
    refine test_last (hc _ _ E hs fun u3 k3 ⟨t3, e3⟩ => ?_)
    subst e3
    refine PyProof.Rows.le_int (wpAny_truthy_bool ?_)
    exact hQ k3
  · rw [decide_eq_false h1] at hQ ⊢
    exact hQ k2
theorem QT.use {e : Expr} {b : Bool} {s : Shared} {Q : Bool → Shared → Prop} {E : Value → Shared → Prop} (he : QT prog w A env h e b) (hs : s.heap = h) (hQ : ∀ k, Q b { s with toks := k }) : wpAny (model prog w) A (isTrue e env (eval e env)) Q E s := he s Q E hs hQ
theorem QE.use {e : Expr} {v : V} {s : Shared} {Q E : Value → Shared → Prop} (he : QE prog w A env h e v) (hs : s.heap = h) (hQ : ∀ u k, RelV v u → Q u { s with toks := k }) : wpAny (model prog w) A (eval e env) Q E s := he s Q E hs hQ
end
end Cr
set_option Elab.async false
set_option linter.all false
set_option maxRecDepth 100000
set_option maxHeartbeats 4000000
/-! all(test for x in xs), the test calling a def of the module: a turn lies one deeper than the def that asks -/
namespace Cr
open PySem PySem.Spec PyProof.Rows L2
/-- the element: a test of an item that finds the module as it was, and room for a call -/
def EltG (X : Cx) (scope : Scope) (x : Str) (elt : Expr) (Pz : V → Prop) (tr : V → Bool) : Prop :=
  ∀ (cenv : Env) (A' : Around) (E' : Value → Shared → Prop) (v : V) (u : Value) (s₂ : Shared) (m₂ : Str → Option Value), A'.depth < recursionLimit → cenv.scope = scope → cenv.globals = mainGlobals → cenv.builtins = builtinsNs → Mod X.K X.mg X.base →
    (∀ b o, X.base.get? b = some o → s₂.heap.get? b = some o) → Pz v → RelV v u → s₂.heap.Ns cenv.locals m₂ → m₂ x = some u → wpAny (model X.prog X.w) A' (eval elt cenv) (fun y s₃ => y = .bool (tr v) ∧ Keeps s₂ s₃) E' s₂
/-- all(test for x in e), e a list; behind it the def's table may have grown -/
def tAllC (K : PySem.W.Frag) (P : Addr) (Pz : V → Prop) (tr : V → Bool) (te : TE) : TE := fun σ H Q => te σ H fun v H1 => ∃ (a : Addr) (vs : List V), v = .ref a ∧ SqL K H1 a vs ∧ (∀ v ∈ vs, Pz v) ∧ GxR.TabG H1 P ∧ ∀ H2, GxR.Tabbed P H1 H2 → Q (.bl (vs.all tr)) H2
theorem pe_allC {X : Cx} {c P : Addr} {elt iter : Expr} {x : Str} {px p pos gpos : Pos} {scope : Scope} {Pz : V → Prop} {tr : V → Bool} {te : TE} {k : Nat} (hr : Room (k + 1) X.A) (hg : Gl X "all") (hm : X.mg "all" = none) (hb : bootBuiltins "all" = some (.builtin "all"))
    (TB : GxR.TabB X.base X.mg c P) (hcode : X.env.code = .ref c) (S : GxR.GenS X.env scope x) (hi : PE X iter te) (hel : EltG X scope x elt Pz tr) (hs : ∀ v, genFold iter X.env v = pure v)
    (he : starEach [.GeneratorExp elt [⟨.Name x px, iter, [], 0⟩] scope gpos] X.env = [(false, eval (.GeneratorExp elt [⟨.Name x px, iter, [], 0⟩] scope gpos) X.env)] := by rfl) :
    PE X (.Call (.Name "all" p) [.GeneratorExp elt [⟨.Name x px, iter, [], 0⟩] scope gpos] [] pos) (tAllC X.K P Pz tr te) :=
  pe_all hr hg hm hb TB hcode S hi hs (fun σ H Q h => ⟨_, h, fun v H1 ⟨a, vs, ev, hl, hz, hT, q⟩ => ⟨vs, byItem vs tr, ⟨a, ev, .inl hl⟩, hT,
    fun pins ps s1 hP I1 cenv A E j y u s2 m dp Z hy r hn hmx => by
      rw [byItem_at hy]
      have := hr.dp
      exact hel cenv A E y u s2 m (by omega) Z.sc Z.gl Z.bl I1.mod (fun _ _ => Z.base I1 hP) (hz y (List.mem_of_getElem? hy)) r hn hmx,
    fun H2 h2 => by rw [all_byItem]; exact q H2 h2⟩⟩) he
end Cr
set_option Elab.async false
set_option linter.all false
set_option maxRecDepth 100000
set_option maxHeartbeats 4000000

namespace Cr
open PySem PySem.Spec PyProof.Rows L2
def top (i : Nat) : Stmt := PySem.Challenge.pw_candleroom_k12_texts_refused.main.body.getD i (.Pass ⟨0, 0, 0, 0⟩)
abbrev sBadHouse_init : Stmt := inClass (top 3) 0
abbrev nBadHouse_init : List Str := ["self", "word", "number"]
abbrev aBadHouse_init : List Str := ["self", "word", "number"]
theorem scBadHouse_init : FnScope nBadHouse_init aBadHouse_init (defScope sBadHouse_init) := ⟨rfl, rfl, rfl, by decide +kernel, rfl, by decide +kernel, by decide +kernel⟩
abbrev sHouse_init : Stmt := inClass (top 14) 0
abbrev nHouse_init : List Str := ["self", "hours", "rooms", "doors", "stays"]
abbrev aHouse_init : List Str := ["self", "hours", "rooms", "doors", "stays"]
theorem scHouse_init : FnScope nHouse_init aHouse_init (defScope sHouse_init) := ⟨rfl, rfl, rfl, by decide +kernel, rfl, by decide +kernel, by decide +kernel⟩
abbrev sHouse_rooms : Stmt := inClass (top 14) 1
abbrev nHouse_rooms : List Str := ["self"]
abbrev aHouse_rooms : List Str := ["self"]
theorem scHouse_rooms : FnScope nHouse_rooms aHouse_rooms (defScope sHouse_rooms) := ⟨rfl, rfl, rfl, by decide +kernel, rfl, by decide +kernel, by decide +kernel⟩
abbrev sHouse_doors : Stmt := inClass (top 14) 2
abbrev nHouse_doors : List Str := ["self"]
abbrev aHouse_doors : List Str := ["self"]
theorem scHouse_doors : FnScope nHouse_doors aHouse_doors (defScope sHouse_doors) := ⟨rfl, rfl, rfl, by decide +kernel, rfl, by decide +kernel, by decide +kernel⟩
abbrev sHouse_stays : Stmt := inClass (top 14) 3
abbrev nHouse_stays : List Str := ["self"]
abbrev aHouse_stays : List Str := ["self"]
theorem scHouse_stays : FnScope nHouse_stays aHouse_stays (defScope sHouse_stays) := ⟨rfl, rfl, rfl, by decide +kernel, rfl, by decide +kernel, by decide +kernel⟩
abbrev sHouse_use : Stmt := inClass (top 14) 4
abbrev nHouse_use : List Str := ["self", "room", "hour", "use", "_"]
abbrev aHouse_use : List Str := ["self", "room", "hour"]
theorem scHouse_use : FnScope nHouse_use aHouse_use (defScope sHouse_use) := ⟨rfl, rfl, rfl, by decide +kernel, rfl, by decide +kernel, by decide +kernel⟩
abbrev sHouse_least : Stmt := inClass (top 14) 5
abbrev nHouse_least : List Str := ["self", "room", "hour"]
abbrev aHouse_least : List Str := ["self", "room", "hour"]
theorem scHouse_least : FnScope nHouse_least aHouse_least (defScope sHouse_least) := ⟨rfl, rfl, rfl, by decide +kernel, rfl, by decide +kernel, by decide +kernel⟩
abbrev sHouse__wants : Stmt := inClass (top 14) 6
abbrev nHouse__wants : List Str := ["self", "room", "hour", "place", "begin", "end", "use", "need"]
abbrev aHouse__wants : List Str := ["self", "room", "hour"]
theorem scHouse__wants : FnScope nHouse__wants aHouse__wants (defScope sHouse__wants) := ⟨rfl, rfl, rfl, by decide +kernel, rfl, by decide +kernel, by decide +kernel⟩
abbrev s_check_counts : Stmt := top 15
abbrev n_check_counts : List Str := ["hours", "rooms", "doors", "stays"]
abbrev a_check_counts : List Str := ["hours", "rooms", "doors", "stays"]
theorem sc_check_counts : FnScope n_check_counts a_check_counts (defScope s_check_counts) := ⟨rfl, rfl, rfl, by decide +kernel, rfl, by decide +kernel, by decide +kernel⟩
abbrev s_check_parts : Stmt := top 16
abbrev n_check_parts : List Str := ["hours", "rooms", "doors", "stays", "number", "room", "door", "stay"]
abbrev a_check_parts : List Str := ["hours", "rooms", "doors", "stays"]
theorem sc_check_parts : FnScope n_check_parts a_check_parts (defScope s_check_parts) := ⟨rfl, rfl, rfl, by decide +kernel, rfl, by decide +kernel, by decide +kernel⟩
abbrev s_numbers_can_be : Stmt := top 17
abbrev n_numbers_can_be : List Str := ["numbers"]
abbrev a_numbers_can_be : List Str := ["numbers"]
theorem sc_numbers_can_be : FnScope n_numbers_can_be a_numbers_can_be (defScope s_numbers_can_be) := ⟨rfl, rfl, rfl, by decide +kernel, rfl, by decide +kernel, by decide +kernel⟩
abbrev s_room_can_be : Stmt := top 18
abbrev n_room_can_be : List Str := ["room", "air", "most", "_"]
abbrev a_room_can_be : List Str := ["room"]
theorem sc_room_can_be : FnScope n_room_can_be a_room_can_be (defScope s_room_can_be) := ⟨rfl, rfl, rfl, by decide +kernel, rfl, by decide +kernel, by decide +kernel⟩
abbrev s_door_can_be : Stmt := top 19
abbrev n_door_can_be : List Str := ["door", "rooms", "one", "other", "_"]
abbrev a_door_can_be : List Str := ["door", "rooms"]
theorem sc_door_can_be : FnScope n_door_can_be a_door_can_be (defScope s_door_can_be) := ⟨rfl, rfl, rfl, by decide +kernel, rfl, by decide +kernel, by decide +kernel⟩
abbrev s_stay_can_be : Stmt := top 20
abbrev n_stay_can_be : List Str := ["stay", "hours", "rooms", "place", "begin", "end", "_", "need", "most"]
abbrev a_stay_can_be : List Str := ["stay", "hours", "rooms"]
theorem sc_stay_can_be : FnScope n_stay_can_be a_stay_can_be (defScope s_stay_can_be) := ⟨rfl, rfl, rfl, by decide +kernel, rfl, by decide +kernel, by decide +kernel⟩

/-! ### the mathematics: which house can be -/
def numOk (n : Int) : Bool := decide (0 ≤ n) && decide (n ≤ 999)
def numV (v : V) : Bool := match v with
  | .int i => decide (0 ≤ i) && decide (i ≤ 999)
  | _ => false
theorem all_num : ∀ ns : List Int, (ns.map V.int).all numV = ns.all numOk
  | [] => rfl
  | n :: r => by
    rw [List.map_cons, List.all_cons, List.all_cons, all_num r]
    all_goals rfl
def roomOk : List Int → Bool
  | [a, m, l, p] => ([a, m, l, p] : List Int).all numOk && decide (a ≤ m)
  | _ => false
def doorOk (nr : Nat) : List Int → Bool
  | [o, t, l] => ([o, t, l] : List Int).all numOk && (!decide (o = t) && decide (max o t < (nr : Int)))
  | _ => false
def mostOf (rooms : List (List Int)) (r : Int) : Int := ((rooms.getD r.toNat []).getD 1 0)
def stayOk (h : Int) (rooms : List (List Int)) : List Int → Bool
  | [r, b, e, u, n] => ([r, b, e, u, n] : List Int).all numOk && (decide (r < (rooms.length : Int)) && (decide (b < e) && decide (e ≤ h) && decide (n ≤ mostOf rooms r)))
  | _ => false
/-- the first place where ok does not hold -/
def firstNot (ok : List Int → Bool) (rs : List (List Int)) : Option Nat := rs.findIdx? fun r => !ok r
def countBad (h : Int) (rooms doors stays : List (List Int)) : Option (Str × Int) :=
  if ¬ (1 ≤ h ∧ h ≤ 12) then some ("hours", 0) else if ¬ (1 ≤ rooms.length ∧ rooms.length ≤ 6) then some ("rooms", 0) else if doors.length > 8 then some ("doors", 0) else if stays.length > 20 then some ("stays", 0) else none
def partBad (h : Int) (rooms doors stays : List (List Int)) : Option (Str × Int) := match firstNot roomOk rooms with
  | some i => some ("room", (i : Int))
  | none => match firstNot (doorOk rooms.length) doors with
    | some i => some ("door", (i : Int))
    | none => match firstNot (stayOk h rooms) stays with
      | some i => some ("stay", (i : Int))
      | none => none
def houseBad (h : Int) (rooms doors stays : List (List Int)) : Option (Str × Int) := match countBad h rooms doors stays with
  | some z => some z
  | none => partBad h rooms doors stays
/-- the rows are of the right width -/
def Wide (n : Nat) (rs : List (List Int)) : Prop := ∀ r ∈ rs, r.length = n

/-! ### what the text's top has left -/
/-- the addresses of the text's classes, of a code object and its table -/
structure Ad where
  cH : Addr
  cA : Addr
  mA : Value
  cBH : Addr
  cNum : Addr
  tNum : Addr
structure RawP (K : PySem.W.Frag) (mg : Str → Option Value) (base : Heap) (ad : Ad) : Prop where
  airI : BaseI K ad.cA ad.mA
  m_AirError : mg "AirError" = some (.ref ad.cA)
  bh : ErrR K mg ad.cBH "BadHouse" "BadHouse.__init__" sBadHouse_init aBadHouse_init
  bhw : PySem.W.findIn K (.ref ad.cBH) "word" = some none
  bhn : PySem.W.findIn K (.ref ad.cBH) "number" = some none
  hi : IniR K mg ad.cH "House" "House.__init__" sHouse_init aHouse_init
  hcl : Cls K ad.cH
  hnh : NoAttr K ad.cH "hours"
  hnr : NoAttr K ad.cH "_rooms"
  hnd : NoAttr K ad.cH "_doors"
  hns : NoAttr K ad.cH "_stays"
  hro : MetR K ad.cH "rooms" "House.rooms" sHouse_rooms aHouse_rooms
  hdo : MetR K ad.cH "doors" "House.doors" sHouse_doors aHouse_doors
  hst : MetR K ad.cH "stays" "House.stays" sHouse_stays aHouse_stays
  hus : MetR K ad.cH "use" "House.use" sHouse_use aHouse_use
  hle : MetR K ad.cH "least" "House.least" sHouse_least aHouse_least
  hwa : MetR K ad.cH "_wants" "House._wants" sHouse__wants aHouse__wants
  cc : DefR K mg "_check_counts" s_check_counts a_check_counts
  cp : DefR K mg "_check_parts" s_check_parts a_check_parts
  nc : CodR K mg base "_numbers_can_be" s_numbers_can_be a_numbers_can_be ad.cNum ad.tNum
  rc : DefR K mg "_room_can_be" s_room_can_be a_room_can_be
  dc : DefR K mg "_door_can_be" s_door_can_be a_door_can_be
  sc : DefR K mg "_stay_can_be" s_stay_can_be a_stay_can_be
  gH : ∃ t, mg "MOST_HOURS" = some (.int 12 t)
  gR : ∃ t, mg "MOST_ROOMS" = some (.int 6 t)
  gD : ∃ t, mg "MOST_DOORS" = some (.int 8 t)
  gS : ∃ t, mg "MOST_STAYS" = some (.int 20 t)
  gN : ∃ t, mg "MOST_NUMBER" = some (.int 999 t)
  b_all : mg "all" = none
  b_len : mg "len" = none
  b_max : mg "max" = none
  b_sum : mg "sum" = none
  b_list : mg "list" = none
  b_enumerate : mg "enumerate" = none

section
variable {P : Program} {w : World} {K : PySem.W.Frag} {mg : Str → Option Value} {base : Heap} {ad : Ad}
/-! ### BadHouse -/
theorem small_num : ∀ k : Nat, k < 32 → (toString ((k : Nat) : Int) : Str).length ≤ 2 := by decide +kernel
theorem small_log : ∀ k : Nat, k < 32 → ((k : Nat) : Int).natAbs.log2 < 1920 := by decide +kernel
/-- BadHouse.__init__ -/
def spBHi (ad : Ad) : Sp := fun vs H Q _ => ∃ (a : Addr) (wd : Str) (k : Nat), vs = [.ref a, .str wd, .int (k : Int)] ∧ wd.length ≤ 10 ∧ k < 32 ∧ H a = some (exo a ad.cBH none) ∧
  ∀ dx, H dx = none → dx ≠ a → Q .non (upd (upd (upd H dx (exd dx [("word", .str wd)])) a (exo a ad.cBH (some dx))) dx (exd dx [("number", .int (k : Int)), ("word", .str wd)]))
theorem len_app (a b : Str) : (a ++ b).length = a.length + b.length := by
  show (a.cps ++ b.cps).size = _
  rw [Array.size_append] <;> rfl
theorem mk_bh (T : RawP K mg base ad) : MakE P w K mg base 1 "BadHouse" ad.cBH (spBHi ad) := by
  obtain ⟨_, _, O, _⟩ := id T.bh
  refine T.bh.make scBadHouse_init (fun vs H Q E h => ?_) (fun f cdv A outer s H vs Q E hr h => ?_)
  · obtain ⟨a, wd, k, rfl, _⟩ := h
    rfl
  · obtain ⟨a, wd, k, rfl, hw, hk, ha, q⟩ := h
    have m_AirError := T.m_AirError
    have i_AirError := T.airI
    refine ⟨_, (pss_cons (ps_expr (pe_baseinit i_AirError (by rfl) m_AirError (pa_cons (pv 0) (pa_cons (pe_joined (PJ.cons pe_str (PJ.cons (pe_fmt (pv 1)) (PJ.cons pe_str (PJ.cons (pe_fmt (pv 2)) PJ.nil))))) pa_nil))))
      (pss_cons (ps_ost (pv 0) (pv 1))
      (pss_one (ps_ost (pv 0) (pv 2))))), ?_⟩
    have hlw : wd.length ≤ 10 := hw
    have hz := small_num k hk
    have e1 : (Str.empty ++ ("a house cannot be so: " : Str)).length = 22 := by decide +kernel
    have e2 : ((" " : Str)).length = 1 := by decide +kernel
    have ez : ∀ n : Nat, n ≤ 100 → n ≤ sizeLine := fun n h => by rw [sizeLine_eq]; omega
    refine ⟨_, rfl, _, rfl, ez _ (by omega), _, rfl, .inl ⟨_, rfl, ez _ (by omega), _, rfl, ez _ (by rw [len_app, e1]; omega), _, rfl, ez _ (by rw [len_app, len_app, e1, e2]; omega), _, rfl, .inr ⟨_, rfl, small_log k hk, _, rfl, ez _ (by rw [len_app, len_app, len_app, e1, e2]; omega), ?_⟩⟩⟩
    refine ⟨a, ad.cBH, _, rfl, by show 1 ≤ 1000; decide, O, ha, ?_⟩
    refine ⟨_, rfl, _, rfl, a, ad.cBH, rfl, O, T.bhw, .inl ⟨ha, fun dx hdx hne => ?_⟩⟩
    refine ⟨_, rfl, _, rfl, a, ad.cBH, rfl, O, T.bhn, .inr ⟨dx, [("word", .str wd)], upd_same, ?_, ?_, ?_⟩⟩
    · rw [upd_ne hne, upd_same]
    · show 1 ≤ 900
      decide
    · exact q dx hdx hne
end
end Cr
set_option Elab.async false
set_option linter.all false
set_option maxRecDepth 100000
set_option maxHeartbeats 4000000

namespace Cr
open PySem PySem.Spec PyProof.Rows L2
theorem noFree {names : List (Str × NameKind)} {Q : Str × NameKind → Prop} (h : (names.all fun y => !decide (y.2 = .free)) = true) : ∀ y ∈ names, y.2 = .free → Q y := fun y hy e => by
  have z := List.all_eq_true.mp h y hy
  rw [decide_eq_true e] at z
  cases z
theorem len4 {α : Type} {l : List α} (h : l.length = 4) : ∃ a b c d, l = [a, b, c, d] := match l, h with
  | [a, b, c, d], _ => ⟨a, b, c, d, rfl⟩
theorem len3 {α : Type} {l : List α} (h : l.length = 3) : ∃ a b c, l = [a, b, c] := match l, h with
  | [a, b, c], _ => ⟨a, b, c, rfl⟩
theorem len5 {α : Type} {l : List α} (h : l.length = 5) : ∃ a b c d e, l = [a, b, c, d, e] := match l, h with
  | [a, b, c, d, e], _ => ⟨a, b, c, d, e, rfl⟩
section
variable {P : Program} {w : World} {K : PySem.W.Frag} {mg : Str → Option Value} {base : Heap} {ad : Ad} {Ps : List Addr}
def spNum (K : PySem.W.Frag) (Ps : List Addr) : Sp := fun vs H Q _ => ∃ (G : Hp) (t : Addr) (ns : List Int), vs = [.ref t] ∧ Wd Ps G H ∧ Tabs Ps H ∧ SqT K G t (ns.map V.int) ∧ ∀ H', Gr Ps G H G H' → Tabs Ps H' → Q (.bl (ns.all numOk)) H'
theorem c_num (T : RawP K mg base ad) (hP : ad.tNum ∈ Ps) : C8.Cal P w K mg base 1 "_numbers_can_be" (spNum K Ps) [] := by
  refine T.nc.cal sc_numbers_can_be (fun vs H Q E h => ?_) (fun tb f A outer s H vs Q E hr h => ?_)
  · obtain ⟨G, t, ns, rfl, _⟩ := h
    rfl
  · obtain ⟨G, t, ns, rfl, wd, tbs, ht, q⟩ := h
    have b_all := T.b_all
    obtain ⟨tk, g_MOST_NUMBER⟩ := T.gN
    refine ⟨_, (pss_one (ps_ret (pe_allT hr (by rfl) b_all (by decide +kernel) tb rfl ⟨rfl, rfl, by decide +kernel, rfl, rfl, noFree (by decide +kernel)⟩ (pv 0) (elt_between rfl rfl rfl g_MOST_NUMBER) (fun _ => rfl)))), ?_⟩
    refine ⟨_, rfl, t, ns.map V.int, rfl, Same.tup wd.same ht, fun v hv => ?_, tbs _ hP, fun H2 ht2 => ?_⟩
    · obtain ⟨i, _, rfl⟩ := List.mem_map.mp hv
      exact ⟨i, rfl⟩
    · have e : (ns.map V.int).all (fun v => match v with | .int i => decide (0 ≤ i) && decide (i ≤ 999) | _ => false) = ns.all numOk := by
        rw [List.all_map]
        all_goals rfl
      have z := q H2 (Gr.tab wd hP ht2) (Tabs.tab tbs ht2)
      rw [← e] at z
      exact z
/-- a test of one row: its value -/
def spRow (K : PySem.W.Frag) (Ps : List Addr) (n : Nat) (ok : List Int → Bool) : Sp := fun vs H Q _ => ∃ (G : Hp) (v : V) (ns : List Int), vs = [v] ∧ Wd Ps G H ∧ Tabs Ps H ∧ RowT K G v ns ∧ ns.length = n ∧ ∀ H', Gr Ps G H G H' → Tabs Ps H' → Q (.bl (ok ns)) H'
theorem c_room (T : RawP K mg base ad) (hP : ad.tNum ∈ Ps) : C8.Cal P w K mg base 2 "_room_can_be" (spRow K Ps 4 roomOk) [] := by
  refine T.rc.cal sc_room_can_be (fun vs H Q E h => ?_) (fun f cdv A outer s H vs Q E hr h => ?_)
  · obtain ⟨G, t, ns, rfl, _⟩ := h
    rfl
  · obtain ⟨G, v, ns, rfl, wd, tbs, ⟨t, rfl, ht⟩, hl, q⟩ := h
    obtain ⟨a, m, l, p, rfl⟩ := len4 hl
    have k__numbers_can_be : C8.Cal P w K mg base 1 "_numbers_can_be" (spNum K Ps) [] := c_num T hP
    refine ⟨_, (pss_cons (ps_asg (pv 0) (pg_tup rfl (pgs_cons (pg_name (i := 1) sc_room_can_be.nd rfl (Or.inl rfl)) (pgs_cons (pg_name (i := 2) sc_room_can_be.nd rfl (Or.inl rfl)) (pgs_cons (pg_name (i := 3) sc_room_can_be.nd rfl (Or.inl rfl)) (pgs_cons (pg_name (i := 3) sc_room_can_be.nd rfl (Or.inl rfl)) pgs_nil))))))
      (pss_one (ps_ret (pe_and (C8.pe_c k__numbers_can_be hr (by decide) rfl (pa_cons (pv 0) pa_nil)) (pe_one (pe_cmpR op_le (pv 1) (pv 2) (nomark _))))))), ?_⟩
    refine ⟨_, rfl, t, _, rfl, Same.tup wd.same ht, rfl, _, _, rfl, _, _, rfl, _, _, rfl, _, _, rfl, rfl, ?_⟩
    refine ⟨_, rfl, G, t, _, rfl, wd, tbs, ht, fun H' g tb' => ⟨_, rfl, ?_⟩⟩
    have z := q H' g tb'
    refine ite2 (fun hc => ?_) (fun hc => ?_)
    · refine ⟨_, rfl, _, rfl, _, _, rfl, rfl, ?_⟩
      have e : roomOk [a, m, l, p] = decide (a ≤ m) := by
        show (([a, m, l, p] : List Int).all numOk && decide (a ≤ m)) = _
        rw [hc, Bool.true_and]
      rw [e] at z
      exact z
    · have e : roomOk [a, m, l, p] = false := by
        show (([a, m, l, p] : List Int).all numOk && decide (a ≤ m)) = _
        rw [Bool.eq_false_iff.mpr hc, Bool.false_and]
      rw [e] at z
      exact z
theorem max_if (a b : Int) : (if b > a then b else a) = max a b := by
  by_cases h : b > a
  · rw [if_pos h]; omega
  · rw [if_neg h]; omega
def spDoor (K : PySem.W.Frag) (Ps : List Addr) : Sp := fun vs H Q _ => ∃ (G : Hp) (v : V) (ra : Addr) (ns : List Int) (rs : List (List Int)), vs = [v, .ref ra] ∧ Wd Ps G H ∧ Tabs Ps H ∧ RowT K G v ns ∧ ns.length = 3 ∧ Rows K G ra rs ∧ ∀ H', Gr Ps G H G H' → Tabs Ps H' → Q (.bl (doorOk rs.length ns)) H'
theorem c_door (T : RawP K mg base ad) (hP : ad.tNum ∈ Ps) : C8.Cal P w K mg base 2 "_door_can_be" (spDoor K Ps) [] := by
  refine T.dc.cal sc_door_can_be (fun vs H Q E h => ?_) (fun f cdv A outer s H vs Q E hr h => ?_)
  · obtain ⟨G, v, ra, ns, rs, rfl, _⟩ := h
    rfl
  · obtain ⟨G, v, ra, ns, rs, rfl, wd, tbs, ⟨t, rfl, ht⟩, hl, hR, q⟩ := h
    obtain ⟨o, d, l, rfl⟩ := len3 hl
    have b_max := T.b_max
    have b_len := T.b_len
    have k__numbers_can_be : C8.Cal P w K mg base 1 "_numbers_can_be" (spNum K Ps) [] := c_num T hP
    refine ⟨_, (pss_cons (ps_asg (pv 0) (pg_tup rfl (pgs_cons (pg_name (i := 2) sc_door_can_be.nd rfl (Or.inl rfl)) (pgs_cons (pg_name (i := 3) sc_door_can_be.nd rfl (Or.inl rfl)) (pgs_cons (pg_name (i := 4) sc_door_can_be.nd rfl (Or.inl rfl)) pgs_nil)))))
      (pss_one (ps_ret (pe_and (C8.pe_c k__numbers_can_be hr (by decide) rfl (pa_cons (pv 0) pa_nil)) (pe_and (pe_cmpR op_ne (pv 2) (pv 3) (nomark _)) (pe_one (pe_cmpR op_lt (pe_callB (call_max2 rfl) (by rfl) b_max (by decide +kernel) (pa_cons (pv 2) (pa_cons (pv 3) pa_nil))) (pe_callB call_len_seq (by rfl) b_len (by decide +kernel) (pa_cons (pv 1) pa_nil)) (nomark _)))))))), ?_⟩
    refine ⟨_, rfl, t, _, rfl, Same.tup wd.same ht, rfl, _, _, rfl, _, _, rfl, _, _, rfl, rfl, ?_⟩
    refine ⟨_, rfl, G, t, _, rfl, wd, tbs, ht, fun H' g tb' => ⟨_, rfl, ?_⟩⟩
    have z := q H' g tb'
    have e : doorOk rs.length [o, d, l] = (([o, d, l] : List Int).all numOk && (!decide (o = d) && decide (max o d < (rs.length : Int)))) := rfl
    rw [e] at z
    refine ite2 (fun hc => ?_) (fun hc => ?_)
    · rw [hc, Bool.true_and] at z
      obtain ⟨xs, hq, hr2⟩ := hR
      have hlen : xs.length = rs.length := Paired.length hr2
      refine ⟨_, rfl, _, rfl, rfl, _, rfl, ?_⟩
      have e2 : decide (V.int o = V.int d) = decide (o = d) := by simp
      rw [e2]
      refine ite2 (fun hd => ?_) (fun hd => ?_)
      · rw [hd, Bool.true_and] at z
        refine ⟨_, rfl, _, rfl, _, _, rfl, _, rfl, ra, xs, rfl, .inl (g.wd.same.seq hq), _, _, rfl, rfl, ?_⟩
        rw [max_if, hlen]
        exact z
      · rw [Bool.eq_false_iff.mpr hd, Bool.false_and] at z
        exact z
    · rw [Bool.eq_false_iff.mpr hc, Bool.false_and] at z
      exact z
def spStay (K : PySem.W.Frag) (Ps : List Addr) : Sp := fun vs H Q _ => ∃ (G : Hp) (v : V) (h : Int) (ra : Addr) (ns : List Int) (rs : List (List Int)), vs = [v, .int h, .ref ra] ∧ Wd Ps G H ∧ Tabs Ps H ∧ RowT K G v ns ∧ ns.length = 5 ∧ Rows K G ra rs ∧ Wide 4 rs ∧
  ∀ H', Gr Ps G H G H' → Tabs Ps H' → Q (.bl (stayOk h rs ns)) H'
theorem num_all5 {r b e u n : Int} (h : ([r, b, e, u, n] : List Int).all numOk = true) : 0 ≤ r := by
  have := List.all_eq_true.mp h r (by simp)
  unfold numOk at this
  simp at this
  exact this.1
theorem c_stay (T : RawP K mg base ad) (hP : ad.tNum ∈ Ps) : C8.Cal P w K mg base 2 "_stay_can_be" (spStay K Ps) [] := by
  refine T.sc.cal sc_stay_can_be (fun vs H Q E h => ?_) (fun f cdv A outer s H vs Q E hr h => ?_)
  · obtain ⟨G, v, h, ra, ns, rs, rfl, _⟩ := h
    rfl
  · obtain ⟨G, v, h, ra, ns, rs, rfl, wd, tbs, ⟨t, rfl, ht⟩, hl, hR, hW, q⟩ := h
    obtain ⟨r, b, e, u, n, rfl⟩ := len5 hl
    have b_len := T.b_len
    have k__numbers_can_be : C8.Cal P w K mg base 1 "_numbers_can_be" (spNum K Ps) [] := c_num T hP
    refine ⟨_, (pss_cons (ps_asg (pv 0) (pg_tup rfl (pgs_cons (pg_name (i := 3) sc_stay_can_be.nd rfl (Or.inl rfl)) (pgs_cons (pg_name (i := 4) sc_stay_can_be.nd rfl (Or.inl rfl)) (pgs_cons (pg_name (i := 5) sc_stay_can_be.nd rfl (Or.inl rfl)) (pgs_cons (pg_name (i := 6) sc_stay_can_be.nd rfl (Or.inl rfl)) (pgs_cons (pg_name (i := 7) sc_stay_can_be.nd rfl (Or.inl rfl)) pgs_nil)))))))
      (pss_cons (ps_if (PW.pt (pw_or (pt_not (pt_val (C8.pe_c k__numbers_can_be hr (by decide) rfl (pa_cons (pv 0) pa_nil)))) (pw_or1 (pt_cmpR op_ge (pv 3) (pe_callB call_len_seq (by rfl) b_len (by decide +kernel) (pa_cons (pv 2) pa_nil)) (nomark _)))))
        (pss_one (ps_ret pe_bl))
        pss_nil)
      (pss_cons (ps_asg (pe_ix ix_seq (pv 2) (pv 3) (fun _ _ => rfl)) (pg_tup rfl (pgs_cons (pg_name (i := 6) sc_stay_can_be.nd rfl (Or.inl rfl)) (pgs_cons (pg_name (i := 8) sc_stay_can_be.nd rfl (Or.inl rfl)) (pgs_cons (pg_name (i := 6) sc_stay_can_be.nd rfl (Or.inl rfl)) (pgs_cons (pg_name (i := 6) sc_stay_can_be.nd rfl (Or.inl rfl)) pgs_nil))))))
      (pss_one (ps_ret (pe_and (pe_chain op_lt op_le (pv 4) (pv 5) (pv 1)) (pe_one (pe_cmpR op_le (pv 7) (pv 8) (nomark _))))))))), ?_⟩
    refine ⟨_, rfl, t, _, rfl, Same.tup wd.same ht, rfl, _, _, rfl, _, _, rfl, _, _, rfl, _, _, rfl, _, _, rfl, rfl, ?_⟩
    refine ⟨_, rfl, G, t, _, rfl, wd, tbs, ht, fun H' g tb' => ⟨_, rfl, ?_⟩⟩
    have z := q H' g tb'
    have ez : stayOk h rs [r, b, e, u, n] = (([r, b, e, u, n] : List Int).all numOk && (decide (r < (rs.length : Int)) && (decide (b < e) && decide (e ≤ h) && decide (n ≤ mostOf rs r)))) := rfl
    rw [ez] at z
    obtain ⟨xs, hq, hr2⟩ := hR
    have hlen : xs.length = rs.length := Paired.length hr2
    have hq' := g.wd.same.seq hq
    cases hc : ([r, b, e, u, n] : List Int).all numOk with
    | false =>
      rw [hc, Bool.false_and] at z
      refine iteT ?_
      refine iteT ?_
      exact z
    | true =>
      rw [hc, Bool.true_and] at z
      have hr0 := num_all5 hc
      refine iteF ?_
      refine ⟨_, rfl, _, rfl, ra, xs, rfl, .inl hq', _, _, rfl, rfl, _, rfl, ?_⟩
      rw [hlen]
      cases hd : decide ((rs.length : Int) ≤ r) with
      | true =>
        have hd' := of_decide_eq_true hd
        rw [decide_eq_false (show ¬ r < (rs.length : Int) by omega), Bool.false_and] at z
        refine iteT ?_
        exact z
      | false =>
        have hd' := of_decide_eq_false hd
        rw [decide_eq_true (show r < (rs.length : Int) by omega), Bool.true_and] at z
        refine iteF ?_
        have hi : r.toNat < rs.length := by omega
        have hg : rs[r.toNat]? = some rs[r.toNat] := List.getElem?_eq_getElem hi
        obtain ⟨y, hy, ty, rfl, hty⟩ := paired_get' hr2 hg
        have hw4 := hW _ (List.getElem_mem hi)
        obtain ⟨ra', m, rl, rp, em⟩ := len4 hw4
        have hr' : r = ((r.toNat : Nat) : Int) := by omega
        refine ⟨_, rfl, _, rfl, .inl ⟨ra, xs, r, .ref ty, rfl, rfl, hq', ?_, ty, _, rfl, Same.tup g.wd.same hty, ?_, ?_⟩⟩
        · rw [hr']
          exact atI_nat hy
        · rw [em]
          rfl
        · rw [em]
          have hm : mostOf rs r = m := by
            have e1 : rs.getD r.toNat [] = [ra', m, rl, rp] := by rw [List.getD_eq_getElem?_getD, hg, Option.getD_some, em]
            unfold mostOf
            rw [e1]
            rfl
          rw [hm] at z
          refine ⟨_, _, rfl, _, _, rfl, _, _, rfl, _, _, rfl, rfl, ?_⟩
          refine ⟨_, rfl, _, rfl, _, _, rfl, rfl, _, rfl, ?_⟩
          refine ite2 (fun h1 => ?_) (fun h1 => ?_)
          · refine ⟨_, rfl, _, _, rfl, rfl, _, rfl, ?_⟩
            have h1' : decide (b < e) = true := h1
            rw [h1', Bool.true_and] at z
            refine ite2 (fun h2 => ?_) (fun h2 => ?_)
            · rw [h2, Bool.true_and] at z
              exact ⟨_, rfl, _, rfl, _, _, rfl, rfl, z⟩
            · rw [Bool.eq_false_iff.mpr h2, Bool.false_and] at z
              exact z
          · have h1' : decide (b < e) = false := Bool.eq_false_iff.mpr h1
            rw [h1', Bool.false_and, Bool.false_and] at z
            exact ⟨_, rfl, iteF z⟩
end
end Cr
set_option Elab.async false
set_option linter.all false
set_option maxRecDepth 100000
set_option maxHeartbeats 4000000

namespace Cr
open PySem PySem.Spec PyProof.Rows L2
theorem for_enum {K : PySem.W.Frag} {a : Addr} {xs : List V} {g : TG} {tb : TS} {D : Ends} {σ : L2.St} {H : Hp} (Pv : Nat → L2.St → Hp → Prop) (h0 : Pv 0 σ H) (hl : ∀ i σ H, i ≤ xs.length → Pv i σ H → SqL K H a xs)
    (hs : ∀ i x σ H T, xs[i]? = some x → Pv i σ H → H T = none → g (.ref T) σ (upd H T (.tup [.int (i : Nat), x])) fun σ2 H2 => tb { D with nx := Pv (i + 1), ct := Pv (i + 1), bk := D.nx } σ2 H2) (hd : ∀ σ H, Pv xs.length σ H → D.nx σ H) :
    ∃ W : Nat → Nat → L2.St → Hp → Prop, (∃ m, W 0 m σ H) ∧ ∀ i m σ H, W i m σ H →
      ((Ite K a).stop i H ∧ D.nx σ H) ∨ ((Ite K a).go i H ∧ ∃ N : L2.St → Hp → Prop, (∀ σ' H', N σ' H' → ∃ m', m' < m ∧ W (i + 1) m' σ' H') ∧ ∀ x H', (Ite K a).yld i H x H' → g x σ H' fun σ2 H2 => tb { D with nx := N, ct := N, bk := D.nx } σ2 H2) := by
  refine ⟨fun i m σ H => i + m = xs.length ∧ Pv i σ H, ⟨xs.length, Nat.zero_add _, h0⟩, fun i m σ H ⟨left, p⟩ => ?_⟩
  have q := hl i σ H (by omega) p
  cases m with
  | zero =>
    cases left
    exact .inl ⟨⟨xs, q, Nat.le_refl _⟩, hd σ H p⟩
  | succ m =>
    refine .inr ⟨⟨xs, xs[i]'(by omega), q, List.getElem?_eq_getElem _⟩, Pv (i + 1), fun _ _ p' => ⟨m, Nat.lt_succ_self m, by omega, p'⟩, ?_⟩
    rintro _ _ ⟨T, z, rfl, hT, rfl, hz⟩
    exact hs i z σ H T (hz xs q) p hT
theorem firstNot_none {ok : List Int → Bool} {rs : List (List Int)} (h : ∀ (j : Nat) r, j < rs.length → rs[j]? = some r → ok r = true) : firstNot ok rs = none := by
  unfold firstNot
  rw [List.findIdx?_eq_none_iff]
  intro x hx
  obtain ⟨j, hj, e⟩ := List.getElem_of_mem hx
  rw [h j x hj (by rw [List.getElem?_eq_getElem hj, e])]
  rfl
theorem firstNot_some {ok : List Int → Bool} {rs : List (List Int)} {i : Nat} {r : List Int} (e : rs[i]? = some r) (hn : ok r = false) (h : ∀ (j : Nat) r, j < i → rs[j]? = some r → ok r = true) : firstNot ok rs = some i := by
  obtain ⟨hi, e1⟩ := List.getElem?_eq_some_iff.mp e
  unfold firstNot
  rw [List.findIdx?_eq_some_iff_getElem]
  refine ⟨hi, by rw [e1, hn]; rfl, fun j hj => ?_⟩
  have hj2 : j < rs.length := Nat.lt_trans hj hi
  rw [h j _ hj (List.getElem?_eq_getElem hj2)]
  simp
section
variable {P : Program} {w : World} {K : PySem.W.Frag} {mg : Str → Option Value} {base : Heap} {ad : Ad} {Ps : List Addr} {H : Hp}
/-- a BadHouse with this word and number -/
def Raised (ad : Ad) (z : Str × Int) (cls : Value) (d : Option Addr) (H : Hp) : Prop := cls = .ref ad.cBH ∧ ∃ dd, d = some dd ∧ H dd = some (.xd [("number", .int z.2), ("word", .str z.1)])
theorem raise_heap {a dx : Addr} {o1 o2 o3 o4 o5 : HO} (ha : H a = none) (hne : dx ≠ a) : upd (del (upd (upd (upd (upd H a o1) dx o2) a o3) dx o4) a) dx o5 = upd H dx o5 := by
  funext b
  by_cases h1 : b = dx
  · rw [h1, upd_same, upd_same]
  · rw [upd_ne h1, upd_ne h1]
    by_cases h2 : b = a
    · rw [h2, del_same, ha]
    · rw [del_ne h2, upd_ne h1, upd_ne h2, upd_ne h1, upd_ne h2]
theorem raise_bh {wd : Str} {k : Nat} {W : XK} (hw : wd.length ≤ 10) (hk : k < 32) (q : ∀ dx, H dx = none → W (.ref ad.cBH) (some dx) (upd H dx (.xd [("number", .int (k : Int)), ("word", .str wd)]))) :
    [V.str wd, V.int (k : Int)].length ≤ 1000 ∧ ∀ a, H a = none → spBHi ad (.ref a :: ([V.str wd, V.int (k : Int)] ++ [])) (upd H a (exo a ad.cBH none))
      (fun v H2 => v = .non ∧ ∃ (d : Addr) (fs : List (Str × V)), H2 a = some (exo a ad.cBH (some d)) ∧ H2 d = some (exd d fs) ∧ H d = none ∧ W (.ref ad.cBH) (some d) (upd (del H2 a) d (.xd fs))) (fun _ _ _ => False) := by
  refine ⟨by show 2 ≤ 1000; decide, fun a ha => ⟨a, wd, k, rfl, hw, hk, upd_same, fun dx hdx hne => ⟨rfl, dx, _, ?_, upd_same, ?_, ?_⟩⟩⟩
  · rw [upd_ne (Ne.symm hne), upd_same]
  · rw [upd_ne hne] at hdx
    exact hdx
  · rw [raise_heap ha hne]
    rw [upd_ne hne] at hdx
    exact q dx hdx
/-- a def that looks at the parts of a house: nothing, or a BadHouse -/
def spChk (ad : Ad) (K : PySem.W.Frag) (Ps : List Addr) (C : Int → List (List Int) → List (List Int) → List (List Int) → Prop) (bad : Int → List (List Int) → List (List Int) → List (List Int) → Option (Str × Int)) : Sp := fun vs H Q E =>
  ∃ (G : Hp) (h : Int) (ra da sa : Addr) (rs ds ss : List (List Int)), vs = [.int h, .ref ra, .ref da, .ref sa] ∧ Wd Ps G H ∧ Tabs Ps H ∧ Rows K G ra rs ∧ Rows K G da ds ∧ Rows K G sa ss ∧ C h rs ds ss ∧
    (bad h rs ds ss = none → ∀ H', Gr Ps G H G H' → Tabs Ps H' → Q .non H') ∧
    (∀ z, bad h rs ds ss = some z → ∀ cls d H', Raised ad z cls d H' → Gr Ps G H G H' → Tabs Ps H' → E cls d H')
theorem c_counts (T : RawP K mg base ad) : CalX P w K mg base 3 "_check_counts" (spChk ad K Ps (fun _ _ _ _ => True) countBad) := by
  refine T.cc.calX sc_check_counts (fun vs H Q E h => ?_) (fun f cdv A outer s H vs Q E hr h => ?_)
  · obtain ⟨G, h, ra, da, sa, rs, ds, ss, rfl, _⟩ := h
    rfl
  · obtain ⟨G, h, ra, da, sa, rs, ds, ss, rfl, wd, tbs, ⟨xr, qr, rr⟩, ⟨xd, qd, rd⟩, ⟨xs, qs, rS⟩, _, q0, qx⟩ := h
    have b_len := T.b_len
    obtain ⟨_, g_MOST_HOURS⟩ := T.gH
    obtain ⟨_, g_MOST_ROOMS⟩ := T.gR
    obtain ⟨_, g_MOST_DOORS⟩ := T.gD
    obtain ⟨_, g_MOST_STAYS⟩ := T.gS
    have k_BadHouse : MakE P w K mg base 1 "BadHouse" ad.cBH (spBHi ad) := mk_bh T
    have lr : xr.length = rs.length := Paired.length rr
    have ld : xd.length = ds.length := Paired.length rd
    have ls : xs.length = ss.length := Paired.length rS
    have out : ∀ (wd' : Str), wd'.length ≤ 10 → countBad h rs ds ss = some (wd', 0) → ∀ dx, H dx = none → E (.ref ad.cBH) (some dx) (upd H dx (.xd [("number", .int ((0 : Nat) : Int)), ("word", .str wd')])) := fun wd' _ e dx hdx =>
      qx _ e _ _ _ ⟨rfl, dx, rfl, upd_same⟩ (Gr.new wd hdx) (tbs.same (same_new hdx))
    refine ⟨_, (pss_cons (ps_if (pt_not (pt_chain op_le op_le pe_int (pv 0) (pe_glob (v := .int _) rfl g_MOST_HOURS ⟨_, rfl⟩)))
        (pss_one (ps_raise rfl (takes_of rfl rfl rfl rfl) (pmk_c k_BadHouse hr (by decide) rfl (pa_cons pe_str (pa_cons pe_int pa_nil)))))
        pss_nil)
      (pss_cons (ps_if (pt_not (pt_chain op_le op_le pe_int (pe_callB call_len_seq (by rfl) b_len (by decide +kernel) (pa_cons (pv 1) pa_nil)) (pe_glob (v := .int _) rfl g_MOST_ROOMS ⟨_, rfl⟩)))
        (pss_one (ps_raise rfl (takes_of rfl rfl rfl rfl) (pmk_c k_BadHouse hr (by decide) rfl (pa_cons pe_str (pa_cons pe_int pa_nil)))))
        pss_nil)
      (pss_cons (ps_if (pt_cmpR op_gt (pe_callB call_len_seq (by rfl) b_len (by decide +kernel) (pa_cons (pv 2) pa_nil)) (pe_glob (v := .int _) rfl g_MOST_DOORS ⟨_, rfl⟩) (nomark _))
        (pss_one (ps_raise rfl (takes_of rfl rfl rfl rfl) (pmk_c k_BadHouse hr (by decide) rfl (pa_cons pe_str (pa_cons pe_int pa_nil)))))
        pss_nil)
      (pss_one (ps_if (pt_cmpR op_gt (pe_callB call_len_seq (by rfl) b_len (by decide +kernel) (pa_cons (pv 3) pa_nil)) (pe_glob (v := .int _) rfl g_MOST_STAYS ⟨_, rfl⟩) (nomark _))
        (pss_one (ps_raise rfl (takes_of rfl rfl rfl rfl) (pmk_c k_BadHouse hr (by decide) rfl (pa_cons pe_str (pa_cons pe_int pa_nil)))))
        pss_nil))))), ?_⟩
    refine ⟨_, rfl, _, _, rfl, rfl, _, rfl, ?_⟩
    unfold countBad at q0 out
    by_cases h1 : ¬ (1 ≤ h ∧ h ≤ 12)
    · rw [if_pos h1] at out
      by_cases h2 : 1 ≤ h
      · rw [decide_eq_true h2]
        refine iteT ⟨_, _, rfl, rfl, _, rfl, ?_⟩
        rw [decide_eq_false (show ¬ h ≤ 12 from fun z => h1 ⟨h2, z⟩)]
        exact iteT (raise_bh (by decide +kernel) (by decide) (out _ (by decide +kernel) rfl))
      · rw [decide_eq_false h2]
        refine iteF ⟨_, rfl, ?_⟩
        exact iteT (raise_bh (by decide +kernel) (by decide) (out _ (by decide +kernel) rfl))
    rw [if_neg h1] at out q0
    replace h1 := Decidable.not_not.mp h1
    rw [decide_eq_true h1.1]
    refine iteT ⟨_, _, rfl, rfl, _, rfl, ?_⟩
    rw [decide_eq_true h1.2]
    refine iteF ?_
    refine ⟨_, rfl, ra, xr, rfl, .inl (wd.same.seq qr), _, _, rfl, rfl, _, rfl, ?_⟩
    rw [lr]
    by_cases h2 : ¬ (1 ≤ rs.length ∧ rs.length ≤ 6)
    · rw [if_pos h2] at out
      by_cases h3 : (1 : Int) ≤ (rs.length : Int)
      · rw [decide_eq_true h3]
        refine iteT ⟨_, _, rfl, rfl, _, rfl, ?_⟩
        rw [decide_eq_false (show ¬ ((rs.length : Int) ≤ 6) by omega)]
        exact iteT (raise_bh (by decide +kernel) (by decide) (out _ (by decide +kernel) rfl))
      · rw [decide_eq_false h3]
        refine iteF ⟨_, rfl, ?_⟩
        exact iteT (raise_bh (by decide +kernel) (by decide) (out _ (by decide +kernel) rfl))
    rw [if_neg h2] at out q0
    replace h2 := Decidable.not_not.mp h2
    rw [decide_eq_true (show (1 : Int) ≤ (rs.length : Int) by omega)]
    refine iteT ⟨_, _, rfl, rfl, _, rfl, ?_⟩
    rw [decide_eq_true (show (rs.length : Int) ≤ 6 by omega)]
    refine iteF ?_
    refine ⟨_, rfl, da, xd, rfl, .inl (wd.same.seq qd), _, _, rfl, rfl, _, rfl, ?_⟩
    rw [ld]
    by_cases h3 : ds.length > 8
    · rw [if_pos h3] at out
      rw [decide_eq_true (show (8 : Int) < (ds.length : Int) by omega)]
      exact iteT (raise_bh (by decide +kernel) (by decide) (out _ (by decide +kernel) rfl))
    rw [if_neg h3] at out q0
    rw [decide_eq_false (show ¬ ((8 : Int) < (ds.length : Int)) by omega)]
    refine iteF ?_
    refine ⟨_, rfl, sa, xs, rfl, .inl (wd.same.seq qs), _, _, rfl, rfl, _, rfl, ?_⟩
    rw [ls]
    by_cases h4 : ss.length > 20
    · rw [if_pos h4] at out
      rw [decide_eq_true (show (20 : Int) < (ss.length : Int) by omega)]
      exact iteT (raise_bh (by decide +kernel) (by decide) (out _ (by decide +kernel) rfl))
    rw [if_neg h4] at out q0
    rw [decide_eq_false (show ¬ ((20 : Int) < (ss.length : Int)) by omega)]
    exact iteF (q0 rfl H (Gr.refl wd) tbs)
end
end Cr
set_option Elab.async false
set_option linter.all false
set_option maxRecDepth 100000
set_option maxHeartbeats 4000000

namespace Cr
open PySem PySem.Spec PyProof.Rows L2
section
variable {P : Program} {w : World} {K : PySem.W.Frag} {mg : Str → Option Value} {base : Heap} {ad : Ad} {Ps : List Addr} {H : Hp}
/-- what is asked of the rows' widths and counts ahead -/
def WideH (h : Int) (rs ds ss : List (List Int)) : Prop := Wide 4 rs ∧ Wide 3 ds ∧ Wide 5 ss ∧ rs.length < 32 ∧ ds.length < 32 ∧ ss.length < 32
theorem c_parts (T : RawP K mg base ad) (hP : ad.tNum ∈ Ps) : CalX P w K mg base 3 "_check_parts" (spChk ad K Ps WideH partBad) := by
  refine T.cp.calX sc_check_parts (fun vs H Q E h => ?_) (fun f cdv A outer s H vs Q E hr h => ?_)
  · obtain ⟨G, h, ra, da, sa, rs, ds, ss, rfl, _⟩ := h
    rfl
  · obtain ⟨G, h, ra, da, sa, rs, ds, ss, rfl, wd, tbs, hR, hD, hS, ⟨w4, w3, w5, lr, ld, ls⟩, q0, qx⟩ := h
    obtain ⟨xr, qr, rr⟩ := id hR
    obtain ⟨xd, qd, rd⟩ := id hD
    obtain ⟨xs, qs, rS⟩ := id hS
    have b_enumerate := T.b_enumerate
    have k_BadHouse : MakE P w K mg base 1 "BadHouse" ad.cBH (spBHi ad) := mk_bh T
    have k__room_can_be : C8.Cal P w K mg base 2 "_room_can_be" (spRow K Ps 4 roomOk) [] := c_room T hP
    have k__door_can_be : C8.Cal P w K mg base 2 "_door_can_be" (spDoor K Ps) [] := c_door T hP
    have k__stay_can_be : C8.Cal P w K mg base 2 "_stay_can_be" (spStay K Ps) [] := c_stay T hP
    have out : ∀ (wd' : Str) (i : Nat) H', partBad h rs ds ss = some (wd', (i : Int)) → Gr Ps G H G H' → Tabs Ps H' → ∀ dx, H' dx = none → E (.ref ad.cBH) (some dx) (upd H' dx (.xd [("number", .int (i : Int)), ("word", .str wd')])) := fun wd' i H' e g t dx hdx =>
      qx _ e _ _ _ ⟨rfl, dx, rfl, upd_same⟩ (g.trans (Gr.new g.wd hdx)) (t.same (same_new hdx))
    refine ⟨_, (pss_cons (ps_for (passes_of rfl) rfl (pi_enum (by rfl) b_enumerate (pa_cons (pv 1) pa_nil)) (pg_tup rfl (pgs_cons (pg_name (i := 4) sc_check_parts.nd rfl (Or.inl rfl)) (pgs_cons (pg_name (i := 5) sc_check_parts.nd rfl (Or.inl rfl)) pgs_nil)))
        (pss_one (ps_if (pt_not (pt_val (C8.pe_c k__room_can_be hr (by decide) rfl (pa_cons (pv 5) pa_nil))))
        (pss_one (ps_raise rfl (takes_of rfl rfl rfl rfl) (pmk_c k_BadHouse hr (by decide) rfl (pa_cons pe_str (pa_cons (pv 4) pa_nil)))))
        pss_nil)))
      (pss_cons (ps_for (passes_of rfl) rfl (pi_enum (by rfl) b_enumerate (pa_cons (pv 2) pa_nil)) (pg_tup rfl (pgs_cons (pg_name (i := 4) sc_check_parts.nd rfl (Or.inl rfl)) (pgs_cons (pg_name (i := 6) sc_check_parts.nd rfl (Or.inl rfl)) pgs_nil)))
        (pss_one (ps_if (pt_not (pt_val (C8.pe_c k__door_can_be hr (by decide) rfl (pa_cons (pv 6) (pa_cons (pv 1) pa_nil)))))
        (pss_one (ps_raise rfl (takes_of rfl rfl rfl rfl) (pmk_c k_BadHouse hr (by decide) rfl (pa_cons pe_str (pa_cons (pv 4) pa_nil)))))
        pss_nil)))
      (pss_one (ps_for (passes_of rfl) rfl (pi_enum (by rfl) b_enumerate (pa_cons (pv 3) pa_nil)) (pg_tup rfl (pgs_cons (pg_name (i := 4) sc_check_parts.nd rfl (Or.inl rfl)) (pgs_cons (pg_name (i := 7) sc_check_parts.nd rfl (Or.inl rfl)) pgs_nil)))
        (pss_one (ps_if (pt_not (pt_val (C8.pe_c k__stay_can_be hr (by decide) rfl (pa_cons (pv 7) (pa_cons (pv 0) (pa_cons (pv 1) pa_nil))))))
        (pss_one (ps_raise rfl (takes_of rfl rfl rfl rfl) (pmk_c k_BadHouse hr (by decide) rfl (pa_cons pe_str (pa_cons (pv 4) pa_nil)))))
        pss_nil)))))), ?_⟩
    refine ⟨_, rfl, ra, xr, rfl, wd.same.seq qr, for_enum (K := K) (a := ra) (xs := xr) (fun i σ H' => ∃ v4 v5, σ = [some (.int h), some (.ref ra), some (.ref da), some (.ref sa), v4, v5, none, none] ∧ Gr Ps G H G H' ∧ Tabs Ps H' ∧ ∀ (j : Nat) r, j < i → rs[j]? = some r → roomOk r = true)
      ⟨none, none, rfl, Gr.refl wd, tbs, fun j r hj => absurd hj (Nat.not_lt_zero _)⟩ (fun i σ H' _ ⟨_, _, _, g, _⟩ => g.wd.same.seq qr) ?_ ?_⟩
    · rintro i x σ H' U hx ⟨v4, v5, rfl, g, tb', hj⟩ hU
      obtain ⟨r, er, hrow⟩ := paired_get rr hx
      have hi : i < rs.length := (List.getElem?_eq_some_iff.mp er).1
      have g2 := g.trans (Gr.new (o := .tup [.int (i : Nat), x]) g.wd hU)
      refine ⟨U, _, rfl, SqT.of upd_same, rfl, _, _, rfl, _, _, rfl, rfl, ?_⟩
      refine ⟨_, rfl, G, x, r, rfl, g2.wd, tb'.same (same_new hU), hrow, w4 r (List.mem_of_getElem? er), fun H3 g3 tb3 => ⟨_, rfl, ?_⟩⟩
      cases hok : roomOk r with
      | false =>
        refine iteT ⟨_, rfl, ?_⟩
        refine raise_bh (by decide +kernel) (by omega) (out _ i H3 ?_ (g2.trans g3) tb3)
        unfold partBad
        rw [firstNot_some er hok hj]
      | true =>
        refine iteF ⟨_, _, rfl, g2.trans g3, tb3, fun j r' h1 h2 => ?_⟩
        by_cases e : j = i
        · subst e
          rw [er] at h2
          cases h2
          exact hok
        · exact hj j r' (by omega) h2
    rintro σ H1 ⟨v4, v5, rfl, g1, tb1, hj1⟩
    have f1 : firstNot roomOk rs = none := firstNot_none fun j r a b => hj1 j r (by rw [Paired.length rr]; exact a) b
    refine ⟨_, rfl, da, xd, rfl, g1.wd.same.seq qd, for_enum (K := K) (a := da) (xs := xd) (fun i σ H' => ∃ v4 v6, σ = [some (.int h), some (.ref ra), some (.ref da), some (.ref sa), v4, v5, v6, none] ∧ Gr Ps G H G H' ∧ Tabs Ps H' ∧ ∀ (j : Nat) r, j < i → ds[j]? = some r → doorOk rs.length r = true)
      ⟨_, none, rfl, g1, tb1, fun j r hj => absurd hj (Nat.not_lt_zero _)⟩ (fun i σ H' _ ⟨_, _, _, g, _⟩ => g.wd.same.seq qd) ?_ ?_⟩
    · rintro i x σ H' U hx ⟨v4, v6, rfl, g, tb', hj⟩ hU
      obtain ⟨r, er, hrow⟩ := paired_get rd hx
      have hi : i < ds.length := (List.getElem?_eq_some_iff.mp er).1
      have g2 := g.trans (Gr.new (o := .tup [.int (i : Nat), x]) g.wd hU)
      refine ⟨U, _, rfl, SqT.of upd_same, rfl, _, _, rfl, _, _, rfl, rfl, ?_⟩
      refine ⟨_, rfl, _, rfl, G, x, ra, r, rs, rfl, g2.wd, tb'.same (same_new hU), hrow, w3 r (List.mem_of_getElem? er), hR, fun H3 g3 tb3 => ⟨_, rfl, ?_⟩⟩
      cases hok : doorOk rs.length r with
      | false =>
        refine iteT ⟨_, rfl, ?_⟩
        refine raise_bh (by decide +kernel) (by omega) (out _ i H3 ?_ (g2.trans g3) tb3)
        unfold partBad
        rw [f1]
        show (match firstNot (doorOk rs.length) ds with | some i => some (("door" : Str), (i : Int)) | none => _) = _
        rw [firstNot_some er hok hj]
      | true =>
        refine iteF ⟨_, _, rfl, g2.trans g3, tb3, fun j r' h1 h2 => ?_⟩
        by_cases e : j = i
        · subst e
          rw [er] at h2
          cases h2
          exact hok
        · exact hj j r' (by omega) h2
    rintro σ H2 ⟨v4', v6, rfl, g2, tb2, hj2⟩
    have f2 : firstNot (doorOk rs.length) ds = none := firstNot_none fun j r a b => hj2 j r (by rw [Paired.length rd]; exact a) b
    refine ⟨_, rfl, sa, xs, rfl, g2.wd.same.seq qs, for_enum (K := K) (a := sa) (xs := xs) (fun i σ H' => ∃ v4 v7, σ = [some (.int h), some (.ref ra), some (.ref da), some (.ref sa), v4, v5, v6, v7] ∧ Gr Ps G H G H' ∧ Tabs Ps H' ∧ ∀ (j : Nat) r, j < i → ss[j]? = some r → stayOk h rs r = true)
      ⟨_, none, rfl, g2, tb2, fun j r hj => absurd hj (Nat.not_lt_zero _)⟩ (fun i σ H' _ ⟨_, _, _, g, _⟩ => g.wd.same.seq qs) ?_ ?_⟩
    · rintro i x σ H' U hx ⟨v4, v7, rfl, g, tb', hj⟩ hU
      obtain ⟨r, er, hrow⟩ := paired_get rS hx
      have hi : i < ss.length := (List.getElem?_eq_some_iff.mp er).1
      have g2 := g.trans (Gr.new (o := .tup [.int (i : Nat), x]) g.wd hU)
      refine ⟨U, _, rfl, SqT.of upd_same, rfl, _, _, rfl, _, _, rfl, rfl, ?_⟩
      refine ⟨_, rfl, _, rfl, _, rfl, G, x, h, ra, r, rs, rfl, g2.wd, tb'.same (same_new hU), hrow, w5 r (List.mem_of_getElem? er), hR, w4, fun H3 g3 tb3 => ⟨_, rfl, ?_⟩⟩
      cases hok : stayOk h rs r with
      | false =>
        refine iteT ⟨_, rfl, ?_⟩
        refine raise_bh (by decide +kernel) (by omega) (out _ i H3 ?_ (g2.trans g3) tb3)
        unfold partBad
        rw [f1]
        show (match firstNot (doorOk rs.length) ds with | some i => some (("door" : Str), (i : Int)) | none => _) = _
        rw [f2]
        show (match firstNot (stayOk h rs) ss with | some i => some (("stay" : Str), (i : Int)) | none => _) = _
        rw [firstNot_some er hok hj]
      | true =>
        refine iteF ⟨_, _, rfl, g2.trans g3, tb3, fun j r' h1 h2 => ?_⟩
        by_cases e : j = i
        · subst e
          rw [er] at h2
          cases h2
          exact hok
        · exact hj j r' (by omega) h2
    rintro σ H3 ⟨_, _, rfl, g3, tb3, hj3⟩
    have f3 : firstNot (stayOk h rs) ss = none := firstNot_none fun j r a b => hj3 j r (by rw [Paired.length rS]; exact a) b
    refine q0 ?_ H3 g3 tb3
    unfold partBad
    rw [f1]
    show (match firstNot (doorOk rs.length) ds with | some i => some (("door" : Str), (i : Int)) | none => _) = _
    rw [f2]
    show (match firstNot (stayOk h rs) ss with | some i => some (("stay" : Str), (i : Int)) | none => _) = _
    rw [f3]
end
end Cr
set_option Elab.async false
set_option linter.all false
set_option maxRecDepth 100000
set_option maxHeartbeats 4000000

namespace Cr
open PySem PySem.Spec PyProof.Rows L2
/-! ### more of the heaps -/
section
variable {Fs Fs' : List Addr} {G H G1 H1 : Hp} {p : Addr} {o : HO}
theorem Gr.pokeF (g : Gr Fs G H G1 H1) (hp : p ∈ Fs) : Gr Fs G H G1 (upd H1 p o) := by
  have ne : ∀ {b u}, G1 b = some u → b ≠ p := fun {b u} e z => by
    rw [z, g.wd.off p hp] at e; cases e
  refine ⟨g.up, ⟨fun b u e => ?_, g.wd.off, fun c hc z => ?_⟩, fun c u n e => ?_, g.fresh⟩
  · rw [upd_ne (ne e)]; exact g.wd.same _ _ e
  · by_cases hcp : c = p
    · rw [hcp, upd_same] at z; cases z
    · rw [upd_ne hcp] at z; exact g.wd.on c hc z
  · rw [upd_ne (fun z => n (by rw [z]; exact hp))]; exact g.keep c u n e
theorem Gr.free' (g : Gr Fs G H G1 H1) (h : H1 p = none) : H p = none := by
  cases q : H p with
  | none => rfl
  | some o => rw [g.keep p o (g.wd.nin h) q] at h; cases h
theorem Tabs.upd {Ps : List Addr} (t : Tabs Ps H) (n : p ∉ Ps) : Tabs Ps (upd H p o) := fun P hP => by
  obtain ⟨ps, q, r⟩ := t P hP
  exact ⟨ps, by rw [upd_ne (fun z => n (by rw [← z]; exact hP))]; exact q, r⟩
theorem Tabs.nin {Ps : List Addr} (t : Tabs Ps H) (h : H p = none) : p ∉ Ps := fun hP => by
  obtain ⟨ps, q, r⟩ := t p hP
  rw [h] at q; cases q
/-- an instance made and filled stands known in the end -/
theorem Gr.made {H2 : Hp} (w : Wd Fs G H) (hx : H p = none) (s : Same H H2) (g : Gr (p :: Fs) G H2 G1 H1) (e : H1 p = some o) : Gr Fs G H (L2.upd G1 p o) H1 := by
  have hn := w.nin hx
  have gp : G1 p = none := g.wd.off p List.mem_cons_self
  refine ⟨fun b u q => ?_, ⟨fun b u q => ?_, fun c hc => ?_, fun c hc => g.wd.on c (List.mem_cons_of_mem _ hc)⟩, fun c u n q => ?_, fun c q n => ?_⟩
  · have q1 := g.up _ _ q
    rw [upd_ne (fun z => by rw [z, gp] at q1; cases q1)]; exact q1
  · by_cases hb : b = p
    · subst hb; rw [upd_same] at q; rw [e]; exact q
    · rw [upd_ne hb] at q; exact g.wd.same _ _ q
  · rw [upd_ne (fun z => hn (by rw [← z]; exact hc))]; exact g.wd.off c (List.mem_cons_of_mem _ hc)
  · have hcp : c ≠ p := fun z => by rw [z, hx] at q; cases q
    exact g.keep c u (fun hc => by
      rcases List.mem_cons.mp hc with z | z
      · exact hcp z
      · exact n z) (s _ _ q)
  · have hcp : c ≠ p := fun z => n (by rw [z]; exact hx)
    rw [upd_ne hcp]
    refine g.fresh c q fun z => n ?_
    cases h : H c with
    | none => rfl
    | some u => rw [s _ _ h] at z; cases z
end
/-! ### a house: what is used, what must be left -/
def inHere (r t : Int) (s : List Int) : Bool := decide (s.getD 0 0 = r) && (decide (s.getD 1 0 ≤ t) && decide (t < s.getD 2 0))
def wantsOf (ss : List (List Int)) (r t : Int) : List (List Int) := (ss.filter (inHere r t)).map fun s => [s.getD 3 0, s.getD 4 0]
def useOf (ss : List (List Int)) (r t : Int) : Int := ((wantsOf ss r t).map fun s => s.getD 0 0).sum
def leastOf (ss : List (List Int)) (r t : Int) : Int := ((wantsOf ss r t).map fun s => s.getD 1 0).foldl max 0
theorem wantsOf_take {ss : List (List Int)} {i : Nat} {s : List Int} (r t : Int) (e : ss[i]? = some s) : wantsOf (ss.take (i + 1)) r t = wantsOf (ss.take i) r t ++ (if inHere r t s = true then [[s.getD 3 0, s.getD 4 0]] else []) := by
  unfold wantsOf
  rw [List.take_add_one, e]
  rw [List.filter_append, List.map_append]
  congr 1
  by_cases h : inHere r t s = true
  · rw [if_pos h]; simp [h]
  · rw [if_neg h]; simp [h]
/-- the fields of a House, as __init__ stores them -/
def hf (h : Int) (a b c : Addr) : List (Str × V) := putF "_stays" (.ref c) (putF "_doors" (.ref b) (putF "_rooms" (.ref a) (putF "hours" (.int h) [])))
theorem n1 : ¬ (("hours" : Str) = "_rooms") := by decide +kernel
theorem n2 : ¬ (("hours" : Str) = "_doors") := by decide +kernel
theorem n3 : ¬ (("hours" : Str) = "_stays") := by decide +kernel
theorem n4 : ¬ (("_rooms" : Str) = "_doors") := by decide +kernel
theorem n5 : ¬ (("_rooms" : Str) = "_stays") := by decide +kernel
theorem n6 : ¬ (("_doors" : Str) = "_stays") := by decide +kernel
theorem hf_h (h : Int) (a b c : Addr) : (hf h a b c).lookup ("hours" : Str) = some (.int h) := by
  unfold hf
  rw [lookup_putF, if_neg n3, lookup_putF, if_neg n2, lookup_putF, if_neg n1, lookup_putF, if_pos rfl]
theorem hf_r (h : Int) (a b c : Addr) : (hf h a b c).lookup ("_rooms" : Str) = some (.ref a) := by
  unfold hf
  rw [lookup_putF, if_neg n5, lookup_putF, if_neg n4, lookup_putF, if_pos rfl]
theorem hf_d (h : Int) (a b c : Addr) : (hf h a b c).lookup ("_doors" : Str) = some (.ref b) := by
  unfold hf
  rw [lookup_putF, if_neg n6, lookup_putF, if_pos rfl]
theorem hf_s (h : Int) (a b c : Addr) : (hf h a b c).lookup ("_stays" : Str) = some (.ref c) := by
  unfold hf
  rw [lookup_putF, if_pos rfl]
theorem hf_no (h : Int) (a b c : Addr) {m : Str} (h1 : ¬ m = "_stays") (h2 : ¬ m = "_doors") (h3 : ¬ m = "_rooms") (h4 : ¬ m = "hours") : (hf h a b c).lookup m = none := by
  unfold hf
  rw [lookup_putF, if_neg h1, lookup_putF, if_neg h2, lookup_putF, if_neg h3, lookup_putF, if_neg h4]
  all_goals rfl
structure HouseAt (ad : Ad) (K : PySem.W.Frag) (G : Hp) (x : Addr) (h : Int) (rs ds ss : List (List Int)) : Prop where
  ob : ∃ dx a b c, G x = some (.ins ad.cH dx (hf h a b c)) ∧ Rows K G a rs ∧ Rows K G b ds ∧ Rows K G c ss
  ok : houseBad h rs ds ss = none
  w4 : Wide 4 rs
  w3 : Wide 3 ds
  w5 : Wide 5 ss
theorem HouseAt.same {ad : Ad} {K : PySem.W.Frag} {G G' : Hp} {x : Addr} {h : Int} {rs ds ss : List (List Int)} (e : Same G G') (a : HouseAt ad K G x h rs ds ss) : HouseAt ad K G' x h rs ds ss := by
  obtain ⟨⟨dx, a, b, c, q, r1, r2, r3⟩, h1, h2, h3, h4⟩ := a
  exact ⟨⟨dx, a, b, c, e _ _ q, r1.same e, r2.same e, r3.same e⟩, h1, h2, h3, h4⟩
section
variable {P : Program} {w : World} {K : PySem.W.Frag} {mg : Str → Option Value} {base : Heap} {ad : Ad} {Ps : List Addr} {H : Hp}
def spHi (ad : Ad) (K : PySem.W.Frag) (Ps : List Addr) : Sp := fun vs H Q E =>
  ∃ (G : Hp) (x dx : Addr) (h : Int) (ra da sa : Addr) (rs ds ss : List (List Int)), vs = [.ref x, .int h, .ref ra, .ref da, .ref sa] ∧ Wd (x :: Ps) G H ∧ Tabs Ps H ∧ x ∉ Ps ∧ H x = some (.ins ad.cH dx []) ∧ Rows K G ra rs ∧ Rows K G da ds ∧ Rows K G sa ss ∧ Wide 4 rs ∧ Wide 3 ds ∧ Wide 5 ss ∧
    (houseBad h rs ds ss = none → ∀ G' H' a b c, H a = none → H b = none → H c = none → Gr (x :: Ps) G H G' H' → Tabs Ps H' → H' x = some (.ins ad.cH dx (hf h a b c)) → Rows K G' a rs → Rows K G' b ds → Rows K G' c ss → Q .non H') ∧
    (∀ z, houseBad h rs ds ss = some z → ∀ cls d H', Raised ad z cls d H' → Gr (x :: Ps) G H G H' → Tabs Ps H' → E cls d H')
theorem count_lens {h : Int} {rs ds ss : List (List Int)} (e : countBad h rs ds ss = none) : rs.length < 32 ∧ ds.length < 32 ∧ ss.length < 32 := by
  unfold countBad at e
  split at e
  · cases e
  split at e
  · cases e
  rename_i h1 h2
  split at e
  · cases e
  split at e
  · cases e
  omega
theorem putF_len (f : Str) (v : V) {fs : List (Str × V)} {n : Nat} (h : fs.length ≤ n) : (putF f v fs).length ≤ n + 1 := Nat.le_trans (length_putF f v fs) (Nat.succ_le_succ h)
theorem mk_house (T : RawP K mg base ad) (hP : ad.tNum ∈ Ps) : MakX P w K mg base 4 "House" ad.cH (spHi ad K Ps) := by
  refine T.hi.makX scHouse_init (fun vs H Q E h => ?_) (fun f cdv A outer s H vs Q E hr h => ?_)
  · obtain ⟨G, x, dx, h, ra, da, sa, rs, ds, ss, rfl, _⟩ := h
    rfl
  · obtain ⟨G, x, dx, h, ra, da, sa, rs, ds, ss, rfl, wd, tbs, hxP, hx, hR, hD, hS, w4, w3, w5, q0, qx⟩ := h
    have b_list := T.b_list
    have k__check_counts : CalX P w K mg base 3 "_check_counts" (spChk ad K Ps (fun _ _ _ _ => True) countBad) := c_counts T
    have k__check_parts : CalX P w K mg base 3 "_check_parts" (spChk ad K Ps WideH partBad) := c_parts T hP
    have sub : ∀ c ∈ Ps, c ∈ x :: Ps := fun c hc => List.mem_cons_of_mem _ hc
    have wdP : Wd Ps G H := wd.sub sub
    refine ⟨_, (pss_cons (ps_expr (pe_cx k__check_counts hr (by decide) (takes_of rfl rfl rfl rfl) rfl (pa_cons (pv 1) (pa_cons (pv 2) (pa_cons (pv 3) (pa_cons (pv 4) pa_nil))))))
      (pss_cons (ps_expr (pe_cx k__check_parts hr (by decide) (takes_of rfl rfl rfl rfl) rfl (pa_cons (pv 1) (pa_cons (pv 2) (pa_cons (pv 3) (pa_cons (pv 4) pa_nil))))))
      (pss_cons (ps_fld (pv 0) (pv 1) rfl)
      (pss_cons (ps_fld (pv 0) (pe_callTy call_list_of (by rfl) b_list (by decide +kernel) (pa_cons (pv 2) pa_nil)) rfl)
      (pss_cons (ps_fld (pv 0) (pe_callTy call_list_of (by rfl) b_list (by decide +kernel) (pa_cons (pv 3) pa_nil)) rfl)
      (pss_one (ps_fld (pv 0) (pe_callTy call_list_of (by rfl) b_list (by decide +kernel) (pa_cons (pv 4) pa_nil)) rfl))))))), ?_⟩
    refine ⟨_, rfl, _, rfl, _, rfl, _, rfl, G, h, ra, da, sa, rs, ds, ss, rfl, wdP, tbs, hR, hD, hS, True.intro, fun e1 H1 g1 t1 => ?_, fun z e1 cls d H1 rz g1 t1 => ?_⟩
    rotate_left
    · refine qx z ?_ cls d H1 rz (g1.widen wd sub) t1
      unfold houseBad
      rw [e1]
    obtain ⟨lr, ld, ls⟩ := count_lens e1
    refine ⟨_, rfl, _, rfl, _, rfl, _, rfl, G, h, ra, da, sa, rs, ds, ss, rfl, g1.wd, t1, hR, hD, hS, ⟨w4, w3, w5, lr, ld, ls⟩, fun e2 H2 g2 t2 => ?_, fun z e2 cls d H2 rz g2 t2 => ?_⟩
    rotate_left
    · refine qx z ?_ cls d H2 rz ((g1.trans g2).widen wd sub) t2
      unfold houseBad
      rw [e1]
      exact e2
    have ok : houseBad h rs ds ss = none := by
      unfold houseBad
      rw [e1]
      exact e2
    have gx := (g1.trans g2).widen wd sub
    have hx2 : H2 x = some (.ins ad.cH dx []) := (g1.trans g2).keep x _ hxP hx
    have hxF : x ∈ x :: Ps := List.mem_cons_self
    obtain ⟨xr, qr, rr⟩ := id hR
    obtain ⟨xd, qd, rd⟩ := id hD
    obtain ⟨xs, qs, rS⟩ := id hS
    -- self.hours = hours
    refine ⟨_, rfl, _, rfl, x, ad.cH, dx, _, rfl, hx2, T.hcl, T.hnh, by show 0 < 1000; decide, ?_⟩
    have g3 : Gr (x :: Ps) G H G (upd H2 x (.ins ad.cH dx (putF "hours" (.int h) []))) := gx.pokeF hxF
    have t3 : Tabs Ps (upd H2 x (.ins ad.cH dx (putF "hours" (.int h) []))) := t2.upd hxP
    have l1 : (putF "hours" (V.int h) []).length ≤ 1 := putF_len _ _ (Nat.le_refl 0)
    -- self._rooms = list(rooms)
    refine ⟨_, rfl, ra, xr, rfl, .inl (g3.wd.same.seq qr), fun a ha => ?_⟩
    have nax : x ≠ a := fun z => by rw [← z, upd_same] at ha; cases ha
    have g4 := g3.trans (Gr.alloc (o := .lst xr) g3.wd ha)
    have t4 := t3.same (same_new (o := .lst xr) ha)
    refine ⟨_, rfl, x, ad.cH, dx, _, rfl, by rw [upd_ne nax, upd_same], T.hcl, T.hnr, by show _ < 1000; omega, ?_⟩
    have g5 := g4.pokeF (o := .ins ad.cH dx (putF "_rooms" (.ref a) (putF "hours" (.int h) []))) hxF
    have t5 := t4.upd (o := .ins ad.cH dx (putF "_rooms" (.ref a) (putF "hours" (.int h) []))) hxP
    have l2 : (putF "_rooms" (V.ref a) (putF "hours" (V.int h) [])).length ≤ 2 := putF_len _ _ l1
    have ra5 : Rows K (upd G a (.lst xr)) a rs := ⟨xr, SqL.of upd_same, rowsV_same g4.up rr⟩
    -- self._doors = list(doors)
    refine ⟨_, rfl, da, xd, rfl, .inl (g5.wd.same.seq (g4.up.seq qd)), fun b hb => ?_⟩
    have nbx : x ≠ b := fun z => by rw [← z, upd_same] at hb; cases hb
    have g6 := g5.trans (Gr.alloc (o := .lst xd) g5.wd hb)
    have t6 := t5.same (same_new (o := .lst xd) hb)
    refine ⟨_, rfl, x, ad.cH, dx, _, rfl, by rw [upd_ne nbx, upd_same], T.hcl, T.hnd, by show _ < 1000; omega, ?_⟩
    have g7 := g6.pokeF (o := .ins ad.cH dx (putF "_doors" (.ref b) (putF "_rooms" (.ref a) (putF "hours" (.int h) [])))) hxF
    have t7 := t6.upd (o := .ins ad.cH dx (putF "_doors" (.ref b) (putF "_rooms" (.ref a) (putF "hours" (.int h) [])))) hxP
    have l3 : (putF "_doors" (V.ref b) (putF "_rooms" (V.ref a) (putF "hours" (V.int h) []))).length ≤ 3 := putF_len _ _ l2
    have rb7 : Rows K (upd (upd G a (.lst xr)) b (.lst xd)) b ds := ⟨xd, SqL.of upd_same, rowsV_same g6.up rd⟩
    have s67 := (Gr.alloc (o := .lst xd) g5.wd hb).up
    -- self._stays = list(stays)
    refine ⟨_, rfl, sa, xs, rfl, .inl (g7.wd.same.seq (g6.up.seq qs)), fun c hc => ?_⟩
    have ncx : x ≠ c := fun z => by rw [← z, upd_same] at hc; cases hc
    have g8 := g7.trans (Gr.alloc (o := .lst xs) g7.wd hc)
    have t8 := t7.same (same_new (o := .lst xs) hc)
    refine ⟨_, rfl, x, ad.cH, dx, _, rfl, by rw [upd_ne ncx, upd_same], T.hcl, T.hns, by show _ < 1000; omega, ?_⟩
    have s89 := (Gr.alloc (o := .lst xs) g7.wd hc).up
    have fa : H a = none := g3.free' ha
    have fb : H b = none := g5.free' hb
    have fc : H c = none := g7.free' hc
    exact q0 ok _ _ a b c fa fb fc (g8.pokeF hxF) (t8.upd hxP) upd_same ((ra5.same s67).same s89) (rb7.same s89) ⟨xs, SqL.of upd_same, rowsV_same g8.up rS⟩
/-- a new list of rows is told -/
def spNewRows (ad : Ad) (K : PySem.W.Frag) (Ps : List Addr) (R : Int → List (List Int) → List (List Int) → List (List Int) → List (List Int)) : Sp := fun vs H Q _ =>
  ∃ (G : Hp) (x : Addr) (h : Int) (rs ds ss : List (List Int)), vs = [.ref x] ∧ Wd Ps G H ∧ Tabs Ps H ∧ HouseAt ad K G x h rs ds ss ∧
    ∀ l xs H', H l = none → Gr Ps G H G H' → H' l = some (.lst xs) → RowsV K G xs (R h rs ds ss) → Tabs Ps H' → Q (.ref l) H'
theorem c_rooms (T : RawP K mg base ad) : C8.Met P w K mg base 1 ad.cH "rooms" (spNewRows ad K Ps fun _ rs _ _ => rs) [] := by
  refine T.hro.met T.hcl scHouse_rooms (fun vs H Q E h => ?_) (fun f cdv A outer s H vs Q E hr h => ?_)
  · obtain ⟨G, x, h, rs, ds, ss, rfl, _⟩ := h
    rfl
  · obtain ⟨G, x, h, rs, ds, ss, rfl, wd, tbs, ⟨⟨dx, a, b, c, hx, ⟨xr, qr, rr⟩, _, _⟩, _, _, _, _⟩, q⟩ := h
    have b_list := T.b_list
    refine ⟨_, (pss_one (ps_ret (pe_callTy call_list_of (by rfl) b_list (by decide +kernel) (pa_cons (pe_fld (pv 0) rfl) pa_nil)))), ?_⟩
    exact ⟨_, rfl, x, ad.cH, dx, _, _, rfl, wd.same _ _ hx, T.hcl, T.hnr, hf_r _ _ _ _, a, xr, rfl, .inl (wd.same.seq qr), fun l hl => q l xr _ hl (Gr.new wd hl) upd_same rr (tbs.same (same_new hl))⟩
theorem c_doors (T : RawP K mg base ad) : C8.Met P w K mg base 1 ad.cH "doors" (spNewRows ad K Ps fun _ _ ds _ => ds) [] := by
  refine T.hdo.met T.hcl scHouse_doors (fun vs H Q E h => ?_) (fun f cdv A outer s H vs Q E hr h => ?_)
  · obtain ⟨G, x, h, rs, ds, ss, rfl, _⟩ := h
    rfl
  · obtain ⟨G, x, h, rs, ds, ss, rfl, wd, tbs, ⟨⟨dx, a, b, c, hx, _, ⟨xr, qr, rr⟩, _⟩, _, _, _, _⟩, q⟩ := h
    have b_list := T.b_list
    refine ⟨_, (pss_one (ps_ret (pe_callTy call_list_of (by rfl) b_list (by decide +kernel) (pa_cons (pe_fld (pv 0) rfl) pa_nil)))), ?_⟩
    exact ⟨_, rfl, x, ad.cH, dx, _, _, rfl, wd.same _ _ hx, T.hcl, T.hnd, hf_d _ _ _ _, b, xr, rfl, .inl (wd.same.seq qr), fun l hl => q l xr _ hl (Gr.new wd hl) upd_same rr (tbs.same (same_new hl))⟩
theorem c_stays (T : RawP K mg base ad) : C8.Met P w K mg base 1 ad.cH "stays" (spNewRows ad K Ps fun _ _ _ ss => ss) [] := by
  refine T.hst.met T.hcl scHouse_stays (fun vs H Q E h => ?_) (fun f cdv A outer s H vs Q E hr h => ?_)
  · obtain ⟨G, x, h, rs, ds, ss, rfl, _⟩ := h
    rfl
  · obtain ⟨G, x, h, rs, ds, ss, rfl, wd, tbs, ⟨⟨dx, a, b, c, hx, _, _, ⟨xr, qr, rr⟩⟩, _, _, _, _⟩, q⟩ := h
    have b_list := T.b_list
    refine ⟨_, (pss_one (ps_ret (pe_callTy call_list_of (by rfl) b_list (by decide +kernel) (pa_cons (pe_fld (pv 0) rfl) pa_nil)))), ?_⟩
    exact ⟨_, rfl, x, ad.cH, dx, _, _, rfl, wd.same _ _ hx, T.hcl, T.hns, hf_s _ _ _ _, c, xr, rfl, .inl (wd.same.seq qr), fun l hl => q l xr _ hl (Gr.new wd hl) upd_same rr (tbs.same (same_new hl))⟩
end
end Cr
set_option Elab.async false
set_option linter.all false
set_option maxRecDepth 100000
set_option maxHeartbeats 4000000

namespace Cr
open PySem PySem.Spec PyProof.Rows L2
theorem wants_two {ss : List (List Int)} {r t : Int} {z : List Int} (h : z ∈ wantsOf ss r t) : ∃ u n, z = [u, n] := by
  unfold wantsOf at h
  obtain ⟨s, _, rfl⟩ := List.mem_map.mp h
  exact ⟨_, _, rfl⟩
theorem wants_len (ss : List (List Int)) (r t : Int) : (wantsOf ss r t).length ≤ ss.length := by
  unfold wantsOf
  rw [List.length_map]
  exact List.length_filter_le ..
theorem foldl_max_start : ∀ (l : List Int) (a b : Int), l.foldl max (max a b) = max a (l.foldl max b)
  | [], _, _ => rfl
  | x :: l, a, b => by
    rw [List.foldl_cons, List.foldl_cons, show max (max a b) x = max a (max b x) by omega, foldl_max_start l a (max b x)]
theorem map_take_succ {α β : Type} {l : List α} {i : Nat} {a : α} (f : α → β) (e : l[i]? = some a) : (l.take (i + 1)).map f = (l.take i).map f ++ [f a] := by
  rw [List.take_add_one, e, List.map_append]
  rfl
theorem houseBad_lens {h : Int} {rs ds ss : List (List Int)} (e : houseBad h rs ds ss = none) : rs.length < 32 ∧ ds.length < 32 ∧ ss.length < 32 := by
  unfold houseBad at e
  cases q : countBad h rs ds ss with
  | some z => rw [q] at e; cases e
  | none => exact count_lens q
/-- a house has been checked: its stays are so -/
theorem houseBad_stay {h : Int} {rs ds ss : List (List Int)} (e : houseBad h rs ds ss = none) {s : List Int} (hs : s ∈ ss) : stayOk h rs s = true := by
  unfold houseBad at e
  cases q : countBad h rs ds ss with
  | some z => rw [q] at e; cases e
  | none =>
    rw [q] at e
    have e' : partBad h rs ds ss = none := e
    unfold partBad at e'
    split at e'
    · cases e'
    split at e'
    · cases e'
    split at e'
    · cases e'
    rename_i q3
    unfold firstNot at q3
    have z := (List.findIdx?_eq_none_iff.mp q3) s hs
    simpa using z
theorem stayOk_need {h : Int} {rs : List (List Int)} {s : List Int} (e : stayOk h rs s = true) : 0 ≤ s.getD 4 0 := by
  unfold stayOk at e
  split at e
  · rename_i r b e1 u n
    rw [Bool.and_eq_true] at e
    have := List.all_eq_true.mp e.1 n (by simp)
    unfold numOk at this
    simp at this
    exact this.1
  · cases e
section
variable {P : Program} {w : World} {K : PySem.W.Frag} {mg : Str → Option Value} {base : Heap} {ad : Ad} {Ps : List Addr} {H : Hp}
def spWants (ad : Ad) (K : PySem.W.Frag) (Ps : List Addr) : Sp := fun vs H Q _ =>
  ∃ (G : Hp) (x : Addr) (h : Int) (rs ds ss : List (List Int)) (r t : Int), vs = [.ref x, .int r, .int t] ∧ Wd Ps G H ∧ Tabs Ps H ∧ HouseAt ad K G x h rs ds ss ∧
    ∀ l xs G' H', H l = none → Gr Ps G H G' H' → G' l = none → H' l = some (.lst xs) → RowsV K G' xs (wantsOf ss r t) → Tabs Ps H' → Q (.ref l) H'
theorem c_wants (T : RawP K mg base ad) : C8.Met P w K mg base 1 ad.cH "_wants" (spWants ad K Ps) [] := by
  refine T.hwa.met T.hcl scHouse__wants (fun vs H Q E h => ?_) (fun f cdv A outer s H vs Q E hr h => ?_)
  · obtain ⟨G, x, h, rs, ds, ss, r, t, rfl, _⟩ := h
    rfl
  · obtain ⟨G, x, h, rs, ds, ss, r, t, rfl, wd, tbs, ⟨⟨dx, a, b, c, hx, _, _, ⟨xr, qr, rr⟩⟩, hok, _, _, w5⟩, q⟩ := h
    have lens := houseBad_lens hok
    have hlen : xr.length = ss.length := Paired.length rr
    refine ⟨_, (pss_one (ps_ret (pe_lc (own := [("place", 3), ("begin", 4), ("end", 5), ("use", 6), ("need", 7)]) rfl scHouse__wants.nd (pi_list (pe_fld (pv 0) rfl)) (blkOk_by (own := [("place", 3), ("begin", 4), ("end", 5), ("use", 6), ("need", 7)]) (N := nHouse__wants) (sc := defScope sHouse__wants) (by decide +kernel)) (fun _ _ _ _ _ => (pg_tupK (K := K) (n := 5) rfl rfl (pgs_cons (pg_name (i := 3) scHouse__wants.nd rfl (Or.inl rfl) (Or.inr rfl)) (pgs_cons (pg_name (i := 4) scHouse__wants.nd rfl (Or.inl rfl) (Or.inr rfl)) (pgs_cons (pg_name (i := 5) scHouse__wants.nd rfl (Or.inl rfl) (Or.inr rfl)) (pgs_cons (pg_name (i := 6) scHouse__wants.nd rfl (Or.inl rfl) (Or.inr rfl)) (pgs_cons (pg_name (i := 7) scHouse__wants.nd rfl (Or.inl rfl) (Or.inr rfl)) pgs_nil))))))) (fun _ _ _ _ _ => pts_one (PW.pt (pw_and (pt_cmpR op_eq (pv 3 rfl (Or.inl rfl)) (pv 1 rfl (Or.inr (Or.inl rfl))) (nomark _)) (pw_and1 (pt_chain op_le op_lt (pv 4 rfl (Or.inl rfl)) (pv 2 rfl (Or.inr (Or.inl rfl))) (pv 5 rfl (Or.inl rfl))))))) (fun _ _ _ _ _ => (pe_tup (pa_cons (pv 6 rfl (Or.inl rfl)) (pa_cons (pv 7 rfl (Or.inl rfl)) pa_nil))))))), ?_⟩
    refine ⟨_, rfl, x, ad.cH, dx, _, _, rfl, wd.same _ _ hx, T.hcl, T.hns, hf_s _ _ _ _, c, rfl, ⟨xr, wd.same.seq qr⟩, fun D hD => ?_⟩
    have hDP := tbs.nin hD
    refine lc_list (K := K) (a := c) (xs := xr) (fun i H' => ∃ G' acc, Gr Ps G H G' H' ∧ Tabs Ps H' ∧ G' D = none ∧ H' D = some (.lst acc) ∧ RowsV K G' acc (wantsOf (ss.take i) r t))
      ⟨G, [], Gr.new wd hD, tbs.upd hDP, wd.free hD, upd_same, .nil⟩ (fun i H' _ ⟨G', acc, g, _⟩ => g.wd.same.seq (g.up.seq qr)) ?_ ?_
    · rintro i y H' hy ⟨G', acc, g, tb, gD, hacc, hrv⟩
      obtain ⟨z, ez, ty, rfl, hty⟩ := paired_get rr hy
      have hz5 := w5 z (List.mem_of_getElem? ez)
      obtain ⟨pl, bg, en, us, nd, rfl⟩ := len5 hz5
      have hlt : i < ss.length := (List.getElem?_eq_some_iff.mp ez).1
      have hal : acc.length ≤ ss.length := by
        rw [Paired.length hrv]
        exact Nat.le_trans (wants_len _ _ _) (by rw [List.length_take]; omega)
      have hstep := wantsOf_take r t ez
      refine ⟨ty, _, rfl, Same.tup g.wd.same (Same.tup g.up hty), rfl, _, _, rfl, _, _, rfl, _, _, rfl, _, _, rfl, _, _, rfl, rfl, (by (repeat rw [wipe_set (by decide)]); exact wipe_wipe _ _), ?_⟩
      refine ⟨_, rfl, _, rfl, rfl, _, rfl, ?_⟩
      have e0 : decide (V.int pl = V.int r) = decide (pl = r) := by simp
      rw [e0]
      have ein : inHere r t [pl, bg, en, us, nd] = (decide (pl = r) && (decide (bg ≤ t) && decide (t < en))) := rfl
      rw [ein] at hstep
      have stay : (decide (pl = r) && (decide (bg ≤ t) && decide (t < en))) = false → ∃ G' acc, Gr Ps G H G' H' ∧ Tabs Ps H' ∧ G' D = none ∧ H' D = some (.lst acc) ∧ RowsV K G' acc (wantsOf (ss.take (i + 1)) r t) := fun e => by
        rw [e, if_neg Bool.false_ne_true, List.append_nil] at hstep
        exact ⟨G', acc, g, tb, gD, hacc, by rw [hstep]; exact hrv⟩
      refine ite2 (fun h1 => ?_) (fun h1 => ?_)
      · rw [h1, Bool.true_and] at stay hstep
        refine ⟨_, rfl, _, rfl, _, _, rfl, rfl, _, rfl, ?_⟩
        refine ite2 (fun h2 => ?_) (fun h2 => ?_)
        · rw [h2, Bool.true_and] at stay hstep
          refine ⟨_, rfl, _, _, rfl, rfl, _, rfl, ?_⟩
          refine ite2 (fun h3 => ?_) (fun h3 => ?_)
          · have h3' : decide (t < en) = true := h3
            rw [h3', if_pos rfl] at hstep
            refine ⟨_, rfl, _, rfl, by show 2 ≤ sizeLine; decide, fun p hp => ?_⟩
            have npD : D ≠ p := fun z => by rw [z, hp] at hacc; cases hacc
            have g2 := g.trans (Gr.alloc (o := .tup [.int us, .int nd]) g.wd hp)
            have gD2 : upd G' p (.tup [.int us, .int nd]) D = none := by rw [upd_ne npD]; exact gD
            refine ⟨acc, by rw [upd_ne npD]; exact hacc, small1000 (by omega), _, acc ++ [.ref p], g2.poke hD gD2, (tb.same (same_new hp)).upd hDP, gD2, upd_same, ?_⟩
            rw [hstep]
            exact paired_snoc (rowsV_same (Gr.alloc (o := .tup [.int us, .int nd]) g.wd hp).up hrv) ⟨p, rfl, SqT.of upd_same⟩
          · exact stay (Bool.eq_false_iff.mpr h3)
        · rw [Bool.eq_false_iff.mpr h2, Bool.false_and] at stay
          exact ⟨_, rfl, iteF (stay rfl)⟩
      · rw [Bool.eq_false_iff.mpr h1, Bool.false_and] at stay
        exact stay rfl
    · rintro H' ⟨G', acc, g, tb, gD, hacc, hrv⟩
      rw [List.take_of_length_le (by omega)] at hrv
      exact q D acc G' H' hD g gD hacc hrv tb
def spTwo (ad : Ad) (K : PySem.W.Frag) (Ps : List Addr) (F : List (List Int) → Int → Int → Int) : Sp := fun vs H Q _ =>
  ∃ (G : Hp) (x : Addr) (h : Int) (rs ds ss : List (List Int)) (r t : Int), vs = [.ref x, .int r, .int t] ∧ Wd Ps G H ∧ Tabs Ps H ∧ HouseAt ad K G x h rs ds ss ∧
    ∀ G' H', Gr Ps G H G' H' → Tabs Ps H' → Q (.int (F ss r t)) H'
theorem hf_wants (h : Int) (a b c : Addr) : (hf h a b c).lookup ("_wants" : Str) = none := hf_no _ _ _ _ (by decide +kernel) (by decide +kernel) (by decide +kernel) (by decide +kernel)
theorem c_use (T : RawP K mg base ad) : C8.Met P w K mg base 2 ad.cH "use" (spTwo ad K Ps useOf) [] := by
  refine T.hus.met T.hcl scHouse_use (fun vs H Q E h => ?_) (fun f cdv A outer s H vs Q E hr h => ?_)
  · obtain ⟨G, x, h, rs, ds, ss, r, t, rfl, _⟩ := h
    rfl
  · obtain ⟨G, x, h, rs, ds, ss, r, t, rfl, wd, tbs, hH, q⟩ := h
    have b_sum := T.b_sum
    have k_House__wants : C8.Met P w K mg base 1 ad.cH "_wants" (spWants ad K Ps) [] := c_wants T
    obtain ⟨dx, a, b, c, hx, _⟩ := hH.ob
    have lens := houseBad_lens hH.ok
    refine ⟨_, (pss_one (ps_ret (pe_callB (cr_sum rfl) (by rfl) b_sum (by decide +kernel) (pa_cons (pe_lc (own := [("use", 3), ("_", 4)]) rfl scHouse_use.nd (pi_list (C8.pe_mt k_House__wants hr (by decide) (pv 0) (pa_cons (pv 1) (pa_cons (pv 2) pa_nil)))) (blkOk_by (own := [("use", 3), ("_", 4)]) (N := nHouse_use) (sc := defScope sHouse_use) (by decide +kernel)) (fun _ _ _ _ _ => (pg_tupK (K := K) (n := 2) rfl rfl (pgs_cons (pg_name (i := 3) scHouse_use.nd rfl (Or.inl rfl) (Or.inr rfl)) (pgs_cons (pg_name (i := 4) scHouse_use.nd rfl (Or.inl rfl) (Or.inr rfl)) pgs_nil)))) (fun _ _ _ _ _ => pts_nil) (fun _ _ _ _ _ => (pv 3 rfl (Or.inl rfl)))) pa_nil)))), ?_⟩
    refine ⟨_, rfl, x, dx, _, rfl, wd.same _ _ hx, hf_wants _ _ _ _, _, rfl, _, rfl, G, x, h, rs, ds, ss, r, t, rfl, wd, tbs, hH, fun l xs G1 H1 hl g1 gl hxs hrv t1 => ⟨l, rfl, ⟨xs, SqL.of hxs⟩, fun D hD => ?_⟩⟩
    have hDP := t1.nin hD
    have nlD : l ≠ D := ne_of_none hxs hD
    have hlen : xs.length = (wantsOf ss r t).length := Paired.length hrv
    have hln : xs.length < 32 := by
      have := wants_len ss r t
      omega
    refine lc_list (K := K) (a := l) (xs := xs) (fun i H' => Gr Ps G H G1 H' ∧ Tabs Ps H' ∧ H' l = some (.lst xs) ∧ H' D = some (.lst (((wantsOf ss r t).take i).map fun z => V.int (z.getD 0 0))))
      ⟨g1.trans (Gr.new g1.wd hD), t1.upd hDP, by rw [upd_ne nlD]; exact hxs, upd_same⟩ (fun i H' _ ⟨_, _, e, _⟩ => SqL.of e) ?_ ?_
    · rintro i y H' hy ⟨g, tb, hl', hacc⟩
      obtain ⟨z, ez, ty, rfl, hty⟩ := paired_get hrv hy
      obtain ⟨u, n, rfl⟩ := wants_two (List.mem_of_getElem? ez)
      refine ⟨ty, _, rfl, Same.tup g.wd.same hty, rfl, _, _, rfl, _, _, rfl, rfl, (by (repeat rw [wipe_set (by decide)]); exact wipe_wipe _ _), ?_⟩
      have hi : i < xs.length := (List.getElem?_eq_some_iff.mp hy).1
      refine ⟨_, rfl, _, hacc, small1000 (by rw [List.length_map, List.length_take]; omega), g.poke (g1.free' hD) (g1.wd.free hD), tb.upd hDP, by rw [upd_ne nlD]; exact hl', ?_⟩
      rw [upd_same, map_take_succ _ ez]
      rfl
    · rintro H' ⟨g, tb, hl', hacc⟩
      rw [List.take_of_length_le (by omega)] at hacc
      refine ⟨D, (wantsOf ss r t).map fun z => z.getD 0 0, rfl, SqL.of (by rw [hacc, List.map_map]; rfl), ?_⟩
      exact q G1 H' g tb
end
end Cr
set_option Elab.async false
set_option linter.all false
set_option maxRecDepth 100000
set_option maxHeartbeats 4000000
/-! Words that are numbers -/
namespace Cr
open PySem PySem.Spec PyProof.Rows L2
abbrev s_is_number : Stmt := top 27
abbrev n_is_number : List Str := ["word"]
abbrev a_is_number : List Str := ["word"]
theorem sc_is_number : FnScope n_is_number a_is_number (defScope s_is_number) := ⟨rfl, rfl, rfl, by decide +kernel, rfl, by decide +kernel, by decide +kernel⟩
abbrev s_is_row : Stmt := top 26
abbrev n_is_row : List Str := ["words"]
abbrev a_is_row : List Str := ["words"]
theorem sc_is_row : FnScope n_is_row a_is_row (defScope s_is_row) := ⟨rfl, rfl, rfl, by decide +kernel, rfl, by decide +kernel, by decide +kernel⟩
/-- the word is a number of one to four figures -/
def numW (w : Str) : Bool := ((decide ((1 : Int) ≤ (w.length : Int)) && decide ((w.length : Int) ≤ 4)) && (Txt.isascii w && Txt.isdigit w)) && (w == "0" || (⟨#[w.cps.toList.headD 0]⟩ : Str) != "0")
structure RawIn (K : PySem.W.Frag) (mg : Str → Option Value) : Prop where
  isn : DefR K mg "_is_number" s_is_number a_is_number
  mf : ∃ t, mg "MOST_FIGURES" = some (.int 4 t)
  b_len : mg "len" = none
theorem head_at {w : Str} (h : 1 ≤ w.length) : atI w.cps.toList (0 : Int) = some (w.cps.toList.headD 0) := by
  have hl : w.cps.toList.length = w.length := by simp [Str.length]
  cases e : w.cps.toList with
  | nil => rw [e] at hl; simp at hl; omega
  | cons c r =>
    show atI (c :: r) (((0 : Nat) : Nat) : Int) = some c
    exact atI_nat rfl
/-- _is_number(w), called where depth is left -/
theorem num_call {K : PySem.W.Frag} {mg : Str → Option Value} {base : Heap} {prog : Program} {w : World} (T : RawIn K mg) : ∃ f : Addr, mg "_is_number" = some (.ref f) ∧ PySem.W.keepIn K (.ref f) = true ∧
    ∀ (A : Around) (a : Str) (t : Tok) (s : Shared) (Q E : Value → Shared → Prop), A.depth < recursionLimit → Mod K mg base → (∀ b o, base.get? b = some o → s.heap.get? b = some o) → a.length ≤ sizeLine → (∀ s', Keeps s s' → Q (.bool (numW a)) s') →
      wpAny (model prog w) A (call (.ref f) [.str a t]) Q E s := by
  obtain ⟨f, fd, F, hm, bi⟩ := T.isn
  obtain ⟨oc, od, kV, doc, pm, an, cdv, ct, osl, rfl, lk, hcd⟩ := F.ex
  obtain ⟨tk, hmf⟩ := T.mf
  refine ⟨f, hm, F.kp, fun A a t s Q E hd mod bk hz hQ => ?_⟩
  have kIn : K.In s.heap := mod.kin.keeps bk
  have lim : s.heap.NoLimit := mod.nolimit.keeps bk
  refine wpAny_call (codeAny_call_function hd (kIn _ _ lk) rfl sc_is_number.co sc_is_number.gen rfl (PySem.W.codeRec_of kIn hcd) (bi s [.str a t] kIn rfl _ _ _ _ ?_))
  refine wpAny_newFunctionEnv (show ∀ y ∈ (defScope s_is_number).names, y.2 ≠ .cell by decide +kernel) (fun y hy => ?_) (fun h₁ hns hsb => ⟨lim.fresh _ hsb, ?_⟩) sc_is_number.kind
  · rcases List.mem_cons.mp hy with rfl | hy
    · rfl
    · cases hy
  have kp : ∀ b o, s.heap.get? b = some o → h₁.get? b = some o := fun b o e => hsb.extBut b o (Nat.ne_of_lt (Heap.lt_size e)) (Heap.get?_push_of_some _ e)
  obtain ⟨mb, bn1, bn2⟩ := mod.blt
  show codeAny _ _ (.func (defBody s_is_number) (envOfC "_is_number" (defScope s_is_number) s.heap.objs.size f cdv)) _ _
  refine codeAny_func ?_
  have fr : Qf (envOfC "_is_number" (defScope s_is_number) s.heap.objs.size f cdv) h₁ mg (fun x => ([("word", Value.str a t)] : List (Str × Value)).reverse.lookup x) :=
    ⟨sc_is_number.kind, hns, rfl, mod.glob.keeps fun b o e => kp b o (bk b o e), rfl, mb, bn1.keeps fun b o e => kp b o (bk b o e), bn2⟩
  generalize hA : A.deeper (envOfC "_is_number" (defScope s_is_number) s.heap.objs.size f cdv) = A2
  have fin : ∀ (b : Bool) (k : Nat), b = numW a → Q (.bool b) { s with heap := h₁, toks := k } := fun b k e => by
    rw [e]
    exact hQ _ ⟨h₁, k, rfl, kp⟩
  have w0 : ∀ {p : Pos}, QE prog w A2 (envOfC "_is_number" (defScope s_is_number) s.heap.objs.size f cdv) h₁ (.Name "word" p) (.str a) := q_name fr rfl rfl ⟨t, rfl⟩
  have len : ∀ {p p2 p3 : Pos}, QE prog w A2 (envOfC "_is_number" (defScope s_is_number) s.heap.objs.size f cdv) h₁ (.Call (.Name "len" p) [.Name "word" p2] [] p3) (.int a.length) := q_len fr rfl T.b_len rfl rfl ⟨t, rfl⟩ hz
  have most : ∀ {p : Pos}, QE prog w A2 (envOfC "_is_number" (defScope s_is_number) s.heap.objs.size f cdv) h₁ (.Name "MOST_FIGURES" p) (.int 4) := q_glob fr rfl hmf ⟨tk, rfl⟩
  have c1 : ∀ {j p1 p2 p3 p4 p5 p6}, QT prog w A2 (envOfC "_is_number" (defScope s_is_number) s.heap.objs.size f cdv) h₁ (.UnaryOp .Not (.Compare (.Constant (.int 1) j p1) [.LtE, .LtE] [.Call (.Name "len" p2) [.Name "word" p3] [] p4, .Name "MOST_FIGURES" p5] p6) p1) _ := qt_not (qt_chain q_int len most)
  refine wpAny_execs_cons (wpAny_If (c1 _ _ _ rfl fun k1 => ?_))
  cases h1 : decide ((1 : Int) ≤ (a.length : Int)) && decide ((a.length : Int) ≤ 4) with
  | false =>
    refine ite_tt (wpAny_execs_cons (wpAny_Return_some (Constant_bool ?_)))
    exact fin false k1 (by unfold numW; rw [h1]; rfl)
  | true =>
    refine ite_ff (wpAny_execs_nil ?_)
    refine wpAny_execs_cons (wpAny_If (QT.use (qt_or (qt_not (qt_val (q_m0 fr rfl rfl ⟨t, rfl⟩ PySem.F.plainAttrs_str PySem.F.slot_str_isascii PySem.F.type_str_isascii (v := .bl (Txt.isascii a)) fun t s Q E h => PySem.SC.isascii (h _ s.toks rfl))))
      (fun _ => qt_not (qt_val (q_m0 fr rfl rfl ⟨t, rfl⟩ PySem.F.plainAttrs_str PySem.F.slot_str_isdigit PySem.F.type_str_isdigit (v := .bl (Txt.isdigit a)) fun t s Q E h => PySem.SC.isdigit (h _ s.toks rfl))))) rfl fun k2 => ?_))
    cases h2 : Txt.isascii a && Txt.isdigit a with
    | false =>
      have e : (!Txt.isascii a || !Txt.isdigit a) = true := by rw [← Bool.not_and, h2]; rfl
      rw [e]
      refine ite_tt (wpAny_execs_cons (wpAny_Return_some (Constant_bool ?_)))
      exact fin false k2 (by unfold numW; rw [h1, h2]; rfl)
    | true =>
      have e : (!Txt.isascii a || !Txt.isdigit a) = false := by rw [← Bool.not_and, h2]; rfl
      rw [e]
      refine ite_ff (wpAny_execs_nil ?_)
      have l1 : 1 ≤ a.length := by
        rw [Bool.and_eq_true, decide_eq_true_eq] at h1
        omega
      refine wpAny_execs_cons (wpAny_Return_some (QE.use (q_or (x := a == "0") (v := a == "0" || (⟨#[a.cps.toList.headD 0]⟩ : Str) != "0") (q_eq w0 q_str) (fun h => by rw [h]; exact q_ne (q_at fr rfl rfl ⟨t, rfl⟩ hz (head_at l1)) q_str) (fun h => by rw [h]; rfl)) rfl fun u k3 r => ?_))
      obtain rfl : u = .bool _ := r
      exact fin _ k3 (by unfold numW; rw [h1, h2]; rfl)
end Cr
set_option Elab.async false
set_option linter.all false
set_option maxRecDepth 100000
set_option maxHeartbeats 4000000
/-! Texts cut at a sign, and put together again -/
namespace Cr
open PySem PySem.Spec PyProof.Rows
open Builtin Builtin.Str
/-- a list cut at c -/
def cutL (c : Nat) : List Nat → List (List Nat)
  | [] => [[]]
  | a :: r => if a = c then [] :: cutL c r else match cutL c r with
    | [] => [[a]]
    | p :: q => (a :: p) :: q
def glueL (c : Nat) : List (List Nat) → List Nat
  | [] => []
  | [x] => x
  | x :: y :: r => x ++ c :: glueL c (y :: r)
theorem cutL_ne (c : Nat) : ∀ l, ∃ p q, cutL c l = p :: q
  | [] => ⟨_, _, rfl⟩
  | a :: r => by
    obtain ⟨p, q, e⟩ := cutL_ne c r
    unfold cutL
    rw [e]
    split <;> exact ⟨_, _, rfl⟩
theorem cutL_no {c : Nat} : ∀ {l : List Nat}, c ∉ l → cutL c l = [l]
  | [], _ => rfl
  | a :: r, h => by
    have h1 : ¬ a = c := fun e => h (by rw [e]; exact List.mem_cons_self)
    have h2 : c ∉ r := fun e => h (List.mem_cons_of_mem _ e)
    unfold cutL
    rw [cutL_no h2, if_neg h1]
theorem cutL_cat {c : Nat} : ∀ {l : List Nat} (r : List Nat), c ∉ l → cutL c (l ++ c :: r) = l :: cutL c r
  | [], r, _ => by
    show cutL c (c :: r) = _
    conv => lhs; unfold cutL
    rw [if_pos rfl]
  | a :: l, r, h => by
    have h1 : ¬ a = c := fun e => h (by rw [e]; exact List.mem_cons_self)
    have h2 : c ∉ l := fun e => h (List.mem_cons_of_mem _ e)
    show cutL c (a :: (l ++ c :: r)) = _
    conv => lhs; unfold cutL
    rw [cutL_cat r h2, if_neg h1]
theorem cut_glue {c : Nat} : ∀ {rows : List (List Nat)}, rows ≠ [] → (∀ r ∈ rows, c ∉ r) → cutL c (glueL c rows) = rows
  | [], h, _ => absurd rfl h
  | [x], _, h => cutL_no (h x List.mem_cons_self)
  | x :: y :: r, _, h => by
    show cutL c (x ++ c :: glueL c (y :: r)) = _
    rw [cutL_cat _ (h x List.mem_cons_self), cut_glue (by simp) fun z hz => h z (List.mem_cons_of_mem _ hz)]
abbrev sgn (c : Nat) : Str := ⟨#[c]⟩
theorem join_list (c : Nat) : ∀ rows : List Str, (Str.join (sgn c) rows).cps.toList = glueL c (rows.map fun r => r.cps.toList)
  | [] => rfl
  | [x] => rfl
  | x :: y :: r => by
    show (x ++ sgn c ++ Str.join (sgn c) (y :: r)).cps.toList = x.cps.toList ++ c :: glueL c ((y :: r).map fun r => r.cps.toList)
    rw [← join_list c (y :: r)]
    show ((x.cps ++ #[c]) ++ (Str.join (sgn c) (y :: r)).cps).toList = _
    simp
/-- where the sign stands: from a on, n places -/
def places (l : List Nat) (c : Nat) (a n : Nat) : List Nat := (List.range' a n).filter fun i => l[i]? = some c
theorem sub_sgn (x : Str) (c i : Nat) : (subAt x (sgn c) i = true) ↔ x.cps.toList[i]? = some c := by
  rw [StrLaws.subAt_eq]
  exact StrLaws.take1_drop
theorem occ_run (x : Str) (c limit : Nat) : ∀ (n a : Nat) (st : Array Nat × Nat), st.2 ≤ a → st.1.size + n ≤ limit → a + n ≤ x.length + 1 →
    (forIn (List.range' a n) st (StrLaws.occBody x (sgn c) x.length limit)).run.fst.toList = st.1.toList ++ places x.cps.toList c a n := by
  intro n
  induction n with
  | zero => intro a st _ _ _; simp [places]
  | succ n ih =>
    intro a st h1 h2 h3
    have e1 : (sgn c).length = 1 := rfl
    rw [List.range'_succ, List.forIn_cons]
    have hp : places x.cps.toList c a (n + 1) = (if x.cps.toList[a]? = some c then [a] else []) ++ places x.cps.toList c (a + 1) n := by
      unfold places
      rw [List.range'_succ, List.filter_cons]
      by_cases hc : x.cps.toList[a]? = some c
      · rw [if_pos (decide_eq_true hc), if_pos hc]; rfl
      · rw [if_neg (by rw [decide_eq_false hc]; exact Bool.false_ne_true), if_neg hc]; rfl
    rw [hp]
    by_cases hc : x.cps.toList[a]? = some c
    · have hlt : a < x.length := by
        have := (List.getElem?_eq_some_iff.mp hc).1
        have hl : x.cps.toList.length = x.length := by simp [Str.length]
        omega
      have hb : StrLaws.occBody x (sgn c) x.length limit a st = pure (ForInStep.yield (st.fst.push a, a + 1)) := by
        unfold StrLaws.occBody
        rw [if_pos ⟨⟨⟨by omega, h1⟩, by rw [e1]; omega⟩, (sub_sgn x c a).mpr hc⟩]
        rfl
      rw [hb, if_pos hc]
      show (forIn (List.range' (a + 1) n) (st.fst.push a, a + 1) (StrLaws.occBody x (sgn c) x.length limit)).run.fst.toList = _
      rw [ih (a + 1) (st.fst.push a, a + 1) (Nat.le_refl _) (by show (st.fst.push a).size + n ≤ limit; rw [Array.size_push]; omega) (by omega)]
      simp
    · have hb : StrLaws.occBody x (sgn c) x.length limit a st = pure (ForInStep.yield (st.fst, st.snd)) := by
        unfold StrLaws.occBody
        rw [if_neg fun z => hc ((sub_sgn x c a).mp z.2)]
      rw [hb, if_neg hc]
      show (forIn (List.range' (a + 1) n) (st.fst, st.snd) (StrLaws.occBody x (sgn c) x.length limit)).run.fst.toList = _
      rw [ih (a + 1) (st.fst, st.snd) (by show st.snd ≤ a + 1; omega) (by show st.fst.size + n ≤ limit; omega) (by omega)]
      simp
theorem occ_places (x : Str) (c : Nat) : occurrences x (sgn c) 0 x.length (x.length + 1) = places x.cps.toList c 0 (x.length + 1) := by
  rw [StrLaws.occ_eq, show x.length + 1 - 0 = x.length + 1 from rfl]
  have h := occ_run x c (x.length + 1) (x.length + 1) 0 (#[], 0) (Nat.le_refl _) (by simp) (by omega)
  rw [h]
  rfl
theorem parts_cut (x : Str) (c : Nat) : ∀ (n a b : Nat), a ≤ b → b + n = x.length + 1 → (StrLaws.partsFrom x 1 a (places x.cps.toList c b n)).map (fun r => r.cps.toList) =
    match cutL c (x.cps.toList.drop b) with
    | [] => []
    | p :: q => (((x.cps.toList.drop a).take (b - a)) ++ p) :: q := by
  have hl : x.cps.toList.length = x.length := by simp [Str.length]
  intro n
  induction n with
  | zero =>
    intro a b hab hn
    rw [List.drop_of_length_le (by omega)]
    show [(strSub x a x.length).cps.toList] = _
    rw [StrLaws.strSub_toList]
    show _ = [(x.cps.toList.drop a).take (b - a) ++ []]
    rw [List.append_nil, List.take_of_length_le (by rw [List.length_drop]; omega), List.take_of_length_le (by rw [List.length_drop]; omega)]
  | succ n ih =>
    intro a b hab hn
    have hp : places x.cps.toList c b (n + 1) = (if x.cps.toList[b]? = some c then [b] else []) ++ places x.cps.toList c (b + 1) n := by
      unfold places
      rw [List.range'_succ, List.filter_cons]
      by_cases hc : x.cps.toList[b]? = some c
      · rw [if_pos (decide_eq_true hc), if_pos hc]; rfl
      · rw [if_neg (by rw [decide_eq_false hc]; exact Bool.false_ne_true), if_neg hc]; rfl
    rw [hp]
    by_cases hc : x.cps.toList[b]? = some c
    · have hlt := (List.getElem?_eq_some_iff.mp hc).1
      have hv : x.cps.toList[b] = c := (List.getElem?_eq_some_iff.mp hc).2
      rw [if_pos hc]
      show (strSub x a b).cps.toList :: (StrLaws.partsFrom x 1 (b + 1) (places x.cps.toList c (b + 1) n)).map (fun r => r.cps.toList) = _
      rw [ih (b + 1) (b + 1) (Nat.le_refl _) (by omega), StrLaws.strSub_toList, List.drop_eq_getElem_cons hlt, hv]
      obtain ⟨p, q, e⟩ := cutL_ne c (x.cps.toList.drop (b + 1))
      conv => rhs; unfold cutL
      rw [e, if_pos rfl]
      simp
    · rw [if_neg hc]
      show (StrLaws.partsFrom x 1 a (places x.cps.toList c (b + 1) n)).map (fun r => r.cps.toList) = _
      rw [ih a (b + 1) (by omega) (by omega)]
      by_cases hlt : b < x.cps.toList.length
      · have hv : ¬ x.cps.toList[b] = c := fun z => hc (by rw [List.getElem?_eq_getElem hlt, z])
        rw [List.drop_eq_getElem_cons hlt]
        obtain ⟨p, q, e⟩ := cutL_ne c (x.cps.toList.drop (b + 1))
        conv => rhs; unfold cutL
        rw [e, if_neg hv]
        have ht : (x.cps.toList.drop a).take (b + 1 - a) = (x.cps.toList.drop a).take (b - a) ++ [x.cps.toList[b]] := by
          rw [show b + 1 - a = (b - a) + 1 by omega, List.take_add_one, List.getElem?_drop, show a + (b - a) = b by omega, List.getElem?_eq_getElem hlt]
          rfl
        rw [ht]
        simp
      · have d1 : x.cps.toList.drop (b + 1) = [] := List.drop_of_length_le (by omega)
        have d2 : x.cps.toList.drop b = [] := List.drop_of_length_le (by omega)
        rw [d1, d2]
        show ((x.cps.toList.drop a).take (b + 1 - a) ++ []) :: [] = _
        have h1 : (x.cps.toList.drop a).take (b + 1 - a) = (x.cps.toList.drop a).take (b - a) := by
          rw [List.take_of_length_le (by rw [List.length_drop]; omega), List.take_of_length_le (by rw [List.length_drop]; omega)]
        rw [h1]
        rfl
theorem str_ext {a b : Str} (h : a.cps.toList = b.cps.toList) : a = b := PySem.Str.ext' (Array.toList_inj.mp h)
theorem map_list_inj : ∀ {xs ys : List Str}, xs.map (fun r => r.cps.toList) = ys.map (fun r => r.cps.toList) → xs = ys
  | [], [], _ => rfl
  | [], _ :: _, h => by simp at h
  | _ :: _, [], h => by simp at h
  | x :: xs, y :: ys, h => by
    simp only [List.map_cons, List.cons.injEq] at h
    rw [str_ext h.1, map_list_inj h.2]
theorem split_list (x : Str) {c : Nat} (hc : c < 256) : (Txt.split x (sgn c)).map (fun r => r.cps.toList) = cutL c x.cps.toList := by
  have hl : x.cps.toList.length = x.length := by simp [Str.length]
  have main : (StrLaws.partsFrom x 1 0 (places x.cps.toList c 0 (x.length + 1))).map (fun r => r.cps.toList) = cutL c x.cps.toList := by
    rw [parts_cut x c (x.length + 1) 0 0 (Nat.le_refl _) (by omega)]
    obtain ⟨p, q, e⟩ := cutL_ne c x.cps.toList
    rw [List.drop_zero, e]
    simp
  unfold Txt.split
  have hk : Builtin.Str.strKind (sgn c) = 1 := by
    unfold Builtin.Str.strKind
    simp [sgn, hc]
  have hk2 : decide (Builtin.Str.strKind x < Builtin.Str.strKind (sgn c)) = false := by
    rw [hk]
    apply decide_eq_false
    unfold Builtin.Str.strKind
    split
    · omega
    · split <;> omega
  have e1 : (sgn c).length = 1 := rfl
  rw [hk2, Bool.or_false, e1]
  by_cases h0 : x.length < 1
  · rw [if_pos (decide_eq_true h0)]
    have : x.cps.toList = [] := List.length_eq_zero_iff.mp (by omega)
    show [x.cps.toList] = _
    rw [this]
    rfl
  · rw [if_neg (by simpa using h0), occ_places]
    split
    · rename_i he
      rw [List.isEmpty_iff.mp he] at main
      rw [← main]
      show [x.cps.toList] = [(strSub x 0 x.length).cps.toList]
      rw [StrLaws.sub_whole]
    · rw [StrLaws.partsBetween_eq]
      exact main
/-- rows put together and cut again -/
theorem split_join {c : Nat} (hc : c < 256) {rows : List Str} (h0 : rows ≠ []) (hr : ∀ r ∈ rows, c ∉ r.cps.toList) : Txt.split (Txt.join (sgn c) rows) (sgn c) = rows := by
  apply map_list_inj
  rw [split_list _ hc]
  show cutL c (glued (sgn c) rows).cps.toList = _
  rw [StrLaws.glued_eq_join, join_list]
  exact cut_glue (by simpa using h0) fun r hr' => by
    obtain ⟨z, hz, rfl⟩ := List.mem_map.mp hr'
    exact hr z hz
end Cr
set_option Elab.async false
set_option linter.all false
set_option maxRecDepth 100000
set_option maxHeartbeats 4000000

/-! Rows of words -/
namespace Cr
open PySem PySem.Spec PyProof.Rows L2
theorem cutF (xs : List V) (k : Nat) : cutV xs (some (k : Int)) none = xs.drop k := by
  unfold cutV
  rw [HT.sIx_none, HT.sIx_nat]
  by_cases h : k ≤ xs.length
  · rw [Nat.min_eq_left h, List.take_of_length_le (by rw [List.length_drop]; omega)]
  · rw [Nat.min_eq_right (by omega), Nat.sub_self, List.take_zero, List.drop_of_length_le (by omega)]
theorem cut1 (z : V) (xs : List V) : cutV (z :: xs) (some 1) none = xs := cutF (z :: xs) 1
/-- a word of a row: which sort, how many numbers -/
def cntOf (z : Str) : Option (Nat × Nat) := if z = "hours" then some (0, 1) else if z = "room" then some (1, 4) else if z = "door" then some (2, 3) else if z = "stay" then some (3, 5) else none
def rowW : List Str → Bool
  | [] => false
  | z :: r => match cntOf z with
    | none => false
    | some (_, n) => decide (r.length = n) && r.all numW
def isV : V → Option Str
  | .str z => some z
  | _ => none
def trW (v : V) : Bool := match v with
  | .str z => numW z
  | _ => false
def PzW (v : V) : Prop := ∃ z, v = .str z ∧ z.length ≤ sizeLine
structure CountsR (K : PySem.W.Frag) (w : World) (mg : Str → Option Value) : Prop where
  ex : ∃ d es n, mg "COUNTS" = some (.ref d) ∧ KDict K w d es n ∧ ∀ z, match cntOf z with
    | none => PySem.W.nsIn K d z = some none
    | some (_, k) => ∃ u, PySem.W.nsIn K d z = some (some u) ∧ RelV (.int (k : Int)) u
structure RawIr (K : PySem.W.Frag) (w : World) (mg : Str → Option Value) (base : Heap) (cR : Addr) (tR : Addr) : Prop extends RawIn K mg where
  isr : CodR K mg base "_is_row" s_is_row a_is_row cR tR
  cnt : CountsR K w mg
  b_all : mg "all" = none
theorem elt_num {X : Cx} (T : RawIn X.K X.mg) {scope : Scope} {p p2 pos : Pos} (hk : scope.kind = .function) (hg : scope.names.lookup ("_is_number" : Str) = some .globalImplicit) (hl : scope.names.lookup ("word" : Str) = some .local) :
    EltG X scope "word" (.Call (.Name "_is_number" p) [.Name "word" p2] [] pos) PzW trW := by
  intro cenv A' E' v u s₂ m₂ hd hsc hgl hb mod bk pz rv hns hm
  obtain ⟨z, rfl, hz⟩ := pz
  obtain ⟨t, rfl⟩ := rv
  obtain ⟨f, hm', kp, hc⟩ := num_call (prog := X.prog) (w := X.w) (base := X.base) T
  have hk' : cenv.scope.kind = .function := by rw [hsc]; exact hk
  refine wpAny_Call_Name_kw (Calls.Name_function_global hk' (show cenv.scope.names.lookup _ = _ by rw [hsc]; exact hg) (Calls.loadGlobal_global (by rw [hgl]; exact mod.glob.keeps bk) hm' ?_) (by decide))
  refine PySem.W.callWith_K (first := []) (h₀ := X.base) mod.kin kp (Calls.spliced_cons (wpAny_Name (wpAny_loadName_local hk' (show cenv.scope.names.lookup _ = _ by rw [hsc]; exact hl) hns hm (Calls.spliced_nil ⟨mod.kin.keeps bk, ?_⟩)) (by decide)))
  exact hc A' z t s₂ _ _ hd mod bk hz fun s' ks => ⟨rfl, ks⟩
theorem all_trW : ∀ r : List Str, (r.map V.str).all trW = r.all numW
  | [] => rfl
  | z :: r => by
    rw [List.map_cons, List.all_cons, List.all_cons, all_trW r]
    rfl
def spIsRow (K : PySem.W.Frag) (Ps : List Addr) : Sp := fun vs H Q _ => ∃ (G : Hp) (a : Addr) (ws : List Str), vs = [.ref a] ∧ Wd Ps G H ∧ Tabs Ps H ∧ SqL K G a (ws.map V.str) ∧ ws ≠ [] ∧ (∀ z ∈ ws, z.length ≤ sizeLine) ∧ ∀ H', Gr Ps G H G H' → Tabs Ps H' → Q (.bl (rowW ws)) H'
section
variable {P : Program} {w : World} {K : PySem.W.Frag} {mg : Str → Option Value} {base : Heap} {Ps : List Addr} {H : Hp} {cR tR : Addr}
theorem c_isrow (T : RawIr K w mg base cR tR) (hP : tR ∈ Ps) : C8.Cal P w K mg base 2 "_is_row" (spIsRow K Ps) [] := by
  refine T.isr.cal sc_is_row (fun vs H Q E h => ?_) (fun tb f A outer s H vs Q E hr h => ?_)
  · obtain ⟨G, t, ns, rfl, _⟩ := h
    rfl
  · obtain ⟨G, a, ws, rfl, wd, tbs, ha, hne, hz, q⟩ := h
    have b_all := T.b_all
    have b_len := T.b_len
    obtain ⟨d, es, n, m_COUNTS, D_COUNTS, hns⟩ := T.cnt.ex
    refine ⟨_, (pss_cons (ps_if (PW.pt (pw_or (pt_cmpR (op_notIn_kd D_COUNTS) (pe_ix ix_seq (pv 0) pe_int (fun _ _ => rfl)) (pe_glob (v := .ref _) rfl m_COUNTS rfl) (by rfl)) (pw_or1 (pt_cmpR op_ne (pe_callB call_len_seq (by rfl) b_len (by decide +kernel) (pa_cons (pv 0) pa_nil)) (pe_op op_add (pe_ix ix_kdict (pe_glob (v := .ref _) rfl m_COUNTS rfl) (pe_ix ix_seq (pv 0) pe_int (fun _ _ => rfl)) (fun _ _ => rfl)) pe_int) (nomark _)))))
        (pss_one (ps_ret pe_bl))
        pss_nil)
      (pss_one (ps_ret (pe_allC hr (by rfl) b_all (by decide +kernel) tb rfl ⟨rfl, rfl, by decide +kernel, rfl, rfl, noFree (by decide +kernel)⟩ (pe_slice sl_list (pv 0) (po_some pe_int) po_none) (elt_num T.toRawIn rfl rfl rfl) (fun _ => rfl))))), ?_⟩
    obtain ⟨z, r, rfl⟩ : ∃ z r, ws = z :: r := by
      cases ws with
      | nil => exact absurd rfl hne
      | cons z r => exact ⟨z, r, rfl⟩
    have hs := wd.same.seq ha
    have at0 : atI (V.str z :: r.map V.str) 0 = some (V.str z) := atI_nat (xs := V.str z :: r.map V.str) (j := 0) rfl
    have hz1 := hns z
    refine ⟨_, rfl, .inl ⟨a, _, 0, .str z, rfl, rfl, hs, at0, ?_⟩⟩
    cases hc : cntOf z with
    | none =>
      have hz2 : PySem.W.nsIn K d z = some none := by rw [hc] at hz1; exact hz1
      refine ⟨z, none, rfl, rfl, hz2, _, rfl, iteT ?_⟩
      refine iteT ?_
      have e : rowW (z :: r) = false := by
        show (match cntOf z with | none => false | some (_, n) => decide (r.length = n) && r.all numW) = false
        rw [hc]
      have q2 := q H (Gr.refl wd) tbs
      rw [e] at q2
      exact q2
    | some sk =>
      obtain ⟨so, k⟩ := sk
      have hz2 : ∃ u, PySem.W.nsIn K d z = some (some u) ∧ RelV (.int (k : Int)) u := by rw [hc] at hz1; exact hz1
      obtain ⟨u, hz2, ru⟩ := hz2
      have e : rowW (z :: r) = (decide (r.length = k) && r.all numW) := by
        show (match cntOf z with | none => false | some (_, n) => decide (r.length = n) && r.all numW) = _
        rw [hc]
      refine ⟨z, some u, rfl, rfl, hz2, _, rfl, iteF ?_⟩
      refine ⟨_, rfl, a, _, rfl, .inl hs, _, rfl, .inl ⟨a, _, 0, .str z, rfl, rfl, hs, at0, d, z, .int (k : Int), rfl, rfl, ⟨es, n, u, D_COUNTS.at_, D_COUNTS.lit, hz2, ru⟩, ?_⟩⟩
      refine ⟨_, _, rfl, rfl, rfl, _, rfl, ?_⟩
      have e2 : (!decide (V.int ((V.str z :: r.map V.str).length : Int) = V.int ((k : Int) + 1))) = !decide (r.length = k) := by
        congr 1
        rw [decide_eq_decide]
        simp
        omega
      rw [show (List.map V.str (z :: r)) = V.str z :: r.map V.str from rfl, e2]
      cases hk : decide (r.length = k) with
      | false =>
        refine iteT ?_
        have q2 := q H (Gr.refl wd) tbs
        rw [e, hk] at q2
        exact q2
      | true =>
        refine iteF ?_
        refine ⟨_, rfl, _, rfl, a, _, rfl, hs, fun p hp => ⟨p, _, rfl, SqL.of upd_same, fun v hv => ?_, ?_, fun H2 ht => ?_⟩⟩
        · rw [show cutV (List.map V.str (z :: r)) (some 1) none = r.map V.str from cut1 _ _] at hv
          obtain ⟨y, hy, rfl⟩ := List.mem_map.mp hv
          exact ⟨y, rfl, hz y (List.mem_cons_of_mem _ hy)⟩
        · exact (tbs.same (same_new hp)) _ hP
        · have g1 := Gr.new (o := .lst (cutV (List.map V.str (z :: r)) (some 1) none)) wd hp
          have g2 := Gr.tab g1.wd hP ht
          have q2 := q H2 (g1.trans g2) (Tabs.tab (tbs.same (same_new hp)) ht)
          rw [e, hk, Bool.true_and, ← all_trW] at q2
          rw [show cutV (List.map V.str (z :: r)) (some 1) none = r.map V.str from cut1 _ _]
          exact q2
end
end Cr
set_option Elab.async false
set_option linter.all false
set_option maxRecDepth 100000
set_option maxHeartbeats 4000000

/-! BadText made; what a text's rows say -/
namespace Cr
open PySem PySem.Spec PyProof.Rows L2
abbrev sBadText_init : Stmt := inClass (top 7) 0
abbrev nBadText_init : List Str := ["self", "row"]
abbrev aBadText_init : List Str := ["self", "row"]
theorem scBadText_init : FnScope nBadText_init aBadText_init (defScope sBadText_init) := ⟨rfl, rfl, rfl, by decide +kernel, rfl, by decide +kernel, by decide +kernel⟩
theorem num_100 : ∀ k : Nat, k < 100 → (toString ((k : Nat) : Int) : Str).length ≤ 2 := by decide +kernel
theorem log_100 : ∀ k : Nat, k < 100 → ((k : Nat) : Int).natAbs.log2 < 1920 := by decide +kernel
structure RawBt (K : PySem.W.Frag) (mg : Str → Option Value) (base : Heap) (ad : Ad) (cBT : Addr) : Prop extends RawP K mg base ad where
  bt : ErrR K mg cBT "BadText" "BadText.__init__" sBadText_init aBadText_init
  btr : PySem.W.findIn K (.ref cBT) "row" = some none
section
variable {P : Program} {w : World} {K : PySem.W.Frag} {mg : Str → Option Value} {base : Heap} {ad : Ad} {cBT : Addr} {H : Hp}
def spBTi (cBT : Addr) : Sp := fun vs H Q _ => ∃ (a : Addr) (k : Nat), vs = [.ref a, .int (k : Int)] ∧ k < 100 ∧ H a = some (exo a cBT none) ∧
  ∀ dx, H dx = none → dx ≠ a → Q .non (upd (upd H dx (exd dx [("row", .int (k : Int))])) a (exo a cBT (some dx)))
theorem mk_bt (T : RawBt K mg base ad cBT) : MakE P w K mg base 1 "BadText" cBT (spBTi cBT) := by
  obtain ⟨_, _, O, _⟩ := id T.bt
  refine T.bt.make scBadText_init (fun vs H Q E h => ?_) (fun f cdv A outer s H vs Q E hr h => ?_)
  · obtain ⟨a, k, rfl, _⟩ := h
    rfl
  · obtain ⟨a, k, rfl, hk, ha, q⟩ := h
    have m_AirError := T.m_AirError
    have i_AirError := T.airI
    refine ⟨_, (pss_cons (ps_expr (pe_baseinit i_AirError (by rfl) m_AirError (pa_cons (pv 0) (pa_cons (pe_joined (PJ.cons pe_str (PJ.cons (pe_fmt (pv 1)) (PJ.cons pe_str PJ.nil)))) pa_nil))))
      (pss_one (ps_ost (pv 0) (pv 1)))), ?_⟩
    have hz := num_100 k hk
    have e1 : (Str.empty ++ ("row " : Str)).length = 4 := by decide +kernel
    have e2 : ((" is not a house's" : Str)).length = 17 := by decide +kernel
    have ez : ∀ n : Nat, n ≤ 100 → n ≤ sizeLine := fun n h => by rw [sizeLine_eq]; omega
    refine ⟨_, rfl, _, rfl, ez _ (by omega), _, rfl, .inr ⟨_, rfl, log_100 k hk, _, rfl, ez _ (by rw [len_app, e1]; omega), _, rfl, ez _ (by rw [len_app, len_app, e1, e2]; omega), ?_⟩⟩
    refine ⟨a, cBT, _, rfl, by show 1 ≤ 1000; decide, O, ha, ?_⟩
    refine ⟨_, rfl, _, rfl, a, cBT, rfl, O, T.btr, .inl ⟨ha, fun dx hdx hne => ?_⟩⟩
    exact q dx hdx hne
/-- a BadText with this row -/
def RaisedBt (cBT : Addr) (k : Nat) (cls : Value) (d : Option Addr) (H : Hp) : Prop := cls = .ref cBT ∧ ∃ dd, d = some dd ∧ H dd = some (.xd [("row", .int (k : Int))])
theorem bt_heap {a dx : Addr} {o1 o2 o3 o5 : HO} (ha : H a = none) (hne : dx ≠ a) : upd (del (upd (upd (upd H a o1) dx o2) a o3) a) dx o5 = upd H dx o5 := by
  funext b
  by_cases h1 : b = dx
  · rw [h1, upd_same, upd_same]
  · rw [upd_ne h1, upd_ne h1]
    by_cases h2 : b = a
    · rw [h2, del_same, ha]
    · rw [del_ne h2, upd_ne h2, upd_ne h1, upd_ne h2]
theorem raise_bt {k : Nat} {W : XK} (hk : k < 100) (q : ∀ dx, H dx = none → W (.ref cBT) (some dx) (upd H dx (.xd [("row", .int (k : Int))]))) :
    [V.int (k : Int)].length ≤ 1000 ∧ ∀ a, H a = none → spBTi cBT (.ref a :: ([V.int (k : Int)] ++ [])) (upd H a (exo a cBT none))
      (fun v H2 => v = .non ∧ ∃ (d : Addr) (fs : List (Str × V)), H2 a = some (exo a cBT (some d)) ∧ H2 d = some (exd d fs) ∧ H d = none ∧ W (.ref cBT) (some d) (upd (del H2 a) d (.xd fs))) (fun _ _ _ => False) := by
  refine ⟨by show 1 ≤ 1000; decide, fun a ha => ⟨a, k, rfl, hk, upd_same, fun dx hdx hne => ⟨rfl, dx, [("row", .int (k : Int))], upd_same, ?_, ?_, ?_⟩⟩⟩
  · rw [upd_ne hne, upd_same]
  · rw [upd_ne hne] at hdx
    exact hdx
  · rw [bt_heap ha hne]
    rw [upd_ne hne] at hdx
    exact q dx hdx
end
/-! ### what the rows say -/
abbrev RS : Type := Nat × (Nat → List (List Int))
def numOf (z : Str) : Int := (PySem.intText? z).getD 0
def sortW : List Str → Nat
  | [] => 0
  | z :: _ => match cntOf z with
    | some (so, _) => so
    | none => 0
def numsOf (ws : List Str) : List Int := ws.tail.map numOf
def stepR (i : Nat) (st : RS) (ws : List Str) : Option RS :=
  if rowW ws = true then (if sortW ws < st.1 ∨ ¬ (sortW ws = 0 ↔ i = 0) then none else some (sortW ws, fun j => if j = sortW ws then st.2 j ++ [numsOf ws] else st.2 j)) else none
/-- the rows' numbers by their sorts, or the first row that cannot be -/
def goR : Nat → RS → List (List Str) → Sum Nat RS
  | _, st, [] => .inr st
  | i, st, ws :: r => match stepR i st ws with
    | none => .inl i
    | some st' => goR (i + 1) st' r
def begR : RS := (0, fun _ => [])
def cntN : Nat → Nat
  | 0 => 1
  | 1 => 4
  | 2 => 3
  | _ => 5
theorem rowW_some {ws : List Str} (h : rowW ws = true) : ∃ z r so n, ws = z :: r ∧ cntOf z = some (so, n) ∧ sortW ws = so ∧ r.length = n ∧ r.all numW = true ∧ so < 4 ∧ n = cntN so := by
  cases ws with
  | nil => cases h
  | cons z r =>
    cases hc : cntOf z with
    | none =>
      have : rowW (z :: r) = false := by
        show (match cntOf z with | none => false | some (_, n) => decide (r.length = n) && r.all numW) = false
        rw [hc]
      rw [this] at h
      cases h
    | some sn =>
      obtain ⟨so, n⟩ := sn
      have e : rowW (z :: r) = (decide (r.length = n) && r.all numW) := by
        show (match cntOf z with | none => false | some (_, n) => decide (r.length = n) && r.all numW) = _
        rw [hc]
      rw [e, Bool.and_eq_true, decide_eq_true_eq] at h
      have hs : sortW (z :: r) = so := by
        show (match cntOf z with | some (so, _) => so | none => 0) = so
        rw [hc]
      have hk : so < 4 ∧ n = cntN so := by
        unfold cntOf at hc
        split at hc
        · cases hc; exact ⟨by decide, rfl⟩
        split at hc
        · cases hc; exact ⟨by decide, rfl⟩
        split at hc
        · cases hc; exact ⟨by decide, rfl⟩
        split at hc
        · cases hc; exact ⟨by decide, rfl⟩
        cases hc
      exact ⟨z, r, so, n, rfl, hc, hs, h.1, h.2, hk.1, hk.2⟩
/-- what holds of the numbers under way -/
structure OkR (i : Nat) (st : RS) : Prop where
  wide : ∀ j, Wide (cntN j) (st.2 j)
  one : 0 < i → ∃ h, st.2 0 = [[h]]
  emp : i = 0 → ∀ j, st.2 j = []
  few : ∀ j, (st.2 j).length ≤ i
  so : st.1 < 4
theorem okR_beg : OkR 0 begR := ⟨(fun j r hr => nomatch hr), fun h => absurd h (Nat.lt_irrefl 0), fun _ _ => rfl, fun _ => Nat.zero_le _, by decide⟩
theorem okR_step {i : Nat} {st st' : RS} {ws : List Str} (o : OkR i st) (e : stepR i st ws = some st') : OkR (i + 1) st' := by
  unfold stepR at e
  split at e
  · rename_i hr
    obtain ⟨z, r, so, n, rfl, hc, hs, hl, _, h4, hn⟩ := rowW_some hr
    rw [hs] at e
    split at e
    · cases e
    · rename_i h2
      cases e
      have h3 : so = 0 ↔ i = 0 := Decidable.byContradiction fun z => h2 (.inr z)
      refine ⟨fun j r' hr' => ?_, fun _ => ?_, fun z => by omega, fun j => ?_, h4⟩
      · dsimp only at hr'
        split at hr'
        · rename_i hj
          rcases List.mem_append.mp hr' with h | h
          · exact o.wide j r' h
          · rw [List.mem_singleton.mp h, hj, ← hn]
            show (r.map numOf).length = n
            rw [List.length_map]
            exact hl
        · exact o.wide j r' hr'
      · dsimp only
        by_cases hi : i = 0
        · have h0 : so = 0 := h3.mpr hi
          rw [if_pos h0.symm, o.emp hi 0]
          have hn1 : n = 1 := by rw [hn, h0]; rfl
          rw [hn1] at hl
          obtain ⟨x, rfl⟩ : ∃ x, r = [x] := List.length_eq_one_iff.mp hl
          exact ⟨_, rfl⟩
        · have h0 : ¬ (0 = so) := fun z => hi (h3.mp z.symm)
          rw [if_neg h0]
          exact o.one (by omega)
      · dsimp only
        have := o.few j
        split
        · rw [List.length_append]
          simp
          omega
        · omega
  · cases e
end Cr
set_option Elab.async false
set_option linter.all false
set_option maxRecDepth 100000
set_option maxHeartbeats 4000000

namespace Cr
open PySem PySem.Spec PyProof.Rows L2
abbrev s_law_begun : Stmt := top 29
abbrev n_law_begun : List Str := ["_law_script", "_law_stirred", "_law_cell"]
abbrev a_law_begun : List Str := ["_law_script"]
theorem sc_law_begun : FnScope n_law_begun a_law_begun (defScope s_law_begun) := ⟨rfl, rfl, rfl, by decide +kernel, rfl, by decide +kernel, by decide +kernel⟩
abbrev s_law_take : Stmt := top 30
abbrev n_law_take : List Str := ["_law_box", "_law_many", "_law_number"]
abbrev a_law_take : List Str := ["_law_box", "_law_many"]
theorem sc_law_take : FnScope n_law_take a_law_take (defScope s_law_take) := ⟨rfl, rfl, rfl, by decide +kernel, rfl, by decide +kernel, by decide +kernel⟩
abbrev s_law_alike : Stmt := top 31
abbrev n_law_alike : List Str := ["_law_found", "_law_due", "_law_k"]
abbrev a_law_alike : List Str := ["_law_found", "_law_due"]
theorem sc_law_alike : FnScope n_law_alike a_law_alike (defScope s_law_alike) := ⟨rfl, rfl, rfl, by decide +kernel, rfl, by decide +kernel, by decide +kernel⟩
/-! ### the box of draws: a list at b of the script's numbers (a list at l) and a number -/
def BoxAt (b l : Addr) (H : Hp) : Prop := ∃ (z : Int) (ns : List Int), H b = some (.lst [.ref l, .int z]) ∧ H l = some (.lst (ns.map V.int)) ∧ ns.length ≤ 63
structure Bx (Ps : List Addr) (b l : Addr) (G0 H0 G H : Hp) : Prop where
  gr : Gr (b :: l :: Ps) G0 H0 G H
  box : BoxAt b l H
  tabs : Tabs Ps H
  bl : b ≠ l
  nb : b ∉ Ps
  nl : l ∉ Ps
section
variable {Ps : List Addr} {b l p : Addr} {G0 H0 G H G1 H1 : Hp} {o : HO}
theorem bF {b l : Addr} {Ps : List Addr} : b ∈ b :: l :: Ps := List.mem_cons_self
theorem lF {b l : Addr} {Ps : List Addr} : l ∈ b :: l :: Ps := List.mem_cons_of_mem _ List.mem_cons_self
theorem Bx.start (x : Bx Ps b l G0 H0 G H) : Bx Ps b l G H G H := ⟨Gr.refl x.gr.wd, x.box, x.tabs, x.bl, x.nb, x.nl⟩
theorem Bx.trans (x : Bx Ps b l G0 H0 G H) (y : Bx Ps b l G H G1 H1) : Bx Ps b l G0 H0 G1 H1 := ⟨x.gr.trans y.gr, y.box, y.tabs, x.bl, x.nb, x.nl⟩
theorem Bx.wd (x : Bx Ps b l G0 H0 G H) : Wd (b :: l :: Ps) G H := x.gr.wd
theorem Bx.neb (x : Bx Ps b l G0 H0 G H) (hp : H p = none) : b ≠ p := fun z => by
  obtain ⟨_, _, e, _⟩ := x.box
  rw [z, hp] at e; cases e
theorem Bx.nel (x : Bx Ps b l G0 H0 G H) (hp : H p = none) : l ≠ p := fun z => by
  obtain ⟨_, _, _, e, _⟩ := x.box
  rw [z, hp] at e; cases e
theorem BoxAt.upd (h : BoxAt b l H) (hb : b ≠ p) (hl : l ≠ p) : BoxAt b l (upd H p o) := by
  obtain ⟨z, ns, e1, e2, e3⟩ := h
  exact ⟨z, ns, by rw [upd_ne hb]; exact e1, by rw [upd_ne hl]; exact e2, e3⟩
theorem Bx.new (x : Bx Ps b l G0 H0 G H) (hp : H p = none) : Bx Ps b l G0 H0 G (upd H p o) :=
  ⟨x.gr.trans (Gr.new x.wd hp), x.box.upd (x.neb hp) (x.nel hp), x.tabs.same (same_new hp), x.bl, x.nb, x.nl⟩
theorem Bx.alloc (x : Bx Ps b l G0 H0 G H) (hp : H p = none) : Bx Ps b l G0 H0 (upd G p o) (upd H p o) :=
  ⟨x.gr.trans (Gr.alloc x.wd hp), x.box.upd (x.neb hp) (x.nel hp), x.tabs.same (same_new hp), x.bl, x.nb, x.nl⟩
/-- a thing made since the start and not known: not the box, no table -/
theorem Bx.apart (x : Bx Ps b l G0 H0 G0 H0) (h0 : H0 p = none) : b ≠ p ∧ l ≠ p ∧ p ∉ Ps := ⟨x.neb h0, x.nel h0, x.tabs.nin h0⟩
theorem Bx.poke (x : Bx Ps b l G0 H0 G H) (s : Bx Ps b l G0 H0 G0 H0) (h0 : H0 p = none) (hg : G p = none) : Bx Ps b l G0 H0 G (upd H p o) := by
  obtain ⟨h1, h2, h3⟩ := s.apart h0
  exact ⟨x.gr.poke h0 hg, x.box.upd h1 h2, x.tabs.upd h3, x.bl, x.nb, x.nl⟩
theorem Bx.close (x : Bx Ps b l G0 H0 G H) (s : Bx Ps b l G0 H0 G0 H0) (h0 : H0 p = none) (h1 : H p = some o) (hg : G p = none) : Bx Ps b l G0 H0 (upd G p o) H := by
  obtain ⟨a1, a2, a3⟩ := s.apart h0
  refine ⟨x.gr.close h0 h1 (fun h => ?_) hg, x.box, x.tabs, x.bl, x.nb, x.nl⟩
  rcases List.mem_cons.mp h with z | h
  · exact a1 z.symm
  rcases List.mem_cons.mp h with z | h
  · exact a2 z.symm
  · exact a3 h
theorem Bx.pure (x : Bx Ps b l G0 H0 G H) (g : Gr Ps G H G1 H1) (t : Tabs Ps H1) : Bx Ps b l G0 H0 G1 H1 := by
  have gw := g.widen x.wd (fun c hc => List.mem_cons_of_mem _ (List.mem_cons_of_mem _ hc))
  refine ⟨x.gr.trans gw, ?_, t, x.bl, x.nb, x.nl⟩
  obtain ⟨z, ns, e1, e2, e3⟩ := x.box
  exact ⟨z, ns, g.keep _ _ x.nb e1, g.keep _ _ x.nl e2, e3⟩
theorem Bx.wdP (x : Bx Ps b l G0 H0 G H) : Wd Ps G H := x.wd.sub fun c hc => List.mem_cons_of_mem _ (List.mem_cons_of_mem _ hc)
end
section
variable {P : Program} {w : World} {K : PySem.W.Frag} {mg : Str → Option Value} {base : Heap} {Ps : List Addr} {H : Hp}
/-- what the top says of the law's helpers -/
structure RawL (K : PySem.W.Frag) (mg : Str → Option Value) : Prop where
  begun : DefR K mg "_law_begun" s_law_begun a_law_begun
  take : DefR K mg "_law_take" s_law_take a_law_take
  b_len : mg "len" = none
  b_list : mg "list" = none
  b_int : mg "int" = none
  b_bool : mg "bool" = none
  b_str : mg "str" = none
  b_tuple : mg "tuple" = none
  b_isinstance : mg "isinstance" = none
  b_range : mg "range" = none
def spBegun (K : PySem.W.Frag) : Sp := fun vs H Q _ => ∃ (a : Addr) (ns : List Int), vs = [.ref a] ∧ SqL K H a (ns.map V.int) ∧ ns.length ≤ 63 ∧ ∀ b l H', H b = none → H l = none → b ≠ l → Same H H' → BoxAt b l H' → Q (.ref b) H'
theorem c_begun (T : RawL K mg) : C8.Cal P w K mg base 1 "_law_begun" (spBegun K) [] := by
  refine T.begun.cal sc_law_begun (fun vs H Q E h => ?_) (fun f cdv A outer s H vs Q E hr h => ?_)
  · obtain ⟨a, ns, rfl, _⟩ := h
    rfl
  · obtain ⟨a, ns, rfl, ha, hl, q⟩ := h
    have b_len := T.b_len
    have b_list := T.b_list
    have b_int := T.b_int
    refine ⟨_, (pss_cons (ps_set (i := 1) sc_law_begun.nd rfl (Or.inl rfl) pe_int)
      (pss_cons (ps_for PassesOwn.never rfl (pi_list (pv 0)) (pg_name (i := 2) sc_law_begun.nd rfl (Or.inl rfl))
        (pss_one (ps_set (i := 1) sc_law_begun.nd rfl (Or.inl rfl) (pe_op op_modN (pe_op op_add (pe_op op_add (pe_op op_mul (pv 1) pe_int) (pe_op op_mul (pv 2) pe_int)) pe_int) pe_int))))
      (pss_one (ps_ret (pe_lst (pa_cons (pe_callTy call_list_of (by rfl) b_list (by decide +kernel) (pa_cons (pv 0) pa_nil)) (pa_cons (pe_op op_mul (pv 1) (pe_callTy call_int1 (by rfl) b_int (by decide +kernel) (pa_cons (pe_cmpR op_gt (pe_callB call_len_seq (by rfl) b_len (by decide +kernel) (pa_cons (pv 0) pa_nil)) pe_int (nomark _)) pa_nil))) pa_nil))))))), ?_⟩
    refine ⟨_, rfl, a, rfl, ⟨_, ha⟩, for_list (K := K) (a := a) (xs := ns.map V.int) (fun i σ H' => ∃ (z : Int) (v : Option V), σ = [some (.ref a), some (.int z), v] ∧ H' = H) ⟨0, none, rfl, rfl⟩ (fun i σ H' _ ⟨_, _, _, e⟩ => by rw [e]; exact ha) ?_ ?_⟩
    · rintro i x σ H' hx ⟨z, v, rfl, rfl⟩
      rw [List.getElem?_map] at hx
      obtain ⟨n, _, rfl⟩ := Option.map_eq_some_iff.mp hx
      refine ⟨_, rfl, _, _, rfl, rfl, .inr ⟨by decide, by decide⟩, _, rfl, _, _, rfl, rfl, .inr ⟨by decide, by decide⟩, _, _, rfl, rfl, _, _, rfl, rfl, _, _, rfl, rfl, by show (2147483647 : Int) ≠ 0; decide, ?_⟩
      exact ⟨_, _, rfl, rfl⟩
    · rintro σ H' ⟨z, v, rfl, rfl⟩
      refine ⟨_, rfl, a, _, rfl, .inl ha, fun l hl' => ?_⟩
      refine ⟨_, rfl, _, rfl, a, _, rfl, .inl ((same_new hl').seq ha), _, _, rfl, rfl, .inr ⟨_, rfl, _, _, rfl, rfl, .inr ?_, by show 2 ≤ sizeLine; decide, fun b hb => ?_⟩⟩
      · split <;> decide
      · have nlb : l ≠ b := ne_of_none upd_same hb
        rw [upd_ne (Ne.symm nlb)] at hb
        refine q b l _ hb hl' (Ne.symm nlb) (fun c o e => ?_) ⟨_, ns, upd_same, by rw [upd_ne nlb, upd_same], hl⟩
        rw [upd_ne (ne_of_none e hb), upd_ne (ne_of_none e hl')]
        exact e
theorem shaped_ints (ns : List Int) : SeqAt.shaped (.list (ns.map PyData.int)) = true := by
  unfold SeqAt.shaped
  rw [Bool.and_eq_true, decide_eq_true_eq]
  constructor
  · show PyData.canLay0 (.list (ns.map PyData.int)) = true
    induction ns with
    | nil => rfl
    | cons n r ih =>
      simp only [List.map_cons, PyData.canLay0, PyData.canLayAll0] at ih ⊢
      simp [ih]
  · have := depth_ints ns
    simp only [PyData.depth]
    omega
theorem eqv_nil (ns : List Int) : PyData.eqv (.list (ns.map PyData.int)) (.list []) = ns.isEmpty := by
  cases ns with
  | nil => rfl
  | cons n r => rfl
theorem ixN_zero {n : Nat} (h : 0 < n) : ixN n 0 = some 0 := by
  unfold ixN
  rw [if_pos (by omega), if_pos (by omega)]
  rfl
theorem fmod_range (x : Int) {m : Int} (h : 0 < m) : 0 ≤ x.fmod m ∧ x.fmod m < m := ⟨Int.fmod_nonneg_of_pos x h, Int.fmod_lt_of_pos x h⟩
/-- a number is drawn -/
def spTake (Ps : List Addr) : Sp := fun vs H Q _ => ∃ (b l : Addr) (m : Int) (G : Hp), vs = [.ref b, .int m] ∧ 0 < m ∧ m < 1000000 ∧ Bx Ps b l G H G H ∧ ∀ (r : Int) H', 0 ≤ r → r < m → Bx Ps b l G H G H' → Q (.int r) H'
theorem c_take (T : RawL K mg) : C8.Cal P w K mg base 1 "_law_take" (spTake Ps) [] := by
  refine T.take.cal sc_law_take (fun vs H Q E h => ?_) (fun f cdv A outer s H vs Q E hr h => ?_)
  · obtain ⟨b, l, m, G, rfl, _⟩ := h
    rfl
  · obtain ⟨b, l, m, G, rfl, m0, m1, B, q⟩ := h
    obtain ⟨z, ns, hb, hl, hn⟩ := B.box
    refine ⟨_, (pss_cons (ps_if (pt_cmpR (op_eqD hr.units) (pe_ix ix_seq (pv 0) pe_int (fun _ _ => rfl)) (pe_lst pa_nil) (nomark _))
        (pss_cons (ps_asg (pe_op op_modN (pe_op op_mul (pe_ix ix_seq (pv 0) pe_int (fun _ _ => rfl)) pe_int) pe_int) (pg_sub (pv 0) pe_int set_list))
      (pss_one (ps_ret (pe_op op_modN (pe_op op_fdivN (pe_ix ix_seq (pv 0) pe_int (fun _ _ => rfl)) pe_int) (pv 1)))))
        pss_nil)
      (pss_cons (ps_set (i := 2) sc_law_take.nd rfl (Or.inl rfl) (pe_ix ix_seq (pe_ix ix_seq (pv 0) pe_int (fun _ _ => rfl)) pe_int (fun _ _ => rfl)))
      (pss_cons (ps_asg (pe_op op_fdivN (pv 2) (pv 1)) (pg_sub (pe_ix ix_seq (pv 0) pe_int (fun _ _ => rfl)) pe_int set_list))
      (pss_cons (ps_if (PW.pt (pw_or (pt_cmpR op_eq (pe_ix ix_seq (pe_ix ix_seq (pv 0) pe_int (fun _ _ => rfl)) pe_int (fun _ _ => rfl)) pe_int (nomark _)) (pw_or1 (pt_cmpR op_eq (pe_ix ix_seq (pe_ix ix_seq (pv 0) pe_int (fun _ _ => rfl)) pe_int (fun _ _ => rfl)) (pe_un un_neg pe_int) (nomark _)))))
        (pss_one (ps_expr (pe_bm PySem.F.plainAttrs_list PySem.F.slot_list_pop PySem.F.type_list_pop mt_popAt (pe_ix ix_seq (pv 0) pe_int (fun _ _ => rfl)) (pa_cons pe_int pa_nil))))
        pss_nil)
      (pss_one (ps_ret (pe_op op_modN (pv 2) (pv 1)))))))), ?_⟩
    have ix0 : atI [V.ref l, V.int z] (((0 : Nat) : Nat) : Int) = some (V.ref l) := atI_nat rfl
    have ix1 : atI [V.ref l, V.int z] ((1 : Nat) : Int) = some (V.int z) := atI_nat rfl
    refine ⟨_, rfl, .inl ⟨b, _, _, _, rfl, rfl, SqL.of hb, ix0, Nat.zero_le _, fun e he => ?_⟩⟩
    have nbe : b ≠ e := B.neb he
    have nle : l ≠ e := B.nel he
    have hb1 : (upd H e (.lst [])) b = some (.lst [.ref l, .int z]) := by rw [upd_ne nbe]; exact hb
    have hl1 : (upd H e (.lst [])) l = some (.lst (ns.map V.int)) := by rw [upd_ne nle]; exact hl
    have B1 : Bx Ps b l G H G (upd H e (.lst [])) := B.new he
    refine ⟨_, _, .lst (SqL.of hl1) (dpAll_ints ns), .lst (SqL.of upd_same) .nil, shaped_ints ns, by decide +kernel, _, rfl, ?_⟩
    rw [eqv_nil]
    cases ns with
    | nil =>
      refine iteT ?_
      refine ⟨_, rfl, .inl ⟨b, _, _, _, rfl, rfl, SqL.of hb1, ix1, _, _, rfl, rfl, .inr ⟨by decide, by decide⟩, _, _, rfl, rfl, by show (2147483647 : Int) ≠ 0; decide, ?_⟩⟩
      refine ⟨_, rfl, b, _, _, 1, rfl, rfl, hb1, rfl, ?_⟩
      refine ⟨_, rfl, .inl ⟨b, _, _, _, rfl, rfl, SqL.of upd_same, atI_nat (j := 1) rfl, _, _, rfl, rfl, ⟨by decide, by decide⟩, _, rfl, _, _, rfl, rfl, by omega, ?_⟩⟩
      obtain ⟨r1, r2⟩ := fmod_range (((z * 48271).fmod 2147483647).fdiv 7) m0
      refine q _ _ r1 r2 ⟨B1.gr.pokeF bF, ⟨_, [], upd_same, by rw [upd_ne B.bl.symm]; exact hl1, by decide⟩, B1.tabs.upd B.nb, B.bl, B.nb, B.nl⟩
    | cons n r =>
      refine iteF ?_
      refine ⟨_, rfl, .inl ⟨b, _, _, _, rfl, rfl, SqL.of hb1, ix0, .inl ⟨l, _, _, _, rfl, rfl, SqL.of hl1, atI_nat (j := 0) rfl, ?_⟩⟩⟩
      refine ⟨_, rfl, _, rfl, _, _, rfl, rfl, ⟨by omega, by omega⟩, ?_⟩
      refine ⟨_, rfl, .inl ⟨b, _, _, _, rfl, rfl, SqL.of hb1, ix0, l, _, _, 0, rfl, rfl, hl1, ixN_zero (by simp), ?_⟩⟩
      have hb2 : ∀ o, (upd (upd H e (.lst [])) l o) b = some (.lst [.ref l, .int z]) := fun o => by rw [upd_ne B.bl]; exact hb1
      have B2 : ∀ k : Int, Bx Ps b l G H G (upd (upd H e (.lst [])) l (.lst ((k :: r).map V.int))) := fun k => ⟨B1.gr.pokeF lF, ⟨z, k :: r, hb2 _, upd_same, hn⟩, B1.tabs.upd B.nl, B.bl, B.nb, B.nl⟩
      obtain ⟨r1, r2⟩ := fmod_range n m0
      have fin : ∀ H', Bx Ps b l G H G H' → ∃ v, ([some (.ref b), some (.int m), some (.int n)] : L2.St)[2]? = some (some v) ∧ ∃ v2, ([some (.ref b), some (.int m), some (.int n)] : L2.St)[1]? = some (some v2) ∧ ∃ i j, v = .int i ∧ v2 = .int j ∧ j ≠ 0 ∧ Q (.int (i.fmod j)) H' := fun H' B' => ⟨_, rfl, _, rfl, n, m, rfl, rfl, by omega, q _ H' r1 r2 B'⟩
      have pop : ∀ k : Int, Bx Ps b l G H G (upd (upd (upd H e (.lst [])) l (.lst ((k :: r).map V.int))) l (.lst (r.map V.int))) := fun k => ⟨(B2 k).gr.pokeF lF, ⟨z, r, by rw [upd_ne B.bl]; exact hb2 _, upd_same, by simp at hn; omega⟩, (B2 k).tabs.upd B.nl, B.bl, B.nb, B.nl⟩
      refine ⟨_, rfl, .inl ⟨b, _, _, _, rfl, rfl, SqL.of (hb2 _), ix0, .inl ⟨l, _, _, _, rfl, rfl, SqL.of upd_same, atI_nat (j := 0) rfl, rfl, _, rfl, ?_⟩⟩⟩
      have dopop : ∀ k : Int, ∃ v, ([some (.ref b), some (.int m), some (.int n)] : L2.St)[0]? = some (some v) ∧ (∀ Q' : VK, (Q' (.ref l) (upd (upd H e (.lst [])) l (.lst ((k :: r).map V.int)))) → rIx K v (.int 0) (upd (upd H e (.lst [])) l (.lst ((k :: r).map V.int))) Q') := fun k => ⟨_, rfl, fun Q' h => .inl ⟨b, _, _, _, rfl, rfl, SqL.of (hb2 _), ix0, h⟩⟩
      by_cases h0 : n.fdiv m = 0
      · rw [decide_eq_true (show V.int (n.fdiv m) = V.int 0 by rw [h0])]
        refine iteT (iteT ?_)
        refine ⟨_, rfl, .inl ⟨b, _, _, _, rfl, rfl, SqL.of (hb2 _), ix0, .inl ⟨rfl, _, SqL.of upd_same⟩, l, _, _, 0, _, rfl, rfl, upd_same, by decide, by decide, (ixN_seq (ixN_zero (by simp))).1, rfl, ?_⟩⟩
        exact fin _ (pop _)
      · rw [decide_eq_false (show ¬ V.int (n.fdiv m) = V.int 0 from fun z => h0 (V.int.inj z))]
        refine iteF ?_
        refine ⟨_, rfl, .inl ⟨b, _, _, _, rfl, rfl, SqL.of (hb2 _), ix0, .inl ⟨l, _, _, _, rfl, rfl, SqL.of upd_same, atI_nat (j := 0) rfl, _, rfl, rfl, _, rfl, ?_⟩⟩⟩
        by_cases h1 : n.fdiv m = -1
        · rw [decide_eq_true (show V.int (n.fdiv m) = V.int (-1) by rw [h1])]
          refine iteT ?_
          refine ⟨_, rfl, .inl ⟨b, _, _, _, rfl, rfl, SqL.of (hb2 _), ix0, .inl ⟨rfl, _, SqL.of upd_same⟩, l, _, _, 0, _, rfl, rfl, upd_same, by decide, by decide, (ixN_seq (ixN_zero (by simp))).1, rfl, ?_⟩⟩
          exact fin _ (pop _)
        · rw [decide_eq_false (show ¬ V.int (n.fdiv m) = V.int (-1) from fun z => h1 (V.int.inj z))]
          refine iteF ?_
          exact fin _ (B2 _)
end
end Cr
set_option Elab.async false
set_option linter.all false
set_option maxRecDepth 100000
set_option maxHeartbeats 4000000

namespace Cr
open PySem PySem.Spec PyProof.Rows L2
/-! ### two things of the same data are told alike -/
def shp : Nat → PyData → Prop
  | _, .none => True
  | _, .bool _ => True
  | _, .int _ => True
  | _, .str _ => True
  | n + 1, .list ds => ds.length ≤ 1000 ∧ ∀ d ∈ ds, shp n d
  | n + 1, .tuple ds => ds.length ≤ 1000 ∧ ∀ d ∈ ds, shp n d
  | _, _ => False
def spAlike (K : PySem.W.Frag) : Nat → Sp
  | 0 => fun _ _ _ _ => False
  | n + 1 => fun vs H Q _ => ∃ (x y : V) (d : PyData), vs = [x, y] ∧ Dp K H x d ∧ Dp K H y d ∧ shp n d ∧ Q (.bl true) H
section
variable {K : PySem.W.Frag} {H : Hp}
theorem sqL_ty {a : Addr} {xs : List V} (h : SqL K H a xs) : TyX K H (.ref a) (.type "list") := by
  rcases h with (h | ⟨o, h⟩) | ⟨o, vs, n, h, hc, _⟩
  · exact .base (.lst h)
  · exact .base (.frz h)
  · exact .kList h hc
theorem sqT_ty {a : Addr} {xs : List V} (h : SqT K H a xs) : TyX K H (.ref a) (.type "tuple") := by
  rcases h with (h | ⟨o, h⟩) | ⟨o, vs, n, h, hc, _⟩
  · exact .base (.tup h)
  · exact .fTuple h
  · exact .kTuple h hc
theorem dpAll_len : ∀ {xs : List V} {ds : List PyData}, DpAll K H xs ds → xs.length = ds.length
  | _, _, .nil => rfl
  | _, _, .cons _ r => congrArg (· + 1) (dpAll_len r)
theorem dpAll_get : ∀ {xs : List V} {ds : List PyData} {i : Nat} {d : PyData}, DpAll K H xs ds → ds[i]? = some d → ∃ x, xs[i]? = some x ∧ Dp K H x d
  | _, _, _, _, .nil, e => by simp at e
  | _, _, 0, _, .cons r _, e => by simp at e; subst e; exact ⟨_, rfl, r⟩
  | _, _, i + 1, d, .cons _ t, e => by
    obtain ⟨y, h1, h2⟩ := dpAll_get (i := i) (d := d) t (by simpa using e)
    exact ⟨y, by simpa using h1, h2⟩
end
end Cr
set_option Elab.async false
set_option linter.all false
set_option maxRecDepth 100000
set_option maxHeartbeats 4000000

namespace Cr
open PySem PySem.Spec PyProof.Rows L2
abbrev s_law_stay : Stmt := top 32
abbrev n_law_stay : List Str := ["_law_box", "_law_hours", "_law_rooms", "_law_room", "_law_begin", "_law_end", "_law_most", "_law_use_here"]
abbrev a_law_stay : List Str := ["_law_box", "_law_hours", "_law_rooms"]
theorem sc_law_stay : FnScope n_law_stay a_law_stay (defScope s_law_stay) := ⟨rfl, rfl, rfl, by decide +kernel, rfl, by decide +kernel, by decide +kernel⟩
abbrev s_law_house : Stmt := top 33
abbrev n_law_house : List Str := ["_law_box", "_law_hours", "_law_rooms", "_law_k", "_law_most", "_law_air", "_law_limit", "_law_price", "_law_doors", "_law_one", "_law_other", "_law_stays"]
abbrev a_law_house : List Str := ["_law_box"]
theorem sc_law_house : FnScope n_law_house a_law_house (defScope s_law_house) := ⟨rfl, rfl, rfl, by decide +kernel, rfl, by decide +kernel, by decide +kernel⟩
/-! ### draws -/
theorem atI_mem {α : Type} {xs : List α} {i : Int} (h0 : 0 ≤ i) (h1 : i < (xs.length : Int)) : ∃ v, atI xs i = some v ∧ v ∈ xs := by
  obtain ⟨n, rfl⟩ : ∃ n : Nat, i = (n : Int) := ⟨i.toNat, by omega⟩
  have hi : n < xs.length := by omega
  exact ⟨xs[n], atI_nat (List.getElem?_eq_getElem hi), List.getElem_mem hi⟩
def rInt1 : List V → Hp → VK → Prop := fun xs H Q => (∃ i, xs = [.int i] ∧ Q (.int i) H) ∨ ∃ k, xs = [.bl k] ∧ Q (.int (if k then 1 else 0)) H
section
variable {Ps : List Addr} {b l p : Addr} {G0 H0 G H G1 H1 : Hp} {K : PySem.W.Frag} {m : Int} {Q : VK} {E : XK}
/-- [x, y][int(take(m) == 1)] -/
theorem pick2 {σ : L2.St} {x y : V} (hs : σ[0]? = some (some (.ref b))) (B : Bx Ps b l G0 H0 G H) (h0 : 0 < m) (h1 : m < 1000000) (hp : G p = some (.lst [x, y])) (k : ∀ v H', (v = x ∨ v = y) → Bx Ps b l G H G H' → Q v H') :
    tCB rInt1 (tCons (tOp rEq (tCall (spTake Ps) [] C8.E0 (tCons (tVar 0) (tCons (tC (.int m)) tNil))) (tC (.int 1))) tNil) σ H (fun z H2 => rIx K (.ref p) z H2 Q) := by
  refine ⟨_, hs, b, l, m, G, rfl, h0, h1, B.start, fun r H' _ _ B' => ?_⟩
  have hl : SqL K H' p [x, y] := SqL.of (B'.wd.same _ _ hp)
  refine ⟨rfl, .inr ⟨_, rfl, ?_⟩⟩
  by_cases hr : V.int r = V.int 1
  · rw [decide_eq_true hr]
    exact .inl ⟨p, _, _, y, rfl, rfl, hl, atI_nat (j := 1) rfl, k y H' (.inr rfl) B'⟩
  · rw [decide_eq_false hr]
    exact .inl ⟨p, _, _, x, rfl, rfl, hl, atI_nat (j := 0) rfl, k x H' (.inl rfl) B'⟩
end
theorem numOk_of {n : Int} (h0 : 0 ≤ n) (h1 : n ≤ 999) : numOk n = true := by
  unfold numOk
  rw [decide_eq_true h0, decide_eq_true h1]
  rfl
theorem numOk_inv {n : Int} (h : numOk n = true) : 0 ≤ n ∧ n ≤ 999 := by
  unfold numOk at h
  simpa using h
theorem roomOk_inv {a m l p : Int} (h : roomOk [a, m, l, p] = true) : (0 ≤ a ∧ a ≤ 999) ∧ (0 ≤ m ∧ m ≤ 999) ∧ (0 ≤ l ∧ l ≤ 999) ∧ (0 ≤ p ∧ p ≤ 999) ∧ a ≤ m := by
  replace h : (([a, m, l, p] : List Int).all numOk && decide (a ≤ m)) = true := h
  rw [Bool.and_eq_true] at h
  obtain ⟨h1, h2⟩ := h
  have z := List.all_eq_true.mp h1
  exact ⟨numOk_inv (z a (by simp)), numOk_inv (z m (by simp)), numOk_inv (z l (by simp)), numOk_inv (z p (by simp)), of_decide_eq_true h2⟩
theorem roomOk_of {a m l p : Int} (ha : 0 ≤ a) (h : a ≤ m) (hm : m ≤ 999) (hl : 0 ≤ l ∧ l ≤ 999) (hp : 0 ≤ p ∧ p ≤ 999) : roomOk [a, m, l, p] = true := by
  show (([a, m, l, p] : List Int).all numOk && decide (a ≤ m)) = true
  rw [decide_eq_true h, Bool.and_true, List.all_eq_true]
  intro x hx
  simp at hx
  rcases hx with rfl | rfl | rfl | rfl <;> exact numOk_of (by omega) (by omega)
theorem doorOk_of {n : Nat} {o t l : Int} (ho : 0 ≤ o ∧ o < n) (ht : 0 ≤ t ∧ t < n) (hn : (n : Int) ≤ 999) (hne : o ≠ t) (hl : 0 ≤ l ∧ l ≤ 999) : doorOk n [o, t, l] = true := by
  show (([o, t, l] : List Int).all numOk && (!decide (o = t) && decide (max o t < (n : Int)))) = true
  rw [Bool.and_eq_true]
  constructor
  · rw [List.all_eq_true]
    intro x hx
    simp at hx
    rcases hx with rfl | rfl | rfl <;> exact numOk_of (by omega) (by omega)
  · simp only [decide_eq_false hne, Bool.not_false, Bool.true_and]
    exact decide_eq_true (by omega)
theorem mostOf_at {rs : List (List Int)} {i : Int} {a m l p : Int} (h0 : 0 ≤ i) (e : rs[i.toNat]? = some [a, m, l, p]) : mostOf rs i = m := by
  unfold mostOf
  rw [show rs.getD i.toNat [] = [a, m, l, p] by rw [List.getD_eq_getElem?_getD, e]; rfl]
  rfl
theorem stayOk_of {h : Int} {rs : List (List Int)} {r b e u n : Int} (hr : 0 ≤ r) (hr2 : r < (rs.length : Int)) (hl : rs.length ≤ 6) (hb : 0 ≤ b) (hbe : b < e) (heh : e ≤ h) (hh : h ≤ 12) (hu : 0 ≤ u ∧ u ≤ 999) (hn : 0 ≤ n) (hm : n ≤ mostOf rs r) (hm2 : mostOf rs r ≤ 999) : stayOk h rs [r, b, e, u, n] = true := by
  show (([r, b, e, u, n] : List Int).all numOk && (decide (r < (rs.length : Int)) && (decide (b < e) && decide (e ≤ h) && decide (n ≤ mostOf rs r)))) = true
  rw [decide_eq_true hr2, decide_eq_true hbe, decide_eq_true heh, decide_eq_true hm, List.all_eq_true.mpr]
  · rfl
  · intro x hx
    simp at hx
    rcases hx with rfl | rfl | rfl | rfl | rfl <;> exact numOk_of (by omega) (by omega)
section
variable {P : Program} {w : World} {K : PySem.W.Frag} {mg : Str → Option Value} {base : Heap} {Ps : List Addr} {H : Hp}
structure RawH (K : PySem.W.Frag) (mg : Str → Option Value) : Prop extends RawL K mg where
  lstay : DefR K mg "_law_stay" s_law_stay a_law_stay
  lhouse : DefR K mg "_law_house" s_law_house a_law_house
  b_min : mg "min" = none
def spLStay (K : PySem.W.Frag) (Ps : List Addr) : Sp := fun vs H Q _ => ∃ (b l : Addr) (h : Int) (ra : Addr) (G : Hp) (rs : List (List Int)), vs = [.ref b, .int h, .ref ra] ∧ Bx Ps b l G H G H ∧ 1 ≤ h ∧ h ≤ 12 ∧ Rows K G ra rs ∧ 1 ≤ rs.length ∧ rs.length ≤ 6 ∧ Wide 4 rs ∧ (∀ r ∈ rs, roomOk r = true) ∧
  ∀ t ns G' H', Bx Ps b l G H G' H' → RowT K G' (.ref t) ns → ns.length = 5 → stayOk h rs ns = true → Q (.ref t) H'
theorem c_lstay (T : RawH K mg) : C8.Cal P w K mg base 2 "_law_stay" (spLStay K Ps) [] := by
  refine T.lstay.cal sc_law_stay (fun vs H Q E h => ?_) (fun f cdv A outer s H vs Q E hr h => ?_)
  · obtain ⟨b, l, h, ra, G, rs, rfl, _⟩ := h
    rfl
  · obtain ⟨b, l, h, ra, G, rs, rfl, B, h1, h12, hR, l1, l6, w4, rok, q⟩ := h
    obtain ⟨xs, hq, hrv⟩ := hR
    have hlen : xs.length = rs.length := Paired.length hrv
    have b_len := T.b_len
    have b_min := T.b_min
    have k__law_take : C8.Cal P w K mg base 1 "_law_take" (spTake Ps) [] := c_take T.toRawL
    refine ⟨_, (pss_cons (ps_set (i := 3) sc_law_stay.nd rfl (Or.inl rfl) (C8.pe_c k__law_take hr (by decide) rfl (pa_cons (pv 0) (pa_cons (pe_callB call_len_seq (by rfl) b_len (by decide +kernel) (pa_cons (pv 2) pa_nil)) pa_nil))))
      (pss_cons (ps_set (i := 4) sc_law_stay.nd rfl (Or.inl rfl) (C8.pe_c k__law_take hr (by decide) rfl (pa_cons (pv 0) (pa_cons (pv 1) pa_nil))))
      (pss_cons (ps_set (i := 5) sc_law_stay.nd rfl (Or.inl rfl) (pe_op op_add (pe_op op_add (pv 4) pe_int) (C8.pe_c k__law_take hr (by decide) rfl (pa_cons (pv 0) (pa_cons (pe_op op_sub (pv 1) (pv 4)) pa_nil)))))
      (pss_cons (ps_set (i := 6) sc_law_stay.nd rfl (Or.inl rfl) (pe_callB (call_min2 rfl) (by rfl) b_min (by decide +kernel) (pa_cons (pe_ix ix_seq (pe_ix ix_seq (pv 2) (pv 3) (fun _ _ => rfl)) pe_int (fun _ _ => rfl)) (pa_cons (pe_ix ix_seq (pe_lst (pa_cons pe_int (pa_cons pe_int (pa_cons pe_int pa_nil)))) (C8.pe_c k__law_take hr (by decide) rfl (pa_cons (pv 0) (pa_cons pe_int pa_nil))) (fun _ _ => rfl)) pa_nil))))
      (pss_cons (ps_set (i := 7) sc_law_stay.nd rfl (Or.inl rfl) (C8.pe_c k__law_take hr (by decide) rfl (pa_cons (pv 0) (pa_cons (pe_ix ix_seq (pe_lst (pa_cons pe_int (pa_cons pe_int pa_nil))) (C8.pe_c k__law_take hr (by decide) rfl (pa_cons (pv 0) (pa_cons pe_int pa_nil))) (fun _ _ => rfl)) pa_nil))))
      (pss_cons (ps_if (pt_cmpR op_eq (C8.pe_c k__law_take hr (by decide) rfl (pa_cons (pv 0) (pa_cons pe_int pa_nil))) pe_int (nomark _))
        (pss_one (ps_set (i := 7) sc_law_stay.nd rfl (Or.inl rfl) (C8.pe_c k__law_take hr (by decide) rfl (pa_cons (pv 0) (pa_cons pe_int pa_nil)))))
        pss_nil)
      (pss_one (ps_ret (pe_tup (pa_cons (pv 3) (pa_cons (pv 4) (pa_cons (pv 5) (pa_cons (pv 7) (pa_cons (C8.pe_c k__law_take hr (by decide) rfl (pa_cons (pv 0) (pa_cons (pe_op op_add (pv 6) pe_int) pa_nil))) pa_nil)))))))))))))), ?_⟩
    -- room, begin, end
    refine ⟨_, rfl, _, rfl, ra, xs, rfl, .inl (B.wd.same.seq hq), b, l, _, _, rfl, by omega, by omega, B.start, fun r1 H1 a1 c1 B1 => ?_⟩
    replace B1 := B.trans B1
    refine ⟨_, rfl, _, rfl, b, l, _, _, rfl, by omega, by omega, B1.start, fun r2 H2 a2 c2 B2 => ?_⟩
    replace B2 := B1.trans B2
    refine ⟨_, rfl, _, _, rfl, rfl, _, rfl, _, rfl, _, rfl, _, _, rfl, rfl, b, l, _, _, rfl, by omega, by omega, B2.start, fun r3 H3 a3 c3 B3 => ⟨_, _, rfl, rfl, ?_⟩⟩
    replace B3 := B2.trans B3
    -- most
    have hi : r1.toNat < rs.length := by omega
    have hg : rs[r1.toNat]? = some rs[r1.toNat] := List.getElem?_eq_getElem hi
    obtain ⟨y, hy, ty, rfl, hty⟩ := paired_get' hrv hg
    obtain ⟨ra', m, rl, rp, em⟩ := len4 (w4 _ (List.getElem_mem hi))
    have hok := rok _ (List.getElem_mem hi)
    rw [em] at hok hty hg
    obtain ⟨_, ⟨m0, m9⟩, _⟩ := roomOk_inv hok
    have hmost := mostOf_at a1 hg
    refine ⟨_, rfl, _, rfl, .inl ⟨ra, xs, r1, .ref ty, rfl, rfl, B3.wd.same.seq hq, ?_, .inr (.inl ⟨ty, _, _, .int m, rfl, rfl, Same.tup B3.wd.same hty, atI_nat (j := 1) rfl, ?_⟩)⟩⟩
    · rw [show r1 = ((r1.toNat : Nat) : Int) by omega]
      exact atI_nat hy
    refine ⟨by show 3 ≤ sizeLine; decide, fun p hp => ?_⟩
    have B4 := B3.alloc (o := .lst [.int 5, .int 12, .int 999]) hp
    refine ⟨_, rfl, b, l, _, _, rfl, by omega, by omega, B4.start, fun r4 H4 a4 c4 B5 => ?_⟩
    replace B5 := B4.trans B5
    obtain ⟨v, hv, hvm⟩ := atI_mem (xs := [V.int 5, V.int 12, V.int 999]) (i := r4) a4 (by simpa using c4)
    obtain ⟨k, rfl, hk⟩ : ∃ k : Int, v = .int k ∧ 5 ≤ k := by
      simp at hvm
      rcases hvm with rfl | rfl | rfl
      · exact ⟨_, rfl, by decide⟩
      · exact ⟨_, rfl, by decide⟩
      · exact ⟨_, rfl, by decide⟩
    refine .inl ⟨p, _, _, _, rfl, rfl, SqL.of (B5.wd.same _ _ upd_same), hv, _, _, rfl, ?_⟩
    have hmo : 0 ≤ (if k < m then k else m) ∧ (if k < m then k else m) ≤ m := by
      by_cases e : k < m
      · rw [if_pos e]; omega
      · rw [if_neg e]; omega
    generalize (if k < m then k else m) = mo at hmo
    -- use
    refine ⟨_, rfl, by show 2 ≤ sizeLine; decide, fun p2 hp2 => ?_⟩
    have B6 := B5.alloc (o := .lst [.int 4, .int 10]) hp2
    refine ⟨_, rfl, b, l, _, _, rfl, by omega, by omega, B6.start, fun r5 H5 a5 c5 B7 => ?_⟩
    replace B7 := B6.trans B7
    obtain ⟨v, hv, hvm⟩ := atI_mem (xs := [V.int 4, V.int 10]) (i := r5) a5 (by simpa using c5)
    obtain ⟨k2, rfl, hk2⟩ : ∃ k : Int, v = .int k ∧ 4 ≤ k ∧ k ≤ 10 := by
      simp at hvm
      rcases hvm with rfl | rfl
      · exact ⟨_, rfl, by decide, by decide⟩
      · exact ⟨_, rfl, by decide, by decide⟩
    refine .inl ⟨p2, _, _, _, rfl, rfl, SqL.of (B7.wd.same _ _ upd_same), hv, b, l, _, _, rfl, by omega, by omega, B7.start, fun r6 H6 a6 c6 B8 => ?_⟩
    replace B8 := B7.trans B8
    refine ⟨_, rfl, b, l, _, _, rfl, by omega, by omega, B8.start, fun r7 H7 a7 c7 B9 => ⟨rfl, _, rfl, ?_⟩⟩
    replace B9 := B8.trans B9
    -- the end, from any use
    have fin : ∀ (u : Int) G' H', 0 ≤ u ∧ u ≤ 999 → Bx Ps b l G H G' H' → Same G G' → ∃ v, ([some (.ref b), some (.int h), some (.ref ra), some (.int r1), some (.int r2), some (.int (r2 + 1 + r3)), some (.int mo), some (.int u)] : L2.St)[3]? = some (some v) ∧
        (tCons (tVar 4) (tCons (tVar 5) (tCons (tVar 7) (tCons (tCall (spTake Ps) [] C8.E0 (tCons (tVar 0) (tCons (tOp (rI0 fun i j => .int (i + j)) (tVar 6) (tC (.int 1))) tNil))) tNil)))) [some (.ref b), some (.int h), some (.ref ra), some (.int r1), some (.int r2), some (.int (r2 + 1 + r3)), some (.int mo), some (.int u)] H' fun xs H1 => (v :: xs).length ≤ sizeLine ∧ ∀ p, H1 p = none → Q (.ref p) (upd H1 p (.tup (v :: xs))) := fun u G' H' hu B' _ => by
      refine ⟨_, rfl, _, rfl, _, rfl, _, rfl, _, rfl, _, rfl, _, _, rfl, rfl, b, l, _, _, rfl, by omega, by omega, B'.start, fun r8 H8 a8 c8 B10 => ⟨by show 5 ≤ sizeLine; decide, fun t ht => ?_⟩⟩
      refine q t [r1, r2, r2 + 1 + r3, u, r8] _ _ ((B'.trans B10).alloc ht) ⟨t, rfl, SqT.of upd_same⟩ rfl ?_
      exact stayOk_of a1 (by omega) l6 a2 (by omega) (by omega) h12 hu a8 (by omega) (by omega)
    refine ite2 (fun _ => ?_) (fun _ => ?_)
    · exact ⟨_, rfl, b, l, _, _, rfl, by omega, by omega, B9.start, fun r9 H9 a9 c9 B11 => fin r9 _ H9 (by omega) (B9.trans B11) B9.gr.up⟩
    · exact fin r6 _ H7 (by omega) B9 B9.gr.up
end
end Cr
set_option Elab.async false
set_option linter.all false
set_option maxRecDepth 100000
set_option maxHeartbeats 4000000

namespace Cr
open PySem PySem.Spec PyProof.Rows L2
/-- a list of rows that is the law's own -/
def RowsL (K : PySem.W.Frag) (G : Hp) (a : Addr) (rs : List (List Int)) : Prop := ∃ xs, G a = some (.lst xs) ∧ RowsV K G xs rs
theorem RowsL.rows {K : PySem.W.Frag} {G : Hp} {a : Addr} {rs : List (List Int)} (h : RowsL K G a rs) : Rows K G a rs := let ⟨xs, e, r⟩ := h; ⟨xs, SqL.of e, r⟩
theorem RowsL.same {K : PySem.W.Frag} {G G' : Hp} {a : Addr} {rs : List (List Int)} (s : Same G G') (h : RowsL K G a rs) : RowsL K G' a rs := let ⟨xs, e, r⟩ := h; ⟨xs, s _ _ e, rowsV_same s r⟩
/-! ### a list of rows under way: not known until it is done -/
structure Opn (K : PySem.W.Frag) (Ps : List Addr) (b l : Addr) (G0 H0 : Hp) (p : Addr) (xs : List V) (rs : List (List Int)) (G H : Hp) : Prop where
  bx : Bx Ps b l G0 H0 G H
  h0 : H0 p = none
  at_ : H p = some (.lst xs)
  g : G p = none
  rv : RowsV K G xs rs
section
variable {K : PySem.W.Frag} {Ps : List Addr} {b l p : Addr} {G0 H0 G H G1 H1 : Hp} {xs : List V} {rs : List (List Int)} {v : V} {ns : List Int}
theorem Opn.begin (B : Bx Ps b l G0 H0 G H) (hp : H p = none) : Opn K Ps b l G H p [] [] G (upd H p (.lst [])) :=
  ⟨B.start.new hp, hp, upd_same, B.wd.free hp, .nil⟩
theorem Opn.start (o : Opn K Ps b l G0 H0 p xs rs G H) : Bx Ps b l G0 H0 G0 H0 → b ≠ p ∧ l ≠ p ∧ p ∉ Ps := fun s => s.apart o.h0
theorem Opn.nin (o : Opn K Ps b l G0 H0 p xs rs G H) (s : Bx Ps b l G0 H0 G0 H0) : p ∉ b :: l :: Ps := fun h => by
  obtain ⟨a1, a2, a3⟩ := s.apart o.h0
  rcases List.mem_cons.mp h with z | h
  · exact a1 z.symm
  rcases List.mem_cons.mp h with z | h
  · exact a2 z.symm
  · exact a3 h
theorem Opn.step (o : Opn K Ps b l G0 H0 p xs rs G H) (s : Bx Ps b l G0 H0 G0 H0) (y : Bx Ps b l G H G1 H1) : Opn K Ps b l G0 H0 p xs rs G1 H1 :=
  ⟨o.bx.trans y, o.h0, y.gr.keep _ _ (o.nin s) o.at_, y.gr.fresh p o.g (by rw [o.at_]; exact fun z => nomatch z), rowsV_same y.gr.up o.rv⟩
theorem Opn.push (o : Opn K Ps b l G0 H0 p xs rs G H) (s : Bx Ps b l G0 H0 G0 H0) (r : RowT K G v ns) : Opn K Ps b l G0 H0 p (xs ++ [v]) (rs ++ [ns]) G (upd H p (.lst (xs ++ [v]))) :=
  ⟨o.bx.poke s o.h0 o.g, o.h0, upd_same, o.g, paired_snoc o.rv r⟩
theorem Opn.done (o : Opn K Ps b l G0 H0 p xs rs G H) (s : Bx Ps b l G0 H0 G0 H0) : Bx Ps b l G0 H0 (upd G p (.lst xs)) H ∧ RowsL K (upd G p (.lst xs)) p rs :=
  ⟨o.bx.close s o.h0 o.at_ o.g, xs, upd_same, rowsV_same (same_new o.g) o.rv⟩
theorem Opn.len (o : Opn K Ps b l G0 H0 p xs rs G H) : xs.length = rs.length := Paired.length o.rv
end
theorem seq_if {c : TT} {t u rest : TS} {D : Ends} {σ : L2.St} {H : Hp} {i : Nat} {v : V} (Pv : L2.St → Hp → Prop) (hd : ∀ σ H, Pv σ H → rest D σ H) (h : ∀ κ : L2.St → Hp → Prop, (∀ σ H, Pv σ H → κ σ H) → tIfS c t u { D with nx := κ } (σ.set i (some v)) H) : gName i v σ H (tSeq (tIfS c t u) rest D) := h (rest D) hd
theorem other_ne {a t n : Int} (a0 : 0 ≤ a) (an : a < n) (t0 : 0 ≤ t) (tn : t < n - 1) : (0 ≤ (a + 1 + t).fmod n ∧ (a + 1 + t).fmod n < n) ∧ a ≠ (a + 1 + t).fmod n := by
  have h := fmod_range (a + 1 + t) (show 0 < n by omega)
  refine ⟨h, ?_⟩
  rw [Int.fmod_eq_emod_of_nonneg _ (by omega)]
  by_cases e : a + 1 + t < n
  · rw [Int.emod_eq_of_lt (by omega) e]; omega
  · have e2 : (a + 1 + t) % n = a + 1 + t - n := by
      rw [show a + 1 + t = (a + 1 + t - n) + n by omega, Int.add_emod_right, Int.emod_eq_of_lt (by omega) (by omega)]; omega
    rw [e2]; omega
/-- the rows of a house -/
structure GoodH (h : Int) (rs ds ss : List (List Int)) : Prop where
  h1 : 1 ≤ h
  h12 : h ≤ 12
  r1 : 1 ≤ rs.length
  r6 : rs.length ≤ 6
  d8 : ds.length ≤ 8
  s20 : ss.length ≤ 20
  w4 : Wide 4 rs
  w3 : Wide 3 ds
  w5 : Wide 5 ss
  rok : ∀ r ∈ rs, roomOk r = true
  dok : ∀ d ∈ ds, doorOk rs.length d = true
  sok : ∀ s ∈ ss, stayOk h rs s = true
structure RowsAt (K : PySem.W.Frag) (G : Hp) (t : Addr) (h : Int) (ra da sa : Addr) (rs ds ss : List (List Int)) : Prop where
  t : SqT K G t [.int h, .ref ra, .ref da, .ref sa]
  r : RowsL K G ra rs
  d : RowsL K G da ds
  s : RowsL K G sa ss
theorem firstNot_all {ok : List Int → Bool} {rs : List (List Int)} (h : ∀ r ∈ rs, ok r = true) : firstNot ok rs = none :=
  firstNot_none fun j r _ e => h r (List.mem_of_getElem? e)
theorem GoodH.bad {h : Int} {rs ds ss : List (List Int)} (g : GoodH h rs ds ss) : houseBad h rs ds ss = none := by
  have hc : countBad h rs ds ss = none := by
    have := g.h1; have := g.h12; have := g.r1; have := g.r6; have := g.d8; have := g.s20
    unfold countBad
    rw [if_neg (by omega), if_neg (by omega), if_neg (by omega), if_neg (by omega)]
  unfold houseBad
  rw [hc]
  show partBad h rs ds ss = none
  unfold partBad
  rw [firstNot_all g.rok, firstNot_all g.dok, firstNot_all g.sok]
section
variable {P : Program} {w : World} {K : PySem.W.Frag} {mg : Str → Option Value} {base : Heap} {Ps : List Addr} {H : Hp}
def spLHouse (K : PySem.W.Frag) (Ps : List Addr) : Sp := fun vs H Q _ => ∃ (b l : Addr) (G : Hp), vs = [.ref b] ∧ Bx Ps b l G H G H ∧
  ∀ t h ra da sa rs ds ss G' H', Bx Ps b l G H G' H' → RowsAt K G' t h ra da sa rs ds ss → GoodH h rs ds ss → Q (.ref t) H'
theorem c_lhouse (T : RawH K mg) : C8.Cal P w K mg base 3 "_law_house" (spLHouse K Ps) [] := by
  refine T.lhouse.cal sc_law_house (fun vs H Q E h => ?_) (fun f cdv A outer s H vs Q E hr h => ?_)
  · obtain ⟨b, l, G, rfl, _⟩ := h
    rfl
  · obtain ⟨b, l, G, rfl, B, q⟩ := h
    have b_len := T.b_len
    have b_min := T.b_min
    have b_int := T.b_int
    have b_range := T.b_range
    have k__law_take : C8.Cal P w K mg base 1 "_law_take" (spTake Ps) [] := c_take T.toRawL
    have k__law_stay : C8.Cal P w K mg base 2 "_law_stay" (spLStay K Ps) [] := c_lstay T
    refine ⟨_, (pss_cons (ps_set (i := 1) sc_law_house.nd rfl (Or.inl rfl) (pe_op op_add pe_int (C8.pe_c k__law_take hr (by decide) rfl (pa_cons (pv 0) (pa_cons (pe_ix ix_seq (pe_lst (pa_cons pe_int (pa_cons pe_int pa_nil))) (pe_callTy call_int1 (by rfl) b_int (by decide +kernel) (pa_cons (pe_cmpR op_eq (C8.pe_c k__law_take hr (by decide) rfl (pa_cons (pv 0) (pa_cons pe_int pa_nil))) pe_int (nomark _)) pa_nil)) (fun _ _ => rfl)) pa_nil)))))
      (pss_cons (ps_set (i := 2) sc_law_house.nd rfl (Or.inl rfl) (pe_lst pa_nil))
      (pss_cons (ps_for PassesOwn.never rfl (pi_range1 (by rfl) b_range (pa_cons (pe_op op_add pe_int (C8.pe_c k__law_take hr (by decide) rfl (pa_cons (pv 0) (pa_cons (pe_ix ix_seq (pe_lst (pa_cons pe_int (pa_cons pe_int pa_nil))) (pe_callTy call_int1 (by rfl) b_int (by decide +kernel) (pa_cons (pe_cmpR op_eq (C8.pe_c k__law_take hr (by decide) rfl (pa_cons (pv 0) (pa_cons pe_int pa_nil))) pe_int (nomark _)) pa_nil)) (fun _ _ => rfl)) pa_nil)))) pa_nil)) (pg_name (i := 3) sc_law_house.nd rfl (Or.inl rfl))
        (pss_cons (ps_set (i := 4) sc_law_house.nd rfl (Or.inl rfl) (pe_ix ix_seq (pe_lst (pa_cons (C8.pe_c k__law_take hr (by decide) rfl (pa_cons (pv 0) (pa_cons pe_int pa_nil))) (pa_cons (C8.pe_c k__law_take hr (by decide) rfl (pa_cons (pv 0) (pa_cons pe_int pa_nil))) pa_nil))) (pe_callTy call_int1 (by rfl) b_int (by decide +kernel) (pa_cons (pe_cmpR op_eq (C8.pe_c k__law_take hr (by decide) rfl (pa_cons (pv 0) (pa_cons pe_int pa_nil))) pe_int (nomark _)) pa_nil)) (fun _ _ => rfl)))
      (pss_cons (ps_set (i := 5) sc_law_house.nd rfl (Or.inl rfl) (pe_ix ix_seq (pe_lst (pa_cons (pe_callB (call_min2 rfl) (by rfl) b_min (by decide +kernel) (pa_cons (pv 4) (pa_cons (C8.pe_c k__law_take hr (by decide) rfl (pa_cons (pv 0) (pa_cons pe_int pa_nil))) pa_nil))) (pa_cons (C8.pe_c k__law_take hr (by decide) rfl (pa_cons (pv 0) (pa_cons (pe_op op_add (pv 4) pe_int) pa_nil))) pa_nil))) (pe_callTy call_int1 (by rfl) b_int (by decide +kernel) (pa_cons (pe_cmpR op_eq (C8.pe_c k__law_take hr (by decide) rfl (pa_cons (pv 0) (pa_cons pe_int pa_nil))) pe_int (nomark _)) pa_nil)) (fun _ _ => rfl)))
      (pss_cons (ps_set (i := 6) sc_law_house.nd rfl (Or.inl rfl) (pe_ix ix_seq (pe_lst (pa_cons (C8.pe_c k__law_take hr (by decide) rfl (pa_cons (pv 0) (pa_cons pe_int pa_nil))) (pa_cons (C8.pe_c k__law_take hr (by decide) rfl (pa_cons (pv 0) (pa_cons pe_int pa_nil))) pa_nil))) (pe_callTy call_int1 (by rfl) b_int (by decide +kernel) (pa_cons (pe_cmpR op_eq (C8.pe_c k__law_take hr (by decide) rfl (pa_cons (pv 0) (pa_cons pe_int pa_nil))) pe_int (nomark _)) pa_nil)) (fun _ _ => rfl)))
      (pss_cons (ps_set (i := 7) sc_law_house.nd rfl (Or.inl rfl) (pe_ix ix_seq (pe_lst (pa_cons (C8.pe_c k__law_take hr (by decide) rfl (pa_cons (pv 0) (pa_cons pe_int pa_nil))) (pa_cons (C8.pe_c k__law_take hr (by decide) rfl (pa_cons (pv 0) (pa_cons pe_int pa_nil))) pa_nil))) (pe_callTy call_int1 (by rfl) b_int (by decide +kernel) (pa_cons (pe_cmpR op_eq (C8.pe_c k__law_take hr (by decide) rfl (pa_cons (pv 0) (pa_cons pe_int pa_nil))) pe_int (nomark _)) pa_nil)) (fun _ _ => rfl)))
      (pss_one (ps_expr (pe_bm PySem.F.plainAttrs_list PySem.F.slot_list_append PySem.F.type_list_append mt_append (pv 2) (pa_cons (pe_tup (pa_cons (pv 5) (pa_cons (pv 4) (pa_cons (pv 6) (pa_cons (pv 7) pa_nil))))) pa_nil)))))))))
      (pss_cons (ps_set (i := 8) sc_law_house.nd rfl (Or.inl rfl) (pe_lst pa_nil))
      (pss_cons (ps_if (pt_cmpR op_gt (pe_callB call_len_seq (by rfl) b_len (by decide +kernel) (pa_cons (pv 2) pa_nil)) pe_int (nomark _))
        (pss_one (ps_for PassesOwn.never rfl (pi_range1 (by rfl) b_range (pa_cons (pe_ix ix_seq (pe_lst (pa_cons (C8.pe_c k__law_take hr (by decide) rfl (pa_cons (pv 0) (pa_cons pe_int pa_nil))) (pa_cons (C8.pe_c k__law_take hr (by decide) rfl (pa_cons (pv 0) (pa_cons pe_int pa_nil))) pa_nil))) (pe_callTy call_int1 (by rfl) b_int (by decide +kernel) (pa_cons (pe_cmpR op_eq (C8.pe_c k__law_take hr (by decide) rfl (pa_cons (pv 0) (pa_cons pe_int pa_nil))) pe_int (nomark _)) pa_nil)) (fun _ _ => rfl)) pa_nil)) (pg_name (i := 3) sc_law_house.nd rfl (Or.inl rfl))
        (pss_cons (ps_set (i := 9) sc_law_house.nd rfl (Or.inl rfl) (C8.pe_c k__law_take hr (by decide) rfl (pa_cons (pv 0) (pa_cons (pe_callB call_len_seq (by rfl) b_len (by decide +kernel) (pa_cons (pv 2) pa_nil)) pa_nil))))
      (pss_cons (ps_set (i := 10) sc_law_house.nd rfl (Or.inl rfl) (pe_op op_modN (pe_op op_add (pe_op op_add (pv 9) pe_int) (C8.pe_c k__law_take hr (by decide) rfl (pa_cons (pv 0) (pa_cons (pe_op op_sub (pe_callB call_len_seq (by rfl) b_len (by decide +kernel) (pa_cons (pv 2) pa_nil)) pe_int) pa_nil)))) (pe_callB call_len_seq (by rfl) b_len (by decide +kernel) (pa_cons (pv 2) pa_nil))))
      (pss_cons (ps_set (i := 6) sc_law_house.nd rfl (Or.inl rfl) (pe_ix ix_seq (pe_lst (pa_cons (C8.pe_c k__law_take hr (by decide) rfl (pa_cons (pv 0) (pa_cons pe_int pa_nil))) (pa_cons (C8.pe_c k__law_take hr (by decide) rfl (pa_cons (pv 0) (pa_cons pe_int pa_nil))) pa_nil))) (pe_callTy call_int1 (by rfl) b_int (by decide +kernel) (pa_cons (pe_cmpR op_eq (C8.pe_c k__law_take hr (by decide) rfl (pa_cons (pv 0) (pa_cons pe_int pa_nil))) pe_int (nomark _)) pa_nil)) (fun _ _ => rfl)))
      (pss_one (ps_expr (pe_bm PySem.F.plainAttrs_list PySem.F.slot_list_append PySem.F.type_list_append mt_append (pv 8) (pa_cons (pe_tup (pa_cons (pv 9) (pa_cons (pv 10) (pa_cons (pv 6) pa_nil)))) pa_nil)))))))))
        pss_nil)
      (pss_cons (ps_set (i := 11) sc_law_house.nd rfl (Or.inl rfl) (pe_lst pa_nil))
      (pss_cons (ps_for PassesOwn.never rfl (pi_range1 (by rfl) b_range (pa_cons (pe_ix ix_seq (pe_lst (pa_cons (C8.pe_c k__law_take hr (by decide) rfl (pa_cons (pv 0) (pa_cons pe_int pa_nil))) (pa_cons (C8.pe_c k__law_take hr (by decide) rfl (pa_cons (pv 0) (pa_cons pe_int pa_nil))) pa_nil))) (pe_callTy call_int1 (by rfl) b_int (by decide +kernel) (pa_cons (pe_cmpR op_eq (C8.pe_c k__law_take hr (by decide) rfl (pa_cons (pv 0) (pa_cons pe_int pa_nil))) pe_int (nomark _)) pa_nil)) (fun _ _ => rfl)) pa_nil)) (pg_name (i := 3) sc_law_house.nd rfl (Or.inl rfl))
        (pss_one (ps_expr (pe_bm PySem.F.plainAttrs_list PySem.F.slot_list_append PySem.F.type_list_append mt_append (pv 11) (pa_cons (C8.pe_c k__law_stay hr (by decide) rfl (pa_cons (pv 0) (pa_cons (pv 1) (pa_cons (pv 2) pa_nil)))) pa_nil)))))
      (pss_one (ps_ret (pe_tup (pa_cons (pv 1) (pa_cons (pv 2) (pa_cons (pv 8) (pa_cons (pv 11) pa_nil)))))))))))))), ?_⟩
    -- hours
    refine ⟨_, rfl, by show 2 ≤ sizeLine; decide, fun p hp => ?_⟩
    have B1 := B.alloc (o := .lst [.int 4, .int 12]) hp
    refine pick2 rfl B1 (by decide) (by decide) upd_same fun v H2 hv B2 => ?_
    replace B2 := B1.trans B2
    obtain ⟨k, rfl, hk⟩ : ∃ k : Int, v = .int k ∧ 1 ≤ k ∧ k ≤ 12 := by
      rcases hv with rfl | rfl
      · exact ⟨_, rfl, by decide, by decide⟩
      · exact ⟨_, rfl, by decide, by decide⟩
    refine ⟨b, l, _, _, rfl, by omega, by omega, B2.start, fun r3 H3 a3 c3 B3 => ⟨_, _, rfl, rfl, ?_⟩⟩
    obtain ⟨G3, B3⟩ : ∃ G3, Bx Ps b l G H G3 H3 := ⟨_, B2.trans B3⟩
    have hh : 1 ≤ 1 + r3 ∧ 1 + r3 ≤ 12 := by omega
    -- rooms
    refine ⟨Nat.zero_le _, fun pr hpr => ?_⟩
    have O0 := Opn.begin (K := K) B3 hpr
    have S0 := B3.start
    refine ⟨_, rfl, by show 2 ≤ sizeLine; decide, fun p2 hp2 => ?_⟩
    have O1 := O0.step S0 (O0.bx.start.alloc (o := .lst [.int 3, .int 6]) hp2)
    refine pick2 rfl O1.bx (by decide) (by decide) upd_same fun v H4 hv B4 => ?_
    replace O1 := O1.step S0 B4
    obtain ⟨k2, rfl, hk2⟩ : ∃ k : Int, v = .int k ∧ 1 ≤ k ∧ k ≤ 6 := by
      rcases hv with rfl | rfl
      · exact ⟨_, rfl, by decide, by decide⟩
      · exact ⟨_, rfl, by decide, by decide⟩
    refine ⟨b, l, _, _, rfl, by omega, by omega, O1.bx.start, fun r5 H5 a5 c5 B5 => ⟨_, _, rfl, rfl, ?_⟩⟩
    replace O1 := O1.step S0 B5
    obtain ⟨nr, hnr⟩ : ∃ nr : Nat, (1 + r5 : Int) = nr := ⟨(1 + r5).toNat, by omega⟩
    refine ⟨1 + r5, rfl, by omega, by omega, ?_⟩
    rw [hnr]
    refine for_range (lo := 0) (n := nr) (fun i σ H' => ∃ (o3 o4 o5 o6 o7 : Option V) (G' : Hp) (xs : List V) (rs : List (List Int)), σ = [some (.ref b), some (.int (1 + r3)), some (.ref pr), o3, o4, o5, o6, o7, none, none, none, none] ∧ Opn K Ps b l G3 H3 pr xs rs G' H' ∧ rs.length = i ∧ Wide 4 rs ∧ ∀ r ∈ rs, roomOk r = true) ?_ ?_ ?_
    · exact ⟨none, none, none, none, none, _, [], [], rfl, O1, rfl, by simp [Wide], by simp⟩
    · rintro i σ H' hi ⟨o3, o4, o5, o6, o7, G', xs, rs, rfl, O, hlen, w4, rok⟩
      -- most
      refine ⟨_, rfl, b, l, _, _, rfl, by omega, by omega, O.bx.start, fun r1 H1 a1 c1 B' => ?_⟩
      replace O := O.step S0 B'
      refine ⟨_, rfl, b, l, _, _, rfl, by omega, by omega, O.bx.start, fun r2 H2 a2 c2 B' => ?_⟩
      replace O := O.step S0 B'
      refine ⟨by show 2 ≤ sizeLine; decide, fun p3 hp3 => ?_⟩
      replace O := O.step S0 (O.bx.start.alloc (o := .lst [.int r1, .int r2]) hp3)
      refine pick2 rfl O.bx (by decide) (by decide) upd_same fun v H4 hv B' => ?_
      replace O := O.step S0 B'
      obtain ⟨most, rfl, hmost⟩ : ∃ k : Int, v = .int k ∧ 0 ≤ k ∧ k < 1000 := by
        rcases hv with rfl | rfl
        · exact ⟨_, rfl, by omega, by omega⟩
        · exact ⟨_, rfl, by omega, by omega⟩
      -- air
      refine ⟨_, rfl, _, rfl, b, l, _, _, rfl, by omega, by omega, O.bx.start, fun r3 H3 a3 c3 B' => ?_⟩
      replace O := O.step S0 B'
      refine ⟨_, _, rfl, ?_⟩
      have hmo : 0 ≤ (if r3 < most then r3 else most) ∧ (if r3 < most then r3 else most) ≤ most := by
        by_cases e : r3 < most
        · rw [if_pos e]; omega
        · rw [if_neg e]; omega
      generalize (if r3 < most then r3 else most) = mo at hmo
      refine ⟨_, rfl, _, rfl, _, _, rfl, rfl, b, l, _, _, rfl, by omega, by omega, O.bx.start, fun r4 H4 a4 c4 B' => ?_⟩
      replace O := O.step S0 B'
      refine ⟨by show 2 ≤ sizeLine; decide, fun p4 hp4 => ?_⟩
      replace O := O.step S0 (O.bx.start.alloc (o := .lst [.int mo, .int r4]) hp4)
      refine pick2 rfl O.bx (by decide) (by decide) upd_same fun v H5 hv B' => ?_
      replace O := O.step S0 B'
      obtain ⟨air, rfl, hair⟩ : ∃ k : Int, v = .int k ∧ 0 ≤ k ∧ k ≤ most := by
        rcases hv with rfl | rfl
        · exact ⟨_, rfl, by omega, by omega⟩
        · exact ⟨_, rfl, by omega, by omega⟩
      -- limit
      refine ⟨_, rfl, b, l, _, _, rfl, by omega, by omega, O.bx.start, fun r5 H5 a5 c5 B' => ?_⟩
      replace O := O.step S0 B'
      refine ⟨_, rfl, b, l, _, _, rfl, by omega, by omega, O.bx.start, fun r6 H6 a6 c6 B' => ?_⟩
      replace O := O.step S0 B'
      refine ⟨by show 2 ≤ sizeLine; decide, fun p5 hp5 => ?_⟩
      replace O := O.step S0 (O.bx.start.alloc (o := .lst [.int r5, .int r6]) hp5)
      refine pick2 rfl O.bx (by decide) (by decide) upd_same fun v H7 hv B' => ?_
      replace O := O.step S0 B'
      obtain ⟨limit, rfl, hlimit⟩ : ∃ k : Int, v = .int k ∧ 0 ≤ k ∧ k ≤ 999 := by
        rcases hv with rfl | rfl
        · exact ⟨_, rfl, by omega, by omega⟩
        · exact ⟨_, rfl, by omega, by omega⟩
      -- price
      refine ⟨_, rfl, b, l, _, _, rfl, by omega, by omega, O.bx.start, fun r7 H8 a7 c7 B' => ?_⟩
      replace O := O.step S0 B'
      refine ⟨_, rfl, b, l, _, _, rfl, by omega, by omega, O.bx.start, fun r8 H9 a8 c8 B' => ?_⟩
      replace O := O.step S0 B'
      refine ⟨by show 2 ≤ sizeLine; decide, fun p6 hp6 => ?_⟩
      replace O := O.step S0 (O.bx.start.alloc (o := .lst [.int r7, .int r8]) hp6)
      refine pick2 rfl O.bx (by decide) (by decide) upd_same fun v H10 hv B' => ?_
      replace O := O.step S0 B'
      obtain ⟨price, rfl, hprice⟩ : ∃ k : Int, v = .int k ∧ 0 ≤ k ∧ k ≤ 999 := by
        rcases hv with rfl | rfl
        · exact ⟨_, rfl, by omega, by omega⟩
        · exact ⟨_, rfl, by omega, by omega⟩
      -- append
      refine ⟨_, rfl, .inl ⟨rfl, xs, SqL.of O.at_⟩, _, rfl, _, rfl, _, rfl, _, rfl, by show 4 ≤ sizeLine; decide, fun t ht => ?_⟩
      replace O := O.step S0 (O.bx.start.alloc (o := .tup [.int air, .int most, .int limit, .int price]) ht)
      refine ⟨pr, xs, _, rfl, rfl, O.at_, ?_, ?_⟩
      · have := O.len
        exact Nat.lt_of_lt_of_le (show xs.length < 1000 by omega) (by decide)
      · replace O := O.push (v := .ref t) (ns := [air, most, limit, price]) S0 ⟨t, rfl, SqT.of upd_same⟩
        refine ⟨_, _, _, _, _, _, _, _, rfl, O, by simp; omega, ?_, ?_⟩
        · intro r hr
          rcases List.mem_append.mp hr with h | h
          · exact w4 r h
          · simp at h; subst h; rfl
        · intro r hr
          rcases List.mem_append.mp hr with h | h
          · exact rok r h
          · simp at h; subst h
            exact roomOk_of (by omega) (by omega) (by omega) (by omega) (by omega)
    · rintro σ H0 ⟨o3, o4, o5, o6, o7, G', xs, rs, rfl, O, hlen, w4, rok⟩
      obtain ⟨G4, B4, Rr⟩ : ∃ G4, Bx Ps b l G H G4 H0 ∧ RowsL K G4 pr rs := ⟨_, B3.trans (O.done S0).1, (O.done S0).2⟩
      have hxl := O.len
      have hn1 : 1 ≤ rs.length ∧ rs.length ≤ 6 := by omega
      obtain ⟨xs, hxl0, hrv⟩ := Rr
      have hxs := SqL.of (K := K) hxl0
      have hxl := Paired.length hrv
      -- doors
      refine ⟨Nat.zero_le _, fun pd hpd => ?_⟩
      have O0 := Opn.begin (K := K) B4 hpd
      have S0 := B4.start
      dsimp only
      refine seq_if (fun σ H' => ∃ (o3 o4 o5 o6 o7 o9 o10 : Option V) (G' : Hp) (ds : List (List Int)), σ = [some (.ref b), some (.int (1 + r3)), some (.ref pr), o3, o4, o5, o6, o7, some (.ref pd), o9, o10, none] ∧ Bx Ps b l G H G' H' ∧ Same G4 G' ∧ RowsL K G' pd ds ∧ ds.length ≤ 8 ∧ Wide 3 ds ∧ ∀ d ∈ ds, doorOk rs.length d = true) ?_ ?_
      rotate_left
      · intro κ hκ
        refine ⟨_, rfl, pr, xs, rfl, .inl (O0.bx.wd.same.seq hxs), _, _, rfl, rfl, _, rfl, ?_⟩
        refine ite2 (fun hd => ?_) (fun hd => ?_)
        rotate_left
        · refine hκ _ _ ⟨_, _, _, _, _, _, _, _, [], rfl, B4.trans (O0.done S0).1, (O0.done S0).1.gr.up, (O0.done S0).2, by simp, by simp [Wide], by simp⟩
        · have hd1 : 1 < rs.length := by
            have := of_decide_eq_true hd
            omega
          refine ⟨_, rfl, b, l, _, _, rfl, by omega, by omega, O0.bx.start, fun r1 H1 a1 c1 B' => ?_⟩
          have O := O0.step S0 B'
          refine ⟨_, rfl, b, l, _, _, rfl, by omega, by omega, O.bx.start, fun r2 H2 a2 c2 B' => ?_⟩
          replace O := O.step S0 B'
          refine ⟨by show 2 ≤ sizeLine; decide, fun p3 hp3 => ?_⟩
          replace O := O.step S0 (O.bx.start.alloc (o := .lst [.int r1, .int r2]) hp3)
          refine pick2 rfl O.bx (by decide) (by decide) upd_same fun v H4 hv B' => ?_
          replace O := O.step S0 B'
          obtain ⟨nd, rfl, hnd⟩ : ∃ k : Nat, v = .int (k : Int) ∧ k ≤ 8 := by
            rcases hv with rfl | rfl
            · exact ⟨r1.toNat, by congr 1; omega, by omega⟩
            · exact ⟨r2.toNat, by congr 1; omega, by omega⟩
          refine ⟨(nd : Int), rfl, by omega, by omega, ?_⟩
          refine for_range (lo := 0) (n := nd) (fun i σ H' => ∃ (o3 o6 o9 o10 : Option V) (G' : Hp) (ys : List V) (ds : List (List Int)), σ = [some (.ref b), some (.int (1 + r3)), some (.ref pr), o3, o4, o5, o6, o7, some (.ref pd), o9, o10, none] ∧ Opn K Ps b l G4 H0 pd ys ds G' H' ∧ ds.length = i ∧ Wide 3 ds ∧ ∀ d ∈ ds, doorOk rs.length d = true) ?_ ?_ ?_
          · exact ⟨_, _, _, _, _, [], [], rfl, O, rfl, by simp [Wide], by simp⟩
          · rintro i σ H' hi ⟨o3, o6, o9, o10, G', ys, ds, rfl, O, hlen, w3, dok⟩
            have hS : Same G4 G' := O.bx.gr.up
            have hz : ∀ G2 H2, Bx Ps b l G' H' G2 H2 → SqL K H2 pr xs := fun G2 H2 B' => (hS.trans (B'.gr.up.trans B'.wd.same)).seq hxs
            have hz0 := hz _ _ O.bx.start
            have Oz := O
            refine ⟨_, rfl, _, rfl, pr, xs, rfl, .inl hz0, b, l, _, _, rfl, by omega, by omega, O.bx.start, fun r3 H3 a3 c3 B' => ?_⟩
            replace O := O.step S0 B'
            have Bs := B'
            refine ⟨_, rfl, _, _, rfl, rfl, _, rfl, _, rfl, pr, xs, rfl, .inl (hz _ _ Bs), _, _, rfl, rfl, b, l, _, _, rfl, by omega, by omega, O.bx.start, fun r4 H4 a4 c4 B' => ⟨_, _, rfl, rfl, ?_⟩⟩
            replace O := O.step S0 B'
            replace Bs := Bs.trans B'
            refine ⟨_, rfl, pr, xs, rfl, .inl (hz _ _ Bs), _, _, rfl, rfl, by omega, ?_⟩
            obtain ⟨⟨f1, f2⟩, f3⟩ := other_ne a3 c3 a4 c4
            generalize hq : (r3 + 1 + r4).fmod (xs.length : Int) = other at f1 f2 f3
            refine ⟨_, rfl, b, l, _, _, rfl, by omega, by omega, O.bx.start, fun r5 H5 a5 c5 B' => ?_⟩
            replace O := O.step S0 B'
            refine ⟨_, rfl, b, l, _, _, rfl, by omega, by omega, O.bx.start, fun r6 H6 a6 c6 B' => ?_⟩
            replace O := O.step S0 B'
            refine ⟨by show 2 ≤ sizeLine; decide, fun p5 hp5 => ?_⟩
            replace O := O.step S0 (O.bx.start.alloc (o := .lst [.int r5, .int r6]) hp5)
            refine pick2 rfl O.bx (by decide) (by decide) upd_same fun v H7 hv B' => ?_
            replace O := O.step S0 B'
            obtain ⟨limit, rfl, hlimit⟩ : ∃ k : Int, v = .int k ∧ 0 ≤ k ∧ k ≤ 999 := by
              rcases hv with rfl | rfl
              · exact ⟨_, rfl, by omega, by omega⟩
              · exact ⟨_, rfl, by omega, by omega⟩
            refine ⟨_, rfl, .inl ⟨rfl, ys, SqL.of O.at_⟩, _, rfl, _, rfl, _, rfl, by show 3 ≤ sizeLine; decide, fun t ht => ?_⟩
            replace O := O.step S0 (O.bx.start.alloc (o := .tup [.int r3, .int ((r3 + 1 + r4).fmod (xs.length : Int)), .int limit]) ht)
            refine ⟨pd, ys, _, rfl, rfl, O.at_, ?_, ?_⟩
            · have := O.len
              exact Nat.lt_of_lt_of_le (show ys.length < 1000 by omega) (by decide)
            · replace O := O.push (v := .ref t) (ns := [r3, (r3 + 1 + r4).fmod (xs.length : Int), limit]) S0 ⟨t, rfl, SqT.of upd_same⟩
              refine ⟨_, _, _, _, _, _, _, rfl, O, by simp; omega, ?_, ?_⟩
              · intro r hr
                rcases List.mem_append.mp hr with h | h
                · exact w3 r h
                · simp at h; subst h; rfl
              · intro r hr
                rcases List.mem_append.mp hr with h | h
                · exact dok r h
                · simp at h; subst h
                  rw [hq]
                  exact doorOk_of (by omega) (by omega) (by omega) f3 hlimit
          · rintro σ H' ⟨o3, o6, o9, o10, G', ys, ds, rfl, O, hlen, w3, dok⟩
            refine hκ _ _ ⟨_, _, _, _, _, _, _, _, ds, rfl, B4.trans (O.done S0).1, (O.done S0).1.gr.up, (O.done S0).2, by omega, w3, dok⟩
      · rintro σ H5 ⟨o3, o4, o5, o6, o7, o9, o10, G5, ds, rfl, B5, hS, hds, hdl, w3, dok⟩
        -- stays
        refine ⟨Nat.zero_le _, fun ps hps => ?_⟩
        have O0 := Opn.begin (K := K) B5 hps
        have S0 := B5.start
        have hxs5 : SqL K G5 pr xs := hS.seq hxs
        refine ⟨_, rfl, b, l, _, _, rfl, by omega, by omega, O0.bx.start, fun r1 H1 a1 c1 B' => ?_⟩
        have O := O0.step S0 B'
        refine ⟨_, rfl, b, l, _, _, rfl, by omega, by omega, O.bx.start, fun r2 H2 a2 c2 B' => ?_⟩
        replace O := O.step S0 B'
        refine ⟨by show 2 ≤ sizeLine; decide, fun p3 hp3 => ?_⟩
        replace O := O.step S0 (O.bx.start.alloc (o := .lst [.int r1, .int r2]) hp3)
        refine pick2 rfl O.bx (by decide) (by decide) upd_same fun v H4 hv B' => ?_
        replace O := O.step S0 B'
        obtain ⟨nd, rfl, hnd⟩ : ∃ k : Nat, v = .int (k : Int) ∧ k ≤ 20 := by
          rcases hv with rfl | rfl
          · exact ⟨r1.toNat, by congr 1; omega, by omega⟩
          · exact ⟨r2.toNat, by congr 1; omega, by omega⟩
        refine ⟨(nd : Int), rfl, by omega, by omega, ?_⟩
        refine for_range (lo := 0) (n := nd) (fun i σ H' => ∃ (o3 : Option V) (G' : Hp) (ys : List V) (ss : List (List Int)), σ = [some (.ref b), some (.int (1 + r3)), some (.ref pr), o3, o4, o5, o6, o7, some (.ref pd), o9, o10, some (.ref ps)] ∧ Opn K Ps b l G5 H5 ps ys ss G' H' ∧ ss.length = i ∧ Wide 5 ss ∧ ∀ s ∈ ss, stayOk (1 + r3) rs s = true) ?_ ?_ ?_
        · exact ⟨_, _, [], [], rfl, O, rfl, by simp [Wide], by simp⟩
        · rintro i σ H' hi ⟨o3, G', ys, ss, rfl, O, hlen, w5, sok⟩
          have hS' : Same G5 G' := O.bx.gr.up
          refine ⟨_, rfl, .inl ⟨rfl, ys, SqL.of O.at_⟩, _, rfl, _, rfl, _, rfl, ?_⟩
          refine ⟨b, l, _, pr, G', rs, rfl, O.bx.start, by omega, by omega, ⟨xs, hS'.seq hxs5, rowsV_same (hS.trans hS') hrv⟩, by omega, by omega, w4, rok, fun t ns G2 H2 B' ht h5 hok => ?_⟩
          replace O := O.step S0 B'
          refine ⟨ps, ys, _, rfl, rfl, O.at_, ?_, ?_⟩
          · have := O.len
            exact Nat.lt_of_lt_of_le (show ys.length < 1000 by omega) (by decide)
          · replace O := O.push (v := .ref t) (ns := ns) S0 ht
            refine ⟨_, _, _, _, rfl, O, by simp; omega, ?_, ?_⟩
            · intro r hr
              rcases List.mem_append.mp hr with h | h
              · exact w5 r h
              · simp at h; subst h; exact h5
            · intro r hr
              rcases List.mem_append.mp hr with h | h
              · exact sok r h
              · simp at h; subst h
                exact hok
        · rintro σ H6 ⟨o3, G', ys, ss, rfl, O, hlen, w5, sok⟩
          obtain ⟨B6, R6⟩ := O.done S0
          refine ⟨_, rfl, _, rfl, _, rfl, _, rfl, by show 4 ≤ sizeLine; decide, fun t ht => ?_⟩
          refine q t (1 + r3) pr pd ps rs ds ss _ _ ((B5.trans B6).alloc ht) ⟨SqT.of upd_same, ?_, ?_, ?_⟩ ⟨by omega, by omega, by omega, by omega, by omega, by omega, w4, w3, w5, rok, dok, sok⟩
          · exact RowsL.same (same_new (B6.wd.free ht)) ⟨xs, B6.gr.up _ _ (hS _ _ hxl0), rowsV_same (hS.trans B6.gr.up) hrv⟩
          · exact RowsL.same (same_new (B6.wd.free ht)) (RowsL.same B6.gr.up hds)
          · exact RowsL.same (same_new (B6.wd.free ht)) R6
end
end Cr
set_option Elab.async false
set_option linter.all false
set_option maxRecDepth 100000
set_option maxHeartbeats 4000000

namespace Cr
open PySem PySem.Spec PyProof.Rows L2
abbrev s_law_here : Stmt := top 35
abbrev n_law_here : List Str := ["_law_rows", "_law_room", "_law_hour", "_law_stay_here"]
abbrev a_law_here : List Str := ["_law_rows", "_law_room", "_law_hour"]
theorem sc_law_here : FnScope n_law_here a_law_here (defScope s_law_here) := ⟨rfl, rfl, rfl, by decide +kernel, rfl, by decide +kernel, by decide +kernel⟩
abbrev s_law_use : Stmt := top 36
abbrev n_law_use : List Str := ["_law_rows", "_law_room", "_law_hour", "_law_stay_here"]
abbrev a_law_use : List Str := ["_law_rows", "_law_room", "_law_hour"]
theorem sc_law_use : FnScope n_law_use a_law_use (defScope s_law_use) := ⟨rfl, rfl, rfl, by decide +kernel, rfl, by decide +kernel, by decide +kernel⟩
abbrev s_law_least : Stmt := top 37
abbrev n_law_least : List Str := ["_law_rows", "_law_room", "_law_hour", "_law_stay_here"]
abbrev a_law_least : List Str := ["_law_rows", "_law_room", "_law_hour"]
theorem sc_law_least : FnScope n_law_least a_law_least (defScope s_law_least) := ⟨rfl, rfl, rfl, by decide +kernel, rfl, by decide +kernel, by decide +kernel⟩
theorem RowsAt.sm {K : PySem.W.Frag} {G G' : Hp} {t : Addr} {h : Int} {ra da sa : Addr} {rs ds ss : List (List Int)} (e : Same G G') (a : RowsAt K G t h ra da sa rs ds ss) : RowsAt K G' t h ra da sa rs ds ss := ⟨Same.tup e a.t, a.r.same e, a.d.same e, a.s.same e⟩
theorem here_take {ss : List (List Int)} {i : Nat} {s : List Int} (r t : Int) (e : ss[i]? = some s) : (ss.take (i + 1)).filter (inHere r t) = (ss.take i).filter (inHere r t) ++ (if inHere r t s = true then [s] else []) := by
  rw [List.take_add_one, e]
  rw [List.filter_append]
  congr 1
  by_cases h : inHere r t s = true
  · rw [if_pos h]; simp [h]
  · rw [if_neg h]; simp [h]
theorem here_len (ss : List (List Int)) (r t : Int) : (ss.filter (inHere r t)).length ≤ ss.length := List.length_filter_le _ _
section
variable {P : Program} {w : World} {K : PySem.W.Frag} {mg : Str → Option Value} {base : Heap} {Ps : List Addr} {H : Hp}
structure RawU (K : PySem.W.Frag) (mg : Str → Option Value) : Prop extends RawH K mg where
  lhere : DefR K mg "_law_here" s_law_here a_law_here
  luse : DefR K mg "_law_use" s_law_use a_law_use
  lleast : DefR K mg "_law_least" s_law_least a_law_least
  b_sum : mg "sum" = none
  b_max : mg "max" = none
def spLHere (K : PySem.W.Frag) (Ps : List Addr) : Sp := fun vs H Q _ => ∃ (G : Hp) (t : Addr) (h : Int) (ra da sa : Addr) (rs ds ss : List (List Int)) (r u : Int), vs = [.ref t, .int r, .int u] ∧ Wd Ps G H ∧ Tabs Ps H ∧ RowsAt K G t h ra da sa rs ds ss ∧ Wide 5 ss ∧ ss.length ≤ 20 ∧
  ∀ l ys H', H l = none → Gr Ps G H G H' → H' l = some (.lst ys) → RowsV K G ys (ss.filter (inHere r u)) → Tabs Ps H' → Q (.ref l) H'
theorem c_lhere (T : RawU K mg) : C8.Cal P w K mg base 1 "_law_here" (spLHere K Ps) [] := by
  refine T.lhere.cal sc_law_here (fun vs H Q E h => ?_) (fun f cdv A outer s H vs Q E hr h => ?_)
  · obtain ⟨G, t, h, ra, da, sa, rs, ds, ss, r, u, rfl, _⟩ := h
    rfl
  · obtain ⟨G, t, h, ra, da, sa, rs, ds, ss, r, u, rfl, wd, tbs, ⟨ht, _, _, xr, qr, rr⟩, w5, l20, q⟩ := h
    replace qr := SqL.of (K := K) qr
    have hlen : xr.length = ss.length := Paired.length rr
    refine ⟨_, (pss_one (ps_ret (pe_lc (own := [("_law_stay_here", 3)]) rfl sc_law_here.nd (pi_list (pe_ix ix_seq (pv 0) pe_int (fun _ _ => rfl))) (blkOk_by (own := [("_law_stay_here", 3)]) (N := n_law_here) (sc := defScope s_law_here) (by decide +kernel)) (fun _ _ _ _ _ => (pg_name (i := 3) sc_law_here.nd rfl (Or.inl rfl) (Or.inr rfl))) (fun _ _ _ _ _ => pts_one (PW.pt (pw_and (pt_cmpR op_eq (pe_ix (ix_seqK (K := K) rfl) (pv 3 rfl (Or.inl rfl)) pe_int (fun _ _ => rfl)) (pv 1 rfl (Or.inr (Or.inl rfl))) (nomark _)) (pw_and (pt_cmpR op_le (pe_ix (ix_seqK (K := K) rfl) (pv 3 rfl (Or.inl rfl)) pe_int (fun _ _ => rfl)) (pv 2 rfl (Or.inr (Or.inl rfl))) (nomark _)) (pw_and1 (pt_cmpR op_lt (pv 2 rfl (Or.inr (Or.inl rfl))) (pe_ix (ix_seqK (K := K) rfl) (pv 3 rfl (Or.inl rfl)) pe_int (fun _ _ => rfl)) (nomark _))))))) (fun _ _ _ _ _ => (pv 3 rfl (Or.inl rfl)))))), ?_⟩
    refine ⟨_, rfl, .inr (.inl ⟨t, _, _, .ref sa, rfl, rfl, Same.tup wd.same ht, atI_nat (j := 3) rfl, sa, rfl, ⟨xr, wd.same.seq qr⟩, fun D hD => ?_⟩)⟩
    have hDP := tbs.nin hD
    refine lc_list (K := K) (a := sa) (xs := xr) (fun i H' => ∃ acc, Gr Ps G H G H' ∧ Tabs Ps H' ∧ H' D = some (.lst acc) ∧ RowsV K G acc ((ss.take i).filter (inHere r u)))
      ⟨[], Gr.new wd hD, tbs.upd hDP, upd_same, .nil⟩ (fun i H' _ ⟨acc, g, _⟩ => g.wd.same.seq qr) ?_ ?_
    · rintro i y H' hy ⟨acc, g, tb, hacc, hrv⟩
      obtain ⟨z, ez, ty, rfl, hty⟩ := paired_get rr hy
      have hz5 := w5 z (List.mem_of_getElem? ez)
      obtain ⟨pl, bg, en, us, nd, rfl⟩ := len5 hz5
      have hlt : i < ss.length := (List.getElem?_eq_some_iff.mp ez).1
      have hal : acc.length ≤ ss.length := by
        rw [Paired.length hrv]
        exact Nat.le_trans (here_len _ _ _) (by rw [List.length_take]; omega)
      have hstep := here_take r u ez
      have gD : G D = none := wd.free hD
      have hq : SqT K H' ty ([pl, bg, en, us, nd].map V.int) := Same.tup g.wd.same hty
      refine ⟨(by (repeat rw [wipe_set (by decide)]); exact wipe_wipe _ _), ?_⟩
      refine ⟨_, rfl, .inr (.inl ⟨ty, _, _, .int pl, rfl, rfl, hq, atI_nat (j := 0) rfl, _, rfl, rfl, _, rfl, ?_⟩)⟩
      have e0 : decide (V.int pl = V.int r) = decide (pl = r) := by simp
      rw [e0]
      have ein : inHere r u [pl, bg, en, us, nd] = (decide (pl = r) && (decide (bg ≤ u) && decide (u < en))) := rfl
      rw [ein] at hstep
      have stay : (decide (pl = r) && (decide (bg ≤ u) && decide (u < en))) = false → ∃ acc, Gr Ps G H G H' ∧ Tabs Ps H' ∧ H' D = some (.lst acc) ∧ RowsV K G acc ((ss.take (i + 1)).filter (inHere r u)) := fun e => by
        rw [e, if_neg Bool.false_ne_true, List.append_nil] at hstep
        exact ⟨acc, g, tb, hacc, by rw [hstep]; exact hrv⟩
      refine ite2 (fun h1 => ?_) (fun h1 => ?_)
      · rw [h1, Bool.true_and] at stay hstep
        refine ⟨_, rfl, .inr (.inl ⟨ty, _, _, .int bg, rfl, rfl, hq, atI_nat (j := 1) rfl, _, rfl, _, _, rfl, rfl, _, rfl, ?_⟩)⟩
        refine ite2 (fun h2 => ?_) (fun h2 => ?_)
        · have h2' : decide (bg ≤ u) = true := h2
          rw [h2', Bool.true_and] at stay hstep
          refine ⟨_, rfl, _, rfl, .inr (.inl ⟨ty, _, _, .int en, rfl, rfl, hq, atI_nat (j := 2) rfl, _, _, rfl, rfl, _, rfl, ?_⟩)⟩
          refine ite2 (fun h3 => ?_) (fun h3 => ?_)
          · have h3' : decide (u < en) = true := h3
            rw [h3', if_pos rfl] at hstep
            refine ⟨_, rfl, acc, hacc, small1000 (by omega), acc ++ [.ref ty], g.poke hD gD, tb.upd hDP, upd_same, ?_⟩
            rw [hstep]
            exact paired_snoc hrv ⟨ty, rfl, hty⟩
          · exact stay (Bool.eq_false_iff.mpr h3)
        · have h2' : decide (bg ≤ u) = false := Bool.eq_false_iff.mpr h2
          rw [h2', Bool.false_and] at stay
          exact iteF (stay rfl)
      · rw [Bool.eq_false_iff.mpr h1, Bool.false_and] at stay
        exact stay rfl
    · rintro H' ⟨acc, g, tb, hacc, hrv⟩
      rw [List.take_of_length_le (by omega)] at hrv
      exact q D acc H' hD g hacc hrv tb
def spLTwo (K : PySem.W.Frag) (Ps : List Addr) (F : List (List Int) → Int → Int → Int) : Sp := fun vs H Q _ => ∃ (G : Hp) (t : Addr) (h : Int) (ra da sa : Addr) (rs ds ss : List (List Int)) (r u : Int), vs = [.ref t, .int r, .int u] ∧ Wd Ps G H ∧ Tabs Ps H ∧ RowsAt K G t h ra da sa rs ds ss ∧ Wide 5 ss ∧ ss.length ≤ 20 ∧ (∀ s ∈ ss, 0 ≤ s.getD 4 0) ∧
  ∀ H', Gr Ps G H G H' → Tabs Ps H' → Q (.int (F ss r u)) H'
theorem use_here (ss : List (List Int)) (r u : Int) : useOf ss r u = ((ss.filter (inHere r u)).map fun z => z.getD 3 0).sum := by
  unfold useOf wantsOf
  rw [List.map_map]
  rfl
theorem least_here (ss : List (List Int)) (r u : Int) : leastOf ss r u = ((ss.filter (inHere r u)).map fun z => z.getD 4 0).foldl max 0 := by
  unfold leastOf wantsOf
  rw [List.map_map]
  rfl
theorem foldl_max_eq : ∀ (l : List Int) (a m : Int), m ∈ a :: l → (∀ y, y ∈ a :: l → y ≤ m) → l.foldl max a = m
  | [], a, m, hm, _ => by simp at hm; exact hm.symm
  | x :: l, a, m, hm, h => by
    rw [List.foldl_cons]
    have ha := h a (by simp)
    have hx := h x (by simp)
    refine foldl_max_eq l (max a x) m ?_ fun y hy => ?_
    · rcases List.mem_cons.mp hm with e | hm
      · rw [show max a x = m by omega]; exact List.mem_cons_self
      rcases List.mem_cons.mp hm with e | hm
      · rw [show max a x = m by omega]; exact List.mem_cons_self
      · exact List.mem_cons_of_mem _ hm
    · rcases List.mem_cons.mp hy with e | hy
      · omega
      · exact h y (List.mem_cons_of_mem _ (List.mem_cons_of_mem _ hy))
theorem c_luse (T : RawU K mg) : C8.Cal P w K mg base 2 "_law_use" (spLTwo K Ps useOf) [] := by
  refine T.luse.cal sc_law_use (fun vs H Q E h => ?_) (fun f cdv A outer s H vs Q E hr h => ?_)
  · obtain ⟨G, t, h, ra, da, sa, rs, ds, ss, r, u, rfl, _⟩ := h
    rfl
  · obtain ⟨G, t, h, ra, da, sa, rs, ds, ss, r, u, rfl, wd, tbs, hR, w5, l20, pos, q⟩ := h
    have b_sum := T.b_sum
    have k__law_here : C8.Cal P w K mg base 1 "_law_here" (spLHere K Ps) [] := c_lhere T
    refine ⟨_, (pss_one (ps_ret (pe_callB (cr_sum rfl) (by rfl) b_sum (by decide +kernel) (pa_cons (pe_lc (own := [("_law_stay_here", 3)]) rfl sc_law_use.nd (pi_list (C8.pe_c k__law_here hr (by decide) rfl (pa_cons (pv 0) (pa_cons (pv 1) (pa_cons (pv 2) pa_nil))))) (blkOk_by (own := [("_law_stay_here", 3)]) (N := n_law_use) (sc := defScope s_law_use) (by decide +kernel)) (fun _ _ _ _ _ => (pg_name (i := 3) sc_law_use.nd rfl (Or.inl rfl) (Or.inr rfl))) (fun _ _ _ _ _ => pts_nil) (fun _ _ _ _ _ => (pe_ix (ix_seqK (K := K) rfl) (pv 3 rfl (Or.inl rfl)) pe_int (fun _ _ => rfl)))) pa_nil)))), ?_⟩
    refine ⟨_, rfl, _, rfl, _, rfl, G, t, h, ra, da, sa, rs, ds, ss, r, u, rfl, wd, tbs, hR, w5, l20, fun l xs H1 hl g1 hxs hrv t1 => ⟨l, rfl, ⟨xs, SqL.of hxs⟩, fun D hD => ?_⟩⟩
    have hDP := t1.nin hD
    have nlD : l ≠ D := ne_of_none hxs hD
    have hlen : xs.length = (ss.filter (inHere r u)).length := Paired.length hrv
    have hln : xs.length < 32 := by
      have := here_len ss r u
      omega
    refine lc_list (K := K) (a := l) (xs := xs) (fun i H' => Gr Ps G H G H' ∧ Tabs Ps H' ∧ H' l = some (.lst xs) ∧ H' D = some (.lst (((ss.filter (inHere r u)).take i).map fun z => V.int (z.getD 3 0))))
      ⟨g1.trans (Gr.new g1.wd hD), t1.upd hDP, by rw [upd_ne nlD]; exact hxs, upd_same⟩ (fun i H' _ ⟨_, _, e, _⟩ => SqL.of e) ?_ ?_
    · rintro i y H' hy ⟨g, tb, hl', hacc⟩
      obtain ⟨z, ez, ty, rfl, hty⟩ := paired_get hrv hy
      obtain ⟨pl, bg, en, us, nd, rfl⟩ := len5 (w5 z ((List.mem_filter.mp (List.mem_of_getElem? ez)).1))
      have hi : i < xs.length := (List.getElem?_eq_some_iff.mp hy).1
      refine ⟨(by (repeat rw [wipe_set (by decide)]); exact wipe_wipe _ _), ?_⟩
      refine ⟨_, rfl, .inr (.inl ⟨ty, _, _, .int us, rfl, rfl, Same.tup g.wd.same hty, atI_nat (j := 3) rfl, ?_⟩)⟩
      refine ⟨_, hacc, small1000 (by rw [List.length_map, List.length_take]; omega), g.poke (g1.free' hD) (g1.wd.free hD), tb.upd hDP, by rw [upd_ne nlD.symm.symm]; exact hl', ?_⟩
      rw [upd_same, map_take_succ _ ez]
      rfl
    · rintro H' ⟨g, tb, hl', hacc⟩
      rw [List.take_of_length_le (by omega)] at hacc
      refine ⟨D, (ss.filter (inHere r u)).map fun z => z.getD 3 0, rfl, SqL.of (by rw [hacc, List.map_map]; rfl), ?_⟩
      rw [← use_here]
      exact q H' g tb
theorem c_lleast (T : RawU K mg) : C8.Cal P w K mg base 2 "_law_least" (spLTwo K Ps leastOf) [] := by
  refine T.lleast.cal sc_law_least (fun vs H Q E h => ?_) (fun f cdv A outer s H vs Q E hr h => ?_)
  · obtain ⟨G, t, h, ra, da, sa, rs, ds, ss, r, u, rfl, _⟩ := h
    rfl
  · obtain ⟨G, t, h, ra, da, sa, rs, ds, ss, r, u, rfl, wd, tbs, hR, w5, l20, pos, q⟩ := h
    have b_max := T.b_max
    have k__law_here : C8.Cal P w K mg base 1 "_law_here" (spLHere K Ps) [] := c_lhere T
    refine ⟨_, (pss_one (ps_ret (pe_callB (cr_max rfl) (by rfl) b_max (by decide +kernel) (pa_cons (pe_op op_cat (pe_lst (pa_cons pe_int pa_nil)) (pe_lc (own := [("_law_stay_here", 3)]) rfl sc_law_least.nd (pi_list (C8.pe_c k__law_here hr (by decide) rfl (pa_cons (pv 0) (pa_cons (pv 1) (pa_cons (pv 2) pa_nil))))) (blkOk_by (own := [("_law_stay_here", 3)]) (N := n_law_least) (sc := defScope s_law_least) (by decide +kernel)) (fun _ _ _ _ _ => (pg_name (i := 3) sc_law_least.nd rfl (Or.inl rfl) (Or.inr rfl))) (fun _ _ _ _ _ => pts_nil) (fun _ _ _ _ _ => (pe_ix (ix_seqK (K := K) rfl) (pv 3 rfl (Or.inl rfl)) pe_int (fun _ _ => rfl))))) pa_nil)))), ?_⟩
    refine ⟨by show 1 ≤ sizeLine; decide, fun p hp => ?_⟩
    have gp := Gr.new (o := .lst [.int 0]) wd hp
    have tp := tbs.same (same_new (o := .lst [.int 0]) hp)
    refine ⟨_, rfl, _, rfl, _, rfl, G, t, h, ra, da, sa, rs, ds, ss, r, u, rfl, gp.wd, tp, hR, w5, l20, fun l xs H1 hl g1 hxs hrv t1 => ⟨l, rfl, ⟨xs, SqL.of hxs⟩, fun D hD => ?_⟩⟩
    have hp1 : H1 p = some (.lst [.int 0]) := g1.keep _ _ (wd.nin hp) upd_same
    have hDP := t1.nin hD
    have nlD : l ≠ D := ne_of_none hxs hD
    have npD : p ≠ D := ne_of_none hp1 hD
    have hlen : xs.length = (ss.filter (inHere r u)).length := Paired.length hrv
    have hln : xs.length < 32 := by
      have := here_len ss r u
      omega
    have hDn : H D = none := gp.free' (g1.free' hD)
    refine lc_list (K := K) (a := l) (xs := xs) (fun i H' => Gr Ps G H G H' ∧ Tabs Ps H' ∧ H' l = some (.lst xs) ∧ H' p = some (.lst [.int 0]) ∧ H' D = some (.lst (((ss.filter (inHere r u)).take i).map fun z => V.int (z.getD 4 0))))
      ⟨(gp.trans g1).trans (Gr.new g1.wd hD), t1.upd hDP, by rw [upd_ne nlD]; exact hxs, by rw [upd_ne npD]; exact hp1, upd_same⟩ (fun i H' _ ⟨_, _, e, _⟩ => SqL.of e) ?_ ?_
    · rintro i y H' hy ⟨g, tb, hl', hp', hacc⟩
      obtain ⟨z, ez, ty, rfl, hty⟩ := paired_get hrv hy
      obtain ⟨pl, bg, en, us, nd, rfl⟩ := len5 (w5 z (List.mem_filter.mp (List.mem_of_getElem? ez)).1)
      have hi : i < xs.length := (List.getElem?_eq_some_iff.mp hy).1
      refine ⟨(by (repeat rw [wipe_set (by decide)]); exact wipe_wipe _ _), ?_⟩
      refine ⟨_, rfl, .inr (.inl ⟨ty, _, _, .int nd, rfl, rfl, Same.tup g.wd.same hty, atI_nat (j := 4) rfl, ?_⟩)⟩
      refine ⟨_, hacc, small1000 (by rw [List.length_map, List.length_take]; omega), g.poke hDn (wd.free hDn), tb.upd hDP, by rw [upd_ne nlD]; exact hl', by rw [upd_ne npD]; exact hp', ?_⟩
      rw [upd_same, map_take_succ _ ez]
      rfl
    · rintro H' ⟨g, tb, hl', hp', hacc⟩
      rw [List.take_of_length_le (by omega)] at hacc
      refine ⟨p, D, _, _, rfl, rfl, hp', hacc, by show 1 + _ ≤ _; rw [List.length_map]; exact Nat.le_trans (show _ ≤ 1000 by omega) (by decide), fun m hm => ?_⟩
      refine ⟨m, 0 :: (ss.filter (inHere r u)).map fun z => z.getD 4 0, rfl, SqL.of (by rw [upd_same, List.map_cons, List.map_map]; rfl), by simp, fun mx h1 h2 => ?_⟩
      rw [← foldl_max_eq _ _ _ h1 h2, ← least_here]
      exact q _ (g.trans (Gr.new g.wd hm)) (tb.same (same_new hm))
end
end Cr
set_option Elab.async false
set_option linter.all false
set_option maxRecDepth 100000
set_option maxHeartbeats 4000000

namespace Cr
open PySem PySem.Spec PyProof.Rows L2
abbrev s_law_made : Stmt := top 34
abbrev n_law_made : List Str := ["_law_rows"]
abbrev a_law_made : List Str := ["_law_rows"]
theorem sc_law_made : FnScope n_law_made a_law_made (defScope s_law_made) := ⟨rfl, rfl, rfl, by decide +kernel, rfl, by decide +kernel, by decide +kernel⟩
section
variable {Ps : List Addr} {G H : Hp} {x dx : Addr} {o1 o2 : HO}
theorem new_wd (wd : Wd Ps G H) (hx : H x = none) (hdx : H dx = none) (hne : dx ≠ x) : Same H (upd (upd H dx o1) x o2) ∧ Wd (x :: Ps) G (upd (upd H dx o1) x o2) := by
  have s2 : Same H (upd (upd H dx o1) x o2) := (same_new hdx).trans (same_new (by rw [upd_ne hne.symm]; exact hx))
  have g2 := Gr.skip wd s2
  refine ⟨s2, g2.wd.same, fun c hc => ?_, fun c hc => ?_⟩
  · rcases List.mem_cons.mp hc with rfl | hc
    · exact wd.free hx
    · exact wd.off c hc
  · rcases List.mem_cons.mp hc with rfl | hc
    · rw [upd_same]; exact fun z => nomatch z
    · exact g2.wd.on c hc
end
section
variable {P : Program} {w : World} {K : PySem.W.Frag} {mg : Str → Option Value} {base : Heap} {ad : Ad} {Ps : List Addr} {H : Hp}
structure RawM (K : PySem.W.Frag) (mg : Str → Option Value) (base : Heap) (ad : Ad) : Prop extends RawH K mg, RawP K mg base ad where
  made : DefR K mg "_law_made" s_law_made a_law_made
def spMade (ad : Ad) (K : PySem.W.Frag) (Ps : List Addr) : Sp := fun vs H Q _ => ∃ (G : Hp) (t : Addr) (h : Int) (ra da sa : Addr) (rs ds ss : List (List Int)), vs = [.ref t] ∧ Wd Ps G H ∧ Tabs Ps H ∧ RowsAt K G t h ra da sa rs ds ss ∧ GoodH h rs ds ss ∧
  ∀ x G' H', Gr Ps G H G' H' → Tabs Ps H' → HouseAt ad K G' x h rs ds ss → Q (.ref x) H'
theorem c_made (T : RawM K mg base ad) (hP : ad.tNum ∈ Ps) : C8.Cal P w K mg base 6 "_law_made" (spMade ad K Ps) [] := by
  refine T.made.cal sc_law_made (fun vs H Q E h => ?_) (fun f cdv A outer s H vs Q E hr h => ?_)
  · obtain ⟨G, t, h, ra, da, sa, rs, ds, ss, rfl, _⟩ := h
    rfl
  · obtain ⟨G, t, h, ra, da, sa, rs, ds, ss, rfl, wd, tbs, hR, hG, q⟩ := h
    have b_list := T.b_list
    have k_House : MakX P w K mg base 4 "House" ad.cH (spHi ad K Ps) := mk_house T.toRawP hP
    refine ⟨_, (pss_one (ps_ret (pe_mx0 k_House hr (by decide)  rfl (pa_cons (pe_ix ix_seq (pv 0) pe_int (fun _ _ => rfl)) (pa_cons (pe_callTy call_list_of (by rfl) b_list (by decide +kernel) (pa_cons (pe_ix ix_seq (pv 0) pe_int (fun _ _ => rfl)) pa_nil)) (pa_cons (pe_callTy call_list_of (by rfl) b_list (by decide +kernel) (pa_cons (pe_ix ix_seq (pv 0) pe_int (fun _ _ => rfl)) pa_nil)) (pa_cons (pe_callTy call_list_of (by rfl) b_list (by decide +kernel) (pa_cons (pe_ix ix_seq (pv 0) pe_int (fun _ _ => rfl)) pa_nil)) pa_nil))))))), ?_⟩
    obtain ⟨xr, er, vr⟩ := id hR.r
    obtain ⟨xd, ed, vd⟩ := id hR.d
    obtain ⟨xs, es, vs⟩ := id hR.s
    refine ⟨_, rfl, .inr (.inl ⟨t, _, _, .int h, rfl, rfl, Same.tup wd.same hR.t, atI_nat (j := 0) rfl, ?_⟩)⟩
    refine ⟨_, rfl, .inr (.inl ⟨t, _, _, .ref ra, rfl, rfl, Same.tup wd.same hR.t, atI_nat (j := 1) rfl, ra, xr, rfl, .inl (SqL.of (wd.same _ _ er)), fun pa hpa => ?_⟩)⟩
    have g1 := Gr.alloc (o := .lst xr) wd hpa
    refine ⟨_, rfl, .inr (.inl ⟨t, _, _, .ref da, rfl, rfl, Same.tup (g1.up.trans g1.wd.same) hR.t, atI_nat (j := 2) rfl, da, xd, rfl, .inl (SqL.of ((g1.up.trans g1.wd.same) _ _ ed)), fun pb hpb => ?_⟩)⟩
    have g2 := g1.trans (Gr.alloc (o := .lst xd) g1.wd hpb)
    refine ⟨_, rfl, .inr (.inl ⟨t, _, _, .ref sa, rfl, rfl, Same.tup (g2.up.trans g2.wd.same) hR.t, atI_nat (j := 3) rfl, sa, xs, rfl, .inl (SqL.of ((g2.up.trans g2.wd.same) _ _ es)), fun pc hpc => ?_⟩)⟩
    have sB := (Gr.alloc (o := .lst xd) g1.wd hpb).up
    have sC := (Gr.alloc (o := .lst xs) g2.wd hpc).up
    have g3 := g2.trans (Gr.alloc (o := .lst xs) g2.wd hpc)
    have t3 : Tabs Ps _ := ((tbs.same (same_new (o := .lst xr) hpa)).same (same_new (o := .lst xd) hpb)).same (same_new (o := .lst xs) hpc)
    refine fun x dx hx hdx hne => ?_
    obtain ⟨s2, wd2⟩ := new_wd (o1 := .own x) (o2 := .ins ad.cH dx []) g3.wd hx hdx hne
    have rowsA : Rows K (upd (upd (upd G pa (.lst xr)) pb (.lst xd)) pc (.lst xs)) pa rs := ⟨xr, SqL.of ((sB.trans sC) _ _ upd_same), rowsV_same g3.up vr⟩
    have rowsB : Rows K (upd (upd (upd G pa (.lst xr)) pb (.lst xd)) pc (.lst xs)) pb ds := ⟨xd, SqL.of (sC _ _ upd_same), rowsV_same g3.up vd⟩
    have rowsC : Rows K (upd (upd (upd G pa (.lst xr)) pb (.lst xd)) pc (.lst xs)) pc ss := ⟨xs, SqL.of upd_same, rowsV_same g3.up vs⟩
    refine ⟨_, x, dx, h, pa, pb, pc, rs, ds, ss, rfl, wd2, t3.same s2, t3.nin hx, upd_same, rowsA, rowsB, rowsC, hG.w4, hG.w3, hG.w5, fun _ G6 H6 a' b' c' _ _ _ g6 t6 hx6 r1 r2 r3 => ⟨rfl, ?_⟩, fun z e => by rw [hG.bad] at e; cases e⟩
    have g7 := g3.trans (g6.made g3.wd hx s2 hx6)
    have sx := same_new (o := .ins ad.cH dx (hf h a' b' c')) (g6.wd.off x List.mem_cons_self)
    exact q x _ H6 g7 t6 ⟨⟨dx, a', b', c', upd_same, r1.same sx, r2.same sx, r3.same sx⟩, hG.bad, hG.w4, hG.w3, hG.w5⟩
end
end Cr
set_option Elab.async false
set_option linter.all false
set_option maxRecDepth 100000
set_option maxHeartbeats 4000000
/-! Slices, joins behind an if -/
namespace Cr
open PySem PySem.Spec PyProof.Rows L2
theorem Gr.down {Fs : List Addr} {G H G1 H1 : Hp} (g : Gr Fs G H G1 H1) (w : Wd Fs G H) : Gr Fs G H G H1 := ⟨Same.refl _, ⟨g.up.trans g.wd.same, w.off, g.wd.on⟩, g.keep, fun _ e _ => e⟩
theorem lcG {J : It} {n : Nat} {Gd : Hp → Prop} {Y : Nat → Hp → V → Hp → Prop} {B : V → Hp → (Hp → Prop) → Prop} {H0 : Hp} {Qd : Hp → Prop} (w : Walk J n Gd Y) (Pv : Nat → Hp → Prop) (h0 : Pv 0 H0) (hG : ∀ i H, i ≤ n → Pv i H → Gd H)
    (hs : ∀ i x H H', i < n → Pv i H → Y i H x H' → B x H' (Pv (i + 1))) (hd : ∀ H, Pv n H → Qd H) :
    ∃ W : Nat → Nat → Hp → Prop, (∃ m, W 0 m H0) ∧ ∀ i m H, W i m H → (J.stop i H ∧ Qd H) ∨ (J.go i H ∧ ∃ Nx : Hp → Prop, (∀ H', Nx H' → ∃ m', m' < m ∧ W (i + 1) m' H') ∧ ∀ x H', J.yld i H x H' → B x H' Nx) := by
  refine ⟨fun i m H => m = n - i ∧ i ≤ n ∧ Pv i H, ⟨n, by simp, Nat.zero_le _, h0⟩, ?_⟩
  rintro i m H ⟨rfl, hi, p⟩
  have q := hG i H hi p
  by_cases hlt : i < n
  · exact .inr ⟨w.goes i H hlt q, Pv (i + 1), fun H' p' => ⟨n - (i + 1), by omega, rfl, hlt, p'⟩, fun x H' y => hs i x H H' hlt p (w.yields i H x H' hlt q y)⟩
  · have e : i = n := by omega
    subst e
    exact .inl ⟨w.stops H q, hd H p⟩
theorem pi_zipK {X : Cx} {K : PySem.W.Frag} {e e2 : Expr} {ta : TA} {p pos tpos : Pos} {elts : List Expr} {kk : Nat} (hK : X.K = K) (hg : Gl X "zip") (hm : X.mg "zip" = none) (ha : PA X [e, e2] ta)
    (hs : starEach [e, e2] X.env = (false, eval e X.env) :: starEach [e2] X.env := by rfl) (hpl : (backTo pos (starEach [e2] X.env)).any (·.1) = false := by rfl) :
    PI X (.Tuple elts kk tpos) (.Call (.Name "zip" p) [e, e2] [] pos) (iZip K ta) := by
  subst hK
  exact pi_zip hg hm ha hs hpl
theorem le1000 {n : Nat} (h : n ≤ 1000) : n ≤ sizeLine := Nat.le_trans h (by rw [sizeLine_eq]; decide)
theorem cutTo (xs : List V) (k : Nat) : cutV xs none (some (k : Int)) = xs.take k := by
  unfold cutV
  rw [HT.sIx_none, HT.sIx_nat, List.drop_zero, Nat.sub_zero]
  by_cases h : k ≤ xs.length
  · rw [Nat.min_eq_left h]
  · rw [Nat.min_eq_right (by omega), List.take_of_length_le (Nat.le_refl _), List.take_of_length_le (by omega)]
theorem cutFrom (xs : List V) (k : Nat) : cutV xs (some ((k : Int) + 1)) none = xs.drop (k + 1) := by
  rw [show ((k : Int) + 1) = ((k + 1 : Nat) : Int) by omega]
  unfold cutV
  rw [HT.sIx_none, HT.sIx_nat]
  by_cases h : k + 1 ≤ xs.length
  · rw [Nat.min_eq_left h, List.take_of_length_le (by rw [List.length_drop]; omega)]
  · rw [Nat.min_eq_right (by omega), Nat.sub_self, List.take_zero, List.drop_of_length_le (by omega)]
/-- one item changed -/
theorem spliced {ns : List Int} {k : Nat} (x : Int) (h : k < ns.length) : ∃ ns' : List Int, ns'.length = ns.length ∧ (cutV (ns.map V.int) none (some (k : Int)) ++ [V.int x]) ++ cutV (ns.map V.int) (some ((k : Int) + 1)) none = ns'.map V.int := by
  refine ⟨(ns.take k ++ [x]) ++ ns.drop (k + 1), ?_, ?_⟩
  · rw [List.length_append, List.length_append, List.length_take, List.length_drop]
    show min k ns.length + 1 + _ = _
    omega
  · rw [cutTo, cutFrom, List.map_append, List.map_append, List.map_take, List.map_drop]
    rfl
theorem cut_small {xs : List V} {lo hi : Option Int} (h : xs.length < 32) : (cutV xs lo hi).length < 32 := Nat.lt_of_le_of_lt (cutV_length xs lo hi) h
theorem seq_ifS {c : TT} {t u rest : TS} {D : Ends} {σ : L2.St} {H : Hp} (Pv : L2.St → Hp → Prop) (hd : ∀ σ H, Pv σ H → rest D σ H) (h : ∀ κ : L2.St → Hp → Prop, (∀ σ H, Pv σ H → κ σ H) → tIfS c t u { D with nx := κ } σ H) : tSeq (tIfS c t u) rest D σ H := h (rest D) hd
def IntsL (K : PySem.W.Frag) (G : Hp) (v : V) (ns : List Int) : Prop := ∃ a, v = .ref a ∧ SqL K G a (ns.map V.int)
theorem ints_same {K : PySem.W.Frag} {G G' : Hp} (e : Same G G') : ∀ {xs : List V} {ls : List (List Int)}, Paired (IntsL K G) xs ls → Paired (IntsL K G') xs ls
  | _, _, .nil => .nil
  | _, _, .cons ⟨a, h1, h2⟩ r => .cons ⟨a, h1, e.seq h2⟩ (ints_same e r)
theorem seq_cut {t u : TS} {D : Ends} {σ : L2.St} {H : Hp} (Pv : L2.St → Hp → Prop) (hd : ∀ σ H, Pv σ H → u D σ H) (h : ∀ κ : L2.St → Hp → Prop, (∀ σ H, Pv σ H → κ σ H) → t { D with nx := κ } σ H) : tSeq t u D σ H := h (u D) hd
theorem u65 {k : Nat} {A : Around} (r : Room k A) : A.units + 65 < cLine := by have := r.un; omega
/-- a sum over the numbers below n -/
def sumTo (f : Nat → Int) : Nat → Int
  | 0 => 0
  | n + 1 => sumTo f n + f n
theorem sumTo_succ (f : Nat → Int) (n : Nat) : sumTo f (n + 1) = sumTo f n + f n := rfl
theorem sumTo_congr {f g : Nat → Int} : ∀ {n : Nat}, (∀ i, i < n → f i = g i) → sumTo f n = sumTo g n
  | 0, _ => rfl
  | n + 1, h => by rw [sumTo_succ, sumTo_succ, sumTo_congr fun i hi => h i (Nat.lt_succ_of_lt hi), h n (Nat.lt_succ_self n)]
theorem sumTo_add (f g : Nat → Int) : ∀ n : Nat, sumTo (fun i => f i + g i) n = sumTo f n + sumTo g n
  | 0 => rfl
  | n + 1 => by rw [sumTo_succ, sumTo_succ, sumTo_succ, sumTo_add f g n]; omega
theorem sumTo_sub (f g : Nat → Int) : ∀ n : Nat, sumTo (fun i => f i - g i) n = sumTo f n - sumTo g n
  | 0 => rfl
  | n + 1 => by rw [sumTo_succ, sumTo_succ, sumTo_succ, sumTo_sub f g n]; omega
theorem sumTo_zero : ∀ n : Nat, sumTo (fun _ => 0) n = 0
  | 0 => rfl
  | n + 1 => by rw [sumTo_succ, sumTo_zero n]; rfl
theorem max_if' (a b : Int) : (if b > a then b else a) = max a b := by
  by_cases h : b > a
  · rw [if_pos h]; omega
  · rw [if_neg h]; omega
theorem min_if' (a b : Int) : (if b < a then b else a) = min a b := by
  by_cases h : b < a
  · rw [if_pos h]; omega
  · rw [if_neg h]; omega
/-! ### prices: a list of lists of ints -/
def PricesA (K : PySem.W.Frag) (G : Hp) (a : Addr) (ps : List (List Int)) : Prop := ∃ xs, SqL K G a xs ∧ Paired (IntsL K G) xs ps
theorem PricesA.same {K : PySem.W.Frag} {G G' : Hp} {a : Addr} {ps : List (List Int)} (e : Same G G') (h : PricesA K G a ps) : PricesA K G' a ps := let ⟨xs, h1, h2⟩ := h; ⟨xs, e.seq h1, ints_same e h2⟩
/-- the price of room r in hour t, 0 where there is none -/
def pr (ps : List (List Int)) (r t : Nat) : Int := (ps.getD t []).getD r 0
def fitP (h : Int) (nr : Nat) (ps : List (List Int)) : Prop := (ps.length : Int) = h ∧ ∀ row ∈ ps, row.length = nr ∧ ∀ p ∈ row, -1000000 ≤ p ∧ p ≤ 1000000
theorem getD_out {α : Type} {l : List α} {i : Nat} {d : α} (h : l.length ≤ i) : l.getD i d = d := by
  rw [List.getD_eq_getElem?_getD, List.getElem?_eq_none h]
  rfl
theorem pr_out {ps : List (List Int)} {r t : Nat} (h : ps.length ≤ t) : pr ps r t = 0 := by
  unfold pr
  rw [getD_out h]
  rfl
theorem getD_at {α : Type} {l : List α} {i : Nat} {d : α} (h : i < l.length) : l.getD i d = l[i] := by
  rw [List.getD_eq_getElem?_getD, List.getElem?_eq_getElem h]
  rfl
theorem pr_in {h : Int} {nr : Nat} {ps : List (List Int)} (f : fitP h nr ps) {r t : Nat} : -1000000 ≤ pr ps r t ∧ pr ps r t ≤ 1000000 := by
  unfold pr
  by_cases ht : t < ps.length
  · rw [getD_at ht]
    by_cases hr : r < (ps[t]).length
    · rw [getD_at hr]
      exact (f.2 _ (List.getElem_mem ht)).2 _ (List.getElem_mem hr)
    · rw [getD_out (by omega)]
      decide
  · rw [show ps.getD t [] = [] from getD_out (by omega)]
    show -1000000 ≤ (0 : Int) ∧ (0 : Int) ≤ 1000000
    decide
/-- what stands at row t of prices -/
theorem pr_row {K : PySem.W.Frag} {G : Hp} {h : Int} {nr : Nat} {ps : List (List Int)} {xs : List V} (f : fitP h nr ps) (hp : Paired (IntsL K G) xs ps) {t : Nat} (ht : t < ps.length) :
    ∃ a, xs[t]? = some (.ref a) ∧ SqL K G a ((ps.getD t []).map V.int) ∧ (ps.getD t []).length = nr := by
  obtain ⟨v, hv, a, rfl, hs⟩ := paired_get' hp (List.getElem?_eq_getElem ht)
  rw [getD_at ht]
  exact ⟨a, hv, hs, (f.2 _ (List.getElem_mem ht)).1⟩
theorem ints_getD {ns : List Int} {k : Nat} (hk : k < ns.length) : atI (ns.map V.int) ((k : Nat) : Int) = some (.int (ns.getD k 0)) := by
  rw [getD_at hk]
  exact atI_nat (by rw [List.getElem?_map, List.getElem?_eq_getElem hk]; rfl)
/-- prices whose list is the heap's own -/
def PricesL (K : PySem.W.Frag) (G : Hp) (a : Addr) (ps : List (List Int)) : Prop := ∃ xs, G a = some (.lst xs) ∧ Paired (IntsL K G) xs ps
theorem PricesL.same {K : PySem.W.Frag} {G G' : Hp} {a : Addr} {ps : List (List Int)} (e : Same G G') (h : PricesL K G a ps) : PricesL K G' a ps := let ⟨xs, h1, h2⟩ := h; ⟨xs, e _ _ h1, ints_same e h2⟩
theorem PricesL.toA {K : PySem.W.Frag} {G : Hp} {a : Addr} {ps : List (List Int)} (h : PricesL K G a ps) : PricesA K G a ps := let ⟨xs, h1, h2⟩ := h; ⟨xs, SqL.of h1, h2⟩
end Cr
set_option Elab.async false
set_option linter.all false
set_option maxRecDepth 100000
set_option maxHeartbeats 4000000

/-! read: the house of a text -/
namespace Cr
open PySem PySem.Spec PyProof.Rows L2
abbrev sread : Stmt := top 25
abbrev nread : List Str := ["text", "parts", "latest", "number", "row", "words", "sort", "hours", "rooms", "doors", "stays", "_", "word"]
abbrev aread : List Str := ["text"]
theorem scread : FnScope nread aread (defScope sread) := ⟨rfl, rfl, rfl, by decide +kernel, rfl, by decide +kernel, by decide +kernel⟩
def hOf (st : RS) : Int := ((st.2 0).headD []).headD 0
def WordsOk (ws : List Str) : Prop := ∀ z ∈ ws, z.length ≤ 600 ∧ (numW z = true → ∃ n, PySem.intText? z = some n)
structure TextOf (t : Str) (rows : List (List Str)) : Prop where
  len : t.length ≤ 100000
  few : rows.length < 100
  ln : ∃ ls, Txt.split t (sgn 10) = ls ∧ Paired (fun l ws => Txt.split l (sgn 32) = ws ∧ l.length ≤ 1000 ∧ ws ≠ [] ∧ WordsOk ws) ls rows
structure SortsR (K : PySem.W.Frag) (mg : Str → Option Value) : Prop where
  ex : ∃ d o, mg "SORTS" = some (.ref d) ∧ K.lookup d = some o ∧ o.cls = .type "tuple" ∧ o.dict = none ∧ ∀ H : Hp, SqT K H d ([("hours" : Str), "room", "door", "stay"].map V.str)
structure RawRd (K : PySem.W.Frag) (w : World) (mg : Str → Option Value) (base : Heap) (ad : Ad) (cBT cR tR : Addr) : Prop extends RawBt K mg base ad cBT, RawIr K w mg base cR tR where
  rd : DefR K mg "read" sread aread
  sorts : SortsR K mg
  b_tuple : mg "tuple" = none
  b_int : mg "int" = none
def spRead (ad : Ad) (K : PySem.W.Frag) (Ps : List Addr) (cBT : Addr) : Sp := fun vs H Q E => ∃ (G : Hp) (t : Str) (rows : List (List Str)), vs = [.str t] ∧ Wd Ps G H ∧ Tabs Ps H ∧ TextOf t rows ∧
  (∀ i, goR 0 begR rows = .inl i → ∀ cls d G' H', RaisedBt cBT i cls d H' → Gr Ps G H G' H' → Tabs Ps H' → E cls d H') ∧
  ∀ st, goR 0 begR rows = .inr st →
    (∀ z, houseBad (hOf st) (st.2 1) (st.2 2) (st.2 3) = some z → ∀ cls d G' H', Raised ad z cls d H' → Gr Ps G H G' H' → Tabs Ps H' → E cls d H') ∧
    (houseBad (hOf st) (st.2 1) (st.2 2) (st.2 3) = none → ∀ x G' H', Gr Ps G H G' H' → Tabs Ps H' → HouseAt ad K G' x (hOf st) (st.2 1) (st.2 2) (st.2 3) → Q (.ref x) H')
abbrev sorts4 : List Str := ["hours", "room", "door", "stay"]
theorem sorts_at {z : Str} {so n : Nat} (h : cntOf z = some (so, n)) : sorts4[so]? = some z ∧ ∀ m, m < so → sorts4[m]? ≠ some z := by
  unfold cntOf at h
  split at h
  · rename_i e
    cases h
    exact ⟨by rw [e]; rfl, fun m hm => absurd hm (Nat.not_lt_zero _)⟩
  rename_i n1
  split at h
  · rename_i e
    cases h
    refine ⟨by rw [e]; rfl, fun m hm => ?_⟩
    obtain rfl : m = 0 := by omega
    rw [e]
    decide +kernel
  rename_i n2
  split at h
  · rename_i e
    cases h
    refine ⟨by rw [e]; rfl, fun m hm => ?_⟩
    rw [e]
    rcases (show m = 0 ∨ m = 1 by omega) with rfl | rfl <;> decide +kernel
  rename_i n3
  split at h
  · rename_i e
    cases h
    refine ⟨by rw [e]; rfl, fun m hm => ?_⟩
    rw [e]
    rcases (show m = 0 ∨ m = 1 ∨ m = 2 by omega) with rfl | rfl | rfl <;> decide +kernel
  cases h
/-- the four parts under way -/
structure PartsAt (K : PySem.W.Frag) (H G' H' : Hp) (pp : Addr) (ps : Nat → Addr) (xs : Nat → List V) (rs : Nat → List (List Int)) : Prop where
  at_ : G' pp = some (.lst [.ref (ps 0), .ref (ps 1), .ref (ps 2), .ref (ps 3)])
  cell : ∀ j, j < 4 → H' (ps j) = some (.lst (xs j)) ∧ H (ps j) = none ∧ G' (ps j) = none ∧ RowsV K G' (xs j) (rs j)
  ne : ∀ i j, i < 4 → j < 4 → i ≠ j → ps i ≠ ps j
section
variable {K : PySem.W.Frag} {Ps : List Addr} {G H G' H' G2 H2 : Hp} {pp : Addr} {ps : Nat → Addr} {xs : Nat → List V} {rs : Nat → List (List Int)}
theorem PartsAt.step (p : PartsAt K H G' H' pp ps xs rs) (wd : Wd Ps G H) (g : Gr Ps G' H' G2 H2) : PartsAt K H G2 H2 pp ps xs rs :=
  ⟨g.up _ _ p.at_, fun j hj => by
    obtain ⟨c1, c2, c3, c4⟩ := p.cell j hj
    exact ⟨g.keep _ _ (wd.nin c2) c1, c2, g.fresh _ c3 (by rw [c1]; exact fun z => nomatch z), rowsV_same g.up c4⟩, p.ne⟩
theorem PartsAt.push (p : PartsAt K H G' H' pp ps xs rs) {so : Nat} (hs : so < 4) {v : V} {ns : List Int} (hr : RowT K G' v ns) :
    PartsAt K H G' (upd H' (ps so) (.lst (xs so ++ [v]))) pp ps (fun j => if j = so then xs j ++ [v] else xs j) (fun j => if j = so then rs j ++ [ns] else rs j) :=
  ⟨p.at_, fun j hj => by
    obtain ⟨c1, c2, c3, c4⟩ := p.cell j hj
    by_cases e : j = so
    · subst e
      rw [if_pos rfl, if_pos rfl]
      exact ⟨upd_same, c2, c3, paired_snoc c4 hr⟩
    · rw [if_neg e, if_neg e]
      exact ⟨by rw [upd_ne (p.ne j so hj hs e)]; exact c1, c2, c3, c4⟩, p.ne⟩
end
section
variable {P : Program} {w : World} {K : PySem.W.Frag} {mg : Str → Option Value} {base : Heap} {ad : Ad} {cBT cR tR : Addr} {Ps : List Addr} {H : Hp}
theorem c_read (T : RawRd K w mg base ad cBT cR tR) (hP : ad.tNum ∈ Ps) (hP2 : tR ∈ Ps) : CalX P w K mg base 6 "read" (spRead ad K Ps cBT) := by
  refine T.rd.calX scread (fun vs H Q E h => ?_) (fun f cdv A outer s H vs Q E hr h => ?_)
  · obtain ⟨G, t, rows, rfl, _⟩ := h
    rfl
  · obtain ⟨G, t, rows, rfl, wd, tbs, tx, qb, qr⟩ := h
    have b_enumerate := T.b_enumerate
    have b_tuple := T.b_tuple
    have b_int := T.b_int
    obtain ⟨dS, oS, m_SORTS, lS, cS, uS, hS⟩ := T.sorts.ex
    have k__is_row : C8.Cal P w K mg base 2 "_is_row" (spIsRow K Ps) [] := c_isrow T.toRawIr hP2
    have k_BadText : MakE P w K mg base 1 "BadText" cBT (spBTi cBT) := mk_bt T.toRawBt
    have k_House : MakX P w K mg base 4 "House" ad.cH (spHi ad K Ps) := mk_house T.toRawP hP
    refine ⟨_, (pss_cons (ps_setLc (i := 1) (own := [("_", 11)]) rfl scread.nd rfl rfl (sw_true rfl rfl rfl (by decide +kernel)) (pi_tup (pe_glob (v := .ref _) rfl m_SORTS rfl)) (blkOk_by (own := [("_", 11)]) (N := nread) (sc := defScope sread) (by decide +kernel)) (fun _ _ _ _ _ => (pg_name (i := 11) scread.nd rfl (Or.inl rfl) (Or.inr rfl))) (fun _ _ _ _ _ => pts_nil) (fun _ _ _ _ _ => (pe_lst pa_nil)))
      (pss_cons (ps_set (i := 2) scread.nd rfl (Or.inl rfl) pe_int)
      (pss_cons (ps_for (passes_of rfl) rfl (pi_enum (by rfl) b_enumerate (pa_cons (pe_split (pv 0) pe_str) pa_nil)) (pg_tup rfl (pgs_cons (pg_name (i := 3) scread.nd rfl (Or.inl rfl)) (pgs_cons (pg_name (i := 4) scread.nd rfl (Or.inl rfl)) pgs_nil)))
        (pss_cons (ps_set (i := 5) scread.nd rfl (Or.inl rfl) (pe_split (pv 4) pe_str))
      (pss_cons (ps_if (pt_not (pt_val (C8.pe_c k__is_row hr (by decide) rfl (pa_cons (pv 5) pa_nil))))
        (pss_one (ps_raise rfl (takes_of rfl rfl rfl rfl) (pmk_c k_BadText hr (by decide) rfl (pa_cons (pv 3) pa_nil))))
        pss_nil)
      (pss_cons (ps_set (i := 6) scread.nd rfl (Or.inl rfl) (pe_bm PySem.F.plainAttrs_tuple PySem.F.slot_tuple_index PySem.F.type_tuple_index mt_tup_index (pe_glob (v := .ref _) rfl m_SORTS rfl) (pa_cons (pe_ix ix_seq (pv 5) pe_int (fun _ _ => rfl)) pa_nil)))
      (pss_cons (ps_if (PW.pt (pw_or (pt_cmpR op_lt (pv 6) (pv 2) (nomark _)) (pw_or1 (pt_cmpR op_ne (pe_cmpR op_eq (pv 6) pe_int (nomark _)) (pe_cmpR op_eq (pv 3) pe_int (nomark _)) (nomark _)))))
        (pss_one (ps_raise rfl (takes_of rfl rfl rfl rfl) (pmk_c k_BadText hr (by decide) rfl (pa_cons (pv 3) pa_nil))))
        pss_nil)
      (pss_cons (ps_set (i := 2) scread.nd rfl (Or.inl rfl) (pv 6))
      (pss_one (ps_expr (pe_bm PySem.F.plainAttrs_list PySem.F.slot_list_append PySem.F.type_list_append mt_append (pe_ix ix_seq (pv 1) (pv 6) (fun _ _ => rfl)) (pa_cons (pe_callTy call_tuple_of (by rfl) b_tuple (by decide +kernel) (pa_cons (pe_lc (own := [("word", 12)]) rfl scread.nd (pi_list (pe_slice sl_list (pv 5) (po_some pe_int) po_none)) (blkOk_by (own := [("word", 12)]) (N := nread) (sc := defScope sread) (by decide +kernel)) (fun _ _ _ _ _ => (pg_name (i := 12) scread.nd rfl (Or.inl rfl) (Or.inr rfl))) (fun _ _ _ _ _ => pts_nil) (fun _ _ _ _ _ => (pe_callTy call_int_str (by rfl) b_int (by decide +kernel) (pa_cons (pv 12 rfl (Or.inl rfl)) pa_nil)))) pa_nil)) pa_nil))))))))))
      (pss_cons (ps_asg (pv 1) (pg_lst rfl (pgs_cons (pg_name (i := 7) scread.nd rfl (Or.inl rfl)) (pgs_cons (pg_name (i := 8) scread.nd rfl (Or.inl rfl)) (pgs_cons (pg_name (i := 9) scread.nd rfl (Or.inl rfl)) (pgs_cons (pg_name (i := 10) scread.nd rfl (Or.inl rfl)) pgs_nil))))))
      (pss_one (ps_ret (pe_mx k_House hr (by decide) (takes_of rfl rfl rfl rfl) rfl (pa_cons (pe_ix ix_seq (pe_ix ix_seq (pv 7) pe_int (fun _ _ => rfl)) pe_int (fun _ _ => rfl)) (pa_cons (pv 8) (pa_cons (pv 9) (pa_cons (pv 10) pa_nil))))))))))), ?_⟩
    obtain ⟨ls, hls, hpr⟩ := tx.ln
    have hlen : ls.length = rows.length := Paired.length hpr
    have hfew := tx.few
    have e10 : ("\n" : Str) = sgn 10 := by decide +kernel
    have e32 : (" " : Str) = sgn 32 := by decide +kernel
    have szL : ∀ n : Nat, n ≤ 100002 → n ≤ sizeLine := fun n h => by rw [sizeLine_eq]; omega
    refine ⟨dS, rfl, ⟨_, hS H⟩, fun D hD => ?_⟩
    have hDP : D ∉ Ps := wd.nin hD
    refine lc_tup (K := K) (a := dS) (xs := [("hours" : Str), "room", "door", "stay"].map V.str) (fun i H' => ∃ ia : List Addr, Gr Ps G H G H' ∧ Tabs Ps H' ∧ H' D = some (.lst (ia.map V.ref)) ∧ ia.length = i ∧ ia.Nodup ∧ ∀ p ∈ ia, H' p = some (.lst []) ∧ H p = none ∧ p ≠ D)
      ⟨[], Gr.new wd hD, tbs.same (same_new hD), upd_same, rfl, List.nodup_nil, fun p hp => nomatch hp⟩ (fun _ _ _ _ => hS _) ?_ ?_
    · rintro i x H' hx ⟨ia, g, tb, hD', hl, nd, hc⟩
      refine ⟨by repeat rw [wipe_set (by decide)]
                 exact wipe_wipe _ _, ?_⟩
      refine ⟨Nat.zero_le _, fun p hp => ?_⟩
      have npD : D ≠ p := ne_of_none hD' hp
      refine ⟨_, by rw [upd_ne npD]; exact hD', ?_, ia ++ [p], ?_, ?_, ?_, ?_, ?_, ?_⟩
      · have hi : i < 4 := (List.getElem?_eq_some_iff.mp hx).1
        exact small1000 (by rw [List.length_map]; omega)
      · exact (g.trans (Gr.new g.wd hp)).poke hD (wd.free hD)
      · exact (tb.same (same_new hp)).upd hDP
      · rw [upd_same, List.map_append]; rfl
      · rw [List.length_append, hl]; rfl
      · rw [List.nodup_append]
        refine ⟨nd, by simp, fun a ha b hb e => ?_⟩
        obtain rfl := List.mem_singleton.mp hb
        have := (hc a ha).1
        rw [e, hp] at this
        cases this
      · intro q hq
        rcases List.mem_append.mp hq with h | h
        · obtain ⟨c1, c2, c3⟩ := hc q h
          exact ⟨by rw [upd_ne c3, upd_ne (ne_of_none c1 hp)]; exact c1, c2, c3⟩
        · obtain rfl := List.mem_singleton.mp h
          exact ⟨by rw [upd_ne npD.symm, upd_same], g.free' hp, npD.symm⟩
    rintro H1 ⟨ia, g1, t1, hD1, hl, nd, hc⟩
    obtain ⟨p0, p1, p2, p3, rfl⟩ := len4 hl
    have gD := g1.close hD hD1 hDP (wd.free hD)
    have pa0 : PartsAt K H (upd G D (.lst [.ref p0, .ref p1, .ref p2, .ref p3])) H1 D (fun j => [p0, p1, p2, p3].getD j p0) (fun _ => []) (fun _ => []) := by
      refine ⟨upd_same, fun j hj => ?_, fun i j hi hj hij => ?_⟩
      · have hm : [p0, p1, p2, p3].getD j p0 ∈ [p0, p1, p2, p3] := by
          rw [List.getD_eq_getElem?_getD, List.getElem?_eq_getElem (by simpa using hj), Option.getD_some]
          exact List.getElem_mem _
        obtain ⟨c1, c2, c3⟩ := hc _ hm
        exact ⟨c1, c2, by rw [upd_ne c3]; exact wd.free c2, .nil⟩
      · intro e
        rw [List.getD_eq_getElem?_getD, List.getD_eq_getElem?_getD, List.getElem?_eq_getElem (by simpa using hi), List.getElem?_eq_getElem (by simpa using hj), Option.getD_some, Option.getD_some] at e
        exact hij (List.getElem_inj nd |>.mp e)
    generalize hG1 : (upd G D (.lst [.ref p0, .ref p1, .ref p2, .ref p3])) = G1 at pa0
    replace gD : Gr Ps G H G1 H1 := by rw [← hG1]; exact gD
    generalize (fun j => [p0, p1, p2, p3].getD j p0) = ps at pa0
    clear hc nd hl hG1 hD1
    -- the rows
    refine ⟨_, rfl, ⟨t, rfl⟩, t, sgn 10, rfl, by rw [e10], rfl, szL _ (by have := tx.len; omega), fun pl hpl => ⟨pl, ls.map V.str, rfl, ?_, ?_⟩⟩
    · rw [hls]
      exact SqL.of upd_same
    have gL := gD.trans (Gr.alloc (o := .lst (ls.map V.str)) gD.wd hpl)
    have pa1 := pa0.step wd (Gr.alloc (o := .lst (ls.map V.str)) gD.wd hpl)
    have tL : Tabs Ps (upd H1 pl (.lst (ls.map V.str))) := t1.same (same_new hpl)
    have hG2 : upd G1 pl (.lst (ls.map V.str)) pl = some (.lst (ls.map V.str)) := upd_same
    rw [hls]
    refine for_enum (K := K) (a := pl) (xs := ls.map V.str) (fun i σ H' => ∃ (st : RS) (v3 v4 v5 v6 : Option V) (G' : Hp) (xs : Nat → List V), σ = [some (.str t), some (.ref D), some (.int (st.1 : Int)), v3, v4, v5, v6, none, none, none, none, none, none] ∧
        goR 0 begR rows = goR i st (rows.drop i) ∧ OkR i st ∧ Gr Ps G H G' H' ∧ Tabs Ps H' ∧ PartsAt K H G' H' D ps xs st.2 ∧ G' pl = some (.lst (ls.map V.str)))
      ⟨begR, none, none, none, none, _, _, rfl, rfl, okR_beg, gL, tL, pa1, hG2⟩ (fun i σ H' _ ⟨_, _, _, _, _, _, _, _, _, _, g, _, _, e⟩ => SqL.of (g.wd.same _ _ e)) ?_ ?_
    · rintro i x σ H' U hx ⟨st, v3, v4, v5, v6, G', xs, rfl, hgo, ok, g, tb', pa, hpl'⟩ hU
      obtain ⟨l, hlx, rfl⟩ : ∃ l, ls[i]? = some l ∧ V.str l = x := by
        rw [List.getElem?_map] at hx
        obtain ⟨l, h1, h2⟩ := Option.map_eq_some_iff.mp hx
        exact ⟨l, h1, h2⟩
      obtain ⟨ws, ew, hsp, hll, hne, hwo⟩ := paired_get hpr hlx
      have hi : i < rows.length := (List.getElem?_eq_some_iff.mp ew).1
      have hdr : rows.drop i = ws :: rows.drop (i + 1) := by
        rw [List.drop_eq_getElem_cons hi, (List.getElem?_eq_some_iff.mp ew).2]
      rw [hdr] at hgo
      have g2 := g.trans (Gr.new (o := .tup [.int (i : Nat), .str l]) g.wd hU)
      have tb2 := tb'.same (same_new (o := .tup [.int (i : Nat), .str l]) hU)
      refine ⟨U, _, rfl, SqT.of upd_same, rfl, _, _, rfl, _, _, rfl, rfl, ?_⟩
      refine ⟨_, rfl, ⟨l, rfl⟩, l, sgn 32, rfl, by rw [e32], rfl, szL _ (by omega), fun pw hpw => ?_⟩
      rw [hsp]
      have g3 := g2.trans (Gr.alloc (o := .lst (ws.map V.str)) g2.wd hpw)
      have tb3 := tb2.same (same_new (o := .lst (ws.map V.str)) hpw)
      have pa3 := (pa.step wd (Gr.new (o := .tup [.int (i : Nat), .str l]) g.wd hU)).step wd (Gr.alloc (o := .lst (ws.map V.str)) g2.wd hpw)
      have hpl3 : upd G' pw (.lst (ws.map V.str)) pl = some (.lst (ls.map V.str)) := (Gr.alloc (o := .lst (ws.map V.str)) g2.wd hpw).up _ _ hpl'
      have out : ∀ H4 G4, goR 0 begR rows = .inl i → Gr Ps G H G4 H4 → Tabs Ps H4 → ∀ dx, H4 dx = none → E (.ref cBT) (some dx) (upd H4 dx (.xd [("row", .int (i : Int))])) := fun H4 G4 e g t dx hdx =>
        qb i e _ _ G4 _ ⟨rfl, dx, rfl, upd_same⟩ (g.trans (Gr.new g.wd hdx)) (t.same (same_new hdx))
      refine ⟨_, rfl, _, pw, ws, rfl, g3.wd, tb3, SqL.of upd_same, hne, fun z hz => szL _ (by have := (hwo z hz).1; omega), fun H4 g4' tb4 => ⟨_, rfl, ?_⟩⟩
      have g4 := g3.trans g4'
      have pa4 := pa3.step wd g4'
      cases hrw : rowW ws with
      | false =>
        refine iteT ⟨_, rfl, ?_⟩
        refine raise_bt (by omega) (out H4 _ ?_ g4 tb4)
        rw [hgo]
        show (match stepR i st ws with | none => Sum.inl i | some st' => goR (i + 1) st' (rows.drop (i + 1))) = _
        unfold stepR
        rw [if_neg (by rw [hrw]; exact Bool.false_ne_true)]
      | true =>
        refine iteF ?_
        obtain ⟨z, r, so, n, rfl, hc, hso, hln, hall, h4, hn⟩ := rowW_some hrw
        have hpw4 : H4 pw = some (.lst (V.str z :: r.map V.str)) := g4'.keep pw _ (g2.wd.nin hpw) upd_same
        have at0 : atI (V.str z :: r.map V.str) 0 = some (V.str z) := atI_nat (xs := V.str z :: r.map V.str) (j := 0) rfl
        obtain ⟨sa1, sa2⟩ := sorts_at hc
        refine ⟨.inr (.inl ⟨rfl, oS, lS, cS, uS⟩), _, rfl, .inl ⟨pw, _, 0, .str z, rfl, rfl, SqL.of hpw4, at0, ?_⟩⟩
        refine ⟨dS, sorts4, z, so, rfl, rfl, hS _, sa1, sa2, ?_⟩
        refine ⟨_, rfl, _, rfl, _, _, rfl, rfl, _, rfl, ?_⟩
        have hgo2 : goR 0 begR rows = (match stepR i st (z :: r) with | none => Sum.inl i | some st' => goR (i + 1) st' (rows.drop (i + 1))) := hgo
        unfold stepR at hgo2
        rw [if_pos hrw, hso] at hgo2
        by_cases h1 : so < st.1
        · rw [decide_eq_true (show (so : Int) < (st.1 : Int) by omega)]
          refine iteT ?_
          refine iteT ⟨_, rfl, raise_bt (by omega) (out H4 _ ?_ g4 tb4)⟩
          rw [hgo2, if_pos (.inl h1)]
        rw [decide_eq_false (show ¬ (so : Int) < (st.1 : Int) by omega)]
        refine iteF ?_
        refine ⟨_, rfl, rfl, _, rfl, rfl, rfl, _, rfl, ?_⟩
        have e2 : (!decide (V.bl (decide (V.int (so : Int) = V.int 0)) = V.bl (decide (V.int (i : Int) = V.int 0)))) = !decide (so = 0 ↔ i = 0) := by
          congr 1
          rw [decide_eq_decide]
          simp
        rw [e2]
        by_cases h2 : so = 0 ↔ i = 0
        rotate_left
        · rw [decide_eq_false h2]
          refine iteT ⟨_, rfl, raise_bt (by omega) (out H4 _ ?_ g4 tb4)⟩
          rw [hgo2, if_pos (.inr h2)]
        rw [decide_eq_true h2]
        refine iteF ?_
        rw [if_neg (fun z => z.elim h1 fun z => z h2)] at hgo2
        have ok2 : OkR (i + 1) (so, fun j => if j = so then st.2 j ++ [numsOf (z :: r)] else st.2 j) := okR_step ok (by unfold stepR; rw [if_pos hrw, hso, if_neg (fun z => z.elim h1 fun z => z h2)])
        have hps : [V.ref (ps 0), .ref (ps 1), .ref (ps 2), .ref (ps 3)][so]? = some (.ref (ps so)) := by
          rcases (show so = 0 ∨ so = 1 ∨ so = 2 ∨ so = 3 by omega) with rfl | rfl | rfl | rfl <;> rfl
        obtain ⟨c1, c2, c3, c4⟩ := pa4.cell so h4
        refine ⟨_, rfl, _, rfl, _, rfl, .inl ⟨D, _, (so : Int), .ref (ps so), rfl, rfl, SqL.of (g4.wd.same _ _ pa4.at_), atI_nat hps, ?_⟩⟩
        refine ⟨.inl ⟨rfl, _, SqL.of c1⟩, _, rfl, _, rfl, pw, _, rfl, SqL.of hpw4, fun pc hpc => ?_⟩
        rw [show cutV (V.str z :: r.map V.str) (some 1) none = r.map V.str from cut1 _ _]
        have g5 := Gr.alloc (o := .lst (r.map V.str)) g4.wd hpc
        have pa5 := pa4.step wd g5
        have tb5 := tb4.same (same_new (o := .lst (r.map V.str)) hpc)
        refine ⟨pc, rfl, ⟨_, SqL.of upd_same⟩, fun D2 hD2 => ?_⟩
        have hpcG : upd (upd G' pw (.lst ((z :: r).map V.str))) pc (.lst (r.map V.str)) pc = some (.lst (r.map V.str)) := upd_same
        generalize hG5 : upd (upd G' pw (.lst ((z :: r).map V.str))) pc (.lst (r.map V.str)) = G5 at g5 pa5 hpcG
        generalize hH5 : upd H4 pc (.lst (r.map V.str)) = H5 at g5 pa5 tb5 hD2 ⊢
        have D2P : D2 ∉ Ps := g5.wd.nin hD2
        refine lc_list (K := K) (a := pc) (xs := r.map V.str) (fun k H' => Gr Ps G5 H5 G5 H' ∧ Tabs Ps H' ∧ H' D2 = some (.lst ((r.take k).map fun y => V.int (numOf y))))
          ⟨Gr.new g5.wd hD2, tb5.same (same_new hD2), upd_same⟩ (fun k H' _ ⟨g, _, _⟩ => SqL.of (g.wd.same _ _ hpcG)) ?_ ?_
        · rintro k x H' hx ⟨g, tb, e⟩
          obtain ⟨y, hy, rfl⟩ : ∃ y, r[k]? = some y ∧ V.str y = x := by
            rw [List.getElem?_map] at hx
            obtain ⟨y, h1, h2⟩ := Option.map_eq_some_iff.mp hx
            exact ⟨y, h1, h2⟩
          have hk : k < r.length := (List.getElem?_eq_some_iff.mp hy).1
          have hmem : y ∈ r := List.mem_of_getElem? hy
          obtain ⟨hyl, hyn⟩ := hwo y (List.mem_cons_of_mem _ hmem)
          obtain ⟨nn, hnn⟩ := hyn (List.all_eq_true.mp hall y hmem)
          have hnum : numOf y = nn := by unfold numOf; rw [hnn]; rfl
          refine ⟨by repeat rw [wipe_set (by decide)]
                     exact wipe_wipe _ _, ?_⟩
          refine ⟨_, rfl, y, nn, rfl, hnn, by omega, _, e, ?_, ?_, ?_, ?_⟩
          · have : n ≤ 5 := by rw [hn]; unfold cntN; split <;> omega
            exact small1000 (by rw [List.length_map, List.length_take]; omega)
          · exact g.poke hD2 (g5.wd.free hD2)
          · exact tb.upd D2P
          · rw [upd_same, List.take_add_one, hy, List.map_append, ← hnum]
            rfl
        rintro H6 ⟨g6, tb6, e6⟩
        rw [List.length_map, List.take_length] at e6
        refine ⟨D2, _, rfl, .inl ⟨SqL.of e6, fun pt hpt => ?_⟩⟩
        have g7 := Gr.alloc (o := .tup (r.map fun y => V.int (numOf y))) g6.wd hpt
        have pa7 := (pa5.step wd g6).step wd g7
        obtain ⟨d1, d2, d3, d4⟩ := pa7.cell so h4
        have g57 := ((g4.trans g5).trans g6).trans g7
        refine ⟨ps so, xs so, _, rfl, rfl, d1, ?_, ?_⟩
        · have := Paired.length d4
          have := ok.few so
          exact small1000 (by omega)
        have pa8 := pa7.push h4 (v := .ref pt) (ns := numsOf (z :: r)) ⟨pt, rfl, SqT.of (by
          rw [upd_same]
          congr 2
          show _ = (r.map numOf).map V.int
          rw [List.map_map]
          rfl)⟩
        refine ⟨_, _, _, _, _, _, _, rfl, hgo2, ok2, g57.poke d2 d3, (tb6.same (same_new hpt)).upd (wd.nin d2), pa8, ?_⟩
        exact g7.up _ _ (g6.up _ _ (g5.up _ _ hpl3))
    rintro σ H' ⟨st, v3, v4, v5, v6, G', xs, rfl, hgo, ok, g, tb, pa, _⟩
    rw [List.length_map, hlen, List.drop_length] at hgo
    rw [List.length_map, hlen] at ok
    replace hgo : goR 0 begR rows = .inr st := hgo
    have hpos : 0 < rows.length := by
      rw [← hlen, ← hls]
      obtain ⟨p, q, e⟩ := cutL_ne 10 t.cps.toList
      have e2 := split_list t (show 10 < 256 by decide)
      rw [e] at e2
      have := congrArg List.length e2
      rw [List.length_map, List.length_cons] at this
      omega
    obtain ⟨h, hh⟩ := ok.one hpos
    have hho : hOf st = h := by unfold hOf; rw [hh]; rfl
    obtain ⟨qx, q⟩ := qr st hgo
    rw [hho] at qx q
    obtain ⟨a1, a2, a3, a4⟩ := pa.cell 0 (by decide)
    obtain ⟨b1, b2, b3, b4⟩ := pa.cell 1 (by decide)
    obtain ⟨c1, c2, c3, c4⟩ := pa.cell 2 (by decide)
    obtain ⟨d1, d2, d3, d4⟩ := pa.cell 3 (by decide)
    rw [hh] at a4
    obtain ⟨v0, ev0, t0, rfl, ht0⟩ := paired_get' (i := 0) a4 rfl
    have nbc := pa.ne 1 2 (by decide) (by decide) (by decide)
    have nbd := pa.ne 1 3 (by decide) (by decide) (by decide)
    have ncd := pa.ne 2 3 (by decide) (by decide) (by decide)
    refine ⟨_, rfl, D, _, rfl, SqL.of (g.wd.same _ _ pa.at_), rfl, _, _, rfl, _, _, rfl, _, _, rfl, _, _, rfl, rfl, ?_⟩
    refine ⟨_, rfl, .inl ⟨ps 0, xs 0, 0, .ref t0, rfl, rfl, SqL.of a1, atI_nat (j := 0) ev0, .inr (.inl ⟨t0, _, 0, .int h, rfl, rfl, Same.tup g.wd.same ht0, atI_nat (j := 0) rfl, ?_⟩)⟩⟩
    refine ⟨_, rfl, _, rfl, _, rfl, ?_⟩
    have k1 := g.close b2 b1 (wd.nin b2) b3
    have k2 := k1.close c2 c1 (wd.nin c2) (by rw [upd_ne nbc.symm]; exact c3)
    have k3 := k2.close d2 d1 (wd.nin d2) (by rw [upd_ne ncd.symm, upd_ne nbd.symm]; exact d3)
    have sA : Same G' (upd (upd (upd G' (ps 1) (.lst (xs 1))) (ps 2) (.lst (xs 2))) (ps 3) (.lst (xs 3))) := ((same_new b3).trans (same_new (by rw [upd_ne nbc.symm]; exact c3))).trans (same_new (by rw [upd_ne ncd.symm, upd_ne nbd.symm]; exact d3))
    have rowsA : Rows K (upd (upd (upd G' (ps 1) (.lst (xs 1))) (ps 2) (.lst (xs 2))) (ps 3) (.lst (xs 3))) (ps 1) (st.2 1) := ⟨xs 1, SqL.of (by rw [upd_ne nbd, upd_ne nbc, upd_same]), rowsV_same sA b4⟩
    have rowsB : Rows K (upd (upd (upd G' (ps 1) (.lst (xs 1))) (ps 2) (.lst (xs 2))) (ps 3) (.lst (xs 3))) (ps 2) (st.2 2) := ⟨xs 2, SqL.of (by rw [upd_ne ncd, upd_same]), rowsV_same sA c4⟩
    have rowsC : Rows K (upd (upd (upd G' (ps 1) (.lst (xs 1))) (ps 2) (.lst (xs 2))) (ps 3) (.lst (xs 3))) (ps 3) (st.2 3) := ⟨xs 3, SqL.of upd_same, rowsV_same sA d4⟩
    refine fun x dx hx hdx hne => ?_
    obtain ⟨s2, wd2⟩ := new_wd (o1 := .own x) (o2 := .ins ad.cH dx []) k3.wd hx hdx hne
    refine ⟨_, x, dx, h, ps 1, ps 2, ps 3, st.2 1, st.2 2, st.2 3, rfl, wd2, tb.same s2, tb.nin hx, upd_same, rowsA, rowsB, rowsC, ok.wide 1, ok.wide 2, ok.wide 3, fun hb G6 H6 a' b' c' _ _ _ g6 t6 hx6 r1 r2 r3 => ⟨rfl, ?_⟩, fun z e cls d H6 hz g6 t6 => ?_⟩
    · have g7 := k3.trans (g6.made k3.wd hx s2 hx6)
      have sx := same_new (o := .ins ad.cH dx (hf h a' b' c')) (g6.wd.off x List.mem_cons_self)
      exact q hb x _ H6 g7 t6 ⟨⟨dx, a', b', c', upd_same, r1.same sx, r2.same sx, r3.same sx⟩, hb, ok.wide 1, ok.wide 2, ok.wide 3⟩
    · cases hx6 : H6 x with
      | none => exact absurd hx6 (g6.wd.on x List.mem_cons_self)
      | some o => exact qx z e cls d _ H6 hz (k3.trans (g6.made k3.wd hx s2 hx6)) t6
end
end Cr
set_option Elab.async false
set_option linter.all false
set_option maxRecDepth 100000
set_option maxHeartbeats 4000000
/-! A house's own text: the maths -/
namespace Cr
open PySem PySem.Spec PyProof.Rows L2
theorem join_listT (c : Nat) (rows : List Str) : (Txt.join (sgn c) rows).cps.toList = glueL c (rows.map fun r => r.cps.toList) := by
  show (Builtin.Str.glued (sgn c) rows).cps.toList = _
  rw [StrLaws.glued_eq_join, join_list]
theorem num_len : ∀ k : Nat, k < 1000 → (toString ((k : Nat) : Int) : Str).length ≤ 3 := by decide +kernel
theorem num_is : ∀ k : Nat, k < 1000 → numW (toString ((k : Nat) : Int) : Str) = true := by decide +kernel
theorem num_int : ∀ k : Nat, k < 1000 → PySem.intText? (toString ((k : Nat) : Int) : Str) = some ((k : Nat) : Int) := by decide +kernel
theorem num_32 : ∀ k : Nat, k < 1000 → 32 ∉ (toString ((k : Nat) : Int) : Str).cps.toList := by decide +kernel
theorem num_10 : ∀ k : Nat, k < 1000 → 10 ∉ (toString ((k : Nat) : Int) : Str).cps.toList := by decide +kernel
theorem num_log : ∀ k : Nat, k < 1000 → ((k : Nat) : Int).natAbs.log2 < 1920 := by decide +kernel
/-- what holds of a number's words -/
structure NumS (n : Int) : Prop where
  len : (toString n : Str).length ≤ 3
  is : numW (toString n : Str) = true
  int : PySem.intText? (toString n : Str) = some n
  n32 : 32 ∉ (toString n : Str).cps.toList
  n10 : 10 ∉ (toString n : Str).cps.toList
  log : n.natAbs.log2 < 1920
theorem numS_of {n : Int} (h : numOk n = true) : NumS n := by
  unfold numOk at h
  rw [Bool.and_eq_true, decide_eq_true_eq, decide_eq_true_eq] at h
  have e : ((n.toNat : Nat) : Int) = n := by omega
  have hk : n.toNat < 1000 := by omega
  rw [← e]
  exact ⟨num_len _ hk, num_is _ hk, num_int _ hk, num_32 _ hk, num_10 _ hk, num_log _ hk⟩
def lineW (word : Str) (ns : List Int) : List Str := word :: ns.map fun n => (toString n : Str)
def lineS (word : Str) (ns : List Int) : Str := Txt.join (sgn 32) (lineW word ns)
def rowsW (h : Int) (rs ds ss : List (List Int)) : List (List Str) := lineW "hours" [h] :: (rs.map (lineW "room") ++ (ds.map (lineW "door") ++ ss.map (lineW "stay")))
def linesS (h : Int) (rs ds ss : List (List Int)) : List Str := lineS "hours" [h] :: (rs.map (lineS "room") ++ (ds.map (lineS "door") ++ ss.map (lineS "stay")))
theorem lines_rows (h : Int) (rs ds ss : List (List Int)) : linesS h rs ds ss = (rowsW h rs ds ss).map (Txt.join (sgn 32)) := by
  unfold linesS rowsW
  rw [List.map_cons, List.map_append, List.map_append, List.map_map, List.map_map, List.map_map]
  rfl
/-! ### lengths, and signs that do not stand in them -/
theorem glue_len {c m : Nat} : ∀ {rows : List (List Nat)}, (∀ r ∈ rows, r.length ≤ m) → (glueL c rows).length ≤ rows.length * (m + 1)
  | [], _ => Nat.zero_le _
  | [x], h => by
    show x.length ≤ 1 * (m + 1)
    have := h x List.mem_cons_self
    omega
  | x :: y :: r, h => by
    show (x ++ c :: glueL c (y :: r)).length ≤ _
    have h1 := h x List.mem_cons_self
    have h2 := glue_len (c := c) (rows := y :: r) fun z hz => h z (List.mem_cons_of_mem _ hz)
    rw [List.length_append, List.length_cons, List.length_cons (a := x), Nat.succ_mul]
    omega
theorem len_list (x : Str) : x.cps.toList.length = x.length := by simp [Str.length]
theorem join_len {c m : Nat} {ys : List Str} (h : ∀ y ∈ ys, y.length ≤ m) : (Txt.join (sgn c) ys).length ≤ ys.length * (m + 1) := by
  rw [← len_list, join_listT]
  have := glue_len (c := c) (m := m) (rows := ys.map fun r => r.cps.toList) fun r hr => by
    obtain ⟨y, hy, rfl⟩ := List.mem_map.mp hr
    rw [len_list]
    exact h y hy
  rwa [List.length_map] at this
theorem sum_len {m : Nat} : ∀ {ys : List Str}, (∀ y ∈ ys, y.length ≤ m) → (ys.map (·.length)).sum ≤ ys.length * m
  | [], _ => Nat.zero_le _
  | y :: r, h => by
    have h1 := h y List.mem_cons_self
    have h2 := sum_len (ys := r) fun z hz => h z (List.mem_cons_of_mem _ hz)
    rw [List.map_cons, List.sum_cons, List.length_cons, Nat.succ_mul]
    omega
theorem glue_nin {c d : Nat} (hcd : d ≠ c) : ∀ {rows : List (List Nat)}, (∀ r ∈ rows, d ∉ r) → d ∉ glueL c rows
  | [], _ => by simp [glueL]
  | [x], h => h x List.mem_cons_self
  | x :: y :: r, h => by
    show d ∉ x ++ c :: glueL c (y :: r)
    intro z
    rcases List.mem_append.mp z with z | z
    · exact h x List.mem_cons_self z
    · rcases List.mem_cons.mp z with z | z
      · exact hcd z
      · exact glue_nin hcd (fun z hz => h z (List.mem_cons_of_mem _ hz)) z
theorem join_nin {c d : Nat} (hcd : d ≠ c) {ys : List Str} (h : ∀ y ∈ ys, d ∉ y.cps.toList) : d ∉ (Txt.join (sgn c) ys).cps.toList := by
  rw [join_listT]
  refine glue_nin hcd fun r hr => ?_
  obtain ⟨y, hy, rfl⟩ := List.mem_map.mp hr
  exact h y hy
/-- words of which a line is made -/
structure WordS (z : Str) : Prop where
  len : z.length ≤ 9
  n32 : 32 ∉ z.cps.toList
  n10 : 10 ∉ z.cps.toList
  int : numW z = true → ∃ n, PySem.intText? z = some n
def RowS (ws : List Str) : Prop := ws ≠ [] ∧ ws.length ≤ 10 ∧ ∀ z ∈ ws, WordS z
theorem RowS.len {ws : List Str} (h : RowS ws) : (Txt.join (sgn 32) ws).length ≤ 100 := by
  have := join_len (c := 32) (m := 9) fun y hy => (h.2.2 y hy).len
  have := h.2.1
  omega
theorem RowS.split {ws : List Str} (h : RowS ws) : Txt.split (Txt.join (sgn 32) ws) (sgn 32) = ws := split_join (by decide) h.1 fun r hr => (h.2.2 r hr).n32
theorem RowS.n10 {ws : List Str} (h : RowS ws) : 10 ∉ (Txt.join (sgn 32) ws).cps.toList := join_nin (by decide) fun y hy => (h.2.2 y hy).n10
theorem paired_map {α β γ : Type} {F : α → β → Prop} {f : γ → α} {g : γ → β} : ∀ {l : List γ}, (∀ x ∈ l, F (f x) (g x)) → Paired F (l.map f) (l.map g)
  | [], _ => .nil
  | x :: r, h => .cons (h x List.mem_cons_self) (paired_map fun y hy => h y (List.mem_cons_of_mem _ hy))
/-- rows of words make a text -/
theorem text_of {rows : List (List Str)} (h0 : rows ≠ []) (hl : rows.length < 100) (h : ∀ ws ∈ rows, RowS ws) : TextOf (Txt.join (sgn 10) (rows.map (Txt.join (sgn 32)))) rows := by
  refine ⟨?_, hl, rows.map (Txt.join (sgn 32)), ?_, ?_⟩
  · have := join_len (c := 10) (m := 100) (ys := rows.map (Txt.join (sgn 32))) fun y hy => by
      obtain ⟨ws, hw, rfl⟩ := List.mem_map.mp hy
      exact (h ws hw).len
    rw [List.length_map] at this
    omega
  · refine split_join (by decide) (by simpa using h0) fun r hr => ?_
    obtain ⟨ws, hw, rfl⟩ := List.mem_map.mp hr
    exact (h ws hw).n10
  · have := paired_map (F := fun l ws => Txt.split l (sgn 32) = ws ∧ l.length ≤ 1000 ∧ ws ≠ [] ∧ WordsOk ws) (f := Txt.join (sgn 32)) (g := fun ws => ws) (l := rows) fun ws hw =>
      ⟨(h ws hw).split, by have := (h ws hw).len; omega, (h ws hw).1, fun z hz => ⟨by have := ((h ws hw).2.2 z hz).len; omega, ((h ws hw).2.2 z hz).int⟩⟩
    rwa [List.map_id'] at this
theorem wordS_num {n : Int} (h : NumS n) : WordS (toString n : Str) := ⟨by have := h.len; omega, h.n32, h.n10, fun _ => ⟨n, h.int⟩⟩
theorem wordS_hours : WordS "hours" := ⟨by decide +kernel, by decide +kernel, by decide +kernel, fun h => absurd h (by decide +kernel)⟩
theorem wordS_room : WordS "room" := ⟨by decide +kernel, by decide +kernel, by decide +kernel, fun h => absurd h (by decide +kernel)⟩
theorem wordS_door : WordS "door" := ⟨by decide +kernel, by decide +kernel, by decide +kernel, fun h => absurd h (by decide +kernel)⟩
theorem wordS_stay : WordS "stay" := ⟨by decide +kernel, by decide +kernel, by decide +kernel, fun h => absurd h (by decide +kernel)⟩
theorem rowS_line {word : Str} (hw : WordS word) {ns : List Int} (hl : ns.length ≤ 5) (hn : ns.all numOk = true) : RowS (lineW word ns) := by
  refine ⟨by simp [lineW], by simp [lineW]; omega, fun z hz => ?_⟩
  rcases List.mem_cons.mp hz with rfl | hz
  · exact hw
  · obtain ⟨n, hn', rfl⟩ := List.mem_map.mp hz
    exact wordS_num (numS_of (List.all_eq_true.mp hn n hn'))
/-! ### what read tells of a line -/
theorem nums_line {word : Str} {ns : List Int} (hn : ns.all numOk = true) : numsOf (lineW word ns) = ns := by
  show (ns.map fun n => (toString n : Str)).map numOf = ns
  rw [List.map_map]
  have : ∀ n ∈ ns, (numOf ∘ fun n => (toString n : Str)) n = n := fun n hm => by
    have := (numS_of (List.all_eq_true.mp hn n hm)).int
    show (PySem.intText? (toString n : Str)).getD 0 = n
    rw [this]
    rfl
  rw [List.map_congr_left this, List.map_id']
theorem rowW_line {word : Str} {so n : Nat} (hc : cntOf word = some (so, n)) {ns : List Int} (hl : ns.length = n) (hn : ns.all numOk = true) : rowW (lineW word ns) = true ∧ sortW (lineW word ns) = so := by
  constructor
  · show (match cntOf word with | none => false | some (_, n) => decide ((ns.map fun n => (toString n : Str)).length = n) && (ns.map fun n => (toString n : Str)).all numW) = true
    rw [hc]
    show (decide ((ns.map fun n => (toString n : Str)).length = n) && (ns.map fun n => (toString n : Str)).all numW) = true
    rw [List.length_map, decide_eq_true hl, Bool.true_and, List.all_eq_true]
    intro z hz
    obtain ⟨n', hn', rfl⟩ := List.mem_map.mp hz
    exact (numS_of (List.all_eq_true.mp hn n' hn')).is
  · show (match cntOf word with | some (so, _) => so | none => 0) = so
    rw [hc]
theorem go_lines {word : Str} {so n : Nat} (hc : cntOf word = some (so, n)) (h0 : so ≠ 0) (rest : List (List Str)) : ∀ (rs : List (List Int)) (i : Nat) (st : RS), (∀ r ∈ rs, r.length = n ∧ r.all numOk = true) → i ≠ 0 → st.1 ≤ so →
    ∃ l, l ≤ so ∧ goR i st (rs.map (lineW word) ++ rest) = goR (i + rs.length) (l, fun j => if j = so then st.2 j ++ rs else st.2 j) rest
  | [], i, st, _, _, hs => ⟨st.1, hs, by
    have : (fun j => if j = so then st.2 j ++ [] else st.2 j) = st.2 := funext fun j => by split <;> simp
    rw [this]
    rfl⟩
  | r :: rs, i, st, h, hi, hs => by
    obtain ⟨hl, hn⟩ := h r List.mem_cons_self
    obtain ⟨e1, e2⟩ := rowW_line hc hl hn
    have est : stepR i st (lineW word r) = some (so, fun j => if j = so then st.2 j ++ [r] else st.2 j) := by
      unfold stepR
      rw [if_pos e1, e2, nums_line hn, if_neg]
      rintro (z | z)
      · omega
      · exact z ⟨fun e => absurd e h0, fun e => absurd e hi⟩
    obtain ⟨l, h1, h2⟩ := go_lines hc h0 rest rs (i + 1) (so, fun j => if j = so then st.2 j ++ [r] else st.2 j) (fun r' hr' => h r' (List.mem_cons_of_mem _ hr')) (by omega) (Nat.le_refl _)
    refine ⟨l, h1, ?_⟩
    show (match stepR i st (lineW word r) with | none => Sum.inl i | some st' => goR (i + 1) st' (rs.map (lineW word) ++ rest)) = _
    rw [est]
    show goR (i + 1) _ (rs.map (lineW word) ++ rest) = _
    rw [h2]
    have e3 : i + 1 + rs.length = i + (r :: rs).length := by rw [List.length_cons]; omega
    rw [e3]
    congr 2
    funext j
    by_cases hj : j = so
    · simp [hj]
    · simp [hj]
theorem cnt_hours : cntOf "hours" = some (0, 1) := by decide +kernel
theorem cnt_room : cntOf "room" = some (1, 4) := by decide +kernel
theorem cnt_door : cntOf "door" = some (2, 3) := by decide +kernel
theorem cnt_stay : cntOf "stay" = some (3, 5) := by decide +kernel
/-- rows whose numbers are numbers -/
structure NumsH (h : Int) (rs ds ss : List (List Int)) : Prop where
  h : numOk h = true
  r : ∀ r ∈ rs, r.length = 4 ∧ r.all numOk = true
  d : ∀ r ∈ ds, r.length = 3 ∧ r.all numOk = true
  s : ∀ r ∈ ss, r.length = 5 ∧ r.all numOk = true
theorem roomOk_num {r : List Int} (h : roomOk r = true) : r.all numOk = true := by
  unfold roomOk at h
  split at h
  · rw [Bool.and_eq_true] at h
    exact h.1
  · cases h
theorem doorOk_num {n : Nat} {r : List Int} (h : doorOk n r = true) : r.all numOk = true := by
  unfold doorOk at h
  split at h
  · rw [Bool.and_eq_true] at h
    exact h.1
  · cases h
theorem stayOk_num {n : Int} {rs : List (List Int)} {r : List Int} (h : stayOk n rs r = true) : r.all numOk = true := by
  unfold stayOk at h
  split at h
  · rw [Bool.and_eq_true] at h
    exact h.1
  · cases h
theorem GoodH.nums {h : Int} {rs ds ss : List (List Int)} (g : GoodH h rs ds ss) : NumsH h rs ds ss :=
  ⟨by have := g.h1; have := g.h12; unfold numOk; rw [Bool.and_eq_true, decide_eq_true_eq, decide_eq_true_eq]; omega,
    fun r hr => ⟨g.w4 r hr, roomOk_num (g.rok r hr)⟩, fun r hr => ⟨g.w3 r hr, doorOk_num (g.dok r hr)⟩, fun r hr => ⟨g.w5 r hr, stayOk_num (g.sok r hr)⟩⟩
/-- the rows of a house, with rows behind them -/
theorem go_house {h : Int} {rs ds ss : List (List Int)} (g : NumsH h rs ds ss) (rest : List (List Str)) :
    ∃ l, l ≤ 3 ∧ goR 0 begR (rowsW h rs ds ss ++ rest) = goR (1 + rs.length + ds.length + ss.length) (l, fun j => match j with | 0 => [[h]] | 1 => rs | 2 => ds | 3 => ss | _ => []) rest := by
  have hn : ([h] : List Int).all numOk = true := by
    show (numOk h && true) = true
    rw [g.h]
    rfl
  obtain ⟨e1, e2⟩ := rowW_line cnt_hours (ns := [h]) rfl hn
  have est : stepR 0 begR (lineW "hours" [h]) = some (0, fun j => if j = 0 then [[h]] else []) := by
    unfold stepR
    rw [if_pos e1, e2, nums_line hn, if_neg]
    · rfl
    rintro (z | z)
    · exact absurd z (Nat.not_lt_zero _)
    · exact z ⟨fun _ => rfl, fun _ => rfl⟩
  obtain ⟨l1, h1, q1⟩ := go_lines cnt_room (by decide) (ds.map (lineW "door") ++ (ss.map (lineW "stay") ++ rest)) rs 1 (0, fun j => if j = 0 then [[h]] else []) g.r (by decide) (Nat.zero_le _)
  obtain ⟨l2, h2, q2⟩ := go_lines cnt_door (by decide) (ss.map (lineW "stay") ++ rest) ds (1 + rs.length) (l1, fun j => if j = 1 then (if j = 0 then [[h]] else []) ++ rs else (if j = 0 then [[h]] else [])) g.d (by omega) (by show l1 ≤ 2; omega)
  obtain ⟨l3, h3, q3⟩ := go_lines cnt_stay (by decide) rest ss (1 + rs.length + ds.length) (l2, fun j => if j = 2 then (if j = 1 then (if j = 0 then [[h]] else []) ++ rs else (if j = 0 then [[h]] else [])) ++ ds else (if j = 1 then (if j = 0 then [[h]] else []) ++ rs else (if j = 0 then [[h]] else []))) g.s (by omega) (by show l2 ≤ 3; omega)
  refine ⟨l3, h3, ?_⟩
  have e0 : rowsW h rs ds ss ++ rest = lineW "hours" [h] :: (rs.map (lineW "room") ++ (ds.map (lineW "door") ++ (ss.map (lineW "stay") ++ rest))) := by
    unfold rowsW
    simp [List.append_assoc]
  rw [e0]
  show (match stepR 0 begR (lineW "hours" [h]) with | none => Sum.inl 0 | some st' => goR (0 + 1) st' _) = _
  rw [est]
  show goR 1 _ _ = _
  rw [q1, q2, q3]
  congr 2
  funext j
  match j with
  | 0 => rfl
  | 1 => rfl
  | 2 => rfl
  | 3 => rfl
  | n + 4 => simp
/-- the house's own text -/
theorem text_house {h : Int} {rs ds ss : List (List Int)} (g : GoodH h rs ds ss) : (∀ ws ∈ rowsW h rs ds ss, RowS ws) ∧ (rowsW h rs ds ss).length = 1 + rs.length + ds.length + ss.length ∧ (rowsW h rs ds ss).length ≤ 35 := by
  have n := g.nums
  have hl : (rowsW h rs ds ss).length = 1 + rs.length + ds.length + ss.length := by
    unfold rowsW
    simp
    omega
  refine ⟨fun ws hw => ?_, hl, by have := g.r6; have := g.d8; have := g.s20; omega⟩
  unfold rowsW at hw
  rcases List.mem_cons.mp hw with rfl | hw
  · exact rowS_line wordS_hours (by simp) (by show (numOk h && true) = true; rw [n.h]; rfl)
  rcases List.mem_append.mp hw with hw | hw
  · obtain ⟨r, hr, rfl⟩ := List.mem_map.mp hw
    exact rowS_line wordS_room (by have := (n.r r hr).1; omega) (n.r r hr).2
  rcases List.mem_append.mp hw with hw | hw
  · obtain ⟨r, hr, rfl⟩ := List.mem_map.mp hw
    exact rowS_line wordS_door (by have := (n.d r hr).1; omega) (n.d r hr).2
  · obtain ⟨r, hr, rfl⟩ := List.mem_map.mp hw
    exact rowS_line wordS_stay (by have := (n.s r hr).1; omega) (n.s r hr).2
end Cr
set_option Elab.async false
set_option linter.all false
set_option maxRecDepth 100000
set_option maxHeartbeats 4000000

/-! _law_lines: the lines that a house's text should have -/
namespace Cr
open PySem PySem.Spec PyProof.Rows L2
abbrev s_law_lines : Stmt := top 38
abbrev n_law_lines : List Str := ["_law_rows", "_law_lines_here", "_law_word", "_law_some", "_law_one", "_law_number"]
abbrev a_law_lines : List Str := ["_law_rows"]
theorem sc_law_lines : FnScope n_law_lines a_law_lines (defScope s_law_lines) := ⟨rfl, rfl, rfl, by decide +kernel, rfl, by decide +kernel, by decide +kernel⟩
theorem e10' : ("\n" : Str) = sgn 10 := by decide +kernel
theorem e32' : (" " : Str) = sgn 32 := by decide +kernel
theorem join_cons (c : Nat) (x y : Str) (r : List Str) : Txt.join (sgn c) (x :: y :: r) = (x ++ sgn c) ++ Txt.join (sgn c) (y :: r) := by
  apply str_ext
  rw [join_listT]
  show x.cps.toList ++ c :: glueL c ((y :: r).map fun r => r.cps.toList) = _
  rw [← join_listT c (y :: r)]
  show _ = ((x.cps ++ #[c]) ++ (Txt.join (sgn c) (y :: r)).cps).toList
  simp
theorem join_one (c : Nat) (x : Str) : Txt.join (sgn c) [x] = x := by
  apply str_ext
  rw [join_listT]
  rfl
theorem line_hours (h : Int) : ("hours " : Str) ++ (toString h : Str) = lineS "hours" [h] := by
  unfold lineS
  show _ = Txt.join (sgn 32) [("hours" : Str), (toString h : Str)]
  rw [join_cons, join_one]
  congr 1
theorem line_of (word : Str) {ns : List Int} (h : ns ≠ []) : (word ++ (" " : Str)) ++ Txt.join (" " : Str) (ns.map fun n => (toString n : Str)) = lineS word ns := by
  cases ns with
  | nil => exact absurd rfl h
  | cons n r =>
    unfold lineS lineW
    rw [List.map_cons, join_cons, e32']
section
variable {P : Program} {w : World} {K : PySem.W.Frag} {mg : Str → Option Value} {base : Heap} {Ps : List Addr} {H : Hp}
structure RawLi (K : PySem.W.Frag) (mg : Str → Option Value) : Prop where
  llin : DefR K mg "_law_lines" s_law_lines a_law_lines
  b_str : mg "str" = none
def spLines (K : PySem.W.Frag) (Ps : List Addr) : Sp := fun vs H Q _ => ∃ (G : Hp) (t : Addr) (h : Int) (ra da sa : Addr) (rs ds ss : List (List Int)), vs = [.ref t] ∧ Wd Ps G H ∧ Tabs Ps H ∧ RowsAt K G t h ra da sa rs ds ss ∧ GoodH h rs ds ss ∧
  ∀ l G' H', H l = none → Gr Ps G H G' H' → Tabs Ps H' → G' l = some (.lst ((linesS h rs ds ss).map V.str)) → Q (.ref l) H'
abbrev grps (rs ds ss : List (List Int)) : List (Str × List (List Int)) := [("room", rs), ("door", ds), ("stay", ss)]
def upTo (h : Int) (gs : List (Str × List (List Int))) : List Str := lineS "hours" [h] :: gs.flatMap fun g => g.2.map (lineS g.1)
theorem upTo_all (h : Int) (rs ds ss : List (List Int)) : upTo h (grps rs ds ss) = linesS h rs ds ss := by
  unfold upTo linesS grps
  simp
theorem c_lines (T : RawLi K mg) : C8.Cal P w K mg base 1 "_law_lines" (spLines K Ps) [] := by
  refine T.llin.cal sc_law_lines (fun vs H Q E h => ?_) (fun f cdv A outer s H vs Q E hr h => ?_)
  · obtain ⟨G, t, h, ra, da, sa, rs, ds, ss, rfl, _⟩ := h
    rfl
  · obtain ⟨G, t, h, ra, da, sa, rs, ds, ss, rfl, wd, tbs, hR, hG, q⟩ := h
    have b_str := T.b_str
    refine ⟨_, (pss_cons (ps_set (i := 1) sc_law_lines.nd rfl (Or.inl rfl) (pe_lst (pa_cons (pe_op op_add_str pe_str (pe_callTy call_str_int (by rfl) b_str (by decide +kernel) (pa_cons (pe_ix ix_seq (pv 0) pe_int (fun _ _ => rfl)) pa_nil))) pa_nil)))
      (pss_cons (ps_for PassesOwn.never rfl (pi_list (pe_lst (pa_cons (pe_tup (pa_cons pe_str (pa_cons (pe_ix ix_seq (pv 0) pe_int (fun _ _ => rfl)) pa_nil))) (pa_cons (pe_tup (pa_cons pe_str (pa_cons (pe_ix ix_seq (pv 0) pe_int (fun _ _ => rfl)) pa_nil))) (pa_cons (pe_tup (pa_cons pe_str (pa_cons (pe_ix ix_seq (pv 0) pe_int (fun _ _ => rfl)) pa_nil))) pa_nil))))) (pg_tup rfl (pgs_cons (pg_name (i := 2) sc_law_lines.nd rfl (Or.inl rfl)) (pgs_cons (pg_name (i := 3) sc_law_lines.nd rfl (Or.inl rfl)) pgs_nil)))
        (pss_one (ps_for PassesOwn.never rfl (pi_list (pv 3)) (pg_name (i := 4) sc_law_lines.nd rfl (Or.inl rfl))
        (pss_one (ps_expr (pe_bm PySem.F.plainAttrs_list PySem.F.slot_list_append PySem.F.type_list_append mt_append (pv 1) (pa_cons (pe_op op_add_str (pe_op op_add_str (pv 2) pe_str) (pe_join pe_str (pe_lc (own := [("_law_number", 5)]) rfl sc_law_lines.nd (pi_tup (pv 4)) (blkOk_by (own := [("_law_number", 5)]) (N := n_law_lines) (sc := defScope s_law_lines) (by decide +kernel)) (fun _ _ _ _ _ => (pg_name (i := 5) sc_law_lines.nd rfl (Or.inl rfl) (Or.inr rfl))) (fun _ _ _ _ _ => pts_nil) (fun _ _ _ _ _ => (pe_callTy call_str_int (by rfl) b_str (by decide +kernel) (pa_cons (pv 5 rfl (Or.inl rfl)) pa_nil)))))) pa_nil)))))))
      (pss_one (ps_ret (pv 1))))), ?_⟩
    have N := hG.nums
    have Nh := numS_of N.h
    have hr6 := hG.r6
    have hd8 := hG.d8
    have hs20 := hG.s20
    have tat : ∀ {H1 : Hp}, Same G H1 → SqT K H1 t [.int h, .ref ra, .ref da, .ref sa] := fun s => Same.tup s hR.t
    have h6 : ("hours " : Str).length = 6 := by decide +kernel
    refine ⟨_, rfl, .inr (.inl ⟨t, _, 0, .int h, rfl, rfl, tat wd.same, atI_nat (j := 0) rfl, h, rfl, Nh.log, _, _, rfl, rfl, by rw [h6, sizeLine_eq]; have := Nh.len; omega, by show 1 ≤ sizeLine; decide, fun pr hpr => ?_⟩)⟩
    rw [line_hours]
    have prP := wd.nin hpr
    have gpr := wd.free hpr
    have g0 := Gr.new (o := .lst [.str (lineS "hours" [h])]) wd hpr
    have t0 := tbs.same (same_new (o := .lst [.str (lineS "hours" [h])]) hpr)
    have e0 : upd H pr (.lst [.str (lineS "hours" [h])]) pr = some (.lst [.str (lineS "hours" [h])]) := upd_same
    have S1 : 2 ≤ sizeLine := by decide
    refine ⟨_, rfl, .inr (.inl ⟨t, _, 1, .ref ra, rfl, rfl, tat g0.wd.same, atI_nat (j := 1) rfl, S1, fun q1 hq1 => ?_⟩)⟩
    have a1 := g0.trans (Gr.alloc (o := .tup [.str "room", .ref ra]) g0.wd hq1)
    refine ⟨_, rfl, .inr (.inl ⟨t, _, 2, .ref da, rfl, rfl, tat (a1.up.trans a1.wd.same), atI_nat (j := 2) rfl, S1, fun q2 hq2 => ?_⟩)⟩
    have a2 := a1.trans (Gr.alloc (o := .tup [.str "door", .ref da]) a1.wd hq2)
    refine ⟨_, rfl, .inr (.inl ⟨t, _, 3, .ref sa, rfl, rfl, tat (a2.up.trans a2.wd.same), atI_nat (j := 3) rfl, S1, fun q3 hq3 => ?_⟩)⟩
    have a3 := a2.trans (Gr.alloc (o := .tup [.str "stay", .ref sa]) a2.wd hq3)
    refine ⟨by show 3 ≤ sizeLine; decide, fun pl hpl => ?_⟩
    have a4 := a3.trans (Gr.alloc (o := .lst [.ref q1, .ref q2, .ref q3]) a3.wd hpl)
    have s2 := (Gr.alloc (o := .tup [.str "door", .ref da]) a1.wd hq2).up
    have s3 := (Gr.alloc (o := .tup [.str "stay", .ref sa]) a2.wd hq3).up
    have s4 := (Gr.alloc (o := .lst [.ref q1, .ref q2, .ref q3]) a3.wd hpl).up
    have ta4 : Tabs Ps _ := (((t0.same (same_new (o := .tup [.str "room", .ref ra]) hq1)).same (same_new (o := .tup [.str "door", .ref da]) hq2)).same (same_new (o := .tup [.str "stay", .ref sa]) hq3)).same (same_new (o := .lst [.ref q1, .ref q2, .ref q3]) hpl)
    have prn1 : pr ≠ q1 := ne_of_none e0 hq1
    have er1 := (upd_ne prn1 (o := .tup [.str "room", .ref ra])).trans e0
    have prn2 : pr ≠ q2 := ne_of_none er1 hq2
    have er2 := (upd_ne prn2 (o := .tup [.str "door", .ref da])).trans er1
    have prn3 : pr ≠ q3 := ne_of_none er2 hq3
    have er3 := (upd_ne prn3 (o := .tup [.str "stay", .ref sa])).trans er2
    have prn4 : pr ≠ pl := ne_of_none er3 hpl
    have er4 := (upd_ne prn4 (o := .lst [.ref q1, .ref q2, .ref q3])).trans er3
    obtain ⟨G4, hG4⟩ : ∃ z, z = upd (upd (upd (upd G q1 (.tup [.str "room", .ref ra])) q2 (.tup [.str "door", .ref da])) q3 (.tup [.str "stay", .ref sa])) pl (.lst [.ref q1, .ref q2, .ref q3]) := ⟨_, rfl⟩
    have gq1 : G4 q1 = some (.tup [.str "room", .ref ra]) := by rw [hG4]; exact s4 _ _ (s3 _ _ (s2 _ _ upd_same))
    have gq2 : G4 q2 = some (.tup [.str "door", .ref da]) := by rw [hG4]; exact s4 _ _ (s3 _ _ upd_same)
    have gq3 : G4 q3 = some (.tup [.str "stay", .ref sa]) := by rw [hG4]; exact s4 _ _ upd_same
    have gpl : G4 pl = some (.lst [.ref q1, .ref q2, .ref q3]) := by rw [hG4, upd_same]
    have gpr4 : G4 pr = none := by rw [hG4, upd_ne prn4, upd_ne prn3, upd_ne prn2, upd_ne prn1]; exact gpr
    rw [← hG4] at a4
    clear hG4 s2 s3 s4 a1 a2 a3
    have item : ∀ (i : Nat) (x : V), ([V.ref q1, V.ref q2, V.ref q3] : List V)[i]? = some x → ∃ (qq : Addr) (word : Str) (la : Addr) (rw' : List (List Int)), x = .ref qq ∧ G4 qq = some (.tup [.str word, .ref la]) ∧ (grps rs ds ss)[i]? = some (word, rw') ∧ RowsL K G4 la rw' ∧ rw'.length ≤ 20 ∧ word.length ≤ 9 ∧ ∀ r ∈ rw', r ≠ [] ∧ r.length ≤ 5 ∧ r.all numOk = true := by
      intro i x hx
      match i with
      | 0 =>
        cases hx
        exact ⟨q1, "room", ra, rs, rfl, gq1, rfl, hR.r.same a4.up, by omega, by decide +kernel, fun r hr => ⟨(fun z => by have := (N.r r hr).1; rw [z] at this; exact absurd this (by decide)), by have := (N.r r hr).1; omega, (N.r r hr).2⟩⟩
      | 1 =>
        cases hx
        exact ⟨q2, "door", da, ds, rfl, gq2, rfl, hR.d.same a4.up, by omega, by decide +kernel, fun r hr => ⟨(fun z => by have := (N.d r hr).1; rw [z] at this; exact absurd this (by decide)), by have := (N.d r hr).1; omega, (N.d r hr).2⟩⟩
      | 2 =>
        cases hx
        exact ⟨q3, "stay", sa, ss, rfl, gq3, rfl, hR.s.same a4.up, by omega, by decide +kernel, fun r hr => ⟨(fun z => by have := (N.s r hr).1; rw [z] at this; exact absurd this (by decide)), by have := (N.s r hr).1; omega, (N.s r hr).2⟩⟩
      | n + 3 => simp at hx
    refine ⟨pl, rfl, ⟨_, SqL.of upd_same⟩, ?_⟩
    refine for_list (K := K) (a := pl) (xs := [.ref q1, .ref q2, .ref q3]) (fun i σ H' => ∃ v2 v3 v4 : Option V, σ = [some (.ref t), some (.ref pr), v2, v3, v4, none] ∧ Gr Ps G H G4 H' ∧ Tabs Ps H' ∧ H' pr = some (.lst ((upTo h ((grps rs ds ss).take i)).map V.str)) ∧ (upTo h ((grps rs ds ss).take i)).length ≤ 1 + 20 * i)
      ⟨none, none, none, rfl, a4, ta4, er4, by show 1 ≤ 1 + 20 * 0; omega⟩ (fun i σ H' _ ⟨_, _, _, _, g, _⟩ => SqL.of (g.wd.same _ _ gpl)) ?_ ?_
    · rintro i x σ H' hx ⟨v2, v3, v4, rfl, g, tb, e, hul⟩
      obtain ⟨qq, word, la, rw', rfl, hqq, hgr, hRL, hl20, hw9, hall⟩ := item i x hx
      have hi3 : i < 3 := (List.getElem?_eq_some_iff.mp hx).1
      obtain ⟨xs, exs, hrv⟩ := hRL
      have hxl : xs.length = rw'.length := Paired.length hrv
      have hup : upTo h ((grps rs ds ss).take (i + 1)) = upTo h ((grps rs ds ss).take i) ++ rw'.map (lineS word) := by
        unfold upTo
        rw [List.take_add_one, hgr, List.flatMap_append]
        simp
      obtain ⟨acc, hacc⟩ : ∃ z, z = upTo h ((grps rs ds ss).take i) := ⟨_, rfl⟩
      rw [← hacc] at e hul hup
      refine ⟨qq, _, rfl, SqT.of (g.wd.same _ _ hqq), rfl, _, _, rfl, _, _, rfl, rfl, ?_⟩
      refine ⟨_, rfl, la, rfl, ⟨_, SqL.of (g.wd.same _ _ exs)⟩, ?_⟩
      refine for_list (K := K) (a := la) (xs := xs) (fun k σ H' => ∃ v4 : Option V, σ = [some (.ref t), some (.ref pr), some (.str word), some (.ref la), v4, none] ∧ Gr Ps G H G4 H' ∧ Tabs Ps H' ∧ H' pr = some (.lst ((acc ++ (rw'.take k).map (lineS word)).map V.str)))
        ⟨v4, rfl, g, tb, by rw [List.take_zero, List.map_nil, List.append_nil]; exact e⟩ (fun k σ H' _ ⟨_, _, g, _⟩ => SqL.of (g.wd.same _ _ exs)) ?_ ?_
      · rintro k x σ H' hx ⟨v4, rfl, g, tb, e⟩
        obtain ⟨ns, ens, tt, rfl, htt⟩ := paired_get hrv hx
        obtain ⟨hne, h5, hok⟩ := hall ns (List.mem_of_getElem? ens)
        have hk : k < rw'.length := (List.getElem?_eq_some_iff.mp ens).1
        have h1 : (" " : Str).length = 1 := by decide +kernel
        refine ⟨_, rfl, .inl ⟨rfl, _, SqL.of e⟩, _, rfl, word, " ", rfl, rfl, by rw [h1, sizeLine_eq]; omega, ⟨_, rfl⟩, _, rfl, tt, rfl, ⟨_, Same.tup g.wd.same htt⟩, fun D hD => ?_⟩
        have nD : pr ≠ D := ne_of_none e hD
        have hD0 : H D = none := g.free' hD
        have DP := wd.nin hD0
        refine lc_tup (K := K) (a := tt) (xs := ns.map V.int) (fun k' H'' => Gr Ps G4 H' G4 H'' ∧ Tabs Ps H'' ∧ H'' D = some (.lst (((ns.take k').map fun n => (toString n : Str)).map V.str)))
          ⟨Gr.new g.wd hD, tb.same (same_new hD), upd_same⟩ (fun k' H'' _ ⟨g2, _⟩ => Same.tup g2.wd.same htt) ?_ ?_
        · rintro k' x H'' hx ⟨g2, tb2, e2⟩
          obtain ⟨n, hn', rfl⟩ : ∃ n, ns[k']? = some n ∧ V.int n = x := by
            rw [List.getElem?_map] at hx
            obtain ⟨n, h1, h2⟩ := Option.map_eq_some_iff.mp hx
            exact ⟨n, h1, h2⟩
          have M := numS_of (List.all_eq_true.mp hok n (List.mem_of_getElem? hn'))
          have hk' : k' < ns.length := (List.getElem?_eq_some_iff.mp hn').1
          refine ⟨by repeat rw [wipe_set (by decide)]
                     exact wipe_wipe _ _, ?_⟩
          refine ⟨_, rfl, n, rfl, M.log, _, e2, small1000 (by rw [List.length_map, List.length_map, List.length_take]; omega), g2.poke hD (g.wd.free hD), tb2.upd DP, ?_⟩
          rw [upd_same, List.take_add_one, hn', List.map_append, List.map_append]
          rfl
        rintro H2 ⟨g2, tb2, e2⟩
        rw [List.length_map, List.take_length] at e2
        have epr := g2.keep pr _ prP e
        have hys : ∀ y ∈ ns.map (fun n => (toString n : Str)), y.length ≤ 9 := fun y hy => by
          obtain ⟨n, hn', rfl⟩ := List.mem_map.mp hy
          have := (numS_of (List.all_eq_true.mp hok n hn')).len
          omega
        have hsum := sum_len hys
        have hjl : (Txt.join (sgn 32) (ns.map fun n => (toString n : Str))).length ≤ 100 := by
          have := join_len (c := 32) hys
          rw [List.length_map] at this
          omega
        rw [List.length_map] at hsum
        refine ⟨" ", D, ns.map fun n => (toString n : Str), rfl, rfl, .inl (SqL.of e2), by rw [h1, List.length_map]; omega, word ++ " ", _, rfl, rfl, ?_, pr, _, _, rfl, rfl, epr, ?_, ?_⟩
        · rw [len_app, h1, e32', sizeLine_eq]
          omega
        · refine small1000 ?_
          rw [List.length_map, List.length_append, List.length_map, List.length_take]
          omega
        refine ⟨_, rfl, (g.trans g2).poke hpr gpr4, tb2.upd prP, ?_⟩
        rw [upd_same, line_of word hne, List.take_add_one, ens]
        simp
      · rintro σ H2 ⟨v4, rfl, g, tb, e⟩
        rw [hxl, List.take_length] at e
        refine ⟨_, _, _, rfl, g, tb, ?_, ?_⟩
        · rw [hup]
          exact e
        · rw [hup, List.length_append, List.length_map]
          omega
    · rintro σ H2 ⟨v2, v3, v4, rfl, g, tb, e, _⟩
      have hfin : upTo h ((grps rs ds ss).take ([V.ref q1, V.ref q2, V.ref q3] : List V).length) = linesS h rs ds ss := upTo_all h rs ds ss
      rw [hfin] at e
      exact ⟨_, rfl, q pr _ _ hpr (g.close hpr e prP gpr4) tb upd_same⟩
end
end Cr
set_option Elab.async false
set_option linter.all false
set_option maxRecDepth 100000
set_option maxHeartbeats 4000000
/-! Lines of any kind: what read says of them -/
namespace Cr
open PySem PySem.Spec PyProof.Rows L2
/-- a line's words -/
def wordsOf (l : Str) : List Str := (cutL 32 l.cps.toList).map fun c => ⟨c.toArray⟩
theorem split_words (l : Str) : Txt.split l (sgn 32) = wordsOf l := by
  apply map_list_inj
  rw [split_list l (by decide)]
  unfold wordsOf
  rw [List.map_map]
  have : ((fun r : Str => r.cps.toList) ∘ fun c : List Nat => (⟨c.toArray⟩ : Str)) = id := by
    funext c
    simp
  rw [this, List.map_id]
theorem words_ne (l : Str) : wordsOf l ≠ [] := by
  obtain ⟨p, q, e⟩ := cutL_ne 32 l.cps.toList
  unfold wordsOf
  rw [e]
  exact fun z => nomatch z
def lineB (l : Str) : Bool := decide (l.length ≤ 100) && (!l.cps.toList.contains 10 && (wordsOf l).all fun z => decide (z.length ≤ 600) && (!numW z || (PySem.intText? z).isSome))
structure LineOk (l : Str) : Prop where
  len : l.length ≤ 100
  n10 : 10 ∉ l.cps.toList
  ok : WordsOk (wordsOf l)
theorem lineOk_of {l : Str} (h : lineB l = true) : LineOk l := by
  unfold lineB at h
  rw [Bool.and_eq_true, Bool.and_eq_true, decide_eq_true_eq, List.all_eq_true] at h
  obtain ⟨h1, h2, h3⟩ := h
  refine ⟨h1, fun z => ?_, fun z hz => ?_⟩
  · rw [List.contains_iff_mem.mpr z] at h2
    cases h2
  · have h4 := h3 z hz
    rw [Bool.and_eq_true, decide_eq_true_eq] at h4
    refine ⟨h4.1, fun e => ?_⟩
    have h5 := h4.2
    rw [e] at h5
    exact Option.isSome_iff_exists.mp h5
theorem text_lines {ls : List Str} (h0 : ls ≠ []) (hl : ls.length < 100) (h : ∀ l ∈ ls, LineOk l) : TextOf (Txt.join (sgn 10) ls) (ls.map wordsOf) := by
  refine ⟨?_, by rw [List.length_map]; exact hl, ls, ?_, ?_⟩
  · have := join_len (c := 10) (m := 100) (ys := ls) fun y hy => (h y hy).len
    omega
  · exact split_join (by decide) h0 fun r hr => (h r hr).n10
  · have := paired_map (F := fun l ws => Txt.split l (sgn 32) = ws ∧ l.length ≤ 1000 ∧ ws ≠ [] ∧ WordsOk ws) (f := fun l => l) (g := wordsOf) (l := ls) fun l hl' =>
      ⟨split_words l, by have := (h l hl').len; omega, words_ne l, (h l hl').ok⟩
    rwa [List.map_id'] at this
/-- a line made of words -/
theorem words_join {ws : List Str} (h : RowS ws) : wordsOf (Txt.join (sgn 32) ws) = ws := by
  rw [← split_words, h.split]
theorem lineOk_join {ws : List Str} (h : RowS ws) : LineOk (Txt.join (sgn 32) ws) :=
  ⟨h.len, h.n10, by rw [words_join h]; exact fun z hz => ⟨by have := (h.2.2 z hz).len; omega, (h.2.2 z hz).int⟩⟩
theorem words_lines {h : Int} {rs ds ss : List (List Int)} (hr : ∀ ws ∈ rowsW h rs ds ss, RowS ws) : (linesS h rs ds ss).map wordsOf = rowsW h rs ds ss ∧ ∀ l ∈ linesS h rs ds ss, LineOk l := by
  rw [lines_rows]
  constructor
  · rw [List.map_map]
    have : ∀ ws ∈ rowsW h rs ds ss, (wordsOf ∘ Txt.join (sgn 32)) ws = ws := fun ws hw => words_join (hr ws hw)
    rw [List.map_congr_left this, List.map_id']
  · intro l hl
    obtain ⟨ws, hw, rfl⟩ := List.mem_map.mp hl
    exact lineOk_join (hr ws hw)
/-! ### runs over rows -/
theorem go_app : ∀ (A C : List (List Str)) (i : Nat) (st : RS), goR i st (A ++ C) = match goR i st A with
    | .inl k => .inl k
    | .inr st' => goR (i + A.length) st' C
  | [], C, i, st => rfl
  | ws :: A, C, i, st => by
    show (match stepR i st ws with | none => Sum.inl i | some st' => goR (i + 1) st' (A ++ C)) = match (match stepR i st ws with | none => Sum.inl i | some st' => goR (i + 1) st' A) with
      | .inl k => .inl k
      | .inr st' => goR (i + (ws :: A).length) st' C
    cases h : stepR i st ws with
    | none => rfl
    | some st' =>
      show goR (i + 1) st' (A ++ C) = match goR (i + 1) st' A with | .inl k => .inl k | .inr st'' => goR (i + (ws :: A).length) st'' C
      rw [go_app A C (i + 1) st']
      have e : i + 1 + A.length = i + (ws :: A).length := by rw [List.length_cons]; omega
      rw [e]
/-- the first rows of rows that can be, can be -/
theorem go_pre {A B : List (List Str)} {i : Nat} {st r : RS} (h : goR i st (A ++ B) = .inr r) : ∃ st', goR i st A = .inr st' ∧ ∀ C, goR i st (A ++ C) = goR (i + A.length) st' C := by
  rw [go_app] at h
  cases e : goR i st A with
  | inl k =>
    rw [e] at h
    cases h
  | inr st' => exact ⟨st', rfl, fun C => by rw [go_app, e]⟩
def notLater (ws : List Str) : Bool := !rowW ws || sortW ws == 0
def notFirst (ws : List Str) : Bool := !rowW ws || !(sortW ws == 0)
theorem step_later {ws : List Str} (h : notLater ws = true) {i : Nat} (hi : i ≠ 0) (st : RS) : stepR i st ws = none := by
  unfold stepR
  split
  · rename_i hr
    unfold notLater at h
    rw [hr] at h
    have h0 : sortW ws = 0 := by simpa using h
    rw [if_pos (.inr fun z => hi (z.mp h0))]
  · rfl
theorem step_first {ws : List Str} (h : notFirst ws = true) (st : RS) : stepR 0 st ws = none := by
  unfold stepR
  split
  · rename_i hr
    unfold notFirst at h
    rw [hr] at h
    have h0 : ¬ sortW ws = 0 := by simpa using h
    rw [if_pos (.inr fun z => h0 (z.mpr rfl))]
  · rfl
theorem go_bad {A C : List (List Str)} {ws : List Str} {i : Nat} {st st' : RS} (h : goR i st A = .inr st') (hn : stepR (i + A.length) st' ws = none) : goR i st (A ++ ws :: C) = .inl (i + A.length) := by
  rw [go_app, h]
  show (match stepR (i + A.length) st' ws with | none => Sum.inl (i + A.length) | some st'' => goR (i + A.length + 1) st'' C) = _
  rw [hn]
/-! ### the law's odd lines -/
def nones : List Str := ["", " ", "room", "room 1 2 3", "room 1 2 3 4 5", "room 1 2 3 -1", "room 1 2 3 01", "room 1 2 3 x", "room 1 2 3 10000", "room  1 2 3", "room 1 2 3 4 ", " room 1 2 3 4", "Room 1 2 3 4", "rooms 1 2 3 4",
  "door", "door 0 1", "door 0 1 2 3", "door 0 1 -2", "door 0 1 +2", "door 00 1 2", "door 0 1 2.0", "stay", "stay 0 0 1 2", "stay 0 0 1 2 3 4", "stay 0 0 1 2 ", "stay 0 0 1 2 00", "stays 0 0 1 2 3", "hours 3", "hours", "vent 0 1 2 3"]
def heads : List Str := ["", "hours", "hours 01", "hours 1 2", "hours x", "hours -1", "hours 10000", "Hours 3", "hours 3 ", "room 1 1 1 1"]
theorem nones_ok : (nones.all fun l => lineB l && notLater (wordsOf l)) = true := by decide +kernel
theorem heads_ok : (heads.all fun l => lineB l && notFirst (wordsOf l)) = true := by decide +kernel
theorem none_ok {l : Str} (h : l ∈ nones) : LineOk l ∧ notLater (wordsOf l) = true := by
  have := List.all_eq_true.mp nones_ok l h
  rw [Bool.and_eq_true] at this
  exact ⟨lineOk_of this.1, this.2⟩
theorem head_ok {l : Str} (h : l ∈ heads) : LineOk l ∧ notFirst (wordsOf l) = true := by
  have := List.all_eq_true.mp heads_ok l h
  rw [Bool.and_eq_true] at this
  exact ⟨lineOk_of this.1, this.2⟩
end Cr
set_option Elab.async false
set_option linter.all false
set_option maxRecDepth 100000
set_option maxHeartbeats 4000000
/-! Equality and membership of rows, of lists of lists of ints -/
namespace Cr
open PySem PySem.Spec PyProof.Rows L2
abbrev lI (ns : List Int) : PyData := .list (ns.map .int)
abbrev dLL (ps : List (List Int)) : PyData := .list (ps.map lI)
theorem eqv_tI (a b : List Int) : PyData.eqv (tI a) (tI b) = decide (a = b) := by
  have := PySem.W.ked_eqvAll a b
  simp only [PyData.eqv]
  exact this
theorem eqv_lI (a b : List Int) : PyData.eqv (lI a) (lI b) = decide (a = b) := by
  have := PySem.W.ked_eqvAll a b
  simp only [PyData.eqv]
  exact this
theorem any_tI (rs : List (List Int)) (p : List Int) : ((rs.map tI).any fun z => PyData.eqv z (tI p)) = decide (p ∈ rs) := by
  induction rs with
  | nil => simp
  | cons r rs ih =>
    rw [List.map_cons, List.any_cons, ih, eqv_tI]
    by_cases h : r = p
    · simp [h]
    · simp [h, Ne.symm h]
theorem eqvAll_lI : ∀ a b : List (List Int), PyData.eqvAll (a.map lI) (b.map lI) = decide (a = b)
  | [], [] => rfl
  | [], b :: bs => rfl
  | a :: as, [] => rfl
  | a :: as, b :: bs => by
    rw [List.map_cons, List.map_cons]
    simp only [PyData.eqvAll]
    rw [eqv_lI, eqvAll_lI as bs]
    by_cases h : a = b <;> by_cases h2 : as = bs <;> simp [h, h2]
theorem eqv_dLL (a b : List (List Int)) : PyData.eqv (dLL a) (dLL b) = decide (a = b) := by
  have := eqvAll_lI a b
  simp only [PyData.eqv]
  exact this
theorem canAll_ints (ns : List Int) : PyData.canLayAll0 (ns.map PyData.int) = true := by
  induction ns with
  | nil => rfl
  | cons n r ih => simp only [List.map_cons, PyData.canLayAll0, PyData.canLay0, ih]; rfl
theorem canAll_tI (rs : List (List Int)) : PyData.canLayAll0 (rs.map tI) = true := by
  induction rs with
  | nil => rfl
  | cons r rs ih => simp only [List.map_cons, PyData.canLayAll0, PyData.canLay0, ih, canAll_ints]; rfl
theorem canAll_lI (rs : List (List Int)) : PyData.canLayAll0 (rs.map lI) = true := by
  induction rs with
  | nil => rfl
  | cons r rs ih => simp only [List.map_cons, PyData.canLayAll0, PyData.canLay0, ih, canAll_ints]; rfl
theorem depth_tI (rs : List (List Int)) : PyData.depthAll (rs.map tI) ≤ 3 := by
  induction rs with
  | nil => simp [PyData.depthAll]
  | cons r rs ih =>
    have := depth_ints r
    rw [List.map_cons]
    simp only [PyData.depthAll, PyData.depth]
    omega
theorem depth_lI (rs : List (List Int)) : PyData.depthAll (rs.map lI) ≤ 3 := by
  induction rs with
  | nil => simp [PyData.depthAll]
  | cons r rs ih =>
    have := depth_ints r
    rw [List.map_cons]
    simp only [PyData.depthAll, PyData.depth]
    omega
theorem shaped_tI (ns : List Int) : SeqAt.shaped (tI ns) = true := by
  unfold SeqAt.shaped
  rw [Bool.and_eq_true, decide_eq_true_eq]
  refine ⟨?_, ?_⟩
  · simp only [PyData.canLay0]
    exact canAll_ints ns
  · have := depth_ints ns
    simp only [PyData.depth]
    omega
theorem shaped_dI (rs : List (List Int)) : SeqAt.shaped (dI rs) = true := by
  unfold SeqAt.shaped
  rw [Bool.and_eq_true, decide_eq_true_eq]
  refine ⟨?_, ?_⟩
  · simp only [PyData.canLay0]
    exact canAll_tI rs
  · have := depth_tI rs
    simp only [PyData.depth]
    omega
theorem shaped_dLL (rs : List (List Int)) : SeqAt.shaped (dLL rs) = true := by
  unfold SeqAt.shaped
  rw [Bool.and_eq_true, decide_eq_true_eq]
  refine ⟨?_, ?_⟩
  · simp only [PyData.canLay0]
    exact canAll_lI rs
  · have := depth_lI rs
    simp only [PyData.depth]
    omega
theorem eqvAll_tI : ∀ a b : List (List Int), PyData.eqvAll (a.map tI) (b.map tI) = decide (a = b)
  | [], [] => rfl
  | [], b :: bs => rfl
  | a :: as, [] => rfl
  | a :: as, b :: bs => by
    rw [List.map_cons, List.map_cons]
    simp only [PyData.eqvAll]
    rw [eqv_tI, eqvAll_tI as bs]
    by_cases h : a = b <;> by_cases h2 : as = bs <;> simp [h, h2]
theorem eqv_dI (a b : List (List Int)) : PyData.eqv (dI a) (dI b) = decide (a = b) := by
  have := eqvAll_tI a b
  simp only [PyData.eqv]
  exact this
section
variable {K : PySem.W.Frag} {G : Hp}
theorem intsL_dp : ∀ {xs : List V} {ps : List (List Int)}, Paired (IntsL K G) xs ps → DpAll K G xs (ps.map lI)
  | _, _, .nil => .nil
  | _, _, .cons ⟨a, h1, h2⟩ r => .cons (by rw [h1]; exact .lst h2 (dpAll_ints _)) (intsL_dp r)
theorem PricesA.dp {a : Addr} {ps : List (List Int)} (h : PricesA K G a ps) : Dp K G (.ref a) (dLL ps) := by
  obtain ⟨xs, q, r⟩ := h
  exact .lst q (intsL_dp r)
end
end Cr
set_option Elab.async false
set_option linter.all false
set_option maxRecDepth 100000
set_option maxHeartbeats 4000000
/-! Lists under way that are not known -/
namespace Cr
open PySem PySem.Spec PyProof.Rows L2
/-- a list that stands and is not known -/
def Own (G H : Hp) (p : Addr) (xs : List V) : Prop := H p = some (.lst xs) ∧ G p = none
section
variable {Ps : List Addr} {b l p q : Addr} {G0 H0 G H G1 H1 : Hp} {xs : List V} {o : HO}
theorem Own.step (w : Own G H p xs) (n : p ∉ b :: l :: Ps) (y : Bx Ps b l G H G1 H1) : Own G1 H1 p xs :=
  ⟨y.gr.keep _ _ n w.1, y.gr.fresh p w.2 (by rw [w.1]; exact fun z => nomatch z)⟩
theorem Own.off (w : Own G H p xs) (ne : p ≠ q) : Own G (upd H q o) p xs := ⟨by rw [upd_ne ne]; exact w.1, w.2⟩
theorem Own.off2 (w : Own G H p xs) (ne : p ≠ q) : Own (upd G q o) H p xs := ⟨w.1, by rw [upd_ne ne]; exact w.2⟩
theorem Own.made (B : Bx Ps b l G0 H0 G H) (hp : H p = none) : Own G (upd H p (.lst xs)) p xs := ⟨upd_same, B.wd.free hp⟩
def Own4 (G H : Hp) (p1 p2 p3 p4 : Addr) (x1 x2 x3 x4 : List V) : Prop := Own G H p1 x1 ∧ Own G H p2 x2 ∧ Own G H p3 x3 ∧ Own G H p4 x4
theorem Own4.step {p1 p2 p3 p4 : Addr} {x1 x2 x3 x4 : List V} (w : Own4 G H p1 p2 p3 p4 x1 x2 x3 x4) (n1 : p1 ∉ b :: l :: Ps) (n2 : p2 ∉ b :: l :: Ps) (n3 : p3 ∉ b :: l :: Ps) (n4 : p4 ∉ b :: l :: Ps) (y : Bx Ps b l G H G1 H1) : Own4 G1 H1 p1 p2 p3 p4 x1 x2 x3 x4 :=
  ⟨w.1.step n1 y, w.2.1.step n2 y, w.2.2.1.step n3 y, w.2.2.2.step n4 y⟩
theorem Own4.nes {p1 p2 p3 p4 : Addr} {x1 x2 x3 x4 : List V} (w : Own4 G H p1 p2 p3 p4 x1 x2 x3 x4) (h : H q = none) : p1 ≠ q ∧ p2 ≠ q ∧ p3 ≠ q ∧ p4 ≠ q := ⟨ne_of_none w.1.1 h, ne_of_none w.2.1.1 h, ne_of_none w.2.2.1.1 h, ne_of_none w.2.2.2.1 h⟩
theorem Own4.off {p1 p2 p3 p4 : Addr} {x1 x2 x3 x4 : List V} (w : Own4 G H p1 p2 p3 p4 x1 x2 x3 x4) (n : p1 ≠ q ∧ p2 ≠ q ∧ p3 ≠ q ∧ p4 ≠ q) : Own4 G (upd H q o) p1 p2 p3 p4 x1 x2 x3 x4 := ⟨w.1.off n.1, w.2.1.off n.2.1, w.2.2.1.off n.2.2.1, w.2.2.2.off n.2.2.2⟩
theorem int_at {ns : List Int} {k : Nat} (hk : k < ns.length) : ∃ a, atI (ns.map V.int) (0 + (k : Int)) = some (.int a) := by
  refine ⟨ns[k], ?_⟩
  rw [show (0 + (k : Int)) = ((k : Nat) : Int) by omega]
  exact atI_nat (by rw [List.getElem?_map, List.getElem?_eq_getElem hk]; rfl)
theorem ixN_at {n k : Nat} (h : k < n) : ixN n (0 + (k : Int)) = some k := by
  unfold ixN
  rw [if_pos (by omega), if_pos (by omega)]
  congr 1
  omega
theorem Bx.ninF (B : Bx Ps b l G0 H0 G H) (hp : H p = none) : p ∉ b :: l :: Ps := fun h => by
  rcases List.mem_cons.mp h with z | h
  · exact B.neb hp z.symm
  rcases List.mem_cons.mp h with z | h
  · exact B.nel hp z.symm
  · exact B.tabs.nin hp h
theorem Bx.free' (B : Bx Ps b l G0 H0 G H) (hp : H p = none) : H0 p = none := B.gr.free' hp
end
theorem Bx.al {Ps : List Addr} {b l p : Addr} {G0 H0 G H : Hp} {o : HO} (B : Bx Ps b l G0 H0 G H) (hp : H p = none) : ∃ G', Bx Ps b l G0 H0 G' (upd H p o) ∧ Same G G' ∧ G' p = some o := ⟨upd G p o, B.alloc hp, same_new (B.wd.free hp), upd_same⟩
end Cr
set_option Elab.async false
set_option linter.all false
set_option maxRecDepth 100000
set_option maxHeartbeats 4000000

/-! _law_refused, _law_none -/
namespace Cr
open PySem PySem.Spec PyProof.Rows L2
abbrev s_law_refused : Stmt := top 39
abbrev n_law_refused : List Str := ["_law_lines_here", "e"]
abbrev a_law_refused : List Str := ["_law_lines_here"]
theorem sc_law_refused : FnScope n_law_refused a_law_refused (defScope s_law_refused) := ⟨rfl, rfl, rfl, by decide +kernel, rfl, by decide +kernel, by decide +kernel⟩
abbrev s_law_none : Stmt := top 40
abbrev n_law_none : List Str := ["_law_box", "_law_some"]
abbrev a_law_none : List Str := ["_law_box"]
theorem sc_law_none : FnScope n_law_none a_law_none (defScope s_law_none) := ⟨rfl, rfl, rfl, by decide +kernel, rfl, by decide +kernel, by decide +kernel⟩
def rJoin (K : PySem.W.Frag) : V → List V → Hp → VK → Prop := fun x xs H Q => ∃ a p, ∃ ys : List Str, x = .str a ∧ xs = [.ref p] ∧ (SqL K H p (ys.map V.str) ∨ SqT K H p (ys.map V.str)) ∧ (ys.map (·.length)).sum + ys.length * a.length ≤ 16777216 ∧ Q (.str (Txt.join a ys)) H
theorem pe_joinK {X : Cx} {K : PySem.W.Frag} {o e : Expr} {to te : TE} {apos pos : Pos} (hK : X.K = K) (ho : PE X o to) (he : PE X e te) (hs : starEach [e] X.env = [(false, eval e X.env)] := by rfl) (hbase : attributeBase o "join" X.env (eval o X.env) = eval o X.env := by rfl) (hline : (apos.endLine == pos.line) = true := by rfl) :
    PE X (.Call (.Attribute o "join" apos) [e] [] pos) (tM1 (rJoin K) to te) := by
  subst hK
  exact pe_join ho he hs hbase hline
section
variable {P : Program} {w : World} {K : PySem.W.Frag} {mg : Str → Option Value} {base : Heap} {ad : Ad} {cBT cR tR : Addr} {Ps : List Addr} {H : Hp}
/-- what isinstance tells of an own error of the class at D -/
structure KindX (K : PySem.W.Frag) (ad : Ad) (D bt bh p1 p2 p3 : Addr) (isT isH : Bool) : Prop where
  exA : PySem.W.exmOne K (.ref D) (.ref ad.cA) = some true
  exC : ExcC K D
  xfC : XfC K D
  iVE : PySem.W.kitOne K (.ref D) (.type "ValueError") = some true
  kT : PySem.W.kitOne K (.ref D) (.ref bt) = some isT
  kH : PySem.W.kitOne K (.ref D) (.ref bh) = some isH
  k1 : PySem.W.kitOne K (.ref D) (.ref p1) = some false
  k2 : PySem.W.kitOne K (.ref D) (.ref p2) = some false
  k3 : PySem.W.kitOne K (.ref D) (.ref p3) = some false
structure RawRe (K : PySem.W.Frag) (w : World) (mg : Str → Option Value) (base : Heap) (ad : Ad) (cBT cR tR cBP cBr cNP : Addr) : Prop extends RawRd K w mg base ad cBT cR tR, RawL K mg where
  lref : DefR K mg "_law_refused" s_law_refused a_law_refused
  lnon : DefR K mg "_law_none" s_law_none a_law_none
  xT : KindX K ad cBT cBT ad.cBH cBP cBr cNP true false
  xH : KindX K ad ad.cBH cBT ad.cBH cBP cBr cNP false true
  mBT : mg "BadText" = some (.ref cBT)
  mBH : mg "BadHouse" = some (.ref ad.cBH)
  mBP : mg "BadPlan" = some (.ref cBP)
  mBr : mg "Broken" = some (.ref cBr)
  mNP : mg "NoPlan" = some (.ref cNP)
  b_ValueError : mg "ValueError" = none
variable {cBP cBr cNP : Addr}
def spRefd (K : PySem.W.Frag) (Ps : List Addr) : Sp := fun vs H Q _ => ∃ (G : Hp) (l : Addr) (ls : List Str), vs = [.ref l] ∧ Wd Ps G H ∧ Tabs Ps H ∧ SqL K G l (ls.map V.str) ∧ ls ≠ [] ∧ ls.length < 100 ∧ (∀ y ∈ ls, LineOk y) ∧
  ((∃ i : Nat, goR 0 begR (ls.map wordsOf) = .inl i ∧ ∀ p G' H', Gr Ps G H G' H' → Tabs Ps H' → G' p = some (.tup [.str "text", .int (i : Int)]) → Q (.ref p) H') ∨
   ∃ st z, goR 0 begR (ls.map wordsOf) = .inr st ∧ houseBad (hOf st) (st.2 1) (st.2 2) (st.2 3) = some z ∧ ∀ p G' H', Gr Ps G H G' H' → Tabs Ps H' → G' p = some (.tup [.str "house", .str z.1, .int z.2]) → Q (.ref p) H')
theorem c_refd (T : RawRe K w mg base ad cBT cR tR cBP cBr cNP) (hP : ad.tNum ∈ Ps) (hP2 : tR ∈ Ps) : C8.Cal P w K mg base 7 "_law_refused" (spRefd K Ps) [] := by
  refine T.lref.cal sc_law_refused (fun vs H Q E h => ?_) (fun f cdv A outer s H vs Q E hr h => ?_)
  · obtain ⟨G, l, ls, rfl, _⟩ := h
    rfl
  · obtain ⟨G, l, ls, rfl, wd, tbs, hl, hne, hlen, hok, q⟩ := h
    have b_isinstance := T.b_isinstance
    have b_ValueError := T.b_ValueError
    have m_AirError := T.m_AirError
    have m_BadText := T.mBT
    have m_BadHouse := T.mBH
    have m_BadPlan := T.mBP
    have m_Broken := T.mBr
    have m_NoPlan := T.mNP
    have x_BadText := T.xT.xfC
    have x_BadHouse := T.xH.xfC
    have f_row := T.btr
    have f_word := T.bhw
    have f_number := T.bhn
    have k_read : CalX P w K mg base 6 "read" (spRead ad K Ps cBT) := c_read T.toRawRd hP hP2
    refine ⟨_, (pss_cons (ps_try_as (i := 1) rfl rfl sc_law_refused.nd rfl rfl ⟨rfl, by decide, .inl m_AirError⟩ takes0 (fun W pn xe tk _ =>
        (pss_one (ps_expr (pe_cxS k_read hr (by decide) tk rfl (pa_cons (pe_joinK (K := K) rfl pe_str (pv 0)) pa_nil)))))
        (fun a oe cls d pn hz hf => (pss_cons (ps_if (PW.pt (pw_or (pt_val (pe_callB (call_isEX hz hf) (by rfl) b_isinstance (by decide +kernel) (pa_cons (pv 1) (pa_cons (pe_tup (pa_cons (pe_glob (v := .ref _) rfl m_BadPlan rfl) (pa_cons (pe_glob (v := .ref _) rfl m_Broken rfl) (pa_cons (pe_glob (v := .ref _) rfl m_NoPlan rfl) pa_nil)))) pa_nil)))) (pw_or1 (pt_not (pt_val (pe_callB (call_isEX hz hf) (by rfl) b_isinstance (by decide +kernel) (pa_cons (pv 1) (pa_cons (pe_bltn (v := .ty "ValueError") (by rfl) b_ValueError (by decide +kernel) rfl) pa_nil))))))))
        (pss_one (ps_ret pe_str))
        pss_nil)
      (pss_cons (ps_if (pt_val (pe_callB (call_isEX hz hf) (by rfl) b_isinstance (by decide +kernel) (pa_cons (pv 1) (pa_cons (pe_glob (v := .ref _) rfl m_BadText rfl) pa_nil))))
        (pss_one (ps_ret (pe_ifExp (pt_val (pe_callB (call_isEX hz hf) (by rfl) b_isinstance (by decide +kernel) (pa_cons (pv 1) (pa_cons (pe_glob (v := .ref _) rfl m_BadHouse rfl) pa_nil)))) pe_str (pe_tup (pa_cons pe_str (pa_cons (pe_xf x_BadText f_row hz hf (pv 1)) pa_nil))))))
        pss_nil)
      (pss_one (ps_ret (pe_tup (pa_cons pe_str (pa_cons (pe_xf x_BadHouse f_word hz hf (pv 1)) (pa_cons (pe_xf x_BadHouse f_number hz hf (pv 1)) pa_nil))))))))))
      (pss_one (ps_ret pe_str))), ?_⟩
    have tx := text_lines hne hlen hok
    have hs := sum_len (m := 100) fun y hy => (hok y hy).len
    have hn1 : ("\n" : Str).length = 1 := by decide +kernel
    refine ⟨⟨_, rfl⟩, _, rfl, _, l, ls, rfl, rfl, .inl (wd.same.seq hl), by rw [hn1]; omega, ?_⟩
    rw [e10']
    refine ⟨G, _, ls.map wordsOf, rfl, wd, tbs, tx, fun i e cls d G' H' hR g t => ?_, fun st e => ⟨fun z e2 cls d G' H' hR g t => ?_, fun e2 => ?_⟩⟩
    · obtain ⟨rfl, dd, rfl, hdd⟩ := hR
      obtain ⟨i', e', qq⟩ | ⟨st, z, e', _, _⟩ := q
      rotate_left
      · rw [e] at e'
        cases e'
      rw [e] at e'
      cases e'
      refine ⟨true, T.xT.exA, fun _ ea hea => ?_, fun z => nomatch z⟩
      refine ⟨_, rfl, by show 3 ≤ sizeLine; decide, fun tp htp => ?_⟩
      have g2 := g.trans (Gr.new (o := .tup [.ref cBP, .ref cBr, .ref cNP]) g.wd htp)
      have t2 := t.same (same_new (o := .tup [.ref cBP, .ref cBr, .ref cNP]) htp)
      have hdd2 := same_new (o := .tup [.ref cBP, .ref cBr, .ref cNP]) htp _ _ hdd
      refine ⟨cBT, _, false, rfl, rfl, T.xT.exC, ⟨_, hdd2⟩, .inr ⟨tp, _, [.ref cBP, .ref cBr, .ref cNP], rfl, upd_same, .cons (.own _) (.cons (.own _) (.cons (.own _) .nil)), kitAny_f (fun c hc => ?_)⟩, ?_⟩
      · simp only [List.mem_cons, List.mem_nil_iff, or_false] at hc
        rcases hc with rfl | rfl | rfl
        · exact T.xT.k1
        · exact T.xT.k2
        · exact T.xT.k3
      refine ⟨_, rfl, iteF ?_⟩
      refine ⟨_, rfl, cBT, _, true, rfl, rfl, T.xT.exC, ⟨_, hdd2⟩, .inl ⟨_, .ty _, T.xT.iVE⟩, _, rfl, iteF ?_⟩
      refine ⟨_, rfl, cBT, _, true, rfl, rfl, T.xT.exC, ⟨_, hdd2⟩, .inl ⟨_, .own _, T.xT.kT⟩, _, rfl, iteT ?_⟩
      refine ⟨_, rfl, cBT, _, false, rfl, rfl, T.xT.exC, ⟨_, hdd2⟩, .inl ⟨_, .own _, T.xT.kH⟩, _, rfl, iteF ?_⟩
      refine ⟨_, rfl, rfl, rfl, dd, _, .int (i : Int), rfl, hdd2, rfl, by show 2 ≤ sizeLine; decide, fun p2 hp2 => ?_⟩
      have g3 := g2.trans (Gr.alloc (o := .tup [.str "text", .int (i : Int)]) g2.wd hp2)
      exact qq p2 _ _ g3 (t2.same (same_new hp2)) upd_same
    · obtain ⟨rfl, dd, rfl, hdd⟩ := hR
      obtain ⟨i', e', qq⟩ | ⟨st', z', e', e2', qq⟩ := q
      · rw [e] at e'
        cases e'
      rw [e] at e'
      cases e'
      rw [e2] at e2'
      cases e2'
      refine ⟨true, T.xH.exA, fun _ ea hea => ?_, fun z => nomatch z⟩
      refine ⟨_, rfl, by show 3 ≤ sizeLine; decide, fun tp htp => ?_⟩
      have g2 := g.trans (Gr.new (o := .tup [.ref cBP, .ref cBr, .ref cNP]) g.wd htp)
      have t2 := t.same (same_new (o := .tup [.ref cBP, .ref cBr, .ref cNP]) htp)
      have hdd2 := same_new (o := .tup [.ref cBP, .ref cBr, .ref cNP]) htp _ _ hdd
      refine ⟨ad.cBH, _, false, rfl, rfl, T.xH.exC, ⟨_, hdd2⟩, .inr ⟨tp, _, [.ref cBP, .ref cBr, .ref cNP], rfl, upd_same, .cons (.own _) (.cons (.own _) (.cons (.own _) .nil)), kitAny_f (fun c hc => ?_)⟩, ?_⟩
      · simp only [List.mem_cons, List.mem_nil_iff, or_false] at hc
        rcases hc with rfl | rfl | rfl
        · exact T.xH.k1
        · exact T.xH.k2
        · exact T.xH.k3
      refine ⟨_, rfl, iteF ?_⟩
      refine ⟨_, rfl, ad.cBH, _, true, rfl, rfl, T.xH.exC, ⟨_, hdd2⟩, .inl ⟨_, .ty _, T.xH.iVE⟩, _, rfl, iteF ?_⟩
      refine ⟨_, rfl, ad.cBH, _, false, rfl, rfl, T.xH.exC, ⟨_, hdd2⟩, .inl ⟨_, .own _, T.xH.kT⟩, _, rfl, iteF ?_⟩
      refine ⟨_, rfl, rfl, rfl, dd, _, .str z.1, rfl, hdd2, rfl, ?_⟩
      refine ⟨_, rfl, rfl, rfl, dd, _, .int z.2, rfl, hdd2, rfl, ?_⟩
      refine ⟨by show 3 ≤ sizeLine; decide, fun p2 hp2 => ?_⟩
      have g3 := g2.trans (Gr.alloc (o := .tup [.str "house", .str z.1, .int z.2]) g2.wd hp2)
      exact qq p2 _ _ g3 (t2.same (same_new hp2)) upd_same
    · obtain ⟨i', e', qq⟩ | ⟨st', z', e', e2', qq⟩ := q
      · rw [e] at e'
        cases e'
      rw [e] at e'
      cases e'
      rw [e2] at e2'
      cases e2'
def spNone (Ps : List Addr) : Sp := fun vs H Q _ => ∃ (b l : Addr) (G : Hp), vs = [.ref b] ∧ Bx Ps b l G H G H ∧ ∀ z G' H', z ∈ nones → Bx Ps b l G H G' H' → Q (.str z) H'
theorem c_none (T : RawRe K w mg base ad cBT cR tR cBP cBr cNP) : C8.Cal P w K mg base 2 "_law_none" (spNone Ps) [] := by
  refine T.lnon.cal sc_law_none (fun vs H Q E h => ?_) (fun f cdv A outer s H vs Q E hr h => ?_)
  · obtain ⟨b, l, G, rfl, _⟩ := h
    rfl
  · obtain ⟨b, l, G, rfl, B, q⟩ := h
    have k__law_take : C8.Cal P w K mg base 1 "_law_take" (spTake Ps) [] := c_take T.toRawL
    refine ⟨_, (pss_cons (ps_set (i := 1) sc_law_none.nd rfl (Or.inl rfl) (pe_lst (pa_cons pe_str (pa_cons pe_str (pa_cons pe_str (pa_cons pe_str (pa_cons pe_str (pa_cons pe_str (pa_cons pe_str pa_nil)))))))))
      (pss_cons (ps_expr (pe_bm PySem.F.plainAttrs_list PySem.F.slot_list_append PySem.F.type_list_append mt_append (pv 1) (pa_cons pe_str pa_nil)))
      (pss_cons (ps_set (i := 1) sc_law_none.nd rfl (Or.inl rfl) (pe_op op_cat (pv 1) (pe_lst (pa_cons pe_str (pa_cons pe_str (pa_cons pe_str (pa_cons pe_str pa_nil)))))))
      (pss_cons (ps_set (i := 1) sc_law_none.nd rfl (Or.inl rfl) (pe_op op_cat (pv 1) (pe_lst (pa_cons pe_str (pa_cons pe_str pa_nil)))))
      (pss_cons (ps_set (i := 1) sc_law_none.nd rfl (Or.inl rfl) (pe_op op_cat (pv 1) (pe_lst (pa_cons pe_str (pa_cons pe_str (pa_cons pe_str (pa_cons pe_str (pa_cons pe_str (pa_cons pe_str pa_nil)))))))))
      (pss_cons (ps_set (i := 1) sc_law_none.nd rfl (Or.inl rfl) (pe_op op_cat (pv 1) (pe_lst (pa_cons pe_str pa_nil))))
      (pss_cons (ps_set (i := 1) sc_law_none.nd rfl (Or.inl rfl) (pe_op op_cat (pv 1) (pe_lst (pa_cons pe_str (pa_cons pe_str (pa_cons pe_str (pa_cons pe_str (pa_cons pe_str pa_nil))))))))
      (pss_cons (ps_set (i := 1) sc_law_none.nd rfl (Or.inl rfl) (pe_op op_cat (pv 1) (pe_lst (pa_cons pe_str pa_nil))))
      (pss_cons (ps_set (i := 1) sc_law_none.nd rfl (Or.inl rfl) (pe_op op_cat (pv 1) (pe_lst (pa_cons pe_str (pa_cons pe_str (pa_cons pe_str pa_nil))))))
      (pss_one (ps_ret (pe_ix ix_seq (pv 1) (C8.pe_c k__law_take hr (by decide) rfl (pa_cons (pv 0) (pa_cons pe_int pa_nil))) (fun _ _ => rfl))))))))))))), ?_⟩
    refine ⟨by show 7 ≤ sizeLine; decide, fun p1 hp1 => ?_⟩
    have B1 := B.new (o := .lst ((nones.take 7).map V.str)) hp1
    have e1 : upd H p1 (.lst ((nones.take 7).map V.str)) p1 = some (.lst ((nones.take 7).map V.str)) := upd_same
    refine ⟨_, rfl, .inl ⟨rfl, _, SqL.of e1⟩, p1, _, _, rfl, rfl, e1, by show 7 < sizeLine; decide, ?_⟩
    have B2 := B1.poke (o := .lst ((nones.take 8).map V.str)) B hp1 (B.wd.free hp1)
    have e2 : upd (upd H p1 (.lst ((nones.take 7).map V.str))) p1 (.lst ((nones.take 8).map V.str)) p1 = some (.lst ((nones.take 8).map V.str)) := upd_same
    refine ⟨_, rfl, by show 4 ≤ sizeLine; decide, fun a12 ha12 => ?_⟩
    have A12 := B2.new (o := .lst (((nones.drop 8).take 4).map V.str)) ha12
    refine ⟨_, a12, ((nones.take 8).map V.str), (((nones.drop 8).take 4).map V.str), rfl, rfl, (upd_ne (ne_of_none e2 ha12)).trans e2, upd_same, by show 12 ≤ sizeLine; decide, fun p12 hp12 => ?_⟩
    have B12 := A12.new (o := .lst ((nones.take 12).map V.str)) hp12
    have e12 : upd (upd (upd (upd H p1 (.lst ((nones.take 7).map V.str))) p1 (.lst ((nones.take 8).map V.str))) a12 (.lst (((nones.drop 8).take 4).map V.str))) p12 (.lst ((nones.take 12).map V.str)) p12 = some (.lst ((nones.take 12).map V.str)) := upd_same
    refine ⟨_, rfl, by show 2 ≤ sizeLine; decide, fun a14 ha14 => ?_⟩
    have A14 := B12.new (o := .lst (((nones.drop 12).take 2).map V.str)) ha14
    refine ⟨_, a14, ((nones.take 12).map V.str), (((nones.drop 12).take 2).map V.str), rfl, rfl, (upd_ne (ne_of_none e12 ha14)).trans e12, upd_same, by show 14 ≤ sizeLine; decide, fun p14 hp14 => ?_⟩
    have B14 := A14.new (o := .lst ((nones.take 14).map V.str)) hp14
    have e14 : upd (upd (upd (upd (upd (upd H p1 (.lst ((nones.take 7).map V.str))) p1 (.lst ((nones.take 8).map V.str))) a12 (.lst (((nones.drop 8).take 4).map V.str))) p12 (.lst ((nones.take 12).map V.str))) a14 (.lst (((nones.drop 12).take 2).map V.str))) p14 (.lst ((nones.take 14).map V.str)) p14 = some (.lst ((nones.take 14).map V.str)) := upd_same
    refine ⟨_, rfl, by show 6 ≤ sizeLine; decide, fun a20 ha20 => ?_⟩
    have A20 := B14.new (o := .lst (((nones.drop 14).take 6).map V.str)) ha20
    refine ⟨_, a20, ((nones.take 14).map V.str), (((nones.drop 14).take 6).map V.str), rfl, rfl, (upd_ne (ne_of_none e14 ha20)).trans e14, upd_same, by show 20 ≤ sizeLine; decide, fun p20 hp20 => ?_⟩
    have B20 := A20.new (o := .lst ((nones.take 20).map V.str)) hp20
    have e20 : upd (upd (upd (upd (upd (upd (upd (upd H p1 (.lst ((nones.take 7).map V.str))) p1 (.lst ((nones.take 8).map V.str))) a12 (.lst (((nones.drop 8).take 4).map V.str))) p12 (.lst ((nones.take 12).map V.str))) a14 (.lst (((nones.drop 12).take 2).map V.str))) p14 (.lst ((nones.take 14).map V.str))) a20 (.lst (((nones.drop 14).take 6).map V.str))) p20 (.lst ((nones.take 20).map V.str)) p20 = some (.lst ((nones.take 20).map V.str)) := upd_same
    refine ⟨_, rfl, by show 1 ≤ sizeLine; decide, fun a21 ha21 => ?_⟩
    have A21 := B20.new (o := .lst (((nones.drop 20).take 1).map V.str)) ha21
    refine ⟨_, a21, ((nones.take 20).map V.str), (((nones.drop 20).take 1).map V.str), rfl, rfl, (upd_ne (ne_of_none e20 ha21)).trans e20, upd_same, by show 21 ≤ sizeLine; decide, fun p21 hp21 => ?_⟩
    have B21 := A21.new (o := .lst ((nones.take 21).map V.str)) hp21
    have e21 : upd (upd (upd (upd (upd (upd (upd (upd (upd (upd H p1 (.lst ((nones.take 7).map V.str))) p1 (.lst ((nones.take 8).map V.str))) a12 (.lst (((nones.drop 8).take 4).map V.str))) p12 (.lst ((nones.take 12).map V.str))) a14 (.lst (((nones.drop 12).take 2).map V.str))) p14 (.lst ((nones.take 14).map V.str))) a20 (.lst (((nones.drop 14).take 6).map V.str))) p20 (.lst ((nones.take 20).map V.str))) a21 (.lst (((nones.drop 20).take 1).map V.str))) p21 (.lst ((nones.take 21).map V.str)) p21 = some (.lst ((nones.take 21).map V.str)) := upd_same
    refine ⟨_, rfl, by show 5 ≤ sizeLine; decide, fun a26 ha26 => ?_⟩
    have A26 := B21.new (o := .lst (((nones.drop 21).take 5).map V.str)) ha26
    refine ⟨_, a26, ((nones.take 21).map V.str), (((nones.drop 21).take 5).map V.str), rfl, rfl, (upd_ne (ne_of_none e21 ha26)).trans e21, upd_same, by show 26 ≤ sizeLine; decide, fun p26 hp26 => ?_⟩
    have B26 := A26.new (o := .lst ((nones.take 26).map V.str)) hp26
    have e26 : upd (upd (upd (upd (upd (upd (upd (upd (upd (upd (upd (upd H p1 (.lst ((nones.take 7).map V.str))) p1 (.lst ((nones.take 8).map V.str))) a12 (.lst (((nones.drop 8).take 4).map V.str))) p12 (.lst ((nones.take 12).map V.str))) a14 (.lst (((nones.drop 12).take 2).map V.str))) p14 (.lst ((nones.take 14).map V.str))) a20 (.lst (((nones.drop 14).take 6).map V.str))) p20 (.lst ((nones.take 20).map V.str))) a21 (.lst (((nones.drop 20).take 1).map V.str))) p21 (.lst ((nones.take 21).map V.str))) a26 (.lst (((nones.drop 21).take 5).map V.str))) p26 (.lst ((nones.take 26).map V.str)) p26 = some (.lst ((nones.take 26).map V.str)) := upd_same
    refine ⟨_, rfl, by show 1 ≤ sizeLine; decide, fun a27 ha27 => ?_⟩
    have A27 := B26.new (o := .lst (((nones.drop 26).take 1).map V.str)) ha27
    refine ⟨_, a27, ((nones.take 26).map V.str), (((nones.drop 26).take 1).map V.str), rfl, rfl, (upd_ne (ne_of_none e26 ha27)).trans e26, upd_same, by show 27 ≤ sizeLine; decide, fun p27 hp27 => ?_⟩
    have B27 := A27.new (o := .lst ((nones.take 27).map V.str)) hp27
    have e27 : upd (upd (upd (upd (upd (upd (upd (upd (upd (upd (upd (upd (upd (upd H p1 (.lst ((nones.take 7).map V.str))) p1 (.lst ((nones.take 8).map V.str))) a12 (.lst (((nones.drop 8).take 4).map V.str))) p12 (.lst ((nones.take 12).map V.str))) a14 (.lst (((nones.drop 12).take 2).map V.str))) p14 (.lst ((nones.take 14).map V.str))) a20 (.lst (((nones.drop 14).take 6).map V.str))) p20 (.lst ((nones.take 20).map V.str))) a21 (.lst (((nones.drop 20).take 1).map V.str))) p21 (.lst ((nones.take 21).map V.str))) a26 (.lst (((nones.drop 21).take 5).map V.str))) p26 (.lst ((nones.take 26).map V.str))) a27 (.lst (((nones.drop 26).take 1).map V.str))) p27 (.lst ((nones.take 27).map V.str)) p27 = some (.lst ((nones.take 27).map V.str)) := upd_same
    refine ⟨_, rfl, by show 3 ≤ sizeLine; decide, fun a30 ha30 => ?_⟩
    have A30 := B27.new (o := .lst (((nones.drop 27).take 3).map V.str)) ha30
    refine ⟨_, a30, ((nones.take 27).map V.str), (((nones.drop 27).take 3).map V.str), rfl, rfl, (upd_ne (ne_of_none e27 ha30)).trans e27, upd_same, by show 30 ≤ sizeLine; decide, fun p30 hp30 => ?_⟩
    have B30 := A30.new (o := .lst ((nones.take 30).map V.str)) hp30
    have e30 : upd (upd (upd (upd (upd (upd (upd (upd (upd (upd (upd (upd (upd (upd (upd (upd H p1 (.lst ((nones.take 7).map V.str))) p1 (.lst ((nones.take 8).map V.str))) a12 (.lst (((nones.drop 8).take 4).map V.str))) p12 (.lst ((nones.take 12).map V.str))) a14 (.lst (((nones.drop 12).take 2).map V.str))) p14 (.lst ((nones.take 14).map V.str))) a20 (.lst (((nones.drop 14).take 6).map V.str))) p20 (.lst ((nones.take 20).map V.str))) a21 (.lst (((nones.drop 20).take 1).map V.str))) p21 (.lst ((nones.take 21).map V.str))) a26 (.lst (((nones.drop 21).take 5).map V.str))) p26 (.lst ((nones.take 26).map V.str))) a27 (.lst (((nones.drop 26).take 1).map V.str))) p27 (.lst ((nones.take 27).map V.str))) a30 (.lst (((nones.drop 27).take 3).map V.str))) p30 (.lst ((nones.take 30).map V.str)) p30 = some (.lst ((nones.take 30).map V.str)) := upd_same
    refine ⟨_, rfl, _, rfl, b, l, _, _, rfl, by decide, by decide, B30.start, fun r H' a c B' => ?_⟩
    have e' := B'.gr.keep p30 _ (A30.wd.nin hp30) e30
    obtain ⟨v, hv, hvm⟩ := atI_mem (xs := (nones.take 30).map V.str) (i := r) a (by
      have : ((nones.take 30).map V.str).length = 30 := rfl
      rw [this]
      exact c)
    obtain ⟨z, hz, rfl⟩ := List.mem_map.mp hvm
    exact .inl ⟨p30, _, r, _, rfl, rfl, SqL.of e', hv, q z _ _ (List.mem_of_mem_take hz) (B30.trans B')⟩
end
end Cr
set_option Elab.async false
set_option linter.all false
set_option maxRecDepth 100000
set_option maxHeartbeats 4000000
/-! The law's texts: what read says of each -/
namespace Cr
open PySem PySem.Spec PyProof.Rows L2
section
variable {h : Int} {rs ds ss : List (List Int)}
theorem go_self (g : GoodH h rs ds ss) : ∃ st, goR 0 begR ((linesS h rs ds ss).map wordsOf) = .inr st := by
  obtain ⟨l, _, e⟩ := go_house g.nums []
  rw [List.append_nil] at e
  rw [(words_lines (text_house g).1).1, e]
  exact ⟨_, rfl⟩
theorem lines_len (g : GoodH h rs ds ss) : (linesS h rs ds ss).length = 1 + rs.length + ds.length + ss.length ∧ (linesS h rs ds ss).length ≤ 35 := by
  obtain ⟨_, e1, e2⟩ := text_house g
  rw [lines_rows, List.length_map]
  exact ⟨e1, e2⟩
/-- an odd line among the lines -/
theorem go_odd (g : GoodH h rs ds ss) {n : Nat} (h1 : 1 ≤ n) (hn : n ≤ (linesS h rs ds ss).length) {s : Str} (hs : s ∈ nones) (T : List Str) :
    goR 0 begR (((linesS h rs ds ss).take n ++ s :: T).map wordsOf) = .inl n := by
  obtain ⟨st, e⟩ := go_self g
  have e2 : (linesS h rs ds ss).map wordsOf = ((linesS h rs ds ss).take n).map wordsOf ++ ((linesS h rs ds ss).drop n).map wordsOf := by
    rw [← List.map_append, List.take_append_drop]
  rw [e2] at e
  obtain ⟨st', e3, _⟩ := go_pre e
  have hl : (((linesS h rs ds ss).take n).map wordsOf).length = n := by rw [List.length_map, List.length_take]; omega
  rw [List.map_append, List.map_cons]
  have := go_bad (C := T.map wordsOf) (ws := wordsOf s) e3 (step_later (none_ok hs).2 (by omega) st')
  rw [this, hl, Nat.zero_add]
/-- an odd first line -/
theorem go_head {s : Str} (hs : s ∈ heads) (T : List Str) : goR 0 begR ((s :: T).map wordsOf) = .inl 0 := by
  show (match stepR 0 begR (wordsOf s) with | none => Sum.inl 0 | some st' => goR (0 + 1) st' (T.map wordsOf)) = _
  rw [step_first (head_ok hs).2]
theorem go_two {x y : List Str} {i l : Nat} {p : Nat → List (List Int)} (hi : i ≠ 0) (hx : rowW x = true) (h0 : sortW x ≠ 0) (hl : l ≤ sortW x) (hy : sortW y < sortW x) : goR i (l, p) [x, y] = .inl (i + 1) := by
  have e1 : stepR i (l, p) x = some (sortW x, fun j => if j = sortW x then p j ++ [numsOf x] else p j) := by
    unfold stepR
    rw [if_pos hx, if_neg]
    rintro (z | z)
    · have z' : sortW x < l := z
      omega
    · exact z ⟨fun q => absurd q h0, fun q => absurd q hi⟩
  have e2 : ∀ q : Nat → List (List Int), stepR (i + 1) (sortW x, q) y = none := fun q => by
    unfold stepR
    split
    · rw [if_pos (.inl hy)]
    · rfl
  show (match stepR i (l, p) x with | none => Sum.inl i | some st' => goR (i + 1) st' [y]) = _
  rw [e1]
  show (match stepR (i + 1) (sortW x, fun j => if j = sortW x then p j ++ [numsOf x] else p j) y with | none => Sum.inl (i + 1) | some st' => goR (i + 1 + 1) st' []) = _
  rw [e2]
abbrev stay1 : Str := "stay 0 0 1 0 0"
abbrev room1 : Str := "room 1 1 1 1"
abbrev door1 : Str := "door 0 1 1"
theorem w_stay1 : rowW (wordsOf stay1) = true ∧ sortW (wordsOf stay1) = 3 := by decide +kernel
theorem w_door1 : rowW (wordsOf door1) = true ∧ sortW (wordsOf door1) = 2 := by decide +kernel
theorem w_room1 : rowW (wordsOf room1) = true ∧ sortW (wordsOf room1) = 1 := by decide +kernel
theorem b_stay1 : lineB stay1 = true ∧ lineB room1 = true ∧ lineB door1 = true := by decide +kernel
/-- a pair of lines behind the lines, of which the second stands too late -/
theorem go_pairs (g : GoodH h rs ds ss) {y : Str} (hy : y = room1 ∨ y = door1) : goR 0 begR ((linesS h rs ds ss ++ [stay1, y]).map wordsOf) = .inl ((linesS h rs ds ss).length + 1) := by
  obtain ⟨l, h3, e⟩ := go_house g.nums [wordsOf stay1, wordsOf y]
  rw [List.map_append, (words_lines (text_house g).1).1]
  show goR 0 begR (rowsW h rs ds ss ++ [wordsOf stay1, wordsOf y]) = _
  rw [e, go_two (by omega) w_stay1.1 (by rw [w_stay1.2]; decide) (by rw [w_stay1.2]; exact h3), (lines_len g).1]
  rw [w_stay1.2]
  rcases hy with rfl | rfl
  · rw [w_room1.2]; decide
  · rw [w_door1.2]; decide
theorem go_pair0 (g : GoodH h rs ds []) : goR 0 begR ((linesS h rs ds [] ++ [door1, room1]).map wordsOf) = .inl ((linesS h rs ds []).length + 1) := by
  have N := g.nums
  have hn : ([h] : List Int).all numOk = true := by
    show (numOk h && true) = true
    rw [N.h]
    rfl
  obtain ⟨e1, e2⟩ := rowW_line cnt_hours (ns := [h]) rfl hn
  have est : stepR 0 begR (lineW "hours" [h]) = some (0, fun j => if j = 0 then [[h]] else []) := by
    unfold stepR
    rw [if_pos e1, e2, nums_line hn, if_neg]
    · rfl
    rintro (z | z)
    · exact absurd z (Nat.not_lt_zero _)
    · exact z ⟨fun _ => rfl, fun _ => rfl⟩
  obtain ⟨l1, h1, q1⟩ := go_lines cnt_room (by decide) (ds.map (lineW "door") ++ [wordsOf door1, wordsOf room1]) rs 1 (0, fun j => if j = 0 then [[h]] else []) N.r (by decide) (Nat.zero_le _)
  obtain ⟨l2, h2, q2⟩ := go_lines cnt_door (by decide) [wordsOf door1, wordsOf room1] ds (1 + rs.length) (l1, fun j => if j = 1 then (if j = 0 then [[h]] else []) ++ rs else (if j = 0 then [[h]] else [])) N.d (by omega) (by show l1 ≤ 2; omega)
  rw [List.map_append, (words_lines (text_house g).1).1, (lines_len g).1]
  have e0 : rowsW h rs ds [] ++ [wordsOf door1, wordsOf room1] = lineW "hours" [h] :: (rs.map (lineW "room") ++ (ds.map (lineW "door") ++ [wordsOf door1, wordsOf room1])) := by
    unfold rowsW
    simp [List.append_assoc]
  show goR 0 begR (rowsW h rs ds [] ++ [wordsOf door1, wordsOf room1]) = _
  rw [e0]
  show (match stepR 0 begR (lineW "hours" [h]) with | none => Sum.inl 0 | some st' => goR (0 + 1) st' _) = _
  rw [est]
  show goR 1 _ _ = _
  rw [q1, q2, go_two (by omega) w_door1.1 (by rw [w_door1.2]; decide) (by rw [w_door1.2]; exact h2) (by rw [w_door1.2, w_room1.2]; decide)]
  rfl
/-! houses that cannot be -/
structure OneOk (ls : List Str) (word : Str) : Prop where
  ne : ls ≠ []
  len : ls.length ≤ 40
  ok : ∀ y ∈ ls, LineOk y
  bad : ∃ st, goR 0 begR (ls.map wordsOf) = .inr st ∧ houseBad (hOf st) (st.2 1) (st.2 2) (st.2 3) = some (word, 0)
theorem x_ok : lineB "x" = true ∧ rowW (wordsOf "x") = false := by decide +kernel
theorem OneOk.x {ls : List Str} {word : Str} (o : OneOk ls word) : goR 0 begR ((ls ++ [("x" : Str)]).map wordsOf) = .inl ls.length := by
  obtain ⟨st, e, _⟩ := o.bad
  rw [List.map_append]
  have := go_bad (C := []) (ws := wordsOf "x") e (by unfold stepR; rw [if_neg (by rw [x_ok.2]; exact Bool.false_ne_true)])
  rw [List.length_map, Nat.zero_add] at this
  exact this
theorem hours_line (n : Int) (s : Str) (e : ("hours " : Str) ++ (toString n : Str) = s) : s = lineS "hours" [n] := by rw [← e, line_hours]
theorem one_hours (g : GoodH h rs ds ss) {n : Int} (hn : numOk n = true) (hb : ¬ (1 ≤ n ∧ n ≤ 12)) : OneOk (lineS "hours" [n] :: (linesS h rs ds ss).drop 1) "hours" := by
  have N := g.nums
  have N' : NumsH n rs ds ss := ⟨hn, N.r, N.d, N.s⟩
  have el : lineS "hours" [n] :: (linesS h rs ds ss).drop 1 = linesS n rs ds ss := rfl
  rw [el]
  have hR : ∀ ws ∈ rowsW n rs ds ss, RowS ws := fun ws hw => by
    unfold rowsW at hw
    rcases List.mem_cons.mp hw with rfl | hw
    · exact rowS_line wordS_hours (by simp) (by show (numOk n && true) = true; rw [hn]; rfl)
    · exact (text_house g).1 ws (List.mem_cons_of_mem _ hw)
  obtain ⟨w1, w2⟩ := words_lines hR
  obtain ⟨l, _, e⟩ := go_house N' []
  rw [List.append_nil] at e
  have hl : (linesS n rs ds ss).length = (linesS h rs ds ss).length := rfl
  refine ⟨fun z => (nomatch z), by rw [hl]; have := (lines_len g).2; omega, w2, ?_⟩
  rw [w1, e]
  refine ⟨_, rfl, ?_⟩
  show houseBad n rs ds ss = _
  unfold houseBad countBad
  rw [if_pos hb]
def vd (rows : List (List Str)) : Option (Str × Int) := match goR 0 begR rows with
  | .inl _ => none
  | .inr st => houseBad (hOf st) (st.2 1) (st.2 2) (st.2 3)
theorem vd_bad {rows : List (List Str)} {z : Str × Int} (e : vd rows = some z) : ∃ st, goR 0 begR rows = .inr st ∧ houseBad (hOf st) (st.2 1) (st.2 2) (st.2 3) = some z := by
  unfold vd at e
  split at e
  · cases e
  · rename_i st h
    exact ⟨st, h, e⟩
def oneB (k : Nat) (extra : List Str) (word : Str) : Bool := ((lineS "hours" [(k : Int)] :: extra).all lineB) && decide (vd ((lineS "hours" [(k : Int)] :: extra).map wordsOf) = some (word, 0))
theorem one_lit {extra : List Str} {word : Str} (hl : extra.length ≤ 10) (hb : ∀ k : Nat, k < 13 → 1 ≤ k → oneB k extra word = true) (g : GoodH h rs ds ss) : OneOk ((linesS h rs ds ss).take 1 ++ extra) word := by
  have h1 := g.h1
  have h2 := g.h12
  have e : (h.toNat : Int) = h := by omega
  have := hb h.toNat (by omega) (by omega)
  unfold oneB at this
  rw [Bool.and_eq_true, decide_eq_true_eq, List.all_eq_true, e] at this
  have el : (linesS h rs ds ss).take 1 ++ extra = lineS "hours" [h] :: extra := rfl
  rw [el]
  exact ⟨fun z => (nomatch z), by rw [List.length_cons]; omega, fun y hy => lineOk_of (this.1 y hy), vd_bad this.2⟩
theorem lit_rooms : ∀ k : Nat, k < 13 → 1 ≤ k → oneB k [] "rooms" = true := by decide +kernel
theorem lit_room : ∀ k : Nat, k < 13 → 1 ≤ k → oneB k ["room 2 1 1 1"] "room" = true := by decide +kernel
theorem lit_door : ∀ k : Nat, k < 13 → 1 ≤ k → oneB k ["room 1 1 1 1", "door 0 1 1"] "door" = true := by decide +kernel
theorem lit_stay : ∀ k : Nat, k < 13 → 1 ≤ k → oneB k ["room 1 1 1 1", "stay 0 0 1 1000 1"] "stay" = true := by decide +kernel
end
end Cr
set_option Elab.async false
set_option linter.all false
set_option maxRecDepth 100000
set_option maxHeartbeats 4000000
/-! What a house that can be says of its numbers -/
namespace Cr
open PySem PySem.Spec PyProof.Rows L2
theorem firstNot_mem {ok : List Int → Bool} {rs : List (List Int)} (e : firstNot ok rs = none) {s : List Int} (hs : s ∈ rs) : ok s = true := by
  unfold firstNot at e
  have z := (List.findIdx?_eq_none_iff.mp e) s hs
  simpa using z
theorem houseBad_all {h : Int} {rs ds ss : List (List Int)} (e : houseBad h rs ds ss = none) :
    countBad h rs ds ss = none ∧ firstNot roomOk rs = none ∧ firstNot (doorOk rs.length) ds = none ∧ firstNot (stayOk h rs) ss = none := by
  unfold houseBad at e
  split at e
  · cases e
  rename_i e0
  refine ⟨e0, ?_⟩
  unfold partBad at e
  split at e
  · cases e
  rename_i e1
  split at e
  · cases e
  rename_i e2
  split at e
  · cases e
  rename_i e3
  exact ⟨e1, e2, e3⟩
theorem houseBad_room {h : Int} {rs ds ss : List (List Int)} (e : houseBad h rs ds ss = none) {s : List Int} (hs : s ∈ rs) : roomOk s = true := firstNot_mem (houseBad_all e).2.1 hs
theorem houseBad_door {h : Int} {rs ds ss : List (List Int)} (e : houseBad h rs ds ss = none) {s : List Int} (hs : s ∈ ds) : doorOk rs.length s = true := firstNot_mem (houseBad_all e).2.2.1 hs
theorem house_counts {h : Int} {rs ds ss : List (List Int)} (e : houseBad h rs ds ss = none) : (1 ≤ h ∧ h ≤ 12) ∧ (1 ≤ rs.length ∧ rs.length ≤ 6) ∧ ds.length ≤ 8 ∧ ss.length ≤ 20 := by
  have e0 := (houseBad_all e).1
  unfold countBad at e0
  split at e0
  · cases e0
  split at e0
  · cases e0
  split at e0
  · cases e0
  split at e0
  · cases e0
  rename_i h1 h2 h3 h4
  exact ⟨Decidable.not_not.mp h1, Decidable.not_not.mp h2, by omega, by omega⟩
theorem all_numOk {ns : List Int} (h : ns.all numOk = true) {n : Int} (hn : n ∈ ns) : 0 ≤ n ∧ n ≤ 999 := by
  have z := List.all_eq_true.mp h n hn
  unfold numOk at z
  simp at z
  exact z
theorem room_num {h : Int} {rs ds ss : List (List Int)} (e : houseBad h rs ds ss = none) (w : Wide 4 rs) {s : List Int} (hs : s ∈ rs) : ∃ a m l p, s = [a, m, l, p] ∧ (0 ≤ a ∧ a ≤ m ∧ m ≤ 999) ∧ (0 ≤ l ∧ l ≤ 999) ∧ 0 ≤ p ∧ p ≤ 999 := by
  obtain ⟨a, m, l, p, rfl⟩ := len4 (w s hs)
  have z := houseBad_room e hs
  replace z : (([a, m, l, p] : List Int).all numOk && decide (a ≤ m)) = true := z
  rw [Bool.and_eq_true] at z
  have n := fun x hx => all_numOk z.1 (n := x) hx
  exact ⟨a, m, l, p, rfl, ⟨(n a (by simp)).1, of_decide_eq_true z.2, (n m (by simp)).2⟩, n l (by simp), n p (by simp)⟩
theorem door_num {h : Int} {rs ds ss : List (List Int)} (e : houseBad h rs ds ss = none) (w : Wide 3 ds) {s : List Int} (hs : s ∈ ds) : ∃ (o t : Nat) (l : Int), s = [(o : Int), (t : Int), l] ∧ o < rs.length ∧ t < rs.length ∧ o ≠ t ∧ 0 ≤ l ∧ l ≤ 999 := by
  obtain ⟨o, t, l, rfl⟩ := len3 (w s hs)
  have z := houseBad_door e hs
  replace z : (([o, t, l] : List Int).all numOk && (!decide (o = t) && decide (max o t < (rs.length : Int)))) = true := z
  rw [Bool.and_eq_true, Bool.and_eq_true] at z
  have n := fun x hx => all_numOk z.1 (n := x) hx
  have z3 := of_decide_eq_true z.2.2
  have z2 : o ≠ t := by simpa using z.2.1
  have no := n o (by simp)
  have nt := n t (by simp)
  exact ⟨o.toNat, t.toNat, l, by rw [Int.toNat_of_nonneg no.1, Int.toNat_of_nonneg nt.1], by omega, by omega, by omega, n l (by simp)⟩
theorem stay_num {h : Int} {rs ds ss : List (List Int)} (e : houseBad h rs ds ss = none) (w : Wide 5 ss) {s : List Int} (hs : s ∈ ss) : ∃ (r b t : Nat) (u n : Int), s = [(r : Int), (b : Int), (t : Int), u, n] ∧ r < rs.length ∧ b < t ∧ (t : Int) ≤ h ∧ (0 ≤ u ∧ u ≤ 999) ∧ 0 ≤ n ∧ n ≤ mostOf rs r := by
  obtain ⟨r, b, t, u, n, rfl⟩ := len5 (w s hs)
  have z := firstNot_mem (houseBad_all e).2.2.2 hs
  replace z : (([r, b, t, u, n] : List Int).all numOk && (decide (r < (rs.length : Int)) && (decide (b < t) && decide (t ≤ h) && decide (n ≤ mostOf rs r)))) = true := z
  rw [Bool.and_eq_true, Bool.and_eq_true, Bool.and_eq_true, Bool.and_eq_true] at z
  have m := fun x hx => all_numOk z.1 (n := x) hx
  have mr := m r (by simp)
  have mb := m b (by simp)
  have mt := m t (by simp)
  have z2 := of_decide_eq_true z.2.1
  have z3 := of_decide_eq_true z.2.2.1.1
  have z4 := of_decide_eq_true z.2.2.1.2
  have z5 := of_decide_eq_true z.2.2.2
  exact ⟨r.toNat, b.toNat, t.toNat, u, n, by rw [Int.toNat_of_nonneg mr.1, Int.toNat_of_nonneg mb.1, Int.toNat_of_nonneg mt.1], by omega, by omega, by omega, m u (by simp), (m n (by simp)).1, by rw [Int.toNat_of_nonneg mr.1]; exact z5⟩
theorem room_num2 {h : Int} {rs ds ss : List (List Int)} {a m l p : Int} (e : houseBad h rs ds ss = none) (w : Wide 4 rs) (hs : [a, m, l, p] ∈ rs) : 0 ≤ p ∧ p ≤ 999 := by
  obtain ⟨a', m', l', p', e', _, _, h⟩ := room_num e w hs
  have : p = p' := by injection e' with _ e'; injection e' with _ e'; injection e' with _ e'; injection e'
  rw [this]; exact h
theorem doorOk_inv2 {n : Nat} {o t l : Int} (h : doorOk n [o, t, l] = true) : (0 ≤ o ∧ o ≤ 999) ∧ (0 ≤ t ∧ t ≤ 999) ∧ (0 ≤ l ∧ l ≤ 999) ∧ o ≠ t ∧ o < n ∧ t < n := by
  replace h : (([o, t, l] : List Int).all numOk && (!decide (o = t) && decide (max o t < (n : Int)))) = true := h
  rw [Bool.and_eq_true] at h
  obtain ⟨h1, h2⟩ := h
  have z := fun x hx => all_numOk h1 (n := x) hx
  simp at h2
  exact ⟨z o (by simp), z t (by simp), z l (by simp), h2.1, by omega, by omega⟩
end Cr
set_option Elab.async false
set_option linter.all false
set_option maxRecDepth 100000
set_option maxHeartbeats 4000000
/-! Bounds and lacks: the mathematics -/
namespace Cr
open PySem PySem.Spec PyProof.Rows L2
/-! ### the bound by prices -/
def roomPart (rs ss ps : List (List Int)) (t r : Nat) : Int :=
  pr ps r t * useOf ss r t - (rs.getD r []).getD 2 0 * max (pr ps r t - (rs.getD r []).getD 3 0) 0 + (pr ps r t - pr ps r (t + 1)) * (if pr ps r t - pr ps r (t + 1) > 0 then leastOf ss r t else (rs.getD r []).getD 1 0) - (if t = 0 then (rs.getD r []).getD 0 0 * pr ps r t else 0)
def doorPart (ds ps : List (List Int)) (t j : Nat) : Int := (ds.getD j []).getD 2 0 * (((pr ps ((ds.getD j []).getD 0 0).toNat t - pr ps ((ds.getD j []).getD 1 0).toNat t).natAbs : Nat) : Int)
def hourBound (rs ds ss ps : List (List Int)) (t : Nat) : Int := sumTo (roomPart rs ss ps t) rs.length - sumTo (doorPart ds ps t) ds.length
def boundOf (h : Nat) (rs ds ss ps : List (List Int)) : Int := sumTo (hourBound rs ds ss ps) h
theorem abs_if (n : Int) : (if n < 0 then -n else n) = ((n.natAbs : Nat) : Int) := by
  by_cases h : n < 0
  · rw [if_pos h]; omega
  · rw [if_neg h]; omega
theorem hf_nf (m : Str) (h : Int) (a b c : Addr) (h1 : ¬ m = "_stays") (h2 : ¬ m = "_doors") (h3 : ¬ m = "_rooms") (h4 : ¬ m = "hours") : (hf h a b c).lookup m = none := hf_no _ _ _ _ h1 h2 h3 h4
/-! ### what places lack -/
def inP (pls : List (List Int)) (t r : Int) : Bool := decide ([t, r] ∈ pls)
def placeDoor (ds pls : List (List Int)) (t r j : Nat) : Int :=
  (if (r : Int) = (ds.getD j []).getD 0 0 ∧ inP pls t ((ds.getD j []).getD 1 0) = false then (ds.getD j []).getD 2 0 else 0) + (if (r : Int) = (ds.getD j []).getD 1 0 ∧ inP pls t ((ds.getD j []).getD 0 0) = false then (ds.getD j []).getD 2 0 else 0)
def placePart (rs ds ss pls : List (List Int)) (t r : Nat) : Int :=
  useOf ss r t - (rs.getD r []).getD 2 0 + (if inP pls ((t : Int) + 1) r = true then 0 else leastOf ss r t) - (if t = 0 then (rs.getD r []).getD 0 0 else if inP pls ((t : Int) - 1) r = true then 0 else (rs.getD r []).getD 1 0) - sumTo (placeDoor ds pls t r) ds.length
def partAt (rs ds ss pls : List (List Int)) (p : List Int) : Int := placePart rs ds ss pls (p.getD 0 0).toNat (p.getD 1 0).toNat
def lackOf (rs ds ss pls : List (List Int)) : Int := (pls.map (partAt rs ds ss pls)).sum
def placesOk (h nr : Nat) (pls : List (List Int)) : Prop := ∀ p ∈ pls, ∃ t r : Nat, p = [(t : Int), (r : Int)] ∧ t < h ∧ r < nr
theorem inP_out {h nr : Nat} {pls : List (List Int)} (ok : placesOk h nr pls) (r : Int) : inP pls (h : Int) r = false := by
  unfold inP
  rw [decide_eq_false_iff_not]
  intro z
  obtain ⟨t, r', e, ht, _⟩ := ok _ z
  simp at e
  omega
theorem notIn_inP (pls : List (List Int)) (a b : Int) : (!((pls.map tI).any fun z => PyData.eqv z (tI [a, b]))) = !inP pls a b := by
  rw [any_tI]
  rfl
def isPl (h nr : Nat) (t r : Int) : Bool := (decide (0 ≤ t) && decide (t < (h : Int))) && (decide (0 ≤ r) && decide (r < (nr : Int)))
end Cr
set_option Elab.async false
set_option linter.all false
set_option maxRecDepth 100000
set_option maxHeartbeats 4000000
/-! Plans: the mathematics -/
namespace Cr
open PySem PySem.Spec PyProof.Rows L2
/-! ### a plan: for each hour the vents and the flows -/
abbrev Hours := List (List Int × List Int)
def HourT (K : PySem.W.Frag) (G : Hp) (v : V) (p : List Int × List Int) : Prop := ∃ t va fa, v = .ref t ∧ SqT K G t [.ref va, .ref fa] ∧ SqL K G va (p.1.map V.int) ∧ SqL K G fa (p.2.map V.int)
def PlanA (K : PySem.W.Frag) (G : Hp) (a : Addr) (pl : Hours) : Prop := ∃ xs, SqL K G a xs ∧ Paired (HourT K G) xs pl
theorem HourT.same {K : PySem.W.Frag} {G G' : Hp} {v : V} {p : List Int × List Int} (e : Same G G') (h : HourT K G v p) : HourT K G' v p := by
  obtain ⟨t, va, fa, r, h1, h2, h3⟩ := h
  exact ⟨t, va, fa, r, Same.tup e h1, e.seq h2, e.seq h3⟩
theorem hours_same {K : PySem.W.Frag} {G G' : Hp} (e : Same G G') : ∀ {xs : List V} {pl : Hours}, Paired (HourT K G) xs pl → Paired (HourT K G') xs pl
  | _, _, .nil => .nil
  | _, _, .cons h r => .cons (h.same e) (hours_same e r)
theorem PlanA.same {K : PySem.W.Frag} {G G' : Hp} {a : Addr} {pl : Hours} (e : Same G G') (h : PlanA K G a pl) : PlanA K G' a pl := let ⟨xs, h1, h2⟩ := h; ⟨xs, e.seq h1, hours_same e h2⟩
/-- .. its lists being the heap's own -/
def HourL (K : PySem.W.Frag) (G : Hp) (v : V) (p : List Int × List Int) : Prop := ∃ t va fa, v = .ref t ∧ SqT K G t [.ref va, .ref fa] ∧ G va = some (.lst (p.1.map V.int)) ∧ G fa = some (.lst (p.2.map V.int))
def PlanL (K : PySem.W.Frag) (G : Hp) (a : Addr) (pl : Hours) : Prop := ∃ xs, G a = some (.lst xs) ∧ Paired (HourL K G) xs pl
theorem HourL.same {K : PySem.W.Frag} {G G' : Hp} {v : V} {p : List Int × List Int} (e : Same G G') (h : HourL K G v p) : HourL K G' v p := by
  obtain ⟨t, va, fa, r, h1, h2, h3⟩ := h
  exact ⟨t, va, fa, r, Same.tup e h1, e _ _ h2, e _ _ h3⟩
theorem HourL.toT {K : PySem.W.Frag} {G : Hp} {v : V} {p : List Int × List Int} (h : HourL K G v p) : HourT K G v p := by
  obtain ⟨t, va, fa, r, h1, h2, h3⟩ := h
  exact ⟨t, va, fa, r, h1, SqL.of h2, SqL.of h3⟩
theorem hoursL_same {K : PySem.W.Frag} {G G' : Hp} (e : Same G G') : ∀ {xs : List V} {pl : Hours}, Paired (HourL K G) xs pl → Paired (HourL K G') xs pl
  | _, _, .nil => .nil
  | _, _, .cons h r => .cons (h.same e) (hoursL_same e r)
theorem hoursL_toT {K : PySem.W.Frag} {G : Hp} : ∀ {xs : List V} {pl : Hours}, Paired (HourL K G) xs pl → Paired (HourT K G) xs pl
  | _, _, .nil => .nil
  | _, _, .cons h r => .cons h.toT (hoursL_toT r)
theorem PlanL.same {K : PySem.W.Frag} {G G' : Hp} {a : Addr} {pl : Hours} (e : Same G G') (h : PlanL K G a pl) : PlanL K G' a pl := let ⟨xs, h1, h2⟩ := h; ⟨xs, e _ _ h1, hoursL_same e h2⟩
theorem PlanL.toA {K : PySem.W.Frag} {G : Hp} {a : Addr} {pl : Hours} (h : PlanL K G a pl) : PlanA K G a pl := let ⟨xs, h1, h2⟩ := h; ⟨xs, SqL.of h1, hoursL_toT h2⟩
/-- the plan is of the house's counts -/
def fits (h : Int) (nr nd : Nat) (pl : Hours) : Prop := (pl.length : Int) = h ∧ ∀ p ∈ pl, p.1.length = nr ∧ p.2.length = nd
/-- no count is greater than a house's by much -/
def slim (pl : Hours) : Prop := pl.length < 32 ∧ ∀ p ∈ pl, p.1.length < 32 ∧ p.2.length < 32
/-! ### the limits of an hour -/
def ventOk (p : List Int × Int) : Bool := decide (0 ≤ p.2) && decide (p.2 ≤ p.1.getD 2 0)
def flowOk (p : List Int × Int) : Bool := decide (-(p.1.getD 2 0) ≤ p.2) && decide (p.2 ≤ p.1.getD 2 0)
def limitsOk (rs ds : List (List Int)) (p : List Int × List Int) : Bool := (rs.zip p.1).all ventOk && (ds.zip p.2).all flowOk
theorem all_step {α : Type} {f : α → Bool} {l : List α} {i : Nat} {a : α} (e : l[i]? = some a) : (l.take (i + 1)).all f = ((l.take i).all f && f a) := by
  rw [List.take_add_one, e, List.all_append]
  simp
theorem all_not {α : Type} {f : α → Bool} {l : List α} {i : Nat} {a : α} (e : l[i]? = some a) (h : f a = false) : l.all f = false := by
  rw [List.all_eq_false]
  exact ⟨a, List.mem_of_getElem? e, by rw [h]; exact Bool.false_ne_true⟩
theorem zip_at {α β : Type} {l : List α} {m : List β} {i : Nat} {a : α} {b : β} (h1 : l[i]? = some a) (h2 : m[i]? = some b) : (l.zip m)[i]? = some (a, b) := by
  rw [List.getElem?_zip_eq_some]
  exact ⟨h1, h2⟩
theorem ints_at {ns : List Int} {i : Nat} {y : V} (h : (ns.map V.int)[i]? = some y) : ∃ n, ns[i]? = some n ∧ y = .int n := by
  rw [List.getElem?_map] at h
  obtain ⟨n, h1, h2⟩ := Option.map_eq_some_iff.mp h
  exact ⟨n, h1, h2.symm⟩
def pricesOf (rs : List (List Int)) : List Int := rs.map fun r => r.getD 3 0
def costList (rs : List (List Int)) (pl : Hours) : List Int := (pl.map fun p => (p.1.zip (pricesOf rs)).map fun q => q.1 * q.2).flatten
def costOf (rs : List (List Int)) (pl : Hours) : Int := (costList rs pl).sum
theorem cost_step {rs : List (List Int)} {pl : Hours} {i : Nat} {p : List Int × List Int} (e : pl[i]? = some p) : costList rs (pl.take (i + 1)) = costList rs (pl.take i) ++ (p.1.zip (pricesOf rs)).map fun q => q.1 * q.2 := by
  unfold costList
  rw [List.take_add_one, e]
  simp
theorem cost_len {rs : List (List Int)} : ∀ {pl : Hours}, (∀ p ∈ pl, p.1.length < 32) → (costList rs pl).length ≤ 31 * pl.length
  | [], _ => Nat.le_refl _
  | p :: r, h => by
    have h1 := cost_len (rs := rs) (pl := r) fun q hq => h q (List.mem_cons_of_mem _ hq)
    have h2 := h p List.mem_cons_self
    unfold costList at h1 ⊢
    rw [List.map_cons, List.flatten_cons, List.length_append, List.length_map, List.length_zip, List.length_cons]
    omega
theorem prices_ok {h : Int} {rs ds ss : List (List Int)} (e : houseBad h rs ds ss = none) (w : Wide 4 rs) {n : Int} (hn : n ∈ pricesOf rs) : 0 ≤ n ∧ n ≤ 999 := by
  obtain ⟨r, hr, rfl⟩ := List.mem_map.mp hn
  obtain ⟨c1, c2, c3, c4, rfl⟩ := len4 (w r hr)
  exact (room_num2 e w hr)
/-! ### the air behind an hour -/
def leftOf (ss : List (List Int)) (t : Int) (held v : List Int) : List Int := (held.zip v).zipIdx.map fun q => q.1.1 + q.1.2 - useOf ss (q.2 : Int) t
def pushAir (left : List Int) (q : List Int × Int) : List Int :=
  ((left.set (q.1.getD 0 0).toNat (left.getD (q.1.getD 0 0).toNat 0 - q.2)).set (q.1.getD 1 0).toNat ((left.set (q.1.getD 0 0).toNat (left.getD (q.1.getD 0 0).toNat 0 - q.2)).getD (q.1.getD 1 0).toNat 0 + q.2))
def airStep (ds ss : List (List Int)) (t : Int) (held v f : List Int) : List Int := (ds.zip f).foldl pushAir (leftOf ss t held v)
theorem push_len (left : List Int) (q : List Int × Int) : (pushAir left q).length = left.length := by
  unfold pushAir
  rw [List.length_set, List.length_set]
theorem air_len (ds ss : List (List Int)) (t : Int) (held v f : List Int) (h : held.length = v.length) : (airStep ds ss t held v f).length = held.length := by
  unfold airStep
  have key : ∀ (l : List (List Int × Int)) (left : List Int), (l.foldl pushAir left).length = left.length := by
    intro l
    induction l with
    | nil => intro left; rfl
    | cons q l ih => intro left; rw [List.foldl_cons, ih, push_len]
  rw [key]
  unfold leftOf
  rw [List.length_map, List.length_zipIdx, List.length_zip]
  omega
/-- the airs of the hours: the list, and what is held behind the last -/
def airsFrom (ds ss : List (List Int)) : Nat → List Int → Hours → List (List Int)
  | _, _, [] => []
  | t, held, p :: r => airStep ds ss (t : Int) held p.1 p.2 :: airsFrom ds ss (t + 1) (airStep ds ss (t : Int) held p.1 p.2) r
def airsOf (rs ds ss : List (List Int)) (pl : Hours) : List (List Int) := airsFrom ds ss 0 (rs.map fun r => r.getD 0 0) pl
theorem airs_step (ds ss : List (List Int)) : ∀ (pl : Hours) (t : Nat) (held : List Int) (p : List Int × List Int), airsFrom ds ss t held (pl ++ [p]) = airsFrom ds ss t held pl ++ [airStep ds ss ((t + pl.length : Nat) : Int) ((airsFrom ds ss t held pl).getLast?.getD held) p.1 p.2]
  | [], t, held, p => rfl
  | p0 :: r, t, held, p => by
    have ih := airs_step ds ss r (t + 1) (airStep ds ss (t : Int) held p0.1 p0.2) p
    show airStep ds ss (t : Int) held p0.1 p0.2 :: airsFrom ds ss (t + 1) (airStep ds ss (t : Int) held p0.1 p0.2) (r ++ [p]) = _
    rw [ih]
    have e : (airsFrom ds ss t held (p0 :: r)).getLast?.getD held = (airsFrom ds ss (t + 1) (airStep ds ss (t : Int) held p0.1 p0.2) r).getLast?.getD (airStep ds ss (t : Int) held p0.1 p0.2) := by
      show (airStep ds ss (t : Int) held p0.1 p0.2 :: airsFrom ds ss (t + 1) (airStep ds ss (t : Int) held p0.1 p0.2) r).getLast?.getD held = _
      rw [List.getLast?_cons]
      rfl
    have e2 : (t + 1 + r.length : Nat) = t + (p0 :: r).length := by rw [List.length_cons]; omega
    rw [e, e2]
    rfl
theorem airs_len (ds ss : List (List Int)) : ∀ (pl : Hours) (t : Nat) (held : List Int), (airsFrom ds ss t held pl).length = pl.length
  | [], _, _ => rfl
  | p :: r, t, held => congrArg (· + 1) (airs_len ds ss r (t + 1) _)
/-! ### where a plan fails first -/
def roomGood (rs ss : List (List Int)) (t : Int) (air : List Int) (k : Nat) : Bool := decide (leastOf ss (k : Int) t ≤ air.getD k 0) && decide (air.getD k 0 ≤ (rs.getD k []).getD 1 0)
def roomBad (rs ss : List (List Int)) (t : Int) (air : List Int) (k : Nat) : Option Int := if roomGood rs ss t air k = true then none else some (k : Int)
def hourBad (rs ds ss : List (List Int)) (airs : List (List Int)) (pl : Hours) (t : Nat) : Option Int := if limitsOk rs ds (pl.getD t ([], [])) = true then (List.range rs.length).findSome? (roomBad rs ss (t : Int) (airs.getD t [])) else some (-1)
def faultOf (rs ds ss : List (List Int)) (pl : Hours) : Option (Int × Int) := (List.range pl.length).findSome? fun t => (hourBad rs ds ss (airsOf rs ds ss pl) pl t).map fun k => ((t : Int), k)
theorem some_step {α : Type} {f : Nat → Option α} {i : Nat} (h : (List.range i).findSome? f = none) (hi : f i = none) : (List.range (i + 1)).findSome? f = none := by
  rw [List.range_succ, List.findSome?_append, h]
  show ([i].findSome? f) = none
  rw [List.findSome?_cons, hi]
  rfl
theorem some_early {α : Type} {f : Nat → Option α} {i : Nat} {z : α} (h : (List.range i).findSome? f = none) (hi : f i = some z) : ∀ n, i < n → (List.range n).findSome? f = some z
  | 0, hn => absurd hn (Nat.not_lt_zero _)
  | n + 1, hn => by
    rw [List.range_succ, List.findSome?_append]
    by_cases e : i = n
    · subst e
      rw [h]
      show ([i].findSome? f) = some z
      rw [List.findSome?_cons, hi]
    · rw [some_early h hi n (by omega)]
      rfl
theorem airs_wide (ds ss : List (List Int)) : ∀ (pl : Hours) (t : Nat) (held : List Int), (∀ p ∈ pl, p.1.length = held.length) → ∀ a ∈ airsFrom ds ss t held pl, a.length = held.length
  | [], _, _, _, _, h => nomatch h
  | p :: r, t, held, hp, a, ha => by
    have h1 := air_len ds ss (t : Int) held p.1 p.2 (hp p List.mem_cons_self).symm
    rcases List.mem_cons.mp ha with e | ha
    · rw [e]; exact h1
    · rw [← h1]
      exact airs_wide ds ss r (t + 1) _ (fun q hq => by rw [h1]; exact hp q (List.mem_cons_of_mem _ hq)) a ha
theorem left_at {ss : List (List Int)} {t : Int} {held v : List Int} {k : Nat} {a n : Int} (h1 : held[k]? = some a) (h2 : v[k]? = some n) : (leftOf ss t held v)[k]? = some (a + n - useOf ss (k : Int) t) := by
  unfold leftOf
  rw [List.getElem?_map, List.getElem?_zipIdx, zip_at h1 h2]
  simp
theorem left_len (ss : List (List Int)) (t : Int) {held v : List Int} (h : held.length = v.length) : (leftOf ss t held v).length = held.length := by
  unfold leftOf
  rw [List.length_map, List.length_zipIdx, List.length_zip]
  omega
theorem fold_step {α β : Type} {f : β → α → β} {l : List α} {i : Nat} {a : α} (b : β) (e : l[i]? = some a) : (l.take (i + 1)).foldl f b = f ((l.take i).foldl f b) a := by
  rw [List.take_add_one, e, List.foldl_append]
  rfl
theorem fold_len : ∀ (l : List (List Int × Int)) (left : List Int), (l.foldl pushAir left).length = left.length
  | [], _ => rfl
  | q :: l, left => by rw [List.foldl_cons, fold_len l, push_len]
theorem ints_get {ns : List Int} {k : Nat} (hk : k < ns.length) : atI (ns.map V.int) (k : Int) = some (.int (ns.getD k 0)) := atI_nat (by
  rw [List.getElem?_map, List.getElem?_eq_getElem hk, List.getD_eq_getElem?_getD, List.getElem?_eq_getElem hk]
  rfl)
theorem ixN_nat {n k : Nat} (h : k < n) : ixN n (k : Int) = some k := by
  unfold ixN
  rw [if_pos (by omega), if_pos (by omega)]
  congr 1
end Cr
set_option Elab.async false
set_option linter.all false
set_option maxRecDepth 100000
set_option maxHeartbeats 4000000
/-! Data equal to itself; plans as data; tests that are decided -/
namespace Cr
open PySem PySem.Spec PyProof.Rows L2
mutual
theorem eqv_self : ∀ d : PyData, PyData.canLay0 d = true → PyData.eqv d d = true
  | .none, _ => rfl
  | .bool b, _ => by simp [PyData.eqv]
  | .int i, _ => by simp [PyData.eqv]
  | .str x, _ => by simp [PyData.eqv]
  | .list xs, h => by
    simp only [PyData.canLay0] at h
    simp only [PyData.eqv]
    exact eqvAll_self xs h
  | .tuple xs, h => by
    simp only [PyData.canLay0] at h
    simp only [PyData.eqv]
    exact eqvAll_self xs h
  | .dict _, h => by simp [PyData.canLay0] at h
theorem eqvAll_self : ∀ ds : List PyData, PyData.canLayAll0 ds = true → PyData.eqvAll ds ds = true
  | [], _ => rfl
  | d :: ds, h => by
    simp only [PyData.canLayAll0, Bool.and_eq_true] at h
    simp only [PyData.eqvAll, Bool.and_eq_true]
    exact ⟨eqv_self d h.1, eqvAll_self ds h.2⟩
end
theorem eqv_shaped {d : PyData} (h : SeqAt.shaped d = true) : PyData.eqv d d = true := eqv_self d (by
  unfold SeqAt.shaped at h
  exact (Bool.and_eq_true_iff.mp h).1)
abbrev hI (p : List Int × List Int) : PyData := .tuple [lI p.1, lI p.2]
abbrev dH (pl : Hours) : PyData := .list (pl.map hI)
theorem canAll_hI (pl : Hours) : PyData.canLayAll0 (pl.map hI) = true := by
  induction pl with
  | nil => rfl
  | cons r rs ih => simp only [List.map_cons, PyData.canLayAll0, PyData.canLay0, ih, canAll_ints]; rfl
theorem depth_hI (pl : Hours) : PyData.depthAll (pl.map hI) ≤ 5 := by
  induction pl with
  | nil => simp [PyData.depthAll]
  | cons r rs ih =>
    have h1 := depth_ints r.1
    have h2 := depth_ints r.2
    rw [List.map_cons]
    simp only [PyData.depthAll, PyData.depth]
    omega
theorem shaped_dH (pl : Hours) : SeqAt.shaped (dH pl) = true := by
  unfold SeqAt.shaped
  rw [Bool.and_eq_true, decide_eq_true_eq]
  refine ⟨?_, ?_⟩
  · simp only [PyData.canLay0]
    exact canAll_hI pl
  · have := depth_hI pl
    simp only [PyData.depth]
    omega
section
variable {K : PySem.W.Frag} {G : Hp}
theorem hoursT_dp : ∀ {xs : List V} {pl : Hours}, Paired (HourT K G) xs pl → DpAll K G xs (pl.map hI)
  | _, _, .nil => .nil
  | _, _, .cons ⟨t, va, fa, h1, h2, h3, h4⟩ r => .cons (by rw [h1]; exact .tup h2 (.cons (.lst h3 (dpAll_ints _)) (.cons (.lst h4 (dpAll_ints _)) .nil))) (hoursT_dp r)
theorem PlanA.dp {a : Addr} {pl : Hours} (h : PlanA K G a pl) : Dp K G (.ref a) (dH pl) := by
  obtain ⟨xs, q, r⟩ := h
  exact .lst q (hoursT_dp r)
end
section
variable {c : Prop} {d : Decidable c} {A B : Prop}
theorem iteDT (h : c) (a : A) : if (@decide c d) = true then A else B := by rw [decide_eq_true h]; exact iteT a
theorem iteDF (h : ¬ c) (b : B) : if (@decide c d) = true then A else B := by rw [decide_eq_false h]; exact iteF b
theorem iteNT (h : ¬ c) (a : A) : if (!(@decide c d)) = true then A else B := by rw [decide_eq_false h]; exact iteT a
theorem iteNF (h : c) (b : B) : if (!(@decide c d)) = true then A else B := by rw [decide_eq_true h]; exact iteF b
end
end Cr
set_option Elab.async false
set_option linter.all false
set_option maxRecDepth 100000
set_option maxHeartbeats 4000000

namespace Cr
open PySem PySem.Spec PyProof.Rows L2
abbrev slaw : Stmt := top 41
abbrev nlaw : List Str := ["_law_script", "_law_box", "_law_rows", "_law_lines_here", "_law_later", "_law_at", "_law_odd", "_law_heads", "_law_pairs", "_law_ones", "_law_some", "_law_word", "_law_number"]
abbrev alaw : List Str := ["_law_script"]
theorem sclaw : FnScope nlaw alaw (defScope slaw) := ⟨rfl, rfl, rfl, by decide +kernel, rfl, by decide +kernel, by decide +kernel⟩
section
variable {P : Program} {w : World} {K : PySem.W.Frag} {mg : Str → Option Value} {base : Heap} {ad : Ad} {cBT cR tR cBP cBr cNP : Addr} {Ps : List Addr} {b l p : Addr} {G0 H0 G H : Hp} {o : HO}
structure RawA (K : PySem.W.Frag) (w : World) (mg : Str → Option Value) (base : Heap) (ad : Ad) (cBT cR tR cBP cBr cNP : Addr) : Prop extends RawH K mg, RawLi K mg where
  re : RawRe K w mg base ad cBT cR tR cBP cBr cNP
def spLaw (K : PySem.W.Frag) (Ps : List Addr) : Sp := fun vs H Q _ => ∃ (a : Addr) (ns : List Int), vs = [.ref a] ∧ SqL K H a (ns.map V.int) ∧ ns.length ≤ 63 ∧ Tabs Ps H ∧ ∀ H', Q (.bl true) H'
theorem shaped_text (i : Int) : SeqAt.shaped (.tuple [.str "text", .int i]) = true := by
  have h : PyData.strOk "text" = true := by decide +kernel
  unfold SeqAt.shaped
  rw [Bool.and_eq_true, decide_eq_true_eq]
  exact ⟨by simp [PyData.canLay0, PyData.canLayAll0, h], by simp [PyData.depth, PyData.depthAll]⟩
theorem shaped_house {y : Str} (hy : PyData.strOk y = true) (i : Int) : SeqAt.shaped (.tuple [.str "house", .str y, .int i]) = true := by
  have h : PyData.strOk "house" = true := by decide +kernel
  unfold SeqAt.shaped
  rw [Bool.and_eq_true, decide_eq_true_eq]
  exact ⟨by simp [PyData.canLay0, PyData.canLayAll0, h, hy], by simp [PyData.depth, PyData.depthAll]⟩
structure PairOk (ls : List Str) (x y : Str) : Prop where
  go : goR 0 begR ((ls ++ [x, y]).map wordsOf) = .inl (ls.length + 1)
  x : LineOk x
  y : LineOk y
/-- a text that is no house's, with the word that is said of it -/
def OneAt (G : Hp) (q : Addr) : Prop := ∃ (lst : Addr) (LS : List Str) (word : Str), G q = some (.tup [.ref lst, .str word, .int 0]) ∧ G lst = some (.lst (LS.map V.str)) ∧ OneOk LS word ∧ PyData.strOk word = true
theorem OneAt.same {G G' : Hp} {q : Addr} (e : Same G G') (o : OneAt G q) : OneAt G' q := by
  obtain ⟨lst, LS, word, h1, h2, h3, h4⟩ := o
  exact ⟨lst, LS, word, e _ _ h1, e _ _ h2, h3, h4⟩
theorem Bx.al2 (B : Bx Ps b l G0 H0 G H) (hp : H p = none) : ∃ G', Bx Ps b l G0 H0 G' (upd H p o) ∧ Same G G' ∧ G' p = some o ∧ ∀ c, c ≠ p → G c = none → G' c = none :=
  ⟨upd G p o, B.alloc hp, same_new (B.wd.free hp), upd_same, fun c hc e => by rw [upd_ne hc]; exact e⟩
theorem c_law (T : RawA K w mg base ad cBT cR tR cBP cBr cNP) (hP : ad.tNum ∈ Ps) (hP2 : tR ∈ Ps) {f : Addr} {fd : FuncData} (F : Fun K "law" "law" slaw f fd) : FnOk P w K mg base CX0 8 f fd alaw (spLaw K Ps) := by
  refine F.ok sclaw (fun vs H Q E h => ?_) (fun cdv A outer s H vs Q E hr h => ?_)
  · obtain ⟨a, ns, rfl, _⟩ := h
    rfl
  · obtain ⟨a, ns, rfl, ha, hn, tbs, q⟩ := h
    have k__law_begun : C8.Cal P w K mg base 1 "_law_begun" (spBegun K) [] := c_begun T.toRawL
    have k__law_take : C8.Cal P w K mg base 1 "_law_take" (spTake Ps) [] := c_take T.toRawL
    have k__law_house : C8.Cal P w K mg base 3 "_law_house" (spLHouse K Ps) [] := c_lhouse T.toRawH
    have k__law_lines : C8.Cal P w K mg base 1 "_law_lines" (spLines K Ps) [] := c_lines T.toRawLi
    have k__law_none : C8.Cal P w K mg base 2 "_law_none" (spNone Ps) [] := c_none T.re
    have k__law_refused : C8.Cal P w K mg base 7 "_law_refused" (spRefd K Ps) [] := c_refd T.re hP hP2
    have b_len := T.b_len
    refine ⟨_, (pss_cons (ps_set (i := 1) sclaw.nd rfl (Or.inl rfl) (C8.pe_c k__law_begun hr (by decide) rfl (pa_cons (pv 0) pa_nil)))
      (pss_cons (ps_set (i := 2) sclaw.nd rfl (Or.inl rfl) (C8.pe_c k__law_house hr (by decide) rfl (pa_cons (pv 1) pa_nil)))
      (pss_cons (ps_set (i := 3) sclaw.nd rfl (Or.inl rfl) (C8.pe_c k__law_lines hr (by decide) rfl (pa_cons (pv 2) pa_nil)))
      (pss_cons (ps_set (i := 4) sclaw.nd rfl (Or.inl rfl) (pe_op op_rep (pe_lst (pa_cons (C8.pe_c k__law_none hr (by decide) rfl (pa_cons (pv 1) pa_nil)) pa_nil)) (C8.pe_c k__law_take hr (by decide) rfl (pa_cons (pv 1) (pa_cons pe_int pa_nil)))))
      (pss_cons (ps_set (i := 5) sclaw.nd rfl (Or.inl rfl) (pe_op op_add pe_int (C8.pe_c k__law_take hr (by decide) rfl (pa_cons (pv 1) (pa_cons (pe_callB call_len_seq (by rfl) b_len (by decide +kernel) (pa_cons (pv 3) pa_nil)) pa_nil)))))
      (pss_cons (ps_set (i := 6) sclaw.nd rfl (Or.inl rfl) (pe_op op_cat (pe_op op_cat (pe_slice sl_list (pv 3) po_none (po_some (pv 5))) (pe_lst (pa_cons (C8.pe_c k__law_none hr (by decide) rfl (pa_cons (pv 1) pa_nil)) pa_nil))) (pe_slice sl_list (pv 3) (po_some (pv 5)) po_none)))
      (pss_cons (ps_if (pt_cmpR (op_neD hr.units) (C8.pe_c k__law_refused hr (by decide) rfl (pa_cons (pe_op op_cat (pv 6) (pv 4)) pa_nil)) (pe_tup (pa_cons pe_str (pa_cons (pv 5) pa_nil))) (nomark _))
        (pss_one (ps_ret pe_bl))
        pss_nil)
      (pss_cons (ps_set (i := 7) sclaw.nd rfl (Or.inl rfl) (pe_lst (pa_cons pe_str (pa_cons pe_str (pa_cons pe_str (pa_cons pe_str (pa_cons pe_str (pa_cons pe_str (pa_cons pe_str (pa_cons pe_str pa_nil))))))))))
      (pss_cons (ps_set (i := 7) sclaw.nd rfl (Or.inl rfl) (pe_op op_cat (pv 7) (pe_lst (pa_cons pe_str (pa_cons pe_str pa_nil)))))
      (pss_cons (ps_if (pt_cmpR (op_neD hr.units) (C8.pe_c k__law_refused hr (by decide) rfl (pa_cons (pe_op op_cat (pe_op op_cat (pe_lst (pa_cons (pe_ix ix_seq (pv 7) (C8.pe_c k__law_take hr (by decide) rfl (pa_cons (pv 1) (pa_cons pe_int pa_nil))) (fun _ _ => rfl)) pa_nil)) (pe_slice sl_list (pv 3) (po_some pe_int) po_none)) (pv 4)) pa_nil)) (pe_tup (pa_cons pe_str (pa_cons pe_int pa_nil))) (nomark _))
        (pss_one (ps_ret pe_bl))
        pss_nil)
      (pss_cons (ps_set (i := 8) sclaw.nd rfl (Or.inl rfl) (pe_lst (pa_cons (pe_lst (pa_cons pe_str (pa_cons pe_str pa_nil))) (pa_cons (pe_lst (pa_cons pe_str (pa_cons pe_str pa_nil))) pa_nil))))
      (pss_cons (ps_if (pt_cmpR (op_eqD hr.units) (pe_ix ix_seq (pv 2) pe_int (fun _ _ => rfl)) (pe_lst pa_nil) (nomark _))
        (pss_one (ps_expr (pe_bm PySem.F.plainAttrs_list PySem.F.slot_list_append PySem.F.type_list_append mt_append (pv 8) (pa_cons (pe_lst (pa_cons pe_str (pa_cons pe_str pa_nil))) pa_nil))))
        pss_nil)
      (pss_cons (ps_if (pt_cmpR (op_neD hr.units) (C8.pe_c k__law_refused hr (by decide) rfl (pa_cons (pe_op op_cat (pv 3) (pe_ix ix_seq (pv 8) (C8.pe_c k__law_take hr (by decide) rfl (pa_cons (pv 1) (pa_cons (pe_callB call_len_seq (by rfl) b_len (by decide +kernel) (pa_cons (pv 8) pa_nil)) pa_nil))) (fun _ _ => rfl))) pa_nil)) (pe_tup (pa_cons pe_str (pa_cons (pe_op op_add (pe_callB call_len_seq (by rfl) b_len (by decide +kernel) (pa_cons (pv 3) pa_nil)) pe_int) pa_nil))) (nomark _))
        (pss_one (ps_ret pe_bl))
        pss_nil)
      (pss_cons (ps_set (i := 9) sclaw.nd rfl (Or.inl rfl) (pe_lst (pa_cons (pe_tup (pa_cons (pe_op op_cat (pe_lst (pa_cons pe_str pa_nil)) (pe_slice sl_list (pv 3) (po_some pe_int) po_none)) (pa_cons pe_str (pa_cons pe_int pa_nil)))) (pa_cons (pe_tup (pa_cons (pe_op op_cat (pe_lst (pa_cons pe_str pa_nil)) (pe_slice sl_list (pv 3) (po_some pe_int) po_none)) (pa_cons pe_str (pa_cons pe_int pa_nil)))) pa_nil))))
      (pss_cons (ps_expr (pe_bm PySem.F.plainAttrs_list PySem.F.slot_list_append PySem.F.type_list_append mt_append (pv 9) (pa_cons (pe_tup (pa_cons (pe_slice sl_list (pv 3) po_none (po_some pe_int)) (pa_cons pe_str (pa_cons pe_int pa_nil)))) pa_nil)))
      (pss_cons (ps_expr (pe_bm PySem.F.plainAttrs_list PySem.F.slot_list_append PySem.F.type_list_append mt_append (pv 9) (pa_cons (pe_tup (pa_cons (pe_op op_cat (pe_slice sl_list (pv 3) po_none (po_some pe_int)) (pe_lst (pa_cons pe_str pa_nil))) (pa_cons pe_str (pa_cons pe_int pa_nil)))) pa_nil)))
      (pss_cons (ps_expr (pe_bm PySem.F.plainAttrs_list PySem.F.slot_list_append PySem.F.type_list_append mt_append (pv 9) (pa_cons (pe_tup (pa_cons (pe_op op_cat (pe_slice sl_list (pv 3) po_none (po_some pe_int)) (pe_lst (pa_cons pe_str (pa_cons pe_str pa_nil)))) (pa_cons pe_str (pa_cons pe_int pa_nil)))) pa_nil)))
      (pss_cons (ps_expr (pe_bm PySem.F.plainAttrs_list PySem.F.slot_list_append PySem.F.type_list_append mt_append (pv 9) (pa_cons (pe_tup (pa_cons (pe_op op_cat (pe_slice sl_list (pv 3) po_none (po_some pe_int)) (pe_lst (pa_cons pe_str (pa_cons pe_str pa_nil)))) (pa_cons pe_str (pa_cons pe_int pa_nil)))) pa_nil)))
      (pss_cons (ps_asg (pe_ix ix_seq (pv 9) (C8.pe_c k__law_take hr (by decide) rfl (pa_cons (pv 1) (pa_cons pe_int pa_nil))) (fun _ _ => rfl)) (pg_tup rfl (pgs_cons (pg_name (i := 10) sclaw.nd rfl (Or.inl rfl)) (pgs_cons (pg_name (i := 11) sclaw.nd rfl (Or.inl rfl)) (pgs_cons (pg_name (i := 12) sclaw.nd rfl (Or.inl rfl)) pgs_nil)))))
      (pss_cons (ps_if (pt_cmpR (op_neD hr.units) (C8.pe_c k__law_refused hr (by decide) rfl (pa_cons (pv 10) pa_nil)) (pe_tup (pa_cons pe_str (pa_cons (pv 11) (pa_cons (pv 12) pa_nil)))) (nomark _))
        (pss_one (ps_ret pe_bl))
        pss_nil)
      (pss_one (ps_ret (pe_cmpR (op_eqD hr.units) (C8.pe_c k__law_refused hr (by decide) rfl (pa_cons (pe_op op_cat (pv 10) (pe_lst (pa_cons pe_str pa_nil))) pa_nil)) (pe_tup (pa_cons pe_str (pa_cons (pe_callB call_len_seq (by rfl) b_len (by decide +kernel) (pa_cons (pv 10) pa_nil)) pa_nil))) (nomark _)))))))))))))))))))))))), ?_⟩
    refine ⟨_, rfl, a, ns, rfl, ha, hn, fun b l H1 hb hl hbl s1 box => ?_⟩
    have B1 : Bx Ps b l (fun _ => none) H1 (fun _ => none) H1 := by
      refine ⟨Gr.refl ⟨fun _ _ e => (nomatch e), fun _ _ => rfl, fun c hc => ?_⟩, box, tbs.same s1, hbl, tbs.nin hb, tbs.nin hl⟩
      obtain ⟨z, ns', e1, e2, _⟩ := box
      rcases List.mem_cons.mp hc with rfl | hc
      · rw [e1]; exact fun z => nomatch z
      rcases List.mem_cons.mp hc with rfl | hc
      · rw [e2]; exact fun z => nomatch z
      · obtain ⟨ps, e, _⟩ := tbs.same s1 c hc
        rw [e]; exact fun z => nomatch z
    refine ⟨_, rfl, b, l, _, rfl, B1, fun t h ra da sa rs ds ss G2 H2 B2 hR hG => ?_⟩
    refine ⟨_, rfl, G2, t, h, ra, da, sa, rs, ds, ss, rfl, B2.wdP, B2.tabs, hR, hG, fun pl G3 H3 hpl g3 t3 el => ?_⟩
    have B3 := B2.trans (B2.start.pure g3 t3)
    have hR3 := hR.sm g3.up
    obtain ⟨ls, hls⟩ : ∃ z, z = linesS h rs ds ss := ⟨_, rfl⟩
    rw [← hls] at el
    have hok : ∀ y ∈ ls, LineOk y := by rw [hls]; exact (words_lines (text_house hG).1).2
    have hl35 : ls.length ≤ 35 := by rw [hls]; exact (lines_len hG).2
    have hl1 : 1 ≤ ls.length := by rw [hls, (lines_len hG).1]; omega
    -- rows behind
    refine ⟨_, rfl, b, l, _, rfl, B3.start, fun s1 G4 H4 hs1 B4 => ?_⟩
    have u4 := B4.gr.up
    replace B4 := B3.trans B4
    refine ⟨by show 1 ≤ sizeLine; decide, fun p5 hp5 => ?_⟩
    obtain ⟨G5, B5, u5, e5⟩ := B4.al (o := .lst [.str s1]) hp5
    refine ⟨_, rfl, b, l, _, _, rfl, by omega, by omega, B5.start, fun r6 H6 a6 c6 B6 => ?_⟩
    replace B6 := B5.trans B6
    obtain ⟨lt, elt, hlt1, hlt2⟩ : ∃ lt : List Str, (List.replicate r6.toNat [V.str s1]).flatten = lt.map V.str ∧ lt.length ≤ 1 ∧ ∀ y ∈ lt, y ∈ nones := by
      rcases (show r6 = 0 ∨ r6 = 1 by omega) with rfl | rfl
      · exact ⟨[], rfl, by simp, by simp⟩
      · exact ⟨[s1], rfl, by simp, by simpa using hs1⟩
    refine ⟨p5, r6, _, rfl, rfl, B6.wd.same _ _ e5, by omega, by omega, by rw [List.length_singleton, sizeLine_eq]; omega, fun p7 hp7 => ?_⟩
    rw [elt]
    obtain ⟨G7, B7, u7, e7⟩ := B6.al (o := .lst (lt.map V.str)) hp7
    have el7 : G7 pl = some (.lst (ls.map V.str)) := u7 _ _ (u5 _ _ (u4 _ _ el))
    -- the place
    refine ⟨_, rfl, _, rfl, pl, _, rfl, .inl (SqL.of (B7.wd.same _ _ el7)), b, l, _, _, rfl, by rw [List.length_map]; omega, by rw [List.length_map]; omega, B7.start, fun r8 H8 a8 c8 B8 => ⟨_, _, rfl, rfl, ?_⟩⟩
    replace B8 := B7.trans B8
    rw [List.length_map] at c8
    obtain ⟨n, hn1, hnl, hn2⟩ : ∃ n : Nat, 1 ≤ n ∧ n ≤ ls.length ∧ 1 + r8 = (n : Int) := ⟨(1 + r8).toNat, by omega, by omega, by omega⟩
    dsimp only
    rw [hn2]
    -- an odd line
    refine ⟨_, rfl, _, rfl, _, rfl, pl, _, rfl, SqL.of (B8.wd.same _ _ el7), fun p9 hp9 => ?_⟩
    rw [cutTo, ← List.map_take]
    obtain ⟨G9, B9, u9, e9⟩ := B8.al (o := .lst ((ls.take n).map V.str)) hp9
    refine ⟨_, rfl, b, l, _, rfl, B9.start, fun s2 G10 H10 hs2 B10 => ?_⟩
    have u10 := B10.gr.up
    replace B10 := B9.trans B10
    refine ⟨by show 1 ≤ sizeLine; decide, fun p11 hp11 => ?_⟩
    obtain ⟨G11, B11, u11, e11⟩ := B10.al (o := .lst ([s2].map V.str)) hp11
    have ltk : ∀ k, ((ls.take k).map V.str).length ≤ 35 := fun k => by rw [List.length_map, List.length_take]; omega
    have ldk : ∀ k, ((ls.drop k).map V.str).length ≤ 35 := fun k => by rw [List.length_map, List.length_drop]; omega
    have szz : ∀ {k : Nat}, k ≤ 200 → k ≤ sizeLine := fun h => by rw [sizeLine_eq]; omega
    refine ⟨p9, p11, _, _, rfl, rfl, B11.wd.same _ _ (u11 _ _ (u10 _ _ e9)), B11.wd.same _ _ e11, szz (by have := ltk n; show _ + 1 ≤ 200; omega), fun p12 hp12 => ?_⟩
    obtain ⟨G12, B12, u12, e12⟩ := B11.al (o := .lst ((ls.take n).map V.str ++ [s2].map V.str)) hp12
    rw [← List.map_append] at e12
    have uA := ((u9.trans u10).trans u11).trans u12
    refine ⟨_, rfl, _, rfl, _, rfl, pl, _, rfl, SqL.of (B12.wd.same _ _ (uA _ _ el7)), fun p13 hp13 => ?_⟩
    rw [cutF, ← List.map_drop]
    obtain ⟨G13, B13, u13, e13⟩ := B12.al (o := .lst ((ls.drop n).map V.str)) hp13
    refine ⟨p12, p13, _, _, rfl, rfl, B13.wd.same _ _ (u13 _ _ e12), B13.wd.same _ _ e13, szz (by rw [List.length_map, List.length_append, List.length_map, List.length_take, List.length_drop]; show _ + 1 + _ ≤ 200; omega), fun p14 hp14 => ?_⟩
    obtain ⟨G14, B14, u14, e14⟩ := B13.al (o := .lst ((ls.take n ++ [s2]).map V.str ++ (ls.drop n).map V.str)) hp14
    rw [← List.map_append] at e14
    have uB := uA.trans (u13.trans u14)
    refine ⟨_, rfl, _, rfl, p14, p7, _, _, rfl, rfl, B14.wd.same _ _ e14, B14.wd.same _ _ (uB _ _ e7), szz (by rw [List.length_map, List.length_map, List.length_append, List.length_append, List.length_take, List.length_drop]; show _ + 1 + _ + _ ≤ 200; omega), fun p15 hp15 => ?_⟩
    obtain ⟨G15, B15, u15, e15⟩ := B14.al (o := .lst (((ls.take n ++ [s2]) ++ ls.drop n).map V.str ++ lt.map V.str)) hp15
    rw [← List.map_append] at e15
    have eLS : ((ls.take n ++ [s2]) ++ ls.drop n) ++ lt = ls.take n ++ s2 :: (ls.drop n ++ lt) := by simp [List.append_assoc]
    rw [eLS] at e15
    refine ⟨G15, p15, ls.take n ++ s2 :: (ls.drop n ++ lt), rfl, B15.wdP, B15.tabs, SqL.of e15, by simp, ?_, ?_, .inl ⟨n, ?_, fun p16 G16 H16 g16 t16 e16 => ?_⟩⟩
    · rw [List.length_append, List.length_cons, List.length_append, List.length_take, List.length_drop]
      omega
    · intro y hy
      rcases List.mem_append.mp hy with hy | hy
      · exact hok y (List.mem_of_mem_take hy)
      rcases List.mem_cons.mp hy with rfl | hy
      · exact (none_ok hs2).1
      rcases List.mem_append.mp hy with hy | hy
      · exact hok y (List.mem_of_mem_drop hy)
      · exact (none_ok (hlt2 y hy)).1
    · rw [hls] at hnl ⊢
      exact go_odd hG hn1 hnl hs2 _
    have u16 := g16.up
    have B16 := B15.trans (B15.start.pure g16 t16)
    have shT := shaped_text
    refine ⟨_, rfl, by show 2 ≤ sizeLine; decide, fun p17 hp17 => ?_⟩
    obtain ⟨G17, B17, u17, e17⟩ := B16.al (o := .tup [.str "text", .int (n : Int)]) hp17
    refine ⟨_, _, .tup (SqT.of (B17.wd.same _ _ (u17 _ _ e16))) (.cons (.str _) (.cons (.int _) .nil)), .tup (SqT.of (B17.wd.same _ _ e17)) (.cons (.str _) (.cons (.int _) .nil)), shT _, shT _, _, rfl, ?_⟩
    rw [eqv_shaped (shT _)]
    refine iteF ?_
    have uC := uB.trans ((u15.trans u16).trans u17)
    -- an odd first line
    refine ⟨by show 8 ≤ sizeLine; decide, fun p18 hp18 => ?_⟩
    obtain ⟨G18, B18, u18, e18⟩ := B17.al (o := .lst ((heads.take 8).map V.str)) hp18
    refine ⟨_, rfl, by show 2 ≤ sizeLine; decide, fun p19 hp19 => ?_⟩
    obtain ⟨G19, B19, u19, e19⟩ := B18.al (o := .lst (((heads.drop 8).take 2).map V.str)) hp19
    refine ⟨p18, p19, _, _, rfl, rfl, B19.wd.same _ _ (u19 _ _ e18), B19.wd.same _ _ e19, by show 8 + 2 ≤ sizeLine; decide, fun p20 hp20 => ?_⟩
    obtain ⟨G20, B20, u20, e20⟩ := B19.al (o := .lst (heads.map V.str)) hp20
    refine ⟨_, rfl, _, rfl, b, l, _, _, rfl, by decide, by decide, B20.start, fun r21 H21 a21 c21 B21 => ?_⟩
    replace B21 := B20.trans B21
    obtain ⟨v, hv, hvm⟩ := atI_mem (xs := heads.map V.str) (i := r21) a21 (by
      have : (heads.map V.str).length = 10 := rfl
      rw [this]
      exact c21)
    obtain ⟨z, hz, rfl⟩ := List.mem_map.mp hvm
    refine .inl ⟨p20, _, r21, _, rfl, rfl, SqL.of (B21.wd.same _ _ e20), hv, by show 1 ≤ sizeLine; decide, fun p22 hp22 => ?_⟩
    obtain ⟨G22, B22, u22, e22⟩ := B21.al (o := .lst ([z].map V.str)) hp22
    have uD := uC.trans (((u18.trans u19).trans u20).trans u22)
    refine ⟨_, rfl, _, rfl, pl, _, rfl, SqL.of (B22.wd.same _ _ (uD _ _ el7)), fun p23 hp23 => ?_⟩
    rw [show cutV (ls.map V.str) (some 1) none = (ls.map V.str).drop 1 from cutF _ 1, ← List.map_drop]
    obtain ⟨G23, B23, u23, e23⟩ := B22.al (o := .lst ((ls.drop 1).map V.str)) hp23
    refine ⟨p22, p23, _, _, rfl, rfl, B23.wd.same _ _ (u23 _ _ e22), B23.wd.same _ _ e23, szz (by have := ldk 1; show 1 + _ ≤ 200; omega), fun p24 hp24 => ?_⟩
    obtain ⟨G24, B24, u24, e24⟩ := B23.al (o := .lst ([z].map V.str ++ (ls.drop 1).map V.str)) hp24
    have uE := uD.trans (u23.trans u24)
    refine ⟨_, rfl, p24, p7, _, _, rfl, rfl, B24.wd.same _ _ e24, B24.wd.same _ _ (uE _ _ e7), szz (by have := ldk 1; rw [List.length_append, List.length_map (as := lt)]; show 1 + _ + _ ≤ 200; omega), fun p25 hp25 => ?_⟩
    obtain ⟨G25, B25, u25, e25⟩ := B24.al (o := .lst (([z].map V.str ++ (ls.drop 1).map V.str) ++ lt.map V.str)) hp25
    rw [← List.map_append, ← List.map_append] at e25
    refine ⟨G25, p25, z :: (ls.drop 1 ++ lt), rfl, B25.wdP, B25.tabs, SqL.of e25, by simp, ?_, ?_, .inl ⟨0, go_head hz _, fun p26 G26 H26 g26 t26 e26 => ?_⟩⟩
    · rw [List.length_cons, List.length_append, List.length_drop]
      omega
    · intro y hy
      rcases List.mem_cons.mp hy with rfl | hy
      · exact (head_ok hz).1
      rcases List.mem_append.mp hy with hy | hy
      · exact hok y (List.mem_of_mem_drop hy)
      · exact (none_ok (hlt2 y hy)).1
    have u26 := g26.up
    have B26 := B25.trans (B25.start.pure g26 t26)
    refine ⟨by show 2 ≤ sizeLine; decide, fun p27 hp27 => ?_⟩
    obtain ⟨G27, B27, u27, e27⟩ := B26.al (o := .tup [.str "text", .int 0]) hp27
    refine ⟨.tuple [.str "text", .int 0], .tuple [.str "text", .int 0], .tup (SqT.of (B27.wd.same _ _ (u27 _ _ e26))) (.cons (.str _) (.cons (.int _) .nil)), .tup (SqT.of (B27.wd.same _ _ e27)) (.cons (.str _) (.cons (.int _) .nil)), shT _, shT _, _, rfl, ?_⟩
    rw [eqv_shaped (shT _)]
    refine iteF ?_
    have uF := uE.trans ((u25.trans u26).trans u27)
    -- two rows behind, in the wrong order
    have hst : PairOk ls stay1 room1 := ⟨by rw [hls]; exact go_pairs hG (.inl rfl), lineOk_of b_stay1.1, lineOk_of b_stay1.2.1⟩
    have hsd : PairOk ls stay1 door1 := ⟨by rw [hls]; exact go_pairs hG (.inr rfl), lineOk_of b_stay1.1, lineOk_of b_stay1.2.2⟩
    refine ⟨by show 2 ≤ sizeLine; decide, fun p28 hp28 => ?_⟩
    obtain ⟨G28, B28, u28, e28⟩ := B27.al (o := .lst ([stay1, room1].map V.str)) hp28
    refine ⟨by show 2 ≤ sizeLine; decide, fun p29 hp29 => ?_⟩
    obtain ⟨G29, B29, u29, e29⟩ := B28.al (o := .lst ([stay1, door1].map V.str)) hp29
    have uG := uF.trans (u28.trans u29)
    refine ⟨by show 2 ≤ sizeLine; decide, fun pp hpp => ?_⟩
    have B30 := B29.new (o := .lst ([p28, p29].map V.ref)) hpp
    have ppn := B29.wd.nin hpp
    have gpp := B29.wd.free hpp
    have epp : ∀ {Hx : Hp}, upd Hx pp (.lst ([p28, p29].map V.ref)) pp = some (.lst ([p28, p29].map V.ref)) := upd_same
    dsimp only
    refine seq_ifS (fun σ H' => ∃ (G' : Hp) (qs : List Addr), σ = [some (.ref a), some (.ref b), some (.ref t), some (.ref pl), some (.ref p7), some (.int (n : Int)), some (.ref p14), some (.ref p20), some (.ref pp), none, none, none, none] ∧ Bx Ps b l (fun _ => none) H1 G' H' ∧ Same G29 G' ∧ pp ∉ b :: l :: Ps ∧ H' pp = some (.lst (qs.map V.ref)) ∧ 1 ≤ qs.length ∧ qs.length ≤ 3 ∧ ∀ qq ∈ qs, ∃ x y, G' qq = some (.lst ([x, y].map V.str)) ∧ PairOk ls x y) ?_ ?_
    rotate_left
    · intro κ hκ
      have hR30 := hR3.sm ((((u4.trans u5).trans u7).trans uG).trans B30.wd.same)
      have hRG := hR3.sm (((u4.trans u5).trans u7).trans uG)
      refine ⟨_, rfl, .inr (.inl ⟨t, _, 3, .ref sa, rfl, rfl, hR30.t, atI_nat (j := 3) rfl, Nat.zero_le _, fun p31 hp31 => ?_⟩)⟩
      have B31 := B30.new (o := .lst []) hp31
      have np31 : pp ≠ p31 := ne_of_none epp hp31
      refine ⟨dI ss, dI [], (hRG.sm B31.wd.same).s.rows.dp, .lst (SqL.of upd_same) .nil, shaped_dI _, shaped_dI _, _, rfl, ?_⟩
      rw [eqv_dI]
      have base2 : ∀ qq ∈ [p28, p29], ∃ x y, G29 qq = some (.lst ([x, y].map V.str)) ∧ PairOk ls x y := fun qq hq => by
        simp only [List.mem_cons, List.mem_nil_iff, or_false] at hq
        rcases hq with rfl | rfl
        · exact ⟨_, _, u29 _ _ e28, hst⟩
        · exact ⟨_, _, e29, hsd⟩
      by_cases c0 : ss = []
      · rw [decide_eq_true c0]
        have epp31 : ∀ {Hx : Hp}, upd (upd Hx pp (.lst ([p28, p29].map V.ref))) p31 (.lst []) pp = some (.lst ([p28, p29].map V.ref)) := (upd_ne np31).trans epp
        refine iteT ⟨_, rfl, .inl ⟨rfl, _, SqL.of epp31⟩, by show 2 ≤ sizeLine; decide, fun p32 hp32 => ?_⟩
        have B32 := B31.alloc (o := .lst ([door1, room1].map V.str)) hp32
        have np32 : pp ≠ p32 := ne_of_none epp31 hp32
        have epp32 : ∀ {Hx : Hp}, upd (upd (upd Hx pp (.lst ([p28, p29].map V.ref))) p31 (.lst [])) p32 (.lst ([door1, room1].map V.str)) pp = some (.lst ([p28, p29].map V.ref)) := (upd_ne np32).trans epp31
        have g32 : upd G29 p32 (.lst ([door1, room1].map V.str)) pp = none := by rw [upd_ne np32]; exact gpp
        refine ⟨pp, _, _, rfl, rfl, epp32, by show 2 < sizeLine; decide, ?_⟩
        have B33 := B32.poke (o := .lst ([p28, p29, p32].map V.ref)) B1 (B29.gr.free' hpp) g32
        refine hκ _ _ ⟨_, [p28, p29, p32], rfl, B33, same_new (B31.wd.free hp32), ppn, upd_same, by show 1 ≤ 3; decide, by show 3 ≤ 3; decide, fun qq hq => ?_⟩
        simp only [List.mem_cons, List.mem_nil_iff, or_false] at hq
        have hd : PairOk ls door1 room1 := ⟨by rw [hls, c0]; rw [c0] at hG; exact go_pair0 hG, lineOk_of b_stay1.2.2, lineOk_of b_stay1.2.1⟩
        rcases hq with rfl | rfl | rfl
        · exact ⟨_, _, same_new (B31.wd.free hp32) _ _ (u29 _ _ e28), hst⟩
        · exact ⟨_, _, same_new (B31.wd.free hp32) _ _ e29, hsd⟩
        · exact ⟨_, _, upd_same, hd⟩
      · rw [decide_eq_false c0]
        exact iteF (hκ _ _ ⟨G29, [p28, p29], rfl, B31, Same.refl _, ppn, by rw [upd_ne np31]; exact epp, by show 1 ≤ 2; decide, by show 2 ≤ 3; decide, base2⟩)
    rintro σ H33 ⟨G33, qs, rfl, B33, u33, _, epp33, hq1, hq3, hqs⟩
    have uH := uG.trans u33
    have lqs : (qs.map V.ref).length = qs.length := List.length_map _
    refine ⟨_, rfl, _, rfl, _, rfl, _, rfl, pp, _, rfl, .inl (SqL.of epp33), b, l, _, _, rfl, by omega, by omega, B33.start, fun r34 H34 a34 c34 B34 => ?_⟩
    have epp34 := B34.gr.keep pp _ ppn epp33
    replace B34 := B33.trans B34
    obtain ⟨v, hv, hvm⟩ := atI_mem (xs := qs.map V.ref) (i := r34) a34 (by rw [lqs] at c34 ⊢; exact c34)
    obtain ⟨qq, hqq, rfl⟩ := List.mem_map.mp hvm
    obtain ⟨x, y, eqq, hpair⟩ := hqs qq hqq
    refine .inl ⟨pp, _, r34, _, rfl, rfl, SqL.of epp34, hv, pl, qq, _, _, rfl, rfl, B34.wd.same _ _ (uH _ _ el7), B34.wd.same _ _ eqq, szz (by rw [List.length_map]; show _ + 2 ≤ 200; omega), fun p35 hp35 => ?_⟩
    obtain ⟨G35, B35, u35, e35⟩ := B34.al (o := .lst (ls.map V.str ++ [x, y].map V.str)) hp35
    rw [← List.map_append] at e35
    refine ⟨G35, p35, ls ++ [x, y], rfl, B35.wdP, B35.tabs, SqL.of e35, by simp, by rw [List.length_append]; show _ + 2 < 100; omega, ?_, .inl ⟨_, hpair.go, fun p36 G36 H36 g36 t36 e36 => ?_⟩⟩
    · intro z hz
      rcases List.mem_append.mp hz with hz | hz
      · exact hok z hz
      simp only [List.mem_cons, List.mem_nil_iff, or_false] at hz
      rcases hz with rfl | rfl
      · exact hpair.x
      · exact hpair.y
    have u36 := g36.up
    have B36 := B35.trans (B35.start.pure g36 t36)
    have uI := uH.trans (u35.trans u36)
    refine ⟨_, rfl, pl, _, rfl, .inl (SqL.of (B36.wd.same _ _ (uI _ _ el7))), _, _, rfl, rfl, by show 2 ≤ sizeLine; decide, fun p37 hp37 => ?_⟩
    have hll : (((ls.map V.str).length : Int) + 1) = ((ls.length + 1 : Nat) : Int) := by rw [List.length_map]; omega
    dsimp only
    rw [hll]
    obtain ⟨G37, B37, u37, e37⟩ := B36.al (o := .tup [.str "text", .int ((ls.length + 1 : Nat) : Int)]) hp37
    refine ⟨.tuple [.str "text", .int ((ls.length + 1 : Nat) : Int)], .tuple [.str "text", .int ((ls.length + 1 : Nat) : Int)], .tup (SqT.of (B37.wd.same _ _ (u37 _ _ e36))) (.cons (.str _) (.cons (.int _) .nil)), .tup (SqT.of (B37.wd.same _ _ e37)) (.cons (.str _) (.cons (.int _) .nil)), shT _, shT _, _, rfl, ?_⟩
    rw [eqv_shaped (shT _)]
    refine iteF ?_
    have uJ := uI.trans u37
    -- texts of houses that cannot be
    have cutD : cutV (ls.map V.str) (some 1) none = (ls.drop 1).map V.str := by rw [show cutV (ls.map V.str) (some 1) none = (ls.map V.str).drop 1 from cutF _ 1, List.map_drop]
    have cutE : cutV (ls.map V.str) none (some 1) = (ls.take 1).map V.str := by rw [show cutV (ls.map V.str) none (some 1) = (ls.map V.str).take 1 from cutTo _ 1, List.map_take]
    refine ⟨by show 1 ≤ sizeLine; decide, fun p38 hp38 => ?_⟩
    obtain ⟨G38, B38, u38, e38⟩ := B37.al (o := .lst ([("hours 0" : Str)].map V.str)) hp38
    refine ⟨_, rfl, _, rfl, pl, _, rfl, SqL.of (B38.wd.same _ _ ((uJ.trans u38) _ _ el7)), fun p39 hp39 => ?_⟩
    rw [cutD]
    obtain ⟨G39, B39, u39, e39⟩ := B38.al (o := .lst ((ls.drop 1).map V.str)) hp39
    refine ⟨p38, p39, _, _, rfl, rfl, B39.wd.same _ _ (u39 _ _ e38), B39.wd.same _ _ e39, szz (by have := ldk 1; show 1 + _ ≤ 200; omega), fun p40 hp40 => ?_⟩
    obtain ⟨G40, B40, u40, e40⟩ := B39.al (o := .lst ([("hours 0" : Str)].map V.str ++ (ls.drop 1).map V.str)) hp40
    rw [← List.map_append] at e40
    refine ⟨by show 3 ≤ sizeLine; decide, fun p41 hp41 => ?_⟩
    obtain ⟨G41, B41, u41, e41⟩ := B40.al (o := .tup [.ref p40, .str "hours", .int 0]) hp41
    have o41 : OneAt G41 p41 := ⟨p40, [("hours 0" : Str)] ++ ls.drop 1, "hours", e41, u41 _ _ e40, by
      have e := hours_line 0 "hours 0" (by decide +kernel)
      rw [e, hls]
      exact one_hours hG (by decide) (by omega), by decide +kernel⟩
    have v41 := uJ.trans (((u38.trans u39).trans u40).trans u41)
    refine ⟨by show 1 ≤ sizeLine; decide, fun p42 hp42 => ?_⟩
    obtain ⟨G42, B42, u42, e42⟩ := B41.al (o := .lst ([("hours 13" : Str)].map V.str)) hp42
    refine ⟨_, rfl, _, rfl, pl, _, rfl, SqL.of (B42.wd.same _ _ ((v41.trans u42) _ _ el7)), fun p43 hp43 => ?_⟩
    rw [cutD]
    obtain ⟨G43, B43, u43, e43⟩ := B42.al (o := .lst ((ls.drop 1).map V.str)) hp43
    refine ⟨p42, p43, _, _, rfl, rfl, B43.wd.same _ _ (u43 _ _ e42), B43.wd.same _ _ e43, szz (by have := ldk 1; show 1 + _ ≤ 200; omega), fun p44 hp44 => ?_⟩
    obtain ⟨G44, B44, u44, e44⟩ := B43.al (o := .lst ([("hours 13" : Str)].map V.str ++ (ls.drop 1).map V.str)) hp44
    rw [← List.map_append] at e44
    refine ⟨by show 3 ≤ sizeLine; decide, fun p45 hp45 => ?_⟩
    obtain ⟨G45, B45, u45, e45⟩ := B44.al (o := .tup [.ref p44, .str "hours", .int 0]) hp45
    have o45 : OneAt G45 p45 := ⟨p44, [("hours 13" : Str)] ++ ls.drop 1, "hours", e45, u45 _ _ e44, by
      have e := hours_line 13 "hours 13" (by decide +kernel)
      rw [e, hls]
      exact one_hours hG (by decide) (by omega), by decide +kernel⟩
    have v45 := v41.trans (((u42.trans u43).trans u44).trans u45)
    refine ⟨by show 2 ≤ sizeLine; decide, fun po hpo => ?_⟩
    have B46 := B45.new (o := .lst ([p41, p45].map V.ref)) hpo
    have pon := B45.wd.nin hpo
    have h1po := B45.gr.free' hpo
    have gp46 := B45.wd.free hpo
    have ep46 : ∀ {Hx : Hp}, upd Hx po (.lst ([p41, p45].map V.ref)) po = some (.lst ([p41, p45].map V.ref)) := upd_same
    have on46 : ∀ q ∈ [p41, p45], OneAt G45 q := fun q hq => by
      simp only [List.mem_cons, List.mem_nil_iff, or_false] at hq
      rcases hq with rfl | rfl
      · exact o41.same (((u42.trans u43).trans u44).trans u45)
      · exact o45
    -- rooms
    refine ⟨_, rfl, .inl ⟨rfl, _, SqL.of ep46⟩, _, rfl, _, rfl, pl, _, rfl, SqL.of (B46.wd.same _ _ (v45 _ _ el7)), fun p47 hp47 => ?_⟩
    rw [cutE]
    have n47 : po ≠ p47 := ne_of_none ep46 hp47
    obtain ⟨G47, B47, u47, e47, z47⟩ := B46.al2 (o := .lst ((ls.take 1).map V.str)) hp47
    have y47 := z47 po n47 gp46
    have x47 : ∀ {Hx : Hp}, upd (upd Hx po (.lst ([p41, p45].map V.ref))) p47 (.lst ((ls.take 1).map V.str)) po = some (.lst ([p41, p45].map V.ref)) := (upd_ne n47).trans ep46
    refine ⟨by show 3 ≤ sizeLine; decide, fun p48 hp48 => ?_⟩
    have n48 : po ≠ p48 := ne_of_none x47 hp48
    obtain ⟨G48, B48, u48, e48, z48⟩ := B47.al2 (o := .tup [.ref p47, .str "rooms", .int 0]) hp48
    have y48 := z48 po n48 y47
    have x48 : ∀ {Hx : Hp}, upd (upd (upd Hx po (.lst ([p41, p45].map V.ref))) p47 (.lst ((ls.take 1).map V.str))) p48 (.tup [.ref p47, .str "rooms", .int 0]) po = some (.lst ([p41, p45].map V.ref)) := (upd_ne n48).trans x47
    have o48 : OneAt G48 p48 := ⟨p47, ls.take 1 ++ [], "rooms", e48, (by rw [List.append_nil]; exact u48 _ _ e47), by
      rw [hls]
      exact one_lit (by simp) lit_rooms hG, by decide +kernel⟩
    have w48 := u47.trans u48
    have v48 := v45.trans w48
    refine ⟨po, _, _, rfl, rfl, x48, by show 2 < sizeLine; decide, ?_⟩
    have C48 := B48.poke (o := .lst ([p41, p45, p48].map V.ref)) B1 h1po y48
    have ep48 : ∀ {Hx : Hp}, upd Hx po (.lst ([p41, p45, p48].map V.ref)) po = some (.lst ([p41, p45, p48].map V.ref)) := upd_same
    have on48 : ∀ q ∈ [p41, p45, p48], OneAt G48 q := fun q hq => by
      rcases List.mem_append.mp (show q ∈ [p41, p45] ++ [p48] from hq) with hq | hq
      · exact (on46 q hq).same w48
      · rw [List.mem_singleton.mp hq]
        exact o48
    -- room
    refine ⟨_, rfl, .inl ⟨rfl, _, SqL.of ep48⟩, _, rfl, _, rfl, pl, _, rfl, SqL.of (C48.wd.same _ _ (v48 _ _ el7)), fun p49 hp49 => ?_⟩
    rw [cutE]
    have n49 : po ≠ p49 := ne_of_none ep48 hp49
    obtain ⟨G49, B49, u49, e49, z49⟩ := C48.al2 (o := .lst ((ls.take 1).map V.str)) hp49
    have y49 := z49 po n49 y48
    have x49 : ∀ {Hx : Hp}, upd (upd Hx po (.lst ([p41, p45, p48].map V.ref))) p49 (.lst ((ls.take 1).map V.str)) po = some (.lst ([p41, p45, p48].map V.ref)) := (upd_ne n49).trans ep48
    refine ⟨by show 1 ≤ sizeLine; decide, fun p50 hp50 => ?_⟩
    have n50 : po ≠ p50 := ne_of_none x49 hp50
    obtain ⟨G50, B50, u50, e50, z50⟩ := B49.al2 (o := .lst ([("room 2 1 1 1" : Str)].map V.str)) hp50
    have y50 := z50 po n50 y49
    have x50 : ∀ {Hx : Hp}, upd (upd (upd Hx po (.lst ([p41, p45, p48].map V.ref))) p49 (.lst ((ls.take 1).map V.str))) p50 (.lst ([("room 2 1 1 1" : Str)].map V.str)) po = some (.lst ([p41, p45, p48].map V.ref)) := (upd_ne n50).trans x49
    refine ⟨p49, p50, _, _, rfl, rfl, B50.wd.same _ _ (u50 _ _ e49), B50.wd.same _ _ e50, szz (by have := ltk 1; show _ + 1 ≤ 200; omega), fun p51 hp51 => ?_⟩
    have n51 : po ≠ p51 := ne_of_none x50 hp51
    obtain ⟨G51, B51, u51, e51, z51⟩ := B50.al2 (o := .lst ((ls.take 1).map V.str ++ [("room 2 1 1 1" : Str)].map V.str)) hp51
    rw [← List.map_append] at e51
    have y51 := z51 po n51 y50
    have x51 : ∀ {Hx : Hp}, upd (upd (upd (upd Hx po (.lst ([p41, p45, p48].map V.ref))) p49 (.lst ((ls.take 1).map V.str))) p50 (.lst ([("room 2 1 1 1" : Str)].map V.str))) p51 (.lst ((ls.take 1).map V.str ++ [("room 2 1 1 1" : Str)].map V.str)) po = some (.lst ([p41, p45, p48].map V.ref)) := (upd_ne n51).trans x50
    refine ⟨by show 3 ≤ sizeLine; decide, fun p52 hp52 => ?_⟩
    have n52 : po ≠ p52 := ne_of_none x51 hp52
    obtain ⟨G52, B52, u52, e52, z52⟩ := B51.al2 (o := .tup [.ref p51, .str "room", .int 0]) hp52
    have y52 := z52 po n52 y51
    have x52 : ∀ {Hx : Hp}, upd (upd (upd (upd (upd Hx po (.lst ([p41, p45, p48].map V.ref))) p49 (.lst ((ls.take 1).map V.str))) p50 (.lst ([("room 2 1 1 1" : Str)].map V.str))) p51 (.lst ((ls.take 1).map V.str ++ [("room 2 1 1 1" : Str)].map V.str))) p52 (.tup [.ref p51, .str "room", .int 0]) po = some (.lst ([p41, p45, p48].map V.ref)) := (upd_ne n52).trans x51
    have o52 : OneAt G52 p52 := ⟨p51, ls.take 1 ++ [("room 2 1 1 1" : Str)], "room", e52, (u52 _ _ e51), by
      rw [hls]
      exact one_lit (by simp) lit_room hG, by decide +kernel⟩
    have w52 := ((u49.trans u50).trans u51).trans u52
    have v52 := v48.trans w52
    refine ⟨po, _, _, rfl, rfl, x52, by show 3 < sizeLine; decide, ?_⟩
    have C52 := B52.poke (o := .lst ([p41, p45, p48, p52].map V.ref)) B1 h1po y52
    have ep52 : ∀ {Hx : Hp}, upd Hx po (.lst ([p41, p45, p48, p52].map V.ref)) po = some (.lst ([p41, p45, p48, p52].map V.ref)) := upd_same
    have on52 : ∀ q ∈ [p41, p45, p48, p52], OneAt G52 q := fun q hq => by
      rcases List.mem_append.mp (show q ∈ [p41, p45, p48] ++ [p52] from hq) with hq | hq
      · exact (on48 q hq).same w52
      · rw [List.mem_singleton.mp hq]
        exact o52
    -- door
    refine ⟨_, rfl, .inl ⟨rfl, _, SqL.of ep52⟩, _, rfl, _, rfl, pl, _, rfl, SqL.of (C52.wd.same _ _ (v52 _ _ el7)), fun p53 hp53 => ?_⟩
    rw [cutE]
    have n53 : po ≠ p53 := ne_of_none ep52 hp53
    obtain ⟨G53, B53, u53, e53, z53⟩ := C52.al2 (o := .lst ((ls.take 1).map V.str)) hp53
    have y53 := z53 po n53 y52
    have x53 : ∀ {Hx : Hp}, upd (upd Hx po (.lst ([p41, p45, p48, p52].map V.ref))) p53 (.lst ((ls.take 1).map V.str)) po = some (.lst ([p41, p45, p48, p52].map V.ref)) := (upd_ne n53).trans ep52
    refine ⟨by show 2 ≤ sizeLine; decide, fun p54 hp54 => ?_⟩
    have n54 : po ≠ p54 := ne_of_none x53 hp54
    obtain ⟨G54, B54, u54, e54, z54⟩ := B53.al2 (o := .lst ([("room 1 1 1 1" : Str), ("door 0 1 1" : Str)].map V.str)) hp54
    have y54 := z54 po n54 y53
    have x54 : ∀ {Hx : Hp}, upd (upd (upd Hx po (.lst ([p41, p45, p48, p52].map V.ref))) p53 (.lst ((ls.take 1).map V.str))) p54 (.lst ([("room 1 1 1 1" : Str), ("door 0 1 1" : Str)].map V.str)) po = some (.lst ([p41, p45, p48, p52].map V.ref)) := (upd_ne n54).trans x53
    refine ⟨p53, p54, _, _, rfl, rfl, B54.wd.same _ _ (u54 _ _ e53), B54.wd.same _ _ e54, szz (by have := ltk 1; show _ + 2 ≤ 200; omega), fun p55 hp55 => ?_⟩
    have n55 : po ≠ p55 := ne_of_none x54 hp55
    obtain ⟨G55, B55, u55, e55, z55⟩ := B54.al2 (o := .lst ((ls.take 1).map V.str ++ [("room 1 1 1 1" : Str), ("door 0 1 1" : Str)].map V.str)) hp55
    rw [← List.map_append] at e55
    have y55 := z55 po n55 y54
    have x55 : ∀ {Hx : Hp}, upd (upd (upd (upd Hx po (.lst ([p41, p45, p48, p52].map V.ref))) p53 (.lst ((ls.take 1).map V.str))) p54 (.lst ([("room 1 1 1 1" : Str), ("door 0 1 1" : Str)].map V.str))) p55 (.lst ((ls.take 1).map V.str ++ [("room 1 1 1 1" : Str), ("door 0 1 1" : Str)].map V.str)) po = some (.lst ([p41, p45, p48, p52].map V.ref)) := (upd_ne n55).trans x54
    refine ⟨by show 3 ≤ sizeLine; decide, fun p56 hp56 => ?_⟩
    have n56 : po ≠ p56 := ne_of_none x55 hp56
    obtain ⟨G56, B56, u56, e56, z56⟩ := B55.al2 (o := .tup [.ref p55, .str "door", .int 0]) hp56
    have y56 := z56 po n56 y55
    have x56 : ∀ {Hx : Hp}, upd (upd (upd (upd (upd Hx po (.lst ([p41, p45, p48, p52].map V.ref))) p53 (.lst ((ls.take 1).map V.str))) p54 (.lst ([("room 1 1 1 1" : Str), ("door 0 1 1" : Str)].map V.str))) p55 (.lst ((ls.take 1).map V.str ++ [("room 1 1 1 1" : Str), ("door 0 1 1" : Str)].map V.str))) p56 (.tup [.ref p55, .str "door", .int 0]) po = some (.lst ([p41, p45, p48, p52].map V.ref)) := (upd_ne n56).trans x55
    have o56 : OneAt G56 p56 := ⟨p55, ls.take 1 ++ [("room 1 1 1 1" : Str), ("door 0 1 1" : Str)], "door", e56, (u56 _ _ e55), by
      rw [hls]
      exact one_lit (by simp) lit_door hG, by decide +kernel⟩
    have w56 := ((u53.trans u54).trans u55).trans u56
    have v56 := v52.trans w56
    refine ⟨po, _, _, rfl, rfl, x56, by show 4 < sizeLine; decide, ?_⟩
    have C56 := B56.poke (o := .lst ([p41, p45, p48, p52, p56].map V.ref)) B1 h1po y56
    have ep56 : ∀ {Hx : Hp}, upd Hx po (.lst ([p41, p45, p48, p52, p56].map V.ref)) po = some (.lst ([p41, p45, p48, p52, p56].map V.ref)) := upd_same
    have on56 : ∀ q ∈ [p41, p45, p48, p52, p56], OneAt G56 q := fun q hq => by
      rcases List.mem_append.mp (show q ∈ [p41, p45, p48, p52] ++ [p56] from hq) with hq | hq
      · exact (on52 q hq).same w56
      · rw [List.mem_singleton.mp hq]
        exact o56
    -- stay
    refine ⟨_, rfl, .inl ⟨rfl, _, SqL.of ep56⟩, _, rfl, _, rfl, pl, _, rfl, SqL.of (C56.wd.same _ _ (v56 _ _ el7)), fun p57 hp57 => ?_⟩
    rw [cutE]
    have n57 : po ≠ p57 := ne_of_none ep56 hp57
    obtain ⟨G57, B57, u57, e57, z57⟩ := C56.al2 (o := .lst ((ls.take 1).map V.str)) hp57
    have y57 := z57 po n57 y56
    have x57 : ∀ {Hx : Hp}, upd (upd Hx po (.lst ([p41, p45, p48, p52, p56].map V.ref))) p57 (.lst ((ls.take 1).map V.str)) po = some (.lst ([p41, p45, p48, p52, p56].map V.ref)) := (upd_ne n57).trans ep56
    refine ⟨by show 2 ≤ sizeLine; decide, fun p58 hp58 => ?_⟩
    have n58 : po ≠ p58 := ne_of_none x57 hp58
    obtain ⟨G58, B58, u58, e58, z58⟩ := B57.al2 (o := .lst ([("room 1 1 1 1" : Str), ("stay 0 0 1 1000 1" : Str)].map V.str)) hp58
    have y58 := z58 po n58 y57
    have x58 : ∀ {Hx : Hp}, upd (upd (upd Hx po (.lst ([p41, p45, p48, p52, p56].map V.ref))) p57 (.lst ((ls.take 1).map V.str))) p58 (.lst ([("room 1 1 1 1" : Str), ("stay 0 0 1 1000 1" : Str)].map V.str)) po = some (.lst ([p41, p45, p48, p52, p56].map V.ref)) := (upd_ne n58).trans x57
    refine ⟨p57, p58, _, _, rfl, rfl, B58.wd.same _ _ (u58 _ _ e57), B58.wd.same _ _ e58, szz (by have := ltk 1; show _ + 2 ≤ 200; omega), fun p59 hp59 => ?_⟩
    have n59 : po ≠ p59 := ne_of_none x58 hp59
    obtain ⟨G59, B59, u59, e59, z59⟩ := B58.al2 (o := .lst ((ls.take 1).map V.str ++ [("room 1 1 1 1" : Str), ("stay 0 0 1 1000 1" : Str)].map V.str)) hp59
    rw [← List.map_append] at e59
    have y59 := z59 po n59 y58
    have x59 : ∀ {Hx : Hp}, upd (upd (upd (upd Hx po (.lst ([p41, p45, p48, p52, p56].map V.ref))) p57 (.lst ((ls.take 1).map V.str))) p58 (.lst ([("room 1 1 1 1" : Str), ("stay 0 0 1 1000 1" : Str)].map V.str))) p59 (.lst ((ls.take 1).map V.str ++ [("room 1 1 1 1" : Str), ("stay 0 0 1 1000 1" : Str)].map V.str)) po = some (.lst ([p41, p45, p48, p52, p56].map V.ref)) := (upd_ne n59).trans x58
    refine ⟨by show 3 ≤ sizeLine; decide, fun p60 hp60 => ?_⟩
    have n60 : po ≠ p60 := ne_of_none x59 hp60
    obtain ⟨G60, B60, u60, e60, z60⟩ := B59.al2 (o := .tup [.ref p59, .str "stay", .int 0]) hp60
    have y60 := z60 po n60 y59
    have x60 : ∀ {Hx : Hp}, upd (upd (upd (upd (upd Hx po (.lst ([p41, p45, p48, p52, p56].map V.ref))) p57 (.lst ((ls.take 1).map V.str))) p58 (.lst ([("room 1 1 1 1" : Str), ("stay 0 0 1 1000 1" : Str)].map V.str))) p59 (.lst ((ls.take 1).map V.str ++ [("room 1 1 1 1" : Str), ("stay 0 0 1 1000 1" : Str)].map V.str))) p60 (.tup [.ref p59, .str "stay", .int 0]) po = some (.lst ([p41, p45, p48, p52, p56].map V.ref)) := (upd_ne n60).trans x59
    have o60 : OneAt G60 p60 := ⟨p59, ls.take 1 ++ [("room 1 1 1 1" : Str), ("stay 0 0 1 1000 1" : Str)], "stay", e60, (u60 _ _ e59), by
      rw [hls]
      exact one_lit (by simp) lit_stay hG, by decide +kernel⟩
    have w60 := ((u57.trans u58).trans u59).trans u60
    have v60 := v56.trans w60
    refine ⟨po, _, _, rfl, rfl, x60, by show 5 < sizeLine; decide, ?_⟩
    have C60 := B60.poke (o := .lst ([p41, p45, p48, p52, p56, p60].map V.ref)) B1 h1po y60
    have ep60 : ∀ {Hx : Hp}, upd Hx po (.lst ([p41, p45, p48, p52, p56, p60].map V.ref)) po = some (.lst ([p41, p45, p48, p52, p56, p60].map V.ref)) := upd_same
    have on60 : ∀ q ∈ [p41, p45, p48, p52, p56, p60], OneAt G60 q := fun q hq => by
      rcases List.mem_append.mp (show q ∈ [p41, p45, p48, p52, p56] ++ [p60] from hq) with hq | hq
      · exact (on56 q hq).same w60
      · rw [List.mem_singleton.mp hq]
        exact o60
    -- one of them
    refine ⟨_, rfl, _, rfl, b, l, _, _, rfl, by decide, by decide, C60.start, fun r61 H61 a61 c61 B61 => ?_⟩
    have ep61 := B61.gr.keep po _ pon ep60
    replace B61 := C60.trans B61
    obtain ⟨v, hv, hvm⟩ := atI_mem (xs := [p41, p45, p48, p52, p56, p60].map V.ref) (i := r61) a61 (by
      have : ([p41, p45, p48, p52, p56, p60].map V.ref).length = 6 := rfl
      rw [this]
      exact c61)
    obtain ⟨qo, hqo, rfl⟩ := List.mem_map.mp hvm
    obtain ⟨lst, LS, word, eqo, elst, hone, hstr⟩ := on60 qo hqo
    refine .inl ⟨po, _, r61, _, rfl, rfl, SqL.of ep61, hv, qo, _, rfl, SqT.of (B61.wd.same _ _ eqo), rfl, _, _, rfl, _, _, rfl, _, _, rfl, rfl, ?_⟩
    obtain ⟨st, hgo, hbad⟩ := hone.bad
    have hlen := hone.len
    refine ⟨_, rfl, G60, lst, LS, rfl, B61.wdP, B61.tabs, SqL.of elst, hone.ne, by omega, hone.ok, .inr ⟨st, (word, 0), hgo, hbad, fun p62 G62 H62 g62 t62 e62 => ?_⟩⟩
    have u62 := g62.up
    have B62 := B61.trans (B61.start.pure g62 t62)
    refine ⟨_, rfl, _, rfl, by show 3 ≤ sizeLine; decide, fun p63 hp63 => ?_⟩
    obtain ⟨G63, B63, u63, e63⟩ := B62.al (o := .tup [.str "house", .str word, .int 0]) hp63
    have shH := shaped_house hstr 0
    refine ⟨.tuple [.str "house", .str word, .int 0], .tuple [.str "house", .str word, .int 0], .tup (SqT.of (B63.wd.same _ _ (u63 _ _ e62))) (.cons (.str _) (.cons (.str _) (.cons (.int _) .nil))), .tup (SqT.of (B63.wd.same _ _ e63)) (.cons (.str _) (.cons (.str _) (.cons (.int _) .nil))), shH, shH, _, rfl, ?_⟩
    rw [eqv_shaped shH]
    refine iteF ?_
    have uK := u62.trans u63
    -- and a row behind it
    refine ⟨_, rfl, by show 1 ≤ sizeLine; decide, fun p64 hp64 => ?_⟩
    obtain ⟨G64, B64, u64, e64⟩ := B63.al (o := .lst ([("x" : Str)].map V.str)) hp64
    refine ⟨lst, p64, _, _, rfl, rfl, B64.wd.same _ _ (u64 _ _ (uK _ _ elst)), B64.wd.same _ _ e64, szz (by rw [List.length_map]; show _ + 1 ≤ 200; omega), fun p65 hp65 => ?_⟩
    obtain ⟨G65, B65, u65, e65⟩ := B64.al (o := .lst (LS.map V.str ++ [("x" : Str)].map V.str)) hp65
    rw [← List.map_append] at e65
    refine ⟨G65, p65, LS ++ [("x" : Str)], rfl, B65.wdP, B65.tabs, SqL.of e65, by simp, by rw [List.length_append]; show _ + 1 < 100; omega, ?_, .inl ⟨_, hone.x, fun p66 G66 H66 g66 t66 e66 => ?_⟩⟩
    · intro y hy
      rcases List.mem_append.mp hy with hy | hy
      · exact hone.ok y hy
      · rw [List.mem_singleton.mp hy]
        exact lineOk_of x_ok.1
    have u66 := g66.up
    have B66 := B65.trans (B65.start.pure g66 t66)
    have uL := ((uK.trans u64).trans u65).trans u66
    refine ⟨_, rfl, lst, _, rfl, .inl (SqL.of (B66.wd.same _ _ (uL _ _ elst))), by show 2 ≤ sizeLine; decide, fun p67 hp67 => ?_⟩
    dsimp only
    rw [List.length_map]
    obtain ⟨G67, B67, u67, e67⟩ := B66.al (o := .tup [.str "text", .int (LS.length : Int)]) hp67
    refine ⟨.tuple [.str "text", .int (LS.length : Int)], .tuple [.str "text", .int (LS.length : Int)], .tup (SqT.of (B67.wd.same _ _ (u67 _ _ e66))) (.cons (.str _) (.cons (.int _) .nil)), .tup (SqT.of (B67.wd.same _ _ e67)) (.cons (.str _) (.cons (.int _) .nil)), shT _, shT _, ?_⟩
    rw [eqv_shaped (shT _)]
    exact q _
end
end Cr
set_option Elab.async false
set_option linter.all false
set_option maxRecDepth 100000
set_option maxHeartbeats 4000000
/-! What the top leaves of COUNTS and SORTS -/
namespace Cr
open PySem PySem.Spec PyProof.Rows L2
abbrev counts4 (h1 h2 h3 h4 : Int) (t1 t2 t3 t4 u1 u2 u3 u4 : Tok) : List DictEntry := [⟨h1, .str "hours" t1, .int 1 u1⟩, ⟨h2, .str "room" t2, .int 4 u2⟩, ⟨h3, .str "door" t3, .int 3 u3⟩, ⟨h4, .str "stay" t4, .int 5 u4⟩]
theorem counts_of {K : PySem.W.Frag} {w : World} {mg : Str → Option Value} {d : Addr} {h1 h2 h3 h4 : Int} {t1 t2 t3 t4 u1 u2 u3 u4 : Tok} {n : Nat} (hm : mg "COUNTS" = some (.ref d))
    (at_ : K.lookup d = some ⟨.type "dict", none, .dict (counts4 h1 h2 h3 h4 t1 t2 t3 t4 u1 u2 u3 u4).toArray n, #[]⟩) (lit : PySem.W.KeysLit w.params (counts4 h1 h2 h3 h4 t1 t2 t3 t4 u1 u2 u3 u4)) (low : (d == sysModules) = false) : CountsR K w mg := by
  refine ⟨d, _, n, hm, ⟨at_, lit, low⟩, fun z => ?_⟩
  have e : PySem.W.nsIn K d z = match (counts4 h1 h2 h3 h4 t1 t2 t3 t4 u1 u2 u3 u4).find? (·.key.isStr z) with
      | some e => some (some e.val)
      | none => some none := by
    unfold PySem.W.nsIn
    rw [at_]
    rfl
  rw [e]
  have hf : ∀ {x : Str} {h : Int} {t : Tok} {v : Value} {r : List DictEntry}, ((⟨h, .str x t, v⟩ : DictEntry) :: r).find? (·.key.isStr z) = if z = x then some ⟨h, .str x t, v⟩ else r.find? (·.key.isStr z) := by
    intro x h t v r
    rw [List.find?_cons]
    have : (Value.str x t).isStr z = (x == z) := rfl
    show (match (Value.str x t).isStr z with | true => _ | false => _) = _
    rw [this]
    by_cases c : z = x
    · rw [if_pos c, c]
      simp
    · rw [if_neg c]
      have : (x == z) = false := by
        rw [beq_eq_false_iff_ne]
        exact fun q => c q.symm
      rw [this]
  rw [hf, hf, hf, hf]
  unfold cntOf
  by_cases c1 : z = "hours"
  · rw [if_pos c1, if_pos c1]
    exact ⟨_, rfl, _, rfl⟩
  rw [if_neg c1, if_neg c1]
  by_cases c2 : z = "room"
  · rw [if_pos c2, if_pos c2]
    exact ⟨_, rfl, _, rfl⟩
  rw [if_neg c2, if_neg c2]
  by_cases c3 : z = "door"
  · rw [if_pos c3, if_pos c3]
    exact ⟨_, rfl, _, rfl⟩
  rw [if_neg c3, if_neg c3]
  by_cases c4 : z = "stay"
  · rw [if_pos c4, if_pos c4]
    exact ⟨_, rfl, _, rfl⟩
  rw [if_neg c4, if_neg c4]
  rfl
theorem sorts_of {K : PySem.W.Frag} {mg : Str → Option Value} {d : Addr} {t1 t2 t3 t4 : Tok} {n : Nat} {sl : Array (Option Value)} (hm : mg "SORTS" = some (.ref d))
    (at_ : K.lookup d = some ⟨.type "tuple", none, .seq #[.str "hours" t1, .str "room" t2, .str "door" t3, .str "stay" t4] n, sl⟩) : SortsR K mg :=
  ⟨d, _, hm, at_, rfl, rfl, fun H => .inr ⟨_, _, n, at_, rfl, rfl, by show 4 ≤ sizeLine; decide, .cons ⟨t1, rfl⟩ (.cons ⟨t2, rfl⟩ (.cons ⟨t3, rfl⟩ (.cons ⟨t4, rfl⟩ .nil)))⟩⟩
end Cr
set_option Elab.async false
set_option linter.all false
set_option maxRecDepth 100000
set_option maxHeartbeats 4000000
namespace Cr
open PySem PySem.Spec PyProof.Rows L2
/-- what the law's promise asks of the head's heap -/
theorem fin_mk {P : Program} {w : World} {K : PySem.W.Frag} {h : Heap} {mg : Str → Option Value} {fa cBadText cBadPlan cBroken cNoPlan cBadHouse cHouse cAirError cN_numbers_can_be tN_numbers_can_be cCOUNTS cSORTS cN_is_row tN_is_row : Addr} {tMOST_HOURS tMOST_ROOMS tMOST_DOORS tMOST_STAYS tMOST_NUMBER tC1 tC2 tC3 tC4 uC1 uC2 uC3 uC4 tS1 tS2 tS3 tS4 tMOST_FIGURES : Tok}
    {nm_BadHouse : Str} {qb_BadHouse : Str} {Nb_BadHouse : Addr} {bs_BadHouse : List Value} {bm_BadHouse : List Value} {sn_BadHouse : List Str} {sub_BadHouse : List Value} {ab_BadHouse : Bool} {col_BadHouse : Option Bool} {dd_BadHouse : Option Addr} {m0_BadHouse : Option Value} {m1_BadHouse : Option Value} {m2_BadHouse : Option Value} {m3_BadHouse : Option Value} {m5_BadHouse : Option Value} {hC1 hC2 hC3 hC4 : Int} {nC nS : Nat} {slS : Array (Option Value)} {nm_BadText : Str} {qb_BadText : Str} {Nb_BadText : Addr} {bs_BadText : List Value} {bm_BadText : List Value} {sn_BadText : List Str} {sub_BadText : List Value} {ab_BadText : Bool} {col_BadText : Option Bool} {dd_BadText : Option Addr} {m0_BadText : Option Value} {m1_BadText : Option Value} {m2_BadText : Option Value} {m3_BadText : Option Value} {m5_BadText : Option Value}
    (KX : K.In h) (G : h.Ns mainGlobals mg) (hfa : mg "law" = some (.ref fa))
    (a_BadText : PySem.W.nsIn K mainGlobals "BadText" = some (some (.ref cBadText)))
    (a_BadPlan : PySem.W.nsIn K mainGlobals "BadPlan" = some (some (.ref cBadPlan)))
    (a_Broken : PySem.W.nsIn K mainGlobals "Broken" = some (some (.ref cBroken)))
    (a_NoPlan : PySem.W.nsIn K mainGlobals "NoPlan" = some (some (.ref cNoPlan)))
    (a_BadHouse : PySem.W.nsIn K mainGlobals "BadHouse" = some (some (.ref cBadHouse)))
    (a_House : PySem.W.nsIn K mainGlobals "House" = some (some (.ref cHouse)))
    (a_AirError : PySem.W.nsIn K mainGlobals "AirError" = some (some (.ref cAirError)))
    (ai_rd : PySem.W.readsIn K cAirError (.type "type") = true)
    (ai_ga : PySem.W.specialIn K (.ref cAirError) "__getattribute__" = some (some (.builtin "type.__getattribute__")))
    (ai_iv : PySem.W.findCls K (.ref cAirError) (.type "type") "__init__" = some (.val (.builtin "ValueError.__init__")))
    (e_BadHouse : ErrF K cBadHouse "BadHouse.__init__" sBadHouse_init)
    (xL_BadHouse : K.lookup cBadHouse = some (excClassObj nm_BadHouse qb_BadHouse cBadHouse Nb_BadHouse bs_BadHouse bm_BadHouse true sn_BadHouse sub_BadHouse ab_BadHouse col_BadHouse dd_BadHouse m0_BadHouse m1_BadHouse m2_BadHouse m3_BadHouse m5_BadHouse "ValueError.__new__"))
    (xR_BadHouse : PySem.HandSPX.refsVE bm_BadHouse = true)
    (f_BadHouse_setattr : PySem.W.findIn K (.ref cBadHouse) "__setattr__" = some (some (.builtin "object.__setattr__")))
    (st_BadHouse_BaseException : PySem.W.subIn K (.ref cBadHouse) (.type "BaseException") = some true)
    (ty_BadHouse : PySem.W.typeIn K (.ref cBadHouse) = some (.type "type"))
    (kp_BadHouse : PySem.W.keepIn K (.ref cBadHouse) = true)
    (f_BadHouse_word : PySem.W.findIn K (.ref cBadHouse) "word" = some none)
    (f_BadHouse_number : PySem.W.findIn K (.ref cBadHouse) "number" = some none)
    (i_House : MetF K cHouse "__init__" "House.__init__" sHouse_init)
    (mk_House : PySem.W.makesIn K cHouse = true)
    (kp_House : PySem.W.keepIn K (.ref cHouse) = true)
    (pg_House : PySem.W.plainGet K cHouse Str.empty = true)
    (hd_House : PySem.W.hasDictIn K cHouse = true)
    (po_House : PySem.W.plainOver K cHouse = true)
    (f_House_setattr : PySem.W.findIn K (.ref cHouse) "__setattr__" = some (some (.builtin "object.__setattr__")))
    (f_House_hours : PySem.W.findIn K (.ref cHouse) "hours" = some none)
    (f_House_rooms_u : PySem.W.findIn K (.ref cHouse) "_rooms" = some none)
    (f_House_doors_u : PySem.W.findIn K (.ref cHouse) "_doors" = some none)
    (f_House_stays_u : PySem.W.findIn K (.ref cHouse) "_stays" = some none)
    (m_House_rooms : MetF K cHouse "rooms" "House.rooms" sHouse_rooms)
    (m_House_doors : MetF K cHouse "doors" "House.doors" sHouse_doors)
    (m_House_stays : MetF K cHouse "stays" "House.stays" sHouse_stays)
    (m_House_use : MetF K cHouse "use" "House.use" sHouse_use)
    (m_House_least : MetF K cHouse "least" "House.least" sHouse_least)
    (m_House__wants : MetF K cHouse "_wants" "House._wants" sHouse__wants)
    (d__check_counts : DefF K "_check_counts" s_check_counts)
    (d__check_parts : DefF K "_check_parts" s_check_parts)
    (d__room_can_be : DefF K "_room_can_be" s_room_can_be)
    (d__door_can_be : DefF K "_door_can_be" s_door_can_be)
    (d__stay_can_be : DefF K "_stay_can_be" s_stay_can_be)
    (aT_numbers_can_be : PySem.W.tabIn K "_numbers_can_be" = some (cN_numbers_can_be, tN_numbers_can_be))
    (nc_numbers_can_be : CodF K "_numbers_can_be" s_numbers_can_be cN_numbers_can_be)
    (g_MOST_HOURS : PySem.W.nsIn K mainGlobals "MOST_HOURS" = some (some (.int 12 tMOST_HOURS)))
    (g_MOST_ROOMS : PySem.W.nsIn K mainGlobals "MOST_ROOMS" = some (some (.int 6 tMOST_ROOMS)))
    (g_MOST_DOORS : PySem.W.nsIn K mainGlobals "MOST_DOORS" = some (some (.int 8 tMOST_DOORS)))
    (g_MOST_STAYS : PySem.W.nsIn K mainGlobals "MOST_STAYS" = some (some (.int 20 tMOST_STAYS)))
    (g_MOST_NUMBER : PySem.W.nsIn K mainGlobals "MOST_NUMBER" = some (some (.int 999 tMOST_NUMBER)))
    (z_all : PySem.W.nsIn K mainGlobals "all" = some none)
    (z_len : PySem.W.nsIn K mainGlobals "len" = some none)
    (z_max : PySem.W.nsIn K mainGlobals "max" = some none)
    (z_sum : PySem.W.nsIn K mainGlobals "sum" = some none)
    (z_list : PySem.W.nsIn K mainGlobals "list" = some none)
    (z_enumerate : PySem.W.nsIn K mainGlobals "enumerate" = some none)
    (d__law_begun : DefF K "_law_begun" s_law_begun)
    (d__law_take : DefF K "_law_take" s_law_take)
    (z_int : PySem.W.nsIn K mainGlobals "int" = some none)
    (z_bool : PySem.W.nsIn K mainGlobals "bool" = some none)
    (z_str : PySem.W.nsIn K mainGlobals "str" = some none)
    (z_tuple : PySem.W.nsIn K mainGlobals "tuple" = some none)
    (z_isinstance : PySem.W.nsIn K mainGlobals "isinstance" = some none)
    (z_range : PySem.W.nsIn K mainGlobals "range" = some none)
    (d__law_stay : DefF K "_law_stay" s_law_stay)
    (d__law_house : DefF K "_law_house" s_law_house)
    (z_min : PySem.W.nsIn K mainGlobals "min" = some none)
    (a_COUNTS : PySem.W.nsIn K mainGlobals "COUNTS" = some (some (.ref cCOUNTS)))
    (a_SORTS : PySem.W.nsIn K mainGlobals "SORTS" = some (some (.ref cSORTS)))
    (kd_C : K.lookup cCOUNTS = some ⟨.type "dict", none, .dict (counts4 hC1 hC2 hC3 hC4 tC1 tC2 tC3 tC4 uC1 uC2 uC3 uC4).toArray nC, #[]⟩)
    (kl_C : PySem.W.KeysLit w.params (counts4 hC1 hC2 hC3 hC4 tC1 tC2 tC3 tC4 uC1 uC2 uC3 uC4))
    (lo_C : (cCOUNTS == sysModules) = false)
    (ks_S : K.lookup cSORTS = some ⟨.type "tuple", none, .seq #[.str "hours" tS1, .str "room" tS2, .str "door" tS3, .str "stay" tS4] nS, slS⟩)
    (aT_is_row : PySem.W.tabIn K "_is_row" = some (cN_is_row, tN_is_row))
    (nc_is_row : CodF K "_is_row" s_is_row cN_is_row)
    (d__is_number : DefF K "_is_number" s_is_number)
    (g_MOST_FIGURES : PySem.W.nsIn K mainGlobals "MOST_FIGURES" = some (some (.int 4 tMOST_FIGURES)))
    (e_BadText : ErrF K cBadText "BadText.__init__" sBadText_init)
    (xL_BadText : K.lookup cBadText = some (excClassObj nm_BadText qb_BadText cBadText Nb_BadText bs_BadText bm_BadText true sn_BadText sub_BadText ab_BadText col_BadText dd_BadText m0_BadText m1_BadText m2_BadText m3_BadText m5_BadText "ValueError.__new__"))
    (xR_BadText : PySem.HandSPX.refsVE bm_BadText = true)
    (f_BadText_setattr : PySem.W.findIn K (.ref cBadText) "__setattr__" = some (some (.builtin "object.__setattr__")))
    (st_BadText_BaseException : PySem.W.subIn K (.ref cBadText) (.type "BaseException") = some true)
    (ty_BadText : PySem.W.typeIn K (.ref cBadText) = some (.type "type"))
    (kp_BadText : PySem.W.keepIn K (.ref cBadText) = true)
    (f_BadText_row : PySem.W.findIn K (.ref cBadText) "row" = some none)
    (d_read : DefF K "read" sread)
    (d__law_lines : DefF K "_law_lines" s_law_lines)
    (d__law_refused : DefF K "_law_refused" s_law_refused)
    (d__law_none : DefF K "_law_none" s_law_none)
    (st_AirError_BaseException : PySem.W.subIn K (.ref cAirError) (.type "BaseException") = some true)
    (ic_AirError : PySem.W.isClsIn K cAirError = true)
    (ty_AirError : PySem.W.typeIn K (.ref cAirError) = some (.type "type"))
    (sb_BadText_AirError : PySem.W.subIn K (.ref cBadText) (.ref cAirError) = some true)
    (f_BadText_getattribute : PySem.W.findIn K (.ref cBadText) "__getattribute__" = some (some (.builtin "BaseException.__getattribute__")))
    (f_BadText_getattr : PySem.W.findIn K (.ref cBadText) "__getattr__" = some none)
    (f_BadText_class : PySem.W.findIn K (.ref cBadText) "__class__" = some (some (.builtin "object.__class__")))
    (sp_class : PySem.W.specialIn K (.builtin "object.__class__") "__get__" = some (some (.builtin "getset_descriptor.__get__")))
    (tk_class : PySem.W.takesIn K (.builtin "object.__class__") = some true)
    (mr_BadText : PySem.W.mroIn K cBadText (.type "object") = some true)
    (hd_BadText : PySem.W.hasDictIn K cBadText = true)
    (nt_BadText_ValueError : (Value.ref cBadText == Value.type "ValueError") = false)
    (vm_ValueError : PySem.W.kitMeta "ValueError" = true)
    (st_BadText_ValueError : PySem.W.subIn K (.ref cBadText) (.type "ValueError") = some true)
    (es_BadText : (Value.ref cBadText == Value.ref cBadText) = true)
    (ne_BadText_BadHouse : (Value.ref cBadText == Value.ref cBadHouse) = false)
    (ic_BadHouse : PySem.W.isClsIn K cBadHouse = true)
    (sb_BadText_BadHouse : PySem.W.subIn K (.ref cBadText) (.ref cBadHouse) = some false)
    (ne_BadText_BadPlan : (Value.ref cBadText == Value.ref cBadPlan) = false)
    (ic_BadPlan : PySem.W.isClsIn K cBadPlan = true)
    (ty_BadPlan : PySem.W.typeIn K (.ref cBadPlan) = some (.type "type"))
    (sb_BadText_BadPlan : PySem.W.subIn K (.ref cBadText) (.ref cBadPlan) = some false)
    (ne_BadText_Broken : (Value.ref cBadText == Value.ref cBroken) = false)
    (ic_Broken : PySem.W.isClsIn K cBroken = true)
    (ty_Broken : PySem.W.typeIn K (.ref cBroken) = some (.type "type"))
    (sb_BadText_Broken : PySem.W.subIn K (.ref cBadText) (.ref cBroken) = some false)
    (ne_BadText_NoPlan : (Value.ref cBadText == Value.ref cNoPlan) = false)
    (ic_NoPlan : PySem.W.isClsIn K cNoPlan = true)
    (ty_NoPlan : PySem.W.typeIn K (.ref cNoPlan) = some (.type "type"))
    (sb_BadText_NoPlan : PySem.W.subIn K (.ref cBadText) (.ref cNoPlan) = some false)
    (sb_BadHouse_AirError : PySem.W.subIn K (.ref cBadHouse) (.ref cAirError) = some true)
    (f_BadHouse_getattribute : PySem.W.findIn K (.ref cBadHouse) "__getattribute__" = some (some (.builtin "BaseException.__getattribute__")))
    (f_BadHouse_getattr : PySem.W.findIn K (.ref cBadHouse) "__getattr__" = some none)
    (f_BadHouse_class : PySem.W.findIn K (.ref cBadHouse) "__class__" = some (some (.builtin "object.__class__")))
    (mr_BadHouse : PySem.W.mroIn K cBadHouse (.type "object") = some true)
    (hd_BadHouse : PySem.W.hasDictIn K cBadHouse = true)
    (nt_BadHouse_ValueError : (Value.ref cBadHouse == Value.type "ValueError") = false)
    (st_BadHouse_ValueError : PySem.W.subIn K (.ref cBadHouse) (.type "ValueError") = some true)
    (ne_BadHouse_BadText : (Value.ref cBadHouse == Value.ref cBadText) = false)
    (ic_BadText : PySem.W.isClsIn K cBadText = true)
    (sb_BadHouse_BadText : PySem.W.subIn K (.ref cBadHouse) (.ref cBadText) = some false)
    (es_BadHouse : (Value.ref cBadHouse == Value.ref cBadHouse) = true)
    (ne_BadHouse_BadPlan : (Value.ref cBadHouse == Value.ref cBadPlan) = false)
    (sb_BadHouse_BadPlan : PySem.W.subIn K (.ref cBadHouse) (.ref cBadPlan) = some false)
    (ne_BadHouse_Broken : (Value.ref cBadHouse == Value.ref cBroken) = false)
    (sb_BadHouse_Broken : PySem.W.subIn K (.ref cBadHouse) (.ref cBroken) = some false)
    (ne_BadHouse_NoPlan : (Value.ref cBadHouse == Value.ref cNoPlan) = false)
    (sb_BadHouse_NoPlan : PySem.W.subIn K (.ref cBadHouse) (.ref cNoPlan) = some false)
    (z_ValueError : PySem.W.nsIn K mainGlobals "ValueError" = some none)
    (d_law : DefF K "law" slaw) :
    ∃ fd : FuncData, (∀ (s : Shared) (v : Value), BindsTo s fd ⟨[v], []⟩ [("_law_script", v)]) ∧ ∀ base : Heap, K.In base → base.Ns mainGlobals mg → GxR.TabB base mg cN_numbers_can_be tN_numbers_can_be → GxR.TabB base mg cN_is_row tN_is_row → FnOk P w K mg base CX0 8 fa fd ["_law_script"] (spLaw K [tN_numbers_can_be, tN_is_row]) := by
  have L : DefR K mg "law" slaw alaw := (d_law.r KX G (fun _ _ _ _ _ _ us hl => match us, hl with | [_], _ => rfl))
  obtain ⟨f, fd, FL, hm, bi⟩ := id L
  have e := hfa.symm.trans hm
  cases e
  refine ⟨fd, fun s v => ?_, fun base hb hg TB_numbers_can_be TB_is_row => ?_⟩
  · obtain ⟨oc, od, kV, doc, pm, an, cd, ct, sl, efd, _⟩ := FL.ex
    subst efd
    exact .of_eq rfl
  · have RP : RawP K mg base ⟨cHouse, cAirError, .type "type", cBadHouse, cN_numbers_can_be, tN_numbers_can_be⟩ := {
      airI := ⟨ai_rd, ai_ga, ai_iv⟩, m_AirError := (PySem.W.mg_of KX G a_AirError), bh := (e_BadHouse.r (show OexC K cBadHouse from ⟨⟨nm_BadHouse, qb_BadHouse, Nb_BadHouse, bs_BadHouse, bm_BadHouse, sn_BadHouse, sub_BadHouse, ab_BadHouse, col_BadHouse, dd_BadHouse, m0_BadHouse, m1_BadHouse, m2_BadHouse, m3_BadHouse, m5_BadHouse, xL_BadHouse, xR_BadHouse⟩, f_BadHouse_setattr, st_BadHouse_BaseException, ty_BadHouse, kp_BadHouse⟩) (PySem.W.mg_of KX G a_BadHouse) (fun _ _ _ _ _ _ us hl => match us, hl with | [_, _, _], _ => rfl)), bhw := f_BadHouse_word, bhn := f_BadHouse_number
      hi := (i_House.ini (PySem.W.mg_of KX G a_House) mk_House kp_House (fun _ _ _ _ _ _ us hl => match us, hl with | [_, _, _, _, _], _ => rfl)), hcl := ⟨pg_House, hd_House, po_House, f_House_setattr⟩, hnh := f_House_hours, hnr := f_House_rooms_u, hnd := f_House_doors_u, hns := f_House_stays_u
      hro := (m_House_rooms.r (fun _ _ _ _ _ _ us hl => match us, hl with | [_], _ => rfl))
      hdo := (m_House_doors.r (fun _ _ _ _ _ _ us hl => match us, hl with | [_], _ => rfl))
      hst := (m_House_stays.r (fun _ _ _ _ _ _ us hl => match us, hl with | [_], _ => rfl))
      hus := (m_House_use.r (fun _ _ _ _ _ _ us hl => match us, hl with | [_, _, _], _ => rfl))
      hle := (m_House_least.r (fun _ _ _ _ _ _ us hl => match us, hl with | [_, _, _], _ => rfl))
      hwa := (m_House__wants.r (fun _ _ _ _ _ _ us hl => match us, hl with | [_, _, _], _ => rfl))
      cc := (d__check_counts.r KX G (fun _ _ _ _ _ _ us hl => match us, hl with | [_, _, _, _], _ => rfl))
      cp := (d__check_parts.r KX G (fun _ _ _ _ _ _ us hl => match us, hl with | [_, _, _, _], _ => rfl))
      rc := (d__room_can_be.r KX G (fun _ _ _ _ _ _ us hl => match us, hl with | [_], _ => rfl))
      dc := (d__door_can_be.r KX G (fun _ _ _ _ _ _ us hl => match us, hl with | [_, _], _ => rfl))
      sc := (d__stay_can_be.r KX G (fun _ _ _ _ _ _ us hl => match us, hl with | [_, _, _], _ => rfl))
      nc := (nc_numbers_can_be.r KX G TB_numbers_can_be (fun _ _ _ _ _ _ us hl => match us, hl with | [_], _ => rfl))
      gH := ⟨_, PySem.W.mg_of KX G g_MOST_HOURS⟩
      gR := ⟨_, PySem.W.mg_of KX G g_MOST_ROOMS⟩
      gD := ⟨_, PySem.W.mg_of KX G g_MOST_DOORS⟩
      gS := ⟨_, PySem.W.mg_of KX G g_MOST_STAYS⟩
      gN := ⟨_, PySem.W.mg_of KX G g_MOST_NUMBER⟩
      b_all := PySem.W.mg_none_of KX G z_all, b_len := PySem.W.mg_none_of KX G z_len, b_max := PySem.W.mg_none_of KX G z_max, b_sum := PySem.W.mg_none_of KX G z_sum, b_list := PySem.W.mg_none_of KX G z_list, b_enumerate := PySem.W.mg_none_of KX G z_enumerate }
    have RL : RawL K mg := {
      begun := (d__law_begun.r KX G (fun _ _ _ _ _ _ us hl => match us, hl with | [_], _ => rfl)), take := (d__law_take.r KX G (fun _ _ _ _ _ _ us hl => match us, hl with | [_, _], _ => rfl))
      b_len := PySem.W.mg_none_of KX G z_len, b_list := PySem.W.mg_none_of KX G z_list, b_int := PySem.W.mg_none_of KX G z_int, b_bool := PySem.W.mg_none_of KX G z_bool, b_str := PySem.W.mg_none_of KX G z_str, b_tuple := PySem.W.mg_none_of KX G z_tuple, b_isinstance := PySem.W.mg_none_of KX G z_isinstance, b_range := PySem.W.mg_none_of KX G z_range }
    have RH : RawH K mg := { RL with lstay := (d__law_stay.r KX G (fun _ _ _ _ _ _ us hl => match us, hl with | [_, _, _], _ => rfl)), lhouse := (d__law_house.r KX G (fun _ _ _ _ _ _ us hl => match us, hl with | [_], _ => rfl)), b_min := PySem.W.mg_none_of KX G z_min }
    have RIn : RawIn K mg := { isn := (d__is_number.r KX G (fun _ _ _ _ _ _ us hl => match us, hl with | [_], _ => rfl)), mf := ⟨_, PySem.W.mg_of KX G g_MOST_FIGURES⟩, b_len := PySem.W.mg_none_of KX G z_len }
    have RIr : RawIr K w mg base cN_is_row tN_is_row := { RIn with isr := (nc_is_row.r KX G TB_is_row (fun _ _ _ _ _ _ us hl => match us, hl with | [_], _ => rfl)), cnt := counts_of (PySem.W.mg_of KX G a_COUNTS) kd_C kl_C lo_C, b_all := PySem.W.mg_none_of KX G z_all }
    have RBt : RawBt K mg base ⟨cHouse, cAirError, .type "type", cBadHouse, cN_numbers_can_be, tN_numbers_can_be⟩ cBadText := { RP with bt := (e_BadText.r (show OexC K cBadText from ⟨⟨nm_BadText, qb_BadText, Nb_BadText, bs_BadText, bm_BadText, sn_BadText, sub_BadText, ab_BadText, col_BadText, dd_BadText, m0_BadText, m1_BadText, m2_BadText, m3_BadText, m5_BadText, xL_BadText, xR_BadText⟩, f_BadText_setattr, st_BadText_BaseException, ty_BadText, kp_BadText⟩) (PySem.W.mg_of KX G a_BadText) (fun _ _ _ _ _ _ us hl => match us, hl with | [_, _], _ => rfl)), btr := f_BadText_row }
    have RRd : RawRd K w mg base ⟨cHouse, cAirError, .type "type", cBadHouse, cN_numbers_can_be, tN_numbers_can_be⟩ cBadText cN_is_row tN_is_row := { RBt, RIr with rd := (d_read.r KX G (fun _ _ _ _ _ _ us hl => match us, hl with | [_], _ => rfl)), sorts := sorts_of (PySem.W.mg_of KX G a_SORTS) ks_S, b_tuple := PySem.W.mg_none_of KX G z_tuple, b_int := PySem.W.mg_none_of KX G z_int }
    have RLi : RawLi K mg := { llin := (d__law_lines.r KX G (fun _ _ _ _ _ _ us hl => match us, hl with | [_], _ => rfl)), b_str := PySem.W.mg_none_of KX G z_str }
    have RRe : RawRe K w mg base ⟨cHouse, cAirError, .type "type", cBadHouse, cN_numbers_can_be, tN_numbers_can_be⟩ cBadText cN_is_row tN_is_row cBadPlan cBroken cNoPlan := { RRd, RL with lref := (d__law_refused.r KX G (fun _ _ _ _ _ _ us hl => match us, hl with | [_], _ => rfl)), lnon := (d__law_none.r KX G (fun _ _ _ _ _ _ us hl => match us, hl with | [_], _ => rfl)), xT := ⟨(exm_own st_AirError_BaseException ic_AirError ty_AirError sb_BadText_AirError), ⟨f_BadText_getattribute, f_BadText_getattr, st_BadText_BaseException, hd_BadText, f_BadText_class, sp_class, tk_class, mr_BadText⟩, ⟨f_BadText_getattribute, f_BadText_getattr, st_BadText_BaseException, hd_BadText⟩, (kit_bltn nt_BadText_ValueError vm_ValueError st_BadText_ValueError), (kit_self es_BadText), (kit_own ne_BadText_BadHouse ic_BadHouse ty_BadHouse sb_BadText_BadHouse), (kit_own ne_BadText_BadPlan ic_BadPlan ty_BadPlan sb_BadText_BadPlan), (kit_own ne_BadText_Broken ic_Broken ty_Broken sb_BadText_Broken), (kit_own ne_BadText_NoPlan ic_NoPlan ty_NoPlan sb_BadText_NoPlan)⟩, xH := ⟨(exm_own st_AirError_BaseException ic_AirError ty_AirError sb_BadHouse_AirError), ⟨f_BadHouse_getattribute, f_BadHouse_getattr, st_BadHouse_BaseException, hd_BadHouse, f_BadHouse_class, sp_class, tk_class, mr_BadHouse⟩, ⟨f_BadHouse_getattribute, f_BadHouse_getattr, st_BadHouse_BaseException, hd_BadHouse⟩, (kit_bltn nt_BadHouse_ValueError vm_ValueError st_BadHouse_ValueError), (kit_own ne_BadHouse_BadText ic_BadText ty_BadText sb_BadHouse_BadText), (kit_self es_BadHouse), (kit_own ne_BadHouse_BadPlan ic_BadPlan ty_BadPlan sb_BadHouse_BadPlan), (kit_own ne_BadHouse_Broken ic_Broken ty_Broken sb_BadHouse_Broken), (kit_own ne_BadHouse_NoPlan ic_NoPlan ty_NoPlan sb_BadHouse_NoPlan)⟩, mBT := (PySem.W.mg_of KX G a_BadText), mBH := (PySem.W.mg_of KX G a_BadHouse), mBP := (PySem.W.mg_of KX G a_BadPlan), mBr := (PySem.W.mg_of KX G a_Broken), mNP := (PySem.W.mg_of KX G a_NoPlan), b_ValueError := PySem.W.mg_none_of KX G z_ValueError }
    have RA : RawA K w mg base ⟨cHouse, cAirError, .type "type", cBadHouse, cN_numbers_can_be, tN_numbers_can_be⟩ cBadText cN_is_row tN_is_row cBadPlan cBroken cNoPlan := { RH, RLi with re := RRe }
    exact c_law RA (by simp) (by simp) FL
theorem law_at {l : PySem.W.OpenLaw} {p : Program} {lo : List Str} {mean : ExcName → Option Value} {mb : Str → Option Value} {d_numbers_can_be : DefRec} {d_is_row : DefRec} {w : World} {K : PySem.W.Frag} {h : Heap} {mg : Str → Option Value} {fa cBadText cBadPlan cBroken cNoPlan cBadHouse cHouse cAirError cN_numbers_can_be tN_numbers_can_be cCOUNTS cSORTS cN_is_row tN_is_row : Addr} {tMOST_HOURS tMOST_ROOMS tMOST_DOORS tMOST_STAYS tMOST_NUMBER tC1 tC2 tC3 tC4 uC1 uC2 uC3 uC4 tS1 tS2 tS3 tS4 tMOST_FIGURES : Tok}
    {nm_BadHouse : Str} {qb_BadHouse : Str} {Nb_BadHouse : Addr} {bs_BadHouse : List Value} {bm_BadHouse : List Value} {sn_BadHouse : List Str} {sub_BadHouse : List Value} {ab_BadHouse : Bool} {col_BadHouse : Option Bool} {dd_BadHouse : Option Addr} {m0_BadHouse : Option Value} {m1_BadHouse : Option Value} {m2_BadHouse : Option Value} {m3_BadHouse : Option Value} {m5_BadHouse : Option Value} {hC1 hC2 hC3 hC4 : Int} {nC nS : Nat} {slS : Array (Option Value)} {nm_BadText : Str} {qb_BadText : Str} {Nb_BadText : Addr} {bs_BadText : List Value} {bm_BadText : List Value} {sn_BadText : List Str} {sub_BadText : List Value} {ab_BadText : Bool} {col_BadText : Option Bool} {dd_BadText : Option Addr} {m0_BadText : Option Value} {m1_BadText : Option Value} {m2_BadText : Option Value} {m3_BadText : Option Value} {m5_BadText : Option Value}
    (T : Top p lo mean mg mb h) (KX : K.In h) (G : h.Ns mainGlobals mg) (hfa : mg "law" = some (.ref fa)) (tr_numbers_can_be : (recsOf p).find? (fun e => e.name == ("_numbers_can_be" : Str)) = some d_numbers_can_be) (tr_is_row : (recsOf p).find? (fun e => e.name == ("_is_row" : Str)) = some d_is_row)
    (a_BadText : PySem.W.nsIn K mainGlobals "BadText" = some (some (.ref cBadText)))
    (a_BadPlan : PySem.W.nsIn K mainGlobals "BadPlan" = some (some (.ref cBadPlan)))
    (a_Broken : PySem.W.nsIn K mainGlobals "Broken" = some (some (.ref cBroken)))
    (a_NoPlan : PySem.W.nsIn K mainGlobals "NoPlan" = some (some (.ref cNoPlan)))
    (a_BadHouse : PySem.W.nsIn K mainGlobals "BadHouse" = some (some (.ref cBadHouse)))
    (a_House : PySem.W.nsIn K mainGlobals "House" = some (some (.ref cHouse)))
    (a_AirError : PySem.W.nsIn K mainGlobals "AirError" = some (some (.ref cAirError)))
    (ai_rd : PySem.W.readsIn K cAirError (.type "type") = true)
    (ai_ga : PySem.W.specialIn K (.ref cAirError) "__getattribute__" = some (some (.builtin "type.__getattribute__")))
    (ai_iv : PySem.W.findCls K (.ref cAirError) (.type "type") "__init__" = some (.val (.builtin "ValueError.__init__")))
    (e_BadHouse : ErrF K cBadHouse "BadHouse.__init__" sBadHouse_init)
    (xL_BadHouse : K.lookup cBadHouse = some (excClassObj nm_BadHouse qb_BadHouse cBadHouse Nb_BadHouse bs_BadHouse bm_BadHouse true sn_BadHouse sub_BadHouse ab_BadHouse col_BadHouse dd_BadHouse m0_BadHouse m1_BadHouse m2_BadHouse m3_BadHouse m5_BadHouse "ValueError.__new__"))
    (xR_BadHouse : PySem.HandSPX.refsVE bm_BadHouse = true)
    (f_BadHouse_setattr : PySem.W.findIn K (.ref cBadHouse) "__setattr__" = some (some (.builtin "object.__setattr__")))
    (st_BadHouse_BaseException : PySem.W.subIn K (.ref cBadHouse) (.type "BaseException") = some true)
    (ty_BadHouse : PySem.W.typeIn K (.ref cBadHouse) = some (.type "type"))
    (kp_BadHouse : PySem.W.keepIn K (.ref cBadHouse) = true)
    (f_BadHouse_word : PySem.W.findIn K (.ref cBadHouse) "word" = some none)
    (f_BadHouse_number : PySem.W.findIn K (.ref cBadHouse) "number" = some none)
    (i_House : MetF K cHouse "__init__" "House.__init__" sHouse_init)
    (mk_House : PySem.W.makesIn K cHouse = true)
    (kp_House : PySem.W.keepIn K (.ref cHouse) = true)
    (pg_House : PySem.W.plainGet K cHouse Str.empty = true)
    (hd_House : PySem.W.hasDictIn K cHouse = true)
    (po_House : PySem.W.plainOver K cHouse = true)
    (f_House_setattr : PySem.W.findIn K (.ref cHouse) "__setattr__" = some (some (.builtin "object.__setattr__")))
    (f_House_hours : PySem.W.findIn K (.ref cHouse) "hours" = some none)
    (f_House_rooms_u : PySem.W.findIn K (.ref cHouse) "_rooms" = some none)
    (f_House_doors_u : PySem.W.findIn K (.ref cHouse) "_doors" = some none)
    (f_House_stays_u : PySem.W.findIn K (.ref cHouse) "_stays" = some none)
    (m_House_rooms : MetF K cHouse "rooms" "House.rooms" sHouse_rooms)
    (m_House_doors : MetF K cHouse "doors" "House.doors" sHouse_doors)
    (m_House_stays : MetF K cHouse "stays" "House.stays" sHouse_stays)
    (m_House_use : MetF K cHouse "use" "House.use" sHouse_use)
    (m_House_least : MetF K cHouse "least" "House.least" sHouse_least)
    (m_House__wants : MetF K cHouse "_wants" "House._wants" sHouse__wants)
    (d__check_counts : DefF K "_check_counts" s_check_counts)
    (d__check_parts : DefF K "_check_parts" s_check_parts)
    (d__room_can_be : DefF K "_room_can_be" s_room_can_be)
    (d__door_can_be : DefF K "_door_can_be" s_door_can_be)
    (d__stay_can_be : DefF K "_stay_can_be" s_stay_can_be)
    (aT_numbers_can_be : PySem.W.tabIn K "_numbers_can_be" = some (cN_numbers_can_be, tN_numbers_can_be))
    (nc_numbers_can_be : CodF K "_numbers_can_be" s_numbers_can_be cN_numbers_can_be)
    (g_MOST_HOURS : PySem.W.nsIn K mainGlobals "MOST_HOURS" = some (some (.int 12 tMOST_HOURS)))
    (g_MOST_ROOMS : PySem.W.nsIn K mainGlobals "MOST_ROOMS" = some (some (.int 6 tMOST_ROOMS)))
    (g_MOST_DOORS : PySem.W.nsIn K mainGlobals "MOST_DOORS" = some (some (.int 8 tMOST_DOORS)))
    (g_MOST_STAYS : PySem.W.nsIn K mainGlobals "MOST_STAYS" = some (some (.int 20 tMOST_STAYS)))
    (g_MOST_NUMBER : PySem.W.nsIn K mainGlobals "MOST_NUMBER" = some (some (.int 999 tMOST_NUMBER)))
    (z_all : PySem.W.nsIn K mainGlobals "all" = some none)
    (z_len : PySem.W.nsIn K mainGlobals "len" = some none)
    (z_max : PySem.W.nsIn K mainGlobals "max" = some none)
    (z_sum : PySem.W.nsIn K mainGlobals "sum" = some none)
    (z_list : PySem.W.nsIn K mainGlobals "list" = some none)
    (z_enumerate : PySem.W.nsIn K mainGlobals "enumerate" = some none)
    (d__law_begun : DefF K "_law_begun" s_law_begun)
    (d__law_take : DefF K "_law_take" s_law_take)
    (z_int : PySem.W.nsIn K mainGlobals "int" = some none)
    (z_bool : PySem.W.nsIn K mainGlobals "bool" = some none)
    (z_str : PySem.W.nsIn K mainGlobals "str" = some none)
    (z_tuple : PySem.W.nsIn K mainGlobals "tuple" = some none)
    (z_isinstance : PySem.W.nsIn K mainGlobals "isinstance" = some none)
    (z_range : PySem.W.nsIn K mainGlobals "range" = some none)
    (d__law_stay : DefF K "_law_stay" s_law_stay)
    (d__law_house : DefF K "_law_house" s_law_house)
    (z_min : PySem.W.nsIn K mainGlobals "min" = some none)
    (a_COUNTS : PySem.W.nsIn K mainGlobals "COUNTS" = some (some (.ref cCOUNTS)))
    (a_SORTS : PySem.W.nsIn K mainGlobals "SORTS" = some (some (.ref cSORTS)))
    (kd_C : K.lookup cCOUNTS = some ⟨.type "dict", none, .dict (counts4 hC1 hC2 hC3 hC4 tC1 tC2 tC3 tC4 uC1 uC2 uC3 uC4).toArray nC, #[]⟩)
    (kl_C : PySem.W.KeysLit w.params (counts4 hC1 hC2 hC3 hC4 tC1 tC2 tC3 tC4 uC1 uC2 uC3 uC4))
    (lo_C : (cCOUNTS == sysModules) = false)
    (ks_S : K.lookup cSORTS = some ⟨.type "tuple", none, .seq #[.str "hours" tS1, .str "room" tS2, .str "door" tS3, .str "stay" tS4] nS, slS⟩)
    (aT_is_row : PySem.W.tabIn K "_is_row" = some (cN_is_row, tN_is_row))
    (nc_is_row : CodF K "_is_row" s_is_row cN_is_row)
    (d__is_number : DefF K "_is_number" s_is_number)
    (g_MOST_FIGURES : PySem.W.nsIn K mainGlobals "MOST_FIGURES" = some (some (.int 4 tMOST_FIGURES)))
    (e_BadText : ErrF K cBadText "BadText.__init__" sBadText_init)
    (xL_BadText : K.lookup cBadText = some (excClassObj nm_BadText qb_BadText cBadText Nb_BadText bs_BadText bm_BadText true sn_BadText sub_BadText ab_BadText col_BadText dd_BadText m0_BadText m1_BadText m2_BadText m3_BadText m5_BadText "ValueError.__new__"))
    (xR_BadText : PySem.HandSPX.refsVE bm_BadText = true)
    (f_BadText_setattr : PySem.W.findIn K (.ref cBadText) "__setattr__" = some (some (.builtin "object.__setattr__")))
    (st_BadText_BaseException : PySem.W.subIn K (.ref cBadText) (.type "BaseException") = some true)
    (ty_BadText : PySem.W.typeIn K (.ref cBadText) = some (.type "type"))
    (kp_BadText : PySem.W.keepIn K (.ref cBadText) = true)
    (f_BadText_row : PySem.W.findIn K (.ref cBadText) "row" = some none)
    (d_read : DefF K "read" sread)
    (d__law_lines : DefF K "_law_lines" s_law_lines)
    (d__law_refused : DefF K "_law_refused" s_law_refused)
    (d__law_none : DefF K "_law_none" s_law_none)
    (st_AirError_BaseException : PySem.W.subIn K (.ref cAirError) (.type "BaseException") = some true)
    (ic_AirError : PySem.W.isClsIn K cAirError = true)
    (ty_AirError : PySem.W.typeIn K (.ref cAirError) = some (.type "type"))
    (sb_BadText_AirError : PySem.W.subIn K (.ref cBadText) (.ref cAirError) = some true)
    (f_BadText_getattribute : PySem.W.findIn K (.ref cBadText) "__getattribute__" = some (some (.builtin "BaseException.__getattribute__")))
    (f_BadText_getattr : PySem.W.findIn K (.ref cBadText) "__getattr__" = some none)
    (f_BadText_class : PySem.W.findIn K (.ref cBadText) "__class__" = some (some (.builtin "object.__class__")))
    (sp_class : PySem.W.specialIn K (.builtin "object.__class__") "__get__" = some (some (.builtin "getset_descriptor.__get__")))
    (tk_class : PySem.W.takesIn K (.builtin "object.__class__") = some true)
    (mr_BadText : PySem.W.mroIn K cBadText (.type "object") = some true)
    (hd_BadText : PySem.W.hasDictIn K cBadText = true)
    (nt_BadText_ValueError : (Value.ref cBadText == Value.type "ValueError") = false)
    (vm_ValueError : PySem.W.kitMeta "ValueError" = true)
    (st_BadText_ValueError : PySem.W.subIn K (.ref cBadText) (.type "ValueError") = some true)
    (es_BadText : (Value.ref cBadText == Value.ref cBadText) = true)
    (ne_BadText_BadHouse : (Value.ref cBadText == Value.ref cBadHouse) = false)
    (ic_BadHouse : PySem.W.isClsIn K cBadHouse = true)
    (sb_BadText_BadHouse : PySem.W.subIn K (.ref cBadText) (.ref cBadHouse) = some false)
    (ne_BadText_BadPlan : (Value.ref cBadText == Value.ref cBadPlan) = false)
    (ic_BadPlan : PySem.W.isClsIn K cBadPlan = true)
    (ty_BadPlan : PySem.W.typeIn K (.ref cBadPlan) = some (.type "type"))
    (sb_BadText_BadPlan : PySem.W.subIn K (.ref cBadText) (.ref cBadPlan) = some false)
    (ne_BadText_Broken : (Value.ref cBadText == Value.ref cBroken) = false)
    (ic_Broken : PySem.W.isClsIn K cBroken = true)
    (ty_Broken : PySem.W.typeIn K (.ref cBroken) = some (.type "type"))
    (sb_BadText_Broken : PySem.W.subIn K (.ref cBadText) (.ref cBroken) = some false)
    (ne_BadText_NoPlan : (Value.ref cBadText == Value.ref cNoPlan) = false)
    (ic_NoPlan : PySem.W.isClsIn K cNoPlan = true)
    (ty_NoPlan : PySem.W.typeIn K (.ref cNoPlan) = some (.type "type"))
    (sb_BadText_NoPlan : PySem.W.subIn K (.ref cBadText) (.ref cNoPlan) = some false)
    (sb_BadHouse_AirError : PySem.W.subIn K (.ref cBadHouse) (.ref cAirError) = some true)
    (f_BadHouse_getattribute : PySem.W.findIn K (.ref cBadHouse) "__getattribute__" = some (some (.builtin "BaseException.__getattribute__")))
    (f_BadHouse_getattr : PySem.W.findIn K (.ref cBadHouse) "__getattr__" = some none)
    (f_BadHouse_class : PySem.W.findIn K (.ref cBadHouse) "__class__" = some (some (.builtin "object.__class__")))
    (mr_BadHouse : PySem.W.mroIn K cBadHouse (.type "object") = some true)
    (hd_BadHouse : PySem.W.hasDictIn K cBadHouse = true)
    (nt_BadHouse_ValueError : (Value.ref cBadHouse == Value.type "ValueError") = false)
    (st_BadHouse_ValueError : PySem.W.subIn K (.ref cBadHouse) (.type "ValueError") = some true)
    (ne_BadHouse_BadText : (Value.ref cBadHouse == Value.ref cBadText) = false)
    (ic_BadText : PySem.W.isClsIn K cBadText = true)
    (sb_BadHouse_BadText : PySem.W.subIn K (.ref cBadHouse) (.ref cBadText) = some false)
    (es_BadHouse : (Value.ref cBadHouse == Value.ref cBadHouse) = true)
    (ne_BadHouse_BadPlan : (Value.ref cBadHouse == Value.ref cBadPlan) = false)
    (sb_BadHouse_BadPlan : PySem.W.subIn K (.ref cBadHouse) (.ref cBadPlan) = some false)
    (ne_BadHouse_Broken : (Value.ref cBadHouse == Value.ref cBroken) = false)
    (sb_BadHouse_Broken : PySem.W.subIn K (.ref cBadHouse) (.ref cBroken) = some false)
    (ne_BadHouse_NoPlan : (Value.ref cBadHouse == Value.ref cNoPlan) = false)
    (sb_BadHouse_NoPlan : PySem.W.subIn K (.ref cBadHouse) (.ref cNoPlan) = some false)
    (z_ValueError : PySem.W.nsIn K mainGlobals "ValueError" = some none)
    (d_law : DefF K "law" slaw)
    (tn_numbers_can_be : K.lookup tN_numbers_can_be = none) (tn_is_row : K.lookup tN_is_row = none) : LamX.LawAtS l w K CX0 8 63 "_law_script" mg fa h := by
  obtain ⟨ch_numbers_can_be, ct_numbers_can_be⟩ := PySem.W.tab_of T KX tr_numbers_can_be aT_numbers_can_be
  obtain ⟨ch_is_row, ct_is_row⟩ := PySem.W.tab_of T KX tr_is_row aT_is_row
  obtain ⟨fd, hb, hF⟩ := fin_mk (P := l.prog) (w := w) KX G hfa a_BadText a_BadPlan a_Broken a_NoPlan a_BadHouse a_House a_AirError ai_rd ai_ga ai_iv e_BadHouse xL_BadHouse xR_BadHouse f_BadHouse_setattr st_BadHouse_BaseException ty_BadHouse kp_BadHouse f_BadHouse_word f_BadHouse_number i_House mk_House kp_House pg_House hd_House po_House f_House_setattr f_House_hours f_House_rooms_u f_House_doors_u f_House_stays_u m_House_rooms m_House_doors m_House_stays m_House_use m_House_least m_House__wants d__check_counts d__check_parts d__room_can_be d__door_can_be d__stay_can_be aT_numbers_can_be nc_numbers_can_be g_MOST_HOURS g_MOST_ROOMS g_MOST_DOORS g_MOST_STAYS g_MOST_NUMBER z_all z_len z_max z_sum z_list z_enumerate d__law_begun d__law_take z_int z_bool z_str z_tuple z_isinstance z_range d__law_stay d__law_house z_min a_COUNTS a_SORTS kd_C kl_C lo_C ks_S aT_is_row nc_is_row d__is_number g_MOST_FIGURES e_BadText xL_BadText xR_BadText f_BadText_setattr st_BadText_BaseException ty_BadText kp_BadText f_BadText_row d_read d__law_lines d__law_refused d__law_none st_AirError_BaseException ic_AirError ty_AirError sb_BadText_AirError f_BadText_getattribute f_BadText_getattr f_BadText_class sp_class tk_class mr_BadText hd_BadText nt_BadText_ValueError vm_ValueError st_BadText_ValueError es_BadText ne_BadText_BadHouse ic_BadHouse sb_BadText_BadHouse ne_BadText_BadPlan ic_BadPlan ty_BadPlan sb_BadText_BadPlan ne_BadText_Broken ic_Broken ty_Broken sb_BadText_Broken ne_BadText_NoPlan ic_NoPlan ty_NoPlan sb_BadText_NoPlan sb_BadHouse_AirError f_BadHouse_getattribute f_BadHouse_getattr f_BadHouse_class mr_BadHouse hd_BadHouse nt_BadHouse_ValueError st_BadHouse_ValueError ne_BadHouse_BadText ic_BadText sb_BadHouse_BadText es_BadHouse ne_BadHouse_BadPlan sb_BadHouse_BadPlan ne_BadHouse_Broken sb_BadHouse_Broken ne_BadHouse_NoPlan sb_BadHouse_NoPlan z_ValueError d_law
  refine ⟨fd, [(cN_numbers_can_be, tN_numbers_can_be), (cN_is_row, tN_is_row)], spLaw K [tN_numbers_can_be, tN_is_row], fun p hp => ?_, fun p hp => ?_, fun p hp => ?_, hb, fun H a ns hl _ hT hS => ⟨a, ns, rfl, hS, hl, fun P hP => ?_, fun _ => rfl⟩, fun base hKb hg TB => hF base hKb hg ?_ ?_⟩
  · simp only [List.mem_cons, List.mem_nil_iff, or_false] at hp
    rcases hp with e | e
    · rw [e]; exact ct_numbers_can_be
    · rw [e]; exact ct_is_row
  · simp only [List.mem_cons, List.mem_nil_iff, or_false] at hp
    rcases hp with e | e
    · rw [e]; exact tn_numbers_can_be
    · rw [e]; exact tn_is_row
  · simp only [List.mem_cons, List.mem_nil_iff, or_false] at hp
    rcases hp with e | e
    · rw [e]; exact ch_numbers_can_be
    · rw [e]; exact ch_is_row
  · simp only [List.mem_cons, List.mem_nil_iff, or_false] at hP
    rcases hP with e | e
    · rw [e]; exact ⟨#[], hT (cN_numbers_can_be, tN_numbers_can_be) (by simp), True.intro⟩
    · rw [e]; exact ⟨#[], hT (cN_is_row, tN_is_row) (by simp), True.intro⟩
  · have t := TB (cN_numbers_can_be, tN_numbers_can_be) (by simp)
    exact ⟨t.code, t.bm, t.gP⟩
  · have t := TB (cN_is_row, tN_is_row) (by simp)
    exact ⟨t.code, t.bm, t.gP⟩
end Cr
open PySem PySem.W PyProof.Rows
set_option maxRecDepth 100000 in
set_option maxHeartbeats 0 in
theorem PySem.Challenge.cw_candleroom_k12_texts_refused_holds : PySem.Challenge.rw_candleroom_k12_texts_refused.Holds := by
  w_on; o_law; k_head; (case hw => w_witness2)
  k_fill
  refine Cr.walk_tab (l := PySem.Challenge.rw_candleroom_k12_texts_refused) (n := 63) (k := 8) (CX := fun _ => L2.CX0) (x := "_law_script") rfl (by decide) rfl ⟨rfl, by decide, by decide⟩ (fun w h Y => PySem.W.kIn_of Y) ?F (fun _ _ _ _ _ z => z)
  case F =>
    intro w s₀ mg mb fa h GG KX G hmg
    refine' Cr.law_at GG.T KX G hmg ?tr_numbers_can_be ?tr_is_row ?a_BadText ?a_BadPlan ?a_Broken ?a_NoPlan ?a_BadHouse ?a_House ?a_AirError ?ai_rd ?ai_ga ?ai_iv ?e_BadHouse ?xL_BadHouse ?xR_BadHouse ?f_BadHouse_setattr ?st_BadHouse_BaseException ?ty_BadHouse ?kp_BadHouse ?f_BadHouse_word ?f_BadHouse_number ?i_House ?mk_House ?kp_House ?pg_House ?hd_House ?po_House ?f_House_setattr ?f_House_hours ?f_House_rooms_u ?f_House_doors_u ?f_House_stays_u ?m_House_rooms ?m_House_doors ?m_House_stays ?m_House_use ?m_House_least ?m_House__wants ?d__check_counts ?d__check_parts ?d__room_can_be ?d__door_can_be ?d__stay_can_be ?aT_numbers_can_be ?nc_numbers_can_be ?g_MOST_HOURS ?g_MOST_ROOMS ?g_MOST_DOORS ?g_MOST_STAYS ?g_MOST_NUMBER ?z_all ?z_len ?z_max ?z_sum ?z_list ?z_enumerate ?d__law_begun ?d__law_take ?z_int ?z_bool ?z_str ?z_tuple ?z_isinstance ?z_range ?d__law_stay ?d__law_house ?z_min ?a_COUNTS ?a_SORTS ?kd_C ?kl_C ?lo_C ?ks_S ?aT_is_row ?nc_is_row ?d__is_number ?g_MOST_FIGURES ?e_BadText ?xL_BadText ?xR_BadText ?f_BadText_setattr ?st_BadText_BaseException ?ty_BadText ?kp_BadText ?f_BadText_row ?d_read ?d__law_lines ?d__law_refused ?d__law_none ?st_AirError_BaseException ?ic_AirError ?ty_AirError ?sb_BadText_AirError ?f_BadText_getattribute ?f_BadText_getattr ?f_BadText_class ?sp_class ?tk_class ?mr_BadText ?hd_BadText ?nt_BadText_ValueError ?vm_ValueError ?st_BadText_ValueError ?es_BadText ?ne_BadText_BadHouse ?ic_BadHouse ?sb_BadText_BadHouse ?ne_BadText_BadPlan ?ic_BadPlan ?ty_BadPlan ?sb_BadText_BadPlan ?ne_BadText_Broken ?ic_Broken ?ty_Broken ?sb_BadText_Broken ?ne_BadText_NoPlan ?ic_NoPlan ?ty_NoPlan ?sb_BadText_NoPlan ?sb_BadHouse_AirError ?f_BadHouse_getattribute ?f_BadHouse_getattr ?f_BadHouse_class ?mr_BadHouse ?hd_BadHouse ?nt_BadHouse_ValueError ?st_BadHouse_ValueError ?ne_BadHouse_BadText ?ic_BadText ?sb_BadHouse_BadText ?es_BadHouse ?ne_BadHouse_BadPlan ?sb_BadHouse_BadPlan ?ne_BadHouse_Broken ?sb_BadHouse_Broken ?ne_BadHouse_NoPlan ?sb_BadHouse_NoPlan ?z_ValueError ?d_law ?tn_numbers_can_be ?tn_is_row
    (case aT_numbers_can_be => first | rfl | kernel_rfl)
    (case tr_numbers_can_be => rfl)
    (case aT_is_row => first | rfl | kernel_rfl)
    (case tr_is_row => rfl)
    (case tn_numbers_can_be => first | kernel_rfl | rfl)
    (case tn_is_row => first | kernel_rfl | rfl)
    (case a_BadText => k_is)
    (case a_BadPlan => k_is)
    (case a_Broken => k_is)
    (case a_NoPlan => k_is)
    (case a_BadHouse => k_is)
    (case a_House => k_is)
    (case a_AirError => k_is)
    (case ai_rd => k_is)
    (case ai_ga => k_is)
    (case ai_iv => k_is)
    (case e_BadHouse => (refine' Cr.ErrF.mk ?za ?zi ?zl ?zc ?zk; (case za => k_is); (case zi => k_is); (case zl => k_is); (case zc => k_is); (case zk => k_is)))
    (case xL_BadHouse => k_is)
    (case xR_BadHouse => decide +kernel)
    (case f_BadHouse_setattr => k_is)
    (case st_BadHouse_BaseException => k_is)
    (case ty_BadHouse => k_is)
    (case kp_BadHouse => k_is)
    (case f_BadHouse_word => k_is)
    (case f_BadHouse_number => k_is)
    (case i_House => (refine' Cr.MetF.mk ?za ?zi ?zl ?zc ?zk; (case za => k_is); (case zi => k_is); (case zl => k_is); (case zc => k_is); (case zk => k_is)))
    (case mk_House => k_is)
    (case kp_House => k_is)
    (case pg_House => k_is)
    (case hd_House => k_is)
    (case po_House => k_is)
    (case f_House_setattr => k_is)
    (case f_House_hours => k_is)
    (case f_House_rooms_u => k_is)
    (case f_House_doors_u => k_is)
    (case f_House_stays_u => k_is)
    (case m_House_rooms => (refine' Cr.MetF.mk ?za ?zi ?zl ?zc ?zk; (case za => k_is); (case zi => k_is); (case zl => k_is); (case zc => k_is); (case zk => k_is)))
    (case m_House_doors => (refine' Cr.MetF.mk ?za ?zi ?zl ?zc ?zk; (case za => k_is); (case zi => k_is); (case zl => k_is); (case zc => k_is); (case zk => k_is)))
    (case m_House_stays => (refine' Cr.MetF.mk ?za ?zi ?zl ?zc ?zk; (case za => k_is); (case zi => k_is); (case zl => k_is); (case zc => k_is); (case zk => k_is)))
    (case m_House_use => (refine' Cr.MetF.mk ?za ?zi ?zl ?zc ?zk; (case za => k_is); (case zi => k_is); (case zl => k_is); (case zc => k_is); (case zk => k_is)))
    (case m_House_least => (refine' Cr.MetF.mk ?za ?zi ?zl ?zc ?zk; (case za => k_is); (case zi => k_is); (case zl => k_is); (case zc => k_is); (case zk => k_is)))
    (case m_House__wants => (refine' Cr.MetF.mk ?za ?zi ?zl ?zc ?zk; (case za => k_is); (case zi => k_is); (case zl => k_is); (case zc => k_is); (case zk => k_is)))
    (case d__check_counts => (refine' Cr.DefF.mk ?za ?zl ?zc ?zk; (case za => k_is); (case zl => k_is); (case zc => k_is); (case zk => k_is)))
    (case d__check_parts => (refine' Cr.DefF.mk ?za ?zl ?zc ?zk; (case za => k_is); (case zl => k_is); (case zc => k_is); (case zk => k_is)))
    (case d__room_can_be => (refine' Cr.DefF.mk ?za ?zl ?zc ?zk; (case za => k_is); (case zl => k_is); (case zc => k_is); (case zk => k_is)))
    (case d__door_can_be => (refine' Cr.DefF.mk ?za ?zl ?zc ?zk; (case za => k_is); (case zl => k_is); (case zc => k_is); (case zk => k_is)))
    (case d__stay_can_be => (refine' Cr.DefF.mk ?za ?zl ?zc ?zk; (case za => k_is); (case zl => k_is); (case zc => k_is); (case zk => k_is)))
    (case nc_numbers_can_be => (refine' Cr.CodF.mk ?za ?zl ?zc ?zk; (case za => k_is); (case zl => k_is); (case zc => k_is); (case zk => k_is)))
    (case g_MOST_HOURS => k_is)
    (case g_MOST_ROOMS => k_is)
    (case g_MOST_DOORS => k_is)
    (case g_MOST_STAYS => k_is)
    (case g_MOST_NUMBER => k_is)
    (case z_all => k_is)
    (case z_len => k_is)
    (case z_max => k_is)
    (case z_sum => k_is)
    (case z_list => k_is)
    (case z_enumerate => k_is)
    (case d__law_begun => (refine' Cr.DefF.mk ?za ?zl ?zc ?zk; (case za => k_is); (case zl => k_is); (case zc => k_is); (case zk => k_is)))
    (case d__law_take => (refine' Cr.DefF.mk ?za ?zl ?zc ?zk; (case za => k_is); (case zl => k_is); (case zc => k_is); (case zk => k_is)))
    (case z_int => k_is)
    (case z_bool => k_is)
    (case z_str => k_is)
    (case z_tuple => k_is)
    (case z_isinstance => k_is)
    (case z_range => k_is)
    (case d__law_stay => (refine' Cr.DefF.mk ?za ?zl ?zc ?zk; (case za => k_is); (case zl => k_is); (case zc => k_is); (case zk => k_is)))
    (case d__law_house => (refine' Cr.DefF.mk ?za ?zl ?zc ?zk; (case za => k_is); (case zl => k_is); (case zc => k_is); (case zk => k_is)))
    (case z_min => k_is)
    (case a_COUNTS => k_is)
    (case a_SORTS => k_is)
    (case kd_C => k_is)
    (case kl_C => exact ⟨⟨_, _, rfl, rfl⟩, ⟨_, _, rfl, rfl⟩, ⟨_, _, rfl, rfl⟩, ⟨_, _, rfl, rfl⟩, True.intro⟩)
    (case lo_C => first | rfl | decide)
    (case ks_S => k_is)
    (case nc_is_row => (refine' Cr.CodF.mk ?za ?zl ?zc ?zk; (case za => k_is); (case zl => k_is); (case zc => k_is); (case zk => k_is)))
    (case d__is_number => (refine' Cr.DefF.mk ?za ?zl ?zc ?zk; (case za => k_is); (case zl => k_is); (case zc => k_is); (case zk => k_is)))
    (case g_MOST_FIGURES => k_is)
    (case e_BadText => (refine' Cr.ErrF.mk ?za ?zi ?zl ?zc ?zk; (case za => k_is); (case zi => k_is); (case zl => k_is); (case zc => k_is); (case zk => k_is)))
    (case xL_BadText => k_is)
    (case xR_BadText => decide +kernel)
    (case f_BadText_setattr => k_is)
    (case st_BadText_BaseException => k_is)
    (case ty_BadText => k_is)
    (case kp_BadText => k_is)
    (case f_BadText_row => k_is)
    (case d_read => (refine' Cr.DefF.mk ?za ?zl ?zc ?zk; (case za => k_is); (case zl => k_is); (case zc => k_is); (case zk => k_is)))
    (case d__law_lines => (refine' Cr.DefF.mk ?za ?zl ?zc ?zk; (case za => k_is); (case zl => k_is); (case zc => k_is); (case zk => k_is)))
    (case d__law_refused => (refine' Cr.DefF.mk ?za ?zl ?zc ?zk; (case za => k_is); (case zl => k_is); (case zc => k_is); (case zk => k_is)))
    (case d__law_none => (refine' Cr.DefF.mk ?za ?zl ?zc ?zk; (case za => k_is); (case zl => k_is); (case zc => k_is); (case zk => k_is)))
    (case st_AirError_BaseException => k_is)
    (case ic_AirError => k_is)
    (case ty_AirError => k_is)
    (case sb_BadText_AirError => k_is)
    (case f_BadText_getattribute => k_is)
    (case f_BadText_getattr => k_is)
    (case f_BadText_class => k_is)
    (case sp_class => k_is)
    (case tk_class => k_is)
    (case mr_BadText => k_is)
    (case hd_BadText => k_is)
    (case nt_BadText_ValueError => first | rfl | decide)
    (case vm_ValueError => first | rfl | decide +kernel)
    (case st_BadText_ValueError => k_is)
    (case es_BadText => first | rfl | decide)
    (case ne_BadText_BadHouse => first | rfl | decide)
    (case ic_BadHouse => k_is)
    (case sb_BadText_BadHouse => k_is)
    (case ne_BadText_BadPlan => first | rfl | decide)
    (case ic_BadPlan => k_is)
    (case ty_BadPlan => k_is)
    (case sb_BadText_BadPlan => k_is)
    (case ne_BadText_Broken => first | rfl | decide)
    (case ic_Broken => k_is)
    (case ty_Broken => k_is)
    (case sb_BadText_Broken => k_is)
    (case ne_BadText_NoPlan => first | rfl | decide)
    (case ic_NoPlan => k_is)
    (case ty_NoPlan => k_is)
    (case sb_BadText_NoPlan => k_is)
    (case sb_BadHouse_AirError => k_is)
    (case f_BadHouse_getattribute => k_is)
    (case f_BadHouse_getattr => k_is)
    (case f_BadHouse_class => k_is)
    (case mr_BadHouse => k_is)
    (case hd_BadHouse => k_is)
    (case nt_BadHouse_ValueError => first | rfl | decide)
    (case st_BadHouse_ValueError => k_is)
    (case ne_BadHouse_BadText => first | rfl | decide)
    (case ic_BadText => k_is)
    (case sb_BadHouse_BadText => k_is)
    (case es_BadHouse => first | rfl | decide)
    (case ne_BadHouse_BadPlan => first | rfl | decide)
    (case sb_BadHouse_BadPlan => k_is)
    (case ne_BadHouse_Broken => first | rfl | decide)
    (case sb_BadHouse_Broken => k_is)
    (case ne_BadHouse_NoPlan => first | rfl | decide)
    (case sb_BadHouse_NoPlan => k_is)
    (case z_ValueError => k_is)
    (case d_law => (refine' Cr.DefF.mk ?za ?zl ?zc ?zk; (case za => k_is); (case zl => k_is); (case zc => k_is); (case zk => k_is)))
