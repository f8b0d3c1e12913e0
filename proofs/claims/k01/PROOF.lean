import PyProof.Rows.All
import Wide.All
import OpenK.AllK
import Wide.FinOn
import KE.KExcIs
import PyProof.GenCompD
import KE.DataMinMax
import HandS.ForMost
import HandS.Exc
import HandS.TryOnly
import HandS.ExcOwn
import HandS.WordsExc
import HandS.ExcInit
import HandS.ExcIs
import HandS.ExcField
import HandS.IsInst
import HandS.FStr
import HandS.AnyAll
import HandS.SortKw
import HandS.CallSlots
import HandS.EndTab
import PySem.Challenge.RW_candleroom_k01_houses_refused
set_option Elab.async false
set_option linter.all false
set_option maxRecDepth 100000
set_option maxHeartbeats 4000000
/-! Further rules: max with a default, max of a tuple, the base's __init__ of an own error, all of a test over a tuple of ints, a class made in a try -/
namespace Cr
open PySem PySem.Spec PyProof.Rows L2

theorem dpAll_ints {K : PySem.W.Frag} {H : Hp} : ∀ ns : List Int, DpAll K H (ns.map V.int) (ns.map PyData.int)
  | [] => .nil
  | n :: r => .cons (.int n) (dpAll_ints r)
theorem alike_ints (ns : List Int) : PySem.W.AlikeAll (ns.map PyData.int) := by
  refine ⟨fun x hx y hy => ?_, fun x hx => ?_⟩
  · obtain ⟨i, _, rfl⟩ := List.mem_map.mp hx
    obtain ⟨j, _, rfl⟩ := List.mem_map.mp hy
    rfl
  · obtain ⟨i, _, rfl⟩ := List.mem_map.mp hx
    intro h
    cases h
theorem depth_ints : ∀ ns : List Int, PyData.depthAll (ns.map PyData.int) ≤ 1
  | [] => by simp [PyData.depthAll]
  | n :: r => by
    have ih := depth_ints r
    rw [List.map_cons]
    simp only [PyData.depthAll, PyData.depth]
    omega
theorem reads_int {h : Heap} {v : Value} {i : Int} {as : List Addr} (r : Reads h v (.int i) as) : ∃ t, v = .int i t := by
  cases r with
  | int i t => exact ⟨t, rfl⟩
section
variable {X : Cx}
/-- max(xs, default=d) of a list of ints -/
def rMaxDf (K : PySem.W.Frag) : List V → List V → Hp → VK → Prop := fun vs zs H Q => ∃ (a : Addr) (ns : List Int) (d : V), vs = [.ref a] ∧ zs = [d] ∧ SqL K H a (ns.map V.int) ∧ (ns = [] → Q d H) ∧ ∀ n r, ns = n :: r → Q (.int (r.foldl max n)) H
theorem cr_maxDf (hc : X.calm = true) (hu : X.A.units + 64 < cLine) : CallRK X (.builtin "max") [("default" : Str)] (rMaxDf X.K) := by
  intro pins s σ H xs zs us ws Q I r1 r2 h
  obtain ⟨a, ns, d, rfl, rfl, hs, h0, h1⟩ := h
  obtain ⟨its, rv, hl, _⟩ := I.list hs
  rw [Vals.ref1 r1]
  obtain ⟨u, rfl, ru⟩ := vals1 r2
  obtain ⟨as, hr⟩ := Dp.readsAll I (ns.map .int) _ its (dpAll_ints ns) rv
  have hd := depth_ints ns
  show wpAny _ _ (call (.builtin "max") [.ref a] [(Str.ofString "default", u)]) _ _ _
  refine PySem.W.max_list_default (I.ok.hd hc) hl.isList (by simpa using hr) (alike_ints ns) (by omega) (fun e h' tk k => ?_) (fun y ys i v h' tk bs e hv hrd k => ?_)
  · exact ⟨d, H, I.kept k, ru, h0 (List.map_eq_nil_iff.mp e)⟩
  · cases ns with
    | nil => cases e
    | cons n r =>
      obtain ⟨rfl, rfl⟩ := List.cons.inj e
      rw [PySem.W.maxD_ints] at hrd
      obtain ⟨t, rfl⟩ := reads_int hrd
      exact ⟨.int _, H, I.kept k, ⟨t, rfl⟩, h1 n r rfl⟩
/-- max(t) of a tuple of ints -/
def rMaxT (K : PySem.W.Frag) : List V → Hp → VK → Prop := fun vs H Q => ∃ (a : Addr) (n : Int) (r : List Int), vs = [.ref a] ∧ SqT K H a ((n :: r).map V.int) ∧ Q (.int (r.foldl max n)) H
theorem cr_maxT (hc : X.calm = true) (hu : X.A.units + 64 < cLine) : CallR X (.builtin "max") (rMaxT X.K) := by
  intro pins s σ H xs us Q I r1 h
  obtain ⟨a, n, r, rfl, hs, h1⟩ := h
  obtain ⟨its, rv, ht, _⟩ := I.tuple hs
  rw [Vals.ref1 r1]
  obtain ⟨as, hr⟩ := Dp.readsAll I ((n :: r).map .int) _ its (dpAll_ints (n :: r)) rv
  have hd := depth_ints (n :: r)
  obtain ⟨o, ho, hc1, m, hd1⟩ := ht
  refine PySem.W.max_tuple_data (x := .int n) (xs := r.map .int) (I.ok.hd hc) ⟨o, ho, hc1, ⟨m, hd1⟩⟩ (by simpa using hr) (alike_ints (n :: r)) (by rw [List.map_cons] at hd; omega) (fun i v h' tk bs hv hrd k => ?_)
  rw [PySem.W.maxD_ints] at hrd
  obtain ⟨t, rfl⟩ := reads_int hrd
  exact ⟨.int _, H, I.kept k, ⟨t, rfl⟩, h1⟩
end

/-! ### the base's __init__ -/
/-- what the written part says of a base class of own errors whose __init__ is ValueError's -/
structure BaseI (K : PySem.W.Frag) (C : Addr) (mc : Value) : Prop where
  rd : PySem.W.readsIn K C mc = true
  ga : PySem.W.specialIn K (.ref C) "__getattribute__" = some (some (.builtin "type.__getattribute__"))
  iv : PySem.W.findCls K (.ref C) mc "__init__" = some (.val (.builtin "ValueError.__init__"))
section
variable {X : Cx} {e : Expr} {es : List Expr} {ta : TA} {x : Str} {p1 p2 pos : Pos} {C : Addr} {mc : Value}
theorem pe_baseinit {pl : Sem Bool} (T : BaseI X.K C mc) (hg : Gl X x) (hm : X.mg x = some (.ref C)) (ha : PA X (e :: es) ta) (hdb : (x == ("__debug__" : Str)) = false := by decide)
    (hc : eval (.Call (.Attribute (.Name x p1) "__init__" p2) (e :: es) [] pos) X.env = (do
      let ov ← eval (.Name x p1) X.env
      standAt p2.atName
      let (f, first) ← holding [ov] (getMethod ov "__init__" pl)
      callWith pos f first (backTo pos (starEach (e :: es) X.env)) (backToKw pos (keywordEach [] X.env))) := by rfl)
    (he : starEach (e :: es) X.env = (false, eval e X.env) :: starEach es X.env := by rfl) (hpl : (backTo pos (starEach es X.env)).any (·.1) = false := by rfl) :
    PE X (.Call (.Attribute (.Name x p1) "__init__" p2) (e :: es) [] pos) (tVeI X.K ta) := by
  refine ⟨fun pins s σ H Q I h => ?_⟩
  refine PySem.W.methodCall_KW (ld_glob I hg hm ?_ hdb) hc
  refine PySem.W.method_cls I.kIn T.ga (PySem.W.cls_value I.kIn T.rd T.iv (by decide) (PyProof.Rows.callWith_method1 (thn (ha.run pos pins _ σ H _ (I.tok _) h) ?_) he hpl))
  rintro us s1 ⟨_, H1, I1, r1, a, D, ws, rfl, hl, O, ea, q⟩
  cases r1 with
  | cons ra rest =>
    cases ra
    exact oinit_ok O I1 ea (by have := Paired.length rest; rw [sizeLine_eq]; omega) fun s' J => ⟨.non, H1, J, rfl, q⟩
end

/-! ### a class made where what is raised is wished for at the slots (in a try) -/
section
variable {X : Cx} {CX : CXT} {k : Nat} {f C : Addr} {fd : FuncData} {ps : List Str} {sp : Sp} {dvs : List V} {ds : List Value} {E : L2.St → XK} {x : Str} {p pos : Pos} {e : Expr} {es : List Expr} {t : TA}
def tMakeS (C : Addr) (sp : Sp) (dvs : List V) (E : L2.St → XK) (t : TA) : TE := fun σ H Q => t σ H fun vs H1 => ∀ x dx, H1 x = none → H1 dx = none → dx ≠ x →
  sp (.ref x :: (vs ++ dvs)) (upd (upd H1 dx (.own x)) x (.ins C dx [])) (fun v H2 => v = .non ∧ Q (.ref x) H2) (E σ)
theorem pe_makeS (M : Mk X.K C f) (F : FnOk X.prog X.w X.K X.mg X.base CX k f fd ps sp) (hr : Room (k + 1) X.A) (hg : Gl X x) (hm : X.mg x = some (.ref C)) (hb : Binds X.K fd ps ds) (hd : Vals dvs ds) (hx : ∀ σ, PassesAt CX X σ (E σ))
    (ha : PA X (e :: es) t) (hdb : (x == ("__debug__" : Str)) = false := by decide) (he : starEach (e :: es) X.env = (false, eval e X.env) :: starEach es X.env := by rfl) (hpl : (backTo pos (starEach es X.env)).any (·.1) = false := by rfl) :
    PE X (.Call (.Name x p) (e :: es) [] pos) (tMakeS C sp dvs E t) := by
  refine ⟨fun pins s σ H Q I h => ?_⟩
  refine wpAny_Call_Name_kw (ld_glob I hg hm ?_ hdb)
  refine PySem.W.callWith_K (h₀ := X.base) I.ok.mod.kin M.kp (thn (ha.run pos pins s σ H _ I h) fun us s1 ⟨vs, H1, I1, r, q⟩ => ⟨I1.kIn, ?_⟩) he hpl
  have hq := q (s1.heap.objs.size + 1) s1.heap.objs.size (I1.hok.fresh (Nat.le_succ _)) (I1.hok.fresh (Nat.le_refl _)) (Nat.ne_of_lt (Nat.lt_succ_self _))
  have I2 := Inv.made (C := C) I1
  have r2 : Vals (V.ref (s1.heap.objs.size + 1) :: (vs ++ dvs)) (Value.ref (s1.heap.objs.size + 1) :: (us ++ ds)) := .cons rfl (r.append hd)
  have hl : (Value.ref (s1.heap.objs.size + 1) :: us ++ ds).length = ps.length := by
    have e := r2.length
    rw [F.len _ _ _ _ hq] at e
    exact e.symm
  refine wpAny_call (make_map (f := f) I1.kIn M.makes M.init (beq_iff_eq.mp M.fn) (codeAny_mono (F.run _ X.stack _ _ ⟨Value.ref (s1.heap.objs.size + 1) :: us, []⟩ (Value.ref (s1.heap.objs.size + 1) :: (us ++ ds)) _ _ (E σ) (hr.make C us [])
    (I2.env0.make C us []) (hb _ (Value.ref (s1.heap.objs.size + 1) :: us) I2.kIn hl) r2 hq) fun r s' hq' => ?_))
  cases r with
  | error e => exact hx σ pins _ _ e s' I2 hq'
  | ok fl =>
    cases fl with
    | ret u =>
      obtain ⟨v, H', I3, rv, ev, q3⟩ := I2.after hq'
      subst ev
      exact ⟨rv, ⟨V.ref (s1.heap.objs.size + 1), H', I3, rfl, q3⟩⟩
    | next => exact False.elim hq'
    | brk => exact False.elim hq'
    | cont => exact False.elim hq'
end
end Cr
set_option Elab.async false
set_option linter.all false
set_option maxRecDepth 100000
set_option maxHeartbeats 4000000
/-! all(test for x in xs): one rule, whatever xs is (a list, a tuple), for tests that only look -/
namespace Cr
open PySem PySem.Spec PyProof.Rows L2

/-- what the object at a gives to whoever walks over it: C says that it stands, T where its walker is -/
structure Src (prog : Program) (w : World) (a : Addr) (items : Array Value) (it : Obj) (C : Heap → Prop) (T : Nat → Heap → Addr → Prop) : Prop where
  begins : ∀ {A : Around} {s : Shared} {Q E : Value → Shared → Prop}, C s.heap → Q (.ref s.heap.objs.size) { s with heap := s.heap.push it } → wpAny (model prog w) A (pyIter (.ref a)) Q E s
  walks : ∀ (A : Around) (I : Addr), A.handled = none → a ≠ I → Walks prog w A I [I, a] [I] items.size (fun i v => items[i]? = some v) (fun i h => T i h I ∧ C h)
  first : ∀ h : Heap, T 0 (h.push it) h.objs.size
  stay : ∀ {h h' : Heap}, (∀ o, h.get? a = some o → h'.get? a = some o) → C h → C h'
  here : ∀ h, C h → ∃ o, h.get? a = some o ∧ ∀ vs, o.data ≠ .fields vs
variable {prog : Program} {w : World} {a : Addr} {items : Array Value}
theorem src_list : Src prog w a items { cls := .type "list_iterator", data := .fields #[.ref a, .int 0 0] } (fun h => h.IsList a items) (fun i h I => h.IsListIter I a i) where
  begins hc hq := wpAny_pyIter_list hc hq
  walks A I hA hne := Walks.list hA I a hne items
  first h := ⟨_, Heap.get?_push_size _ rfl, rfl, rfl⟩
  stay k hc := hc.at k
  here := fun h ⟨o, e, _, _, hd⟩ => ⟨o, e, fun vs z => by rw [hd] at z; cases z⟩
theorem src_tup : Src prog w a items { cls := .type "tuple_iterator", data := .fields #[.ref a, .int 0 0] } (fun h => h.IsTuple a items) (fun i h I => h.IsTupleIter I a i) where
  begins hc hq := wpAny_pyIter_tuple hc hq
  walks A I hA hne := Walks.tuple hA I a hne items
  first h := ⟨_, Heap.get?_push_size _ rfl, rfl, rfl⟩
  stay k hc := hc.at k
  here := fun h ⟨o, e, _, _, hd⟩ => ⟨o, e, fun vs z => by rw [hd] at z; cases z⟩

/-- from h to h' all stands but the table at P, which has grown by whole entries -/
structure Since (P : Addr) (ps : Array Value) (h h' : Heap) : Prop where
  up : ∀ b u, b ≠ P → h.get? b = some u → h'.get? b = some u
  tab : ∃ more, h'.get? P = some { cls := .none, data := .fields (ps ++ more) } ∧ TriplesOk (ps ++ more).toList
  size : h.objs.size ≤ h'.objs.size
section
variable {X : Cx} {pins : List (Addr × Obj)} {σ : L2.St} {H : Hp} {s : Shared} {c P : Addr} {ps : Array Value}
/-- the generator's code: it stands in the table, or is put there -/
theorem code_made {pos : Pos} {q : Str} {scope : Scope} {Q E : Value → Shared → Prop} (hcode : X.env.code = .ref c) (hd : PySem.W.CodeHd s.heap c P) (hP : s.heap.get? P = some { cls := .none, data := .fields ps }) (ht : TriplesOk ps.toList)
    (hQ : ∀ v h' tk, Since P ps s.heap h' → Q v { s with heap := h', toks := tk }) : wpAny (model X.prog X.w) X.A (genexprCode X.env pos q scope) Q E s := by
  match e : codeAmong pos ps.toList with
  | some v => exact wpAny_genexprCode_hit hcode (hd.code hP ht) e (hQ v s.heap s.toks ⟨fun _ _ _ z => z, ⟨#[], by simpa using hP, by simpa using ht⟩, Nat.le_refl _⟩)
  | none =>
    refine wpAny_genexprCodeX hcode (hd.code hP ht) (hd.tab hP) e fun c' h' tk up lo hi isC _ tab _ => hQ _ h' tk ⟨up, ⟨_, tab.2, ?_⟩, by omega⟩
    obtain ⟨_, _, _, _, _, _, _, _, _, _, _, _, _, _, _, _, _, _, _, tri, _⟩ := isC
    exact tri
/-- where a test runs: the names around it, and what stands of what was -/
structure Seen (X : Cx) (P : Addr) (scope : Scope) (cenv : Env) (s₁ s₂ : Shared) : Prop where
  sc : cenv.scope = scope
  gl : cenv.globals = mainGlobals
  bl : cenv.builtins = builtinsNs
  cells : cenv.cells = cloFrom X.env.cells scope.names []
  up : ∀ b u, b ≠ P → s₁.heap.get? b = some u → s₂.heap.get? b = some u
/-- the test looks at the item at place j and tells tr j -/
def Looks (X : Cx) (P : Addr) (scope : Scope) (x : Str) (elt : Expr) (s₁ : Shared) (vs : List V) (tr : Nat → Bool) : Prop :=
  ∀ (cenv : Env) (A : Around) (E : Value → Shared → Prop) (j : Nat) (v : V) (u : Value) (s₂ : Shared) (m : Str → Option Value), A.depth ≤ X.A.depth + 1 → Seen X P scope cenv s₁ s₂ → vs[j]? = some v → RelV v u →
    s₂.heap.Ns cenv.locals m → m x = some u → wpAny (model X.prog X.w) A (eval elt cenv) (fun y s₃ => y = .bool (tr j) ∧ Keeps s₂ s₃) E s₂
/-- the table is none of the things that the program's head has left -/
theorem tab_apart (I : Inv X pins σ H s) (hP : H P = some (.tbl ps)) {b : Addr} {u : Obj} (e : X.base.get? b = some u) : b ≠ P := fun z => by
  cases (show H P = none from z ▸ (I.bs b u e).2).symm.trans hP
theorem Seen.base {scope : Scope} {cenv : Env} {s₂ : Shared} (Z : Seen X P scope cenv s s₂) (I : Inv X pins σ H s) (hP : H P = some (.tbl ps)) {b : Addr} {u : Obj} (e : X.base.get? b = some u) : s₂.heap.get? b = some u :=
  Z.up b u (tab_apart I hP e) (I.bk b u e)
theorem Seen.globals {scope : Scope} {cenv : Env} {s₂ : Shared} (Z : Seen X P scope cenv s s₂) (I : Inv X pins σ H s) (hP : H P = some (.tbl ps)) : s₂.heap.Ns mainGlobals X.mg :=
  I.mod.glob.keeps fun _ _ => Z.base I hP
/-- a list or a tuple at v, with the items vs -/
def Walked (K : PySem.W.Frag) (H : Hp) (v : V) (vs : List V) : Prop := ∃ a, v = .ref a ∧ (SqL K H a vs ∨ SqT K H a vs)
theorem src_of (I : Inv X pins σ H s) {a : Addr} {vs : List V} (h : SqL X.K H a vs ∨ SqT X.K H a vs) :
    ∃ (items : Array Value) (it : Obj) (C : Heap → Prop) (T : Nat → Heap → Addr → Prop), Src X.prog X.w a items it C T ∧ C s.heap ∧ items.size = vs.length ∧ ∀ (i : Nat) u, items[i]? = some u → ∃ y, vs[i]? = some y ∧ RelV y u := by
  have rel : ∀ {its : List Value}, Vals vs its → ∀ (i : Nat) u, its.toArray[i]? = some u → ∃ y, vs[i]? = some y ∧ RelV y u := fun {its} rv i u e => by
    have e : its[i]? = some u := by simpa using e
    have lt := (List.getElem?_eq_some_iff.mp e).1
    rw [← rv.length] at lt
    obtain ⟨u', e', r⟩ := rv.get (List.getElem?_eq_getElem lt)
    cases e.symm.trans e'
    exact ⟨_, List.getElem?_eq_getElem lt, r⟩
  rcases h with h | h
  · obtain ⟨its, rv, hl, _⟩ := I.list h
    exact ⟨_, _, _, _, src_list, hl.isList, by rw [List.size_toArray, rv.length], rel rv⟩
  · obtain ⟨its, rv, hl, _⟩ := I.tuple h
    exact ⟨_, _, _, _, src_tup, hl, by rw [List.size_toArray, rv.length], rel rv⟩
/-- the generator is made; whoever takes it may walk it, and finds the frame as it was but for the table -/
theorem made {elt iter : Expr} {x : Str} {px pos : Pos} {scope : Scope} {te : TE} {k : Nat} {Q : Value → Shared → Prop} {κ : VK} (hr : Room k X.A) (TB : GxR.TabB X.base X.mg c P) (hcode : X.env.code = .ref c) (S : GxR.GenS X.env scope x) (hi : PE X iter te)
    (hs : ∀ v, genFold iter X.env v = pure v) (I : Inv X pins σ H s) (h : te σ H κ)
    (src : ∀ v H1, κ v H1 → ∃ vs tr, Walked X.K H1 v vs ∧ GxR.TabG H1 P ∧ (∀ ps s1, H1 P = some (.tbl ps) → Inv X pins σ H1 s1 → Looks X P scope x elt s1 vs tr) ∧
      ∀ g s5 fp wr G F St, WalksS X.prog X.w X.A.in1 g fp wr G vs.length F St → St 0 s5 → TruthOf X.prog X.w X.A.in1 F tr → (∀ s', Moved wr G s5 s' → ∃ H2, GxR.Tabbed P H1 H2 ∧ Inv X pins σ H2 s') → Q (.ref g) s5) :
    wpAny (model X.prog X.w) X.A (eval (.GeneratorExp elt [⟨.Name x px, iter, [], 0⟩] scope pos) X.env) Q X.xe s := by
  refine wpAny_GeneratorExp_walksQD hr.hd S.co (closure_ok S.free) S.cell S.dot S.loc S.kind (by have := hr.dp; omega) (thn (hi.run pins s σ H _ I h) ?_) hs
  intro u s1 ⟨v, H1, I1, r1, q⟩
  obtain ⟨vs, tr, ⟨a, rfl, hw⟩, ⟨ps, hP, ht⟩, look, fin⟩ := src v H1 q
  cases (show u = .ref a from r1)
  obtain ⟨items, it, C, T, so, hC, sz, rel⟩ := src_of I1 hw
  refine so.begins hC ⟨I1.nolimit.push it, ?_⟩
  have pAt := I1.hok P _ hP
  obtain ⟨oa, ea, na⟩ := so.here _ hC
  have aP : a ≠ P := fun z => na ps (by rw [z] at ea; cases pAt.symm.trans ea; rfl)
  have push : ∀ b u, s1.heap.get? b = some u → (s1.heap.push it).get? b = some u := fun b u e => Heap.get?_push_of_some _ e
  refine code_made hcode (TB.code.keeps fun b u e => push b u (I1.bk b u e)) (push _ _ pAt) ht fun cv h3 tk S3 => ?_
  have up : ∀ b u, b ≠ P → s1.heap.get? b = some u → h3.get? b = some u := fun b u hb e => S3.up b u hb (push b u e)
  have lt : s1.heap.objs.size < h3.objs.size := by
    have := S3.size
    rw [Heap.size_push] at this
    exact this
  have old : ∀ {b u}, s1.heap.get? b = some u → b < h3.objs.size := fun e => Nat.lt_trans (Heap.lt_size e) lt
  have fresh : ∀ {b u}, s1.heap.get? b = some u → b ≠ s1.heap.objs.size := fun e => Nat.ne_of_lt (Heap.lt_size e)
  have Z3 : ∀ {b u}, X.base.get? b = some u → h3.get? b = some u := fun {b u} e => up b u (tab_apart I1 hP e) (I1.bk b u e)
  -- the built-ins are the boot's own
  obtain ⟨bm, ob, e1, e2, _, _, e5, e6, e7, e8⟩ := TB.bm
  refine wpAny_builtinsFor (m := X.mg) (by rw [I1.ok.glob]; exact I1.mod.glob.keeps fun _ _ => Z3) e1 e2 (Z3 e5) e6 e7 e8 ?_
  obtain ⟨_, ⟨oc, _, _, ec, _⟩, _⟩ := id I1.nolimit
  have cP : cStatics ≠ P := fun z => by
    obtain ⟨_, ⟨o', _, _, e', hd, _⟩, _⟩ := id I1.nolimit
    rw [z, pAt] at e'
    cases e'
    cases hd
  have lim : h3.NoLimit := (I1.nolimit.push it).extBut S3.up cP
  have ready : T 0 h3 s1.heap.objs.size ∧ C h3 := by
    refine (so.walks X.A _ hr.hd (fresh ea)).frame 0 (s1.heap.push it) h3 ⟨so.first _, so.stay (fun o => push a o) hC⟩ fun b hb o e => S3.up b o (fun z => ?_) e
    rcases List.mem_cons.mp hb with y | y
    · exact absurd (z ▸ y) (fresh pAt)
    · exact aP (z ▸ (List.mem_singleton.mp y).symm)
  refine ⟨s1.heap.objs.size, [s1.heap.objs.size, a], [s1.heap.objs.size], items.size, _, _, fun _ => true, fun i y => y = .bool (tr i), rfl, fun A hA => so.walks A _ hA (fresh ea), ready, ?_, lim, fun z => fresh ec (List.mem_singleton.mp z), fun href keep => ⟨?_, ?_⟩, ?_⟩
  · simp only [List.mem_cons, List.not_mem_nil, or_false, forall_eq_or_imp, forall_eq]
    exact ⟨lt, old ea⟩
  · intros
    simp only [List.forIn_nil]
    exact wpAny_pure ⟨rfl, GxR.keeps_refl _⟩
  · intro A E i u s2 m _ dp _ hu _ hn hm stands
    obtain ⟨y, hy, r⟩ := rel i u hu
    refine look ps s1 hP I1 _ A E i y u s2 m dp ⟨rfl, I1.ok.glob, rfl, rfl, fun b o hb e => ?_⟩ hy r hn hm
    exact stands b (List.mem_range.mpr (old e)) (fun z => fresh e (List.mem_singleton.mp z)) o (keep b o (up b o hb e))
  · intro g h5 tk5 gs bare hg _ keep W begun
    have num : (passing (fun _ => true) items.size 0).length = vs.length := by rw [GxR.passing_true, List.length_range, sz]
    refine fin g _ _ _ _ _ _ (num ▸ W.in4_1) begun ?_ fun s' mv => ?_
    · rintro j y s6 Q6 E6 ⟨i, hi, rfl⟩ hq
      rw [GxR.passing_true] at hi
      obtain ⟨_, ej⟩ := List.getElem?_eq_some_iff.mp hi
      rw [List.getElem_range] at ej
      exact wpAny_truthy_bool (ej ▸ hq)
    · obtain ⟨more, hm, tri⟩ := S3.tab
      have far : ∀ {b u}, s1.heap.get? b = some u → b ∉ [h3.objs.size, s1.heap.objs.size] := fun e z => by
        simp only [List.mem_cons, List.not_mem_nil, or_false] at z
        rcases z with z | z
        · exact Nat.ne_of_lt (old e) z
        · exact fresh e z
      have J := GxR.inv_tab (more := more) (h' := s'.heap) (g' := s'.gens) (d' := s'.drawn) (t' := s'.toks) I1 hP (fun b u hb e => mv.heap b u (far e) (keep b u (up b u hb e))) (mv.heap P _ (far pAt) (keep P _ hm)) (AllBare.movedS (I1.bare.push bare) mv)
      exact ⟨_, ⟨⟨_, upd_same, tri⟩, fun b hb => upd_ne hb⟩, GxR.sh_eta s1 s' mv.os ▸ J⟩
/-- all(..): the built-in itself, over such a generator -/
theorem pe_all {elt iter : Expr} {x : Str} {px p pos gpos : Pos} {scope : Scope} {te t : TE} {k : Nat} (hr : Room k X.A) (hg : Gl X "all") (hm : X.mg "all" = none) (hb : bootBuiltins "all" = some (.builtin "all"))
    (TB : GxR.TabB X.base X.mg c P) (hcode : X.env.code = .ref c) (S : GxR.GenS X.env scope x) (hi : PE X iter te) (hs : ∀ v, genFold iter X.env v = pure v)
    (conv : ∀ σ H Q, t σ H Q → ∃ κ : VK, te σ H κ ∧ ∀ v H1, κ v H1 → ∃ vs tr, Walked X.K H1 v vs ∧ GxR.TabG H1 P ∧ (∀ pins ps s1, H1 P = some (.tbl ps) → Inv X pins σ H1 s1 → Looks X P scope x elt s1 vs tr) ∧ ∀ H2, GxR.Tabbed P H1 H2 → Q (.bl ((List.range vs.length).all tr)) H2)
    (he : starEach [.GeneratorExp elt [⟨.Name x px, iter, [], 0⟩] scope gpos] X.env = [(false, eval (.GeneratorExp elt [⟨.Name x px, iter, [], 0⟩] scope gpos) X.env)]) :
    PE X (.Call (.Name "all" p) [.GeneratorExp elt [⟨.Name x px, iter, [], 0⟩] scope gpos] [] pos) t := by
  refine ⟨fun pins s σ H Q I h => wpAny_Call_Name_kw (ld_blt I hg hm hb (PyProof.Rows.callWith_builtin1 ?_ he (by rfl)))⟩
  obtain ⟨κ, hκ, out⟩ := conv σ H Q h
  rw [he]
  refine Calls.spliced_cons (made hr TB hcode S hi hs I hκ fun v H1 q => ?_)
  obtain ⟨vs, tr, hw, hT, look, fin⟩ := out v H1 q
  refine ⟨vs, tr, hw, hT, look pins, fun g s5 fp wr G F St W st truth back => Calls.spliced_nil (call_all_walkS (W.self 0 _ _ _ st ⟨g, fp, wr, G, vs.length, F, St, tr, rfl, W, st, truth, fun s' mv => ?_⟩))⟩
  obtain ⟨H2, hT2, J⟩ := back s' mv
  exact ⟨.bl _, H2, J, rfl, fin H2 hT2⟩
end
theorem all_range {α : Type} (l : List α) (p : α → Bool) (t : Nat → Bool) (h : ∀ j x, l[j]? = some x → t j = p x) : (List.range l.length).all t = l.all p := by
  rw [Bool.eq_iff_iff, List.all_eq_true, List.all_eq_true]
  refine ⟨fun a x hx => ?_, fun a j hj => ?_⟩
  · obtain ⟨j, hj, rfl⟩ := List.getElem_of_mem hx
    rw [← h j _ (List.getElem?_eq_getElem hj)]
    exact a j (List.mem_range.mpr hj)
  · have hj' := List.mem_range.mp hj
    rw [h j _ (List.getElem?_eq_getElem hj')]
    exact a _ (List.getElem_mem hj')
/-- a test of items that is no matter of places -/
def byItem (l : List V) (pb : V → Bool) (j : Nat) : Bool := ((l[j]?).map pb).getD false
theorem byItem_at {l : List V} {pb : V → Bool} {j : Nat} {v : V} (h : l[j]? = some v) : byItem l pb j = pb v := by simp [byItem, h]
theorem all_byItem (l : List V) (pb : V → Bool) : (List.range l.length).all (byItem l pb) = l.all pb := all_range l pb _ fun _ _ e => byItem_at e
/-- the element: a test of an item that asks only the item and the module's names -/
def EltV (X : Cx) (scope : Scope) (x : Str) (elt : Expr) (Pz : V → Prop) (pb : V → Bool) : Prop :=
  ∀ (cenv : Env) (A' : Around) (E' : Value → Shared → Prop) (v : V) (u : Value) (s₂ : Shared) (m₂ : Str → Option Value), cenv.scope = scope → cenv.globals = mainGlobals → s₂.heap.Ns mainGlobals X.mg → Pz v → RelV v u → s₂.heap.Ns cenv.locals m₂ → m₂ x = some u →
    wpAny (model X.prog X.w) A' (eval elt cenv) (fun y s₃ => y = .bool (pb v) ∧ Keeps s₂ s₃) E' s₂
/-- lo <= x <= N, N a number of the module -/
theorem elt_between {X : Cx} {scope : Scope} {x g : Str} {lo hi : Int} {tk : Tok} {j : Nat} {p1 p2 p3 p4 : Pos} (hk : scope.kind = .function) (hl : scope.names.lookup x = some .local) (hgl : scope.names.lookup g = some .globalImplicit) (hm : X.mg g = some (.int hi tk))
    (hd : (x == ("__debug__" : Str)) = false := by decide) (hd2 : (g == ("__debug__" : Str)) = false := by decide) :
    EltV X scope x (.Compare (.Constant (.int lo) j p1) [.LtE, .LtE] [.Name x p2, .Name g p3] p4) (fun v => ∃ i, v = .int i) (fun v => match v with | .int i => decide (lo ≤ i) && decide (i ≤ hi) | _ => false) := by
  intro cenv A' E' v u s₂ m₂ hs hgl' hns hz ru hn hx
  obtain ⟨i, rfl⟩ := hz
  obtain ⟨t, rfl⟩ := ru
  have kk : ∀ k : Nat, Keeps s₂ { s₂ with toks := k } := fun k => ⟨s₂.heap, k, rfl, fun _ _ e => e⟩
  have hkf : cenv.scope.kind = .function := hs ▸ hk
  refine Compare_chain (wpAny_Constant_int (chain_link (wpAny_Name (wpAny_loadName_local hkf (show cenv.scope.names.lookup x = _ from hs ▸ hl) hn hx (PyProof.Rows.le_int (wpAny_truthy_bool ?_))) hd))) (by with_unfolding_all rfl)
  by_cases h1 : lo ≤ i
  · rw [decide_eq_true h1]
    refine ite_tt (chain_last (Calls.Name_function_global hkf (show cenv.scope.names.lookup g = _ from hs ▸ hgl) (Calls.loadGlobal_global (hgl' ▸ hns) hm (PyProof.Rows.le_int ⟨?_, kk _⟩)) hd2))
    simp [h1]
  · rw [decide_eq_false h1]
    refine ite_ff ⟨?_, kk _⟩
    simp [h1]
/-- all(test for x in e), e a tuple; behind it the def's table may have grown -/
def tAllT (K : PySem.W.Frag) (P : Addr) (Pz : V → Prop) (pb : V → Bool) (te : TE) : TE := fun σ H Q => te σ H fun v H1 => ∃ (a : Addr) (vs : List V), v = .ref a ∧ SqT K H1 a vs ∧ (∀ v ∈ vs, Pz v) ∧ GxR.TabG H1 P ∧ ∀ H2, GxR.Tabbed P H1 H2 → Q (.bl (vs.all pb)) H2
theorem pe_allT {X : Cx} {c P : Addr} {elt iter : Expr} {x : Str} {px p pos gpos : Pos} {scope : Scope} {Pz : V → Prop} {pb : V → Bool} {te : TE} {k : Nat} (hr : Room k X.A) (hg : Gl X "all") (hm : X.mg "all" = none) (hb : bootBuiltins "all" = some (.builtin "all"))
    (TB : GxR.TabB X.base X.mg c P) (hcode : X.env.code = .ref c) (S : GxR.GenS X.env scope x) (hi : PE X iter te) (hel : EltV X scope x elt Pz pb) (hs : ∀ v, genFold iter X.env v = pure v)
    (he : starEach [.GeneratorExp elt [⟨.Name x px, iter, [], 0⟩] scope gpos] X.env = [(false, eval (.GeneratorExp elt [⟨.Name x px, iter, [], 0⟩] scope gpos) X.env)] := by rfl) :
    PE X (.Call (.Name "all" p) [.GeneratorExp elt [⟨.Name x px, iter, [], 0⟩] scope gpos] [] pos) (tAllT X.K P Pz pb te) :=
  pe_all hr hg hm hb TB hcode S hi hs (fun σ H Q h => ⟨_, h, fun v H1 ⟨a, vs, ev, ht, hz, hT, q⟩ => ⟨vs, byItem vs pb, ⟨a, ev, .inr ht⟩, hT,
    fun pins ps s1 hP I1 cenv A E j y u s2 m _ Z hy r hn hmx => by
      rw [byItem_at hy]
      exact hel cenv A E y u s2 m Z.sc Z.gl (Z.globals I1 hP) (hz y (List.mem_of_getElem? hy)) r hn hmx,
    fun H2 h2 => by rw [all_byItem]; exact q H2 h2⟩⟩) he
end Cr
set_option Elab.async false
set_option linter.all false
set_option maxRecDepth 100000
set_option maxHeartbeats 4000000
/-! Calls that may raise, in short; the heaps: what is known (G) of what stands (H) -/
namespace Cr
open PySem PySem.Spec PyProof.Rows L2

/-! ### calls in short -/
section
variable {P : Program} {w : World} {K : PySem.W.Frag} {mg : Str → Option Value} {base : Heap}
/-- a def that may raise, called by its name -/
structure CalX (P : Program) (w : World) (K : PySem.W.Frag) (mg : Str → Option Value) (base : Heap) (k : Nat) (x : Str) (sp : Sp) : Prop where
  ex : ∃ (f : Addr) (fd : FuncData) (ps : List Str), FnOk P w K mg base (L2.CX P w) k f fd ps sp ∧ mg x = some (.ref f) ∧ PySem.W.keepIn K (.ref f) = true ∧ Binds K fd ps []
/-- a class that is made by its name, its __init__ raising nothing | perhaps something -/
structure Mak0 (P : Program) (w : World) (K : PySem.W.Frag) (mg : Str → Option Value) (base : Heap) (k : Nat) (x : Str) (C : Addr) (sp : Sp) : Prop where
  ex : ∃ (f : Addr) (fd : FuncData) (ps : List Str), Mk K C f ∧ FnOk P w K mg base CX0 k f fd ps sp ∧ mg x = some (.ref C) ∧ Binds K fd ps []
structure MakX (P : Program) (w : World) (K : PySem.W.Frag) (mg : Str → Option Value) (base : Heap) (k : Nat) (x : Str) (C : Addr) (sp : Sp) : Prop where
  ex : ∃ (f : Addr) (fd : FuncData) (ps : List Str), Mk K C f ∧ FnOk P w K mg base (L2.CX P w) k f fd ps sp ∧ mg x = some (.ref C) ∧ Binds K fd ps []
end
section
variable {X : Cx} {k j : Nat} {C : Addr} {x m : Str} {sp : Sp} {p pos apos : Pos} {e o : Expr} {es : List Expr} {ta : TE} {t : TA} {W : WX} {E : XK}
theorem pe_cx (c : CalX X.prog X.w X.K X.mg X.base k x sp) (hr : Room j X.A) (hk : k ≤ j) (tk : Takes X (fun cls d _ H => E cls d H)) (hg : Gl X x) (ha : PA X (e :: es) t)
    (hdb : (x == ("__debug__" : Str)) = false := by decide) (he : starEach (e :: es) X.env = (false, eval e X.env) :: starEach es X.env := by rfl) (hpl : (backTo pos (starEach es X.env)).any (·.1) = false := by rfl) :
    PE X (.Call (.Name x p) (e :: es) [] pos) (tCall sp [] E t) := by
  obtain ⟨f, fd, ps, F, hm, kp, b⟩ := c.ex
  exact pe_call F (hr.mono hk) hg hm kp b .nil (passes_call tk fun _ _ _ _ h => h) ha hdb he hpl
theorem pe_cxS (c : CalX X.prog X.w X.K X.mg X.base k x sp) (hr : Room j X.A) (hk : k ≤ j) (tk : Takes X W) (hg : Gl X x) (ha : PA X (e :: es) t)
    (hdb : (x == ("__debug__" : Str)) = false := by decide) (he : starEach (e :: es) X.env = (false, eval e X.env) :: starEach es X.env := by rfl) (hpl : (backTo pos (starEach es X.env)).any (·.1) = false := by rfl) :
    PE X (.Call (.Name x p) (e :: es) [] pos) (tCallSD sp [] (WE W) t) := by
  obtain ⟨f, fd, ps, F, hm, kp, b⟩ := c.ex
  exact pe_callSD F (hr.mono hk) hg hm kp b .nil (fun σ => passAt tk σ) ha hdb he hpl
theorem pe_mn (c : Mak0 X.prog X.w X.K X.mg X.base k x C sp) (hr : Room j X.A) (hk : k + 1 ≤ j) (hg : Gl X x) (ha : PA X (e :: es) t)
    (hdb : (x == ("__debug__" : Str)) = false := by decide) (he : starEach (e :: es) X.env = (false, eval e X.env) :: starEach es X.env := by rfl) (hpl : (backTo pos (starEach es X.env)).any (·.1) = false := by rfl) :
    PE X (.Call (.Name x p) (e :: es) [] pos) (tMake C sp [] E0 t) := by
  obtain ⟨f, fd, ps, M, F, hm, b⟩ := c.ex
  exact pe_make M F (hr.mono hk) hg hm b .nil pass0 ha hdb he hpl
theorem pe_mx (c : MakX X.prog X.w X.K X.mg X.base k x C sp) (hr : Room j X.A) (hk : k + 1 ≤ j) (tk : Takes X (fun cls d _ H => E cls d H)) (hg : Gl X x) (ha : PA X (e :: es) t)
    (hdb : (x == ("__debug__" : Str)) = false := by decide) (he : starEach (e :: es) X.env = (false, eval e X.env) :: starEach es X.env := by rfl) (hpl : (backTo pos (starEach es X.env)).any (·.1) = false := by rfl) :
    PE X (.Call (.Name x p) (e :: es) [] pos) (tMake C sp [] E t) := by
  obtain ⟨f, fd, ps, M, F, hm, b⟩ := c.ex
  exact pe_make M F (hr.mono hk) hg hm b .nil (passes_call tk fun _ _ _ _ h => h) ha hdb he hpl
theorem pe_mxS (c : MakX X.prog X.w X.K X.mg X.base k x C sp) (hr : Room j X.A) (hk : k + 1 ≤ j) (tk : Takes X W) (hg : Gl X x) (ha : PA X (e :: es) t)
    (hdb : (x == ("__debug__" : Str)) = false := by decide) (he : starEach (e :: es) X.env = (false, eval e X.env) :: starEach es X.env := by rfl) (hpl : (backTo pos (starEach es X.env)).any (·.1) = false := by rfl) :
    PE X (.Call (.Name x p) (e :: es) [] pos) (tMakeS C sp [] (WE W) t) := by
  obtain ⟨f, fd, ps, M, F, hm, b⟩ := c.ex
  exact pe_makeS M F (hr.mono hk) hg hm b .nil (fun σ => passAt tk σ) ha hdb he hpl
/-- a raising __init__ called in a def where a class may raise where no exception leaves: the caller promises that none does -/
theorem pe_mx0 (c : MakX X.prog X.w X.K X.mg X.base k x C sp) (hr : Room j X.A) (hk : k + 1 ≤ j) (hg : Gl X x) (ha : PA X (e :: es) t)
    (hdb : (x == ("__debug__" : Str)) = false := by decide) (he : starEach (e :: es) X.env = (false, eval e X.env) :: starEach es X.env := by rfl) (hpl : (backTo pos (starEach es X.env)).any (·.1) = false := by rfl) :
    PE X (.Call (.Name x p) (e :: es) [] pos) (tMake C sp [] E0 t) := by
  obtain ⟨f, fd, ps, M, F, hm, b⟩ := c.ex
  exact pe_make M F (hr.mono hk) hg hm b .nil passL ha hdb he hpl
theorem pe_cx0 (c : CalX X.prog X.w X.K X.mg X.base k x sp) (hr : Room j X.A) (hk : k ≤ j) (hg : Gl X x) (ha : PA X (e :: es) t)
    (hdb : (x == ("__debug__" : Str)) = false := by decide) (he : starEach (e :: es) X.env = (false, eval e X.env) :: starEach es X.env := by rfl) (hpl : (backTo pos (starEach es X.env)).any (·.1) = false := by rfl) :
    PE X (.Call (.Name x p) (e :: es) [] pos) (tCall sp [] E0 t) := by
  obtain ⟨f, fd, ps, F, hm, kp, b⟩ := c.ex
  exact pe_call F (hr.mono hk) hg hm kp b .nil passL ha hdb he hpl
end

/-! ### isinstance of a caught error that has its own dict -/
def rIsED (K : PySem.W.Frag) (cls : Value) (d : Option Addr) (a : Addr) : List V → Hp → VK → Prop := fun xs H Q => ∃ (D dd : Addr) (fs : List (Str × V)) (c : V) (cv : Value) (b : Bool), xs = [.ref a, c] ∧ cls = .ref D ∧ ExcC K D ∧ d = some dd ∧ H dd = some (.xd fs) ∧ ClsV c cv ∧ PySem.W.kitOne K (.ref D) cv = some b ∧ Q (.bl b) H
theorem call_isED {X : Cx} {a : Addr} {oe : Obj} {cls : Value} {d : Option Addr} {pn : List (Addr × Obj)} (hz : Zc cls d oe) (hf : ∃ vs, oe.data = .fields vs) : CallR (X.suite a ((a, oe) :: pn)) (.builtin "isinstance") (rIsED X.K cls d a) := by
  intro pins s σ H xs us Q I r h
  obtain ⟨D, dd, fs, c, cv, b, rfl, rfl, C, rfl, hdd, hcv, e, q⟩ := h
  obtain ⟨u1, u2, rfl, r1, r2⟩ := vals2 r
  cases (show u1 = Value.ref a from r1)
  have ec := hcv.eq r2
  subst ec
  obtain ⟨hget, _⟩ := I.pin (a, oe) (List.mem_append.mpr (.inl List.mem_cons_self))
  obtain ⟨vs, hv⟩ := hf
  have hx : ObjOk X.prog X.w H s.heap dd (.xd fs) := I.hok dd _ hdd
  obtain ⟨mA, hns, hr⟩ := hx
  obtain ⟨od, ho, hl⟩ := lookIn_ns hns
  have J : PySem.W.InstAt s.heap a oe D (some od) := ⟨hget, hz.1, by unfold PySem.W.notCls; rw [hv] <;> rfl, by rw [hz.2]; exact ho⟩
  exact PySem.W.kia_one (PySem.W.kitx_exc (by obtain ⟨cd, hc, _⟩ := PySem.W.any_some C.hd; rw [hc]; rfl) C.hg C.hk C.hs C.ha C.hn C.ht C.hm) I.kIn J e (fun z => nomatch z) fun tk => ⟨.bl b, H, I.kept (t' := tk) fun _ _ z => z, rfl, q⟩

/-! ### heaps -/
theorem Same.tup {K : PySem.W.Frag} {H H' : Hp} {a : Addr} {xs : List V} (e : Same H H') (h : SqT K H a xs) : SqT K H' a xs := by
  rcases h with (h | ⟨o, h⟩) | h
  · exact .inl (.inl (e _ _ h))
  · exact .inl (.inr ⟨o, e _ _ h⟩)
  · exact .inr h
mutual
theorem dp_same {K : PySem.W.Frag} {H H' : Hp} (e : Same H H') : ∀ {v : V} {d : PyData}, Dp K H v d → Dp K H' v d
  | _, _, .non => .non
  | _, _, .bl b => .bl b
  | _, _, .int i => .int i
  | _, _, .str x => .str x
  | _, _, .lst h r => .lst (e.seq h) (dpAll_same e r)
  | _, _, .tup h r => .tup (Same.tup e h) (dpAll_same e r)
theorem dpAll_same {K : PySem.W.Frag} {H H' : Hp} (e : Same H H') : ∀ {vs : List V} {ds : List PyData}, DpAll K H vs ds → DpAll K H' vs ds
  | _, _, .nil => .nil
  | _, _, .cons h r => .cons (dp_same e h) (dpAll_same e r)
end
/-- G: what is known; H: what stands; Fs: what stands apart (tables, things that are changed) -/
structure Wd (Fs : List Addr) (G H : Hp) : Prop where
  same : Same G H
  off : ∀ c ∈ Fs, G c = none
  on : ∀ c ∈ Fs, H c ≠ none
/-- G', H' come of G, H -/
structure Gr (Fs : List Addr) (G H G' H' : Hp) : Prop where
  up : Same G G'
  wd : Wd Fs G' H'
  keep : ∀ c o, c ∉ Fs → H c = some o → H' c = some o
  fresh : ∀ c, G c = none → H c ≠ none → G' c = none
section
variable {Fs Fs' : List Addr} {G H G1 H1 G2 H2 : Hp} {p P : Addr} {o u : HO}
theorem Wd.nin (w : Wd Fs G H) (hp : H p = none) : p ∉ Fs := fun h => w.on p h hp
theorem Wd.free (w : Wd Fs G H) (hp : H p = none) : G p = none := w.same.free hp
theorem Gr.refl (w : Wd Fs G H) : Gr Fs G H G H := ⟨Same.refl _, w, fun _ _ _ e => e, fun _ e _ => e⟩
theorem Gr.trans (a : Gr Fs G H G1 H1) (b : Gr Fs G1 H1 G2 H2) : Gr Fs G H G2 H2 := by
  refine ⟨a.up.trans b.up, b.wd, fun c o n e => b.keep c o n (a.keep c o n e), fun c e n => ?_⟩
  by_cases hc : c ∈ Fs
  · exact b.wd.off c hc
  · refine b.fresh c (a.fresh c e n) fun z => ?_
    cases q : H c with
    | none => exact n q
    | some o => rw [a.keep c o hc q] at z; cases z
/-- a new thing that is known from now on -/
theorem Gr.alloc (w : Wd Fs G H) (hp : H p = none) : Gr Fs G H (upd G p o) (upd H p o) := by
  have hn := w.nin hp
  refine ⟨fun b u e => ?_, ⟨fun b u e => ?_, fun c hc => ?_, fun c hc => ?_⟩, fun c u _ e => ?_, fun c e n => ?_⟩
  · rw [upd_ne (ne_of_none (w.same _ _ e) hp)]; exact e
  · by_cases hb : b = p
    · subst hb; rw [upd_same] at e ⊢; exact e
    · rw [upd_ne hb] at e ⊢; exact w.same _ _ e
  · rw [upd_ne (fun z => hn (by rw [← z]; exact hc))]; exact w.off c hc
  · rw [upd_ne (fun z => hn (by rw [← z]; exact hc))]; exact w.on c hc
  · rw [upd_ne (ne_of_none e hp)]; exact e
  · rw [upd_ne (fun z => n (by rw [z]; exact hp))]; exact e
/-- what stands changes, what is known does not -/
theorem Gr.of_keep (w : Wd Fs G H) (k : ∀ c o, c ∉ Fs → H c = some o → H1 c = some o) (on : ∀ c ∈ Fs, H1 c ≠ none) : Gr Fs G H G H1 := by
  refine ⟨Same.refl _, ⟨fun b u e => ?_, w.off, on⟩, k, fun c e _ => e⟩
  refine k b u (fun hb => ?_) (w.same _ _ e)
  rw [w.off b hb] at e; cases e
theorem Gr.skip (w : Wd Fs G H) (s : Same H H1) : Gr Fs G H G H1 := Gr.of_keep w (fun c o _ e => s c o e) fun c hc z => by
  cases q : H c with
  | none => exact w.on c hc q
  | some o => rw [s c o q] at z; cases z
theorem same_new (hp : H p = none) : Same H (upd H p o) := fun b u e => by rw [upd_ne (ne_of_none e hp)]; exact e
theorem Gr.new (w : Wd Fs G H) (hp : H p = none) : Gr Fs G H G (upd H p o) := Gr.skip w (same_new hp)
theorem Gr.tab (w : Wd Fs G H) (hP : P ∈ Fs) (t : GxR.Tabbed P H H1) : Gr Fs G H G H1 := by
  obtain ⟨⟨ps, e, _⟩, k⟩ := t
  refine Gr.of_keep w (fun c o n q => ?_) fun c hc z => ?_
  · rw [k c (fun z => n (z ▸ hP))]; exact q
  · by_cases hcP : c = P
    · rw [hcP, e] at z; cases z
    · rw [k c hcP] at z; exact w.on c hc z
/-- a write at a thing that was not there at the start and is not known -/
theorem Gr.poke (g : Gr Fs G H G1 H1) (hp : H p = none) (hg : G1 p = none) : Gr Fs G H G1 (upd H1 p o) := by
  refine ⟨g.up, ⟨fun b u e => ?_, g.wd.off, fun c hc z => ?_⟩, fun c u n e => ?_, g.fresh⟩
  · rw [upd_ne (fun z => by rw [z, hg] at e; cases e)]; exact g.wd.same _ _ e
  · by_cases hcp : c = p
    · rw [hcp, upd_same] at z; cases z
    · rw [upd_ne hcp] at z; exact g.wd.on c hc z
  · rw [upd_ne (fun z => by rw [z, hp] at e; cases e)]; exact g.keep c u n e
/-- .. is known from now on -/
theorem Gr.close (g : Gr Fs G H G1 H1) (hp : H p = none) (h1 : H1 p = some o) (hn : p ∉ Fs) (hg : G1 p = none) : Gr Fs G H (upd G1 p o) H1 := by
  refine ⟨fun b u e => ?_, ⟨fun b u e => ?_, fun c hc => ?_, g.wd.on⟩, g.keep, fun c e n => ?_⟩
  · have e1 := g.up _ _ e
    rw [upd_ne (fun z => by rw [z, hg] at e1; cases e1)]; exact e1
  · by_cases hb : b = p
    · subst hb; rw [upd_same] at e; rw [h1]; exact e
    · rw [upd_ne hb] at e; exact g.wd.same _ _ e
  · rw [upd_ne (fun z => hn (by rw [← z]; exact hc))]; exact g.wd.off c hc
  · rw [upd_ne (fun z => n (by rw [z]; exact hp))]; exact g.fresh c e n
theorem Gr.widen (g : Gr Fs G H G1 H1) (w : Wd Fs' G H) (sub : ∀ c ∈ Fs, c ∈ Fs') : Gr Fs' G H G1 H1 := by
  refine ⟨g.up, ⟨g.wd.same, fun c hc => g.fresh c (w.off c hc) (w.on c hc), fun c hc z => ?_⟩, fun c o n e => g.keep c o (fun hc => n (sub c hc)) e, g.fresh⟩
  by_cases h : c ∈ Fs
  · exact g.wd.on c h z
  · cases q : H c with
    | none => exact w.on c hc q
    | some o => rw [g.keep c o h q] at z; cases z
theorem Wd.sub (w : Wd Fs' G H) (sub : ∀ c ∈ Fs, c ∈ Fs') : Wd Fs G H := ⟨w.same, fun c hc => w.off c (sub c hc), fun c hc => w.on c (sub c hc)⟩
theorem Gr.at_ (g : Gr Fs G H G1 H1) (e : H p = some o) (n : p ∉ Fs) : H1 p = some o := g.keep p o n e
theorem Gr.dp {K : PySem.W.Frag} {v : V} {d : PyData} (g : Gr Fs G H G1 H1) (h : Dp K G v d) : Dp K G1 v d := dp_same g.up h
end
abbrev Tabs (Ps : List Addr) (H : Hp) : Prop := ∀ P ∈ Ps, GxR.TabG H P
/-- the tables are kept where nothing else than they may change -/
theorem Tabs.keep {Ps Fs : List Addr} {G H G' H' : Hp} (t : Tabs Ps H) (g : Gr Fs G H G' H') (d : ∀ P ∈ Ps, P ∉ Fs) : Tabs Ps H' := fun P hP => by
  obtain ⟨ps, e, r⟩ := t P hP
  exact ⟨ps, g.keep P _ (d P hP) e, r⟩

/-! ### rows: lists of tuples of ints -/
abbrev tI (ns : List Int) : PyData := .tuple (ns.map .int)
abbrev dI (rs : List (List Int)) : PyData := .list (rs.map tI)
def RowT (K : PySem.W.Frag) (G : Hp) (v : V) (ns : List Int) : Prop := ∃ t, v = .ref t ∧ SqT K G t (ns.map V.int)
abbrev RowsV (K : PySem.W.Frag) (G : Hp) : List V → List (List Int) → Prop := Paired (RowT K G)
def Rows (K : PySem.W.Frag) (G : Hp) (a : Addr) (rs : List (List Int)) : Prop := ∃ xs, SqL K G a xs ∧ RowsV K G xs rs
section
variable {K : PySem.W.Frag} {G G' : Hp} {v : V} {ns : List Int} {xs : List V} {rs : List (List Int)} {a : Addr}
theorem RowT.same (e : Same G G') (h : RowT K G v ns) : RowT K G' v ns := let ⟨t, q, r⟩ := h; ⟨t, q, Same.tup e r⟩
theorem rowsV_same (e : Same G G') : ∀ {xs : List V} {rs : List (List Int)}, RowsV K G xs rs → RowsV K G' xs rs
  | _, _, .nil => .nil
  | _, _, .cons h r => .cons (RowT.same e h) (rowsV_same e r)
theorem Rows.same (e : Same G G') (h : Rows K G a rs) : Rows K G' a rs := let ⟨xs, q, r⟩ := h; ⟨xs, e.seq q, rowsV_same e r⟩
theorem RowT.dp (h : RowT K G v ns) : Dp K G v (tI ns) := by
  obtain ⟨t, rfl, r⟩ := h
  exact .tup r (dpAll_ints ns)
theorem rowsV_dp : ∀ {xs : List V} {rs : List (List Int)}, RowsV K G xs rs → DpAll K G xs (rs.map tI)
  | _, _, .nil => .nil
  | _, _, .cons h r => .cons h.dp (rowsV_dp r)
theorem Rows.dp (h : Rows K G a rs) : Dp K G (.ref a) (dI rs) := by
  obtain ⟨xs, q, r⟩ := h
  exact .lst q (rowsV_dp r)
theorem paired_get {α β : Type} {F : α → β → Prop} : ∀ {l : List α} {m : List β} {i : Nat} {x : α}, Paired F l m → l[i]? = some x → ∃ y, m[i]? = some y ∧ F x y
  | _, _, _, _, .nil, e => by simp at e
  | _, _, 0, _, .cons r _, e => by simp at e; subst e; exact ⟨_, rfl, r⟩
  | _, _, i + 1, x, .cons _ t, e => by
    obtain ⟨y, h1, h2⟩ := paired_get (i := i) (x := x) t (by simpa using e)
    exact ⟨y, by simpa using h1, h2⟩
theorem paired_get' {α β : Type} {F : α → β → Prop} : ∀ {l : List α} {m : List β} {i : Nat} {y : β}, Paired F l m → m[i]? = some y → ∃ x, l[i]? = some x ∧ F x y
  | _, _, _, _, .nil, e => by simp at e
  | _, _, 0, _, .cons r _, e => by simp at e; subst e; exact ⟨_, rfl, r⟩
  | _, _, i + 1, x, .cons _ t, e => by
    obtain ⟨y, h1, h2⟩ := paired_get' (i := i) (y := x) t (by simpa using e)
    exact ⟨y, by simpa using h1, h2⟩
theorem paired_append {α β : Type} {F : α → β → Prop} : ∀ {l l' : List α} {m m' : List β}, Paired F l m → Paired F l' m' → Paired F (l ++ l') (m ++ m')
  | _, _, _, _, .nil, s => s
  | _, _, _, _, .cons r t, s => .cons r (paired_append t s)
theorem paired_snoc {α β : Type} {F : α → β → Prop} {l : List α} {m : List β} {x : α} {y : β} (h : Paired F l m) (r : F x y) : Paired F (l ++ [x]) (m ++ [y]) := paired_append h (.cons r .nil)
theorem paired_take {α β : Type} {F : α → β → Prop} : ∀ {l : List α} {m : List β} (n : Nat), Paired F l m → Paired F (l.take n) (m.take n)
  | _, _, 0, _ => .nil
  | _, _, n + 1, .nil => by simp; exact .nil
  | _, _, n + 1, .cons r t => .cons r (paired_take n t)
theorem paired_drop {α β : Type} {F : α → β → Prop} : ∀ {l : List α} {m : List β} (n : Nat), Paired F l m → Paired F (l.drop n) (m.drop n)
  | _, _, 0, r => r
  | _, _, n + 1, .nil => by simp; exact .nil
  | _, _, n + 1, .cons r t => by simpa using paired_drop n t
theorem paired_rep {α β : Type} {F : α → β → Prop} {x : α} {y : β} (r : F x y) : ∀ n, Paired F (List.replicate n x) (List.replicate n y)
  | 0 => .nil
  | n + 1 => .cons r (paired_rep r n)
end
end Cr
set_option Elab.async false
set_option linter.all false
set_option maxRecDepth 100000
set_option maxHeartbeats 4000000
/-! Defs, methods, classes as the top has left them, and their promises by their bodies -/
namespace Cr
open PySem PySem.Spec PyProof.Rows L2
section
variable (K : PySem.W.Frag) (mg : Str → Option Value) (base : Heap)
def DefR (x : Str) (st : Stmt) (ps : List Str) : Prop := ∃ (f : Addr) (fd : FuncData), Fun K x x st f fd ∧ mg x = some (.ref f) ∧ Binds K fd ps []
def MetR (C : Addr) (m qual : Str) (st : Stmt) (ps : List Str) : Prop := ∃ (f : Addr) (fd : FuncData), Meth K C m f ∧ Fun K m qual st f fd ∧ Binds K fd ps []
def IniR (C : Addr) (x qual : Str) (st : Stmt) (ps : List Str) : Prop := ∃ (f : Addr) (fd : FuncData), Mk K C f ∧ Fun K "__init__" qual st f fd ∧ mg x = some (.ref C) ∧ Binds K fd ps []
def ErrR (C : Addr) (x qual : Str) (st : Stmt) (ps : List Str) : Prop := ∃ (f : Addr) (fd : FuncData), OexC K C ∧ PySem.W.findIn K (.ref C) "__init__" = some (some (.ref f)) ∧ PySem.W.typeIn K (.ref f) = some (.type "function") ∧ Fun K "__init__" qual st f fd ∧ mg x = some (.ref C) ∧ Binds K fd ps []
def CodR (x : Str) (st : Stmt) (ps : List Str) (c T : Addr) : Prop := ∃ (f : Addr) (oc : Value) (od : Option Addr) (kV doc pm : Value) (an : Option Addr) (ct : Value) (osl : Array (Option Value)),
  K.lookup f = some ⟨oc, od, .func (PySem.W.fnOf x x (defArgs st) (defBody st) (defScope st) .none kV doc pm an (.ref c) ct), osl⟩ ∧ PySem.W.codeIn K (.ref c) x = true ∧ mg x = some (.ref f) ∧ PySem.W.keepIn K (.ref f) = true ∧
    Binds K (PySem.W.fnOf x x (defArgs st) (defBody st) (defScope st) .none kV doc pm an (.ref c) ct) ps [] ∧ GxR.TabB base mg c T
end
/-- an own error made -/
structure MakE (P : Program) (w : World) (K : PySem.W.Frag) (mg : Str → Option Value) (base : Heap) (k : Nat) (x : Str) (C : Addr) (sp : Sp) : Prop where
  ex : ∃ (f : Addr) (fd : FuncData) (ps : List Str), OexC K C ∧ PySem.W.findIn K (.ref C) "__init__" = some (some (.ref f)) ∧ PySem.W.typeIn K (.ref f) = some (.type "function") ∧ FnOk P w K mg base CX0 k f fd ps sp ∧ mg x = some (.ref C) ∧ Binds K fd ps []
theorem pmk_c {X : Cx} {k j : Nat} {C : Addr} {x : Str} {sp : Sp} {p pos : Pos} {e : Expr} {es : List Expr} {ta : TA} (c : MakE X.prog X.w X.K X.mg X.base k x C sp) (hr : Room j X.A) (hk : k + 1 ≤ j) (hg : Gl X x) (ha : PA X (e :: es) ta)
    (hdb : (x == ("__debug__" : Str)) = false := by decide) (he : starEach (e :: es) X.env = (false, eval e X.env) :: starEach es X.env := by rfl) (hpl : (backTo pos (starEach es X.env)).any (·.1) = false := by rfl) :
    PMk X (.Call (.Name x p) (e :: es) [] pos) (tMkO C sp [] ta) := by
  obtain ⟨f, fd, ps, T, iC, tI, F, hm, b⟩ := c.ex
  exact pmk_oex T iC tI F (hr.mono hk) b .nil pass0 hg hm ha hdb he hpl
section
variable {P : Program} {w : World} {K : PySem.W.Frag} {mg : Str → Option Value} {base : Heap} {x m qual : Str} {st : Stmt} {N ps : List Str} {k : Nat} {sp : Sp} {C c T : Addr}
/-- what a body is to show: nothing leaves it | something may -/
def Body0 (P : Program) (w : World) (K : PySem.W.Frag) (mg : Str → Option Value) (base : Heap) (N : List Str) (qual : Str) (st : Stmt) (k : Nat) (sp : Sp) : Prop :=
  ∀ (f : Addr) (cdv : Value) (A : Around) (outer : List Env) (s : Shared) (H : Hp) (vs : List V) (Q : VK) (E : XK), Room k (A.deeper (envOfC qual (defScope st) s.heap.objs.size f cdv)) → sp vs H Q E →
    ∃ t, PSs (cxOf CX0 P w K mg base N qual (defScope st) f cdv A outer s H E).nox (defBody st) t ∧ t { nx := fun _ H' => Q .non H', rt := Q } (start N vs) H
def BodyX (P : Program) (w : World) (K : PySem.W.Frag) (mg : Str → Option Value) (base : Heap) (N : List Str) (qual : Str) (st : Stmt) (k : Nat) (sp : Sp) : Prop :=
  ∀ (f : Addr) (cdv : Value) (A : Around) (outer : List Env) (s : Shared) (H : Hp) (vs : List V) (Q : VK) (E : XK), Room k (A.deeper (envOfC qual (defScope st) s.heap.objs.size f cdv)) → sp vs H Q E →
    ∃ t, PSs (cxOf (L2.CX P w) P w K mg base N qual (defScope st) f cdv A outer s H E) (defBody st) t ∧ t { nx := fun _ H' => Q .non H', rt := Q } (start N vs) H
theorem DefR.cal (d : DefR K mg x st ps) (S : FnScope N ps (defScope st)) (len : ∀ vs H Q E, sp vs H Q E → vs.length = ps.length) (b : Body0 P w K mg base N x st k sp) : C8.Cal P w K mg base (k + 1) x sp [] := by
  obtain ⟨f, fd, F, hm, bi⟩ := d
  exact ⟨f, fd, ps, [], F.ok S len (fun cdv A outer s H vs Q E hr h => b f cdv A outer s H vs Q E hr h), hm, F.kp, bi, .nil⟩
theorem DefR.calX (d : DefR K mg x st ps) (S : FnScope N ps (defScope st)) (len : ∀ vs H Q E, sp vs H Q E → vs.length = ps.length) (b : BodyX P w K mg base N x st k sp) : CalX P w K mg base (k + 1) x sp := by
  obtain ⟨f, fd, F, hm, bi⟩ := d
  exact ⟨f, fd, ps, F.okX S len (fun cdv A outer s H vs Q E hr h => b f cdv A outer s H vs Q E hr h), hm, F.kp, bi⟩
theorem MetR.met (d : MetR K C m qual st ps) (cl : Cls K C) (S : FnScope N ps (defScope st)) (len : ∀ vs H Q E, sp vs H Q E → vs.length = ps.length) (b : Body0 P w K mg base N qual st k sp) : C8.Met P w K mg base (k + 1) C m sp [] := by
  obtain ⟨f, fd, M, F, bi⟩ := d
  exact ⟨f, fd, ps, [], cl, M, F.ok S len (fun cdv A outer s H vs Q E hr h => b f cdv A outer s H vs Q E hr h), bi, .nil⟩
theorem IniR.makX (d : IniR K mg C x qual st ps) (S : FnScope N ps (defScope st)) (len : ∀ vs H Q E, sp vs H Q E → vs.length = ps.length) (b : BodyX P w K mg base N qual st k sp) : MakX P w K mg base (k + 1) x C sp := by
  obtain ⟨f, fd, M, F, hm, bi⟩ := d
  exact ⟨f, fd, ps, M, F.okX S len (fun cdv A outer s H vs Q E hr h => b f cdv A outer s H vs Q E hr h), hm, bi⟩
theorem ErrR.make (d : ErrR K mg C x qual st ps) (S : FnScope N ps (defScope st)) (len : ∀ vs H Q E, sp vs H Q E → vs.length = ps.length) (b : Body0 P w K mg base N qual st k sp) : MakE P w K mg base (k + 1) x C sp := by
  obtain ⟨f, fd, O, iC, tI, F, hm, bi⟩ := d
  exact ⟨f, fd, ps, O, iC, tI, F.ok S len (fun cdv A outer s H vs Q E hr h => b f cdv A outer s H vs Q E hr h), hm, bi⟩
theorem CodR.cal (d : CodR K mg base x st ps c T) (S : FnScope N ps (defScope st)) (len : ∀ vs H Q E, sp vs H Q E → vs.length = ps.length)
    (b : GxR.TabB base mg c T → ∀ (f : Addr) (A : Around) (outer : List Env) (s : Shared) (H : Hp) (vs : List V) (Q : VK) (E : XK), Room k (A.deeper (envOfC x (defScope st) s.heap.objs.size f (.ref c))) → sp vs H Q E →
      ∃ t, PSs (cxOf CX0 P w K mg base N x (defScope st) f (.ref c) A outer s H E).nox (defBody st) t ∧ t { nx := fun _ H' => Q .non H', rt := Q } (start N vs) H) : C8.Cal P w K mg base (k + 1) x sp [] := by
  obtain ⟨f, oc, od, kV, doc, pm, an, ct, osl, lk, hcd, hm, kp, bi, tb⟩ := d
  refine ⟨f, _, ps, [], fn_of lk hcd S len fun A outer s H vs Q E hr h => ?_, hm, kp, bi, .nil⟩
  obtain ⟨t, h1, q⟩ := b tb f A outer s H vs Q E hr h
  exact ⟨t, h1.nox, q⟩
end
/-! ### the same rules with the written part said (within a comprehension's block) -/
section
variable {X : Cx} {K : PySem.W.Frag} {e : Expr} {es : List Expr} {f : Str} {ta : TE} {t : TGs} {pos : Pos} {k n : Nat}
theorem pg_tupK (hK : X.K = K) (hc : X.calm = true) (h : PGs X es t) (hn : (assignEach es X.env).length = n := by rfl) (hst : (assignEach es X.env).findIdx? (·.1) = none := by rfl) : PG X (.Tuple es k pos) (gTup K n t) := by
  subst hK
  exact pg_tup hc h hn hst
theorem ix_seqK (hK : X.K = K) : IxR X (rIx K) := by
  subst hK
  exact ix_seq
theorem pe_fldK (hK : X.K = K) (he : PE X e ta) (hb : attributeBase e f X.env (eval e X.env) = eval e X.env) : PE X (.Attribute e f pos) (tFld K ta f) := by
  subst hK
  exact pe_fld he hb
def rLenS (K : PySem.W.Frag) : List V → Hp → VK → Prop := fun xs H Q => ∃ p ys, xs = [.ref p] ∧ (SqL K H p ys ∨ SqT K H p ys) ∧ Q (.int ys.length) H
theorem call_len_seqK (hK : X.K = K) : CallR X (.builtin "len") (rLenS K) := by
  subst hK
  exact call_len_seq
theorem cr_sumK (hK : X.K = K) (hc : X.calm = true) : CallR X (.builtin "sum") (rSum K) := by
  subst hK
  exact cr_sum hc
theorem cr_maxK (hK : X.K = K) (hc : X.calm = true) : CallR X (.builtin "max") (rMax K) := by
  subst hK
  exact cr_max hc
theorem cr_maxTK (hK : X.K = K) (hc : X.calm = true) (hu : X.A.units + 64 < cLine) : CallR X (.builtin "max") (rMaxT K) := by
  subst hK
  exact cr_maxT hc hu
theorem op_in_seqK (hK : X.K = K) : OpR X (compareOp .In) (rIn K false) := by
  subst hK
  exact op_in_seq
theorem op_notIn_seqK (hK : X.K = K) : OpR X (compareOp .NotIn) (rIn K true) := by
  subst hK
  exact op_notIn_seq
theorem sl_listK (hK : X.K = K) : SlR X (rSlL K) := by
  subst hK
  exact sl_list
theorem sl_tupK (hK : X.K = K) : SlR X (rSlT K) := by
  subst hK
  exact sl_tup
theorem op_eqDK (hK : X.K = K) (hu : X.A.units + 64 < cLine) : OpR X (compareOp .Eq) (rEqD K) := by
  subst hK
  exact op_eqD hu
def rListOf (K : PySem.W.Frag) : List V → Hp → VK → Prop := fun xs H Q => ∃ p ys, xs = [.ref p] ∧ (SqL K H p ys ∨ SqT K H p ys) ∧ ∀ l, H l = none → Q (.ref l) (upd H l (.lst ys))
theorem call_list_ofK (hK : X.K = K) : CallR X (.type "list") (rListOf K) := by
  subst hK
  exact call_list_of
end
/-! ### the slots of a comprehension's block -/
theorem wipe_comm {σ : L2.St} {i : Nat} {x : Option V} : ∀ {vs : List Nat}, i ∉ vs → wipe (σ.set i x) vs = (wipe σ vs).set i x
  | [], _ => rfl
  | v :: vs, h => by
    have h1 : i ≠ v := fun e => h (by rw [e]; exact List.mem_cons_self)
    have h2 : i ∉ vs := fun e => h (List.mem_cons_of_mem _ e)
    show (wipe (σ.set i x) vs).set v none = ((wipe σ vs).set v none).set i x
    rw [wipe_comm h2, List.set_comm _ _ h1]
theorem wipe_set {σ : L2.St} {i : Nat} {x : Option V} : ∀ {vs : List Nat}, i ∈ vs → wipe (σ.set i x) vs = wipe σ vs
  | v :: vs, h => by
    show (wipe (σ.set i x) vs).set v none = (wipe σ vs).set v none
    by_cases h2 : i ∈ vs
    · rw [wipe_set h2]
    · have e : i = v := by
        rcases List.mem_cons.mp h with e | e
        · exact e
        · exact absurd e h2
      subst e
      rw [wipe_comm h2, List.set_set]
theorem wipe_wipe (σ : L2.St) (vs : List Nat) : wipe (wipe σ vs) vs = wipe σ vs := by
  have key : ∀ (us : List Nat), (∀ u ∈ us, u ∈ vs) → wipe (wipe σ us) vs = wipe σ vs := by
    intro us
    induction us with
    | nil => intro _; rfl
    | cons u us ih =>
      intro h
      show wipe ((wipe σ us).set u none) vs = wipe σ vs
      rw [wipe_set (h u List.mem_cons_self)]
      exact ih fun z hz => h z (List.mem_cons_of_mem _ hz)
  exact key vs fun _ h => h
theorem Tabs.tab {Ps : List Addr} {H H2 : Hp} {T : Addr} (t : Tabs Ps H) (d : GxR.Tabbed T H H2) : Tabs Ps H2 := fun P hP => by
  by_cases e : P = T
  · rw [e]; exact d.1
  · obtain ⟨ps, q, r⟩ := t P hP
    exact ⟨ps, (d.2 P e).trans q, r⟩
theorem Tabs.same {Ps : List Addr} {H H2 : Hp} (t : Tabs Ps H) (s : Same H H2) : Tabs Ps H2 := fun P hP => by
  obtain ⟨ps, q, r⟩ := t P hP
  exact ⟨ps, s _ _ q, r⟩
end Cr
set_option Elab.async false
set_option linter.all false
set_option maxRecDepth 100000
set_option maxHeartbeats 4000000
/-! What a text's top has left, as facts of the written part; the walk's ground -/
namespace Cr
open PySem PySem.Spec PyProof.Rows L2
section
variable {K : PySem.W.Frag} {mg : Str → Option Value} {base h : Heap}
def DefF (K : PySem.W.Frag) (x : Str) (st : Stmt) : Prop := ∃ (f : Addr) (oc : Value) (od : Option Addr) (kV doc pm : Value) (an : Option Addr) (cd ct : Value) (sl : Array (Option Value)),
  PySem.W.nsIn K mainGlobals x = some (some (.ref f)) ∧ K.lookup f = some ⟨oc, od, .func (PySem.W.fnOf x x (defArgs st) (defBody st) (defScope st) .none kV doc pm an cd ct), sl⟩ ∧ PySem.W.codeIn K cd x = true ∧ PySem.W.keepIn K (.ref f) = true
theorem DefF.mk {x : Str} {st : Stmt} {f : Addr} {oc : Value} {od : Option Addr} {kV doc pm : Value} {an : Option Addr} {cd ct : Value} {sl : Array (Option Value)} (a : PySem.W.nsIn K mainGlobals x = some (some (.ref f))) (l : K.lookup f = some ⟨oc, od, .func (PySem.W.fnOf x x (defArgs st) (defBody st) (defScope st) .none kV doc pm an cd ct), sl⟩) (c : PySem.W.codeIn K cd x = true) (k : PySem.W.keepIn K (.ref f) = true) : DefF K x st := ⟨f, oc, od, kV, doc, pm, an, cd, ct, sl, a, l, c, k⟩
theorem DefF.r {x : Str} {st : Stmt} {ps : List Str} (d : DefF K x st) (X : K.In h) (G : h.Ns mainGlobals mg)
    (hb : ∀ (kV doc pm : Value) (an : Option Addr) (cdv ct : Value) (us : List Value), us.length = ps.length → bindArgs (PySem.W.fnOf x x (defArgs st) (defBody st) (defScope st) .none kV doc pm an cdv ct) ⟨us, []⟩ = pure (ps.zip us)) : DefR K mg x st ps := by
  obtain ⟨f, oc, od, kV, doc, pm, an, cd, ct, sl, a, l, c, k⟩ := d
  have F := fun_mk (st := st) l c k
  exact ⟨f, _, F, PySem.W.mg_of X G a, F.binds (ps := ps) hb⟩
def MetF (K : PySem.W.Frag) (C : Addr) (m qual : Str) (st : Stmt) : Prop := ∃ (f : Addr) (oc : Value) (od : Option Addr) (kV doc pm : Value) (an : Option Addr) (cd ct : Value) (sl : Array (Option Value)),
  PySem.W.findIn K (.ref C) m = some (some (.ref f)) ∧ PySem.W.isFn K (.ref f) = true ∧ K.lookup f = some ⟨oc, od, .func (PySem.W.fnOf m qual (defArgs st) (defBody st) (defScope st) .none kV doc pm an cd ct), sl⟩ ∧ PySem.W.codeIn K cd qual = true ∧ PySem.W.keepIn K (.ref f) = true
theorem MetF.mk {C : Addr} {m qual : Str} {st : Stmt} {f : Addr} {oc : Value} {od : Option Addr} {kV doc pm : Value} {an : Option Addr} {cd ct : Value} {sl : Array (Option Value)} (a : PySem.W.findIn K (.ref C) m = some (some (.ref f))) (i : PySem.W.isFn K (.ref f) = true) (l : K.lookup f = some ⟨oc, od, .func (PySem.W.fnOf m qual (defArgs st) (defBody st) (defScope st) .none kV doc pm an cd ct), sl⟩) (c : PySem.W.codeIn K cd qual = true) (k : PySem.W.keepIn K (.ref f) = true) : MetF K C m qual st := ⟨f, oc, od, kV, doc, pm, an, cd, ct, sl, a, i, l, c, k⟩
theorem MetF.r {C : Addr} {m qual : Str} {st : Stmt} {ps : List Str} (d : MetF K C m qual st)
    (hb : ∀ (kV doc pm : Value) (an : Option Addr) (cdv ct : Value) (us : List Value), us.length = ps.length → bindArgs (PySem.W.fnOf m qual (defArgs st) (defBody st) (defScope st) .none kV doc pm an cdv ct) ⟨us, []⟩ = pure (ps.zip us)) : MetR K C m qual st ps := by
  obtain ⟨f, oc, od, kV, doc, pm, an, cd, ct, sl, a, i, l, c, k⟩ := d
  have F := fun_mk (st := st) l c k
  exact ⟨f, _, ⟨a, i, k⟩, F, F.binds (ps := ps) hb⟩
theorem MetF.ini {C : Addr} {x qual : Str} {st : Stmt} {ps : List Str} (d : MetF K C "__init__" qual st) (hm : mg x = some (.ref C)) (mk : PySem.W.makesIn K C = true) (kc : PySem.W.keepIn K (.ref C) = true)
    (hb : ∀ (kV doc pm : Value) (an : Option Addr) (cdv ct : Value) (us : List Value), us.length = ps.length → bindArgs (PySem.W.fnOf "__init__" qual (defArgs st) (defBody st) (defScope st) .none kV doc pm an cdv ct) ⟨us, []⟩ = pure (ps.zip us)) : IniR K mg C x qual st ps := by
  obtain ⟨f, oc, od, kV, doc, pm, an, cd, ct, sl, a, i, l, c, k⟩ := d
  have F := fun_mk (st := st) l c k
  exact ⟨f, _, ⟨mk, a, i, kc⟩, F, hm, F.binds (ps := ps) hb⟩
def ErrF (K : PySem.W.Frag) (C : Addr) (qual : Str) (st : Stmt) : Prop := ∃ (f : Addr) (oc : Value) (od : Option Addr) (kV doc pm : Value) (an : Option Addr) (cd ct : Value) (sl : Array (Option Value)),
  PySem.W.findIn K (.ref C) "__init__" = some (some (.ref f)) ∧ PySem.W.typeIn K (.ref f) = some (.type "function") ∧ K.lookup f = some ⟨oc, od, .func (PySem.W.fnOf "__init__" qual (defArgs st) (defBody st) (defScope st) .none kV doc pm an cd ct), sl⟩ ∧ PySem.W.codeIn K cd qual = true ∧ PySem.W.keepIn K (.ref f) = true
theorem ErrF.mk {C : Addr} {qual : Str} {st : Stmt} {f : Addr} {oc : Value} {od : Option Addr} {kV doc pm : Value} {an : Option Addr} {cd ct : Value} {sl : Array (Option Value)} (a : PySem.W.findIn K (.ref C) "__init__" = some (some (.ref f))) (i : PySem.W.typeIn K (.ref f) = some (.type "function")) (l : K.lookup f = some ⟨oc, od, .func (PySem.W.fnOf "__init__" qual (defArgs st) (defBody st) (defScope st) .none kV doc pm an cd ct), sl⟩) (c : PySem.W.codeIn K cd qual = true) (k : PySem.W.keepIn K (.ref f) = true) : ErrF K C qual st := ⟨f, oc, od, kV, doc, pm, an, cd, ct, sl, a, i, l, c, k⟩
theorem ErrF.r {C : Addr} {x qual : Str} {st : Stmt} {ps : List Str} (d : ErrF K C qual st) (O : OexC K C) (hm : mg x = some (.ref C))
    (hb : ∀ (kV doc pm : Value) (an : Option Addr) (cdv ct : Value) (us : List Value), us.length = ps.length → bindArgs (PySem.W.fnOf "__init__" qual (defArgs st) (defBody st) (defScope st) .none kV doc pm an cdv ct) ⟨us, []⟩ = pure (ps.zip us)) : ErrR K mg C x qual st ps := by
  obtain ⟨f, oc, od, kV, doc, pm, an, cd, ct, sl, a, i, l, c, k⟩ := d
  have F := fun_mk (st := st) l c k
  exact ⟨f, _, O, a, i, F, hm, F.binds (ps := ps) hb⟩
def CodF (K : PySem.W.Frag) (x : Str) (st : Stmt) (cc : Addr) : Prop := ∃ (f : Addr) (oc : Value) (od : Option Addr) (kV doc pm : Value) (an : Option Addr) (ct : Value) (sl : Array (Option Value)),
  PySem.W.nsIn K mainGlobals x = some (some (.ref f)) ∧ K.lookup f = some ⟨oc, od, .func (PySem.W.fnOf x x (defArgs st) (defBody st) (defScope st) .none kV doc pm an (.ref cc) ct), sl⟩ ∧ PySem.W.codeIn K (.ref cc) x = true ∧ PySem.W.keepIn K (.ref f) = true
theorem CodF.mk {x : Str} {st : Stmt} {cc f : Addr} {oc : Value} {od : Option Addr} {kV doc pm : Value} {an : Option Addr} {ct : Value} {sl : Array (Option Value)} (a : PySem.W.nsIn K mainGlobals x = some (some (.ref f))) (l : K.lookup f = some ⟨oc, od, .func (PySem.W.fnOf x x (defArgs st) (defBody st) (defScope st) .none kV doc pm an (.ref cc) ct), sl⟩) (c : PySem.W.codeIn K (.ref cc) x = true) (k : PySem.W.keepIn K (.ref f) = true) : CodF K x st cc := ⟨f, oc, od, kV, doc, pm, an, ct, sl, a, l, c, k⟩
theorem CodF.r {x : Str} {st : Stmt} {ps : List Str} {cc T : Addr} (d : CodF K x st cc) (X : K.In h) (G : h.Ns mainGlobals mg) (tb : GxR.TabB base mg cc T)
    (hb : ∀ (kV doc pm : Value) (an : Option Addr) (cdv ct : Value) (us : List Value), us.length = ps.length → bindArgs (PySem.W.fnOf x x (defArgs st) (defBody st) (defScope st) .none kV doc pm an cdv ct) ⟨us, []⟩ = pure (ps.zip us)) : CodR K mg base x st ps cc T := by
  obtain ⟨f, oc, od, kV, doc, pm, an, ct, sl, a, l, c, k⟩ := d
  have F := fun_mk (st := st) l c k
  exact ⟨f, oc, od, kV, doc, pm, an, ct, sl, l, c, PySem.W.mg_of X G a, k, F.binds (ps := ps) hb, tb⟩
theorem kit_own {D C : Addr} {b : Bool} (ne : (Value.ref D == Value.ref C) = false) (h2 : PySem.W.isClsIn K C = true) (h3 : PySem.W.typeIn K (.ref C) = some (.type "type")) (h4 : PySem.W.subIn K (.ref D) (.ref C) = some b) : PySem.W.kitOne K (.ref D) (.ref C) = some b := by
  have e2 : ((PySem.W.clsIn K C).isSome && PySem.W.typeIn K (.ref C) == some (.type "type")) = true := by
    have h2' : (PySem.W.clsIn K C).isSome = true := h2
    rw [h2', h3] <;> rfl
  unfold PySem.W.kitOne
  rw [ne, if_neg Bool.false_ne_true]
  show (if ((PySem.W.clsIn K C).isSome && PySem.W.typeIn K (.ref C) == some (.type "type")) = true then PySem.W.subIn K (.ref D) (.ref C) else none) = some b
  rw [if_pos e2]
  exact h4
theorem kit_self {C : Addr} (h : (Value.ref C == Value.ref C) = true) : PySem.W.kitOne K (.ref C) (.ref C) = some true := by
  unfold PySem.W.kitOne
  rw [if_pos h]
theorem kit_bltn {D : Addr} {T : String} {b : Bool} (ne : (Value.ref D == Value.type T) = false) (h2 : PySem.W.kitMeta T = true) (h4 : PySem.W.subIn K (.ref D) (.type T) = some b) : PySem.W.kitOne K (.ref D) (.type T) = some b := by
  unfold PySem.W.kitOne
  rw [ne, if_neg Bool.false_ne_true]
  show (if PySem.W.kitMeta T = true then PySem.W.subIn K (.ref D) (.type T) else none) = some b
  rw [if_pos h2]
  exact h4
theorem exm_own {D C : Addr} {b : Bool} (h1 : PySem.W.subIn K (.ref C) (.type "BaseException") = some true) (h2 : PySem.W.isClsIn K C = true) (h3 : PySem.W.typeIn K (.ref C) = some (.type "type")) (h4 : PySem.W.subIn K (.ref D) (.ref C) = some b) : PySem.W.exmOne K (.ref D) (.ref C) = some b := by
  have e1 : (PySem.W.subIn K (.ref C) (.type "BaseException") == some true) = true := by rw [h1] <;> rfl
  have e2 : ((PySem.W.clsIn K C).isSome && PySem.W.typeIn K (.ref C) == some (.type "type")) = true := by
    have h2' : (PySem.W.clsIn K C).isSome = true := h2
    rw [h2', h3] <;> rfl
  show (if (PySem.W.subIn K (.ref C) (.type "BaseException") == some true) = true then (if ((PySem.W.clsIn K C).isSome && PySem.W.typeIn K (.ref C) == some (.type "type")) = true then PySem.W.subIn K (.ref D) (.ref C) else none) else none) = some b
  rw [if_pos e1, if_pos e2]
  exact h4
end
theorem walk_tab {l : PySem.W.OpenLaw} {n k : Nat} {q : Program} {loose : List Str} {XP : (Str → Option Value) → Heap → Prop} {YP : World → Heap → Prop} {d : DefRec} {K : Params → PySem.W.Frag} {CX : World → CXT} {x : Str}
    (hn : l.most = some n) (hn2 : n ≤ sizeLine) (hdf : d.params.defaults = []) (hr : Room k callerA) (hY : ∀ (w : World) (h : Heap), YP w h → (K w.params).In h)
    (F : ∀ (w : World) (s₀ : Shared) (mg mb : Str → Option Value) (fa : Addr) (h : Heap), PySem.W.Ground q loose [] XP w s₀ mg mb h → (K w.params).In h → h.Ns mainGlobals mg → mg d.name = some (.ref fa) → LamX.LawAtS l w (K w.params) (CX w) k n x mg fa h)
    (hCX : ∀ (w : World) (H : Hp) (s : Shared) (e : Value) (s' : Shared), CX w [] H s (fun _ _ _ => False) e s' → False) :
    PySem.W.WalkO q loose XP YP l.row.toRowW d [] (fun f vs => PySem.call f vs) := by
  refine Att.attach_callB hn hdf fun w s₀ s₁ mg mb fa o pm cd doc a vs ns G Y ho hd hcd hmg hobj hints hlen hbits hg => ?_
  have KX := hY w _ Y
  obtain ⟨fd, cs, sp, hT, nT, C, hb, hsp, hF⟩ := F w s₀ mg mb fa _ G KX G.T.g hmg
  exact LamX.law_callTs KX G.T.g G.T.b G.T.builtins G.T.nolimit hg hT nT C G.T.bmain hobj hints (Nat.le_trans hlen hn2) hr hF hb (fun H hH hS => hsp H a ns hlen hbits hH hS) fun H e s' => hCX w H s₁ e s'
end Cr
set_option Elab.async false
set_option linter.all false
set_option maxRecDepth 100000
set_option maxHeartbeats 4000000

namespace Cr
open PySem PySem.Spec PyProof.Rows L2
def top (i : Nat) : Stmt := PySem.Challenge.pw_candleroom_k01_houses_refused.main.body.getD i (.Pass ⟨0, 0, 0, 0⟩)
abbrev sBadHouse_init : Stmt := inClass (top 2) 0
abbrev nBadHouse_init : List Str := ["self", "word", "number"]
abbrev aBadHouse_init : List Str := ["self", "word", "number"]
theorem scBadHouse_init : FnScope nBadHouse_init aBadHouse_init (defScope sBadHouse_init) := ⟨rfl, rfl, rfl, by decide +kernel, rfl, by decide +kernel, by decide +kernel⟩
abbrev sHouse_init : Stmt := inClass (top 13) 0
abbrev nHouse_init : List Str := ["self", "hours", "rooms", "doors", "stays"]
abbrev aHouse_init : List Str := ["self", "hours", "rooms", "doors", "stays"]
theorem scHouse_init : FnScope nHouse_init aHouse_init (defScope sHouse_init) := ⟨rfl, rfl, rfl, by decide +kernel, rfl, by decide +kernel, by decide +kernel⟩
abbrev sHouse_rooms : Stmt := inClass (top 13) 1
abbrev nHouse_rooms : List Str := ["self"]
abbrev aHouse_rooms : List Str := ["self"]
theorem scHouse_rooms : FnScope nHouse_rooms aHouse_rooms (defScope sHouse_rooms) := ⟨rfl, rfl, rfl, by decide +kernel, rfl, by decide +kernel, by decide +kernel⟩
abbrev sHouse_doors : Stmt := inClass (top 13) 2
abbrev nHouse_doors : List Str := ["self"]
abbrev aHouse_doors : List Str := ["self"]
theorem scHouse_doors : FnScope nHouse_doors aHouse_doors (defScope sHouse_doors) := ⟨rfl, rfl, rfl, by decide +kernel, rfl, by decide +kernel, by decide +kernel⟩
abbrev sHouse_stays : Stmt := inClass (top 13) 3
abbrev nHouse_stays : List Str := ["self"]
abbrev aHouse_stays : List Str := ["self"]
theorem scHouse_stays : FnScope nHouse_stays aHouse_stays (defScope sHouse_stays) := ⟨rfl, rfl, rfl, by decide +kernel, rfl, by decide +kernel, by decide +kernel⟩
abbrev sHouse_use : Stmt := inClass (top 13) 4
abbrev nHouse_use : List Str := ["self", "room", "hour", "use", "_"]
abbrev aHouse_use : List Str := ["self", "room", "hour"]
theorem scHouse_use : FnScope nHouse_use aHouse_use (defScope sHouse_use) := ⟨rfl, rfl, rfl, by decide +kernel, rfl, by decide +kernel, by decide +kernel⟩
abbrev sHouse_least : Stmt := inClass (top 13) 5
abbrev nHouse_least : List Str := ["self", "room", "hour", "_", "need"]
abbrev aHouse_least : List Str := ["self", "room", "hour"]
theorem scHouse_least : FnScope nHouse_least aHouse_least (defScope sHouse_least) := ⟨rfl, rfl, rfl, by decide +kernel, rfl, by decide +kernel, by decide +kernel⟩
abbrev sHouse__wants : Stmt := inClass (top 13) 6
abbrev nHouse__wants : List Str := ["self", "room", "hour", "place", "begin", "end", "use", "need"]
abbrev aHouse__wants : List Str := ["self", "room", "hour"]
theorem scHouse__wants : FnScope nHouse__wants aHouse__wants (defScope sHouse__wants) := ⟨rfl, rfl, rfl, by decide +kernel, rfl, by decide +kernel, by decide +kernel⟩
abbrev s_check_counts : Stmt := top 14
abbrev n_check_counts : List Str := ["hours", "rooms", "doors", "stays"]
abbrev a_check_counts : List Str := ["hours", "rooms", "doors", "stays"]
theorem sc_check_counts : FnScope n_check_counts a_check_counts (defScope s_check_counts) := ⟨rfl, rfl, rfl, by decide +kernel, rfl, by decide +kernel, by decide +kernel⟩
abbrev s_check_parts : Stmt := top 15
abbrev n_check_parts : List Str := ["hours", "rooms", "doors", "stays", "number", "room", "door", "stay"]
abbrev a_check_parts : List Str := ["hours", "rooms", "doors", "stays"]
theorem sc_check_parts : FnScope n_check_parts a_check_parts (defScope s_check_parts) := ⟨rfl, rfl, rfl, by decide +kernel, rfl, by decide +kernel, by decide +kernel⟩
abbrev s_numbers_can_be : Stmt := top 16
abbrev n_numbers_can_be : List Str := ["numbers"]
abbrev a_numbers_can_be : List Str := ["numbers"]
theorem sc_numbers_can_be : FnScope n_numbers_can_be a_numbers_can_be (defScope s_numbers_can_be) := ⟨rfl, rfl, rfl, by decide +kernel, rfl, by decide +kernel, by decide +kernel⟩
abbrev s_room_can_be : Stmt := top 17
abbrev n_room_can_be : List Str := ["room", "air", "most", "_"]
abbrev a_room_can_be : List Str := ["room"]
theorem sc_room_can_be : FnScope n_room_can_be a_room_can_be (defScope s_room_can_be) := ⟨rfl, rfl, rfl, by decide +kernel, rfl, by decide +kernel, by decide +kernel⟩
abbrev s_door_can_be : Stmt := top 18
abbrev n_door_can_be : List Str := ["door", "rooms", "one", "other", "_"]
abbrev a_door_can_be : List Str := ["door", "rooms"]
theorem sc_door_can_be : FnScope n_door_can_be a_door_can_be (defScope s_door_can_be) := ⟨rfl, rfl, rfl, by decide +kernel, rfl, by decide +kernel, by decide +kernel⟩
abbrev s_stay_can_be : Stmt := top 19
abbrev n_stay_can_be : List Str := ["stay", "hours", "rooms", "place", "begin", "end", "_", "need", "most"]
abbrev a_stay_can_be : List Str := ["stay", "hours", "rooms"]
theorem sc_stay_can_be : FnScope n_stay_can_be a_stay_can_be (defScope s_stay_can_be) := ⟨rfl, rfl, rfl, by decide +kernel, rfl, by decide +kernel, by decide +kernel⟩

/-! ### the mathematics: which house can be -/
def numOk (n : Int) : Bool := decide (0 ≤ n) && decide (n ≤ 999)
def numV (v : V) : Bool := match v with
  | .int i => decide (0 ≤ i) && decide (i ≤ 999)
  | _ => false
theorem all_num : ∀ ns : List Int, (ns.map V.int).all numV = ns.all numOk
  | [] => rfl
  | n :: r => by
    rw [List.map_cons, List.all_cons, List.all_cons, all_num r]
    all_goals rfl
def roomOk : List Int → Bool
  | [a, m, l, p] => ([a, m, l, p] : List Int).all numOk && decide (a ≤ m)
  | _ => false
def doorOk (nr : Nat) : List Int → Bool
  | [o, t, l] => ([o, t, l] : List Int).all numOk && (!decide (o = t) && decide (max o t < (nr : Int)))
  | _ => false
def mostOf (rooms : List (List Int)) (r : Int) : Int := ((rooms.getD r.toNat []).getD 1 0)
def stayOk (h : Int) (rooms : List (List Int)) : List Int → Bool
  | [r, b, e, u, n] => ([r, b, e, u, n] : List Int).all numOk && (decide (r < (rooms.length : Int)) && (decide (b < e) && decide (e ≤ h) && decide (n ≤ mostOf rooms r)))
  | _ => false
/-- the first place where ok does not hold -/
def firstNot (ok : List Int → Bool) (rs : List (List Int)) : Option Nat := rs.findIdx? fun r => !ok r
def countBad (h : Int) (rooms doors stays : List (List Int)) : Option (Str × Int) :=
  if ¬ (1 ≤ h ∧ h ≤ 12) then some ("hours", 0) else if ¬ (1 ≤ rooms.length ∧ rooms.length ≤ 6) then some ("rooms", 0) else if doors.length > 8 then some ("doors", 0) else if stays.length > 20 then some ("stays", 0) else none
def partBad (h : Int) (rooms doors stays : List (List Int)) : Option (Str × Int) := match firstNot roomOk rooms with
  | some i => some ("room", (i : Int))
  | none => match firstNot (doorOk rooms.length) doors with
    | some i => some ("door", (i : Int))
    | none => match firstNot (stayOk h rooms) stays with
      | some i => some ("stay", (i : Int))
      | none => none
def houseBad (h : Int) (rooms doors stays : List (List Int)) : Option (Str × Int) := match countBad h rooms doors stays with
  | some z => some z
  | none => partBad h rooms doors stays
/-- the rows are of the right width -/
def Wide (n : Nat) (rs : List (List Int)) : Prop := ∀ r ∈ rs, r.length = n

/-! ### what the text's top has left -/
/-- the addresses of the text's classes, of a code object and its table -/
structure Ad where
  cH : Addr
  cA : Addr
  mA : Value
  cBH : Addr
  cNum : Addr
  tNum : Addr
structure RawP (K : PySem.W.Frag) (mg : Str → Option Value) (base : Heap) (ad : Ad) : Prop where
  airI : BaseI K ad.cA ad.mA
  m_AirError : mg "AirError" = some (.ref ad.cA)
  bh : ErrR K mg ad.cBH "BadHouse" "BadHouse.__init__" sBadHouse_init aBadHouse_init
  bhw : PySem.W.findIn K (.ref ad.cBH) "word" = some none
  bhn : PySem.W.findIn K (.ref ad.cBH) "number" = some none
  hi : IniR K mg ad.cH "House" "House.__init__" sHouse_init aHouse_init
  hcl : Cls K ad.cH
  hnh : NoAttr K ad.cH "hours"
  hnr : NoAttr K ad.cH "_rooms"
  hnd : NoAttr K ad.cH "_doors"
  hns : NoAttr K ad.cH "_stays"
  hro : MetR K ad.cH "rooms" "House.rooms" sHouse_rooms aHouse_rooms
  hdo : MetR K ad.cH "doors" "House.doors" sHouse_doors aHouse_doors
  hst : MetR K ad.cH "stays" "House.stays" sHouse_stays aHouse_stays
  hus : MetR K ad.cH "use" "House.use" sHouse_use aHouse_use
  hle : MetR K ad.cH "least" "House.least" sHouse_least aHouse_least
  hwa : MetR K ad.cH "_wants" "House._wants" sHouse__wants aHouse__wants
  cc : DefR K mg "_check_counts" s_check_counts a_check_counts
  cp : DefR K mg "_check_parts" s_check_parts a_check_parts
  nc : CodR K mg base "_numbers_can_be" s_numbers_can_be a_numbers_can_be ad.cNum ad.tNum
  rc : DefR K mg "_room_can_be" s_room_can_be a_room_can_be
  dc : DefR K mg "_door_can_be" s_door_can_be a_door_can_be
  sc : DefR K mg "_stay_can_be" s_stay_can_be a_stay_can_be
  gH : ∃ t, mg "MOST_HOURS" = some (.int 12 t)
  gR : ∃ t, mg "MOST_ROOMS" = some (.int 6 t)
  gD : ∃ t, mg "MOST_DOORS" = some (.int 8 t)
  gS : ∃ t, mg "MOST_STAYS" = some (.int 20 t)
  gN : ∃ t, mg "MOST_NUMBER" = some (.int 999 t)
  b_all : mg "all" = none
  b_len : mg "len" = none
  b_max : mg "max" = none
  b_sum : mg "sum" = none
  b_list : mg "list" = none
  b_enumerate : mg "enumerate" = none

section
variable {P : Program} {w : World} {K : PySem.W.Frag} {mg : Str → Option Value} {base : Heap} {ad : Ad}
/-! ### BadHouse -/
theorem small_num : ∀ k : Nat, k < 32 → (toString ((k : Nat) : Int) : Str).length ≤ 2 := by decide +kernel
theorem small_log : ∀ k : Nat, k < 32 → ((k : Nat) : Int).natAbs.log2 < 1920 := by decide +kernel
/-- BadHouse.__init__ -/
def spBHi (ad : Ad) : Sp := fun vs H Q _ => ∃ (a : Addr) (wd : Str) (k : Nat), vs = [.ref a, .str wd, .int (k : Int)] ∧ wd.length ≤ 10 ∧ k < 32 ∧ H a = some (exo a ad.cBH none) ∧
  ∀ dx, H dx = none → dx ≠ a → Q .non (upd (upd (upd H dx (exd dx [("word", .str wd)])) a (exo a ad.cBH (some dx))) dx (exd dx [("number", .int (k : Int)), ("word", .str wd)]))
theorem len_app (a b : Str) : (a ++ b).length = a.length + b.length := by
  show (a.cps ++ b.cps).size = _
  rw [Array.size_append] <;> rfl
theorem mk_bh (T : RawP K mg base ad) : MakE P w K mg base 1 "BadHouse" ad.cBH (spBHi ad) := by
  obtain ⟨_, _, O, _⟩ := id T.bh
  refine T.bh.make scBadHouse_init (fun vs H Q E h => ?_) (fun f cdv A outer s H vs Q E hr h => ?_)
  · obtain ⟨a, wd, k, rfl, _⟩ := h
    rfl
  · obtain ⟨a, wd, k, rfl, hw, hk, ha, q⟩ := h
    have m_AirError := T.m_AirError
    have i_AirError := T.airI
    refine ⟨_, (pss_cons (ps_expr (pe_baseinit i_AirError (by rfl) m_AirError (pa_cons (pv 0) (pa_cons (pe_joined (PJ.cons pe_str (PJ.cons (pe_fmt (pv 1)) (PJ.cons pe_str (PJ.cons (pe_fmt (pv 2)) PJ.nil))))) pa_nil))))
      (pss_cons (ps_ost (pv 0) (pv 1))
      (pss_one (ps_ost (pv 0) (pv 2))))), ?_⟩
    have hlw : wd.length ≤ 10 := hw
    have hz := small_num k hk
    have e1 : (Str.empty ++ ("a house cannot be so: " : Str)).length = 22 := by decide +kernel
    have e2 : ((" " : Str)).length = 1 := by decide +kernel
    have ez : ∀ n : Nat, n ≤ 100 → n ≤ sizeLine := fun n h => by rw [sizeLine_eq]; omega
    refine ⟨_, rfl, _, rfl, ez _ (by omega), _, rfl, .inl ⟨_, rfl, ez _ (by omega), _, rfl, ez _ (by rw [len_app, e1]; omega), _, rfl, ez _ (by rw [len_app, len_app, e1, e2]; omega), _, rfl, .inr ⟨_, rfl, small_log k hk, _, rfl, ez _ (by rw [len_app, len_app, len_app, e1, e2]; omega), ?_⟩⟩⟩
    refine ⟨a, ad.cBH, _, rfl, by show 1 ≤ 1000; decide, O, ha, ?_⟩
    refine ⟨_, rfl, _, rfl, a, ad.cBH, rfl, O, T.bhw, .inl ⟨ha, fun dx hdx hne => ?_⟩⟩
    refine ⟨_, rfl, _, rfl, a, ad.cBH, rfl, O, T.bhn, .inr ⟨dx, [("word", .str wd)], upd_same, ?_, ?_, ?_⟩⟩
    · rw [upd_ne hne, upd_same]
    · show 1 ≤ 900
      decide
    · exact q dx hdx hne
end
end Cr
set_option Elab.async false
set_option linter.all false
set_option maxRecDepth 100000
set_option maxHeartbeats 4000000

namespace Cr
open PySem PySem.Spec PyProof.Rows L2
theorem noFree {names : List (Str × NameKind)} {Q : Str × NameKind → Prop} (h : (names.all fun y => !decide (y.2 = .free)) = true) : ∀ y ∈ names, y.2 = .free → Q y := fun y hy e => by
  have z := List.all_eq_true.mp h y hy
  rw [decide_eq_true e] at z
  cases z
theorem len4 {α : Type} {l : List α} (h : l.length = 4) : ∃ a b c d, l = [a, b, c, d] := match l, h with
  | [a, b, c, d], _ => ⟨a, b, c, d, rfl⟩
theorem len3 {α : Type} {l : List α} (h : l.length = 3) : ∃ a b c, l = [a, b, c] := match l, h with
  | [a, b, c], _ => ⟨a, b, c, rfl⟩
theorem len5 {α : Type} {l : List α} (h : l.length = 5) : ∃ a b c d e, l = [a, b, c, d, e] := match l, h with
  | [a, b, c, d, e], _ => ⟨a, b, c, d, e, rfl⟩
section
variable {P : Program} {w : World} {K : PySem.W.Frag} {mg : Str → Option Value} {base : Heap} {ad : Ad} {Ps : List Addr}
def spNum (K : PySem.W.Frag) (Ps : List Addr) : Sp := fun vs H Q _ => ∃ (G : Hp) (t : Addr) (ns : List Int), vs = [.ref t] ∧ Wd Ps G H ∧ Tabs Ps H ∧ SqT K G t (ns.map V.int) ∧ ∀ H', Gr Ps G H G H' → Tabs Ps H' → Q (.bl (ns.all numOk)) H'
theorem c_num (T : RawP K mg base ad) (hP : ad.tNum ∈ Ps) : C8.Cal P w K mg base 1 "_numbers_can_be" (spNum K Ps) [] := by
  refine T.nc.cal sc_numbers_can_be (fun vs H Q E h => ?_) (fun tb f A outer s H vs Q E hr h => ?_)
  · obtain ⟨G, t, ns, rfl, _⟩ := h
    rfl
  · obtain ⟨G, t, ns, rfl, wd, tbs, ht, q⟩ := h
    have b_all := T.b_all
    obtain ⟨tk, g_MOST_NUMBER⟩ := T.gN
    refine ⟨_, (pss_one (ps_ret (pe_allT hr (by rfl) b_all (by decide +kernel) tb rfl ⟨rfl, rfl, by decide +kernel, rfl, rfl, noFree (by decide +kernel)⟩ (pv 0) (elt_between rfl rfl rfl g_MOST_NUMBER) (fun _ => rfl)))), ?_⟩
    refine ⟨_, rfl, t, ns.map V.int, rfl, Same.tup wd.same ht, fun v hv => ?_, tbs _ hP, fun H2 ht2 => ?_⟩
    · obtain ⟨i, _, rfl⟩ := List.mem_map.mp hv
      exact ⟨i, rfl⟩
    · have e : (ns.map V.int).all (fun v => match v with | .int i => decide (0 ≤ i) && decide (i ≤ 999) | _ => false) = ns.all numOk := by
        rw [List.all_map]
        all_goals rfl
      have z := q H2 (Gr.tab wd hP ht2) (Tabs.tab tbs ht2)
      rw [← e] at z
      exact z
/-- a test of one row: its value -/
def spRow (K : PySem.W.Frag) (Ps : List Addr) (n : Nat) (ok : List Int → Bool) : Sp := fun vs H Q _ => ∃ (G : Hp) (v : V) (ns : List Int), vs = [v] ∧ Wd Ps G H ∧ Tabs Ps H ∧ RowT K G v ns ∧ ns.length = n ∧ ∀ H', Gr Ps G H G H' → Tabs Ps H' → Q (.bl (ok ns)) H'
theorem c_room (T : RawP K mg base ad) (hP : ad.tNum ∈ Ps) : C8.Cal P w K mg base 2 "_room_can_be" (spRow K Ps 4 roomOk) [] := by
  refine T.rc.cal sc_room_can_be (fun vs H Q E h => ?_) (fun f cdv A outer s H vs Q E hr h => ?_)
  · obtain ⟨G, t, ns, rfl, _⟩ := h
    rfl
  · obtain ⟨G, v, ns, rfl, wd, tbs, ⟨t, rfl, ht⟩, hl, q⟩ := h
    obtain ⟨a, m, l, p, rfl⟩ := len4 hl
    have k__numbers_can_be : C8.Cal P w K mg base 1 "_numbers_can_be" (spNum K Ps) [] := c_num T hP
    refine ⟨_, (pss_cons (ps_asg (pv 0) (pg_tup rfl (pgs_cons (pg_name (i := 1) sc_room_can_be.nd rfl (Or.inl rfl)) (pgs_cons (pg_name (i := 2) sc_room_can_be.nd rfl (Or.inl rfl)) (pgs_cons (pg_name (i := 3) sc_room_can_be.nd rfl (Or.inl rfl)) (pgs_cons (pg_name (i := 3) sc_room_can_be.nd rfl (Or.inl rfl)) pgs_nil))))))
      (pss_one (ps_ret (pe_and (C8.pe_c k__numbers_can_be hr (by decide) rfl (pa_cons (pv 0) pa_nil)) (pe_one (pe_cmpR op_le (pv 1) (pv 2) (nomark _))))))), ?_⟩
    refine ⟨_, rfl, t, _, rfl, Same.tup wd.same ht, rfl, _, _, rfl, _, _, rfl, _, _, rfl, _, _, rfl, rfl, ?_⟩
    refine ⟨_, rfl, G, t, _, rfl, wd, tbs, ht, fun H' g tb' => ⟨_, rfl, ?_⟩⟩
    have z := q H' g tb'
    refine ite2 (fun hc => ?_) (fun hc => ?_)
    · refine ⟨_, rfl, _, rfl, _, _, rfl, rfl, ?_⟩
      have e : roomOk [a, m, l, p] = decide (a ≤ m) := by
        show (([a, m, l, p] : List Int).all numOk && decide (a ≤ m)) = _
        rw [hc, Bool.true_and]
      rw [e] at z
      exact z
    · have e : roomOk [a, m, l, p] = false := by
        show (([a, m, l, p] : List Int).all numOk && decide (a ≤ m)) = _
        rw [Bool.eq_false_iff.mpr hc, Bool.false_and]
      rw [e] at z
      exact z
theorem max_if (a b : Int) : (if b > a then b else a) = max a b := by
  by_cases h : b > a
  · rw [if_pos h]; omega
  · rw [if_neg h]; omega
def spDoor (K : PySem.W.Frag) (Ps : List Addr) : Sp := fun vs H Q _ => ∃ (G : Hp) (v : V) (ra : Addr) (ns : List Int) (rs : List (List Int)), vs = [v, .ref ra] ∧ Wd Ps G H ∧ Tabs Ps H ∧ RowT K G v ns ∧ ns.length = 3 ∧ Rows K G ra rs ∧ ∀ H', Gr Ps G H G H' → Tabs Ps H' → Q (.bl (doorOk rs.length ns)) H'
theorem c_door (T : RawP K mg base ad) (hP : ad.tNum ∈ Ps) : C8.Cal P w K mg base 2 "_door_can_be" (spDoor K Ps) [] := by
  refine T.dc.cal sc_door_can_be (fun vs H Q E h => ?_) (fun f cdv A outer s H vs Q E hr h => ?_)
  · obtain ⟨G, v, ra, ns, rs, rfl, _⟩ := h
    rfl
  · obtain ⟨G, v, ra, ns, rs, rfl, wd, tbs, ⟨t, rfl, ht⟩, hl, hR, q⟩ := h
    obtain ⟨o, d, l, rfl⟩ := len3 hl
    have b_max := T.b_max
    have b_len := T.b_len
    have k__numbers_can_be : C8.Cal P w K mg base 1 "_numbers_can_be" (spNum K Ps) [] := c_num T hP
    refine ⟨_, (pss_cons (ps_asg (pv 0) (pg_tup rfl (pgs_cons (pg_name (i := 2) sc_door_can_be.nd rfl (Or.inl rfl)) (pgs_cons (pg_name (i := 3) sc_door_can_be.nd rfl (Or.inl rfl)) (pgs_cons (pg_name (i := 4) sc_door_can_be.nd rfl (Or.inl rfl)) pgs_nil)))))
      (pss_one (ps_ret (pe_and (C8.pe_c k__numbers_can_be hr (by decide) rfl (pa_cons (pv 0) pa_nil)) (pe_and (pe_cmpR op_ne (pv 2) (pv 3) (nomark _)) (pe_one (pe_cmpR op_lt (pe_callB (call_max2 rfl) (by rfl) b_max (by decide +kernel) (pa_cons (pv 2) (pa_cons (pv 3) pa_nil))) (pe_callB call_len_seq (by rfl) b_len (by decide +kernel) (pa_cons (pv 1) pa_nil)) (nomark _)))))))), ?_⟩
    refine ⟨_, rfl, t, _, rfl, Same.tup wd.same ht, rfl, _, _, rfl, _, _, rfl, _, _, rfl, rfl, ?_⟩
    refine ⟨_, rfl, G, t, _, rfl, wd, tbs, ht, fun H' g tb' => ⟨_, rfl, ?_⟩⟩
    have z := q H' g tb'
    have e : doorOk rs.length [o, d, l] = (([o, d, l] : List Int).all numOk && (!decide (o = d) && decide (max o d < (rs.length : Int)))) := rfl
    rw [e] at z
    refine ite2 (fun hc => ?_) (fun hc => ?_)
    · rw [hc, Bool.true_and] at z
      obtain ⟨xs, hq, hr2⟩ := hR
      have hlen : xs.length = rs.length := Paired.length hr2
      refine ⟨_, rfl, _, rfl, rfl, _, rfl, ?_⟩
      have e2 : decide (V.int o = V.int d) = decide (o = d) := by simp
      rw [e2]
      refine ite2 (fun hd => ?_) (fun hd => ?_)
      · rw [hd, Bool.true_and] at z
        refine ⟨_, rfl, _, rfl, _, _, rfl, _, rfl, ra, xs, rfl, .inl (g.wd.same.seq hq), _, _, rfl, rfl, ?_⟩
        rw [max_if, hlen]
        exact z
      · rw [Bool.eq_false_iff.mpr hd, Bool.false_and] at z
        exact z
    · rw [Bool.eq_false_iff.mpr hc, Bool.false_and] at z
      exact z
def spStay (K : PySem.W.Frag) (Ps : List Addr) : Sp := fun vs H Q _ => ∃ (G : Hp) (v : V) (h : Int) (ra : Addr) (ns : List Int) (rs : List (List Int)), vs = [v, .int h, .ref ra] ∧ Wd Ps G H ∧ Tabs Ps H ∧ RowT K G v ns ∧ ns.length = 5 ∧ Rows K G ra rs ∧ Wide 4 rs ∧
  ∀ H', Gr Ps G H G H' → Tabs Ps H' → Q (.bl (stayOk h rs ns)) H'
theorem num_all5 {r b e u n : Int} (h : ([r, b, e, u, n] : List Int).all numOk = true) : 0 ≤ r := by
  have := List.all_eq_true.mp h r (by simp)
  unfold numOk at this
  simp at this
  exact this.1
theorem c_stay (T : RawP K mg base ad) (hP : ad.tNum ∈ Ps) : C8.Cal P w K mg base 2 "_stay_can_be" (spStay K Ps) [] := by
  refine T.sc.cal sc_stay_can_be (fun vs H Q E h => ?_) (fun f cdv A outer s H vs Q E hr h => ?_)
  · obtain ⟨G, v, h, ra, ns, rs, rfl, _⟩ := h
    rfl
  · obtain ⟨G, v, h, ra, ns, rs, rfl, wd, tbs, ⟨t, rfl, ht⟩, hl, hR, hW, q⟩ := h
    obtain ⟨r, b, e, u, n, rfl⟩ := len5 hl
    have b_len := T.b_len
    have k__numbers_can_be : C8.Cal P w K mg base 1 "_numbers_can_be" (spNum K Ps) [] := c_num T hP
    refine ⟨_, (pss_cons (ps_asg (pv 0) (pg_tup rfl (pgs_cons (pg_name (i := 3) sc_stay_can_be.nd rfl (Or.inl rfl)) (pgs_cons (pg_name (i := 4) sc_stay_can_be.nd rfl (Or.inl rfl)) (pgs_cons (pg_name (i := 5) sc_stay_can_be.nd rfl (Or.inl rfl)) (pgs_cons (pg_name (i := 6) sc_stay_can_be.nd rfl (Or.inl rfl)) (pgs_cons (pg_name (i := 7) sc_stay_can_be.nd rfl (Or.inl rfl)) pgs_nil)))))))
      (pss_cons (ps_if (PW.pt (pw_or (pt_not (pt_val (C8.pe_c k__numbers_can_be hr (by decide) rfl (pa_cons (pv 0) pa_nil)))) (pw_or1 (pt_cmpR op_ge (pv 3) (pe_callB call_len_seq (by rfl) b_len (by decide +kernel) (pa_cons (pv 2) pa_nil)) (nomark _)))))
        (pss_one (ps_ret pe_bl))
        pss_nil)
      (pss_cons (ps_asg (pe_ix ix_seq (pv 2) (pv 3) (fun _ _ => rfl)) (pg_tup rfl (pgs_cons (pg_name (i := 6) sc_stay_can_be.nd rfl (Or.inl rfl)) (pgs_cons (pg_name (i := 8) sc_stay_can_be.nd rfl (Or.inl rfl)) (pgs_cons (pg_name (i := 6) sc_stay_can_be.nd rfl (Or.inl rfl)) (pgs_cons (pg_name (i := 6) sc_stay_can_be.nd rfl (Or.inl rfl)) pgs_nil))))))
      (pss_one (ps_ret (pe_and (pe_chain op_lt op_le (pv 4) (pv 5) (pv 1)) (pe_one (pe_cmpR op_le (pv 7) (pv 8) (nomark _))))))))), ?_⟩
    refine ⟨_, rfl, t, _, rfl, Same.tup wd.same ht, rfl, _, _, rfl, _, _, rfl, _, _, rfl, _, _, rfl, _, _, rfl, rfl, ?_⟩
    refine ⟨_, rfl, G, t, _, rfl, wd, tbs, ht, fun H' g tb' => ⟨_, rfl, ?_⟩⟩
    have z := q H' g tb'
    have ez : stayOk h rs [r, b, e, u, n] = (([r, b, e, u, n] : List Int).all numOk && (decide (r < (rs.length : Int)) && (decide (b < e) && decide (e ≤ h) && decide (n ≤ mostOf rs r)))) := rfl
    rw [ez] at z
    obtain ⟨xs, hq, hr2⟩ := hR
    have hlen : xs.length = rs.length := Paired.length hr2
    have hq' := g.wd.same.seq hq
    cases hc : ([r, b, e, u, n] : List Int).all numOk with
    | false =>
      rw [hc, Bool.false_and] at z
      refine iteT ?_
      refine iteT ?_
      exact z
    | true =>
      rw [hc, Bool.true_and] at z
      have hr0 := num_all5 hc
      refine iteF ?_
      refine ⟨_, rfl, _, rfl, ra, xs, rfl, .inl hq', _, _, rfl, rfl, _, rfl, ?_⟩
      rw [hlen]
      cases hd : decide ((rs.length : Int) ≤ r) with
      | true =>
        have hd' := of_decide_eq_true hd
        rw [decide_eq_false (show ¬ r < (rs.length : Int) by omega), Bool.false_and] at z
        refine iteT ?_
        exact z
      | false =>
        have hd' := of_decide_eq_false hd
        rw [decide_eq_true (show r < (rs.length : Int) by omega), Bool.true_and] at z
        refine iteF ?_
        have hi : r.toNat < rs.length := by omega
        have hg : rs[r.toNat]? = some rs[r.toNat] := List.getElem?_eq_getElem hi
        obtain ⟨y, hy, ty, rfl, hty⟩ := paired_get' hr2 hg
        have hw4 := hW _ (List.getElem_mem hi)
        obtain ⟨ra', m, rl, rp, em⟩ := len4 hw4
        have hr' : r = ((r.toNat : Nat) : Int) := by omega
        refine ⟨_, rfl, _, rfl, .inl ⟨ra, xs, r, .ref ty, rfl, rfl, hq', ?_, ty, _, rfl, Same.tup g.wd.same hty, ?_, ?_⟩⟩
        · rw [hr']
          exact atI_nat hy
        · rw [em]
          rfl
        · rw [em]
          have hm : mostOf rs r = m := by
            have e1 : rs.getD r.toNat [] = [ra', m, rl, rp] := by rw [List.getD_eq_getElem?_getD, hg, Option.getD_some, em]
            unfold mostOf
            rw [e1]
            rfl
          rw [hm] at z
          refine ⟨_, _, rfl, _, _, rfl, _, _, rfl, _, _, rfl, rfl, ?_⟩
          refine ⟨_, rfl, _, rfl, _, _, rfl, rfl, _, rfl, ?_⟩
          refine ite2 (fun h1 => ?_) (fun h1 => ?_)
          · refine ⟨_, rfl, _, _, rfl, rfl, _, rfl, ?_⟩
            have h1' : decide (b < e) = true := h1
            rw [h1', Bool.true_and] at z
            refine ite2 (fun h2 => ?_) (fun h2 => ?_)
            · rw [h2, Bool.true_and] at z
              exact ⟨_, rfl, _, rfl, _, _, rfl, rfl, z⟩
            · rw [Bool.eq_false_iff.mpr h2, Bool.false_and] at z
              exact z
          · have h1' : decide (b < e) = false := Bool.eq_false_iff.mpr h1
            rw [h1', Bool.false_and, Bool.false_and] at z
            exact ⟨_, rfl, iteF z⟩
end
end Cr
set_option Elab.async false
set_option linter.all false
set_option maxRecDepth 100000
set_option maxHeartbeats 4000000

namespace Cr
open PySem PySem.Spec PyProof.Rows L2
theorem for_enum {K : PySem.W.Frag} {a : Addr} {xs : List V} {g : TG} {tb : TS} {D : Ends} {σ : L2.St} {H : Hp} (Pv : Nat → L2.St → Hp → Prop) (h0 : Pv 0 σ H) (hl : ∀ i σ H, i ≤ xs.length → Pv i σ H → SqL K H a xs)
    (hs : ∀ i x σ H T, xs[i]? = some x → Pv i σ H → H T = none → g (.ref T) σ (upd H T (.tup [.int (i : Nat), x])) fun σ2 H2 => tb { D with nx := Pv (i + 1), ct := Pv (i + 1), bk := D.nx } σ2 H2) (hd : ∀ σ H, Pv xs.length σ H → D.nx σ H) :
    ∃ W : Nat → Nat → L2.St → Hp → Prop, (∃ m, W 0 m σ H) ∧ ∀ i m σ H, W i m σ H →
      ((Ite K a).stop i H ∧ D.nx σ H) ∨ ((Ite K a).go i H ∧ ∃ N : L2.St → Hp → Prop, (∀ σ' H', N σ' H' → ∃ m', m' < m ∧ W (i + 1) m' σ' H') ∧ ∀ x H', (Ite K a).yld i H x H' → g x σ H' fun σ2 H2 => tb { D with nx := N, ct := N, bk := D.nx } σ2 H2) := by
  refine ⟨fun i m σ H => i + m = xs.length ∧ Pv i σ H, ⟨xs.length, Nat.zero_add _, h0⟩, fun i m σ H ⟨left, p⟩ => ?_⟩
  have q := hl i σ H (by omega) p
  cases m with
  | zero =>
    cases left
    exact .inl ⟨⟨xs, q, Nat.le_refl _⟩, hd σ H p⟩
  | succ m =>
    refine .inr ⟨⟨xs, xs[i]'(by omega), q, List.getElem?_eq_getElem _⟩, Pv (i + 1), fun _ _ p' => ⟨m, Nat.lt_succ_self m, by omega, p'⟩, ?_⟩
    rintro _ _ ⟨T, z, rfl, hT, rfl, hz⟩
    exact hs i z σ H T (hz xs q) p hT
theorem firstNot_none {ok : List Int → Bool} {rs : List (List Int)} (h : ∀ (j : Nat) r, j < rs.length → rs[j]? = some r → ok r = true) : firstNot ok rs = none := by
  unfold firstNot
  rw [List.findIdx?_eq_none_iff]
  intro x hx
  obtain ⟨j, hj, e⟩ := List.getElem_of_mem hx
  rw [h j x hj (by rw [List.getElem?_eq_getElem hj, e])]
  rfl
theorem firstNot_some {ok : List Int → Bool} {rs : List (List Int)} {i : Nat} {r : List Int} (e : rs[i]? = some r) (hn : ok r = false) (h : ∀ (j : Nat) r, j < i → rs[j]? = some r → ok r = true) : firstNot ok rs = some i := by
  obtain ⟨hi, e1⟩ := List.getElem?_eq_some_iff.mp e
  unfold firstNot
  rw [List.findIdx?_eq_some_iff_getElem]
  refine ⟨hi, by rw [e1, hn]; rfl, fun j hj => ?_⟩
  have hj2 : j < rs.length := Nat.lt_trans hj hi
  rw [h j _ hj (List.getElem?_eq_getElem hj2)]
  simp
section
variable {P : Program} {w : World} {K : PySem.W.Frag} {mg : Str → Option Value} {base : Heap} {ad : Ad} {Ps : List Addr} {H : Hp}
/-- a BadHouse with this word and number -/
def Raised (ad : Ad) (z : Str × Int) (cls : Value) (d : Option Addr) (H : Hp) : Prop := cls = .ref ad.cBH ∧ ∃ dd, d = some dd ∧ H dd = some (.xd [("number", .int z.2), ("word", .str z.1)])
theorem raise_heap {a dx : Addr} {o1 o2 o3 o4 o5 : HO} (ha : H a = none) (hne : dx ≠ a) : upd (del (upd (upd (upd (upd H a o1) dx o2) a o3) dx o4) a) dx o5 = upd H dx o5 := by
  funext b
  by_cases h1 : b = dx
  · rw [h1, upd_same, upd_same]
  · rw [upd_ne h1, upd_ne h1]
    by_cases h2 : b = a
    · rw [h2, del_same, ha]
    · rw [del_ne h2, upd_ne h1, upd_ne h2, upd_ne h1, upd_ne h2]
theorem raise_bh {wd : Str} {k : Nat} {W : XK} (hw : wd.length ≤ 10) (hk : k < 32) (q : ∀ dx, H dx = none → W (.ref ad.cBH) (some dx) (upd H dx (.xd [("number", .int (k : Int)), ("word", .str wd)]))) :
    [V.str wd, V.int (k : Int)].length ≤ 1000 ∧ ∀ a, H a = none → spBHi ad (.ref a :: ([V.str wd, V.int (k : Int)] ++ [])) (upd H a (exo a ad.cBH none))
      (fun v H2 => v = .non ∧ ∃ (d : Addr) (fs : List (Str × V)), H2 a = some (exo a ad.cBH (some d)) ∧ H2 d = some (exd d fs) ∧ H d = none ∧ W (.ref ad.cBH) (some d) (upd (del H2 a) d (.xd fs))) (fun _ _ _ => False) := by
  refine ⟨by show 2 ≤ 1000; decide, fun a ha => ⟨a, wd, k, rfl, hw, hk, upd_same, fun dx hdx hne => ⟨rfl, dx, _, ?_, upd_same, ?_, ?_⟩⟩⟩
  · rw [upd_ne (Ne.symm hne), upd_same]
  · rw [upd_ne hne] at hdx
    exact hdx
  · rw [raise_heap ha hne]
    rw [upd_ne hne] at hdx
    exact q dx hdx
/-- a def that looks at the parts of a house: nothing, or a BadHouse -/
def spChk (ad : Ad) (K : PySem.W.Frag) (Ps : List Addr) (C : Int → List (List Int) → List (List Int) → List (List Int) → Prop) (bad : Int → List (List Int) → List (List Int) → List (List Int) → Option (Str × Int)) : Sp := fun vs H Q E =>
  ∃ (G : Hp) (h : Int) (ra da sa : Addr) (rs ds ss : List (List Int)), vs = [.int h, .ref ra, .ref da, .ref sa] ∧ Wd Ps G H ∧ Tabs Ps H ∧ Rows K G ra rs ∧ Rows K G da ds ∧ Rows K G sa ss ∧ C h rs ds ss ∧
    (bad h rs ds ss = none → ∀ H', Gr Ps G H G H' → Tabs Ps H' → Q .non H') ∧
    (∀ z, bad h rs ds ss = some z → ∀ cls d H', Raised ad z cls d H' → Gr Ps G H G H' → Tabs Ps H' → E cls d H')
theorem c_counts (T : RawP K mg base ad) : CalX P w K mg base 3 "_check_counts" (spChk ad K Ps (fun _ _ _ _ => True) countBad) := by
  refine T.cc.calX sc_check_counts (fun vs H Q E h => ?_) (fun f cdv A outer s H vs Q E hr h => ?_)
  · obtain ⟨G, h, ra, da, sa, rs, ds, ss, rfl, _⟩ := h
    rfl
  · obtain ⟨G, h, ra, da, sa, rs, ds, ss, rfl, wd, tbs, ⟨xr, qr, rr⟩, ⟨xd, qd, rd⟩, ⟨xs, qs, rS⟩, _, q0, qx⟩ := h
    have b_len := T.b_len
    obtain ⟨_, g_MOST_HOURS⟩ := T.gH
    obtain ⟨_, g_MOST_ROOMS⟩ := T.gR
    obtain ⟨_, g_MOST_DOORS⟩ := T.gD
    obtain ⟨_, g_MOST_STAYS⟩ := T.gS
    have k_BadHouse : MakE P w K mg base 1 "BadHouse" ad.cBH (spBHi ad) := mk_bh T
    have lr : xr.length = rs.length := Paired.length rr
    have ld : xd.length = ds.length := Paired.length rd
    have ls : xs.length = ss.length := Paired.length rS
    have out : ∀ (wd' : Str), wd'.length ≤ 10 → countBad h rs ds ss = some (wd', 0) → ∀ dx, H dx = none → E (.ref ad.cBH) (some dx) (upd H dx (.xd [("number", .int ((0 : Nat) : Int)), ("word", .str wd')])) := fun wd' _ e dx hdx =>
      qx _ e _ _ _ ⟨rfl, dx, rfl, upd_same⟩ (Gr.new wd hdx) (tbs.same (same_new hdx))
    refine ⟨_, (pss_cons (ps_if (pt_not (pt_chain op_le op_le pe_int (pv 0) (pe_glob (v := .int _) rfl g_MOST_HOURS ⟨_, rfl⟩)))
        (pss_one (ps_raise rfl (takes_of rfl rfl rfl rfl) (pmk_c k_BadHouse hr (by decide) rfl (pa_cons pe_str (pa_cons pe_int pa_nil)))))
        pss_nil)
      (pss_cons (ps_if (pt_not (pt_chain op_le op_le pe_int (pe_callB call_len_seq (by rfl) b_len (by decide +kernel) (pa_cons (pv 1) pa_nil)) (pe_glob (v := .int _) rfl g_MOST_ROOMS ⟨_, rfl⟩)))
        (pss_one (ps_raise rfl (takes_of rfl rfl rfl rfl) (pmk_c k_BadHouse hr (by decide) rfl (pa_cons pe_str (pa_cons pe_int pa_nil)))))
        pss_nil)
      (pss_cons (ps_if (pt_cmpR op_gt (pe_callB call_len_seq (by rfl) b_len (by decide +kernel) (pa_cons (pv 2) pa_nil)) (pe_glob (v := .int _) rfl g_MOST_DOORS ⟨_, rfl⟩) (nomark _))
        (pss_one (ps_raise rfl (takes_of rfl rfl rfl rfl) (pmk_c k_BadHouse hr (by decide) rfl (pa_cons pe_str (pa_cons pe_int pa_nil)))))
        pss_nil)
      (pss_one (ps_if (pt_cmpR op_gt (pe_callB call_len_seq (by rfl) b_len (by decide +kernel) (pa_cons (pv 3) pa_nil)) (pe_glob (v := .int _) rfl g_MOST_STAYS ⟨_, rfl⟩) (nomark _))
        (pss_one (ps_raise rfl (takes_of rfl rfl rfl rfl) (pmk_c k_BadHouse hr (by decide) rfl (pa_cons pe_str (pa_cons pe_int pa_nil)))))
        pss_nil))))), ?_⟩
    refine ⟨_, rfl, _, _, rfl, rfl, _, rfl, ?_⟩
    unfold countBad at q0 out
    by_cases h1 : ¬ (1 ≤ h ∧ h ≤ 12)
    · rw [if_pos h1] at out
      by_cases h2 : 1 ≤ h
      · rw [decide_eq_true h2]
        refine iteT ⟨_, _, rfl, rfl, _, rfl, ?_⟩
        rw [decide_eq_false (show ¬ h ≤ 12 from fun z => h1 ⟨h2, z⟩)]
        exact iteT (raise_bh (by decide +kernel) (by decide) (out _ (by decide +kernel) rfl))
      · rw [decide_eq_false h2]
        refine iteF ⟨_, rfl, ?_⟩
        exact iteT (raise_bh (by decide +kernel) (by decide) (out _ (by decide +kernel) rfl))
    rw [if_neg h1] at out q0
    replace h1 := Decidable.not_not.mp h1
    rw [decide_eq_true h1.1]
    refine iteT ⟨_, _, rfl, rfl, _, rfl, ?_⟩
    rw [decide_eq_true h1.2]
    refine iteF ?_
    refine ⟨_, rfl, ra, xr, rfl, .inl (wd.same.seq qr), _, _, rfl, rfl, _, rfl, ?_⟩
    rw [lr]
    by_cases h2 : ¬ (1 ≤ rs.length ∧ rs.length ≤ 6)
    · rw [if_pos h2] at out
      by_cases h3 : (1 : Int) ≤ (rs.length : Int)
      · rw [decide_eq_true h3]
        refine iteT ⟨_, _, rfl, rfl, _, rfl, ?_⟩
        rw [decide_eq_false (show ¬ ((rs.length : Int) ≤ 6) by omega)]
        exact iteT (raise_bh (by decide +kernel) (by decide) (out _ (by decide +kernel) rfl))
      · rw [decide_eq_false h3]
        refine iteF ⟨_, rfl, ?_⟩
        exact iteT (raise_bh (by decide +kernel) (by decide) (out _ (by decide +kernel) rfl))
    rw [if_neg h2] at out q0
    replace h2 := Decidable.not_not.mp h2
    rw [decide_eq_true (show (1 : Int) ≤ (rs.length : Int) by omega)]
    refine iteT ⟨_, _, rfl, rfl, _, rfl, ?_⟩
    rw [decide_eq_true (show (rs.length : Int) ≤ 6 by omega)]
    refine iteF ?_
    refine ⟨_, rfl, da, xd, rfl, .inl (wd.same.seq qd), _, _, rfl, rfl, _, rfl, ?_⟩
    rw [ld]
    by_cases h3 : ds.length > 8
    · rw [if_pos h3] at out
      rw [decide_eq_true (show (8 : Int) < (ds.length : Int) by omega)]
      exact iteT (raise_bh (by decide +kernel) (by decide) (out _ (by decide +kernel) rfl))
    rw [if_neg h3] at out q0
    rw [decide_eq_false (show ¬ ((8 : Int) < (ds.length : Int)) by omega)]
    refine iteF ?_
    refine ⟨_, rfl, sa, xs, rfl, .inl (wd.same.seq qs), _, _, rfl, rfl, _, rfl, ?_⟩
    rw [ls]
    by_cases h4 : ss.length > 20
    · rw [if_pos h4] at out
      rw [decide_eq_true (show (20 : Int) < (ss.length : Int) by omega)]
      exact iteT (raise_bh (by decide +kernel) (by decide) (out _ (by decide +kernel) rfl))
    rw [if_neg h4] at out q0
    rw [decide_eq_false (show ¬ ((20 : Int) < (ss.length : Int)) by omega)]
    exact iteF (q0 rfl H (Gr.refl wd) tbs)
end
end Cr
set_option Elab.async false
set_option linter.all false
set_option maxRecDepth 100000
set_option maxHeartbeats 4000000

namespace Cr
open PySem PySem.Spec PyProof.Rows L2
section
variable {P : Program} {w : World} {K : PySem.W.Frag} {mg : Str → Option Value} {base : Heap} {ad : Ad} {Ps : List Addr} {H : Hp}
/-- what is asked of the rows' widths and counts ahead -/
def WideH (h : Int) (rs ds ss : List (List Int)) : Prop := Wide 4 rs ∧ Wide 3 ds ∧ Wide 5 ss ∧ rs.length < 32 ∧ ds.length < 32 ∧ ss.length < 32
theorem c_parts (T : RawP K mg base ad) (hP : ad.tNum ∈ Ps) : CalX P w K mg base 3 "_check_parts" (spChk ad K Ps WideH partBad) := by
  refine T.cp.calX sc_check_parts (fun vs H Q E h => ?_) (fun f cdv A outer s H vs Q E hr h => ?_)
  · obtain ⟨G, h, ra, da, sa, rs, ds, ss, rfl, _⟩ := h
    rfl
  · obtain ⟨G, h, ra, da, sa, rs, ds, ss, rfl, wd, tbs, hR, hD, hS, ⟨w4, w3, w5, lr, ld, ls⟩, q0, qx⟩ := h
    obtain ⟨xr, qr, rr⟩ := id hR
    obtain ⟨xd, qd, rd⟩ := id hD
    obtain ⟨xs, qs, rS⟩ := id hS
    have b_enumerate := T.b_enumerate
    have k_BadHouse : MakE P w K mg base 1 "BadHouse" ad.cBH (spBHi ad) := mk_bh T
    have k__room_can_be : C8.Cal P w K mg base 2 "_room_can_be" (spRow K Ps 4 roomOk) [] := c_room T hP
    have k__door_can_be : C8.Cal P w K mg base 2 "_door_can_be" (spDoor K Ps) [] := c_door T hP
    have k__stay_can_be : C8.Cal P w K mg base 2 "_stay_can_be" (spStay K Ps) [] := c_stay T hP
    have out : ∀ (wd' : Str) (i : Nat) H', partBad h rs ds ss = some (wd', (i : Int)) → Gr Ps G H G H' → Tabs Ps H' → ∀ dx, H' dx = none → E (.ref ad.cBH) (some dx) (upd H' dx (.xd [("number", .int (i : Int)), ("word", .str wd')])) := fun wd' i H' e g t dx hdx =>
      qx _ e _ _ _ ⟨rfl, dx, rfl, upd_same⟩ (g.trans (Gr.new g.wd hdx)) (t.same (same_new hdx))
    refine ⟨_, (pss_cons (ps_for (passes_of rfl) rfl (pi_enum (by rfl) b_enumerate (pa_cons (pv 1) pa_nil)) (pg_tup rfl (pgs_cons (pg_name (i := 4) sc_check_parts.nd rfl (Or.inl rfl)) (pgs_cons (pg_name (i := 5) sc_check_parts.nd rfl (Or.inl rfl)) pgs_nil)))
        (pss_one (ps_if (pt_not (pt_val (C8.pe_c k__room_can_be hr (by decide) rfl (pa_cons (pv 5) pa_nil))))
        (pss_one (ps_raise rfl (takes_of rfl rfl rfl rfl) (pmk_c k_BadHouse hr (by decide) rfl (pa_cons pe_str (pa_cons (pv 4) pa_nil)))))
        pss_nil)))
      (pss_cons (ps_for (passes_of rfl) rfl (pi_enum (by rfl) b_enumerate (pa_cons (pv 2) pa_nil)) (pg_tup rfl (pgs_cons (pg_name (i := 4) sc_check_parts.nd rfl (Or.inl rfl)) (pgs_cons (pg_name (i := 6) sc_check_parts.nd rfl (Or.inl rfl)) pgs_nil)))
        (pss_one (ps_if (pt_not (pt_val (C8.pe_c k__door_can_be hr (by decide) rfl (pa_cons (pv 6) (pa_cons (pv 1) pa_nil)))))
        (pss_one (ps_raise rfl (takes_of rfl rfl rfl rfl) (pmk_c k_BadHouse hr (by decide) rfl (pa_cons pe_str (pa_cons (pv 4) pa_nil)))))
        pss_nil)))
      (pss_one (ps_for (passes_of rfl) rfl (pi_enum (by rfl) b_enumerate (pa_cons (pv 3) pa_nil)) (pg_tup rfl (pgs_cons (pg_name (i := 4) sc_check_parts.nd rfl (Or.inl rfl)) (pgs_cons (pg_name (i := 7) sc_check_parts.nd rfl (Or.inl rfl)) pgs_nil)))
        (pss_one (ps_if (pt_not (pt_val (C8.pe_c k__stay_can_be hr (by decide) rfl (pa_cons (pv 7) (pa_cons (pv 0) (pa_cons (pv 1) pa_nil))))))
        (pss_one (ps_raise rfl (takes_of rfl rfl rfl rfl) (pmk_c k_BadHouse hr (by decide) rfl (pa_cons pe_str (pa_cons (pv 4) pa_nil)))))
        pss_nil)))))), ?_⟩
    refine ⟨_, rfl, ra, xr, rfl, wd.same.seq qr, for_enum (K := K) (a := ra) (xs := xr) (fun i σ H' => ∃ v4 v5, σ = [some (.int h), some (.ref ra), some (.ref da), some (.ref sa), v4, v5, none, none] ∧ Gr Ps G H G H' ∧ Tabs Ps H' ∧ ∀ (j : Nat) r, j < i → rs[j]? = some r → roomOk r = true)
      ⟨none, none, rfl, Gr.refl wd, tbs, fun j r hj => absurd hj (Nat.not_lt_zero _)⟩ (fun i σ H' _ ⟨_, _, _, g, _⟩ => g.wd.same.seq qr) ?_ ?_⟩
    · rintro i x σ H' U hx ⟨v4, v5, rfl, g, tb', hj⟩ hU
      obtain ⟨r, er, hrow⟩ := paired_get rr hx
      have hi : i < rs.length := (List.getElem?_eq_some_iff.mp er).1
      have g2 := g.trans (Gr.new (o := .tup [.int (i : Nat), x]) g.wd hU)
      refine ⟨U, _, rfl, SqT.of upd_same, rfl, _, _, rfl, _, _, rfl, rfl, ?_⟩
      refine ⟨_, rfl, G, x, r, rfl, g2.wd, tb'.same (same_new hU), hrow, w4 r (List.mem_of_getElem? er), fun H3 g3 tb3 => ⟨_, rfl, ?_⟩⟩
      cases hok : roomOk r with
      | false =>
        refine iteT ⟨_, rfl, ?_⟩
        refine raise_bh (by decide +kernel) (by omega) (out _ i H3 ?_ (g2.trans g3) tb3)
        unfold partBad
        rw [firstNot_some er hok hj]
      | true =>
        refine iteF ⟨_, _, rfl, g2.trans g3, tb3, fun j r' h1 h2 => ?_⟩
        by_cases e : j = i
        · subst e
          rw [er] at h2
          cases h2
          exact hok
        · exact hj j r' (by omega) h2
    rintro σ H1 ⟨v4, v5, rfl, g1, tb1, hj1⟩
    have f1 : firstNot roomOk rs = none := firstNot_none fun j r a b => hj1 j r (by rw [Paired.length rr]; exact a) b
    refine ⟨_, rfl, da, xd, rfl, g1.wd.same.seq qd, for_enum (K := K) (a := da) (xs := xd) (fun i σ H' => ∃ v4 v6, σ = [some (.int h), some (.ref ra), some (.ref da), some (.ref sa), v4, v5, v6, none] ∧ Gr Ps G H G H' ∧ Tabs Ps H' ∧ ∀ (j : Nat) r, j < i → ds[j]? = some r → doorOk rs.length r = true)
      ⟨_, none, rfl, g1, tb1, fun j r hj => absurd hj (Nat.not_lt_zero _)⟩ (fun i σ H' _ ⟨_, _, _, g, _⟩ => g.wd.same.seq qd) ?_ ?_⟩
    · rintro i x σ H' U hx ⟨v4, v6, rfl, g, tb', hj⟩ hU
      obtain ⟨r, er, hrow⟩ := paired_get rd hx
      have hi : i < ds.length := (List.getElem?_eq_some_iff.mp er).1
      have g2 := g.trans (Gr.new (o := .tup [.int (i : Nat), x]) g.wd hU)
      refine ⟨U, _, rfl, SqT.of upd_same, rfl, _, _, rfl, _, _, rfl, rfl, ?_⟩
      refine ⟨_, rfl, _, rfl, G, x, ra, r, rs, rfl, g2.wd, tb'.same (same_new hU), hrow, w3 r (List.mem_of_getElem? er), hR, fun H3 g3 tb3 => ⟨_, rfl, ?_⟩⟩
      cases hok : doorOk rs.length r with
      | false =>
        refine iteT ⟨_, rfl, ?_⟩
        refine raise_bh (by decide +kernel) (by omega) (out _ i H3 ?_ (g2.trans g3) tb3)
        unfold partBad
        rw [f1]
        show (match firstNot (doorOk rs.length) ds with | some i => some (("door" : Str), (i : Int)) | none => _) = _
        rw [firstNot_some er hok hj]
      | true =>
        refine iteF ⟨_, _, rfl, g2.trans g3, tb3, fun j r' h1 h2 => ?_⟩
        by_cases e : j = i
        · subst e
          rw [er] at h2
          cases h2
          exact hok
        · exact hj j r' (by omega) h2
    rintro σ H2 ⟨v4', v6, rfl, g2, tb2, hj2⟩
    have f2 : firstNot (doorOk rs.length) ds = none := firstNot_none fun j r a b => hj2 j r (by rw [Paired.length rd]; exact a) b
    refine ⟨_, rfl, sa, xs, rfl, g2.wd.same.seq qs, for_enum (K := K) (a := sa) (xs := xs) (fun i σ H' => ∃ v4 v7, σ = [some (.int h), some (.ref ra), some (.ref da), some (.ref sa), v4, v5, v6, v7] ∧ Gr Ps G H G H' ∧ Tabs Ps H' ∧ ∀ (j : Nat) r, j < i → ss[j]? = some r → stayOk h rs r = true)
      ⟨_, none, rfl, g2, tb2, fun j r hj => absurd hj (Nat.not_lt_zero _)⟩ (fun i σ H' _ ⟨_, _, _, g, _⟩ => g.wd.same.seq qs) ?_ ?_⟩
    · rintro i x σ H' U hx ⟨v4, v7, rfl, g, tb', hj⟩ hU
      obtain ⟨r, er, hrow⟩ := paired_get rS hx
      have hi : i < ss.length := (List.getElem?_eq_some_iff.mp er).1
      have g2 := g.trans (Gr.new (o := .tup [.int (i : Nat), x]) g.wd hU)
      refine ⟨U, _, rfl, SqT.of upd_same, rfl, _, _, rfl, _, _, rfl, rfl, ?_⟩
      refine ⟨_, rfl, _, rfl, _, rfl, G, x, h, ra, r, rs, rfl, g2.wd, tb'.same (same_new hU), hrow, w5 r (List.mem_of_getElem? er), hR, w4, fun H3 g3 tb3 => ⟨_, rfl, ?_⟩⟩
      cases hok : stayOk h rs r with
      | false =>
        refine iteT ⟨_, rfl, ?_⟩
        refine raise_bh (by decide +kernel) (by omega) (out _ i H3 ?_ (g2.trans g3) tb3)
        unfold partBad
        rw [f1]
        show (match firstNot (doorOk rs.length) ds with | some i => some (("door" : Str), (i : Int)) | none => _) = _
        rw [f2]
        show (match firstNot (stayOk h rs) ss with | some i => some (("stay" : Str), (i : Int)) | none => _) = _
        rw [firstNot_some er hok hj]
      | true =>
        refine iteF ⟨_, _, rfl, g2.trans g3, tb3, fun j r' h1 h2 => ?_⟩
        by_cases e : j = i
        · subst e
          rw [er] at h2
          cases h2
          exact hok
        · exact hj j r' (by omega) h2
    rintro σ H3 ⟨_, _, rfl, g3, tb3, hj3⟩
    have f3 : firstNot (stayOk h rs) ss = none := firstNot_none fun j r a b => hj3 j r (by rw [Paired.length rS]; exact a) b
    refine q0 ?_ H3 g3 tb3
    unfold partBad
    rw [f1]
    show (match firstNot (doorOk rs.length) ds with | some i => some (("door" : Str), (i : Int)) | none => _) = _
    rw [f2]
    show (match firstNot (stayOk h rs) ss with | some i => some (("stay" : Str), (i : Int)) | none => _) = _
    rw [f3]
end
end Cr
set_option Elab.async false
set_option linter.all false
set_option maxRecDepth 100000
set_option maxHeartbeats 4000000

namespace Cr
open PySem PySem.Spec PyProof.Rows L2
/-! ### more of the heaps -/
section
variable {Fs Fs' : List Addr} {G H G1 H1 : Hp} {p : Addr} {o : HO}
theorem Gr.pokeF (g : Gr Fs G H G1 H1) (hp : p ∈ Fs) : Gr Fs G H G1 (upd H1 p o) := by
  have ne : ∀ {b u}, G1 b = some u → b ≠ p := fun {b u} e z => by
    rw [z, g.wd.off p hp] at e; cases e
  refine ⟨g.up, ⟨fun b u e => ?_, g.wd.off, fun c hc z => ?_⟩, fun c u n e => ?_, g.fresh⟩
  · rw [upd_ne (ne e)]; exact g.wd.same _ _ e
  · by_cases hcp : c = p
    · rw [hcp, upd_same] at z; cases z
    · rw [upd_ne hcp] at z; exact g.wd.on c hc z
  · rw [upd_ne (fun z => n (by rw [z]; exact hp))]; exact g.keep c u n e
theorem Gr.free' (g : Gr Fs G H G1 H1) (h : H1 p = none) : H p = none := by
  cases q : H p with
  | none => rfl
  | some o => rw [g.keep p o (g.wd.nin h) q] at h; cases h
theorem Tabs.upd {Ps : List Addr} (t : Tabs Ps H) (n : p ∉ Ps) : Tabs Ps (upd H p o) := fun P hP => by
  obtain ⟨ps, q, r⟩ := t P hP
  exact ⟨ps, by rw [upd_ne (fun z => n (by rw [← z]; exact hP))]; exact q, r⟩
theorem Tabs.nin {Ps : List Addr} (t : Tabs Ps H) (h : H p = none) : p ∉ Ps := fun hP => by
  obtain ⟨ps, q, r⟩ := t p hP
  rw [h] at q; cases q
/-- an instance made and filled stands known in the end -/
theorem Gr.made {H2 : Hp} (w : Wd Fs G H) (hx : H p = none) (s : Same H H2) (g : Gr (p :: Fs) G H2 G1 H1) (e : H1 p = some o) : Gr Fs G H (L2.upd G1 p o) H1 := by
  have hn := w.nin hx
  have gp : G1 p = none := g.wd.off p List.mem_cons_self
  refine ⟨fun b u q => ?_, ⟨fun b u q => ?_, fun c hc => ?_, fun c hc => g.wd.on c (List.mem_cons_of_mem _ hc)⟩, fun c u n q => ?_, fun c q n => ?_⟩
  · have q1 := g.up _ _ q
    rw [upd_ne (fun z => by rw [z, gp] at q1; cases q1)]; exact q1
  · by_cases hb : b = p
    · subst hb; rw [upd_same] at q; rw [e]; exact q
    · rw [upd_ne hb] at q; exact g.wd.same _ _ q
  · rw [upd_ne (fun z => hn (by rw [← z]; exact hc))]; exact g.wd.off c (List.mem_cons_of_mem _ hc)
  · have hcp : c ≠ p := fun z => by rw [z, hx] at q; cases q
    exact g.keep c u (fun hc => by
      rcases List.mem_cons.mp hc with z | z
      · exact hcp z
      · exact n z) (s _ _ q)
  · have hcp : c ≠ p := fun z => n (by rw [z]; exact hx)
    rw [upd_ne hcp]
    refine g.fresh c q fun z => n ?_
    cases h : H c with
    | none => rfl
    | some u => rw [s _ _ h] at z; cases z
end
/-! ### a house: what is used, what must be left -/
def inHere (r t : Int) (s : List Int) : Bool := decide (s.getD 0 0 = r) && (decide (s.getD 1 0 ≤ t) && decide (t < s.getD 2 0))
def wantsOf (ss : List (List Int)) (r t : Int) : List (List Int) := (ss.filter (inHere r t)).map fun s => [s.getD 3 0, s.getD 4 0]
def useOf (ss : List (List Int)) (r t : Int) : Int := ((wantsOf ss r t).map fun s => s.getD 0 0).sum
def leastOf (ss : List (List Int)) (r t : Int) : Int := ((wantsOf ss r t).map fun s => s.getD 1 0).foldl max 0
theorem wantsOf_take {ss : List (List Int)} {i : Nat} {s : List Int} (r t : Int) (e : ss[i]? = some s) : wantsOf (ss.take (i + 1)) r t = wantsOf (ss.take i) r t ++ (if inHere r t s = true then [[s.getD 3 0, s.getD 4 0]] else []) := by
  unfold wantsOf
  rw [List.take_add_one, e]
  rw [List.filter_append, List.map_append]
  congr 1
  by_cases h : inHere r t s = true
  · rw [if_pos h]; simp [h]
  · rw [if_neg h]; simp [h]
/-- the fields of a House, as __init__ stores them -/
def hf (h : Int) (a b c : Addr) : List (Str × V) := putF "_stays" (.ref c) (putF "_doors" (.ref b) (putF "_rooms" (.ref a) (putF "hours" (.int h) [])))
theorem n1 : ¬ (("hours" : Str) = "_rooms") := by decide +kernel
theorem n2 : ¬ (("hours" : Str) = "_doors") := by decide +kernel
theorem n3 : ¬ (("hours" : Str) = "_stays") := by decide +kernel
theorem n4 : ¬ (("_rooms" : Str) = "_doors") := by decide +kernel
theorem n5 : ¬ (("_rooms" : Str) = "_stays") := by decide +kernel
theorem n6 : ¬ (("_doors" : Str) = "_stays") := by decide +kernel
theorem hf_h (h : Int) (a b c : Addr) : (hf h a b c).lookup ("hours" : Str) = some (.int h) := by
  unfold hf
  rw [lookup_putF, if_neg n3, lookup_putF, if_neg n2, lookup_putF, if_neg n1, lookup_putF, if_pos rfl]
theorem hf_r (h : Int) (a b c : Addr) : (hf h a b c).lookup ("_rooms" : Str) = some (.ref a) := by
  unfold hf
  rw [lookup_putF, if_neg n5, lookup_putF, if_neg n4, lookup_putF, if_pos rfl]
theorem hf_d (h : Int) (a b c : Addr) : (hf h a b c).lookup ("_doors" : Str) = some (.ref b) := by
  unfold hf
  rw [lookup_putF, if_neg n6, lookup_putF, if_pos rfl]
theorem hf_s (h : Int) (a b c : Addr) : (hf h a b c).lookup ("_stays" : Str) = some (.ref c) := by
  unfold hf
  rw [lookup_putF, if_pos rfl]
theorem hf_no (h : Int) (a b c : Addr) {m : Str} (h1 : ¬ m = "_stays") (h2 : ¬ m = "_doors") (h3 : ¬ m = "_rooms") (h4 : ¬ m = "hours") : (hf h a b c).lookup m = none := by
  unfold hf
  rw [lookup_putF, if_neg h1, lookup_putF, if_neg h2, lookup_putF, if_neg h3, lookup_putF, if_neg h4]
  all_goals rfl
structure HouseAt (ad : Ad) (K : PySem.W.Frag) (G : Hp) (x : Addr) (h : Int) (rs ds ss : List (List Int)) : Prop where
  ob : ∃ dx a b c, G x = some (.ins ad.cH dx (hf h a b c)) ∧ Rows K G a rs ∧ Rows K G b ds ∧ Rows K G c ss
  ok : houseBad h rs ds ss = none
  w4 : Wide 4 rs
  w3 : Wide 3 ds
  w5 : Wide 5 ss
theorem HouseAt.same {ad : Ad} {K : PySem.W.Frag} {G G' : Hp} {x : Addr} {h : Int} {rs ds ss : List (List Int)} (e : Same G G') (a : HouseAt ad K G x h rs ds ss) : HouseAt ad K G' x h rs ds ss := by
  obtain ⟨⟨dx, a, b, c, q, r1, r2, r3⟩, h1, h2, h3, h4⟩ := a
  exact ⟨⟨dx, a, b, c, e _ _ q, r1.same e, r2.same e, r3.same e⟩, h1, h2, h3, h4⟩
section
variable {P : Program} {w : World} {K : PySem.W.Frag} {mg : Str → Option Value} {base : Heap} {ad : Ad} {Ps : List Addr} {H : Hp}
def spHi (ad : Ad) (K : PySem.W.Frag) (Ps : List Addr) : Sp := fun vs H Q E =>
  ∃ (G : Hp) (x dx : Addr) (h : Int) (ra da sa : Addr) (rs ds ss : List (List Int)), vs = [.ref x, .int h, .ref ra, .ref da, .ref sa] ∧ Wd (x :: Ps) G H ∧ Tabs Ps H ∧ x ∉ Ps ∧ H x = some (.ins ad.cH dx []) ∧ Rows K G ra rs ∧ Rows K G da ds ∧ Rows K G sa ss ∧ Wide 4 rs ∧ Wide 3 ds ∧ Wide 5 ss ∧
    (houseBad h rs ds ss = none → ∀ G' H' a b c, H a = none → H b = none → H c = none → Gr (x :: Ps) G H G' H' → Tabs Ps H' → H' x = some (.ins ad.cH dx (hf h a b c)) → Rows K G' a rs → Rows K G' b ds → Rows K G' c ss → Q .non H') ∧
    (∀ z, houseBad h rs ds ss = some z → ∀ cls d H', Raised ad z cls d H' → Gr (x :: Ps) G H G H' → Tabs Ps H' → E cls d H')
theorem count_lens {h : Int} {rs ds ss : List (List Int)} (e : countBad h rs ds ss = none) : rs.length < 32 ∧ ds.length < 32 ∧ ss.length < 32 := by
  unfold countBad at e
  split at e
  · cases e
  split at e
  · cases e
  rename_i h1 h2
  split at e
  · cases e
  split at e
  · cases e
  omega
theorem putF_len (f : Str) (v : V) {fs : List (Str × V)} {n : Nat} (h : fs.length ≤ n) : (putF f v fs).length ≤ n + 1 := Nat.le_trans (length_putF f v fs) (Nat.succ_le_succ h)
theorem mk_house (T : RawP K mg base ad) (hP : ad.tNum ∈ Ps) : MakX P w K mg base 4 "House" ad.cH (spHi ad K Ps) := by
  refine T.hi.makX scHouse_init (fun vs H Q E h => ?_) (fun f cdv A outer s H vs Q E hr h => ?_)
  · obtain ⟨G, x, dx, h, ra, da, sa, rs, ds, ss, rfl, _⟩ := h
    rfl
  · obtain ⟨G, x, dx, h, ra, da, sa, rs, ds, ss, rfl, wd, tbs, hxP, hx, hR, hD, hS, w4, w3, w5, q0, qx⟩ := h
    have b_list := T.b_list
    have k__check_counts : CalX P w K mg base 3 "_check_counts" (spChk ad K Ps (fun _ _ _ _ => True) countBad) := c_counts T
    have k__check_parts : CalX P w K mg base 3 "_check_parts" (spChk ad K Ps WideH partBad) := c_parts T hP
    have sub : ∀ c ∈ Ps, c ∈ x :: Ps := fun c hc => List.mem_cons_of_mem _ hc
    have wdP : Wd Ps G H := wd.sub sub
    refine ⟨_, (pss_cons (ps_expr (pe_cx k__check_counts hr (by decide) (takes_of rfl rfl rfl rfl) rfl (pa_cons (pv 1) (pa_cons (pv 2) (pa_cons (pv 3) (pa_cons (pv 4) pa_nil))))))
      (pss_cons (ps_expr (pe_cx k__check_parts hr (by decide) (takes_of rfl rfl rfl rfl) rfl (pa_cons (pv 1) (pa_cons (pv 2) (pa_cons (pv 3) (pa_cons (pv 4) pa_nil))))))
      (pss_cons (ps_fld (pv 0) (pv 1) rfl)
      (pss_cons (ps_fld (pv 0) (pe_callTy call_list_of (by rfl) b_list (by decide +kernel) (pa_cons (pv 2) pa_nil)) rfl)
      (pss_cons (ps_fld (pv 0) (pe_callTy call_list_of (by rfl) b_list (by decide +kernel) (pa_cons (pv 3) pa_nil)) rfl)
      (pss_one (ps_fld (pv 0) (pe_callTy call_list_of (by rfl) b_list (by decide +kernel) (pa_cons (pv 4) pa_nil)) rfl))))))), ?_⟩
    refine ⟨_, rfl, _, rfl, _, rfl, _, rfl, G, h, ra, da, sa, rs, ds, ss, rfl, wdP, tbs, hR, hD, hS, True.intro, fun e1 H1 g1 t1 => ?_, fun z e1 cls d H1 rz g1 t1 => ?_⟩
    rotate_left
    · refine qx z ?_ cls d H1 rz (g1.widen wd sub) t1
      unfold houseBad
      rw [e1]
    obtain ⟨lr, ld, ls⟩ := count_lens e1
    refine ⟨_, rfl, _, rfl, _, rfl, _, rfl, G, h, ra, da, sa, rs, ds, ss, rfl, g1.wd, t1, hR, hD, hS, ⟨w4, w3, w5, lr, ld, ls⟩, fun e2 H2 g2 t2 => ?_, fun z e2 cls d H2 rz g2 t2 => ?_⟩
    rotate_left
    · refine qx z ?_ cls d H2 rz ((g1.trans g2).widen wd sub) t2
      unfold houseBad
      rw [e1]
      exact e2
    have ok : houseBad h rs ds ss = none := by
      unfold houseBad
      rw [e1]
      exact e2
    have gx := (g1.trans g2).widen wd sub
    have hx2 : H2 x = some (.ins ad.cH dx []) := (g1.trans g2).keep x _ hxP hx
    have hxF : x ∈ x :: Ps := List.mem_cons_self
    obtain ⟨xr, qr, rr⟩ := id hR
    obtain ⟨xd, qd, rd⟩ := id hD
    obtain ⟨xs, qs, rS⟩ := id hS
    -- self.hours = hours
    refine ⟨_, rfl, _, rfl, x, ad.cH, dx, _, rfl, hx2, T.hcl, T.hnh, by show 0 < 1000; decide, ?_⟩
    have g3 : Gr (x :: Ps) G H G (upd H2 x (.ins ad.cH dx (putF "hours" (.int h) []))) := gx.pokeF hxF
    have t3 : Tabs Ps (upd H2 x (.ins ad.cH dx (putF "hours" (.int h) []))) := t2.upd hxP
    have l1 : (putF "hours" (V.int h) []).length ≤ 1 := putF_len _ _ (Nat.le_refl 0)
    -- self._rooms = list(rooms)
    refine ⟨_, rfl, ra, xr, rfl, .inl (g3.wd.same.seq qr), fun a ha => ?_⟩
    have nax : x ≠ a := fun z => by rw [← z, upd_same] at ha; cases ha
    have g4 := g3.trans (Gr.alloc (o := .lst xr) g3.wd ha)
    have t4 := t3.same (same_new (o := .lst xr) ha)
    refine ⟨_, rfl, x, ad.cH, dx, _, rfl, by rw [upd_ne nax, upd_same], T.hcl, T.hnr, by show _ < 1000; omega, ?_⟩
    have g5 := g4.pokeF (o := .ins ad.cH dx (putF "_rooms" (.ref a) (putF "hours" (.int h) []))) hxF
    have t5 := t4.upd (o := .ins ad.cH dx (putF "_rooms" (.ref a) (putF "hours" (.int h) []))) hxP
    have l2 : (putF "_rooms" (V.ref a) (putF "hours" (V.int h) [])).length ≤ 2 := putF_len _ _ l1
    have ra5 : Rows K (upd G a (.lst xr)) a rs := ⟨xr, SqL.of upd_same, rowsV_same g4.up rr⟩
    -- self._doors = list(doors)
    refine ⟨_, rfl, da, xd, rfl, .inl (g5.wd.same.seq (g4.up.seq qd)), fun b hb => ?_⟩
    have nbx : x ≠ b := fun z => by rw [← z, upd_same] at hb; cases hb
    have g6 := g5.trans (Gr.alloc (o := .lst xd) g5.wd hb)
    have t6 := t5.same (same_new (o := .lst xd) hb)
    refine ⟨_, rfl, x, ad.cH, dx, _, rfl, by rw [upd_ne nbx, upd_same], T.hcl, T.hnd, by show _ < 1000; omega, ?_⟩
    have g7 := g6.pokeF (o := .ins ad.cH dx (putF "_doors" (.ref b) (putF "_rooms" (.ref a) (putF "hours" (.int h) [])))) hxF
    have t7 := t6.upd (o := .ins ad.cH dx (putF "_doors" (.ref b) (putF "_rooms" (.ref a) (putF "hours" (.int h) [])))) hxP
    have l3 : (putF "_doors" (V.ref b) (putF "_rooms" (V.ref a) (putF "hours" (V.int h) []))).length ≤ 3 := putF_len _ _ l2
    have rb7 : Rows K (upd (upd G a (.lst xr)) b (.lst xd)) b ds := ⟨xd, SqL.of upd_same, rowsV_same g6.up rd⟩
    have s67 := (Gr.alloc (o := .lst xd) g5.wd hb).up
    -- self._stays = list(stays)
    refine ⟨_, rfl, sa, xs, rfl, .inl (g7.wd.same.seq (g6.up.seq qs)), fun c hc => ?_⟩
    have ncx : x ≠ c := fun z => by rw [← z, upd_same] at hc; cases hc
    have g8 := g7.trans (Gr.alloc (o := .lst xs) g7.wd hc)
    have t8 := t7.same (same_new (o := .lst xs) hc)
    refine ⟨_, rfl, x, ad.cH, dx, _, rfl, by rw [upd_ne ncx, upd_same], T.hcl, T.hns, by show _ < 1000; omega, ?_⟩
    have s89 := (Gr.alloc (o := .lst xs) g7.wd hc).up
    have fa : H a = none := g3.free' ha
    have fb : H b = none := g5.free' hb
    have fc : H c = none := g7.free' hc
    exact q0 ok _ _ a b c fa fb fc (g8.pokeF hxF) (t8.upd hxP) upd_same ((ra5.same s67).same s89) (rb7.same s89) ⟨xs, SqL.of upd_same, rowsV_same g8.up rS⟩
/-- a new list of rows is told -/
def spNewRows (ad : Ad) (K : PySem.W.Frag) (Ps : List Addr) (R : Int → List (List Int) → List (List Int) → List (List Int) → List (List Int)) : Sp := fun vs H Q _ =>
  ∃ (G : Hp) (x : Addr) (h : Int) (rs ds ss : List (List Int)), vs = [.ref x] ∧ Wd Ps G H ∧ Tabs Ps H ∧ HouseAt ad K G x h rs ds ss ∧
    ∀ l xs H', H l = none → Gr Ps G H G H' → H' l = some (.lst xs) → RowsV K G xs (R h rs ds ss) → Tabs Ps H' → Q (.ref l) H'
theorem c_rooms (T : RawP K mg base ad) : C8.Met P w K mg base 1 ad.cH "rooms" (spNewRows ad K Ps fun _ rs _ _ => rs) [] := by
  refine T.hro.met T.hcl scHouse_rooms (fun vs H Q E h => ?_) (fun f cdv A outer s H vs Q E hr h => ?_)
  · obtain ⟨G, x, h, rs, ds, ss, rfl, _⟩ := h
    rfl
  · obtain ⟨G, x, h, rs, ds, ss, rfl, wd, tbs, ⟨⟨dx, a, b, c, hx, ⟨xr, qr, rr⟩, _, _⟩, _, _, _, _⟩, q⟩ := h
    have b_list := T.b_list
    refine ⟨_, (pss_one (ps_ret (pe_callTy call_list_of (by rfl) b_list (by decide +kernel) (pa_cons (pe_fld (pv 0) rfl) pa_nil)))), ?_⟩
    exact ⟨_, rfl, x, ad.cH, dx, _, _, rfl, wd.same _ _ hx, T.hcl, T.hnr, hf_r _ _ _ _, a, xr, rfl, .inl (wd.same.seq qr), fun l hl => q l xr _ hl (Gr.new wd hl) upd_same rr (tbs.same (same_new hl))⟩
theorem c_doors (T : RawP K mg base ad) : C8.Met P w K mg base 1 ad.cH "doors" (spNewRows ad K Ps fun _ _ ds _ => ds) [] := by
  refine T.hdo.met T.hcl scHouse_doors (fun vs H Q E h => ?_) (fun f cdv A outer s H vs Q E hr h => ?_)
  · obtain ⟨G, x, h, rs, ds, ss, rfl, _⟩ := h
    rfl
  · obtain ⟨G, x, h, rs, ds, ss, rfl, wd, tbs, ⟨⟨dx, a, b, c, hx, _, ⟨xr, qr, rr⟩, _⟩, _, _, _, _⟩, q⟩ := h
    have b_list := T.b_list
    refine ⟨_, (pss_one (ps_ret (pe_callTy call_list_of (by rfl) b_list (by decide +kernel) (pa_cons (pe_fld (pv 0) rfl) pa_nil)))), ?_⟩
    exact ⟨_, rfl, x, ad.cH, dx, _, _, rfl, wd.same _ _ hx, T.hcl, T.hnd, hf_d _ _ _ _, b, xr, rfl, .inl (wd.same.seq qr), fun l hl => q l xr _ hl (Gr.new wd hl) upd_same rr (tbs.same (same_new hl))⟩
theorem c_stays (T : RawP K mg base ad) : C8.Met P w K mg base 1 ad.cH "stays" (spNewRows ad K Ps fun _ _ _ ss => ss) [] := by
  refine T.hst.met T.hcl scHouse_stays (fun vs H Q E h => ?_) (fun f cdv A outer s H vs Q E hr h => ?_)
  · obtain ⟨G, x, h, rs, ds, ss, rfl, _⟩ := h
    rfl
  · obtain ⟨G, x, h, rs, ds, ss, rfl, wd, tbs, ⟨⟨dx, a, b, c, hx, _, _, ⟨xr, qr, rr⟩⟩, _, _, _, _⟩, q⟩ := h
    have b_list := T.b_list
    refine ⟨_, (pss_one (ps_ret (pe_callTy call_list_of (by rfl) b_list (by decide +kernel) (pa_cons (pe_fld (pv 0) rfl) pa_nil)))), ?_⟩
    exact ⟨_, rfl, x, ad.cH, dx, _, _, rfl, wd.same _ _ hx, T.hcl, T.hns, hf_s _ _ _ _, c, xr, rfl, .inl (wd.same.seq qr), fun l hl => q l xr _ hl (Gr.new wd hl) upd_same rr (tbs.same (same_new hl))⟩
end
end Cr
set_option Elab.async false
set_option linter.all false
set_option maxRecDepth 100000
set_option maxHeartbeats 4000000

namespace Cr
open PySem PySem.Spec PyProof.Rows L2
theorem wants_two {ss : List (List Int)} {r t : Int} {z : List Int} (h : z ∈ wantsOf ss r t) : ∃ u n, z = [u, n] := by
  unfold wantsOf at h
  obtain ⟨s, _, rfl⟩ := List.mem_map.mp h
  exact ⟨_, _, rfl⟩
theorem wants_len (ss : List (List Int)) (r t : Int) : (wantsOf ss r t).length ≤ ss.length := by
  unfold wantsOf
  rw [List.length_map]
  exact List.length_filter_le ..
theorem foldl_max_start : ∀ (l : List Int) (a b : Int), l.foldl max (max a b) = max a (l.foldl max b)
  | [], _, _ => rfl
  | x :: l, a, b => by
    rw [List.foldl_cons, List.foldl_cons, show max (max a b) x = max a (max b x) by omega, foldl_max_start l a (max b x)]
theorem map_take_succ {α β : Type} {l : List α} {i : Nat} {a : α} (f : α → β) (e : l[i]? = some a) : (l.take (i + 1)).map f = (l.take i).map f ++ [f a] := by
  rw [List.take_add_one, e, List.map_append]
  rfl
theorem houseBad_lens {h : Int} {rs ds ss : List (List Int)} (e : houseBad h rs ds ss = none) : rs.length < 32 ∧ ds.length < 32 ∧ ss.length < 32 := by
  unfold houseBad at e
  cases q : countBad h rs ds ss with
  | some z => rw [q] at e; cases e
  | none => exact count_lens q
/-- a house has been checked: its stays are so -/
theorem houseBad_stay {h : Int} {rs ds ss : List (List Int)} (e : houseBad h rs ds ss = none) {s : List Int} (hs : s ∈ ss) : stayOk h rs s = true := by
  unfold houseBad at e
  cases q : countBad h rs ds ss with
  | some z => rw [q] at e; cases e
  | none =>
    rw [q] at e
    have e' : partBad h rs ds ss = none := e
    unfold partBad at e'
    split at e'
    · cases e'
    split at e'
    · cases e'
    split at e'
    · cases e'
    rename_i q3
    unfold firstNot at q3
    have z := (List.findIdx?_eq_none_iff.mp q3) s hs
    simpa using z
theorem stayOk_need {h : Int} {rs : List (List Int)} {s : List Int} (e : stayOk h rs s = true) : 0 ≤ s.getD 4 0 := by
  unfold stayOk at e
  split at e
  · rename_i r b e1 u n
    rw [Bool.and_eq_true] at e
    have := List.all_eq_true.mp e.1 n (by simp)
    unfold numOk at this
    simp at this
    exact this.1
  · cases e
section
variable {P : Program} {w : World} {K : PySem.W.Frag} {mg : Str → Option Value} {base : Heap} {ad : Ad} {Ps : List Addr} {H : Hp}
def spWants (ad : Ad) (K : PySem.W.Frag) (Ps : List Addr) : Sp := fun vs H Q _ =>
  ∃ (G : Hp) (x : Addr) (h : Int) (rs ds ss : List (List Int)) (r t : Int), vs = [.ref x, .int r, .int t] ∧ Wd Ps G H ∧ Tabs Ps H ∧ HouseAt ad K G x h rs ds ss ∧
    ∀ l xs G' H', H l = none → Gr Ps G H G' H' → G' l = none → H' l = some (.lst xs) → RowsV K G' xs (wantsOf ss r t) → Tabs Ps H' → Q (.ref l) H'
theorem c_wants (T : RawP K mg base ad) : C8.Met P w K mg base 1 ad.cH "_wants" (spWants ad K Ps) [] := by
  refine T.hwa.met T.hcl scHouse__wants (fun vs H Q E h => ?_) (fun f cdv A outer s H vs Q E hr h => ?_)
  · obtain ⟨G, x, h, rs, ds, ss, r, t, rfl, _⟩ := h
    rfl
  · obtain ⟨G, x, h, rs, ds, ss, r, t, rfl, wd, tbs, ⟨⟨dx, a, b, c, hx, _, _, ⟨xr, qr, rr⟩⟩, hok, _, _, w5⟩, q⟩ := h
    have lens := houseBad_lens hok
    have hlen : xr.length = ss.length := Paired.length rr
    refine ⟨_, (pss_one (ps_ret (pe_lc (own := [("place", 3), ("begin", 4), ("end", 5), ("use", 6), ("need", 7)]) rfl scHouse__wants.nd (pi_list (pe_fld (pv 0) rfl)) (blkOk_by (own := [("place", 3), ("begin", 4), ("end", 5), ("use", 6), ("need", 7)]) (N := nHouse__wants) (sc := defScope sHouse__wants) (by decide +kernel)) (fun _ _ _ _ _ => (pg_tupK (K := K) (n := 5) rfl rfl (pgs_cons (pg_name (i := 3) scHouse__wants.nd rfl (Or.inl rfl) (Or.inr rfl)) (pgs_cons (pg_name (i := 4) scHouse__wants.nd rfl (Or.inl rfl) (Or.inr rfl)) (pgs_cons (pg_name (i := 5) scHouse__wants.nd rfl (Or.inl rfl) (Or.inr rfl)) (pgs_cons (pg_name (i := 6) scHouse__wants.nd rfl (Or.inl rfl) (Or.inr rfl)) (pgs_cons (pg_name (i := 7) scHouse__wants.nd rfl (Or.inl rfl) (Or.inr rfl)) pgs_nil))))))) (fun _ _ _ _ _ => pts_one (PW.pt (pw_and (pt_cmpR op_eq (pv 3 rfl (Or.inl rfl)) (pv 1 rfl (Or.inr (Or.inl rfl))) (nomark _)) (pw_and1 (pt_chain op_le op_lt (pv 4 rfl (Or.inl rfl)) (pv 2 rfl (Or.inr (Or.inl rfl))) (pv 5 rfl (Or.inl rfl))))))) (fun _ _ _ _ _ => (pe_tup (pa_cons (pv 6 rfl (Or.inl rfl)) (pa_cons (pv 7 rfl (Or.inl rfl)) pa_nil))))))), ?_⟩
    refine ⟨_, rfl, x, ad.cH, dx, _, _, rfl, wd.same _ _ hx, T.hcl, T.hns, hf_s _ _ _ _, c, rfl, ⟨xr, wd.same.seq qr⟩, fun D hD => ?_⟩
    have hDP := tbs.nin hD
    refine lc_list (K := K) (a := c) (xs := xr) (fun i H' => ∃ G' acc, Gr Ps G H G' H' ∧ Tabs Ps H' ∧ G' D = none ∧ H' D = some (.lst acc) ∧ RowsV K G' acc (wantsOf (ss.take i) r t))
      ⟨G, [], Gr.new wd hD, tbs.upd hDP, wd.free hD, upd_same, .nil⟩ (fun i H' _ ⟨G', acc, g, _⟩ => g.wd.same.seq (g.up.seq qr)) ?_ ?_
    · rintro i y H' hy ⟨G', acc, g, tb, gD, hacc, hrv⟩
      obtain ⟨z, ez, ty, rfl, hty⟩ := paired_get rr hy
      have hz5 := w5 z (List.mem_of_getElem? ez)
      obtain ⟨pl, bg, en, us, nd, rfl⟩ := len5 hz5
      have hlt : i < ss.length := (List.getElem?_eq_some_iff.mp ez).1
      have hal : acc.length ≤ ss.length := by
        rw [Paired.length hrv]
        exact Nat.le_trans (wants_len _ _ _) (by rw [List.length_take]; omega)
      have hstep := wantsOf_take r t ez
      refine ⟨ty, _, rfl, Same.tup g.wd.same (Same.tup g.up hty), rfl, _, _, rfl, _, _, rfl, _, _, rfl, _, _, rfl, _, _, rfl, rfl, (by (repeat rw [wipe_set (by decide)]); exact wipe_wipe _ _), ?_⟩
      refine ⟨_, rfl, _, rfl, rfl, _, rfl, ?_⟩
      have e0 : decide (V.int pl = V.int r) = decide (pl = r) := by simp
      rw [e0]
      have ein : inHere r t [pl, bg, en, us, nd] = (decide (pl = r) && (decide (bg ≤ t) && decide (t < en))) := rfl
      rw [ein] at hstep
      have stay : (decide (pl = r) && (decide (bg ≤ t) && decide (t < en))) = false → ∃ G' acc, Gr Ps G H G' H' ∧ Tabs Ps H' ∧ G' D = none ∧ H' D = some (.lst acc) ∧ RowsV K G' acc (wantsOf (ss.take (i + 1)) r t) := fun e => by
        rw [e, if_neg Bool.false_ne_true, List.append_nil] at hstep
        exact ⟨G', acc, g, tb, gD, hacc, by rw [hstep]; exact hrv⟩
      refine ite2 (fun h1 => ?_) (fun h1 => ?_)
      · rw [h1, Bool.true_and] at stay hstep
        refine ⟨_, rfl, _, rfl, _, _, rfl, rfl, _, rfl, ?_⟩
        refine ite2 (fun h2 => ?_) (fun h2 => ?_)
        · rw [h2, Bool.true_and] at stay hstep
          refine ⟨_, rfl, _, _, rfl, rfl, _, rfl, ?_⟩
          refine ite2 (fun h3 => ?_) (fun h3 => ?_)
          · have h3' : decide (t < en) = true := h3
            rw [h3', if_pos rfl] at hstep
            refine ⟨_, rfl, _, rfl, by show 2 ≤ sizeLine; decide, fun p hp => ?_⟩
            have npD : D ≠ p := fun z => by rw [z, hp] at hacc; cases hacc
            have g2 := g.trans (Gr.alloc (o := .tup [.int us, .int nd]) g.wd hp)
            have gD2 : upd G' p (.tup [.int us, .int nd]) D = none := by rw [upd_ne npD]; exact gD
            refine ⟨acc, by rw [upd_ne npD]; exact hacc, small1000 (by omega), _, acc ++ [.ref p], g2.poke hD gD2, (tb.same (same_new hp)).upd hDP, gD2, upd_same, ?_⟩
            rw [hstep]
            exact paired_snoc (rowsV_same (Gr.alloc (o := .tup [.int us, .int nd]) g.wd hp).up hrv) ⟨p, rfl, SqT.of upd_same⟩
          · exact stay (Bool.eq_false_iff.mpr h3)
        · rw [Bool.eq_false_iff.mpr h2, Bool.false_and] at stay
          exact ⟨_, rfl, iteF (stay rfl)⟩
      · rw [Bool.eq_false_iff.mpr h1, Bool.false_and] at stay
        exact stay rfl
    · rintro H' ⟨G', acc, g, tb, gD, hacc, hrv⟩
      rw [List.take_of_length_le (by omega)] at hrv
      exact q D acc G' H' hD g gD hacc hrv tb
def spTwo (ad : Ad) (K : PySem.W.Frag) (Ps : List Addr) (F : List (List Int) → Int → Int → Int) : Sp := fun vs H Q _ =>
  ∃ (G : Hp) (x : Addr) (h : Int) (rs ds ss : List (List Int)) (r t : Int), vs = [.ref x, .int r, .int t] ∧ Wd Ps G H ∧ Tabs Ps H ∧ HouseAt ad K G x h rs ds ss ∧
    ∀ G' H', Gr Ps G H G' H' → Tabs Ps H' → Q (.int (F ss r t)) H'
theorem hf_wants (h : Int) (a b c : Addr) : (hf h a b c).lookup ("_wants" : Str) = none := hf_no _ _ _ _ (by decide +kernel) (by decide +kernel) (by decide +kernel) (by decide +kernel)
theorem c_use (T : RawP K mg base ad) : C8.Met P w K mg base 2 ad.cH "use" (spTwo ad K Ps useOf) [] := by
  refine T.hus.met T.hcl scHouse_use (fun vs H Q E h => ?_) (fun f cdv A outer s H vs Q E hr h => ?_)
  · obtain ⟨G, x, h, rs, ds, ss, r, t, rfl, _⟩ := h
    rfl
  · obtain ⟨G, x, h, rs, ds, ss, r, t, rfl, wd, tbs, hH, q⟩ := h
    have b_sum := T.b_sum
    have k_House__wants : C8.Met P w K mg base 1 ad.cH "_wants" (spWants ad K Ps) [] := c_wants T
    obtain ⟨dx, a, b, c, hx, _⟩ := hH.ob
    have lens := houseBad_lens hH.ok
    refine ⟨_, (pss_one (ps_ret (pe_callB (cr_sum rfl) (by rfl) b_sum (by decide +kernel) (pa_cons (pe_lc (own := [("use", 3), ("_", 4)]) rfl scHouse_use.nd (pi_list (C8.pe_mt k_House__wants hr (by decide) (pv 0) (pa_cons (pv 1) (pa_cons (pv 2) pa_nil)))) (blkOk_by (own := [("use", 3), ("_", 4)]) (N := nHouse_use) (sc := defScope sHouse_use) (by decide +kernel)) (fun _ _ _ _ _ => (pg_tupK (K := K) (n := 2) rfl rfl (pgs_cons (pg_name (i := 3) scHouse_use.nd rfl (Or.inl rfl) (Or.inr rfl)) (pgs_cons (pg_name (i := 4) scHouse_use.nd rfl (Or.inl rfl) (Or.inr rfl)) pgs_nil)))) (fun _ _ _ _ _ => pts_nil) (fun _ _ _ _ _ => (pv 3 rfl (Or.inl rfl)))) pa_nil)))), ?_⟩
    refine ⟨_, rfl, x, dx, _, rfl, wd.same _ _ hx, hf_wants _ _ _ _, _, rfl, _, rfl, G, x, h, rs, ds, ss, r, t, rfl, wd, tbs, hH, fun l xs G1 H1 hl g1 gl hxs hrv t1 => ⟨l, rfl, ⟨xs, SqL.of hxs⟩, fun D hD => ?_⟩⟩
    have hDP := t1.nin hD
    have nlD : l ≠ D := ne_of_none hxs hD
    have hlen : xs.length = (wantsOf ss r t).length := Paired.length hrv
    have hln : xs.length < 32 := by
      have := wants_len ss r t
      omega
    refine lc_list (K := K) (a := l) (xs := xs) (fun i H' => Gr Ps G H G1 H' ∧ Tabs Ps H' ∧ H' l = some (.lst xs) ∧ H' D = some (.lst (((wantsOf ss r t).take i).map fun z => V.int (z.getD 0 0))))
      ⟨g1.trans (Gr.new g1.wd hD), t1.upd hDP, by rw [upd_ne nlD]; exact hxs, upd_same⟩ (fun i H' _ ⟨_, _, e, _⟩ => SqL.of e) ?_ ?_
    · rintro i y H' hy ⟨g, tb, hl', hacc⟩
      obtain ⟨z, ez, ty, rfl, hty⟩ := paired_get hrv hy
      obtain ⟨u, n, rfl⟩ := wants_two (List.mem_of_getElem? ez)
      refine ⟨ty, _, rfl, Same.tup g.wd.same hty, rfl, _, _, rfl, _, _, rfl, rfl, (by (repeat rw [wipe_set (by decide)]); exact wipe_wipe _ _), ?_⟩
      have hi : i < xs.length := (List.getElem?_eq_some_iff.mp hy).1
      refine ⟨_, rfl, _, hacc, small1000 (by rw [List.length_map, List.length_take]; omega), g.poke (g1.free' hD) (g1.wd.free hD), tb.upd hDP, by rw [upd_ne nlD]; exact hl', ?_⟩
      rw [upd_same, map_take_succ _ ez]
      rfl
    · rintro H' ⟨g, tb, hl', hacc⟩
      rw [List.take_of_length_le (by omega)] at hacc
      refine ⟨D, (wantsOf ss r t).map fun z => z.getD 0 0, rfl, SqL.of (by rw [hacc, List.map_map]; rfl), ?_⟩
      exact q G1 H' g tb
theorem c_least (T : RawP K mg base ad) : C8.Met P w K mg base 2 ad.cH "least" (spTwo ad K Ps leastOf) [] := by
  refine T.hle.met T.hcl scHouse_least (fun vs H Q E h => ?_) (fun f cdv A outer s H vs Q E hr h => ?_)
  · obtain ⟨G, x, h, rs, ds, ss, r, t, rfl, _⟩ := h
    rfl
  · obtain ⟨G, x, h, rs, ds, ss, r, t, rfl, wd, tbs, hH, q⟩ := h
    have b_max := T.b_max
    have k_House__wants : C8.Met P w K mg base 1 ad.cH "_wants" (spWants ad K Ps) [] := c_wants T
    obtain ⟨dx, a, b, c, hx, _⟩ := hH.ob
    have lens := houseBad_lens hH.ok
    refine ⟨_, (pss_one (ps_ret (pe_callBK (cr_maxDf rfl hr.units) (by rfl) b_max (by decide +kernel) (pa_cons (pe_lc (own := [("_", 3), ("need", 4)]) rfl scHouse_least.nd (pi_list (C8.pe_mt k_House__wants hr (by decide) (pv 0) (pa_cons (pv 1) (pa_cons (pv 2) pa_nil)))) (blkOk_by (own := [("_", 3), ("need", 4)]) (N := nHouse_least) (sc := defScope sHouse_least) (by decide +kernel)) (fun _ _ _ _ _ => (pg_tupK (K := K) (n := 2) rfl rfl (pgs_cons (pg_name (i := 3) scHouse_least.nd rfl (Or.inl rfl) (Or.inr rfl)) (pgs_cons (pg_name (i := 4) scHouse_least.nd rfl (Or.inl rfl) (Or.inr rfl)) pgs_nil)))) (fun _ _ _ _ _ => pts_nil) (fun _ _ _ _ _ => (pv 4 rfl (Or.inl rfl)))) pa_nil) (pk_cons pe_int pk_nil)))), ?_⟩
    refine ⟨_, rfl, x, dx, _, rfl, wd.same _ _ hx, hf_wants _ _ _ _, _, rfl, _, rfl, G, x, h, rs, ds, ss, r, t, rfl, wd, tbs, hH, fun l xs G1 H1 hl g1 gl hxs hrv t1 => ⟨l, rfl, ⟨xs, SqL.of hxs⟩, fun D hD => ?_⟩⟩
    have hDP := t1.nin hD
    have nlD : l ≠ D := ne_of_none hxs hD
    have hlen : xs.length = (wantsOf ss r t).length := Paired.length hrv
    have hln : xs.length < 32 := by
      have := wants_len ss r t
      omega
    refine lc_list (K := K) (a := l) (xs := xs) (fun i H' => Gr Ps G H G1 H' ∧ Tabs Ps H' ∧ H' l = some (.lst xs) ∧ H' D = some (.lst (((wantsOf ss r t).take i).map fun z => V.int (z.getD 1 0))))
      ⟨g1.trans (Gr.new g1.wd hD), t1.upd hDP, by rw [upd_ne nlD]; exact hxs, upd_same⟩ (fun i H' _ ⟨_, _, e, _⟩ => SqL.of e) ?_ ?_
    · rintro i y H' hy ⟨g, tb, hl', hacc⟩
      obtain ⟨z, ez, ty, rfl, hty⟩ := paired_get hrv hy
      obtain ⟨u, n, rfl⟩ := wants_two (List.mem_of_getElem? ez)
      refine ⟨ty, _, rfl, Same.tup g.wd.same hty, rfl, _, _, rfl, _, _, rfl, rfl, (by (repeat rw [wipe_set (by decide)]); exact wipe_wipe _ _), ?_⟩
      have hi : i < xs.length := (List.getElem?_eq_some_iff.mp hy).1
      refine ⟨_, rfl, _, hacc, small1000 (by rw [List.length_map, List.length_take]; omega), g.poke (g1.free' hD) (g1.wd.free hD), tb.upd hDP, by rw [upd_ne nlD]; exact hl', ?_⟩
      rw [upd_same, map_take_succ _ ez]
      rfl
    · rintro H' ⟨g, tb, hl', hacc⟩
      rw [List.take_of_length_le (by omega)] at hacc
      refine ⟨D, (wantsOf ss r t).map fun z => z.getD 1 0, .int 0, rfl, rfl, SqL.of (by rw [hacc, List.map_map]; rfl), fun e => ?_, fun n rr e => ?_⟩
      · have z := q G1 H' g tb
        unfold leastOf at z
        rw [e] at z
        exact z
      · have z := q G1 H' g tb
        unfold leastOf at z
        rw [e, List.foldl_cons] at z
        have hn : 0 ≤ n := by
          have hm : n ∈ (wantsOf ss r t).map (fun z => z.getD 1 0) := by rw [e]; exact List.mem_cons_self
          obtain ⟨y, hy, rfl⟩ := List.mem_map.mp hm
          unfold wantsOf at hy
          obtain ⟨s', hs', rfl⟩ := List.mem_map.mp hy
          exact stayOk_need (houseBad_stay hH.ok (List.mem_filter.mp hs').1)
        rw [show max 0 n = n by omega] at z
        exact z
end
end Cr
set_option Elab.async false
set_option linter.all false
set_option maxRecDepth 100000
set_option maxHeartbeats 4000000

namespace Cr
open PySem PySem.Spec PyProof.Rows L2
abbrev s_law_begun : Stmt := top 21
abbrev n_law_begun : List Str := ["_law_script", "_law_stirred", "_law_cell"]
abbrev a_law_begun : List Str := ["_law_script"]
theorem sc_law_begun : FnScope n_law_begun a_law_begun (defScope s_law_begun) := ⟨rfl, rfl, rfl, by decide +kernel, rfl, by decide +kernel, by decide +kernel⟩
abbrev s_law_take : Stmt := top 22
abbrev n_law_take : List Str := ["_law_box", "_law_many", "_law_number"]
abbrev a_law_take : List Str := ["_law_box", "_law_many"]
theorem sc_law_take : FnScope n_law_take a_law_take (defScope s_law_take) := ⟨rfl, rfl, rfl, by decide +kernel, rfl, by decide +kernel, by decide +kernel⟩
abbrev s_law_alike : Stmt := top 23
abbrev n_law_alike : List Str := ["_law_found", "_law_due", "_law_k"]
abbrev a_law_alike : List Str := ["_law_found", "_law_due"]
theorem sc_law_alike : FnScope n_law_alike a_law_alike (defScope s_law_alike) := ⟨rfl, rfl, rfl, by decide +kernel, rfl, by decide +kernel, by decide +kernel⟩
/-! ### the box of draws: a list at b of the script's numbers (a list at l) and a number -/
def BoxAt (b l : Addr) (H : Hp) : Prop := ∃ (z : Int) (ns : List Int), H b = some (.lst [.ref l, .int z]) ∧ H l = some (.lst (ns.map V.int)) ∧ ns.length ≤ 63
structure Bx (Ps : List Addr) (b l : Addr) (G0 H0 G H : Hp) : Prop where
  gr : Gr (b :: l :: Ps) G0 H0 G H
  box : BoxAt b l H
  tabs : Tabs Ps H
  bl : b ≠ l
  nb : b ∉ Ps
  nl : l ∉ Ps
section
variable {Ps : List Addr} {b l p : Addr} {G0 H0 G H G1 H1 : Hp} {o : HO}
theorem bF {b l : Addr} {Ps : List Addr} : b ∈ b :: l :: Ps := List.mem_cons_self
theorem lF {b l : Addr} {Ps : List Addr} : l ∈ b :: l :: Ps := List.mem_cons_of_mem _ List.mem_cons_self
theorem Bx.start (x : Bx Ps b l G0 H0 G H) : Bx Ps b l G H G H := ⟨Gr.refl x.gr.wd, x.box, x.tabs, x.bl, x.nb, x.nl⟩
theorem Bx.trans (x : Bx Ps b l G0 H0 G H) (y : Bx Ps b l G H G1 H1) : Bx Ps b l G0 H0 G1 H1 := ⟨x.gr.trans y.gr, y.box, y.tabs, x.bl, x.nb, x.nl⟩
theorem Bx.wd (x : Bx Ps b l G0 H0 G H) : Wd (b :: l :: Ps) G H := x.gr.wd
theorem Bx.neb (x : Bx Ps b l G0 H0 G H) (hp : H p = none) : b ≠ p := fun z => by
  obtain ⟨_, _, e, _⟩ := x.box
  rw [z, hp] at e; cases e
theorem Bx.nel (x : Bx Ps b l G0 H0 G H) (hp : H p = none) : l ≠ p := fun z => by
  obtain ⟨_, _, _, e, _⟩ := x.box
  rw [z, hp] at e; cases e
theorem BoxAt.upd (h : BoxAt b l H) (hb : b ≠ p) (hl : l ≠ p) : BoxAt b l (upd H p o) := by
  obtain ⟨z, ns, e1, e2, e3⟩ := h
  exact ⟨z, ns, by rw [upd_ne hb]; exact e1, by rw [upd_ne hl]; exact e2, e3⟩
theorem Bx.new (x : Bx Ps b l G0 H0 G H) (hp : H p = none) : Bx Ps b l G0 H0 G (upd H p o) :=
  ⟨x.gr.trans (Gr.new x.wd hp), x.box.upd (x.neb hp) (x.nel hp), x.tabs.same (same_new hp), x.bl, x.nb, x.nl⟩
theorem Bx.alloc (x : Bx Ps b l G0 H0 G H) (hp : H p = none) : Bx Ps b l G0 H0 (upd G p o) (upd H p o) :=
  ⟨x.gr.trans (Gr.alloc x.wd hp), x.box.upd (x.neb hp) (x.nel hp), x.tabs.same (same_new hp), x.bl, x.nb, x.nl⟩
/-- a thing made since the start and not known: not the box, no table -/
theorem Bx.apart (x : Bx Ps b l G0 H0 G0 H0) (h0 : H0 p = none) : b ≠ p ∧ l ≠ p ∧ p ∉ Ps := ⟨x.neb h0, x.nel h0, x.tabs.nin h0⟩
theorem Bx.poke (x : Bx Ps b l G0 H0 G H) (s : Bx Ps b l G0 H0 G0 H0) (h0 : H0 p = none) (hg : G p = none) : Bx Ps b l G0 H0 G (upd H p o) := by
  obtain ⟨h1, h2, h3⟩ := s.apart h0
  exact ⟨x.gr.poke h0 hg, x.box.upd h1 h2, x.tabs.upd h3, x.bl, x.nb, x.nl⟩
theorem Bx.close (x : Bx Ps b l G0 H0 G H) (s : Bx Ps b l G0 H0 G0 H0) (h0 : H0 p = none) (h1 : H p = some o) (hg : G p = none) : Bx Ps b l G0 H0 (upd G p o) H := by
  obtain ⟨a1, a2, a3⟩ := s.apart h0
  refine ⟨x.gr.close h0 h1 (fun h => ?_) hg, x.box, x.tabs, x.bl, x.nb, x.nl⟩
  rcases List.mem_cons.mp h with z | h
  · exact a1 z.symm
  rcases List.mem_cons.mp h with z | h
  · exact a2 z.symm
  · exact a3 h
theorem Bx.pure (x : Bx Ps b l G0 H0 G H) (g : Gr Ps G H G1 H1) (t : Tabs Ps H1) : Bx Ps b l G0 H0 G1 H1 := by
  have gw := g.widen x.wd (fun c hc => List.mem_cons_of_mem _ (List.mem_cons_of_mem _ hc))
  refine ⟨x.gr.trans gw, ?_, t, x.bl, x.nb, x.nl⟩
  obtain ⟨z, ns, e1, e2, e3⟩ := x.box
  exact ⟨z, ns, g.keep _ _ x.nb e1, g.keep _ _ x.nl e2, e3⟩
theorem Bx.wdP (x : Bx Ps b l G0 H0 G H) : Wd Ps G H := x.wd.sub fun c hc => List.mem_cons_of_mem _ (List.mem_cons_of_mem _ hc)
end
section
variable {P : Program} {w : World} {K : PySem.W.Frag} {mg : Str → Option Value} {base : Heap} {Ps : List Addr} {H : Hp}
/-- what the top says of the law's helpers -/
structure RawL (K : PySem.W.Frag) (mg : Str → Option Value) : Prop where
  begun : DefR K mg "_law_begun" s_law_begun a_law_begun
  take : DefR K mg "_law_take" s_law_take a_law_take
  alike : DefR K mg "_law_alike" s_law_alike a_law_alike
  b_len : mg "len" = none
  b_list : mg "list" = none
  b_int : mg "int" = none
  b_bool : mg "bool" = none
  b_str : mg "str" = none
  b_tuple : mg "tuple" = none
  b_isinstance : mg "isinstance" = none
  b_range : mg "range" = none
def spBegun (K : PySem.W.Frag) : Sp := fun vs H Q _ => ∃ (a : Addr) (ns : List Int), vs = [.ref a] ∧ SqL K H a (ns.map V.int) ∧ ns.length ≤ 63 ∧ ∀ b l H', H b = none → H l = none → b ≠ l → Same H H' → BoxAt b l H' → Q (.ref b) H'
theorem c_begun (T : RawL K mg) : C8.Cal P w K mg base 1 "_law_begun" (spBegun K) [] := by
  refine T.begun.cal sc_law_begun (fun vs H Q E h => ?_) (fun f cdv A outer s H vs Q E hr h => ?_)
  · obtain ⟨a, ns, rfl, _⟩ := h
    rfl
  · obtain ⟨a, ns, rfl, ha, hl, q⟩ := h
    have b_len := T.b_len
    have b_list := T.b_list
    have b_int := T.b_int
    refine ⟨_, (pss_cons (ps_set (i := 1) sc_law_begun.nd rfl (Or.inl rfl) pe_int)
      (pss_cons (ps_for PassesOwn.never rfl (pi_list (pv 0)) (pg_name (i := 2) sc_law_begun.nd rfl (Or.inl rfl))
        (pss_one (ps_set (i := 1) sc_law_begun.nd rfl (Or.inl rfl) (pe_op op_modN (pe_op op_add (pe_op op_add (pe_op op_mul (pv 1) pe_int) (pe_op op_mul (pv 2) pe_int)) pe_int) pe_int))))
      (pss_one (ps_ret (pe_lst (pa_cons (pe_callTy call_list_of (by rfl) b_list (by decide +kernel) (pa_cons (pv 0) pa_nil)) (pa_cons (pe_op op_mul (pv 1) (pe_callTy call_int1 (by rfl) b_int (by decide +kernel) (pa_cons (pe_cmpR op_gt (pe_callB call_len_seq (by rfl) b_len (by decide +kernel) (pa_cons (pv 0) pa_nil)) pe_int (nomark _)) pa_nil))) pa_nil))))))), ?_⟩
    refine ⟨_, rfl, a, rfl, ⟨_, ha⟩, for_list (K := K) (a := a) (xs := ns.map V.int) (fun i σ H' => ∃ (z : Int) (v : Option V), σ = [some (.ref a), some (.int z), v] ∧ H' = H) ⟨0, none, rfl, rfl⟩ (fun i σ H' _ ⟨_, _, _, e⟩ => by rw [e]; exact ha) ?_ ?_⟩
    · rintro i x σ H' hx ⟨z, v, rfl, rfl⟩
      rw [List.getElem?_map] at hx
      obtain ⟨n, _, rfl⟩ := Option.map_eq_some_iff.mp hx
      refine ⟨_, rfl, _, _, rfl, rfl, .inr ⟨by decide, by decide⟩, _, rfl, _, _, rfl, rfl, .inr ⟨by decide, by decide⟩, _, _, rfl, rfl, _, _, rfl, rfl, _, _, rfl, rfl, by show (2147483647 : Int) ≠ 0; decide, ?_⟩
      exact ⟨_, _, rfl, rfl⟩
    · rintro σ H' ⟨z, v, rfl, rfl⟩
      refine ⟨_, rfl, a, _, rfl, .inl ha, fun l hl' => ?_⟩
      refine ⟨_, rfl, _, rfl, a, _, rfl, .inl ((same_new hl').seq ha), _, _, rfl, rfl, .inr ⟨_, rfl, _, _, rfl, rfl, .inr ?_, by show 2 ≤ sizeLine; decide, fun b hb => ?_⟩⟩
      · split <;> decide
      · have nlb : l ≠ b := ne_of_none upd_same hb
        rw [upd_ne (Ne.symm nlb)] at hb
        refine q b l _ hb hl' (Ne.symm nlb) (fun c o e => ?_) ⟨_, ns, upd_same, by rw [upd_ne nlb, upd_same], hl⟩
        rw [upd_ne (ne_of_none e hb), upd_ne (ne_of_none e hl')]
        exact e
theorem shaped_ints (ns : List Int) : SeqAt.shaped (.list (ns.map PyData.int)) = true := by
  unfold SeqAt.shaped
  rw [Bool.and_eq_true, decide_eq_true_eq]
  constructor
  · show PyData.canLay0 (.list (ns.map PyData.int)) = true
    induction ns with
    | nil => rfl
    | cons n r ih =>
      simp only [List.map_cons, PyData.canLay0, PyData.canLayAll0] at ih ⊢
      simp [ih]
  · have := depth_ints ns
    simp only [PyData.depth]
    omega
theorem eqv_nil (ns : List Int) : PyData.eqv (.list (ns.map PyData.int)) (.list []) = ns.isEmpty := by
  cases ns with
  | nil => rfl
  | cons n r => rfl
theorem ixN_zero {n : Nat} (h : 0 < n) : ixN n 0 = some 0 := by
  unfold ixN
  rw [if_pos (by omega), if_pos (by omega)]
  rfl
theorem fmod_range (x : Int) {m : Int} (h : 0 < m) : 0 ≤ x.fmod m ∧ x.fmod m < m := ⟨Int.fmod_nonneg_of_pos x h, Int.fmod_lt_of_pos x h⟩
/-- a number is drawn -/
def spTake (Ps : List Addr) : Sp := fun vs H Q _ => ∃ (b l : Addr) (m : Int) (G : Hp), vs = [.ref b, .int m] ∧ 0 < m ∧ m < 1000000 ∧ Bx Ps b l G H G H ∧ ∀ (r : Int) H', 0 ≤ r → r < m → Bx Ps b l G H G H' → Q (.int r) H'
theorem c_take (T : RawL K mg) : C8.Cal P w K mg base 1 "_law_take" (spTake Ps) [] := by
  refine T.take.cal sc_law_take (fun vs H Q E h => ?_) (fun f cdv A outer s H vs Q E hr h => ?_)
  · obtain ⟨b, l, m, G, rfl, _⟩ := h
    rfl
  · obtain ⟨b, l, m, G, rfl, m0, m1, B, q⟩ := h
    obtain ⟨z, ns, hb, hl, hn⟩ := B.box
    refine ⟨_, (pss_cons (ps_if (pt_cmpR (op_eqD hr.units) (pe_ix ix_seq (pv 0) pe_int (fun _ _ => rfl)) (pe_lst pa_nil) (nomark _))
        (pss_cons (ps_asg (pe_op op_modN (pe_op op_mul (pe_ix ix_seq (pv 0) pe_int (fun _ _ => rfl)) pe_int) pe_int) (pg_sub (pv 0) pe_int set_list))
      (pss_one (ps_ret (pe_op op_modN (pe_op op_fdivN (pe_ix ix_seq (pv 0) pe_int (fun _ _ => rfl)) pe_int) (pv 1)))))
        pss_nil)
      (pss_cons (ps_set (i := 2) sc_law_take.nd rfl (Or.inl rfl) (pe_ix ix_seq (pe_ix ix_seq (pv 0) pe_int (fun _ _ => rfl)) pe_int (fun _ _ => rfl)))
      (pss_cons (ps_asg (pe_op op_fdivN (pv 2) (pv 1)) (pg_sub (pe_ix ix_seq (pv 0) pe_int (fun _ _ => rfl)) pe_int set_list))
      (pss_cons (ps_if (PW.pt (pw_or (pt_cmpR op_eq (pe_ix ix_seq (pe_ix ix_seq (pv 0) pe_int (fun _ _ => rfl)) pe_int (fun _ _ => rfl)) pe_int (nomark _)) (pw_or1 (pt_cmpR op_eq (pe_ix ix_seq (pe_ix ix_seq (pv 0) pe_int (fun _ _ => rfl)) pe_int (fun _ _ => rfl)) (pe_un un_neg pe_int) (nomark _)))))
        (pss_one (ps_expr (pe_bm PySem.F.plainAttrs_list PySem.F.slot_list_pop PySem.F.type_list_pop mt_popAt (pe_ix ix_seq (pv 0) pe_int (fun _ _ => rfl)) (pa_cons pe_int pa_nil))))
        pss_nil)
      (pss_one (ps_ret (pe_op op_modN (pv 2) (pv 1)))))))), ?_⟩
    have ix0 : atI [V.ref l, V.int z] (((0 : Nat) : Nat) : Int) = some (V.ref l) := atI_nat rfl
    have ix1 : atI [V.ref l, V.int z] ((1 : Nat) : Int) = some (V.int z) := atI_nat rfl
    refine ⟨_, rfl, .inl ⟨b, _, _, _, rfl, rfl, SqL.of hb, ix0, Nat.zero_le _, fun e he => ?_⟩⟩
    have nbe : b ≠ e := B.neb he
    have nle : l ≠ e := B.nel he
    have hb1 : (upd H e (.lst [])) b = some (.lst [.ref l, .int z]) := by rw [upd_ne nbe]; exact hb
    have hl1 : (upd H e (.lst [])) l = some (.lst (ns.map V.int)) := by rw [upd_ne nle]; exact hl
    have B1 : Bx Ps b l G H G (upd H e (.lst [])) := B.new he
    refine ⟨_, _, .lst (SqL.of hl1) (dpAll_ints ns), .lst (SqL.of upd_same) .nil, shaped_ints ns, by decide +kernel, _, rfl, ?_⟩
    rw [eqv_nil]
    cases ns with
    | nil =>
      refine iteT ?_
      refine ⟨_, rfl, .inl ⟨b, _, _, _, rfl, rfl, SqL.of hb1, ix1, _, _, rfl, rfl, .inr ⟨by decide, by decide⟩, _, _, rfl, rfl, by show (2147483647 : Int) ≠ 0; decide, ?_⟩⟩
      refine ⟨_, rfl, b, _, _, 1, rfl, rfl, hb1, rfl, ?_⟩
      refine ⟨_, rfl, .inl ⟨b, _, _, _, rfl, rfl, SqL.of upd_same, atI_nat (j := 1) rfl, _, _, rfl, rfl, ⟨by decide, by decide⟩, _, rfl, _, _, rfl, rfl, by omega, ?_⟩⟩
      obtain ⟨r1, r2⟩ := fmod_range (((z * 48271).fmod 2147483647).fdiv 7) m0
      refine q _ _ r1 r2 ⟨B1.gr.pokeF bF, ⟨_, [], upd_same, by rw [upd_ne B.bl.symm]; exact hl1, by decide⟩, B1.tabs.upd B.nb, B.bl, B.nb, B.nl⟩
    | cons n r =>
      refine iteF ?_
      refine ⟨_, rfl, .inl ⟨b, _, _, _, rfl, rfl, SqL.of hb1, ix0, .inl ⟨l, _, _, _, rfl, rfl, SqL.of hl1, atI_nat (j := 0) rfl, ?_⟩⟩⟩
      refine ⟨_, rfl, _, rfl, _, _, rfl, rfl, ⟨by omega, by omega⟩, ?_⟩
      refine ⟨_, rfl, .inl ⟨b, _, _, _, rfl, rfl, SqL.of hb1, ix0, l, _, _, 0, rfl, rfl, hl1, ixN_zero (by simp), ?_⟩⟩
      have hb2 : ∀ o, (upd (upd H e (.lst [])) l o) b = some (.lst [.ref l, .int z]) := fun o => by rw [upd_ne B.bl]; exact hb1
      have B2 : ∀ k : Int, Bx Ps b l G H G (upd (upd H e (.lst [])) l (.lst ((k :: r).map V.int))) := fun k => ⟨B1.gr.pokeF lF, ⟨z, k :: r, hb2 _, upd_same, hn⟩, B1.tabs.upd B.nl, B.bl, B.nb, B.nl⟩
      obtain ⟨r1, r2⟩ := fmod_range n m0
      have fin : ∀ H', Bx Ps b l G H G H' → ∃ v, ([some (.ref b), some (.int m), some (.int n)] : L2.St)[2]? = some (some v) ∧ ∃ v2, ([some (.ref b), some (.int m), some (.int n)] : L2.St)[1]? = some (some v2) ∧ ∃ i j, v = .int i ∧ v2 = .int j ∧ j ≠ 0 ∧ Q (.int (i.fmod j)) H' := fun H' B' => ⟨_, rfl, _, rfl, n, m, rfl, rfl, by omega, q _ H' r1 r2 B'⟩
      have pop : ∀ k : Int, Bx Ps b l G H G (upd (upd (upd H e (.lst [])) l (.lst ((k :: r).map V.int))) l (.lst (r.map V.int))) := fun k => ⟨(B2 k).gr.pokeF lF, ⟨z, r, by rw [upd_ne B.bl]; exact hb2 _, upd_same, by simp at hn; omega⟩, (B2 k).tabs.upd B.nl, B.bl, B.nb, B.nl⟩
      refine ⟨_, rfl, .inl ⟨b, _, _, _, rfl, rfl, SqL.of (hb2 _), ix0, .inl ⟨l, _, _, _, rfl, rfl, SqL.of upd_same, atI_nat (j := 0) rfl, rfl, _, rfl, ?_⟩⟩⟩
      have dopop : ∀ k : Int, ∃ v, ([some (.ref b), some (.int m), some (.int n)] : L2.St)[0]? = some (some v) ∧ (∀ Q' : VK, (Q' (.ref l) (upd (upd H e (.lst [])) l (.lst ((k :: r).map V.int)))) → rIx K v (.int 0) (upd (upd H e (.lst [])) l (.lst ((k :: r).map V.int))) Q') := fun k => ⟨_, rfl, fun Q' h => .inl ⟨b, _, _, _, rfl, rfl, SqL.of (hb2 _), ix0, h⟩⟩
      by_cases h0 : n.fdiv m = 0
      · rw [decide_eq_true (show V.int (n.fdiv m) = V.int 0 by rw [h0])]
        refine iteT (iteT ?_)
        refine ⟨_, rfl, .inl ⟨b, _, _, _, rfl, rfl, SqL.of (hb2 _), ix0, .inl ⟨rfl, _, SqL.of upd_same⟩, l, _, _, 0, _, rfl, rfl, upd_same, by decide, by decide, (ixN_seq (ixN_zero (by simp))).1, rfl, ?_⟩⟩
        exact fin _ (pop _)
      · rw [decide_eq_false (show ¬ V.int (n.fdiv m) = V.int 0 from fun z => h0 (V.int.inj z))]
        refine iteF ?_
        refine ⟨_, rfl, .inl ⟨b, _, _, _, rfl, rfl, SqL.of (hb2 _), ix0, .inl ⟨l, _, _, _, rfl, rfl, SqL.of upd_same, atI_nat (j := 0) rfl, _, rfl, rfl, _, rfl, ?_⟩⟩⟩
        by_cases h1 : n.fdiv m = -1
        · rw [decide_eq_true (show V.int (n.fdiv m) = V.int (-1) by rw [h1])]
          refine iteT ?_
          refine ⟨_, rfl, .inl ⟨b, _, _, _, rfl, rfl, SqL.of (hb2 _), ix0, .inl ⟨rfl, _, SqL.of upd_same⟩, l, _, _, 0, _, rfl, rfl, upd_same, by decide, by decide, (ixN_seq (ixN_zero (by simp))).1, rfl, ?_⟩⟩
          exact fin _ (pop _)
        · rw [decide_eq_false (show ¬ V.int (n.fdiv m) = V.int (-1) from fun z => h1 (V.int.inj z))]
          refine iteF ?_
          exact fin _ (B2 _)
end
end Cr
set_option Elab.async false
set_option linter.all false
set_option maxRecDepth 100000
set_option maxHeartbeats 4000000

namespace Cr
open PySem PySem.Spec PyProof.Rows L2
/-! ### two things of the same data are told alike -/
def shp : Nat → PyData → Prop
  | _, .none => True
  | _, .bool _ => True
  | _, .int _ => True
  | _, .str _ => True
  | n + 1, .list ds => ds.length ≤ 1000 ∧ ∀ d ∈ ds, shp n d
  | n + 1, .tuple ds => ds.length ≤ 1000 ∧ ∀ d ∈ ds, shp n d
  | _, _ => False
def spAlike (K : PySem.W.Frag) : Nat → Sp
  | 0 => fun _ _ _ _ => False
  | n + 1 => fun vs H Q _ => ∃ (x y : V) (d : PyData), vs = [x, y] ∧ Dp K H x d ∧ Dp K H y d ∧ shp n d ∧ Q (.bl true) H
section
variable {K : PySem.W.Frag} {H : Hp}
theorem sqL_ty {a : Addr} {xs : List V} (h : SqL K H a xs) : TyX K H (.ref a) (.type "list") := by
  rcases h with (h | ⟨o, h⟩) | ⟨o, vs, n, h, hc, _⟩
  · exact .base (.lst h)
  · exact .base (.frz h)
  · exact .kList h hc
theorem sqT_ty {a : Addr} {xs : List V} (h : SqT K H a xs) : TyX K H (.ref a) (.type "tuple") := by
  rcases h with (h | ⟨o, h⟩) | ⟨o, vs, n, h, hc, _⟩
  · exact .base (.tup h)
  · exact .fTuple h
  · exact .kTuple h hc
theorem dpAll_len : ∀ {xs : List V} {ds : List PyData}, DpAll K H xs ds → xs.length = ds.length
  | _, _, .nil => rfl
  | _, _, .cons _ r => congrArg (· + 1) (dpAll_len r)
theorem dpAll_get : ∀ {xs : List V} {ds : List PyData} {i : Nat} {d : PyData}, DpAll K H xs ds → ds[i]? = some d → ∃ x, xs[i]? = some x ∧ Dp K H x d
  | _, _, _, _, .nil, e => by simp at e
  | _, _, 0, _, .cons r _, e => by simp at e; subst e; exact ⟨_, rfl, r⟩
  | _, _, i + 1, d, .cons _ t, e => by
    obtain ⟨y, h1, h2⟩ := dpAll_get (i := i) (d := d) t (by simpa using e)
    exact ⟨y, by simpa using h1, h2⟩
end
section
variable {P : Program} {w : World} {K : PySem.W.Frag} {mg : Str → Option Value} {base : Heap}
theorem c_alike (T : RawL K mg) : ∀ n : Nat, C8.Cal P w K mg base n "_law_alike" (spAlike K n) []
  | 0 => by
    obtain ⟨f, fd, F, hm, bi⟩ := T.alike
    exact ⟨f, fd, _, [], ⟨fun _ _ _ _ h => h.elim, fun _ _ _ _ _ _ _ _ _ _ _ _ _ h => h.elim⟩, hm, F.kp, bi, .nil⟩
  | n + 1 => by
    have k__law_alike : C8.Cal P w K mg base n "_law_alike" (spAlike K n) [] := c_alike T n
    refine T.alike.cal sc_law_alike (fun vs H Q E h => ?_) (fun f cdv A outer s H vs Q E hr h => ?_)
    · obtain ⟨x, y, d, rfl, _⟩ := h
      rfl
    · obtain ⟨x, y, d, rfl, hx, hy, hs, q⟩ := h
      have b_len := T.b_len
      have b_int := T.b_int
      have b_bool := T.b_bool
      have b_str := T.b_str
      have b_tuple := T.b_tuple
      have b_list := T.b_list
      have b_isinstance := T.b_isinstance
      have b_range := T.b_range
      refine ⟨_, (pss_cons (ps_if (pt_cmp (pc_isN (pv 1)))
        (pss_one (ps_ret (pe_cmp (pc_isN (pv 0)) rfl)))
        pss_nil)
      (pss_cons (ps_if (pt_val (pe_callB call_isi (by rfl) b_isinstance (by decide +kernel) (pa_cons (pv 1) (pa_cons (pe_bltn (v := .ty "bool") (by rfl) b_bool (by decide +kernel) rfl) pa_nil))))
        (pss_one (ps_ret (pe_and (pe_callB call_isi (by rfl) b_isinstance (by decide +kernel) (pa_cons (pv 0) (pa_cons (pe_bltn (v := .ty "bool") (by rfl) b_bool (by decide +kernel) rfl) pa_nil))) (pe_one (pe_cmpR op_eq (pv 0) (pv 1) (nomark _))))))
        pss_nil)
      (pss_cons (ps_if (pt_val (pe_callB call_isi (by rfl) b_isinstance (by decide +kernel) (pa_cons (pv 1) (pa_cons (pe_bltn (v := .ty "int") (by rfl) b_int (by decide +kernel) rfl) pa_nil))))
        (pss_one (ps_ret (pe_and (pe_callB call_isi (by rfl) b_isinstance (by decide +kernel) (pa_cons (pv 0) (pa_cons (pe_bltn (v := .ty "int") (by rfl) b_int (by decide +kernel) rfl) pa_nil))) (pe_and (pe_not (pe_callB call_isi (by rfl) b_isinstance (by decide +kernel) (pa_cons (pv 0) (pa_cons (pe_bltn (v := .ty "bool") (by rfl) b_bool (by decide +kernel) rfl) pa_nil)))) (pe_one (pe_cmpR op_eq (pv 0) (pv 1) (nomark _)))))))
        pss_nil)
      (pss_cons (ps_if (pt_val (pe_callB call_isi (by rfl) b_isinstance (by decide +kernel) (pa_cons (pv 1) (pa_cons (pe_bltn (v := .ty "str") (by rfl) b_str (by decide +kernel) rfl) pa_nil))))
        (pss_one (ps_ret (pe_and (pe_callB call_isi (by rfl) b_isinstance (by decide +kernel) (pa_cons (pv 0) (pa_cons (pe_bltn (v := .ty "str") (by rfl) b_str (by decide +kernel) rfl) pa_nil))) (pe_one (pe_cmpR op_eq (pv 0) (pv 1) (nomark _))))))
        pss_nil)
      (pss_cons (ps_if (PW.pt (pw_or (pt_cmpR op_ne (pe_callB call_isi (by rfl) b_isinstance (by decide +kernel) (pa_cons (pv 1) (pa_cons (pe_bltn (v := .ty "tuple") (by rfl) b_tuple (by decide +kernel) rfl) pa_nil))) (pe_callB call_isi (by rfl) b_isinstance (by decide +kernel) (pa_cons (pv 0) (pa_cons (pe_bltn (v := .ty "tuple") (by rfl) b_tuple (by decide +kernel) rfl) pa_nil))) (nomark _)) (pw_or1 (pt_cmpR op_ne (pe_callB call_isi (by rfl) b_isinstance (by decide +kernel) (pa_cons (pv 1) (pa_cons (pe_bltn (v := .ty "list") (by rfl) b_list (by decide +kernel) rfl) pa_nil))) (pe_callB call_isi (by rfl) b_isinstance (by decide +kernel) (pa_cons (pv 0) (pa_cons (pe_bltn (v := .ty "list") (by rfl) b_list (by decide +kernel) rfl) pa_nil))) (nomark _)))))
        (pss_one (ps_ret pe_bl))
        pss_nil)
      (pss_cons (ps_if (pt_cmpR op_ne (pe_callB call_len_seq (by rfl) b_len (by decide +kernel) (pa_cons (pv 0) pa_nil)) (pe_callB call_len_seq (by rfl) b_len (by decide +kernel) (pa_cons (pv 1) pa_nil)) (nomark _))
        (pss_one (ps_ret pe_bl))
        pss_nil)
      (pss_cons (ps_for PassesOwn.never rfl (pi_range1 (by rfl) b_range (pa_cons (pe_callB call_len_seq (by rfl) b_len (by decide +kernel) (pa_cons (pv 1) pa_nil)) pa_nil)) (pg_name (i := 2) sc_law_alike.nd rfl (Or.inl rfl))
        (pss_one (ps_if (pt_not (pt_val (C8.pe_c k__law_alike hr (Nat.le_refl _) rfl (pa_cons (pe_ix ix_seq (pv 0) (pv 2) (fun _ _ => rfl)) (pa_cons (pe_ix ix_seq (pv 1) (pv 2) (fun _ _ => rfl)) pa_nil)))))
        (pss_one (ps_ret pe_bl))
        pss_nil)))
      (pss_one (ps_ret pe_bl))))))))), ?_⟩
      cases hy with
      | non =>
        cases hx
        exact ⟨_, rfl, _, rfl, iteT ⟨_, rfl, q⟩⟩
      | bl k =>
        cases hx
        refine ⟨_, rfl, _, rfl, iteF ?_⟩
        refine ⟨_, rfl, _, _, _, _, true, rfl, .ty _, .base (.bl k), kit_ty (by decide +kernel), _, rfl, iteT ?_⟩
        refine ⟨_, rfl, _, _, _, _, true, rfl, .ty _, .base (.bl k), kit_ty (by decide +kernel), _, rfl, iteT ?_⟩
        refine ⟨_, rfl, _, rfl, rfl, ?_⟩
        rw [decide_eq_true (rfl : V.bl k = V.bl k)]
        exact q
      | int i =>
        cases hx
        refine ⟨_, rfl, _, rfl, iteF ?_⟩
        refine ⟨_, rfl, _, _, _, _, false, rfl, .ty _, .base (.int i), kit_ty (by decide +kernel), _, rfl, iteF ?_⟩
        refine ⟨_, rfl, _, _, _, _, true, rfl, .ty _, .base (.int i), kit_ty (by decide +kernel), _, rfl, iteT ?_⟩
        refine ⟨_, rfl, _, _, _, _, true, rfl, .ty _, .base (.int i), kit_ty (by decide +kernel), _, rfl, iteT ?_⟩
        refine ⟨_, rfl, _, _, _, _, false, rfl, .ty _, .base (.int i), kit_ty (by decide +kernel), _, rfl, _, rfl, iteT ?_⟩
        refine ⟨_, rfl, _, rfl, rfl, ?_⟩
        rw [decide_eq_true (rfl : V.int i = V.int i)]
        exact q
      | str z =>
        cases hx
        refine ⟨_, rfl, _, rfl, iteF ?_⟩
        refine ⟨_, rfl, _, _, _, _, false, rfl, .ty _, .base (.str z), kit_ty (by decide +kernel), _, rfl, iteF ?_⟩
        refine ⟨_, rfl, _, _, _, _, false, rfl, .ty _, .base (.str z), kit_ty (by decide +kernel), _, rfl, iteF ?_⟩
        refine ⟨_, rfl, _, _, _, _, true, rfl, .ty _, .base (.str z), kit_ty (by decide +kernel), _, rfl, iteT ?_⟩
        refine ⟨_, rfl, _, _, _, _, true, rfl, .ty _, .base (.str z), kit_ty (by decide +kernel), _, rfl, iteT ?_⟩
        refine ⟨_, rfl, _, rfl, rfl, ?_⟩
        rw [decide_eq_true (rfl : V.str z = V.str z)]
        exact q
      | @lst a xs ds ha hd =>
        cases hx with
        | @lst a' xs' _ ha' hd' =>
        cases n with
        | zero => exact hs.elim
        | succ n =>
        refine ⟨_, rfl, _, rfl, iteF ?_⟩
        refine ⟨_, rfl, _, _, _, _, false, rfl, .ty _, sqL_ty ha, kit_ty (by decide +kernel), _, rfl, iteF ?_⟩
        refine ⟨_, rfl, _, _, _, _, false, rfl, .ty _, sqL_ty ha, kit_ty (by decide +kernel), _, rfl, iteF ?_⟩
        refine ⟨_, rfl, _, _, _, _, false, rfl, .ty _, sqL_ty ha, kit_ty (by decide +kernel), _, rfl, iteF ?_⟩
        refine ⟨_, rfl, _, _, _, _, false, rfl, .ty _, sqL_ty ha, kit_ty (by decide +kernel), _, rfl, _, _, _, _, false, rfl, .ty _, sqL_ty ha', kit_ty (by decide +kernel), rfl, _, rfl, iteF ?_⟩
        refine ⟨_, rfl, _, _, _, _, true, rfl, .ty _, sqL_ty ha, kit_ty (by decide +kernel), _, rfl, _, _, _, _, true, rfl, .ty _, sqL_ty ha', kit_ty (by decide +kernel), rfl, _, rfl, iteF ?_⟩
        have e1 := dpAll_len hd
        have e2 := dpAll_len hd'
        refine ⟨_, rfl, _, _, rfl, .inl ha', _, rfl, _, _, rfl, .inl ha, rfl, _, rfl, ?_⟩
        rw [decide_eq_true (show V.int (xs'.length : Int) = V.int (xs.length : Int) by rw [e1, e2])]
        refine iteF ?_
        have hz : xs.length ≤ 1000 := by
          rw [e1]
          exact hs.1
        refine ⟨_, rfl, _, _, rfl, .inl ha, _, rfl, by omega, by omega, for_range (lo := 0) (n := xs.length) (fun i σ H' => (∃ v : Option V, σ = [some (.ref a'), some (.ref a), v]) ∧ H' = H) ⟨⟨none, rfl⟩, rfl⟩ ?_ ?_⟩
        · rintro i σ H' hi ⟨⟨v, rfl⟩, rfl⟩
          have hid : i < ds.length := by omega
          obtain ⟨y1, hy1, dy1⟩ := dpAll_get hd (List.getElem?_eq_getElem hid)
          obtain ⟨x1, hx1, dx1⟩ := dpAll_get hd' (List.getElem?_eq_getElem hid)
          have e0 : (0 : Int) + (i : Int) = ((i : Nat) : Int) := by omega
          refine ⟨_, rfl, _, rfl, .inl ⟨a', _, _, _, rfl, rfl, ha', by rw [e0]; exact atI_nat hx1, _, rfl, _, rfl, .inl ⟨a, _, _, _, rfl, rfl, ha, by rw [e0]; exact atI_nat hy1, ?_⟩⟩⟩
          exact ⟨x1, y1, ds[i], rfl, dx1, dy1, hs.2 _ (List.getElem_mem hid), _, rfl, iteF ⟨⟨_, rfl⟩, rfl⟩⟩
        · rintro σ H' ⟨_, rfl⟩
          exact q
      | @tup a xs ds ha hd =>
        cases hx with
        | @tup a' xs' _ ha' hd' =>
        cases n with
        | zero => exact hs.elim
        | succ n =>
        refine ⟨_, rfl, _, rfl, iteF ?_⟩
        refine ⟨_, rfl, _, _, _, _, false, rfl, .ty _, sqT_ty ha, kit_ty (by decide +kernel), _, rfl, iteF ?_⟩
        refine ⟨_, rfl, _, _, _, _, false, rfl, .ty _, sqT_ty ha, kit_ty (by decide +kernel), _, rfl, iteF ?_⟩
        refine ⟨_, rfl, _, _, _, _, false, rfl, .ty _, sqT_ty ha, kit_ty (by decide +kernel), _, rfl, iteF ?_⟩
        refine ⟨_, rfl, _, _, _, _, true, rfl, .ty _, sqT_ty ha, kit_ty (by decide +kernel), _, rfl, _, _, _, _, true, rfl, .ty _, sqT_ty ha', kit_ty (by decide +kernel), rfl, _, rfl, iteF ?_⟩
        refine ⟨_, rfl, _, _, _, _, false, rfl, .ty _, sqT_ty ha, kit_ty (by decide +kernel), _, rfl, _, _, _, _, false, rfl, .ty _, sqT_ty ha', kit_ty (by decide +kernel), rfl, _, rfl, iteF ?_⟩
        have e1 := dpAll_len hd
        have e2 := dpAll_len hd'
        refine ⟨_, rfl, _, _, rfl, .inr ha', _, rfl, _, _, rfl, .inr ha, rfl, _, rfl, ?_⟩
        rw [decide_eq_true (show V.int (xs'.length : Int) = V.int (xs.length : Int) by rw [e1, e2])]
        refine iteF ?_
        have hz : xs.length ≤ 1000 := by
          rw [e1]
          exact hs.1
        refine ⟨_, rfl, _, _, rfl, .inr ha, _, rfl, by omega, by omega, for_range (lo := 0) (n := xs.length) (fun i σ H' => (∃ v : Option V, σ = [some (.ref a'), some (.ref a), v]) ∧ H' = H) ⟨⟨none, rfl⟩, rfl⟩ ?_ ?_⟩
        · rintro i σ H' hi ⟨⟨v, rfl⟩, rfl⟩
          have hid : i < ds.length := by omega
          obtain ⟨y1, hy1, dy1⟩ := dpAll_get hd (List.getElem?_eq_getElem hid)
          obtain ⟨x1, hx1, dx1⟩ := dpAll_get hd' (List.getElem?_eq_getElem hid)
          have e0 : (0 : Int) + (i : Int) = ((i : Nat) : Int) := by omega
          refine ⟨_, rfl, _, rfl, .inr (.inl ⟨a', _, _, _, rfl, rfl, ha', by rw [e0]; exact atI_nat hx1, _, rfl, _, rfl, .inr (.inl ⟨a, _, _, _, rfl, rfl, ha, by rw [e0]; exact atI_nat hy1, ?_⟩)⟩)⟩
          exact ⟨x1, y1, ds[i], rfl, dx1, dy1, hs.2 _ (List.getElem_mem hid), _, rfl, iteF ⟨⟨_, rfl⟩, rfl⟩⟩
        · rintro σ H' ⟨_, rfl⟩
          exact q
end
end Cr
set_option Elab.async false
set_option linter.all false
set_option maxRecDepth 100000
set_option maxHeartbeats 4000000

namespace Cr
open PySem PySem.Spec PyProof.Rows L2
abbrev s_law_stay : Stmt := top 24
abbrev n_law_stay : List Str := ["_law_box", "_law_hours", "_law_rooms", "_law_room", "_law_begin", "_law_end", "_law_most", "_law_use_here"]
abbrev a_law_stay : List Str := ["_law_box", "_law_hours", "_law_rooms"]
theorem sc_law_stay : FnScope n_law_stay a_law_stay (defScope s_law_stay) := ⟨rfl, rfl, rfl, by decide +kernel, rfl, by decide +kernel, by decide +kernel⟩
abbrev s_law_house : Stmt := top 25
abbrev n_law_house : List Str := ["_law_box", "_law_hours", "_law_rooms", "_law_k", "_law_most", "_law_air", "_law_limit", "_law_price", "_law_doors", "_law_one", "_law_other", "_law_stays"]
abbrev a_law_house : List Str := ["_law_box"]
theorem sc_law_house : FnScope n_law_house a_law_house (defScope s_law_house) := ⟨rfl, rfl, rfl, by decide +kernel, rfl, by decide +kernel, by decide +kernel⟩
/-! ### draws -/
theorem atI_mem {α : Type} {xs : List α} {i : Int} (h0 : 0 ≤ i) (h1 : i < (xs.length : Int)) : ∃ v, atI xs i = some v ∧ v ∈ xs := by
  obtain ⟨n, rfl⟩ : ∃ n : Nat, i = (n : Int) := ⟨i.toNat, by omega⟩
  have hi : n < xs.length := by omega
  exact ⟨xs[n], atI_nat (List.getElem?_eq_getElem hi), List.getElem_mem hi⟩
def rInt1 : List V → Hp → VK → Prop := fun xs H Q => (∃ i, xs = [.int i] ∧ Q (.int i) H) ∨ ∃ k, xs = [.bl k] ∧ Q (.int (if k then 1 else 0)) H
section
variable {Ps : List Addr} {b l p : Addr} {G0 H0 G H G1 H1 : Hp} {K : PySem.W.Frag} {m : Int} {Q : VK} {E : XK}
/-- [x, y][int(take(m) == 1)] -/
theorem pick2 {σ : L2.St} {x y : V} (hs : σ[0]? = some (some (.ref b))) (B : Bx Ps b l G0 H0 G H) (h0 : 0 < m) (h1 : m < 1000000) (hp : G p = some (.lst [x, y])) (k : ∀ v H', (v = x ∨ v = y) → Bx Ps b l G H G H' → Q v H') :
    tCB rInt1 (tCons (tOp rEq (tCall (spTake Ps) [] C8.E0 (tCons (tVar 0) (tCons (tC (.int m)) tNil))) (tC (.int 1))) tNil) σ H (fun z H2 => rIx K (.ref p) z H2 Q) := by
  refine ⟨_, hs, b, l, m, G, rfl, h0, h1, B.start, fun r H' _ _ B' => ?_⟩
  have hl : SqL K H' p [x, y] := SqL.of (B'.wd.same _ _ hp)
  refine ⟨rfl, .inr ⟨_, rfl, ?_⟩⟩
  by_cases hr : V.int r = V.int 1
  · rw [decide_eq_true hr]
    exact .inl ⟨p, _, _, y, rfl, rfl, hl, atI_nat (j := 1) rfl, k y H' (.inr rfl) B'⟩
  · rw [decide_eq_false hr]
    exact .inl ⟨p, _, _, x, rfl, rfl, hl, atI_nat (j := 0) rfl, k x H' (.inl rfl) B'⟩
end
theorem numOk_of {n : Int} (h0 : 0 ≤ n) (h1 : n ≤ 999) : numOk n = true := by
  unfold numOk
  rw [decide_eq_true h0, decide_eq_true h1]
  rfl
theorem numOk_inv {n : Int} (h : numOk n = true) : 0 ≤ n ∧ n ≤ 999 := by
  unfold numOk at h
  simpa using h
theorem roomOk_inv {a m l p : Int} (h : roomOk [a, m, l, p] = true) : (0 ≤ a ∧ a ≤ 999) ∧ (0 ≤ m ∧ m ≤ 999) ∧ (0 ≤ l ∧ l ≤ 999) ∧ (0 ≤ p ∧ p ≤ 999) ∧ a ≤ m := by
  replace h : (([a, m, l, p] : List Int).all numOk && decide (a ≤ m)) = true := h
  rw [Bool.and_eq_true] at h
  obtain ⟨h1, h2⟩ := h
  have z := List.all_eq_true.mp h1
  exact ⟨numOk_inv (z a (by simp)), numOk_inv (z m (by simp)), numOk_inv (z l (by simp)), numOk_inv (z p (by simp)), of_decide_eq_true h2⟩
theorem roomOk_of {a m l p : Int} (ha : 0 ≤ a) (h : a ≤ m) (hm : m ≤ 999) (hl : 0 ≤ l ∧ l ≤ 999) (hp : 0 ≤ p ∧ p ≤ 999) : roomOk [a, m, l, p] = true := by
  show (([a, m, l, p] : List Int).all numOk && decide (a ≤ m)) = true
  rw [decide_eq_true h, Bool.and_true, List.all_eq_true]
  intro x hx
  simp at hx
  rcases hx with rfl | rfl | rfl | rfl <;> exact numOk_of (by omega) (by omega)
theorem doorOk_of {n : Nat} {o t l : Int} (ho : 0 ≤ o ∧ o < n) (ht : 0 ≤ t ∧ t < n) (hn : (n : Int) ≤ 999) (hne : o ≠ t) (hl : 0 ≤ l ∧ l ≤ 999) : doorOk n [o, t, l] = true := by
  show (([o, t, l] : List Int).all numOk && (!decide (o = t) && decide (max o t < (n : Int)))) = true
  rw [Bool.and_eq_true]
  constructor
  · rw [List.all_eq_true]
    intro x hx
    simp at hx
    rcases hx with rfl | rfl | rfl <;> exact numOk_of (by omega) (by omega)
  · simp only [decide_eq_false hne, Bool.not_false, Bool.true_and]
    exact decide_eq_true (by omega)
theorem mostOf_at {rs : List (List Int)} {i : Int} {a m l p : Int} (h0 : 0 ≤ i) (e : rs[i.toNat]? = some [a, m, l, p]) : mostOf rs i = m := by
  unfold mostOf
  rw [show rs.getD i.toNat [] = [a, m, l, p] by rw [List.getD_eq_getElem?_getD, e]; rfl]
  rfl
theorem stayOk_of {h : Int} {rs : List (List Int)} {r b e u n : Int} (hr : 0 ≤ r) (hr2 : r < (rs.length : Int)) (hl : rs.length ≤ 6) (hb : 0 ≤ b) (hbe : b < e) (heh : e ≤ h) (hh : h ≤ 12) (hu : 0 ≤ u ∧ u ≤ 999) (hn : 0 ≤ n) (hm : n ≤ mostOf rs r) (hm2 : mostOf rs r ≤ 999) : stayOk h rs [r, b, e, u, n] = true := by
  show (([r, b, e, u, n] : List Int).all numOk && (decide (r < (rs.length : Int)) && (decide (b < e) && decide (e ≤ h) && decide (n ≤ mostOf rs r)))) = true
  rw [decide_eq_true hr2, decide_eq_true hbe, decide_eq_true heh, decide_eq_true hm, List.all_eq_true.mpr]
  · rfl
  · intro x hx
    simp at hx
    rcases hx with rfl | rfl | rfl | rfl | rfl <;> exact numOk_of (by omega) (by omega)
section
variable {P : Program} {w : World} {K : PySem.W.Frag} {mg : Str → Option Value} {base : Heap} {Ps : List Addr} {H : Hp}
structure RawH (K : PySem.W.Frag) (mg : Str → Option Value) : Prop extends RawL K mg where
  lstay : DefR K mg "_law_stay" s_law_stay a_law_stay
  lhouse : DefR K mg "_law_house" s_law_house a_law_house
  b_min : mg "min" = none
def spLStay (K : PySem.W.Frag) (Ps : List Addr) : Sp := fun vs H Q _ => ∃ (b l : Addr) (h : Int) (ra : Addr) (G : Hp) (rs : List (List Int)), vs = [.ref b, .int h, .ref ra] ∧ Bx Ps b l G H G H ∧ 1 ≤ h ∧ h ≤ 12 ∧ Rows K G ra rs ∧ 1 ≤ rs.length ∧ rs.length ≤ 6 ∧ Wide 4 rs ∧ (∀ r ∈ rs, roomOk r = true) ∧
  ∀ t ns G' H', Bx Ps b l G H G' H' → RowT K G' (.ref t) ns → ns.length = 5 → stayOk h rs ns = true → Q (.ref t) H'
theorem c_lstay (T : RawH K mg) : C8.Cal P w K mg base 2 "_law_stay" (spLStay K Ps) [] := by
  refine T.lstay.cal sc_law_stay (fun vs H Q E h => ?_) (fun f cdv A outer s H vs Q E hr h => ?_)
  · obtain ⟨b, l, h, ra, G, rs, rfl, _⟩ := h
    rfl
  · obtain ⟨b, l, h, ra, G, rs, rfl, B, h1, h12, hR, l1, l6, w4, rok, q⟩ := h
    obtain ⟨xs, hq, hrv⟩ := hR
    have hlen : xs.length = rs.length := Paired.length hrv
    have b_len := T.b_len
    have b_min := T.b_min
    have k__law_take : C8.Cal P w K mg base 1 "_law_take" (spTake Ps) [] := c_take T.toRawL
    refine ⟨_, (pss_cons (ps_set (i := 3) sc_law_stay.nd rfl (Or.inl rfl) (C8.pe_c k__law_take hr (by decide) rfl (pa_cons (pv 0) (pa_cons (pe_callB call_len_seq (by rfl) b_len (by decide +kernel) (pa_cons (pv 2) pa_nil)) pa_nil))))
      (pss_cons (ps_set (i := 4) sc_law_stay.nd rfl (Or.inl rfl) (C8.pe_c k__law_take hr (by decide) rfl (pa_cons (pv 0) (pa_cons (pv 1) pa_nil))))
      (pss_cons (ps_set (i := 5) sc_law_stay.nd rfl (Or.inl rfl) (pe_op op_add (pe_op op_add (pv 4) pe_int) (C8.pe_c k__law_take hr (by decide) rfl (pa_cons (pv 0) (pa_cons (pe_op op_sub (pv 1) (pv 4)) pa_nil)))))
      (pss_cons (ps_set (i := 6) sc_law_stay.nd rfl (Or.inl rfl) (pe_callB (call_min2 rfl) (by rfl) b_min (by decide +kernel) (pa_cons (pe_ix ix_seq (pe_ix ix_seq (pv 2) (pv 3) (fun _ _ => rfl)) pe_int (fun _ _ => rfl)) (pa_cons (pe_ix ix_seq (pe_lst (pa_cons pe_int (pa_cons pe_int (pa_cons pe_int pa_nil)))) (C8.pe_c k__law_take hr (by decide) rfl (pa_cons (pv 0) (pa_cons pe_int pa_nil))) (fun _ _ => rfl)) pa_nil))))
      (pss_cons (ps_set (i := 7) sc_law_stay.nd rfl (Or.inl rfl) (C8.pe_c k__law_take hr (by decide) rfl (pa_cons (pv 0) (pa_cons (pe_ix ix_seq (pe_lst (pa_cons pe_int (pa_cons pe_int pa_nil))) (C8.pe_c k__law_take hr (by decide) rfl (pa_cons (pv 0) (pa_cons pe_int pa_nil))) (fun _ _ => rfl)) pa_nil))))
      (pss_cons (ps_if (pt_cmpR op_eq (C8.pe_c k__law_take hr (by decide) rfl (pa_cons (pv 0) (pa_cons pe_int pa_nil))) pe_int (nomark _))
        (pss_one (ps_set (i := 7) sc_law_stay.nd rfl (Or.inl rfl) (C8.pe_c k__law_take hr (by decide) rfl (pa_cons (pv 0) (pa_cons pe_int pa_nil)))))
        pss_nil)
      (pss_one (ps_ret (pe_tup (pa_cons (pv 3) (pa_cons (pv 4) (pa_cons (pv 5) (pa_cons (pv 7) (pa_cons (C8.pe_c k__law_take hr (by decide) rfl (pa_cons (pv 0) (pa_cons (pe_op op_add (pv 6) pe_int) pa_nil))) pa_nil)))))))))))))), ?_⟩
    -- room, begin, end
    refine ⟨_, rfl, _, rfl, ra, xs, rfl, .inl (B.wd.same.seq hq), b, l, _, _, rfl, by omega, by omega, B.start, fun r1 H1 a1 c1 B1 => ?_⟩
    replace B1 := B.trans B1
    refine ⟨_, rfl, _, rfl, b, l, _, _, rfl, by omega, by omega, B1.start, fun r2 H2 a2 c2 B2 => ?_⟩
    replace B2 := B1.trans B2
    refine ⟨_, rfl, _, _, rfl, rfl, _, rfl, _, rfl, _, rfl, _, _, rfl, rfl, b, l, _, _, rfl, by omega, by omega, B2.start, fun r3 H3 a3 c3 B3 => ⟨_, _, rfl, rfl, ?_⟩⟩
    replace B3 := B2.trans B3
    -- most
    have hi : r1.toNat < rs.length := by omega
    have hg : rs[r1.toNat]? = some rs[r1.toNat] := List.getElem?_eq_getElem hi
    obtain ⟨y, hy, ty, rfl, hty⟩ := paired_get' hrv hg
    obtain ⟨ra', m, rl, rp, em⟩ := len4 (w4 _ (List.getElem_mem hi))
    have hok := rok _ (List.getElem_mem hi)
    rw [em] at hok hty hg
    obtain ⟨_, ⟨m0, m9⟩, _⟩ := roomOk_inv hok
    have hmost := mostOf_at a1 hg
    refine ⟨_, rfl, _, rfl, .inl ⟨ra, xs, r1, .ref ty, rfl, rfl, B3.wd.same.seq hq, ?_, .inr (.inl ⟨ty, _, _, .int m, rfl, rfl, Same.tup B3.wd.same hty, atI_nat (j := 1) rfl, ?_⟩)⟩⟩
    · rw [show r1 = ((r1.toNat : Nat) : Int) by omega]
      exact atI_nat hy
    refine ⟨by show 3 ≤ sizeLine; decide, fun p hp => ?_⟩
    have B4 := B3.alloc (o := .lst [.int 5, .int 12, .int 999]) hp
    refine ⟨_, rfl, b, l, _, _, rfl, by omega, by omega, B4.start, fun r4 H4 a4 c4 B5 => ?_⟩
    replace B5 := B4.trans B5
    obtain ⟨v, hv, hvm⟩ := atI_mem (xs := [V.int 5, V.int 12, V.int 999]) (i := r4) a4 (by simpa using c4)
    obtain ⟨k, rfl, hk⟩ : ∃ k : Int, v = .int k ∧ 5 ≤ k := by
      simp at hvm
      rcases hvm with rfl | rfl | rfl
      · exact ⟨_, rfl, by decide⟩
      · exact ⟨_, rfl, by decide⟩
      · exact ⟨_, rfl, by decide⟩
    refine .inl ⟨p, _, _, _, rfl, rfl, SqL.of (B5.wd.same _ _ upd_same), hv, _, _, rfl, ?_⟩
    have hmo : 0 ≤ (if k < m then k else m) ∧ (if k < m then k else m) ≤ m := by
      by_cases e : k < m
      · rw [if_pos e]; omega
      · rw [if_neg e]; omega
    generalize (if k < m then k else m) = mo at hmo
    -- use
    refine ⟨_, rfl, by show 2 ≤ sizeLine; decide, fun p2 hp2 => ?_⟩
    have B6 := B5.alloc (o := .lst [.int 4, .int 10]) hp2
    refine ⟨_, rfl, b, l, _, _, rfl, by omega, by omega, B6.start, fun r5 H5 a5 c5 B7 => ?_⟩
    replace B7 := B6.trans B7
    obtain ⟨v, hv, hvm⟩ := atI_mem (xs := [V.int 4, V.int 10]) (i := r5) a5 (by simpa using c5)
    obtain ⟨k2, rfl, hk2⟩ : ∃ k : Int, v = .int k ∧ 4 ≤ k ∧ k ≤ 10 := by
      simp at hvm
      rcases hvm with rfl | rfl
      · exact ⟨_, rfl, by decide, by decide⟩
      · exact ⟨_, rfl, by decide, by decide⟩
    refine .inl ⟨p2, _, _, _, rfl, rfl, SqL.of (B7.wd.same _ _ upd_same), hv, b, l, _, _, rfl, by omega, by omega, B7.start, fun r6 H6 a6 c6 B8 => ?_⟩
    replace B8 := B7.trans B8
    refine ⟨_, rfl, b, l, _, _, rfl, by omega, by omega, B8.start, fun r7 H7 a7 c7 B9 => ⟨rfl, _, rfl, ?_⟩⟩
    replace B9 := B8.trans B9
    -- the end, from any use
    have fin : ∀ (u : Int) G' H', 0 ≤ u ∧ u ≤ 999 → Bx Ps b l G H G' H' → Same G G' → ∃ v, ([some (.ref b), some (.int h), some (.ref ra), some (.int r1), some (.int r2), some (.int (r2 + 1 + r3)), some (.int mo), some (.int u)] : L2.St)[3]? = some (some v) ∧
        (tCons (tVar 4) (tCons (tVar 5) (tCons (tVar 7) (tCons (tCall (spTake Ps) [] C8.E0 (tCons (tVar 0) (tCons (tOp (rI0 fun i j => .int (i + j)) (tVar 6) (tC (.int 1))) tNil))) tNil)))) [some (.ref b), some (.int h), some (.ref ra), some (.int r1), some (.int r2), some (.int (r2 + 1 + r3)), some (.int mo), some (.int u)] H' fun xs H1 => (v :: xs).length ≤ sizeLine ∧ ∀ p, H1 p = none → Q (.ref p) (upd H1 p (.tup (v :: xs))) := fun u G' H' hu B' _ => by
      refine ⟨_, rfl, _, rfl, _, rfl, _, rfl, _, rfl, _, rfl, _, _, rfl, rfl, b, l, _, _, rfl, by omega, by omega, B'.start, fun r8 H8 a8 c8 B10 => ⟨by show 5 ≤ sizeLine; decide, fun t ht => ?_⟩⟩
      refine q t [r1, r2, r2 + 1 + r3, u, r8] _ _ ((B'.trans B10).alloc ht) ⟨t, rfl, SqT.of upd_same⟩ rfl ?_
      exact stayOk_of a1 (by omega) l6 a2 (by omega) (by omega) h12 hu a8 (by omega) (by omega)
    refine ite2 (fun _ => ?_) (fun _ => ?_)
    · exact ⟨_, rfl, b, l, _, _, rfl, by omega, by omega, B9.start, fun r9 H9 a9 c9 B11 => fin r9 _ H9 (by omega) (B9.trans B11) B9.gr.up⟩
    · exact fin r6 _ H7 (by omega) B9 B9.gr.up
end
end Cr
set_option Elab.async false
set_option linter.all false
set_option maxRecDepth 100000
set_option maxHeartbeats 4000000

namespace Cr
open PySem PySem.Spec PyProof.Rows L2
/-- a list of rows that is the law's own -/
def RowsL (K : PySem.W.Frag) (G : Hp) (a : Addr) (rs : List (List Int)) : Prop := ∃ xs, G a = some (.lst xs) ∧ RowsV K G xs rs
theorem RowsL.rows {K : PySem.W.Frag} {G : Hp} {a : Addr} {rs : List (List Int)} (h : RowsL K G a rs) : Rows K G a rs := let ⟨xs, e, r⟩ := h; ⟨xs, SqL.of e, r⟩
theorem RowsL.same {K : PySem.W.Frag} {G G' : Hp} {a : Addr} {rs : List (List Int)} (s : Same G G') (h : RowsL K G a rs) : RowsL K G' a rs := let ⟨xs, e, r⟩ := h; ⟨xs, s _ _ e, rowsV_same s r⟩
/-! ### a list of rows under way: not known until it is done -/
structure Opn (K : PySem.W.Frag) (Ps : List Addr) (b l : Addr) (G0 H0 : Hp) (p : Addr) (xs : List V) (rs : List (List Int)) (G H : Hp) : Prop where
  bx : Bx Ps b l G0 H0 G H
  h0 : H0 p = none
  at_ : H p = some (.lst xs)
  g : G p = none
  rv : RowsV K G xs rs
section
variable {K : PySem.W.Frag} {Ps : List Addr} {b l p : Addr} {G0 H0 G H G1 H1 : Hp} {xs : List V} {rs : List (List Int)} {v : V} {ns : List Int}
theorem Opn.begin (B : Bx Ps b l G0 H0 G H) (hp : H p = none) : Opn K Ps b l G H p [] [] G (upd H p (.lst [])) :=
  ⟨B.start.new hp, hp, upd_same, B.wd.free hp, .nil⟩
theorem Opn.start (o : Opn K Ps b l G0 H0 p xs rs G H) : Bx Ps b l G0 H0 G0 H0 → b ≠ p ∧ l ≠ p ∧ p ∉ Ps := fun s => s.apart o.h0
theorem Opn.nin (o : Opn K Ps b l G0 H0 p xs rs G H) (s : Bx Ps b l G0 H0 G0 H0) : p ∉ b :: l :: Ps := fun h => by
  obtain ⟨a1, a2, a3⟩ := s.apart o.h0
  rcases List.mem_cons.mp h with z | h
  · exact a1 z.symm
  rcases List.mem_cons.mp h with z | h
  · exact a2 z.symm
  · exact a3 h
theorem Opn.step (o : Opn K Ps b l G0 H0 p xs rs G H) (s : Bx Ps b l G0 H0 G0 H0) (y : Bx Ps b l G H G1 H1) : Opn K Ps b l G0 H0 p xs rs G1 H1 :=
  ⟨o.bx.trans y, o.h0, y.gr.keep _ _ (o.nin s) o.at_, y.gr.fresh p o.g (by rw [o.at_]; exact fun z => nomatch z), rowsV_same y.gr.up o.rv⟩
theorem Opn.push (o : Opn K Ps b l G0 H0 p xs rs G H) (s : Bx Ps b l G0 H0 G0 H0) (r : RowT K G v ns) : Opn K Ps b l G0 H0 p (xs ++ [v]) (rs ++ [ns]) G (upd H p (.lst (xs ++ [v]))) :=
  ⟨o.bx.poke s o.h0 o.g, o.h0, upd_same, o.g, paired_snoc o.rv r⟩
theorem Opn.done (o : Opn K Ps b l G0 H0 p xs rs G H) (s : Bx Ps b l G0 H0 G0 H0) : Bx Ps b l G0 H0 (upd G p (.lst xs)) H ∧ RowsL K (upd G p (.lst xs)) p rs :=
  ⟨o.bx.close s o.h0 o.at_ o.g, xs, upd_same, rowsV_same (same_new o.g) o.rv⟩
theorem Opn.len (o : Opn K Ps b l G0 H0 p xs rs G H) : xs.length = rs.length := Paired.length o.rv
end
theorem seq_if {c : TT} {t u rest : TS} {D : Ends} {σ : L2.St} {H : Hp} {i : Nat} {v : V} (Pv : L2.St → Hp → Prop) (hd : ∀ σ H, Pv σ H → rest D σ H) (h : ∀ κ : L2.St → Hp → Prop, (∀ σ H, Pv σ H → κ σ H) → tIfS c t u { D with nx := κ } (σ.set i (some v)) H) : gName i v σ H (tSeq (tIfS c t u) rest D) := h (rest D) hd
theorem other_ne {a t n : Int} (a0 : 0 ≤ a) (an : a < n) (t0 : 0 ≤ t) (tn : t < n - 1) : (0 ≤ (a + 1 + t).fmod n ∧ (a + 1 + t).fmod n < n) ∧ a ≠ (a + 1 + t).fmod n := by
  have h := fmod_range (a + 1 + t) (show 0 < n by omega)
  refine ⟨h, ?_⟩
  rw [Int.fmod_eq_emod_of_nonneg _ (by omega)]
  by_cases e : a + 1 + t < n
  · rw [Int.emod_eq_of_lt (by omega) e]; omega
  · have e2 : (a + 1 + t) % n = a + 1 + t - n := by
      rw [show a + 1 + t = (a + 1 + t - n) + n by omega, Int.add_emod_right, Int.emod_eq_of_lt (by omega) (by omega)]; omega
    rw [e2]; omega
/-- the rows of a house -/
structure GoodH (h : Int) (rs ds ss : List (List Int)) : Prop where
  h1 : 1 ≤ h
  h12 : h ≤ 12
  r1 : 1 ≤ rs.length
  r6 : rs.length ≤ 6
  d8 : ds.length ≤ 8
  s20 : ss.length ≤ 20
  w4 : Wide 4 rs
  w3 : Wide 3 ds
  w5 : Wide 5 ss
  rok : ∀ r ∈ rs, roomOk r = true
  dok : ∀ d ∈ ds, doorOk rs.length d = true
  sok : ∀ s ∈ ss, stayOk h rs s = true
structure RowsAt (K : PySem.W.Frag) (G : Hp) (t : Addr) (h : Int) (ra da sa : Addr) (rs ds ss : List (List Int)) : Prop where
  t : SqT K G t [.int h, .ref ra, .ref da, .ref sa]
  r : RowsL K G ra rs
  d : RowsL K G da ds
  s : RowsL K G sa ss
theorem firstNot_all {ok : List Int → Bool} {rs : List (List Int)} (h : ∀ r ∈ rs, ok r = true) : firstNot ok rs = none :=
  firstNot_none fun j r _ e => h r (List.mem_of_getElem? e)
theorem GoodH.bad {h : Int} {rs ds ss : List (List Int)} (g : GoodH h rs ds ss) : houseBad h rs ds ss = none := by
  have hc : countBad h rs ds ss = none := by
    have := g.h1; have := g.h12; have := g.r1; have := g.r6; have := g.d8; have := g.s20
    unfold countBad
    rw [if_neg (by omega), if_neg (by omega), if_neg (by omega), if_neg (by omega)]
  unfold houseBad
  rw [hc]
  show partBad h rs ds ss = none
  unfold partBad
  rw [firstNot_all g.rok, firstNot_all g.dok, firstNot_all g.sok]
section
variable {P : Program} {w : World} {K : PySem.W.Frag} {mg : Str → Option Value} {base : Heap} {Ps : List Addr} {H : Hp}
def spLHouse (K : PySem.W.Frag) (Ps : List Addr) : Sp := fun vs H Q _ => ∃ (b l : Addr) (G : Hp), vs = [.ref b] ∧ Bx Ps b l G H G H ∧
  ∀ t h ra da sa rs ds ss G' H', Bx Ps b l G H G' H' → RowsAt K G' t h ra da sa rs ds ss → GoodH h rs ds ss → Q (.ref t) H'
theorem c_lhouse (T : RawH K mg) : C8.Cal P w K mg base 3 "_law_house" (spLHouse K Ps) [] := by
  refine T.lhouse.cal sc_law_house (fun vs H Q E h => ?_) (fun f cdv A outer s H vs Q E hr h => ?_)
  · obtain ⟨b, l, G, rfl, _⟩ := h
    rfl
  · obtain ⟨b, l, G, rfl, B, q⟩ := h
    have b_len := T.b_len
    have b_min := T.b_min
    have b_int := T.b_int
    have b_range := T.b_range
    have k__law_take : C8.Cal P w K mg base 1 "_law_take" (spTake Ps) [] := c_take T.toRawL
    have k__law_stay : C8.Cal P w K mg base 2 "_law_stay" (spLStay K Ps) [] := c_lstay T
    refine ⟨_, (pss_cons (ps_set (i := 1) sc_law_house.nd rfl (Or.inl rfl) (pe_op op_add pe_int (C8.pe_c k__law_take hr (by decide) rfl (pa_cons (pv 0) (pa_cons (pe_ix ix_seq (pe_lst (pa_cons pe_int (pa_cons pe_int pa_nil))) (pe_callTy call_int1 (by rfl) b_int (by decide +kernel) (pa_cons (pe_cmpR op_eq (C8.pe_c k__law_take hr (by decide) rfl (pa_cons (pv 0) (pa_cons pe_int pa_nil))) pe_int (nomark _)) pa_nil)) (fun _ _ => rfl)) pa_nil)))))
      (pss_cons (ps_set (i := 2) sc_law_house.nd rfl (Or.inl rfl) (pe_lst pa_nil))
      (pss_cons (ps_for PassesOwn.never rfl (pi_range1 (by rfl) b_range (pa_cons (pe_op op_add pe_int (C8.pe_c k__law_take hr (by decide) rfl (pa_cons (pv 0) (pa_cons (pe_ix ix_seq (pe_lst (pa_cons pe_int (pa_cons pe_int pa_nil))) (pe_callTy call_int1 (by rfl) b_int (by decide +kernel) (pa_cons (pe_cmpR op_eq (C8.pe_c k__law_take hr (by decide) rfl (pa_cons (pv 0) (pa_cons pe_int pa_nil))) pe_int (nomark _)) pa_nil)) (fun _ _ => rfl)) pa_nil)))) pa_nil)) (pg_name (i := 3) sc_law_house.nd rfl (Or.inl rfl))
        (pss_cons (ps_set (i := 4) sc_law_house.nd rfl (Or.inl rfl) (pe_ix ix_seq (pe_lst (pa_cons (C8.pe_c k__law_take hr (by decide) rfl (pa_cons (pv 0) (pa_cons pe_int pa_nil))) (pa_cons (C8.pe_c k__law_take hr (by decide) rfl (pa_cons (pv 0) (pa_cons pe_int pa_nil))) pa_nil))) (pe_callTy call_int1 (by rfl) b_int (by decide +kernel) (pa_cons (pe_cmpR op_eq (C8.pe_c k__law_take hr (by decide) rfl (pa_cons (pv 0) (pa_cons pe_int pa_nil))) pe_int (nomark _)) pa_nil)) (fun _ _ => rfl)))
      (pss_cons (ps_set (i := 5) sc_law_house.nd rfl (Or.inl rfl) (pe_ix ix_seq (pe_lst (pa_cons (pe_callB (call_min2 rfl) (by rfl) b_min (by decide +kernel) (pa_cons (pv 4) (pa_cons (C8.pe_c k__law_take hr (by decide) rfl (pa_cons (pv 0) (pa_cons pe_int pa_nil))) pa_nil))) (pa_cons (C8.pe_c k__law_take hr (by decide) rfl (pa_cons (pv 0) (pa_cons (pe_op op_add (pv 4) pe_int) pa_nil))) pa_nil))) (pe_callTy call_int1 (by rfl) b_int (by decide +kernel) (pa_cons (pe_cmpR op_eq (C8.pe_c k__law_take hr (by decide) rfl (pa_cons (pv 0) (pa_cons pe_int pa_nil))) pe_int (nomark _)) pa_nil)) (fun _ _ => rfl)))
      (pss_cons (ps_set (i := 6) sc_law_house.nd rfl (Or.inl rfl) (pe_ix ix_seq (pe_lst (pa_cons (C8.pe_c k__law_take hr (by decide) rfl (pa_cons (pv 0) (pa_cons pe_int pa_nil))) (pa_cons (C8.pe_c k__law_take hr (by decide) rfl (pa_cons (pv 0) (pa_cons pe_int pa_nil))) pa_nil))) (pe_callTy call_int1 (by rfl) b_int (by decide +kernel) (pa_cons (pe_cmpR op_eq (C8.pe_c k__law_take hr (by decide) rfl (pa_cons (pv 0) (pa_cons pe_int pa_nil))) pe_int (nomark _)) pa_nil)) (fun _ _ => rfl)))
      (pss_cons (ps_set (i := 7) sc_law_house.nd rfl (Or.inl rfl) (pe_ix ix_seq (pe_lst (pa_cons (C8.pe_c k__law_take hr (by decide) rfl (pa_cons (pv 0) (pa_cons pe_int pa_nil))) (pa_cons (C8.pe_c k__law_take hr (by decide) rfl (pa_cons (pv 0) (pa_cons pe_int pa_nil))) pa_nil))) (pe_callTy call_int1 (by rfl) b_int (by decide +kernel) (pa_cons (pe_cmpR op_eq (C8.pe_c k__law_take hr (by decide) rfl (pa_cons (pv 0) (pa_cons pe_int pa_nil))) pe_int (nomark _)) pa_nil)) (fun _ _ => rfl)))
      (pss_one (ps_expr (pe_bm PySem.F.plainAttrs_list PySem.F.slot_list_append PySem.F.type_list_append mt_append (pv 2) (pa_cons (pe_tup (pa_cons (pv 5) (pa_cons (pv 4) (pa_cons (pv 6) (pa_cons (pv 7) pa_nil))))) pa_nil)))))))))
      (pss_cons (ps_set (i := 8) sc_law_house.nd rfl (Or.inl rfl) (pe_lst pa_nil))
      (pss_cons (ps_if (pt_cmpR op_gt (pe_callB call_len_seq (by rfl) b_len (by decide +kernel) (pa_cons (pv 2) pa_nil)) pe_int (nomark _))
        (pss_one (ps_for PassesOwn.never rfl (pi_range1 (by rfl) b_range (pa_cons (pe_ix ix_seq (pe_lst (pa_cons (C8.pe_c k__law_take hr (by decide) rfl (pa_cons (pv 0) (pa_cons pe_int pa_nil))) (pa_cons (C8.pe_c k__law_take hr (by decide) rfl (pa_cons (pv 0) (pa_cons pe_int pa_nil))) pa_nil))) (pe_callTy call_int1 (by rfl) b_int (by decide +kernel) (pa_cons (pe_cmpR op_eq (C8.pe_c k__law_take hr (by decide) rfl (pa_cons (pv 0) (pa_cons pe_int pa_nil))) pe_int (nomark _)) pa_nil)) (fun _ _ => rfl)) pa_nil)) (pg_name (i := 3) sc_law_house.nd rfl (Or.inl rfl))
        (pss_cons (ps_set (i := 9) sc_law_house.nd rfl (Or.inl rfl) (C8.pe_c k__law_take hr (by decide) rfl (pa_cons (pv 0) (pa_cons (pe_callB call_len_seq (by rfl) b_len (by decide +kernel) (pa_cons (pv 2) pa_nil)) pa_nil))))
      (pss_cons (ps_set (i := 10) sc_law_house.nd rfl (Or.inl rfl) (pe_op op_modN (pe_op op_add (pe_op op_add (pv 9) pe_int) (C8.pe_c k__law_take hr (by decide) rfl (pa_cons (pv 0) (pa_cons (pe_op op_sub (pe_callB call_len_seq (by rfl) b_len (by decide +kernel) (pa_cons (pv 2) pa_nil)) pe_int) pa_nil)))) (pe_callB call_len_seq (by rfl) b_len (by decide +kernel) (pa_cons (pv 2) pa_nil))))
      (pss_cons (ps_set (i := 6) sc_law_house.nd rfl (Or.inl rfl) (pe_ix ix_seq (pe_lst (pa_cons (C8.pe_c k__law_take hr (by decide) rfl (pa_cons (pv 0) (pa_cons pe_int pa_nil))) (pa_cons (C8.pe_c k__law_take hr (by decide) rfl (pa_cons (pv 0) (pa_cons pe_int pa_nil))) pa_nil))) (pe_callTy call_int1 (by rfl) b_int (by decide +kernel) (pa_cons (pe_cmpR op_eq (C8.pe_c k__law_take hr (by decide) rfl (pa_cons (pv 0) (pa_cons pe_int pa_nil))) pe_int (nomark _)) pa_nil)) (fun _ _ => rfl)))
      (pss_one (ps_expr (pe_bm PySem.F.plainAttrs_list PySem.F.slot_list_append PySem.F.type_list_append mt_append (pv 8) (pa_cons (pe_tup (pa_cons (pv 9) (pa_cons (pv 10) (pa_cons (pv 6) pa_nil)))) pa_nil)))))))))
        pss_nil)
      (pss_cons (ps_set (i := 11) sc_law_house.nd rfl (Or.inl rfl) (pe_lst pa_nil))
      (pss_cons (ps_for PassesOwn.never rfl (pi_range1 (by rfl) b_range (pa_cons (pe_ix ix_seq (pe_lst (pa_cons (C8.pe_c k__law_take hr (by decide) rfl (pa_cons (pv 0) (pa_cons pe_int pa_nil))) (pa_cons (C8.pe_c k__law_take hr (by decide) rfl (pa_cons (pv 0) (pa_cons pe_int pa_nil))) pa_nil))) (pe_callTy call_int1 (by rfl) b_int (by decide +kernel) (pa_cons (pe_cmpR op_eq (C8.pe_c k__law_take hr (by decide) rfl (pa_cons (pv 0) (pa_cons pe_int pa_nil))) pe_int (nomark _)) pa_nil)) (fun _ _ => rfl)) pa_nil)) (pg_name (i := 3) sc_law_house.nd rfl (Or.inl rfl))
        (pss_one (ps_expr (pe_bm PySem.F.plainAttrs_list PySem.F.slot_list_append PySem.F.type_list_append mt_append (pv 11) (pa_cons (C8.pe_c k__law_stay hr (by decide) rfl (pa_cons (pv 0) (pa_cons (pv 1) (pa_cons (pv 2) pa_nil)))) pa_nil)))))
      (pss_one (ps_ret (pe_tup (pa_cons (pv 1) (pa_cons (pv 2) (pa_cons (pv 8) (pa_cons (pv 11) pa_nil)))))))))))))), ?_⟩
    -- hours
    refine ⟨_, rfl, by show 2 ≤ sizeLine; decide, fun p hp => ?_⟩
    have B1 := B.alloc (o := .lst [.int 4, .int 12]) hp
    refine pick2 rfl B1 (by decide) (by decide) upd_same fun v H2 hv B2 => ?_
    replace B2 := B1.trans B2
    obtain ⟨k, rfl, hk⟩ : ∃ k : Int, v = .int k ∧ 1 ≤ k ∧ k ≤ 12 := by
      rcases hv with rfl | rfl
      · exact ⟨_, rfl, by decide, by decide⟩
      · exact ⟨_, rfl, by decide, by decide⟩
    refine ⟨b, l, _, _, rfl, by omega, by omega, B2.start, fun r3 H3 a3 c3 B3 => ⟨_, _, rfl, rfl, ?_⟩⟩
    obtain ⟨G3, B3⟩ : ∃ G3, Bx Ps b l G H G3 H3 := ⟨_, B2.trans B3⟩
    have hh : 1 ≤ 1 + r3 ∧ 1 + r3 ≤ 12 := by omega
    -- rooms
    refine ⟨Nat.zero_le _, fun pr hpr => ?_⟩
    have O0 := Opn.begin (K := K) B3 hpr
    have S0 := B3.start
    refine ⟨_, rfl, by show 2 ≤ sizeLine; decide, fun p2 hp2 => ?_⟩
    have O1 := O0.step S0 (O0.bx.start.alloc (o := .lst [.int 3, .int 6]) hp2)
    refine pick2 rfl O1.bx (by decide) (by decide) upd_same fun v H4 hv B4 => ?_
    replace O1 := O1.step S0 B4
    obtain ⟨k2, rfl, hk2⟩ : ∃ k : Int, v = .int k ∧ 1 ≤ k ∧ k ≤ 6 := by
      rcases hv with rfl | rfl
      · exact ⟨_, rfl, by decide, by decide⟩
      · exact ⟨_, rfl, by decide, by decide⟩
    refine ⟨b, l, _, _, rfl, by omega, by omega, O1.bx.start, fun r5 H5 a5 c5 B5 => ⟨_, _, rfl, rfl, ?_⟩⟩
    replace O1 := O1.step S0 B5
    obtain ⟨nr, hnr⟩ : ∃ nr : Nat, (1 + r5 : Int) = nr := ⟨(1 + r5).toNat, by omega⟩
    refine ⟨1 + r5, rfl, by omega, by omega, ?_⟩
    rw [hnr]
    refine for_range (lo := 0) (n := nr) (fun i σ H' => ∃ (o3 o4 o5 o6 o7 : Option V) (G' : Hp) (xs : List V) (rs : List (List Int)), σ = [some (.ref b), some (.int (1 + r3)), some (.ref pr), o3, o4, o5, o6, o7, none, none, none, none] ∧ Opn K Ps b l G3 H3 pr xs rs G' H' ∧ rs.length = i ∧ Wide 4 rs ∧ ∀ r ∈ rs, roomOk r = true) ?_ ?_ ?_
    · exact ⟨none, none, none, none, none, _, [], [], rfl, O1, rfl, by simp [Wide], by simp⟩
    · rintro i σ H' hi ⟨o3, o4, o5, o6, o7, G', xs, rs, rfl, O, hlen, w4, rok⟩
      -- most
      refine ⟨_, rfl, b, l, _, _, rfl, by omega, by omega, O.bx.start, fun r1 H1 a1 c1 B' => ?_⟩
      replace O := O.step S0 B'
      refine ⟨_, rfl, b, l, _, _, rfl, by omega, by omega, O.bx.start, fun r2 H2 a2 c2 B' => ?_⟩
      replace O := O.step S0 B'
      refine ⟨by show 2 ≤ sizeLine; decide, fun p3 hp3 => ?_⟩
      replace O := O.step S0 (O.bx.start.alloc (o := .lst [.int r1, .int r2]) hp3)
      refine pick2 rfl O.bx (by decide) (by decide) upd_same fun v H4 hv B' => ?_
      replace O := O.step S0 B'
      obtain ⟨most, rfl, hmost⟩ : ∃ k : Int, v = .int k ∧ 0 ≤ k ∧ k < 1000 := by
        rcases hv with rfl | rfl
        · exact ⟨_, rfl, by omega, by omega⟩
        · exact ⟨_, rfl, by omega, by omega⟩
      -- air
      refine ⟨_, rfl, _, rfl, b, l, _, _, rfl, by omega, by omega, O.bx.start, fun r3 H3 a3 c3 B' => ?_⟩
      replace O := O.step S0 B'
      refine ⟨_, _, rfl, ?_⟩
      have hmo : 0 ≤ (if r3 < most then r3 else most) ∧ (if r3 < most then r3 else most) ≤ most := by
        by_cases e : r3 < most
        · rw [if_pos e]; omega
        · rw [if_neg e]; omega
      generalize (if r3 < most then r3 else most) = mo at hmo
      refine ⟨_, rfl, _, rfl, _, _, rfl, rfl, b, l, _, _, rfl, by omega, by omega, O.bx.start, fun r4 H4 a4 c4 B' => ?_⟩
      replace O := O.step S0 B'
      refine ⟨by show 2 ≤ sizeLine; decide, fun p4 hp4 => ?_⟩
      replace O := O.step S0 (O.bx.start.alloc (o := .lst [.int mo, .int r4]) hp4)
      refine pick2 rfl O.bx (by decide) (by decide) upd_same fun v H5 hv B' => ?_
      replace O := O.step S0 B'
      obtain ⟨air, rfl, hair⟩ : ∃ k : Int, v = .int k ∧ 0 ≤ k ∧ k ≤ most := by
        rcases hv with rfl | rfl
        · exact ⟨_, rfl, by omega, by omega⟩
        · exact ⟨_, rfl, by omega, by omega⟩
      -- limit
      refine ⟨_, rfl, b, l, _, _, rfl, by omega, by omega, O.bx.start, fun r5 H5 a5 c5 B' => ?_⟩
      replace O := O.step S0 B'
      refine ⟨_, rfl, b, l, _, _, rfl, by omega, by omega, O.bx.start, fun r6 H6 a6 c6 B' => ?_⟩
      replace O := O.step S0 B'
      refine ⟨by show 2 ≤ sizeLine; decide, fun p5 hp5 => ?_⟩
      replace O := O.step S0 (O.bx.start.alloc (o := .lst [.int r5, .int r6]) hp5)
      refine pick2 rfl O.bx (by decide) (by decide) upd_same fun v H7 hv B' => ?_
      replace O := O.step S0 B'
      obtain ⟨limit, rfl, hlimit⟩ : ∃ k : Int, v = .int k ∧ 0 ≤ k ∧ k ≤ 999 := by
        rcases hv with rfl | rfl
        · exact ⟨_, rfl, by omega, by omega⟩
        · exact ⟨_, rfl, by omega, by omega⟩
      -- price
      refine ⟨_, rfl, b, l, _, _, rfl, by omega, by omega, O.bx.start, fun r7 H8 a7 c7 B' => ?_⟩
      replace O := O.step S0 B'
      refine ⟨_, rfl, b, l, _, _, rfl, by omega, by omega, O.bx.start, fun r8 H9 a8 c8 B' => ?_⟩
      replace O := O.step S0 B'
      refine ⟨by show 2 ≤ sizeLine; decide, fun p6 hp6 => ?_⟩
      replace O := O.step S0 (O.bx.start.alloc (o := .lst [.int r7, .int r8]) hp6)
      refine pick2 rfl O.bx (by decide) (by decide) upd_same fun v H10 hv B' => ?_
      replace O := O.step S0 B'
      obtain ⟨price, rfl, hprice⟩ : ∃ k : Int, v = .int k ∧ 0 ≤ k ∧ k ≤ 999 := by
        rcases hv with rfl | rfl
        · exact ⟨_, rfl, by omega, by omega⟩
        · exact ⟨_, rfl, by omega, by omega⟩
      -- append
      refine ⟨_, rfl, .inl ⟨rfl, xs, SqL.of O.at_⟩, _, rfl, _, rfl, _, rfl, _, rfl, by show 4 ≤ sizeLine; decide, fun t ht => ?_⟩
      replace O := O.step S0 (O.bx.start.alloc (o := .tup [.int air, .int most, .int limit, .int price]) ht)
      refine ⟨pr, xs, _, rfl, rfl, O.at_, ?_, ?_⟩
      · have := O.len
        exact Nat.lt_of_lt_of_le (show xs.length < 1000 by omega) (by decide)
      · replace O := O.push (v := .ref t) (ns := [air, most, limit, price]) S0 ⟨t, rfl, SqT.of upd_same⟩
        refine ⟨_, _, _, _, _, _, _, _, rfl, O, by simp; omega, ?_, ?_⟩
        · intro r hr
          rcases List.mem_append.mp hr with h | h
          · exact w4 r h
          · simp at h; subst h; rfl
        · intro r hr
          rcases List.mem_append.mp hr with h | h
          · exact rok r h
          · simp at h; subst h
            exact roomOk_of (by omega) (by omega) (by omega) (by omega) (by omega)
    · rintro σ H0 ⟨o3, o4, o5, o6, o7, G', xs, rs, rfl, O, hlen, w4, rok⟩
      obtain ⟨G4, B4, Rr⟩ : ∃ G4, Bx Ps b l G H G4 H0 ∧ RowsL K G4 pr rs := ⟨_, B3.trans (O.done S0).1, (O.done S0).2⟩
      have hxl := O.len
      have hn1 : 1 ≤ rs.length ∧ rs.length ≤ 6 := by omega
      obtain ⟨xs, hxl0, hrv⟩ := Rr
      have hxs := SqL.of (K := K) hxl0
      have hxl := Paired.length hrv
      -- doors
      refine ⟨Nat.zero_le _, fun pd hpd => ?_⟩
      have O0 := Opn.begin (K := K) B4 hpd
      have S0 := B4.start
      dsimp only
      refine seq_if (fun σ H' => ∃ (o3 o4 o5 o6 o7 o9 o10 : Option V) (G' : Hp) (ds : List (List Int)), σ = [some (.ref b), some (.int (1 + r3)), some (.ref pr), o3, o4, o5, o6, o7, some (.ref pd), o9, o10, none] ∧ Bx Ps b l G H G' H' ∧ Same G4 G' ∧ RowsL K G' pd ds ∧ ds.length ≤ 8 ∧ Wide 3 ds ∧ ∀ d ∈ ds, doorOk rs.length d = true) ?_ ?_
      rotate_left
      · intro κ hκ
        refine ⟨_, rfl, pr, xs, rfl, .inl (O0.bx.wd.same.seq hxs), _, _, rfl, rfl, _, rfl, ?_⟩
        refine ite2 (fun hd => ?_) (fun hd => ?_)
        rotate_left
        · refine hκ _ _ ⟨_, _, _, _, _, _, _, _, [], rfl, B4.trans (O0.done S0).1, (O0.done S0).1.gr.up, (O0.done S0).2, by simp, by simp [Wide], by simp⟩
        · have hd1 : 1 < rs.length := by
            have := of_decide_eq_true hd
            omega
          refine ⟨_, rfl, b, l, _, _, rfl, by omega, by omega, O0.bx.start, fun r1 H1 a1 c1 B' => ?_⟩
          have O := O0.step S0 B'
          refine ⟨_, rfl, b, l, _, _, rfl, by omega, by omega, O.bx.start, fun r2 H2 a2 c2 B' => ?_⟩
          replace O := O.step S0 B'
          refine ⟨by show 2 ≤ sizeLine; decide, fun p3 hp3 => ?_⟩
          replace O := O.step S0 (O.bx.start.alloc (o := .lst [.int r1, .int r2]) hp3)
          refine pick2 rfl O.bx (by decide) (by decide) upd_same fun v H4 hv B' => ?_
          replace O := O.step S0 B'
          obtain ⟨nd, rfl, hnd⟩ : ∃ k : Nat, v = .int (k : Int) ∧ k ≤ 8 := by
            rcases hv with rfl | rfl
            · exact ⟨r1.toNat, by congr 1; omega, by omega⟩
            · exact ⟨r2.toNat, by congr 1; omega, by omega⟩
          refine ⟨(nd : Int), rfl, by omega, by omega, ?_⟩
          refine for_range (lo := 0) (n := nd) (fun i σ H' => ∃ (o3 o6 o9 o10 : Option V) (G' : Hp) (ys : List V) (ds : List (List Int)), σ = [some (.ref b), some (.int (1 + r3)), some (.ref pr), o3, o4, o5, o6, o7, some (.ref pd), o9, o10, none] ∧ Opn K Ps b l G4 H0 pd ys ds G' H' ∧ ds.length = i ∧ Wide 3 ds ∧ ∀ d ∈ ds, doorOk rs.length d = true) ?_ ?_ ?_
          · exact ⟨_, _, _, _, _, [], [], rfl, O, rfl, by simp [Wide], by simp⟩
          · rintro i σ H' hi ⟨o3, o6, o9, o10, G', ys, ds, rfl, O, hlen, w3, dok⟩
            have hS : Same G4 G' := O.bx.gr.up
            have hz : ∀ G2 H2, Bx Ps b l G' H' G2 H2 → SqL K H2 pr xs := fun G2 H2 B' => (hS.trans (B'.gr.up.trans B'.wd.same)).seq hxs
            have hz0 := hz _ _ O.bx.start
            have Oz := O
            refine ⟨_, rfl, _, rfl, pr, xs, rfl, .inl hz0, b, l, _, _, rfl, by omega, by omega, O.bx.start, fun r3 H3 a3 c3 B' => ?_⟩
            replace O := O.step S0 B'
            have Bs := B'
            refine ⟨_, rfl, _, _, rfl, rfl, _, rfl, _, rfl, pr, xs, rfl, .inl (hz _ _ Bs), _, _, rfl, rfl, b, l, _, _, rfl, by omega, by omega, O.bx.start, fun r4 H4 a4 c4 B' => ⟨_, _, rfl, rfl, ?_⟩⟩
            replace O := O.step S0 B'
            replace Bs := Bs.trans B'
            refine ⟨_, rfl, pr, xs, rfl, .inl (hz _ _ Bs), _, _, rfl, rfl, by omega, ?_⟩
            obtain ⟨⟨f1, f2⟩, f3⟩ := other_ne a3 c3 a4 c4
            generalize hq : (r3 + 1 + r4).fmod (xs.length : Int) = other at f1 f2 f3
            refine ⟨_, rfl, b, l, _, _, rfl, by omega, by omega, O.bx.start, fun r5 H5 a5 c5 B' => ?_⟩
            replace O := O.step S0 B'
            refine ⟨_, rfl, b, l, _, _, rfl, by omega, by omega, O.bx.start, fun r6 H6 a6 c6 B' => ?_⟩
            replace O := O.step S0 B'
            refine ⟨by show 2 ≤ sizeLine; decide, fun p5 hp5 => ?_⟩
            replace O := O.step S0 (O.bx.start.alloc (o := .lst [.int r5, .int r6]) hp5)
            refine pick2 rfl O.bx (by decide) (by decide) upd_same fun v H7 hv B' => ?_
            replace O := O.step S0 B'
            obtain ⟨limit, rfl, hlimit⟩ : ∃ k : Int, v = .int k ∧ 0 ≤ k ∧ k ≤ 999 := by
              rcases hv with rfl | rfl
              · exact ⟨_, rfl, by omega, by omega⟩
              · exact ⟨_, rfl, by omega, by omega⟩
            refine ⟨_, rfl, .inl ⟨rfl, ys, SqL.of O.at_⟩, _, rfl, _, rfl, _, rfl, by show 3 ≤ sizeLine; decide, fun t ht => ?_⟩
            replace O := O.step S0 (O.bx.start.alloc (o := .tup [.int r3, .int ((r3 + 1 + r4).fmod (xs.length : Int)), .int limit]) ht)
            refine ⟨pd, ys, _, rfl, rfl, O.at_, ?_, ?_⟩
            · have := O.len
              exact Nat.lt_of_lt_of_le (show ys.length < 1000 by omega) (by decide)
            · replace O := O.push (v := .ref t) (ns := [r3, (r3 + 1 + r4).fmod (xs.length : Int), limit]) S0 ⟨t, rfl, SqT.of upd_same⟩
              refine ⟨_, _, _, _, _, _, _, rfl, O, by simp; omega, ?_, ?_⟩
              · intro r hr
                rcases List.mem_append.mp hr with h | h
                · exact w3 r h
                · simp at h; subst h; rfl
              · intro r hr
                rcases List.mem_append.mp hr with h | h
                · exact dok r h
                · simp at h; subst h
                  rw [hq]
                  exact doorOk_of (by omega) (by omega) (by omega) f3 hlimit
          · rintro σ H' ⟨o3, o6, o9, o10, G', ys, ds, rfl, O, hlen, w3, dok⟩
            refine hκ _ _ ⟨_, _, _, _, _, _, _, _, ds, rfl, B4.trans (O.done S0).1, (O.done S0).1.gr.up, (O.done S0).2, by omega, w3, dok⟩
      · rintro σ H5 ⟨o3, o4, o5, o6, o7, o9, o10, G5, ds, rfl, B5, hS, hds, hdl, w3, dok⟩
        -- stays
        refine ⟨Nat.zero_le _, fun ps hps => ?_⟩
        have O0 := Opn.begin (K := K) B5 hps
        have S0 := B5.start
        have hxs5 : SqL K G5 pr xs := hS.seq hxs
        refine ⟨_, rfl, b, l, _, _, rfl, by omega, by omega, O0.bx.start, fun r1 H1 a1 c1 B' => ?_⟩
        have O := O0.step S0 B'
        refine ⟨_, rfl, b, l, _, _, rfl, by omega, by omega, O.bx.start, fun r2 H2 a2 c2 B' => ?_⟩
        replace O := O.step S0 B'
        refine ⟨by show 2 ≤ sizeLine; decide, fun p3 hp3 => ?_⟩
        replace O := O.step S0 (O.bx.start.alloc (o := .lst [.int r1, .int r2]) hp3)
        refine pick2 rfl O.bx (by decide) (by decide) upd_same fun v H4 hv B' => ?_
        replace O := O.step S0 B'
        obtain ⟨nd, rfl, hnd⟩ : ∃ k : Nat, v = .int (k : Int) ∧ k ≤ 20 := by
          rcases hv with rfl | rfl
          · exact ⟨r1.toNat, by congr 1; omega, by omega⟩
          · exact ⟨r2.toNat, by congr 1; omega, by omega⟩
        refine ⟨(nd : Int), rfl, by omega, by omega, ?_⟩
        refine for_range (lo := 0) (n := nd) (fun i σ H' => ∃ (o3 : Option V) (G' : Hp) (ys : List V) (ss : List (List Int)), σ = [some (.ref b), some (.int (1 + r3)), some (.ref pr), o3, o4, o5, o6, o7, some (.ref pd), o9, o10, some (.ref ps)] ∧ Opn K Ps b l G5 H5 ps ys ss G' H' ∧ ss.length = i ∧ Wide 5 ss ∧ ∀ s ∈ ss, stayOk (1 + r3) rs s = true) ?_ ?_ ?_
        · exact ⟨_, _, [], [], rfl, O, rfl, by simp [Wide], by simp⟩
        · rintro i σ H' hi ⟨o3, G', ys, ss, rfl, O, hlen, w5, sok⟩
          have hS' : Same G5 G' := O.bx.gr.up
          refine ⟨_, rfl, .inl ⟨rfl, ys, SqL.of O.at_⟩, _, rfl, _, rfl, _, rfl, ?_⟩
          refine ⟨b, l, _, pr, G', rs, rfl, O.bx.start, by omega, by omega, ⟨xs, hS'.seq hxs5, rowsV_same (hS.trans hS') hrv⟩, by omega, by omega, w4, rok, fun t ns G2 H2 B' ht h5 hok => ?_⟩
          replace O := O.step S0 B'
          refine ⟨ps, ys, _, rfl, rfl, O.at_, ?_, ?_⟩
          · have := O.len
            exact Nat.lt_of_lt_of_le (show ys.length < 1000 by omega) (by decide)
          · replace O := O.push (v := .ref t) (ns := ns) S0 ht
            refine ⟨_, _, _, _, rfl, O, by simp; omega, ?_, ?_⟩
            · intro r hr
              rcases List.mem_append.mp hr with h | h
              · exact w5 r h
              · simp at h; subst h; exact h5
            · intro r hr
              rcases List.mem_append.mp hr with h | h
              · exact sok r h
              · simp at h; subst h
                exact hok
        · rintro σ H6 ⟨o3, G', ys, ss, rfl, O, hlen, w5, sok⟩
          obtain ⟨B6, R6⟩ := O.done S0
          refine ⟨_, rfl, _, rfl, _, rfl, _, rfl, by show 4 ≤ sizeLine; decide, fun t ht => ?_⟩
          refine q t (1 + r3) pr pd ps rs ds ss _ _ ((B5.trans B6).alloc ht) ⟨SqT.of upd_same, ?_, ?_, ?_⟩ ⟨by omega, by omega, by omega, by omega, by omega, by omega, w4, w3, w5, rok, dok, sok⟩
          · exact RowsL.same (same_new (B6.wd.free ht)) ⟨xs, B6.gr.up _ _ (hS _ _ hxl0), rowsV_same (hS.trans B6.gr.up) hrv⟩
          · exact RowsL.same (same_new (B6.wd.free ht)) (RowsL.same B6.gr.up hds)
          · exact RowsL.same (same_new (B6.wd.free ht)) R6
end
end Cr
set_option Elab.async false
set_option linter.all false
set_option maxRecDepth 100000
set_option maxHeartbeats 4000000

namespace Cr
open PySem PySem.Spec PyProof.Rows L2
abbrev s_law_here : Stmt := top 27
abbrev n_law_here : List Str := ["_law_rows", "_law_room", "_law_hour", "_law_stay_here"]
abbrev a_law_here : List Str := ["_law_rows", "_law_room", "_law_hour"]
theorem sc_law_here : FnScope n_law_here a_law_here (defScope s_law_here) := ⟨rfl, rfl, rfl, by decide +kernel, rfl, by decide +kernel, by decide +kernel⟩
abbrev s_law_use : Stmt := top 28
abbrev n_law_use : List Str := ["_law_rows", "_law_room", "_law_hour", "_law_stay_here"]
abbrev a_law_use : List Str := ["_law_rows", "_law_room", "_law_hour"]
theorem sc_law_use : FnScope n_law_use a_law_use (defScope s_law_use) := ⟨rfl, rfl, rfl, by decide +kernel, rfl, by decide +kernel, by decide +kernel⟩
abbrev s_law_least : Stmt := top 29
abbrev n_law_least : List Str := ["_law_rows", "_law_room", "_law_hour", "_law_stay_here"]
abbrev a_law_least : List Str := ["_law_rows", "_law_room", "_law_hour"]
theorem sc_law_least : FnScope n_law_least a_law_least (defScope s_law_least) := ⟨rfl, rfl, rfl, by decide +kernel, rfl, by decide +kernel, by decide +kernel⟩
theorem RowsAt.sm {K : PySem.W.Frag} {G G' : Hp} {t : Addr} {h : Int} {ra da sa : Addr} {rs ds ss : List (List Int)} (e : Same G G') (a : RowsAt K G t h ra da sa rs ds ss) : RowsAt K G' t h ra da sa rs ds ss := ⟨Same.tup e a.t, a.r.same e, a.d.same e, a.s.same e⟩
theorem here_take {ss : List (List Int)} {i : Nat} {s : List Int} (r t : Int) (e : ss[i]? = some s) : (ss.take (i + 1)).filter (inHere r t) = (ss.take i).filter (inHere r t) ++ (if inHere r t s = true then [s] else []) := by
  rw [List.take_add_one, e]
  rw [List.filter_append]
  congr 1
  by_cases h : inHere r t s = true
  · rw [if_pos h]; simp [h]
  · rw [if_neg h]; simp [h]
theorem here_len (ss : List (List Int)) (r t : Int) : (ss.filter (inHere r t)).length ≤ ss.length := List.length_filter_le _ _
section
variable {P : Program} {w : World} {K : PySem.W.Frag} {mg : Str → Option Value} {base : Heap} {Ps : List Addr} {H : Hp}
structure RawU (K : PySem.W.Frag) (mg : Str → Option Value) : Prop extends RawH K mg where
  lhere : DefR K mg "_law_here" s_law_here a_law_here
  luse : DefR K mg "_law_use" s_law_use a_law_use
  lleast : DefR K mg "_law_least" s_law_least a_law_least
  b_sum : mg "sum" = none
  b_max : mg "max" = none
def spLHere (K : PySem.W.Frag) (Ps : List Addr) : Sp := fun vs H Q _ => ∃ (G : Hp) (t : Addr) (h : Int) (ra da sa : Addr) (rs ds ss : List (List Int)) (r u : Int), vs = [.ref t, .int r, .int u] ∧ Wd Ps G H ∧ Tabs Ps H ∧ RowsAt K G t h ra da sa rs ds ss ∧ Wide 5 ss ∧ ss.length ≤ 20 ∧
  ∀ l ys H', H l = none → Gr Ps G H G H' → H' l = some (.lst ys) → RowsV K G ys (ss.filter (inHere r u)) → Tabs Ps H' → Q (.ref l) H'
theorem c_lhere (T : RawU K mg) : C8.Cal P w K mg base 1 "_law_here" (spLHere K Ps) [] := by
  refine T.lhere.cal sc_law_here (fun vs H Q E h => ?_) (fun f cdv A outer s H vs Q E hr h => ?_)
  · obtain ⟨G, t, h, ra, da, sa, rs, ds, ss, r, u, rfl, _⟩ := h
    rfl
  · obtain ⟨G, t, h, ra, da, sa, rs, ds, ss, r, u, rfl, wd, tbs, ⟨ht, _, _, xr, qr, rr⟩, w5, l20, q⟩ := h
    replace qr := SqL.of (K := K) qr
    have hlen : xr.length = ss.length := Paired.length rr
    refine ⟨_, (pss_one (ps_ret (pe_lc (own := [("_law_stay_here", 3)]) rfl sc_law_here.nd (pi_list (pe_ix ix_seq (pv 0) pe_int (fun _ _ => rfl))) (blkOk_by (own := [("_law_stay_here", 3)]) (N := n_law_here) (sc := defScope s_law_here) (by decide +kernel)) (fun _ _ _ _ _ => (pg_name (i := 3) sc_law_here.nd rfl (Or.inl rfl) (Or.inr rfl))) (fun _ _ _ _ _ => pts_one (PW.pt (pw_and (pt_cmpR op_eq (pe_ix (ix_seqK (K := K) rfl) (pv 3 rfl (Or.inl rfl)) pe_int (fun _ _ => rfl)) (pv 1 rfl (Or.inr (Or.inl rfl))) (nomark _)) (pw_and (pt_cmpR op_le (pe_ix (ix_seqK (K := K) rfl) (pv 3 rfl (Or.inl rfl)) pe_int (fun _ _ => rfl)) (pv 2 rfl (Or.inr (Or.inl rfl))) (nomark _)) (pw_and1 (pt_cmpR op_lt (pv 2 rfl (Or.inr (Or.inl rfl))) (pe_ix (ix_seqK (K := K) rfl) (pv 3 rfl (Or.inl rfl)) pe_int (fun _ _ => rfl)) (nomark _))))))) (fun _ _ _ _ _ => (pv 3 rfl (Or.inl rfl)))))), ?_⟩
    refine ⟨_, rfl, .inr (.inl ⟨t, _, _, .ref sa, rfl, rfl, Same.tup wd.same ht, atI_nat (j := 3) rfl, sa, rfl, ⟨xr, wd.same.seq qr⟩, fun D hD => ?_⟩)⟩
    have hDP := tbs.nin hD
    refine lc_list (K := K) (a := sa) (xs := xr) (fun i H' => ∃ acc, Gr Ps G H G H' ∧ Tabs Ps H' ∧ H' D = some (.lst acc) ∧ RowsV K G acc ((ss.take i).filter (inHere r u)))
      ⟨[], Gr.new wd hD, tbs.upd hDP, upd_same, .nil⟩ (fun i H' _ ⟨acc, g, _⟩ => g.wd.same.seq qr) ?_ ?_
    · rintro i y H' hy ⟨acc, g, tb, hacc, hrv⟩
      obtain ⟨z, ez, ty, rfl, hty⟩ := paired_get rr hy
      have hz5 := w5 z (List.mem_of_getElem? ez)
      obtain ⟨pl, bg, en, us, nd, rfl⟩ := len5 hz5
      have hlt : i < ss.length := (List.getElem?_eq_some_iff.mp ez).1
      have hal : acc.length ≤ ss.length := by
        rw [Paired.length hrv]
        exact Nat.le_trans (here_len _ _ _) (by rw [List.length_take]; omega)
      have hstep := here_take r u ez
      have gD : G D = none := wd.free hD
      have hq : SqT K H' ty ([pl, bg, en, us, nd].map V.int) := Same.tup g.wd.same hty
      refine ⟨(by (repeat rw [wipe_set (by decide)]); exact wipe_wipe _ _), ?_⟩
      refine ⟨_, rfl, .inr (.inl ⟨ty, _, _, .int pl, rfl, rfl, hq, atI_nat (j := 0) rfl, _, rfl, rfl, _, rfl, ?_⟩)⟩
      have e0 : decide (V.int pl = V.int r) = decide (pl = r) := by simp
      rw [e0]
      have ein : inHere r u [pl, bg, en, us, nd] = (decide (pl = r) && (decide (bg ≤ u) && decide (u < en))) := rfl
      rw [ein] at hstep
      have stay : (decide (pl = r) && (decide (bg ≤ u) && decide (u < en))) = false → ∃ acc, Gr Ps G H G H' ∧ Tabs Ps H' ∧ H' D = some (.lst acc) ∧ RowsV K G acc ((ss.take (i + 1)).filter (inHere r u)) := fun e => by
        rw [e, if_neg Bool.false_ne_true, List.append_nil] at hstep
        exact ⟨acc, g, tb, hacc, by rw [hstep]; exact hrv⟩
      refine ite2 (fun h1 => ?_) (fun h1 => ?_)
      · rw [h1, Bool.true_and] at stay hstep
        refine ⟨_, rfl, .inr (.inl ⟨ty, _, _, .int bg, rfl, rfl, hq, atI_nat (j := 1) rfl, _, rfl, _, _, rfl, rfl, _, rfl, ?_⟩)⟩
        refine ite2 (fun h2 => ?_) (fun h2 => ?_)
        · have h2' : decide (bg ≤ u) = true := h2
          rw [h2', Bool.true_and] at stay hstep
          refine ⟨_, rfl, _, rfl, .inr (.inl ⟨ty, _, _, .int en, rfl, rfl, hq, atI_nat (j := 2) rfl, _, _, rfl, rfl, _, rfl, ?_⟩)⟩
          refine ite2 (fun h3 => ?_) (fun h3 => ?_)
          · have h3' : decide (u < en) = true := h3
            rw [h3', if_pos rfl] at hstep
            refine ⟨_, rfl, acc, hacc, small1000 (by omega), acc ++ [.ref ty], g.poke hD gD, tb.upd hDP, upd_same, ?_⟩
            rw [hstep]
            exact paired_snoc hrv ⟨ty, rfl, hty⟩
          · exact stay (Bool.eq_false_iff.mpr h3)
        · have h2' : decide (bg ≤ u) = false := Bool.eq_false_iff.mpr h2
          rw [h2', Bool.false_and] at stay
          exact iteF (stay rfl)
      · rw [Bool.eq_false_iff.mpr h1, Bool.false_and] at stay
        exact stay rfl
    · rintro H' ⟨acc, g, tb, hacc, hrv⟩
      rw [List.take_of_length_le (by omega)] at hrv
      exact q D acc H' hD g hacc hrv tb
def spLTwo (K : PySem.W.Frag) (Ps : List Addr) (F : List (List Int) → Int → Int → Int) : Sp := fun vs H Q _ => ∃ (G : Hp) (t : Addr) (h : Int) (ra da sa : Addr) (rs ds ss : List (List Int)) (r u : Int), vs = [.ref t, .int r, .int u] ∧ Wd Ps G H ∧ Tabs Ps H ∧ RowsAt K G t h ra da sa rs ds ss ∧ Wide 5 ss ∧ ss.length ≤ 20 ∧ (∀ s ∈ ss, 0 ≤ s.getD 4 0) ∧
  ∀ H', Gr Ps G H G H' → Tabs Ps H' → Q (.int (F ss r u)) H'
theorem use_here (ss : List (List Int)) (r u : Int) : useOf ss r u = ((ss.filter (inHere r u)).map fun z => z.getD 3 0).sum := by
  unfold useOf wantsOf
  rw [List.map_map]
  rfl
theorem least_here (ss : List (List Int)) (r u : Int) : leastOf ss r u = ((ss.filter (inHere r u)).map fun z => z.getD 4 0).foldl max 0 := by
  unfold leastOf wantsOf
  rw [List.map_map]
  rfl
theorem foldl_max_eq : ∀ (l : List Int) (a m : Int), m ∈ a :: l → (∀ y, y ∈ a :: l → y ≤ m) → l.foldl max a = m
  | [], a, m, hm, _ => by simp at hm; exact hm.symm
  | x :: l, a, m, hm, h => by
    rw [List.foldl_cons]
    have ha := h a (by simp)
    have hx := h x (by simp)
    refine foldl_max_eq l (max a x) m ?_ fun y hy => ?_
    · rcases List.mem_cons.mp hm with e | hm
      · rw [show max a x = m by omega]; exact List.mem_cons_self
      rcases List.mem_cons.mp hm with e | hm
      · rw [show max a x = m by omega]; exact List.mem_cons_self
      · exact List.mem_cons_of_mem _ hm
    · rcases List.mem_cons.mp hy with e | hy
      · omega
      · exact h y (List.mem_cons_of_mem _ (List.mem_cons_of_mem _ hy))
theorem c_luse (T : RawU K mg) : C8.Cal P w K mg base 2 "_law_use" (spLTwo K Ps useOf) [] := by
  refine T.luse.cal sc_law_use (fun vs H Q E h => ?_) (fun f cdv A outer s H vs Q E hr h => ?_)
  · obtain ⟨G, t, h, ra, da, sa, rs, ds, ss, r, u, rfl, _⟩ := h
    rfl
  · obtain ⟨G, t, h, ra, da, sa, rs, ds, ss, r, u, rfl, wd, tbs, hR, w5, l20, pos, q⟩ := h
    have b_sum := T.b_sum
    have k__law_here : C8.Cal P w K mg base 1 "_law_here" (spLHere K Ps) [] := c_lhere T
    refine ⟨_, (pss_one (ps_ret (pe_callB (cr_sum rfl) (by rfl) b_sum (by decide +kernel) (pa_cons (pe_lc (own := [("_law_stay_here", 3)]) rfl sc_law_use.nd (pi_list (C8.pe_c k__law_here hr (by decide) rfl (pa_cons (pv 0) (pa_cons (pv 1) (pa_cons (pv 2) pa_nil))))) (blkOk_by (own := [("_law_stay_here", 3)]) (N := n_law_use) (sc := defScope s_law_use) (by decide +kernel)) (fun _ _ _ _ _ => (pg_name (i := 3) sc_law_use.nd rfl (Or.inl rfl) (Or.inr rfl))) (fun _ _ _ _ _ => pts_nil) (fun _ _ _ _ _ => (pe_ix (ix_seqK (K := K) rfl) (pv 3 rfl (Or.inl rfl)) pe_int (fun _ _ => rfl)))) pa_nil)))), ?_⟩
    refine ⟨_, rfl, _, rfl, _, rfl, G, t, h, ra, da, sa, rs, ds, ss, r, u, rfl, wd, tbs, hR, w5, l20, fun l xs H1 hl g1 hxs hrv t1 => ⟨l, rfl, ⟨xs, SqL.of hxs⟩, fun D hD => ?_⟩⟩
    have hDP := t1.nin hD
    have nlD : l ≠ D := ne_of_none hxs hD
    have hlen : xs.length = (ss.filter (inHere r u)).length := Paired.length hrv
    have hln : xs.length < 32 := by
      have := here_len ss r u
      omega
    refine lc_list (K := K) (a := l) (xs := xs) (fun i H' => Gr Ps G H G H' ∧ Tabs Ps H' ∧ H' l = some (.lst xs) ∧ H' D = some (.lst (((ss.filter (inHere r u)).take i).map fun z => V.int (z.getD 3 0))))
      ⟨g1.trans (Gr.new g1.wd hD), t1.upd hDP, by rw [upd_ne nlD]; exact hxs, upd_same⟩ (fun i H' _ ⟨_, _, e, _⟩ => SqL.of e) ?_ ?_
    · rintro i y H' hy ⟨g, tb, hl', hacc⟩
      obtain ⟨z, ez, ty, rfl, hty⟩ := paired_get hrv hy
      obtain ⟨pl, bg, en, us, nd, rfl⟩ := len5 (w5 z ((List.mem_filter.mp (List.mem_of_getElem? ez)).1))
      have hi : i < xs.length := (List.getElem?_eq_some_iff.mp hy).1
      refine ⟨(by (repeat rw [wipe_set (by decide)]); exact wipe_wipe _ _), ?_⟩
      refine ⟨_, rfl, .inr (.inl ⟨ty, _, _, .int us, rfl, rfl, Same.tup g.wd.same hty, atI_nat (j := 3) rfl, ?_⟩)⟩
      refine ⟨_, hacc, small1000 (by rw [List.length_map, List.length_take]; omega), g.poke (g1.free' hD) (g1.wd.free hD), tb.upd hDP, by rw [upd_ne nlD.symm.symm]; exact hl', ?_⟩
      rw [upd_same, map_take_succ _ ez]
      rfl
    · rintro H' ⟨g, tb, hl', hacc⟩
      rw [List.take_of_length_le (by omega)] at hacc
      refine ⟨D, (ss.filter (inHere r u)).map fun z => z.getD 3 0, rfl, SqL.of (by rw [hacc, List.map_map]; rfl), ?_⟩
      rw [← use_here]
      exact q H' g tb
theorem c_lleast (T : RawU K mg) : C8.Cal P w K mg base 2 "_law_least" (spLTwo K Ps leastOf) [] := by
  refine T.lleast.cal sc_law_least (fun vs H Q E h => ?_) (fun f cdv A outer s H vs Q E hr h => ?_)
  · obtain ⟨G, t, h, ra, da, sa, rs, ds, ss, r, u, rfl, _⟩ := h
    rfl
  · obtain ⟨G, t, h, ra, da, sa, rs, ds, ss, r, u, rfl, wd, tbs, hR, w5, l20, pos, q⟩ := h
    have b_max := T.b_max
    have k__law_here : C8.Cal P w K mg base 1 "_law_here" (spLHere K Ps) [] := c_lhere T
    refine ⟨_, (pss_one (ps_ret (pe_callB (cr_max rfl) (by rfl) b_max (by decide +kernel) (pa_cons (pe_op op_cat (pe_lst (pa_cons pe_int pa_nil)) (pe_lc (own := [("_law_stay_here", 3)]) rfl sc_law_least.nd (pi_list (C8.pe_c k__law_here hr (by decide) rfl (pa_cons (pv 0) (pa_cons (pv 1) (pa_cons (pv 2) pa_nil))))) (blkOk_by (own := [("_law_stay_here", 3)]) (N := n_law_least) (sc := defScope s_law_least) (by decide +kernel)) (fun _ _ _ _ _ => (pg_name (i := 3) sc_law_least.nd rfl (Or.inl rfl) (Or.inr rfl))) (fun _ _ _ _ _ => pts_nil) (fun _ _ _ _ _ => (pe_ix (ix_seqK (K := K) rfl) (pv 3 rfl (Or.inl rfl)) pe_int (fun _ _ => rfl))))) pa_nil)))), ?_⟩
    refine ⟨by show 1 ≤ sizeLine; decide, fun p hp => ?_⟩
    have gp := Gr.new (o := .lst [.int 0]) wd hp
    have tp := tbs.same (same_new (o := .lst [.int 0]) hp)
    refine ⟨_, rfl, _, rfl, _, rfl, G, t, h, ra, da, sa, rs, ds, ss, r, u, rfl, gp.wd, tp, hR, w5, l20, fun l xs H1 hl g1 hxs hrv t1 => ⟨l, rfl, ⟨xs, SqL.of hxs⟩, fun D hD => ?_⟩⟩
    have hp1 : H1 p = some (.lst [.int 0]) := g1.keep _ _ (wd.nin hp) upd_same
    have hDP := t1.nin hD
    have nlD : l ≠ D := ne_of_none hxs hD
    have npD : p ≠ D := ne_of_none hp1 hD
    have hlen : xs.length = (ss.filter (inHere r u)).length := Paired.length hrv
    have hln : xs.length < 32 := by
      have := here_len ss r u
      omega
    have hDn : H D = none := gp.free' (g1.free' hD)
    refine lc_list (K := K) (a := l) (xs := xs) (fun i H' => Gr Ps G H G H' ∧ Tabs Ps H' ∧ H' l = some (.lst xs) ∧ H' p = some (.lst [.int 0]) ∧ H' D = some (.lst (((ss.filter (inHere r u)).take i).map fun z => V.int (z.getD 4 0))))
      ⟨(gp.trans g1).trans (Gr.new g1.wd hD), t1.upd hDP, by rw [upd_ne nlD]; exact hxs, by rw [upd_ne npD]; exact hp1, upd_same⟩ (fun i H' _ ⟨_, _, e, _⟩ => SqL.of e) ?_ ?_
    · rintro i y H' hy ⟨g, tb, hl', hp', hacc⟩
      obtain ⟨z, ez, ty, rfl, hty⟩ := paired_get hrv hy
      obtain ⟨pl, bg, en, us, nd, rfl⟩ := len5 (w5 z (List.mem_filter.mp (List.mem_of_getElem? ez)).1)
      have hi : i < xs.length := (List.getElem?_eq_some_iff.mp hy).1
      refine ⟨(by (repeat rw [wipe_set (by decide)]); exact wipe_wipe _ _), ?_⟩
      refine ⟨_, rfl, .inr (.inl ⟨ty, _, _, .int nd, rfl, rfl, Same.tup g.wd.same hty, atI_nat (j := 4) rfl, ?_⟩)⟩
      refine ⟨_, hacc, small1000 (by rw [List.length_map, List.length_take]; omega), g.poke hDn (wd.free hDn), tb.upd hDP, by rw [upd_ne nlD]; exact hl', by rw [upd_ne npD]; exact hp', ?_⟩
      rw [upd_same, map_take_succ _ ez]
      rfl
    · rintro H' ⟨g, tb, hl', hp', hacc⟩
      rw [List.take_of_length_le (by omega)] at hacc
      refine ⟨p, D, _, _, rfl, rfl, hp', hacc, by show 1 + _ ≤ _; rw [List.length_map]; exact Nat.le_trans (show _ ≤ 1000 by omega) (by decide), fun m hm => ?_⟩
      refine ⟨m, 0 :: (ss.filter (inHere r u)).map fun z => z.getD 4 0, rfl, SqL.of (by rw [upd_same, List.map_cons, List.map_map]; rfl), by simp, fun mx h1 h2 => ?_⟩
      rw [← foldl_max_eq _ _ _ h1 h2, ← least_here]
      exact q _ (g.trans (Gr.new g.wd hm)) (tb.same (same_new hm))
end
end Cr
set_option Elab.async false
set_option linter.all false
set_option maxRecDepth 100000
set_option maxHeartbeats 4000000

namespace Cr
open PySem PySem.Spec PyProof.Rows L2
abbrev s_law_refused : Stmt := top 30
abbrev n_law_refused : List Str := ["_law_rows", "e", "_law_kinds", "_law_good"]
abbrev a_law_refused : List Str := ["_law_rows"]
theorem sc_law_refused : FnScope n_law_refused a_law_refused (defScope s_law_refused) := ⟨rfl, rfl, rfl, by decide +kernel, rfl, by decide +kernel, by decide +kernel⟩
section
variable {P : Program} {w : World} {K : PySem.W.Frag} {mg : Str → Option Value} {base : Heap} {ad : Ad} {Ps : List Addr} {H : Hp}
structure RawR (K : PySem.W.Frag) (mg : Str → Option Value) (base : Heap) (ad : Ad) : Prop extends RawU K mg, RawP K mg base ad where
  lref : DefR K mg "_law_refused" s_law_refused a_law_refused
  exA : PySem.W.exmOne K (.ref ad.cBH) (.ref ad.cA) = some true
  exC : ExcC K ad.cBH
  xfC : XfC K ad.cBH
  gBH : mg "BadHouse" = some (.ref ad.cBH) ∧ PySem.W.kitOne K (.ref ad.cBH) (.ref ad.cBH) = some true
  gBP : ∃ c, mg "BadPlan" = some (.ref c) ∧ PySem.W.kitOne K (.ref ad.cBH) (.ref c) = some false
  gBT : ∃ c, mg "BadText" = some (.ref c) ∧ PySem.W.kitOne K (.ref ad.cBH) (.ref c) = some false
  gBr : ∃ c, mg "Broken" = some (.ref c) ∧ PySem.W.kitOne K (.ref ad.cBH) (.ref c) = some false
  gNP : ∃ c, mg "NoPlan" = some (.ref c) ∧ PySem.W.kitOne K (.ref ad.cBH) (.ref c) = some false
  b_ValueError : mg "ValueError" = none
  iVE : PySem.W.kitOne K (.ref ad.cBH) (.type "ValueError") = some true
def spRefused (K : PySem.W.Frag) (Ps : List Addr) : Sp := fun vs H Q _ => ∃ (G : Hp) (t : Addr) (h : Int) (ra da sa : Addr) (rs ds ss : List (List Int)) (z : Str × Int), vs = [.ref t] ∧ Wd Ps G H ∧ Tabs Ps H ∧ RowsAt K G t h ra da sa rs ds ss ∧ Wide 4 rs ∧ Wide 3 ds ∧ Wide 5 ss ∧ houseBad h rs ds ss = some z ∧
  ∀ p H', Gr Ps G H G H' → H' p = some (.tup [.str z.1, .int z.2]) → Tabs Ps H' → Q (.ref p) H'
theorem c_refused (T : RawR K mg base ad) (hP : ad.tNum ∈ Ps) : C8.Cal P w K mg base 6 "_law_refused" (spRefused K Ps) [] := by
  refine T.lref.cal sc_law_refused (fun vs H Q E h => ?_) (fun f cdv A outer s H vs Q E hr h => ?_)
  · obtain ⟨G, t, h, ra, da, sa, rs, ds, ss, z, rfl, _⟩ := h
    rfl
  · obtain ⟨G, t, h, ra, da, sa, rs, ds, ss, z, rfl, wd, tbs, ⟨ht, hR, hD, hS⟩, w4, w3, w5, hbad, q⟩ := h
    replace hR := hR.rows
    replace hD := hD.rows
    replace hS := hS.rows
    have b_isinstance := T.b_isinstance
    have b_ValueError := T.b_ValueError
    have m_AirError := T.m_AirError
    obtain ⟨m_BadHouse, kBH⟩ := T.gBH
    obtain ⟨cBP, m_BadPlan, kBP⟩ := T.gBP
    obtain ⟨cBT, m_BadText, kBT⟩ := T.gBT
    obtain ⟨cBr, m_Broken, kBr⟩ := T.gBr
    obtain ⟨cNP, m_NoPlan, kNP⟩ := T.gNP
    have kVE := T.iVE
    have x_BadHouse := T.xfC
    have f_word := T.bhw
    have f_number := T.bhn
    have k_House : MakX P w K mg base 4 "House" ad.cH (spHi ad K Ps) := mk_house T.toRawP hP
    refine ⟨_, (pss_cons (ps_try_as (i := 1) rfl rfl sc_law_refused.nd rfl rfl ⟨rfl, by decide, .inl m_AirError⟩ takes0 (fun W pn xe tk _ =>
        (pss_one (ps_expr (pe_mxS k_House hr (by decide) tk rfl (pa_cons (pe_ix (ix_seqK (K := K) rfl) (pv 0) pe_int (fun _ _ => rfl)) (pa_cons (pe_ix (ix_seqK (K := K) rfl) (pv 0) pe_int (fun _ _ => rfl)) (pa_cons (pe_ix (ix_seqK (K := K) rfl) (pv 0) pe_int (fun _ _ => rfl)) (pa_cons (pe_ix (ix_seqK (K := K) rfl) (pv 0) pe_int (fun _ _ => rfl)) pa_nil))))))))
        (fun a oe cls d pn hz hf => (pss_cons (ps_set (i := 2) sc_law_refused.nd rfl (Or.inl rfl) (pe_lst (pa_cons (pe_callB (call_isED hz hf) (by rfl) b_isinstance (by decide +kernel) (pa_cons (pv 1) (pa_cons (pe_glob (v := .ref _) rfl m_BadPlan rfl) pa_nil))) (pa_cons (pe_callB (call_isED hz hf) (by rfl) b_isinstance (by decide +kernel) (pa_cons (pv 1) (pa_cons (pe_glob (v := .ref _) rfl m_BadText rfl) pa_nil))) (pa_cons (pe_callB (call_isED hz hf) (by rfl) b_isinstance (by decide +kernel) (pa_cons (pv 1) (pa_cons (pe_glob (v := .ref _) rfl m_Broken rfl) pa_nil))) (pa_cons (pe_callB (call_isED hz hf) (by rfl) b_isinstance (by decide +kernel) (pa_cons (pv 1) (pa_cons (pe_glob (v := .ref _) rfl m_NoPlan rfl) pa_nil))) pa_nil))))))
      (pss_cons (ps_set (i := 3) sc_law_refused.nd rfl (Or.inl rfl) (pe_and (pe_callB (call_isED hz hf) (by rfl) b_isinstance (by decide +kernel) (pa_cons (pv 1) (pa_cons (pe_glob (v := .ref _) rfl m_BadHouse rfl) pa_nil))) (pe_and (pe_callB (call_isED hz hf) (by rfl) b_isinstance (by decide +kernel) (pa_cons (pv 1) (pa_cons (pe_bltn (v := .ty "ValueError") (by rfl) b_ValueError (by decide +kernel) rfl) pa_nil))) (pe_one (pe_cmpR (op_notIn_seqK (K := K) rfl) pe_bl (pv 2) (by rfl))))))
      (pss_one (ps_ret (pe_ifExp (pt_val (pv 3)) (pe_tup (pa_cons (pe_xf x_BadHouse f_word hz hf (pv 1)) (pa_cons (pe_xf x_BadHouse f_number hz hf (pv 1)) pa_nil))) pe_non)))))))
      (pss_one (ps_ret pe_non))), ?_⟩
    have hts : SqT K H t [.int h, .ref ra, .ref da, .ref sa] := Same.tup wd.same ht
    refine ⟨_, rfl, .inr (.inl ⟨t, _, _, .int h, rfl, rfl, hts, atI_nat (j := 0) rfl, ?_⟩)⟩
    refine ⟨_, rfl, .inr (.inl ⟨t, _, _, .ref ra, rfl, rfl, hts, atI_nat (j := 1) rfl, ?_⟩)⟩
    refine ⟨_, rfl, .inr (.inl ⟨t, _, _, .ref da, rfl, rfl, hts, atI_nat (j := 2) rfl, ?_⟩)⟩
    refine ⟨_, rfl, .inr (.inl ⟨t, _, _, .ref sa, rfl, rfl, hts, atI_nat (j := 3) rfl, ?_⟩)⟩
    refine fun x dx hx hdx hne => ?_
    have hxP : x ∉ Ps := tbs.nin hx
    have s2 : Same H (upd (upd H dx (.own x)) x (.ins ad.cH dx [])) := (same_new hdx).trans (same_new (by rw [upd_ne hne.symm]; exact hx))
    have g2 := Gr.skip wd s2
    have wd2 : Wd (x :: Ps) G (upd (upd H dx (.own x)) x (.ins ad.cH dx [])) := ⟨g2.wd.same, fun c hc => by
      rcases List.mem_cons.mp hc with rfl | hc
      · exact wd.free hx
      · exact wd.off c hc, fun c hc => by
      rcases List.mem_cons.mp hc with rfl | hc
      · rw [upd_same]; exact fun z => nomatch z
      · exact g2.wd.on c hc⟩
    refine ⟨G, x, dx, h, ra, da, sa, rs, ds, ss, rfl, wd2, tbs.same s2, hxP, upd_same, hR, hD, hS, w4, w3, w5, fun e => (by rw [hbad] at e; cases e), fun z' e cls d H' rz g3 t3 => ?_⟩
    rw [hbad] at e
    cases e
    obtain ⟨rfl, dd, rfl, hdd⟩ := rz
    have g4 : Gr Ps G H G H' := Gr.of_keep wd (fun c o n ec => by
      have hcx : c ≠ x := fun z => by rw [z, hx] at ec; cases ec
      exact g3.keep c o (fun hc => by
        rcases List.mem_cons.mp hc with z | hc
        · exact hcx z
        · exact n hc) (s2 _ _ ec)) fun c hc => g3.wd.on c (List.mem_cons_of_mem _ hc)
    refine ⟨true, T.exA, fun _ a ha => ?_, fun z => nomatch z⟩
    refine ⟨_, rfl, ad.cBH, dd, _, _, _, false, rfl, rfl, T.exC, rfl, hdd, .own _, kBP, ?_⟩
    refine ⟨_, rfl, ad.cBH, dd, _, _, _, false, rfl, rfl, T.exC, rfl, hdd, .own _, kBT, ?_⟩
    refine ⟨_, rfl, ad.cBH, dd, _, _, _, false, rfl, rfl, T.exC, rfl, hdd, .own _, kBr, ?_⟩
    refine ⟨_, rfl, ad.cBH, dd, _, _, _, false, rfl, rfl, T.exC, rfl, hdd, .own _, kNP, ?_⟩
    refine ⟨by show 4 ≤ sizeLine; decide, fun p hp => ?_⟩
    have g5 := g4.trans (Gr.new (o := .lst [.bl false, .bl false, .bl false, .bl false]) g4.wd hp)
    have t5 := t3.same (same_new (o := .lst [.bl false, .bl false, .bl false, .bl false]) hp)
    have hdd5 : (upd H' p (.lst [.bl false, .bl false, .bl false, .bl false])) dd = some (.xd [("number", .int z.2), ("word", .str z.1)]) := same_new hp _ _ hdd
    refine ⟨_, rfl, ad.cBH, dd, _, _, _, true, rfl, rfl, T.exC, rfl, hdd5, .own _, kBH, _, rfl, iteT ?_⟩
    refine ⟨_, rfl, ad.cBH, dd, _, _, _, true, rfl, rfl, T.exC, rfl, hdd5, .ty _, kVE, _, rfl, iteT ?_⟩
    refine ⟨_, rfl, p, _, rfl, .inl (SqL.of upd_same), rfl, rfl, ?_⟩
    rw [show (if true then !inV (V.bl true) [V.bl false, V.bl false, V.bl false, V.bl false] else inV (V.bl true) [V.bl false, V.bl false, V.bl false, V.bl false]) = true by decide +kernel]
    refine ⟨_, rfl, _, rfl, iteT ?_⟩
    refine ⟨_, rfl, rfl, rfl, dd, _, .str z.1, rfl, hdd5, ?_, _, rfl, rfl, rfl, dd, _, .int z.2, rfl, hdd5, ?_, by show 2 ≤ sizeLine; decide, fun p2 hp2 => ?_⟩
    · rfl
    · rfl
    · exact q p2 _ (g5.trans (Gr.new g5.wd hp2)) upd_same (t5.same (same_new hp2))
end
end Cr
set_option Elab.async false
set_option linter.all false
set_option maxRecDepth 100000
set_option maxHeartbeats 4000000

namespace Cr
open PySem PySem.Spec PyProof.Rows L2
abbrev s_law_bad_count : Stmt := top 31
abbrev n_law_bad_count : List Str := ["_law_box", "_law_rows", "_law_hours", "_law_rooms", "_law_doors", "_law_stays", "_law_way"]
abbrev a_law_bad_count : List Str := ["_law_box", "_law_rows"]
theorem sc_law_bad_count : FnScope n_law_bad_count a_law_bad_count (defScope s_law_bad_count) := ⟨rfl, rfl, rfl, by decide +kernel, rfl, by decide +kernel, by decide +kernel⟩
/-! ### things made one by one -/
section
variable {Ps : List Addr} {b l p : Addr} {G0 H0 G H G1 H1 : Hp} {xs : List V} {rs : List (List Int)} {v : V} {ns : List Int}
theorem Bx.tupS (B : Bx Ps b l G0 H0 G H) (hp : H p = none) (vs : List V) : ∃ G', Bx Ps b l G0 H0 G' (upd H p (.tup vs)) ∧ Same G G' ∧ G' p = some (.tup vs) :=
  ⟨upd G p (.tup vs), B.alloc hp, same_new (B.wd.free hp), upd_same⟩
theorem Bx.rowS (B : Bx Ps b l G0 H0 G H) (K : PySem.W.Frag) (hp : H p = none) (ns : List Int) : ∃ G', Bx Ps b l G0 H0 G' (upd H p (.tup (ns.map V.int))) ∧ Same G G' ∧ RowT K G' (.ref p) ns :=
  ⟨upd G p (.tup (ns.map V.int)), B.alloc hp, same_new (B.wd.free hp), p, rfl, SqT.of upd_same⟩
theorem Bx.lstS (B : Bx Ps b l G0 H0 G H) {K : PySem.W.Frag} (hp : H p = none) (rv : RowsV K G xs rs) : ∃ G', Bx Ps b l G0 H0 G' (upd H p (.lst xs)) ∧ Same G G' ∧ RowsL K G' p rs :=
  ⟨upd G p (.lst xs), B.alloc hp, same_new (B.wd.free hp), xs, upd_same, rowsV_same (same_new (B.wd.free hp)) rv⟩
theorem RowsL.at_ {K : PySem.W.Frag} (h : RowsL K G p rs) (B : Bx Ps b l G0 H0 G H) : ∃ xs, H p = some (.lst xs) ∧ RowsV K G xs rs ∧ xs.length = rs.length := let ⟨xs, e, r⟩ := h; ⟨xs, B.wd.same _ _ e, r, Paired.length r⟩
theorem size_le {n : Nat} (h : n ≤ 1000) : n ≤ sizeLine := Nat.le_trans h (by decide)
theorem rowsV_rep {K : PySem.W.Frag} (k : Nat) (rv : RowsV K G xs rs) : RowsV K G (List.replicate k xs).flatten (List.replicate k rs).flatten := by
  induction k with
  | zero => exact .nil
  | succ k ih => exact paired_append rv ih
theorem cut_to (xs : List V) (k : Nat) : cutV xs none (some (k : Int)) = xs.take k := by
  unfold cutV
  rw [HT.sIx_none, HT.sIx_nat, List.drop_zero, Nat.sub_zero]
  by_cases h : k ≤ xs.length
  · rw [Nat.min_eq_left h]
  · rw [Nat.min_eq_right (by omega), List.take_of_length_le (Nat.le_refl _), List.take_of_length_le (by omega)]
theorem cut_from (xs : List V) (k : Nat) : cutV xs (some (k : Int)) none = xs.drop k := by
  unfold cutV
  rw [HT.sIx_none, HT.sIx_nat]
  by_cases h : k ≤ xs.length
  · rw [Nat.min_eq_left h, List.take_of_length_le (by rw [List.length_drop]; omega)]
  · rw [Nat.min_eq_right (by omega), Nat.sub_self, List.take_zero, List.drop_of_length_le (by omega)]
end
/-- a house that cannot be, with what is said of it -/
structure BadAt (K : PySem.W.Frag) (G : Hp) (p : Addr) : Prop where
  ex : ∃ (t : Addr) (h : Int) (ra da sa : Addr) (rs ds ss : List (List Int)) (z : Str × Int), SqT K G p [.ref t, .str z.1, .int z.2] ∧ RowsAt K G t h ra da sa rs ds ss ∧ Wide 4 rs ∧ Wide 3 ds ∧ Wide 5 ss ∧ houseBad h rs ds ss = some z
section
variable {P : Program} {w : World} {K : PySem.W.Frag} {mg : Str → Option Value} {base : Heap} {Ps : List Addr} {H : Hp}
structure RawB (K : PySem.W.Frag) (mg : Str → Option Value) : Prop extends RawU K mg where
  lbc : DefR K mg "_law_bad_count" s_law_bad_count a_law_bad_count
def spBad (K : PySem.W.Frag) (Ps : List Addr) : Sp := fun vs H Q _ => ∃ (b l : Addr) (G : Hp) (t : Addr) (h : Int) (ra da sa : Addr) (rs ds ss : List (List Int)), vs = [.ref b, .ref t] ∧ Bx Ps b l G H G H ∧ RowsAt K G t h ra da sa rs ds ss ∧ GoodH h rs ds ss ∧
  ∀ p G' H', Bx Ps b l G H G' H' → BadAt K G' p → Q (.ref p) H'
theorem bad_of {h : Int} {rs ds ss : List (List Int)} {z : Str × Int} (e : countBad h rs ds ss = some z) : houseBad h rs ds ss = some z := by
  unfold houseBad
  rw [e]
theorem bad_done {K : PySem.W.Frag} {Ps : List Addr} {b l : Addr} {G0 H0 G H : Hp} {Q : VK} (q : ∀ p G' H', Bx Ps b l G0 H0 G' H' → BadAt K G' p → Q (.ref p) H') (B : Bx Ps b l G0 H0 G H) {h : Int} {ra da sa : Addr} {rs ds ss : List (List Int)}
    (hr : RowsL K G ra rs) (hd : RowsL K G da ds) (hs : RowsL K G sa ss) (w4 : Wide 4 rs) (w3 : Wide 3 ds) (w5 : Wide 5 ss) (z : Str × Int) (hb : houseBad h rs ds ss = some z) (t : Addr) (ht : H t = none) (p : Addr)
    (hp : upd H t (.tup [.int h, .ref ra, .ref da, .ref sa]) p = none) : Q (.ref p) (upd (upd H t (.tup [.int h, .ref ra, .ref da, .ref sa])) p (.tup [.ref t, .str z.1, .int z.2])) := by
  obtain ⟨G1, B1, s1, e1⟩ := B.tupS ht [.int h, .ref ra, .ref da, .ref sa]
  obtain ⟨G2, B2, s2, e2⟩ := B1.tupS hp [.ref t, .str z.1, .int z.2]
  have s := s1.trans s2
  exact q p G2 _ B2 ⟨t, h, ra, da, sa, rs, ds, ss, z, SqT.of e2, ⟨SqT.of (s2 _ _ e1), hr.same s, hd.same s, hs.same s⟩, w4, w3, w5, hb⟩
theorem wide_nil {n : Nat} : Wide n [] := fun _ h => nomatch h
theorem wide_rep {n k : Nat} {r : List Int} (h : r.length = n) : Wide n (List.replicate k r) := fun x hx => by rw [List.eq_of_mem_replicate hx]; exact h
theorem c_bad_count (T : RawB K mg) : C8.Cal P w K mg base 2 "_law_bad_count" (spBad K Ps) [] := by
  refine T.lbc.cal sc_law_bad_count (fun vs H Q E h => ?_) (fun f cdv A outer s H vs Q E hr h => ?_)
  · obtain ⟨b, l, G, t, h, ra, da, sa, rs, ds, ss, rfl, _⟩ := h
    rfl
  · obtain ⟨b, l, G, t, h, ra, da, sa, rs, ds, ss, rfl, B, hR, hG, q⟩ := h
    have k__law_take : C8.Cal P w K mg base 1 "_law_take" (spTake Ps) [] := c_take T.toRawL
    refine ⟨_, (pss_cons (ps_asg (pv 1) (pg_tup rfl (pgs_cons (pg_name (i := 2) sc_law_bad_count.nd rfl (Or.inl rfl)) (pgs_cons (pg_name (i := 3) sc_law_bad_count.nd rfl (Or.inl rfl)) (pgs_cons (pg_name (i := 4) sc_law_bad_count.nd rfl (Or.inl rfl)) (pgs_cons (pg_name (i := 5) sc_law_bad_count.nd rfl (Or.inl rfl)) pgs_nil))))))
      (pss_cons (ps_set (i := 6) sc_law_bad_count.nd rfl (Or.inl rfl) (C8.pe_c k__law_take hr (by decide) rfl (pa_cons (pv 0) (pa_cons pe_int pa_nil))))
      (pss_cons (ps_if (pt_cmpR op_eq (C8.pe_c k__law_take hr (by decide) rfl (pa_cons (pv 0) (pa_cons pe_int pa_nil))) pe_int (nomark _))
        (pss_one (ps_set (i := 3) sc_law_bad_count.nd rfl (Or.inl rfl) (pe_op op_cat (pe_lst (pa_cons (pe_tup (pa_cons pe_int (pa_cons pe_int (pa_cons pe_int (pa_cons pe_int pa_nil))))) pa_nil)) (pe_slice sl_list (pv 3) (po_some pe_int) po_none))))
        pss_nil)
      (pss_cons (ps_if (pt_cmpR op_lt (pv 6) pe_int (nomark _))
        (pss_one (ps_ret (pe_tup (pa_cons (pe_tup (pa_cons (pe_ix ix_seq (pe_lst (pa_cons pe_int (pa_cons pe_int pa_nil))) (pv 6) (fun _ _ => rfl)) (pa_cons (pe_lst pa_nil) (pa_cons (pv 4) (pa_cons (pv 5) pa_nil))))) (pa_cons pe_str (pa_cons pe_int pa_nil))))))
        pss_nil)
      (pss_cons (ps_if (pt_cmpR op_lt (pv 6) pe_int (nomark _))
        (pss_one (ps_ret (pe_tup (pa_cons (pe_tup (pa_cons (pv 2) (pa_cons (pe_ix ix_seq (pe_lst (pa_cons (pe_lst pa_nil) (pa_cons (pe_op op_rep (pv 3) pe_int) pa_nil))) (pe_op op_sub (pv 6) pe_int) (fun _ _ => rfl)) (pa_cons (pe_op op_rep (pe_lst (pa_cons (pe_tup (pa_cons pe_int (pa_cons pe_int (pa_cons pe_int pa_nil)))) pa_nil)) pe_int) (pa_cons (pv 5) pa_nil))))) (pa_cons pe_str (pa_cons pe_int pa_nil))))))
        pss_nil)
      (pss_cons (ps_if (pt_cmpR op_eq (pv 6) pe_int (nomark _))
        (pss_one (ps_ret (pe_tup (pa_cons (pe_tup (pa_cons (pv 2) (pa_cons (pv 3) (pa_cons (pe_op op_rep (pe_lst (pa_cons (pe_tup (pa_cons pe_int (pa_cons pe_int (pa_cons (pe_un un_neg pe_int) pa_nil)))) pa_nil)) pe_int) (pa_cons (pe_op op_rep (pe_lst (pa_cons (pe_tup (pa_cons pe_int (pa_cons pe_int (pa_cons pe_int (pa_cons pe_int (pa_cons pe_int pa_nil)))))) pa_nil)) pe_int) pa_nil))))) (pa_cons pe_str (pa_cons pe_int pa_nil))))))
        pss_nil)
      (pss_one (ps_ret (pe_tup (pa_cons (pe_tup (pa_cons (pv 2) (pa_cons (pv 3) (pa_cons (pe_lst (pa_cons (pe_tup (pa_cons pe_int (pa_cons pe_int (pa_cons pe_int pa_nil)))) pa_nil)) (pa_cons (pe_op op_rep (pe_lst (pa_cons (pe_tup (pa_cons pe_int (pa_cons pe_int (pa_cons pe_int (pa_cons pe_int (pa_cons pe_int pa_nil)))))) pa_nil)) pe_int) pa_nil))))) (pa_cons pe_str (pa_cons pe_int pa_nil)))))))))))), ?_⟩
    refine ⟨_, rfl, t, _, rfl, Same.tup B.wd.same hR.t, rfl, _, _, rfl, _, _, rfl, _, _, rfl, _, _, rfl, rfl, ?_⟩
    refine ⟨_, rfl, b, l, _, _, rfl, by omega, by omega, B.start, fun way H1 a1 c1 B1 => ?_⟩
    dsimp only
    refine seq_if (fun σ H' => ∃ (ra' : Addr) (rs' : List (List Int)) (G' : Hp), σ = [some (.ref b), some (.ref t), some (.int h), some (.ref ra'), some (.ref da), some (.ref sa), some (.int way)] ∧ Bx Ps b l G H G' H' ∧ RowsL K G' ra' rs' ∧ rs'.length = rs.length ∧ Wide 4 rs') ?_ ?_
    rotate_left
    · intro κ hκ
      refine ⟨_, rfl, b, l, _, _, rfl, by omega, by omega, B1.start, fun r2 H2 a2 c2 B2 => ?_⟩
      replace B2 := B1.trans B2
      refine ⟨rfl, _, rfl, ?_⟩
      refine ite2 (fun _ => ?_) (fun _ => ?_)
      · refine ⟨by show 4 ≤ sizeLine; decide, fun p3 hp3 => ?_⟩
        obtain ⟨G3, B3, s3, R3⟩ := B2.rowS K hp3 [0, 1000, 1, 1]
        refine ⟨by show 1 ≤ sizeLine; decide, fun p4 hp4 => ?_⟩
        obtain ⟨G4, B4, s4, R4⟩ := B3.lstS hp4 (.cons R3 .nil)
        obtain ⟨xr, er, rv, lr⟩ := (hR.r.same B4.gr.up).at_ B4
        refine ⟨_, rfl, _, rfl, ra, xr, rfl, SqL.of er, fun p5 hp5 => ?_⟩
        obtain ⟨G5, B5, s5, R5⟩ := B4.lstS (xs := cutV xr (some 1) none) (rs := rs.drop 1) hp5 (by rw [show cutV xr (some 1) none = xr.drop 1 from cut_from xr 1]; exact paired_drop 1 rv)
        obtain ⟨x4, e4, v4, l4⟩ := (R4.same s5).at_ B5
        obtain ⟨x5, e5, v5, l5⟩ := R5.at_ B5
        have hr6 := hG.r6
        have hr1 := hG.r1
        refine ⟨p4, p5, _, _, rfl, rfl, e4, e5, size_le (by rw [l4, l5]; simp; omega), fun p6 hp6 => ?_⟩
        obtain ⟨G6, B6, s6, R6⟩ := B5.lstS hp6 (paired_append v4 v5)
        refine hκ _ _ ⟨_, _, G6, rfl, B6, R6, by simp; omega, fun r hr => ?_⟩
        rcases List.mem_append.mp hr with h | h
        · simp at h; subst h; rfl
        · exact hG.w4 r (List.mem_of_mem_drop h)
      · exact hκ _ _ ⟨ra, rs, G, rfl, B2, hR.r, rfl, hG.w4⟩
    · rintro σ H3 ⟨ra', rs', G3, rfl, B3, R3, hl', w4'⟩
      replace hR : RowsAt K G3 t h ra da sa rs ds ss := ⟨Same.tup B3.gr.up hR.t, hR.r.same B3.gr.up, hR.d.same B3.gr.up, hR.s.same B3.gr.up⟩
      have hr6 := hG.r6
      have hr1 := hG.r1
      have hd8 := hG.d8
      have hs20 := hG.s20
      have hh1 := hG.h1
      have hh12 := hG.h12
      refine ⟨_, rfl, _, _, rfl, rfl, _, rfl, ?_⟩
      refine ite2 (fun hw => ?_) (fun hw => ?_)
      · replace hw : way < 2 := of_decide_eq_true hw
        refine ⟨by show 2 ≤ sizeLine; decide, fun p1 hp1 => ?_⟩
        have B4 := B3.alloc (o := .lst [.int 0, .int 13]) hp1
        have s4 : Same G3 (upd G3 p1 (.lst [.int 0, .int 13])) := same_new (B3.wd.free hp1)
        obtain ⟨v, hv, hvm⟩ := atI_mem (xs := [V.int 0, V.int 13]) (i := way) a1 (by simpa using hw)
        obtain ⟨k, rfl, hk⟩ : ∃ k : Int, v = .int k ∧ ¬ (1 ≤ k ∧ k ≤ 12) := by
          simp at hvm
          rcases hvm with rfl | rfl
          · exact ⟨_, rfl, by decide⟩
          · exact ⟨_, rfl, by decide⟩
        refine ⟨_, rfl, .inl ⟨p1, _, _, _, rfl, rfl, SqL.of (B4.wd.same _ _ upd_same), hv, by show 0 ≤ sizeLine; decide, fun p2 hp2 => ?_⟩⟩
        obtain ⟨G5, B5, s5, R5⟩ := B4.lstS (K := K) (xs := []) (rs := []) hp2 .nil
        refine ⟨_, rfl, _, rfl, by show 4 ≤ sizeLine; decide, fun t' ht' => ⟨by show 3 ≤ sizeLine; decide, fun p hp => ?_⟩⟩
        refine bad_done q B5 R5 (hR.d.same (s4.trans s5)) (hR.s.same (s4.trans s5)) wide_nil hG.w3 hG.w5 ("hours", 0) (bad_of ?_) t' ht' p hp
        unfold countBad
        rw [if_pos hk]
      replace hw : ¬ way < 2 := fun z => hw (decide_eq_true z)
      refine ⟨_, rfl, _, _, rfl, rfl, _, rfl, ?_⟩
      refine ite2 (fun hw => ?_) (fun hw => ?_)
      · replace hw : way < 4 := of_decide_eq_true hw
        obtain ⟨xr, er, rv, lr⟩ := R3.at_ B3
        refine ⟨_, rfl, by show 0 ≤ sizeLine; decide, fun p1 hp1 => ?_⟩
        obtain ⟨G4, B4, s4, R4⟩ := B3.lstS (K := K) (xs := []) (rs := []) hp1 .nil
        obtain ⟨xr, er, rv, lr⟩ := (R3.same s4).at_ B4
        refine ⟨_, rfl, ra', 7, xr, rfl, rfl, er, by decide, by decide, size_le (by rw [lr]; show rs'.length * 7 ≤ 1000; omega), fun p2 hp2 => ?_⟩
        obtain ⟨G5, B5, s5, R5⟩ := B4.lstS (K := K) (xs := (List.replicate 7 xr).flatten) (rs := (List.replicate 7 rs').flatten) hp2 (rowsV_rep 7 rv)
        refine ⟨by show 2 ≤ sizeLine; decide, fun p3 hp3 => ?_⟩
        have B6 := B5.alloc (o := .lst [.ref p1, .ref p2]) hp3
        have s6 : Same G5 (upd G5 p3 (.lst [.ref p1, .ref p2])) := same_new (B5.wd.free hp3)
        obtain ⟨v, hv, hvm⟩ := atI_mem (xs := [V.ref p1, V.ref p2]) (i := way - 2) (by omega) (by simp; omega)
        refine ⟨_, rfl, _, _, rfl, rfl, .inl ⟨p3, _, _, _, rfl, rfl, SqL.of (B6.wd.same _ _ upd_same), hv, ?_⟩⟩
        obtain ⟨pv, rr, rfl, Rv, hw4, hno⟩ : ∃ pv rr, v = .ref pv ∧ RowsL K (upd G5 p3 (.lst [.ref p1, .ref p2])) pv rr ∧ Wide 4 rr ∧ ¬ (1 ≤ rr.length ∧ rr.length ≤ 6) := by
          simp at hvm
          rcases hvm with rfl | rfl
          · exact ⟨p1, [], rfl, R4.same (s5.trans s6), wide_nil, by simp⟩
          · refine ⟨p2, _, rfl, R5.same s6, fun r hr => ?_, by simp; omega⟩
            simp at hr
            exact w4' r hr
        refine ⟨by show 3 ≤ sizeLine; decide, fun px1 hpx1 => ?_⟩
        obtain ⟨Gx1, Bx1, sx1, Rx1⟩ := B6.rowS K hpx1 [0, 0, 0]
        refine ⟨by show 1 ≤ sizeLine; decide, fun py1 hpy1 => ?_⟩
        obtain ⟨Gy1, By1, sy1, Ry1⟩ := Bx1.lstS (K := K) hpy1 (.cons Rx1 .nil)
        obtain ⟨xy1, ey1, vy1, ly1⟩ := Ry1.at_ By1
        refine ⟨py1, 9, xy1, rfl, rfl, ey1, by omega, by omega, size_le (by rw [ly1]; show 1 * 9 ≤ 1000; decide), fun pz1 hpz1 => ?_⟩
        obtain ⟨Gz1, Bz1, sz1, Rz1⟩ := By1.lstS (K := K) hpz1 (rowsV_rep (9 : Int).toNat vy1)
        have sA := (s6.trans sx1).trans (sy1.trans sz1)
        refine ⟨_, rfl, by show 4 ≤ sizeLine; decide, fun t' ht' => ⟨by show 3 ≤ sizeLine; decide, fun p hp => ?_⟩⟩
        refine bad_done q Bz1 (Rv.same ((sx1.trans sy1).trans sz1)) Rz1 (hR.s.same ((s4.trans s5).trans sA)) hw4 (fun r hr => ?_) hG.w5 ("rooms", 0) (bad_of ?_) t' ht' p hp
        · simp at hr; subst hr; rfl
        · unfold countBad
          rw [if_neg (by omega), if_pos hno]
      replace hw : ¬ way < 4 := fun z => hw (decide_eq_true z)
      refine ⟨_, rfl, rfl, _, rfl, ?_⟩
      refine ite2 (fun hw => ?_) (fun hw => ?_)
      · refine ⟨_, rfl, _, rfl, ?_⟩
        refine ⟨_, rfl, by show 3 ≤ sizeLine; decide, fun px1 hpx1 => ?_⟩
        obtain ⟨Gx1, Bx1, sx1, Rx1⟩ := B3.rowS K hpx1 [0, 0, -1]
        refine ⟨by show 1 ≤ sizeLine; decide, fun py1 hpy1 => ?_⟩
        obtain ⟨Gy1, By1, sy1, Ry1⟩ := Bx1.lstS (K := K) hpy1 (.cons Rx1 .nil)
        obtain ⟨xy1, ey1, vy1, ly1⟩ := Ry1.at_ By1
        refine ⟨py1, 9, xy1, rfl, rfl, ey1, by omega, by omega, size_le (by rw [ly1]; show 1 * 9 ≤ 1000; decide), fun pz1 hpz1 => ?_⟩
        obtain ⟨Gz1, Bz1, sz1, Rz1⟩ := By1.lstS (K := K) hpz1 (rowsV_rep (9 : Int).toNat vy1)
        refine ⟨by show 5 ≤ sizeLine; decide, fun px2 hpx2 => ?_⟩
        obtain ⟨Gx2, Bx2, sx2, Rx2⟩ := Bz1.rowS K hpx2 [0, 0, 0, 0, 0]
        refine ⟨by show 1 ≤ sizeLine; decide, fun py2 hpy2 => ?_⟩
        obtain ⟨Gy2, By2, sy2, Ry2⟩ := Bx2.lstS (K := K) hpy2 (.cons Rx2 .nil)
        obtain ⟨xy2, ey2, vy2, ly2⟩ := Ry2.at_ By2
        refine ⟨py2, 21, xy2, rfl, rfl, ey2, by omega, by omega, size_le (by rw [ly2]; show 1 * 21 ≤ 1000; decide), fun pz2 hpz2 => ?_⟩
        obtain ⟨Gz2, Bz2, sz2, Rz2⟩ := By2.lstS (K := K) hpz2 (rowsV_rep (21 : Int).toNat vy2)
        have sA := (sx1.trans sy1).trans sz1
        have sB := (sx2.trans sy2).trans sz2
        refine ⟨by show 4 ≤ sizeLine; decide, fun t' ht' => ⟨by show 3 ≤ sizeLine; decide, fun p hp => ?_⟩⟩
        refine bad_done q Bz2 (R3.same (sA.trans sB)) (Rz1.same sB) Rz2 w4' (fun r hr => ?_) (fun r hr => ?_) ("doors", 0) (bad_of ?_) t' ht' p hp
        · simp at hr; subst hr; rfl
        · simp at hr; subst hr; rfl
        · unfold countBad
          rw [if_neg (by omega), if_neg (by omega), if_pos (by decide)]
      · refine ⟨_, rfl, _, rfl, ?_⟩
        refine ⟨by show 3 ≤ sizeLine; decide, fun px1 hpx1 => ?_⟩
        obtain ⟨Gx1, Bx1, sx1, Rx1⟩ := B3.rowS K hpx1 [0, 0, 0]
        refine ⟨by show 1 ≤ sizeLine; decide, fun py1 hpy1 => ?_⟩
        obtain ⟨Gy1, By1, sy1, Ry1⟩ := Bx1.lstS (K := K) hpy1 (.cons Rx1 .nil)
        have sz1 := sx1.trans sy1
        refine ⟨by show 5 ≤ sizeLine; decide, fun px2 hpx2 => ?_⟩
        obtain ⟨Gx2, Bx2, sx2, Rx2⟩ := By1.rowS K hpx2 [0, 0, 0, 0, 0]
        refine ⟨by show 1 ≤ sizeLine; decide, fun py2 hpy2 => ?_⟩
        obtain ⟨Gy2, By2, sy2, Ry2⟩ := Bx2.lstS (K := K) hpy2 (.cons Rx2 .nil)
        obtain ⟨xy2, ey2, vy2, ly2⟩ := Ry2.at_ By2
        refine ⟨py2, 21, xy2, rfl, rfl, ey2, by omega, by omega, size_le (by rw [ly2]; show 1 * 21 ≤ 1000; decide), fun pz2 hpz2 => ?_⟩
        obtain ⟨Gz2, Bz2, sz2, Rz2⟩ := By2.lstS (K := K) hpz2 (rowsV_rep (21 : Int).toNat vy2)
        have sB := (sx2.trans sy2).trans sz2
        refine ⟨by show 4 ≤ sizeLine; decide, fun t' ht' => ⟨by show 3 ≤ sizeLine; decide, fun p hp => ?_⟩⟩
        refine bad_done q Bz2 (R3.same (sz1.trans sB)) (Ry1.same sB) Rz2 w4' (fun r hr => ?_) (fun r hr => ?_) ("stays", 0) (bad_of ?_) t' ht' p hp
        · simp at hr; subst hr; rfl
        · simp at hr; subst hr; rfl
        · unfold countBad
          rw [if_neg (by omega), if_neg (by omega), if_neg (by decide), if_pos (by decide)]
end
end Cr
set_option Elab.async false
set_option linter.all false
set_option maxRecDepth 100000
set_option maxHeartbeats 4000000

namespace Cr
open PySem PySem.Spec PyProof.Rows L2
abbrev s_law_wrong : Stmt := top 32
abbrev n_law_wrong : List Str := ["_law_box", "_law_rows", "_law_hours", "_law_rooms", "_law_doors", "_law_stays", "_law_way", "_law_later", "_law_far", "_law_bad", "_law_made_here", "_law_many", "_law_door", "_law_stay_here"]
abbrev a_law_wrong : List Str := ["_law_box", "_law_rows"]
theorem sc_law_wrong : FnScope n_law_wrong a_law_wrong (defScope s_law_wrong) := ⟨rfl, rfl, rfl, by decide +kernel, rfl, by decide +kernel, by decide +kernel⟩
theorem st_eq {t : TS} {D : Ends} {σ σ' : L2.St} {H : Hp} (e : σ = σ') (h : t D σ' H) : t D σ H := e ▸ h
/-! ### what cannot be -/
theorem doorOk_inv {n : Nat} {o t l : Int} (h : doorOk n [o, t, l] = true) : (0 ≤ o ∧ o ≤ 999) ∧ (0 ≤ t ∧ t ≤ 999) ∧ (0 ≤ l ∧ l ≤ 999) ∧ o ≠ t ∧ o < n ∧ t < n := by
  replace h : (([o, t, l] : List Int).all numOk && (!decide (o = t) && decide (max o t < (n : Int)))) = true := h
  rw [Bool.and_eq_true] at h
  obtain ⟨h1, h2⟩ := h
  have z := List.all_eq_true.mp h1
  simp at h2
  exact ⟨numOk_inv (z o (by simp)), numOk_inv (z t (by simp)), numOk_inv (z l (by simp)), h2.1, by omega, by omega⟩
theorem stayOk_inv {h : Int} {rs : List (List Int)} {r b e u n : Int} (g : stayOk h rs [r, b, e, u, n] = true) : (0 ≤ r ∧ r ≤ 999) ∧ (0 ≤ b ∧ b ≤ 999) ∧ (0 ≤ u ∧ u ≤ 999) ∧ (0 ≤ n ∧ n ≤ 999) ∧ r < rs.length ∧ b < e ∧ e ≤ h ∧ n ≤ mostOf rs r := by
  replace g : (([r, b, e, u, n] : List Int).all numOk && (decide (r < (rs.length : Int)) && (decide (b < e) && decide (e ≤ h) && decide (n ≤ mostOf rs r)))) = true := g
  rw [Bool.and_eq_true] at g
  obtain ⟨h1, h2⟩ := g
  have z := List.all_eq_true.mp h1
  simp at h2
  exact ⟨numOk_inv (z r (by simp)), numOk_inv (z b (by simp)), numOk_inv (z u (by simp)), numOk_inv (z n (by simp)), h2.1, h2.2.1.1, h2.2.1.2, h2.2.2⟩
theorem room_no {a m l p : Int} (h : ¬ ((0 ≤ a ∧ a ≤ 999) ∧ (0 ≤ m ∧ m ≤ 999) ∧ (0 ≤ l ∧ l ≤ 999) ∧ (0 ≤ p ∧ p ≤ 999) ∧ a ≤ m)) : roomOk [a, m, l, p] = false := Bool.eq_false_iff.mpr fun e => h (roomOk_inv e)
theorem door_no {n : Nat} {o t l : Int} (h : ¬ ((0 ≤ o ∧ o ≤ 999) ∧ (0 ≤ t ∧ t ≤ 999) ∧ (0 ≤ l ∧ l ≤ 999) ∧ o ≠ t ∧ o < n ∧ t < n)) : doorOk n [o, t, l] = false := Bool.eq_false_iff.mpr fun e => h (doorOk_inv e)
theorem stay_no {h : Int} {rs : List (List Int)} {r b e u n : Int} (g : ¬ ((0 ≤ r ∧ r ≤ 999) ∧ (0 ≤ b ∧ b ≤ 999) ∧ (0 ≤ u ∧ u ≤ 999) ∧ (0 ≤ n ∧ n ≤ 999) ∧ r < rs.length ∧ b < e ∧ e ≤ h ∧ n ≤ mostOf rs r)) : stayOk h rs [r, b, e, u, n] = false := Bool.eq_false_iff.mpr fun e => g (stayOk_inv e)
theorem firstNot_mid {ok : List Int → Bool} {A R : List (List Int)} {x : List Int} (hA : ∀ r ∈ A, ok r = true) (hx : ok x = false) : firstNot ok ((A ++ [x]) ++ R) = some A.length := by
  refine firstNot_some (r := x) ?_ hx fun j r hj e => hA r ?_
  · rw [List.append_assoc, List.getElem?_append_right (Nat.le_refl _), Nat.sub_self]; rfl
  · rw [List.append_assoc, List.getElem?_append_left hj] at e
    exact List.mem_of_getElem? e
theorem wide_app {n : Nat} {A B : List (List Int)} (h1 : Wide n A) (h2 : Wide n B) : Wide n (A ++ B) := fun r hr => (List.mem_append.mp hr).elim (h1 r) (h2 r)
theorem wide_take {n k : Nat} {A : List (List Int)} (h : Wide n A) : Wide n (A.take k) := fun r hr => h r (List.mem_of_mem_take hr)
theorem wide_one {n : Nat} {x : List Int} (h : x.length = n) : Wide n [x] := fun r hr => by simp at hr; rw [hr]; exact h
theorem wide_flat {n k : Nat} {x : List Int} (h : x.length = n) : Wide n (List.replicate k [x]).flatten := fun r hr => by simp at hr; rw [hr.2]; exact h
theorem flat_len (k : Nat) (x : List Int) : ((List.replicate k [x]).flatten).length = k := by simp
theorem count_ok {h : Int} {rs ds ss : List (List Int)} (h1 : 1 ≤ h) (h2 : h ≤ 12) (r1 : 1 ≤ rs.length) (r6 : rs.length ≤ 6) (d8 : ds.length ≤ 8) (s20 : ss.length ≤ 20) : countBad h rs ds ss = none := by
  unfold countBad
  rw [if_neg (by omega), if_neg (by omega), if_neg (by omega), if_neg (by omega)]
theorem stay_move {h : Int} {rs rs' : List (List Int)} {r b e u n : Int} (g : stayOk h rs [r, b, e, u, n] = true) (hl : r < rs'.length) (hm : mostOf rs' r = mostOf rs r) : stayOk h rs' [r, b, e, u, n] = true := by
  obtain ⟨h1, h2, h3, h4, h5, h6, h7, h8⟩ := stayOk_inv g
  show (([r, b, e, u, n] : List Int).all numOk && (decide (r < (rs'.length : Int)) && (decide (b < e) && decide (e ≤ h) && decide (n ≤ mostOf rs' r)))) = true
  rw [hm, decide_eq_true hl, decide_eq_true h6, decide_eq_true h7, decide_eq_true h8]
  replace g : (([r, b, e, u, n] : List Int).all numOk && (decide (r < (rs.length : Int)) && (decide (b < e) && decide (e ≤ h) && decide (n ≤ mostOf rs r)))) = true := g
  rw [Bool.and_eq_true] at g
  rw [g.1]; rfl
def moreRooms (rs : List (List Int)) : List (List Int) := rs.take 5 ++ [[1, 1, 1, 1]]
theorem more_len (rs : List (List Int)) : (moreRooms rs).length = min 5 rs.length + 1 := by
  unfold moreRooms
  rw [List.length_append, List.length_take]
  rfl
theorem more_ok {rs : List (List Int)} (h : ∀ r ∈ rs, roomOk r = true) : ∀ r ∈ moreRooms rs, roomOk r = true := fun r hr => by
  rcases List.mem_append.mp hr with e | e
  · exact h r (List.mem_of_mem_take e)
  · simp at e; subst e; rfl
theorem more_wide {rs : List (List Int)} (h : Wide 4 rs) : Wide 4 (moreRooms rs) := wide_app (wide_take h) (wide_one rfl)
theorem more_most {rs : List (List Int)} {r : Int} (h0 : 0 ≤ r) (h : r < (min 5 rs.length : Nat)) : mostOf (moreRooms rs) r = mostOf rs r := by
  unfold mostOf moreRooms
  have e : (rs.take 5 ++ [[1, 1, 1, 1]])[r.toNat]? = rs[r.toNat]? := by
    rw [List.getElem?_append_left (by rw [List.length_take]; omega), List.getElem?_take, if_pos (by omega)]
  have e2 : (rs.take 5 ++ [[1, 1, 1, 1]]).getD r.toNat [] = rs.getD r.toNat [] := by rw [List.getD_eq_getElem?_getD, List.getD_eq_getElem?_getD, e]
  rw [e2]
theorem more_last (rs : List (List Int)) : mostOf (moreRooms rs) (((moreRooms rs).length : Int) - 1) = 1 := by
  have e : ((((moreRooms rs).length : Int) - 1)).toNat = (rs.take 5).length := by
    rw [more_len, List.length_take]; omega
  unfold mostOf
  rw [e]
  have e2 : (moreRooms rs).getD (rs.take 5).length [] = [1, 1, 1, 1] := by
    unfold moreRooms
    rw [List.getD_eq_getElem?_getD, List.getElem?_append_right (Nat.le_refl _), Nat.sub_self]
    rfl
  rw [e2]
  rfl
def nearDoor (n : Nat) (d : List Int) : Bool := decide (max (d.getD 0 0) (d.getD 1 0) < (n : Int))
def nearStay (n : Nat) (s : List Int) : Bool := decide (s.getD 0 0 < (n : Int) - 1)
theorem filter_step {f : List Int → Bool} {ss : List (List Int)} {i : Nat} {s : List Int} (e : ss[i]? = some s) : (ss.take (i + 1)).filter f = (ss.take i).filter f ++ (if f s = true then [s] else []) := by
  rw [List.take_add_one, e]
  rw [List.filter_append]
  congr 1
  by_cases h : f s = true
  · rw [if_pos h]; simp [h]
  · rw [if_neg h]; simp [h]
theorem near_door {rs : List (List Int)} {d : List Int} (h6 : rs.length ≤ 6) (w : d.length = 3) (g : doorOk rs.length d = true) (f : nearDoor (moreRooms rs).length d = true) : doorOk (moreRooms rs).length d = true := by
  obtain ⟨o, t, l, rfl⟩ := len3 w
  obtain ⟨h1, h2, h3, h4, h5, h7⟩ := doorOk_inv g
  have hf : max o t < ((moreRooms rs).length : Int) := of_decide_eq_true f
  have hm := more_len rs
  exact doorOk_of (by omega) (by omega) (by omega) h4 h3
theorem near_stay {h : Int} {rs : List (List Int)} {s : List Int} (w : s.length = 5) (g : stayOk h rs s = true) (f : nearStay (moreRooms rs).length s = true) : stayOk h (moreRooms rs) s = true := by
  obtain ⟨r, b, e, u, n, rfl⟩ := len5 w
  obtain ⟨h1, _⟩ := stayOk_inv g
  have hf : r < ((moreRooms rs).length : Int) - 1 := of_decide_eq_true f
  have hm := more_len rs
  exact stay_move g (by omega) (more_most h1.1 (by omega))
/-- a row taken of a list of rows -/
theorem pick_row {K : PySem.W.Frag} {G : Hp} {xs : List V} {rs : List (List Int)} {i : Int} (rv : RowsV K G xs rs) (h0 : 0 ≤ i) (h1 : i < (rs.length : Int)) : ∃ p x, atI xs i = some (.ref p) ∧ x ∈ rs ∧ RowT K G (.ref p) x := by
  obtain ⟨n, rfl⟩ : ∃ n : Nat, i = (n : Int) := ⟨i.toNat, by omega⟩
  have hi : n < rs.length := by omega
  obtain ⟨v, hv, p, rfl, hp⟩ := paired_get' rv (List.getElem?_eq_getElem hi)
  exact ⟨p, _, atI_nat hv, List.getElem_mem hi, p, rfl, hp⟩
section
variable {P : Program} {w : World} {K : PySem.W.Frag} {mg : Str → Option Value} {base : Heap} {Ps : List Addr} {H : Hp}
theorem bad_fin {b l : Addr} {G0 H0 G H : Hp} {Q : VK} (q : ∀ p G' H', Bx Ps b l G0 H0 G' H' → BadAt K G' p → Q (.ref p) H') (B : Bx Ps b l G0 H0 G H) {t : Addr} {h : Int} {ra da sa : Addr} {rs ds ss : List (List Int)}
    (hR : RowsAt K G t h ra da sa rs ds ss) (w4 : Wide 4 rs) (w3 : Wide 3 ds) (w5 : Wide 5 ss) (z : Str × Int) (hb : houseBad h rs ds ss = some z) (p : Addr)
    (hp : H p = none) : Q (.ref p) (upd H p (.tup [.ref t, .str z.1, .int z.2])) := by
  obtain ⟨G2, B2, s2, e2⟩ := B.tupS hp [.ref t, .str z.1, .int z.2]
  exact q p G2 _ B2 ⟨t, h, ra, da, sa, rs, ds, ss, z, SqT.of e2, ⟨Same.tup s2 hR.t, hR.r.same s2, hR.d.same s2, hR.s.same s2⟩, w4, w3, w5, hb⟩
end
section
variable {P : Program} {w : World} {K : PySem.W.Frag} {mg : Str → Option Value} {base : Heap} {Ps : List Addr} {H : Hp}
structure RawW (K : PySem.W.Frag) (mg : Str → Option Value) : Prop extends RawB K mg where
  lwr : DefR K mg "_law_wrong" s_law_wrong a_law_wrong
theorem c_wrong (T : RawW K mg) : C8.Cal P w K mg base 3 "_law_wrong" (spBad K Ps) [] := by
  refine T.lwr.cal sc_law_wrong (fun vs H Q E h => ?_) (fun f cdv A outer s H vs Q E hr h => ?_)
  · obtain ⟨b, l, G, t, h, ra, da, sa, rs, ds, ss, rfl, _⟩ := h
    rfl
  · obtain ⟨b, l, G, t, h, ra, da, sa, rs, ds, ss, rfl, B, hR, hG, q⟩ := h
    have k__law_take : C8.Cal P w K mg base 1 "_law_take" (spTake Ps) [] := c_take T.toRawL
    have k__law_bad_count : C8.Cal P w K mg base 2 "_law_bad_count" (spBad K Ps) [] := c_bad_count T.toRawB
    have b_len := T.b_len
    have b_max := T.b_max
    refine ⟨_, (pss_cons (ps_asg (pv 1) (pg_tup rfl (pgs_cons (pg_name (i := 2) sc_law_wrong.nd rfl (Or.inl rfl)) (pgs_cons (pg_name (i := 3) sc_law_wrong.nd rfl (Or.inl rfl)) (pgs_cons (pg_name (i := 4) sc_law_wrong.nd rfl (Or.inl rfl)) (pgs_cons (pg_name (i := 5) sc_law_wrong.nd rfl (Or.inl rfl)) pgs_nil))))))
      (pss_cons (ps_set (i := 6) sc_law_wrong.nd rfl (Or.inl rfl) (C8.pe_c k__law_take hr (by decide) rfl (pa_cons (pv 0) (pa_cons pe_int pa_nil))))
      (pss_cons (ps_set (i := 7) sc_law_wrong.nd rfl (Or.inl rfl) (C8.pe_c k__law_take hr (by decide) rfl (pa_cons (pv 0) (pa_cons pe_int pa_nil))))
      (pss_cons (ps_set (i := 8) sc_law_wrong.nd rfl (Or.inl rfl) (C8.pe_c k__law_take hr (by decide) rfl (pa_cons (pv 0) (pa_cons pe_int pa_nil))))
      (pss_cons (ps_if (pt_cmpR op_eq (pv 6) pe_int (nomark _))
        (pss_one (ps_ret (C8.pe_c k__law_bad_count hr (by decide) rfl (pa_cons (pv 0) (pa_cons (pv 1) pa_nil)))))
        pss_nil)
      (pss_cons (ps_if (pt_cmpR op_eq (pv 6) pe_int (nomark _))
        (pss_cons (ps_set (i := 9) sc_law_wrong.nd rfl (Or.inl rfl) (pe_lst (pa_cons (pe_tup (pa_cons (pe_un un_neg pe_int) (pa_cons pe_int (pa_cons pe_int (pa_cons pe_int pa_nil))))) (pa_cons (pe_tup (pa_cons pe_int (pa_cons pe_int (pa_cons pe_int (pa_cons pe_int pa_nil))))) (pa_cons (pe_tup (pa_cons pe_int (pa_cons (pe_op op_add pe_int (pv 8)) (pa_cons pe_int (pa_cons pe_int pa_nil))))) (pa_cons (pe_tup (pa_cons pe_int (pa_cons pe_int (pa_cons (pe_op op_sub (pe_un un_neg pe_int) (pv 8)) (pa_cons pe_int pa_nil))))) (pa_cons (pe_tup (pa_cons pe_int (pa_cons pe_int (pa_cons (pe_op op_add pe_int (pv 8)) (pa_cons pe_int pa_nil))))) pa_nil)))))))
      (pss_cons (ps_set (i := 9) sc_law_wrong.nd rfl (Or.inl rfl) (pe_op op_cat (pv 9) (pe_lst (pa_cons (pe_tup (pa_cons pe_int (pa_cons pe_int (pa_cons pe_int (pa_cons (pe_un un_neg pe_int) pa_nil))))) (pa_cons (pe_tup (pa_cons pe_int (pa_cons pe_int (pa_cons pe_int (pa_cons pe_int pa_nil))))) (pa_cons (pe_tup (pa_cons (pe_op op_sub (pe_un un_neg pe_int) (pv 8)) (pa_cons (pe_un un_neg pe_int) (pa_cons pe_int (pa_cons pe_int pa_nil))))) pa_nil))))))
      (pss_cons (ps_set (i := 10) sc_law_wrong.nd rfl (Or.inl rfl) (pe_op op_cat (pe_op op_cat (pe_slice sl_list (pv 3) po_none (po_some pe_int)) (pe_lst (pa_cons (pe_ix ix_seq (pv 9) (C8.pe_c k__law_take hr (by decide) rfl (pa_cons (pv 0) (pa_cons pe_int pa_nil))) (fun _ _ => rfl)) pa_nil))) (pe_op op_rep (pe_lst (pa_cons (pe_tup (pa_cons pe_int (pa_cons pe_int (pa_cons pe_int (pa_cons pe_int pa_nil))))) pa_nil)) (pv 7))))
      (pss_one (ps_ret (pe_tup (pa_cons (pe_tup (pa_cons (pv 2) (pa_cons (pv 10) (pa_cons (pe_op op_rep (pe_lst (pa_cons (pe_tup (pa_cons pe_int (pa_cons pe_int (pa_cons (pe_un un_neg pe_int) pa_nil)))) pa_nil)) (pv 7)) (pa_cons (pe_op op_rep (pe_lst (pa_cons (pe_tup (pa_cons pe_int (pa_cons pe_int (pa_cons pe_int (pa_cons pe_int (pa_cons pe_int pa_nil)))))) pa_nil)) (pv 7)) pa_nil))))) (pa_cons pe_str (pa_cons (pe_callB call_len_seq (by rfl) b_len (by decide +kernel) (pa_cons (pe_slice sl_list (pv 3) po_none (po_some pe_int)) pa_nil)) pa_nil)))))))))
        pss_nil)
      (pss_cons (ps_set (i := 3) sc_law_wrong.nd rfl (Or.inl rfl) (pe_op op_cat (pe_slice sl_list (pv 3) po_none (po_some pe_int)) (pe_lst (pa_cons (pe_tup (pa_cons pe_int (pa_cons pe_int (pa_cons pe_int (pa_cons pe_int pa_nil))))) pa_nil))))
      (pss_cons (ps_set (i := 11) sc_law_wrong.nd rfl (Or.inr rfl) (pe_callB call_len_seq (by rfl) b_len (by decide +kernel) (pa_cons (pv 3) pa_nil)))
      (pss_cons (ps_setLc (i := 4) (own := [("_law_door", 12)]) rfl sc_law_wrong.nd rfl rfl (sw_true rfl rfl rfl (by decide +kernel)) (pi_list (pv 4)) (blkOk_by (own := [("_law_door", 12)]) (N := n_law_wrong) (sc := defScope s_law_wrong) (by decide +kernel)) (fun _ _ _ _ _ => (pg_name (i := 12) sc_law_wrong.nd rfl (Or.inl rfl) (Or.inr rfl))) (fun _ _ _ _ _ => pts_one (pt_cmpR op_lt (pe_callB (cr_maxTK (K := K) rfl rfl hr.units) (by rfl) b_max (by decide +kernel) (pa_cons (pe_slice (sl_tupK (K := K) rfl) (pv 12 rfl (Or.inl rfl)) po_none (po_some pe_int)) pa_nil)) (pv 11 rfl (Or.inr (Or.inl rfl))) (nomark _))) (fun _ _ _ _ _ => (pv 12 rfl (Or.inl rfl))))
      (pss_cons (ps_if (pt_cmpR op_eq (pv 6) pe_int (nomark _))
        (pss_cons (ps_set (i := 9) sc_law_wrong.nd rfl (Or.inl rfl) (pe_lst (pa_cons (pe_tup (pa_cons pe_int (pa_cons pe_int (pa_cons pe_int pa_nil)))) (pa_cons (pe_tup (pa_cons (pe_un un_neg pe_int) (pa_cons pe_int (pa_cons pe_int pa_nil)))) (pa_cons (pe_tup (pa_cons pe_int (pa_cons (pv 11 rfl (Or.inr (Or.inl rfl))) (pa_cons pe_int pa_nil)))) (pa_cons (pe_tup (pa_cons (pv 11 rfl (Or.inr (Or.inl rfl))) (pa_cons pe_int (pa_cons pe_int pa_nil)))) (pa_cons (pe_tup (pa_cons pe_int (pa_cons pe_int (pa_cons (pe_op op_sub (pe_un un_neg pe_int) (pv 8)) pa_nil)))) (pa_cons (pe_tup (pa_cons pe_int (pa_cons pe_int (pa_cons (pe_op op_add pe_int (pv 8)) pa_nil)))) (pa_cons (pe_tup (pa_cons pe_int (pa_cons pe_int (pa_cons (pe_un un_neg pe_int) pa_nil)))) pa_nil)))))))))
      (pss_cons (ps_set (i := 10) sc_law_wrong.nd rfl (Or.inl rfl) (pe_op op_cat (pe_op op_cat (pe_slice sl_list (pv 4) po_none (po_some pe_int)) (pe_lst (pa_cons (pe_ix ix_seq (pv 9) (C8.pe_c k__law_take hr (by decide) rfl (pa_cons (pv 0) (pa_cons pe_int pa_nil))) (fun _ _ => rfl)) pa_nil))) (pe_op op_rep (pe_lst (pa_cons (pe_tup (pa_cons pe_int (pa_cons pe_int (pa_cons (pe_un un_neg pe_int) pa_nil)))) pa_nil)) (pv 7))))
      (pss_one (ps_ret (pe_tup (pa_cons (pe_tup (pa_cons (pv 2) (pa_cons (pv 3) (pa_cons (pv 10) (pa_cons (pe_op op_rep (pe_lst (pa_cons (pe_tup (pa_cons (pe_un un_neg pe_int) (pa_cons pe_int (pa_cons pe_int (pa_cons pe_int (pa_cons pe_int pa_nil)))))) pa_nil)) (pv 7)) pa_nil))))) (pa_cons pe_str (pa_cons (pe_callB call_len_seq (by rfl) b_len (by decide +kernel) (pa_cons (pe_slice sl_list (pv 4) po_none (po_some pe_int)) pa_nil)) pa_nil))))))))
        pss_nil)
      (pss_cons (ps_setLc (i := 5) (own := [("_law_stay_here", 13)]) rfl sc_law_wrong.nd rfl rfl (sw_true rfl rfl rfl (by decide +kernel)) (pi_list (pv 5)) (blkOk_by (own := [("_law_stay_here", 13)]) (N := n_law_wrong) (sc := defScope s_law_wrong) (by decide +kernel)) (fun _ _ _ _ _ => (pg_name (i := 13) sc_law_wrong.nd rfl (Or.inl rfl) (Or.inr rfl))) (fun _ _ _ _ _ => pts_one (pt_cmpR op_lt (pe_ix (ix_seqK (K := K) rfl) (pv 13 rfl (Or.inl rfl)) pe_int (fun _ _ => rfl)) (pe_op op_sub (pv 11 rfl (Or.inr (Or.inl rfl))) pe_int) (nomark _))) (fun _ _ _ _ _ => (pv 13 rfl (Or.inl rfl))))
      (pss_cons (ps_set (i := 9) sc_law_wrong.nd rfl (Or.inl rfl) (pe_lst (pa_cons (pe_tup (pa_cons pe_int (pa_cons pe_int (pa_cons pe_int (pa_cons pe_int (pa_cons pe_int pa_nil)))))) (pa_cons (pe_tup (pa_cons pe_int (pa_cons pe_int (pa_cons (pe_op op_add (pv 2) pe_int) (pa_cons pe_int (pa_cons pe_int pa_nil)))))) (pa_cons (pe_tup (pa_cons (pe_un un_neg pe_int) (pa_cons pe_int (pa_cons pe_int (pa_cons pe_int (pa_cons pe_int pa_nil)))))) (pa_cons (pe_tup (pa_cons pe_int (pa_cons (pe_un un_neg pe_int) (pa_cons pe_int (pa_cons pe_int (pa_cons pe_int pa_nil)))))) (pa_cons (pe_tup (pa_cons (pv 11 rfl (Or.inr (Or.inl rfl))) (pa_cons pe_int (pa_cons pe_int (pa_cons pe_int (pa_cons pe_int pa_nil)))))) pa_nil)))))))
      (pss_cons (ps_set (i := 9) sc_law_wrong.nd rfl (Or.inl rfl) (pe_op op_cat (pv 9) (pe_lst (pa_cons (pe_tup (pa_cons (pe_op op_add (pv 11 rfl (Or.inr (Or.inl rfl))) (pv 8)) (pa_cons pe_int (pa_cons pe_int (pa_cons pe_int (pa_cons pe_int pa_nil)))))) (pa_cons (pe_tup (pa_cons pe_int (pa_cons pe_int (pa_cons pe_int (pa_cons (pe_op op_sub (pe_un un_neg pe_int) (pv 8)) (pa_cons pe_int pa_nil)))))) (pa_cons (pe_tup (pa_cons pe_int (pa_cons pe_int (pa_cons pe_int (pa_cons (pe_op op_add pe_int (pv 8)) (pa_cons pe_int pa_nil)))))) (pa_cons (pe_tup (pa_cons pe_int (pa_cons (pv 2) (pa_cons pe_int (pa_cons pe_int (pa_cons pe_int pa_nil)))))) pa_nil)))))))
      (pss_cons (ps_set (i := 9) sc_law_wrong.nd rfl (Or.inl rfl) (pe_op op_cat (pv 9) (pe_lst (pa_cons (pe_tup (pa_cons (pe_op op_sub (pv 11 rfl (Or.inr (Or.inl rfl))) pe_int) (pa_cons pe_int (pa_cons pe_int (pa_cons pe_int (pa_cons (pe_op op_add pe_int (pv 8)) pa_nil)))))) (pa_cons (pe_tup (pa_cons pe_int (pa_cons pe_int (pa_cons pe_int (pa_cons pe_int (pa_cons (pe_op op_sub (pe_un un_neg pe_int) (pv 8)) pa_nil)))))) pa_nil)))))
      (pss_cons (ps_set (i := 10) sc_law_wrong.nd rfl (Or.inl rfl) (pe_op op_cat (pe_op op_cat (pe_slice sl_list (pv 5) po_none (po_some pe_int)) (pe_lst (pa_cons (pe_ix ix_seq (pv 9) (C8.pe_c k__law_take hr (by decide) rfl (pa_cons (pv 0) (pa_cons pe_int pa_nil))) (fun _ _ => rfl)) pa_nil))) (pe_op op_rep (pe_lst (pa_cons (pe_tup (pa_cons (pe_un un_neg pe_int) (pa_cons pe_int (pa_cons pe_int (pa_cons pe_int (pa_cons pe_int pa_nil)))))) pa_nil)) (pv 7))))
      (pss_one (ps_ret (pe_tup (pa_cons (pe_tup (pa_cons (pv 2) (pa_cons (pv 3) (pa_cons (pv 4) (pa_cons (pv 10) pa_nil))))) (pa_cons pe_str (pa_cons (pe_callB call_len_seq (by rfl) b_len (by decide +kernel) (pa_cons (pe_slice sl_list (pv 5) po_none (po_some pe_int)) pa_nil)) pa_nil))))))))))))))))))))), ?_⟩
    refine ⟨_, rfl, t, _, rfl, Same.tup B.wd.same hR.t, rfl, _, _, rfl, _, _, rfl, _, _, rfl, _, _, rfl, rfl, ?_⟩
    refine ⟨_, rfl, b, l, _, _, rfl, by omega, by omega, B.start, fun way H1 a1 c1 B1 => ?_⟩
    refine ⟨_, rfl, b, l, _, _, rfl, by omega, by omega, B1.start, fun later H2 a2 c2 B2 => ?_⟩
    replace B2 := B1.trans B2
    refine ⟨_, rfl, b, l, _, _, rfl, by omega, by omega, B2.start, fun far H3 a3 c3 B3 => ?_⟩
    replace B3 := B2.trans B3
    refine ⟨_, rfl, rfl, _, rfl, ?_⟩
    refine ite2 (fun hw => ?_) (fun hw => ?_)
    · refine ⟨_, rfl, _, rfl, b, l, G, t, h, ra, da, sa, rs, ds, ss, rfl, B3.start, hR, hG, fun p G' H' B' hb => q p G' H' (B3.trans B') hb⟩
    refine ⟨_, rfl, rfl, _, rfl, ?_⟩
    refine ite2 (fun hw1 => ?_) (fun hw1 => ?_)
    · have hh1 := hG.h1
      have hh12 := hG.h12
      have hr6 := hG.r6
      have hr1 := hG.r1
      refine ⟨_, rfl, by show 4 ≤ sizeLine; decide, fun pra0 hpra0 => ?_⟩
      obtain ⟨Gra0, Bra0, sra0, Rra0⟩ := B3.rowS K hpra0 [-1, 5, 1, 1]
      refine ⟨by show 4 ≤ sizeLine; decide, fun pra1 hpra1 => ?_⟩
      obtain ⟨Gra1, Bra1, sra1, Rra1⟩ := Bra0.rowS K hpra1 [6, 5, 1, 1]
      refine ⟨_, rfl, _, _, rfl, rfl, by show 4 ≤ sizeLine; decide, fun pra2 hpra2 => ?_⟩
      obtain ⟨Gra2, Bra2, sra2, Rra2⟩ := Bra1.rowS K hpra2 [0, 1000 + far, 1, 1]
      refine ⟨_, rfl, _, rfl, _, _, rfl, rfl, by show 4 ≤ sizeLine; decide, fun pra3 hpra3 => ?_⟩
      obtain ⟨Gra3, Bra3, sra3, Rra3⟩ := Bra2.rowS K hpra3 [0, 5, -1 - far, 1]
      refine ⟨_, rfl, _, _, rfl, rfl, by show 4 ≤ sizeLine; decide, fun pra4 hpra4 => ?_⟩
      obtain ⟨Gra4, Bra4, sra4, Rra4⟩ := Bra3.rowS K hpra4 [0, 5, 1000 + far, 1]
      have tra4 : Same Gra4 Gra4 := Same.refl _
      have tra3 := sra4.trans tra4
      have tra2 := sra3.trans tra3
      have tra1 := sra2.trans tra2
      have tra0 := sra1.trans tra1
      refine ⟨by show 5 ≤ sizeLine; decide, fun pla hpla => ?_⟩
      obtain ⟨Gla, Bla, sla', Rla⟩ := Bra4.lstS (K := K) hpla (.cons (Rra0.same tra0) (.cons (Rra1.same tra1) (.cons (Rra2.same tra2) (.cons (Rra3.same tra3) (.cons (Rra4.same tra4) (.nil))))))
      have sla := (sra0.trans tra0).trans sla'
      refine ⟨_, rfl, _, rfl, by show 4 ≤ sizeLine; decide, fun prb0 hprb0 => ?_⟩
      obtain ⟨Grb0, Brb0, srb0, Rrb0⟩ := Bla.rowS K hprb0 [0, 5, 1, -1]
      refine ⟨by show 4 ≤ sizeLine; decide, fun prb1 hprb1 => ?_⟩
      obtain ⟨Grb1, Brb1, srb1, Rrb1⟩ := Brb0.rowS K hprb1 [0, 5, 1, 1000]
      refine ⟨_, rfl, _, rfl, _, _, rfl, rfl, _, rfl, by show 4 ≤ sizeLine; decide, fun prb2 hprb2 => ?_⟩
      obtain ⟨Grb2, Brb2, srb2, Rrb2⟩ := Brb1.rowS K hprb2 [-1 - far, -1, 1, 1]
      have trb2 : Same Grb2 Grb2 := Same.refl _
      have trb1 := srb2.trans trb2
      have trb0 := srb1.trans trb1
      refine ⟨by show 3 ≤ sizeLine; decide, fun plb hplb => ?_⟩
      obtain ⟨Glb, Blb, slb', Rlb⟩ := Brb2.lstS (K := K) hplb (.cons (Rrb0.same trb0) (.cons (Rrb1.same trb1) (.cons (Rrb2.same trb2) (.nil))))
      have slb := (srb0.trans trb0).trans slb'
      obtain ⟨xac, eac, vac, lac⟩ := (Rla.same slb).at_ Blb
      obtain ⟨xbc, ebc, vbc, lbc⟩ := (Rlb).at_ Blb
      refine ⟨pla, plb, _, _, rfl, rfl, eac, ebc, size_le (by rw [lac, lbc]; show 5 + 3 ≤ 1000; decide), fun pcc hpcc => ?_⟩
      obtain ⟨Gcc, Bcc, scc, Rcc⟩ := Blb.lstS (K := K) hpcc (paired_append vac vbc)
      have hS := (sla.trans slb).trans scc
      obtain ⟨xsd, esd, vsd, lsd⟩ := (hR.r.same hS).at_ Bcc
      refine ⟨_, rfl, _, rfl, ra, xsd, rfl, SqL.of esd, fun psd hpsd => ?_⟩
      obtain ⟨Gsd, Bsd, ssd, Rsd⟩ := Bcc.lstS (xs := cutV xsd none (some 4)) (rs := (rs).take 4) hpsd (by rw [show cutV xsd none (some 4) = xsd.take 4 from cut_to xsd 4]; exact paired_take 4 vsd)
      refine ⟨_, rfl, _, rfl, b, l, _, _, rfl, by omega, by omega, Bsd.start, fun r4 H4 a4 c4 B4 => ?_⟩
      replace B4 := Bsd.trans B4
      obtain ⟨xbad, ebad, vbad, lbad⟩ := (Rcc.same ssd).at_ B4
      obtain ⟨pb, x, hpb, hx, Rx⟩ := pick_row vbad a4 (by show r4 < ((5 + 3 : Nat) : Int); omega)
      have hxno : roomOk x = false ∧ x.length = 4 := by
        simp only [List.cons_append, List.nil_append, List.mem_cons, List.mem_nil_iff, or_false] at hx
        rcases hx with rfl | rfl | rfl | rfl | rfl | rfl | rfl | rfl <;> exact ⟨room_no (by omega), rfl⟩
      refine .inl ⟨pcc, _, _, _, rfl, rfl, SqL.of ebad, hpb, by show 1 ≤ sizeLine; decide, fun p5 hp5 => ?_⟩
      obtain ⟨G5, B5, s5, R5⟩ := B4.lstS (K := K) hp5 (.cons Rx .nil)
      obtain ⟨xae, eae, vae, lae⟩ := (Rsd.same s5).at_ B5
      obtain ⟨xbe, ebe, vbe, lbe⟩ := (R5).at_ B5
      refine ⟨psd, p5, _, _, rfl, rfl, eae, ebe, size_le (by rw [lae, lbe]; simp; omega), fun pce hpce => ?_⟩
      obtain ⟨Gce, Bce, sce, Rce⟩ := B5.lstS (K := K) hpce (paired_append vae vbe)
      refine ⟨by show 4 ≤ sizeLine; decide, fun px1 hpx1 => ?_⟩
      obtain ⟨Gx1, Bx1, sx1, Rx1⟩ := Bce.rowS K hpx1 [9, 1, 1, 1]
      refine ⟨by show 1 ≤ sizeLine; decide, fun py1 hpy1 => ?_⟩
      obtain ⟨Gy1, By1, sy1, Ry1⟩ := Bx1.lstS (K := K) hpy1 (.cons Rx1 .nil)
      obtain ⟨xy1, ey1, vy1, ly1⟩ := Ry1.at_ By1
      refine ⟨_, rfl, py1, later, xy1, rfl, rfl, ey1, by omega, by omega, size_le (by rw [ly1]; show 1 * later.toNat ≤ 1000; omega), fun pz1 hpz1 => ?_⟩
      obtain ⟨Gz1, Bz1, sz1, Rz1⟩ := By1.lstS (K := K) hpz1 (rowsV_rep (later : Int).toNat vy1)
      obtain ⟨xaf, eaf, vaf, laf⟩ := (Rce.same ((sx1.trans sy1).trans sz1)).at_ Bz1
      obtain ⟨xbf, ebf, vbf, lbf⟩ := (Rz1).at_ Bz1
      refine ⟨pce, pz1, _, _, rfl, rfl, eaf, ebf, size_le (by rw [laf, lbf]; simp; omega), fun pcf hpcf => ?_⟩
      obtain ⟨Gcf, Bcf, scf, Rcf⟩ := Bz1.lstS (K := K) hpcf (paired_append vaf vbf)
      have hS2 := (((ssd.trans s5).trans sce).trans ((sx1.trans sy1).trans sz1)).trans scf
      refine ⟨_, rfl, _, rfl, ?_⟩
      refine ⟨_, rfl, by show 3 ≤ sizeLine; decide, fun px2 hpx2 => ?_⟩
      obtain ⟨Gx2, Bx2, sx2, Rx2⟩ := Bcf.rowS K hpx2 [0, 0, -1]
      refine ⟨by show 1 ≤ sizeLine; decide, fun py2 hpy2 => ?_⟩
      obtain ⟨Gy2, By2, sy2, Ry2⟩ := Bx2.lstS (K := K) hpy2 (.cons Rx2 .nil)
      obtain ⟨xy2, ey2, vy2, ly2⟩ := Ry2.at_ By2
      refine ⟨_, rfl, py2, later, xy2, rfl, rfl, ey2, by omega, by omega, size_le (by rw [ly2]; show 1 * later.toNat ≤ 1000; omega), fun pz2 hpz2 => ?_⟩
      obtain ⟨Gz2, Bz2, sz2, Rz2⟩ := By2.lstS (K := K) hpz2 (rowsV_rep (later : Int).toNat vy2)
      refine ⟨by show 5 ≤ sizeLine; decide, fun px3 hpx3 => ?_⟩
      obtain ⟨Gx3, Bx3, sx3, Rx3⟩ := Bz2.rowS K hpx3 [9, 0, 1, 0, 0]
      refine ⟨by show 1 ≤ sizeLine; decide, fun py3 hpy3 => ?_⟩
      obtain ⟨Gy3, By3, sy3, Ry3⟩ := Bx3.lstS (K := K) hpy3 (.cons Rx3 .nil)
      obtain ⟨xy3, ey3, vy3, ly3⟩ := Ry3.at_ By3
      refine ⟨_, rfl, py3, later, xy3, rfl, rfl, ey3, by omega, by omega, size_le (by rw [ly3]; show 1 * later.toNat ≤ 1000; omega), fun pz3 hpz3 => ?_⟩
      obtain ⟨Gz3, Bz3, sz3, Rz3⟩ := By3.lstS (K := K) hpz3 (rowsV_rep (later : Int).toNat vy3)
      have hS3 := ((sx2.trans sy2).trans sz2)
      have hS4 := ((sx3.trans sy3).trans sz3)
      refine ⟨by show 4 ≤ sizeLine; decide, fun t' ht' => ?_⟩
      obtain ⟨G6, B6, s6, e6⟩ := Bz3.tupS ht' [.int h, .ref pcf, .ref pz2, .ref pz3]
      have hR6 : RowsAt K G6 t' h pcf pz2 pz3 _ _ _ := ⟨SqT.of e6, Rcf.same ((hS3.trans hS4).trans s6), Rz2.same (hS4.trans s6), Rz3.same s6⟩
      obtain ⟨xsg, esg, vsg, lsg⟩ := (hR.r.same ((((hS.trans hS2).trans hS3).trans hS4).trans s6)).at_ B6
      refine ⟨_, rfl, _, rfl, ra, xsg, rfl, SqL.of esg, fun psg hpsg => ?_⟩
      obtain ⟨Gsg, Bsg, ssg, Rsg⟩ := B6.lstS (xs := cutV xsg none (some 4)) (rs := (rs).take 4) hpsg (by rw [show cutV xsg none (some 4) = xsg.take 4 from cut_to xsg 4]; exact paired_take 4 vsg)
      refine ⟨psg, _, rfl, .inl (SqL.of upd_same), by show 3 ≤ sizeLine; decide, fun p hp => ?_⟩
      have hlg : (cutV xsg none (some 4)).length = (rs.take 4).length := by
        rw [show cutV xsg none (some 4) = xsg.take 4 from cut_to xsg 4, List.length_take, List.length_take, lsg]
      rw [hlg]
      refine bad_fin q Bsg ⟨Same.tup ssg hR6.t, hR6.r.same ssg, hR6.d.same ssg, hR6.s.same ssg⟩ (wide_app (wide_app (wide_take hG.w4) (wide_one hxno.2)) (wide_flat rfl)) (wide_flat rfl) (wide_flat rfl) ("room", ((rs.take 4).length : Int)) ?_ p hp
      have hlt := List.length_take (i := 4) (l := rs)
      have hc : countBad h (((rs.take 4) ++ [x]) ++ (List.replicate (later : Int).toNat [[9, 1, 1, 1]]).flatten) (List.replicate (later : Int).toNat [[0, 0, -1]]).flatten (List.replicate (later : Int).toNat [[9, 0, 1, 0, 0]]).flatten = none := by
        refine count_ok hh1 hh12 ?_ ?_ ?_ ?_
        · rw [List.length_append, List.length_append, flat_len]; simp; omega
        · rw [List.length_append, List.length_append, flat_len, hlt]; simp; omega
        · rw [flat_len]; omega
        · rw [flat_len]; omega
      unfold houseBad
      rw [hc]
      show partBad _ _ _ _ = _
      unfold partBad
      rw [firstNot_mid (fun r hr => hG.rok r (List.mem_of_mem_take hr)) hxno.1]
    refine st_eq (t := tNext) (σ' := [some (.ref b), some (.ref t), some (.int h), some (.ref ra), some (.ref da), some (.ref sa), some (.int way), some (.int later), some (.int far), none, none, none, none, none]) rfl ?_
    obtain ⟨xsh, esh, vsh, lsh⟩ := (hR.r).at_ B3
    refine ⟨_, rfl, _, rfl, ra, xsh, rfl, SqL.of esh, fun psh hpsh => ?_⟩
    obtain ⟨Gsh, Bsh, ssh, Rsh⟩ := B3.lstS (xs := cutV xsh none (some 5)) (rs := (rs).take 5) hpsh (by rw [show cutV xsh none (some 5) = xsh.take 5 from cut_to xsh 5]; exact paired_take 5 vsh)
    refine ⟨by show 4 ≤ sizeLine; decide, fun px4 hpx4 => ?_⟩
    obtain ⟨Gx4, Bx4, sx4, Rx4⟩ := Bsh.rowS K hpx4 [1, 1, 1, 1]
    refine ⟨by show 1 ≤ sizeLine; decide, fun py4 hpy4 => ?_⟩
    obtain ⟨Gy4, By4, sy4, Ry4⟩ := Bx4.lstS (K := K) hpy4 (.cons Rx4 .nil)
    have hr6 := hG.r6
    have hr1 := hG.r1
    have hd8 := hG.d8
    have hs20 := hG.s20
    have hh1 := hG.h1
    have hh12 := hG.h12
    obtain ⟨xai, eai, vai, lai⟩ := (Rsh.same (sx4.trans sy4)).at_ By4
    obtain ⟨xbi, ebi, vbi, lbi⟩ := (Ry4).at_ By4
    refine ⟨psh, py4, _, _, rfl, rfl, eai, ebi, size_le (by rw [lai, lbi]; rw [List.length_take]; show _ + 1 ≤ 1000; omega), fun pci hpci => ?_⟩
    obtain ⟨Gci, Bci, sci, Rci⟩ := By4.lstS (K := K) hpci (paired_append vai vbi)
    have hS := ((ssh.trans (sx4.trans sy4)).trans sci)
    have hml := more_len rs
    replace Rci : RowsL K Gci pci (moreRooms rs) := Rci
    obtain ⟨xm, em, vm, lm⟩ := Rci.at_ Bci
    refine ⟨_, rfl, pci, xm, rfl, .inl (SqL.of em), ?_⟩
    obtain ⟨xd, ed0, vd0⟩ := id hR.d
    have vd : RowsV K Gci xd ds := rowsV_same hS vd0
    have ed := Bci.wd.same _ _ (hS _ _ ed0)
    have ld : xd.length = ds.length := Paired.length vd
    refine ⟨_, rfl, da, rfl, ⟨xd, SqL.of ed⟩, fun D hD => ?_⟩
    have O0 := Opn.begin (K := K) Bci hD
    have S0 := Bci.start
    refine lc_list (K := K) (a := da) (xs := xd) (fun i H' => ∃ acc G', Opn K Ps b l Gci _ D acc ((ds.take i).filter (nearDoor (moreRooms rs).length)) G' H') ⟨_, _, O0⟩ (fun i H' _ ⟨acc, G', o⟩ => SqL.of (o.bx.wd.same _ _ (o.bx.gr.up _ _ (hS _ _ ed0)))) ?_ ?_
    · rintro i y H' hy ⟨acc, G', O⟩
      obtain ⟨z, ez, ty, rfl, hty⟩ := paired_get vd hy
      have hz3 := hG.w3 z (List.mem_of_getElem? ez)
      obtain ⟨o, t2, li, rfl⟩ := len3 hz3
      have hq : SqT K G' ty ([o, t2, li].map V.int) := Same.tup O.bx.gr.up hty
      refine ⟨(by (repeat rw [wipe_set (by decide)]); exact wipe_wipe _ _), ?_⟩
      have hstep := filter_step (f := nearDoor (moreRooms rs).length) ez
      refine ⟨_, rfl, _, rfl, ty, _, rfl, Same.tup O.bx.wd.same hq, by show ¬ (0 = 0 ∧ (2 : Nat) = 3); decide, fun p2 hp2 => ?_⟩
      have B2 := O.bx.start.new (o := .tup (cutV (List.map V.int [o, t2, li]) none (some 2))) hp2
      replace O := O.step S0 B2
      refine ⟨p2, o, [t2], rfl, SqT.of upd_same, _, rfl, _, _, rfl, rfl, _, rfl, ?_⟩
      have hnd : nearDoor (moreRooms rs).length [o, t2, li] = decide ([t2].foldl max o < (xm.length : Int)) := by rw [lm]; rfl
      rw [hnd] at hstep
      have hlt : i < ds.length := (List.getElem?_eq_some_iff.mp ez).1
      have hfl := List.length_filter_le (nearDoor (moreRooms rs).length) (ds.take i)
      have htk : (ds.take i).length ≤ ds.length := by rw [List.length_take]; omega
      refine ite2 (fun h1 => ?_) (fun h1 => ?_)
      · replace h1 : decide ([t2].foldl max o < (xm.length : Int)) = true := h1
        rw [if_pos h1] at hstep
        refine ⟨_, rfl, acc, O.at_, small1000 (by rw [O.len]; omega), acc ++ [.ref ty], G', ?_⟩
        rw [hstep]
        exact O.push S0 ⟨ty, rfl, hq⟩
      · replace h1 : ¬ decide ([t2].foldl max o < (xm.length : Int)) = true := h1
        rw [if_neg h1, List.append_nil] at hstep
        refine ⟨acc, G', ?_⟩
        rw [hstep]
        exact O
    · rintro H4 ⟨acc, G', O⟩
      rw [List.take_of_length_le (by omega)] at O
      obtain ⟨G4, B4, s4, Rd⟩ : ∃ G4, Bx Ps b l G H G4 H4 ∧ Same Gci G4 ∧ RowsL K G4 D (ds.filter (nearDoor (moreRooms rs).length)) := ⟨_, Bci.trans (O.done S0).1, (O.done S0).1.gr.up, (O.done S0).2⟩
      have dok' : ∀ d ∈ ds.filter (nearDoor (moreRooms rs).length), doorOk (moreRooms rs).length d = true := fun d hd => near_door hr6 (hG.w3 d (List.mem_filter.mp hd).1) (hG.dok d (List.mem_filter.mp hd).1) (List.mem_filter.mp hd).2
      have dl' : (ds.filter (nearDoor (moreRooms rs).length)).length ≤ 8 := Nat.le_trans (List.length_filter_le _ _) hG.d8
      have dw' : Wide 3 (ds.filter (nearDoor (moreRooms rs).length)) := fun d hd => hG.w3 d (List.mem_filter.mp hd).1
      have Rr := Rci.same s4
      have hS4 := hS.trans s4
      generalize ds.filter (nearDoor (moreRooms rs).length) = dn at Rd dok' dl' dw'
      have rok' := more_ok hG.rok
      have rw4 := more_wide hG.w4
      have hmany : xm.length = (moreRooms rs).length := lm
      refine ⟨_, rfl, rfl, _, rfl, ?_⟩
      refine ite2 (fun hw2 => ?_) (fun hw2 => ?_)
      · have hz := hmany
        refine ⟨by show 3 ≤ sizeLine; decide, fun prj0 hprj0 => ?_⟩
        obtain ⟨Grj0, Brj0, srj0, Rrj0⟩ := B4.rowS K hprj0 [0, 0, 1]
        refine ⟨_, rfl, by show 3 ≤ sizeLine; decide, fun prj1 hprj1 => ?_⟩
        obtain ⟨Grj1, Brj1, srj1, Rrj1⟩ := Brj0.rowS K hprj1 [-1, 0, 1]
        refine ⟨_, rfl, by show 3 ≤ sizeLine; decide, fun prj2 hprj2 => ?_⟩
        obtain ⟨Grj2, Brj2, srj2, Rrj2⟩ := Brj1.rowS K hprj2 [0, (xm.length : Int), 1]
        refine ⟨_, rfl, by show 3 ≤ sizeLine; decide, fun prj3 hprj3 => ?_⟩
        obtain ⟨Grj3, Brj3, srj3, Rrj3⟩ := Brj2.rowS K hprj3 [(xm.length : Int), 0, 1]
        refine ⟨_, rfl, _, rfl, _, _, rfl, rfl, by show 3 ≤ sizeLine; decide, fun prj4 hprj4 => ?_⟩
        obtain ⟨Grj4, Brj4, srj4, Rrj4⟩ := Brj3.rowS K hprj4 [0, 1, -1 - far]
        refine ⟨_, rfl, _, _, rfl, rfl, by show 3 ≤ sizeLine; decide, fun prj5 hprj5 => ?_⟩
        obtain ⟨Grj5, Brj5, srj5, Rrj5⟩ := Brj4.rowS K hprj5 [0, 1, 1000 + far]
        refine ⟨_, rfl, by show 3 ≤ sizeLine; decide, fun prj6 hprj6 => ?_⟩
        obtain ⟨Grj6, Brj6, srj6, Rrj6⟩ := Brj5.rowS K hprj6 [1, 0, -1]
        have trj6 : Same Grj6 Grj6 := Same.refl _
        have trj5 := srj6.trans trj6
        have trj4 := srj5.trans trj5
        have trj3 := srj4.trans trj4
        have trj2 := srj3.trans trj3
        have trj1 := srj2.trans trj2
        have trj0 := srj1.trans trj1
        refine ⟨by show 7 ≤ sizeLine; decide, fun plj hplj => ?_⟩
        obtain ⟨Glj, Blj, slj', Rlj⟩ := Brj6.lstS (K := K) hplj (.cons (Rrj0.same trj0) (.cons (Rrj1.same trj1) (.cons (Rrj2.same trj2) (.cons (Rrj3.same trj3) (.cons (Rrj4.same trj4) (.cons (Rrj5.same trj5) (.cons (Rrj6.same trj6) (.nil))))))))
        have slj := (srj0.trans trj0).trans slj'
        have sJ := slj
        obtain ⟨xsk, esk, vsk, lsk⟩ := (Rd.same slj).at_ Blj
        refine ⟨_, rfl, _, rfl, D, xsk, rfl, SqL.of esk, fun psk hpsk => ?_⟩
        obtain ⟨Gsk, Bsk, ssk, Rsk⟩ := Blj.lstS (xs := cutV xsk none (some 6)) (rs := (dn).take 6) hpsk (by rw [show cutV xsk none (some 6) = xsk.take 6 from cut_to xsk 6]; exact paired_take 6 vsk)
        refine ⟨_, rfl, _, rfl, b, l, _, _, rfl, by omega, by omega, Bsk.start, fun r5 H5 a5 c5 B5 => ?_⟩
        replace B5 := Bsk.trans B5
        obtain ⟨xbad, ebad, vbad, lbad⟩ := (Rlj.same ssk).at_ B5
        obtain ⟨pb, x, hpb, hx, Rx⟩ := pick_row vbad a5 (by show r5 < ((7 : Nat) : Int); omega)
        have hxno : doorOk (moreRooms rs).length x = false ∧ x.length = 3 := by
          rw [← hmany]
          simp only [List.mem_cons, List.mem_nil_iff, or_false] at hx
          rcases hx with rfl | rfl | rfl | rfl | rfl | rfl | rfl <;> exact ⟨door_no (by omega), rfl⟩
        refine .inl ⟨plj, _, _, _, rfl, rfl, SqL.of ebad, hpb, by show 1 ≤ sizeLine; decide, fun p6 hp6 => ?_⟩
        obtain ⟨G6, B6, s6, R6⟩ := B5.lstS (K := K) hp6 (.cons Rx .nil)
        obtain ⟨xal, eal, val, lal⟩ := (Rsk.same s6).at_ B6
        obtain ⟨xbl, ebl, vbl, lbl⟩ := (R6).at_ B6
        refine ⟨psk, p6, _, _, rfl, rfl, eal, ebl, size_le (by rw [lal, lbl]; simp; omega), fun pcl hpcl => ?_⟩
        obtain ⟨Gcl, Bcl, scl, Rcl⟩ := B6.lstS (K := K) hpcl (paired_append val vbl)
        refine ⟨_, rfl, by show 3 ≤ sizeLine; decide, fun px5 hpx5 => ?_⟩
        obtain ⟨Gx5, Bx5, sx5, Rx5⟩ := Bcl.rowS K hpx5 [0, 0, -1]
        refine ⟨by show 1 ≤ sizeLine; decide, fun py5 hpy5 => ?_⟩
        obtain ⟨Gy5, By5, sy5, Ry5⟩ := Bx5.lstS (K := K) hpy5 (.cons Rx5 .nil)
        obtain ⟨xy5, ey5, vy5, ly5⟩ := Ry5.at_ By5
        refine ⟨_, rfl, py5, later, xy5, rfl, rfl, ey5, by omega, by omega, size_le (by rw [ly5]; show 1 * later.toNat ≤ 1000; omega), fun pz5 hpz5 => ?_⟩
        obtain ⟨Gz5, Bz5, sz5, Rz5⟩ := By5.lstS (K := K) hpz5 (rowsV_rep (later : Int).toNat vy5)
        obtain ⟨xam, eam, vam, lam⟩ := (Rcl.same ((sx5.trans sy5).trans sz5)).at_ Bz5
        obtain ⟨xbm, ebm, vbm, lbm⟩ := (Rz5).at_ Bz5
        refine ⟨pcl, pz5, _, _, rfl, rfl, eam, ebm, size_le (by rw [lam, lbm]; simp; omega), fun pcm hpcm => ?_⟩
        obtain ⟨Gcm, Bcm, scm, Rcm⟩ := Bz5.lstS (K := K) hpcm (paired_append vam vbm)
        have hS5 := ((((slj.trans ssk).trans s6).trans scl).trans ((sx5.trans sy5).trans sz5)).trans scm
        refine ⟨_, rfl, _, rfl, _, rfl, ?_⟩
        refine ⟨_, rfl, by show 5 ≤ sizeLine; decide, fun px6 hpx6 => ?_⟩
        obtain ⟨Gx6, Bx6, sx6, Rx6⟩ := Bcm.rowS K hpx6 [-1, 0, 1, 0, 0]
        refine ⟨by show 1 ≤ sizeLine; decide, fun py6 hpy6 => ?_⟩
        obtain ⟨Gy6, By6, sy6, Ry6⟩ := Bx6.lstS (K := K) hpy6 (.cons Rx6 .nil)
        obtain ⟨xy6, ey6, vy6, ly6⟩ := Ry6.at_ By6
        refine ⟨_, rfl, py6, later, xy6, rfl, rfl, ey6, by omega, by omega, size_le (by rw [ly6]; show 1 * later.toNat ≤ 1000; omega), fun pz6 hpz6 => ?_⟩
        obtain ⟨Gz6, Bz6, sz6, Rz6⟩ := By6.lstS (K := K) hpz6 (rowsV_rep (later : Int).toNat vy6)
        have hS6 := ((sx6.trans sy6).trans sz6)
        refine ⟨by show 4 ≤ sizeLine; decide, fun t' ht' => ?_⟩
        obtain ⟨G7, B7, s7, e7⟩ := Bz6.tupS ht' [.int h, .ref pci, .ref pcm, .ref pz6]
        have hR7 : RowsAt K G7 t' h pci pcm pz6 _ _ _ := ⟨SqT.of e7, Rr.same ((hS5.trans hS6).trans s7), Rcm.same (hS6.trans s7), Rz6.same s7⟩
        obtain ⟨xsn, esn, vsn, lsn⟩ := (Rd.same ((hS5.trans hS6).trans s7)).at_ B7
        refine ⟨_, rfl, _, rfl, D, xsn, rfl, SqL.of esn, fun psn hpsn => ?_⟩
        obtain ⟨Gsn, Bsn, ssn, Rsn⟩ := B7.lstS (xs := cutV xsn none (some 6)) (rs := (dn).take 6) hpsn (by rw [show cutV xsn none (some 6) = xsn.take 6 from cut_to xsn 6]; exact paired_take 6 vsn)
        refine ⟨psn, _, rfl, .inl (SqL.of upd_same), by show 3 ≤ sizeLine; decide, fun p hp => ?_⟩
        have hln : (cutV xsn none (some 6)).length = (dn.take 6).length := by
          rw [show cutV xsn none (some 6) = xsn.take 6 from cut_to xsn 6, List.length_take, List.length_take, lsn]
        rw [hln]
        refine bad_fin q Bsn ⟨Same.tup ssn hR7.t, hR7.r.same ssn, hR7.d.same ssn, hR7.s.same ssn⟩ rw4 (wide_app (wide_app (wide_take dw') (wide_one hxno.2)) (wide_flat rfl)) (wide_flat rfl) ("door", ((dn.take 6).length : Int)) ?_ p hp
        have hlt := List.length_take (i := 6) (l := dn)
        have hc : countBad h (moreRooms rs) (((dn.take 6) ++ [x]) ++ (List.replicate (later : Int).toNat [[0, 0, -1]]).flatten) (List.replicate (later : Int).toNat [[-1, 0, 1, 0, 0]]).flatten = none := by
          refine count_ok hh1 hh12 ?_ ?_ ?_ ?_
          · omega
          · omega
          · rw [List.length_append, List.length_append, flat_len, hlt]; simp; omega
          · rw [flat_len]; omega
        unfold houseBad
        rw [hc]
        show partBad _ _ _ _ = _
        unfold partBad
        rw [firstNot_all rok', firstNot_mid (fun r hr => dok' r (List.mem_of_mem_take hr)) hxno.1]
      refine st_eq (t := tNext) (σ' := [some (.ref b), some (.ref t), some (.int h), some (.ref pci), some (.ref D), some (.ref sa), some (.int way), some (.int later), some (.int far), none, none, some (.int (xm.length : Int)), none, none]) rfl ?_
      obtain ⟨xs, es0, vs0⟩ := id (hR.s.same hS4)
      have es := B4.wd.same _ _ es0
      have ls : xs.length = ss.length := Paired.length vs0
      refine ⟨_, rfl, sa, rfl, ⟨xs, SqL.of es⟩, fun D2 hD2 => ?_⟩
      have O0 := Opn.begin (K := K) B4 hD2
      have S4 := B4.start
      refine lc_list (K := K) (a := sa) (xs := xs) (fun i H' => ∃ acc G', Opn K Ps b l G4 _ D2 acc ((ss.take i).filter (nearStay (moreRooms rs).length)) G' H') ⟨_, _, O0⟩ (fun i H' _ ⟨acc, G', o⟩ => SqL.of (o.bx.wd.same _ _ (o.bx.gr.up _ _ es0))) ?_ ?_
      · rintro i y H' hy ⟨acc, G', O⟩
        obtain ⟨z, ez, ty, rfl, hty⟩ := paired_get vs0 hy
        obtain ⟨r, bg, en, us, nd, rfl⟩ := len5 (hG.w5 z (List.mem_of_getElem? ez))
        have hq : SqT K G' ty ([r, bg, en, us, nd].map V.int) := Same.tup O.bx.gr.up hty
        refine ⟨(by (repeat rw [wipe_set (by decide)]); exact wipe_wipe _ _), ?_⟩
        have hstep := filter_step (f := nearStay (moreRooms rs).length) ez
        refine ⟨_, rfl, .inr (.inl ⟨ty, _, _, .int r, rfl, rfl, Same.tup O.bx.wd.same hq, atI_nat (j := 0) rfl, _, rfl, _, _, rfl, rfl, _, _, rfl, rfl, _, rfl, ?_⟩)⟩
        have hnd : nearStay (moreRooms rs).length [r, bg, en, us, nd] = decide (r < (xm.length : Int) - 1) := by rw [hmany]; rfl
        rw [hnd] at hstep
        have hlt : i < ss.length := (List.getElem?_eq_some_iff.mp ez).1
        have hfl := List.length_filter_le (nearStay (moreRooms rs).length) (ss.take i)
        have htk : (ss.take i).length ≤ ss.length := by rw [List.length_take]; omega
        refine ite2 (fun h1 => ?_) (fun h1 => ?_)
        · replace h1 : decide (r < (xm.length : Int) - 1) = true := h1
          rw [if_pos h1] at hstep
          refine ⟨_, rfl, acc, O.at_, small1000 (by rw [O.len]; omega), acc ++ [.ref ty], G', ?_⟩
          rw [hstep]
          exact O.push S4 ⟨ty, rfl, hq⟩
        · replace h1 : ¬ decide (r < (xm.length : Int) - 1) = true := h1
          rw [if_neg h1, List.append_nil] at hstep
          refine ⟨acc, G', ?_⟩
          rw [hstep]
          exact O
      · rintro H5 ⟨acc, G', O⟩
        rw [List.take_of_length_le (by omega)] at O
        obtain ⟨G5, B5, s5, Rs5⟩ : ∃ G5, Bx Ps b l G H G5 H5 ∧ Same G4 G5 ∧ RowsL K G5 D2 (ss.filter (nearStay (moreRooms rs).length)) := ⟨_, B4.trans (O.done S4).1, (O.done S4).1.gr.up, (O.done S4).2⟩
        have sok' : ∀ s ∈ ss.filter (nearStay (moreRooms rs).length), stayOk h (moreRooms rs) s = true := fun s hs => near_stay (hG.w5 s (List.mem_filter.mp hs).1) (hG.sok s (List.mem_filter.mp hs).1) (List.mem_filter.mp hs).2
        have sw' : Wide 5 (ss.filter (nearStay (moreRooms rs).length)) := fun s hs => hG.w5 s (List.mem_filter.mp hs).1
        generalize ss.filter (nearStay (moreRooms rs).length) = sn at Rs5 sok' sw'
        replace Rr := Rr.same s5
        replace Rd := Rd.same s5
        have hml2 : mostOf (moreRooms rs) ((xm.length : Int) - 1) = 1 := by rw [hmany]; exact more_last rs
        refine ⟨by show 5 ≤ sizeLine; decide, fun pro0 hpro0 => ?_⟩
        obtain ⟨Gro0, Bro0, sro0, Rro0⟩ := B5.rowS K hpro0 [0, 1, 1, 0, 0]
        refine ⟨_, rfl, _, _, rfl, rfl, by show 5 ≤ sizeLine; decide, fun pro1 hpro1 => ?_⟩
        obtain ⟨Gro1, Bro1, sro1, Rro1⟩ := Bro0.rowS K hpro1 [0, 0, h + 1, 0, 0]
        refine ⟨_, rfl, by show 5 ≤ sizeLine; decide, fun pro2 hpro2 => ?_⟩
        obtain ⟨Gro2, Bro2, sro2, Rro2⟩ := Bro1.rowS K hpro2 [-1, 0, 1, 0, 0]
        refine ⟨_, rfl, by show 5 ≤ sizeLine; decide, fun pro3 hpro3 => ?_⟩
        obtain ⟨Gro3, Bro3, sro3, Rro3⟩ := Bro2.rowS K hpro3 [0, -1, 1, 0, 0]
        refine ⟨_, rfl, by show 5 ≤ sizeLine; decide, fun pro4 hpro4 => ?_⟩
        obtain ⟨Gro4, Bro4, sro4, Rro4⟩ := Bro3.rowS K hpro4 [(xm.length : Int), 0, 1, 0, 0]
        have tro4 : Same Gro4 Gro4 := Same.refl _
        have tro3 := sro4.trans tro4
        have tro2 := sro3.trans tro3
        have tro1 := sro2.trans tro2
        have tro0 := sro1.trans tro1
        refine ⟨by show 5 ≤ sizeLine; decide, fun plo hplo => ?_⟩
        obtain ⟨Glo, Blo, slo', Rlo⟩ := Bro4.lstS (K := K) hplo (.cons (Rro0.same tro0) (.cons (Rro1.same tro1) (.cons (Rro2.same tro2) (.cons (Rro3.same tro3) (.cons (Rro4.same tro4) (.nil))))))
        have slo := (sro0.trans tro0).trans slo'
        refine ⟨_, rfl, _, rfl, _, rfl, _, _, rfl, rfl, by show 5 ≤ sizeLine; decide, fun prp0 hprp0 => ?_⟩
        obtain ⟨Grp0, Brp0, srp0, Rrp0⟩ := Blo.rowS K hprp0 [(xm.length : Int) + far, 0, 1, 0, 0]
        refine ⟨_, rfl, _, rfl, _, _, rfl, rfl, by show 5 ≤ sizeLine; decide, fun prp1 hprp1 => ?_⟩
        obtain ⟨Grp1, Brp1, srp1, Rrp1⟩ := Brp0.rowS K hprp1 [0, 0, 1, -1 - far, 0]
        refine ⟨_, rfl, _, _, rfl, rfl, by show 5 ≤ sizeLine; decide, fun prp2 hprp2 => ?_⟩
        obtain ⟨Grp2, Brp2, srp2, Rrp2⟩ := Brp1.rowS K hprp2 [0, 0, 1, 1000 + far, 0]
        refine ⟨_, rfl, by show 5 ≤ sizeLine; decide, fun prp3 hprp3 => ?_⟩
        obtain ⟨Grp3, Brp3, srp3, Rrp3⟩ := Brp2.rowS K hprp3 [0, h, 1, 0, 0]
        have trp3 : Same Grp3 Grp3 := Same.refl _
        have trp2 := srp3.trans trp3
        have trp1 := srp2.trans trp2
        have trp0 := srp1.trans trp1
        refine ⟨by show 4 ≤ sizeLine; decide, fun plp hplp => ?_⟩
        obtain ⟨Glp, Blp, slp', Rlp⟩ := Brp3.lstS (K := K) hplp (.cons (Rrp0.same trp0) (.cons (Rrp1.same trp1) (.cons (Rrp2.same trp2) (.cons (Rrp3.same trp3) (.nil)))))
        have slp := (srp0.trans trp0).trans slp'
        obtain ⟨xaq, eaq, vaq, laq⟩ := (Rlo.same slp).at_ Blp
        obtain ⟨xbq, ebq, vbq, lbq⟩ := (Rlp).at_ Blp
        refine ⟨plo, plp, _, _, rfl, rfl, eaq, ebq, size_le (by rw [laq, lbq]; show 5 + 4 ≤ 1000; decide), fun pcq hpcq => ?_⟩
        obtain ⟨Gcq, Bcq, scq, Rcq⟩ := Blp.lstS (K := K) hpcq (paired_append vaq vbq)
        refine ⟨_, rfl, _, rfl, _, _, rfl, rfl, _, rfl, _, _, rfl, rfl, by show 5 ≤ sizeLine; decide, fun prr0 hprr0 => ?_⟩
        obtain ⟨Grr0, Brr0, srr0, Rrr0⟩ := Bcq.rowS K hprr0 [(xm.length : Int) - 1, 0, 1, 0, 2 + far]
        refine ⟨_, rfl, _, rfl, _, _, rfl, rfl, by show 5 ≤ sizeLine; decide, fun prr1 hprr1 => ?_⟩
        obtain ⟨Grr1, Brr1, srr1, Rrr1⟩ := Brr0.rowS K hprr1 [0, 0, 1, 0, -1 - far]
        have trr1 : Same Grr1 Grr1 := Same.refl _
        have trr0 := srr1.trans trr1
        refine ⟨by show 2 ≤ sizeLine; decide, fun plr hplr => ?_⟩
        obtain ⟨Glr, Blr, slr', Rlr⟩ := Brr1.lstS (K := K) hplr (.cons (Rrr0.same trr0) (.cons (Rrr1.same trr1) (.nil)))
        have slr := (srr0.trans trr0).trans slr'
        obtain ⟨xas, eas, vas, las⟩ := (Rcq.same slr).at_ Blr
        obtain ⟨xbs, ebs, vbs, lbs⟩ := (Rlr).at_ Blr
        refine ⟨pcq, plr, _, _, rfl, rfl, eas, ebs, size_le (by rw [las, lbs]; show 9 + 2 ≤ 1000; decide), fun pcs hpcs => ?_⟩
        obtain ⟨Gcs, Bcs, scs, Rcs⟩ := Blr.lstS (K := K) hpcs (paired_append vas vbs)
        have hS6 := (((slo.trans slp).trans scq).trans slr).trans scs
        obtain ⟨xst, est, vst, lst⟩ := (Rs5.same hS6).at_ Bcs
        refine ⟨_, rfl, _, rfl, D2, xst, rfl, SqL.of est, fun pst hpst => ?_⟩
        obtain ⟨Gst, Bst, sst, Rst⟩ := Bcs.lstS (xs := cutV xst none (some 18)) (rs := (sn).take 18) hpst (by rw [show cutV xst none (some 18) = xst.take 18 from cut_to xst 18]; exact paired_take 18 vst)
        refine ⟨_, rfl, _, rfl, b, l, _, _, rfl, by omega, by omega, Bst.start, fun r6 H6 a6 c6 B6 => ?_⟩
        replace B6 := Bst.trans B6
        obtain ⟨xbad, ebad, vbad, lbad⟩ := (Rcs.same sst).at_ B6
        obtain ⟨pb, x, hpb, hx, Rx⟩ := pick_row vbad a6 (by show r6 < ((9 + 2 : Nat) : Int); omega)
        have hxno : stayOk h (moreRooms rs) x = false ∧ x.length = 5 := by
          simp only [List.cons_append, List.nil_append, List.mem_cons, List.mem_nil_iff, or_false] at hx
          rcases hx with rfl | rfl | rfl | rfl | rfl | rfl | rfl | rfl | rfl | rfl | rfl <;> exact ⟨stay_no (by omega), rfl⟩
        refine .inl ⟨pcs, _, _, _, rfl, rfl, SqL.of ebad, hpb, by show 1 ≤ sizeLine; decide, fun p7 hp7 => ?_⟩
        obtain ⟨G7, B7, s7, R7⟩ := B6.lstS (K := K) hp7 (.cons Rx .nil)
        obtain ⟨xau, eau, vau, lau⟩ := (Rst.same s7).at_ B7
        obtain ⟨xbu, ebu, vbu, lbu⟩ := (R7).at_ B7
        refine ⟨pst, p7, _, _, rfl, rfl, eau, ebu, size_le (by rw [lau, lbu]; simp; omega), fun pcu hpcu => ?_⟩
        obtain ⟨Gcu, Bcu, scu, Rcu⟩ := B7.lstS (K := K) hpcu (paired_append vau vbu)
        refine ⟨_, rfl, by show 5 ≤ sizeLine; decide, fun px7 hpx7 => ?_⟩
        obtain ⟨Gx7, Bx7, sx7, Rx7⟩ := Bcu.rowS K hpx7 [-1, 0, 0, 0, 0]
        refine ⟨by show 1 ≤ sizeLine; decide, fun py7 hpy7 => ?_⟩
        obtain ⟨Gy7, By7, sy7, Ry7⟩ := Bx7.lstS (K := K) hpy7 (.cons Rx7 .nil)
        obtain ⟨xy7, ey7, vy7, ly7⟩ := Ry7.at_ By7
        refine ⟨_, rfl, py7, later, xy7, rfl, rfl, ey7, by omega, by omega, size_le (by rw [ly7]; show 1 * later.toNat ≤ 1000; omega), fun pz7 hpz7 => ?_⟩
        obtain ⟨Gz7, Bz7, sz7, Rz7⟩ := By7.lstS (K := K) hpz7 (rowsV_rep (later : Int).toNat vy7)
        obtain ⟨xav, eav, vav, lav⟩ := (Rcu.same ((sx7.trans sy7).trans sz7)).at_ Bz7
        obtain ⟨xbv, ebv, vbv, lbv⟩ := (Rz7).at_ Bz7
        refine ⟨pcu, pz7, _, _, rfl, rfl, eav, ebv, size_le (by rw [lav, lbv]; simp; omega), fun pcv hpcv => ?_⟩
        obtain ⟨Gcv, Bcv, scv, Rcv⟩ := Bz7.lstS (K := K) hpcv (paired_append vav vbv)
        have hS7 := ((((hS6.trans sst).trans s7).trans scu).trans ((sx7.trans sy7).trans sz7)).trans scv
        refine ⟨_, rfl, _, rfl, _, rfl, _, rfl, by show 4 ≤ sizeLine; decide, fun t' ht' => ?_⟩
        obtain ⟨G8, B8, s8, e8⟩ := Bcv.tupS ht' [.int h, .ref pci, .ref D, .ref pcv]
        have hR8 : RowsAt K G8 t' h pci D pcv _ _ _ := ⟨SqT.of e8, Rr.same (hS7.trans s8), Rd.same (hS7.trans s8), Rcv.same s8⟩
        obtain ⟨xsw, esw, vsw, lsw⟩ := (Rs5.same (hS7.trans s8)).at_ B8
        refine ⟨_, rfl, _, rfl, D2, xsw, rfl, SqL.of esw, fun psw hpsw => ?_⟩
        obtain ⟨Gsw, Bsw, ssw, Rsw⟩ := B8.lstS (xs := cutV xsw none (some 18)) (rs := (sn).take 18) hpsw (by rw [show cutV xsw none (some 18) = xsw.take 18 from cut_to xsw 18]; exact paired_take 18 vsw)
        refine ⟨psw, _, rfl, .inl (SqL.of upd_same), by show 3 ≤ sizeLine; decide, fun p hp => ?_⟩
        have hlw : (cutV xsw none (some 18)).length = (sn.take 18).length := by
          rw [show cutV xsw none (some 18) = xsw.take 18 from cut_to xsw 18, List.length_take, List.length_take, lsw]
        rw [hlw]
        refine bad_fin q Bsw ⟨Same.tup ssw hR8.t, hR8.r.same ssw, hR8.d.same ssw, hR8.s.same ssw⟩ rw4 dw' (wide_app (wide_app (wide_take sw') (wide_one hxno.2)) (wide_flat rfl)) ("stay", ((sn.take 18).length : Int)) ?_ p hp
        have hlt := List.length_take (i := 18) (l := sn)
        have hc : countBad h (moreRooms rs) dn (((sn.take 18) ++ [x]) ++ (List.replicate (later : Int).toNat [[-1, 0, 0, 0, 0]]).flatten) = none := by
          refine count_ok hh1 hh12 ?_ ?_ dl' ?_
          · omega
          · omega
          · rw [List.length_append, List.length_append, flat_len, hlt]; simp; omega
        unfold houseBad
        rw [hc]
        show partBad _ _ _ _ = _
        unfold partBad
        rw [firstNot_all rok', firstNot_all dok', firstNot_mid (fun r hr => sok' r (List.mem_of_mem_take hr)) hxno.1]
end
end Cr
set_option Elab.async false
set_option linter.all false
set_option maxRecDepth 100000
set_option maxHeartbeats 4000000

namespace Cr
open PySem PySem.Spec PyProof.Rows L2
abbrev slaw : Stmt := top 33
abbrev nlaw : List Str := ["_law_script", "_law_box", "_law_rows", "_law_bad", "_law_word", "_law_number", "_law_handed", "_law_house_here", "_law_turn", "_law_found", "_law_row", "_law_hour", "_law_room"]
abbrev alaw : List Str := ["_law_script"]
theorem sclaw : FnScope nlaw alaw (defScope slaw) := ⟨rfl, rfl, rfl, by decide +kernel, rfl, by decide +kernel, by decide +kernel⟩
/-! ### what is no longer known -/
section
variable {K : PySem.W.Frag} {Ps Fs : List Addr} {G H G1 H1 : Hp} {p a x dx : Addr} {xs : List V} {rs : List (List Int)} {v : V} {ns : List Int} {o1 o2 : HO}
theorem rowT_del (hp : G p = some (.lst xs)) (h : RowT K G v ns) : RowT K (del G p) v ns := by
  obtain ⟨t, rfl, h⟩ := h
  refine ⟨t, rfl, ?_⟩
  rcases h with (h | ⟨o, h⟩) | h
  · exact .inl (.inl (by rw [del_ne (fun z => by rw [z, hp] at h; cases h)]; exact h))
  · exact .inl (.inr ⟨o, by rw [del_ne (fun z => by rw [z, hp] at h; cases h)]; exact h⟩)
  · exact .inr h
theorem rowsV_del (hp : G p = some (.lst xs)) : ∀ {ys : List V} {rs : List (List Int)}, RowsV K G ys rs → RowsV K (del G p) ys rs
  | _, _, .nil => .nil
  | _, _, .cons h r => .cons (rowT_del hp h) (rowsV_del hp r)
theorem rows_del (hp : G p = some (.lst xs)) (ha : a ≠ p) (h : Rows K G a rs) : Rows K (del G p) a rs := by
  obtain ⟨ys, h, r⟩ := h
  refine ⟨ys, ?_, rowsV_del hp r⟩
  rcases h with (h | ⟨o, h⟩) | h
  · exact .inl (.inl (by rw [del_ne ha]; exact h))
  · exact .inl (.inr ⟨o, by rw [del_ne ha]; exact h⟩)
  · exact .inr h
theorem made_wd (wd : Wd Ps G H) (hx : H x = none) (hdx : H dx = none) (hne : dx ≠ x) : Same H (upd (upd H dx o1) x o2) ∧ Wd (x :: Ps) G (upd (upd H dx o1) x o2) := by
  have s2 : Same H (upd (upd H dx o1) x o2) := (same_new hdx).trans (same_new (by rw [upd_ne hne.symm]; exact hx))
  have g2 := Gr.skip wd s2
  refine ⟨s2, g2.wd.same, fun c hc => ?_, fun c hc => ?_⟩
  · rcases List.mem_cons.mp hc with rfl | hc
    · exact wd.free hx
    · exact wd.off c hc
  · rcases List.mem_cons.mp hc with rfl | hc
    · rw [upd_same]; exact fun z => nomatch z
    · exact g2.wd.on c hc
theorem del_none (h : H a = none) : del H p a = none := by
  by_cases e : a = p
  · rw [e]; exact del_same
  · rw [del_ne e]; exact h
theorem forget3 {G6 H6 : Hp} {p1 p2 p3 : Addr} {x1 x2 x3 : List V} {o : HO} (w6 : Wd (x :: Ps) G6 H6) (hxP : x ∉ Ps) (hx6 : H6 x = some o) (e1 : G6 p1 = some (.lst x1)) (e2 : G6 p2 = some (.lst x2)) (e3 : G6 p3 = some (.lst x3)) (n12 : p2 ≠ p1) (n13 : p3 ≠ p1) (n23 : p3 ≠ p2) :
    ∃ G7, Wd (p1 :: p2 :: p3 :: Ps) G7 H6 ∧ G7 x = some o ∧ (∀ c u, c ≠ p1 → c ≠ p2 → c ≠ p3 → c ≠ x → G6 c = some u → G7 c = some u) ∧ ∀ (a : Addr) (rs : List (List Int)), a ≠ p1 → a ≠ p2 → a ≠ p3 → Rows K G6 a rs → Rows K G7 a rs := by
  have hx := w6.off x List.mem_cons_self
  have m1 : p1 ≠ x := fun z => by rw [z, hx] at e1; cases e1
  have m2 : p2 ≠ x := fun z => by rw [z, hx] at e2; cases e2
  have m3 : p3 ≠ x := fun z => by rw [z, hx] at e3; cases e3
  have hx3 : del (del (del G6 p1) p2) p3 x = none := del_none (del_none (del_none hx))
  have d2 : del G6 p1 p2 = some (.lst x2) := by rw [del_ne n12]; exact e2
  have d3 : del (del G6 p1) p2 p3 = some (.lst x3) := by rw [del_ne n23, del_ne n13]; exact e3
  have up : ∀ c u, c ≠ p1 → c ≠ p2 → c ≠ p3 → c ≠ x → G6 c = some u → upd (del (del (del G6 p1) p2) p3) x o c = some u := fun c u h1 h2 h3 h4 e => by
    rw [upd_ne h4, del_ne h3, del_ne h2, del_ne h1]; exact e
  have no : ∀ c, c ≠ x → (c = p1 ∨ c = p2 ∨ c = p3 ∨ G6 c = none) → upd (del (del (del G6 p1) p2) p3) x o c = none := fun c h4 h => by
    rw [upd_ne h4]
    by_cases z3 : c = p3
    · rw [z3]; exact del_same
    rw [del_ne z3]
    by_cases z2 : c = p2
    · rw [z2]; exact del_same
    rw [del_ne z2]
    by_cases z1 : c = p1
    · rw [z1]; exact del_same
    rw [del_ne z1]
    rcases h with h | h | h | h
    · exact absurd h z1
    · exact absurd h z2
    · exact absurd h z3
    · exact h
  refine ⟨upd (del (del (del G6 p1) p2) p3) x o, ⟨fun c u e => ?_, fun c hc => ?_, fun c hc => ?_⟩, upd_same, up, fun a rs h1 h2 h3 h => Rows.same (same_new hx3) (rows_del d3 h3 (rows_del d2 h2 (rows_del e1 h1 h)))⟩
  · by_cases h4 : c = x
    · rw [h4, upd_same] at e; rw [h4, hx6]; exact e
    · by_cases z : c = p1 ∨ c = p2 ∨ c = p3 ∨ G6 c = none
      · rw [no c h4 z] at e; cases e
      · cases q : G6 c with
        | none => exact absurd (.inr (.inr (.inr q))) z
        | some u' =>
          rw [up c u' (fun y => z (.inl y)) (fun y => z (.inr (.inl y))) (fun y => z (.inr (.inr (.inl y)))) h4 q] at e
          rw [w6.same c u' q]; exact e
  · have hcx : c ≠ x := by
      rcases List.mem_cons.mp hc with z | hc
      · rw [z]; exact m1
      rcases List.mem_cons.mp hc with z | hc
      · rw [z]; exact m2
      rcases List.mem_cons.mp hc with z | hc
      · rw [z]; exact m3
      · exact fun z => hxP (z ▸ hc)
    refine no c hcx ?_
    rcases List.mem_cons.mp hc with z | hc
    · exact .inl z
    rcases List.mem_cons.mp hc with z | hc
    · exact .inr (.inl z)
    rcases List.mem_cons.mp hc with z | hc
    · exact .inr (.inr (.inl z))
    · exact .inr (.inr (.inr (w6.off c (List.mem_cons_of_mem _ hc))))
  · rcases List.mem_cons.mp hc with z | hc
    · rw [z, w6.same _ _ e1]; exact fun z => nomatch z
    rcases List.mem_cons.mp hc with z | hc
    · rw [z, w6.same _ _ e2]; exact fun z => nomatch z
    rcases List.mem_cons.mp hc with z | hc
    · rw [z, w6.same _ _ e3]; exact fun z => nomatch z
    · exact w6.on c (List.mem_cons_of_mem _ hc)
theorem Wd.back (w : Wd Fs G H) (g : Gr Fs G H G1 H1) : Wd Fs G H1 := ⟨g.up.trans g.wd.same, w.off, g.wd.on⟩
end
theorem shp_ints (n : Nat) (ns : List Int) (h : ns.length ≤ 1000) : shp (n + 1) (tI ns) := ⟨by rw [List.length_map]; exact h, fun d hd => by
  obtain ⟨i, _, rfl⟩ := List.mem_map.mp hd
  cases n <;> exact True.intro⟩
theorem shp_rows (n : Nat) {k : Nat} {rs : List (List Int)} (w : Wide k rs) (hk : k ≤ 1000) (h : rs.length ≤ 1000) : shp (n + 2) (dI rs) := ⟨by rw [List.length_map]; exact h, fun d hd => by
  obtain ⟨r, hr, rfl⟩ := List.mem_map.mp hd
  exact shp_ints n r (by rw [w r hr]; exact hk)⟩
section
variable {P : Program} {w : World} {K : PySem.W.Frag} {mg : Str → Option Value} {base : Heap} {ad : Ad} {Ps : List Addr} {H : Hp}
structure RawA (K : PySem.W.Frag) (mg : Str → Option Value) (base : Heap) (ad : Ad) : Prop extends RawR K mg base ad, RawW K mg
def spLaw (K : PySem.W.Frag) (Ps : List Addr) : Sp := fun vs H Q _ => ∃ (a : Addr) (ns : List Int), vs = [.ref a] ∧ SqL K H a (ns.map V.int) ∧ ns.length ≤ 63 ∧ Tabs Ps H ∧ ∀ H', Q (.bl true) H'
theorem c_law (T : RawA K mg base ad) (hP : ad.tNum ∈ Ps) {f : Addr} {fd : FuncData} (F : Fun K "law" "law" slaw f fd) : FnOk P w K mg base CX0 7 f fd alaw (spLaw K Ps) := by
  refine F.ok sclaw (fun vs H Q E h => ?_) (fun cdv A outer s H vs Q E hr h => ?_)
  · obtain ⟨a, ns, rfl, _⟩ := h
    rfl
  · obtain ⟨a, ns, rfl, ha, hn, tbs, q⟩ := h
    have k__law_begun : C8.Cal P w K mg base 1 "_law_begun" (spBegun K) [] := c_begun T.toRawL
    have k__law_take : C8.Cal P w K mg base 1 "_law_take" (spTake Ps) [] := c_take T.toRawL
    have k__law_house : C8.Cal P w K mg base 3 "_law_house" (spLHouse K Ps) [] := c_lhouse T.toRawH
    have k__law_wrong : C8.Cal P w K mg base 3 "_law_wrong" (spBad K Ps) [] := c_wrong T.toRawW
    have k__law_refused : C8.Cal P w K mg base 6 "_law_refused" (spRefused K Ps) [] := c_refused T.toRawR hP
    have k__law_alike : C8.Cal P w K mg base 4 "_law_alike" (spAlike K 4) [] := c_alike T.toRawL 4
    have k__law_use : C8.Cal P w K mg base 2 "_law_use" (spLTwo K Ps useOf) [] := c_luse T.toRawU
    have k__law_least : C8.Cal P w K mg base 2 "_law_least" (spLTwo K Ps leastOf) [] := c_lleast T.toRawU
    have k_House : MakX P w K mg base 4 "House" ad.cH (spHi ad K Ps) := mk_house T.toRawP hP
    have k_House_rooms : C8.Met P w K mg base 1 ad.cH "rooms" (spNewRows ad K Ps fun _ rs _ _ => rs) [] := c_rooms T.toRawP
    have k_House_doors : C8.Met P w K mg base 1 ad.cH "doors" (spNewRows ad K Ps fun _ _ ds _ => ds) [] := c_doors T.toRawP
    have k_House_stays : C8.Met P w K mg base 1 ad.cH "stays" (spNewRows ad K Ps fun _ _ _ ss => ss) [] := c_stays T.toRawP
    have k_House_use : C8.Met P w K mg base 2 ad.cH "use" (spTwo ad K Ps useOf) [] := c_use T.toRawP
    have k_House_least : C8.Met P w K mg base 2 ad.cH "least" (spTwo ad K Ps leastOf) [] := c_least T.toRawP
    have b_len := T.b_len
    have b_list := T.b_list
    have b_range := T.b_range
    refine ⟨_, (pss_cons (ps_set (i := 1) sclaw.nd rfl (Or.inl rfl) (C8.pe_c k__law_begun hr (by decide) rfl (pa_cons (pv 0) pa_nil)))
      (pss_cons (ps_set (i := 2) sclaw.nd rfl (Or.inl rfl) (C8.pe_c k__law_house hr (by decide) rfl (pa_cons (pv 1) pa_nil)))
      (pss_cons (ps_if (pt_cmpR op_eq (C8.pe_c k__law_take hr (by decide) rfl (pa_cons (pv 1) (pa_cons pe_int pa_nil))) pe_int (nomark _))
        (pss_cons (ps_asg (C8.pe_c k__law_wrong hr (by decide) rfl (pa_cons (pv 1) (pa_cons (pv 2) pa_nil))) (pg_tup rfl (pgs_cons (pg_name (i := 3) sclaw.nd rfl (Or.inl rfl)) (pgs_cons (pg_name (i := 4) sclaw.nd rfl (Or.inl rfl)) (pgs_cons (pg_name (i := 5) sclaw.nd rfl (Or.inl rfl)) pgs_nil)))))
      (pss_one (ps_ret (C8.pe_c k__law_alike hr (by decide) rfl (pa_cons (C8.pe_c k__law_refused hr (by decide) rfl (pa_cons (pv 3) pa_nil)) (pa_cons (pe_tup (pa_cons (pv 4) (pa_cons (pv 5) pa_nil))) pa_nil))))))
        pss_nil)
      (pss_cons (ps_set (i := 6) sclaw.nd rfl (Or.inl rfl) (pe_lst (pa_cons (pe_callTy call_list_of (by rfl) b_list (by decide +kernel) (pa_cons (pe_ix ix_seq (pv 2) pe_int (fun _ _ => rfl)) pa_nil)) (pa_cons (pe_callTy call_list_of (by rfl) b_list (by decide +kernel) (pa_cons (pe_ix ix_seq (pv 2) pe_int (fun _ _ => rfl)) pa_nil)) (pa_cons (pe_callTy call_list_of (by rfl) b_list (by decide +kernel) (pa_cons (pe_ix ix_seq (pv 2) pe_int (fun _ _ => rfl)) pa_nil)) pa_nil)))))
      (pss_cons (ps_set (i := 7) sclaw.nd rfl (Or.inl rfl) (pe_mx0 k_House hr (by decide)  rfl (pa_cons (pe_ix ix_seq (pv 2) pe_int (fun _ _ => rfl)) (pa_cons (pe_ix ix_seq (pv 6) pe_int (fun _ _ => rfl)) (pa_cons (pe_ix ix_seq (pv 6) pe_int (fun _ _ => rfl)) (pa_cons (pe_ix ix_seq (pv 6) pe_int (fun _ _ => rfl)) pa_nil))))))
      (pss_cons (ps_for PassesOwn.never rfl (pi_range1 (by rfl) b_range (pa_cons pe_int pa_nil)) (pg_name (i := 8) sclaw.nd rfl (Or.inl rfl))
        (pss_cons (ps_set (i := 9) sclaw.nd rfl (Or.inl rfl) (pe_lst (pa_cons (C8.pe_mt0 k_House_rooms hr (by decide) (pv 7)) (pa_cons (C8.pe_mt0 k_House_doors hr (by decide) (pv 7)) (pa_cons (C8.pe_mt0 k_House_stays hr (by decide) (pv 7)) pa_nil)))))
      (pss_cons (ps_if (PW.pt (pw_or (pt_not (pt_val (C8.pe_c k__law_alike hr (by decide) rfl (pa_cons (pv 9) (pa_cons (pe_lst (pa_cons (pe_ix ix_seq (pv 2) pe_int (fun _ _ => rfl)) (pa_cons (pe_ix ix_seq (pv 2) pe_int (fun _ _ => rfl)) (pa_cons (pe_ix ix_seq (pv 2) pe_int (fun _ _ => rfl)) pa_nil)))) pa_nil))))) (pw_or1 (pt_cmpR op_ne (pe_fld (pv 7) rfl) (pe_ix ix_seq (pv 2) pe_int (fun _ _ => rfl)) (nomark _)))))
        (pss_one (ps_ret pe_bl))
        pss_nil)
      (pss_one (ps_for PassesOwn.never rfl (pi_list (pe_op op_cat (pv 9) (pv 6))) (pg_name (i := 10) sclaw.nd rfl (Or.inl rfl))
        (pss_one (ps_expr (pe_bm0 PySem.F.plainAttrs_list PySem.F.slot_list_clear PySem.F.type_list_clear mt_clear (pv 10)))))))))
      (pss_cons (ps_for PassesOwn.never rfl (pi_range1 (by rfl) b_range (pa_cons (pe_ix ix_seq (pv 2) pe_int (fun _ _ => rfl)) pa_nil)) (pg_name (i := 11) sclaw.nd rfl (Or.inl rfl))
        (pss_one (ps_for PassesOwn.never rfl (pi_range1 (by rfl) b_range (pa_cons (pe_callB call_len_seq (by rfl) b_len (by decide +kernel) (pa_cons (pe_ix ix_seq (pv 2) pe_int (fun _ _ => rfl)) pa_nil)) pa_nil)) (pg_name (i := 12) sclaw.nd rfl (Or.inl rfl))
        (pss_cons (ps_if (pt_not (pt_val (C8.pe_c k__law_alike hr (by decide) rfl (pa_cons (C8.pe_mt k_House_use hr (by decide) (pv 7) (pa_cons (pv 12) (pa_cons (pv 11) pa_nil))) (pa_cons (C8.pe_c k__law_use hr (by decide) rfl (pa_cons (pv 2) (pa_cons (pv 12) (pa_cons (pv 11) pa_nil)))) pa_nil)))))
        (pss_one (ps_ret pe_bl))
        pss_nil)
      (pss_one (ps_if (pt_not (pt_val (C8.pe_c k__law_alike hr (by decide) rfl (pa_cons (C8.pe_mt k_House_least hr (by decide) (pv 7) (pa_cons (pv 12) (pa_cons (pv 11) pa_nil))) (pa_cons (C8.pe_c k__law_least hr (by decide) rfl (pa_cons (pv 2) (pa_cons (pv 12) (pa_cons (pv 11) pa_nil)))) pa_nil)))))
        (pss_one (ps_ret pe_bl))
        pss_nil))))))
      (pss_one (ps_ret pe_bl))))))))), ?_⟩
    refine ⟨_, rfl, a, ns, rfl, ha, hn, fun b l H1 hb hl hbl s1 box => ?_⟩
    have B1 : Bx Ps b l (fun _ => none) H1 (fun _ => none) H1 := by
      refine ⟨Gr.refl ⟨fun _ _ e => (nomatch e), fun _ _ => rfl, fun c hc => ?_⟩, box, tbs.same s1, hbl, tbs.nin hb, tbs.nin hl⟩
      obtain ⟨z, ns', e1, e2, _⟩ := box
      rcases List.mem_cons.mp hc with rfl | hc
      · rw [e1]; exact fun z => nomatch z
      rcases List.mem_cons.mp hc with rfl | hc
      · rw [e2]; exact fun z => nomatch z
      · obtain ⟨ps, e, _⟩ := tbs.same s1 c hc
        rw [e]; exact fun z => nomatch z
    refine ⟨_, rfl, b, l, _, rfl, B1, fun t h ra da sa rs ds ss G2 H2 B2 hR hG => ?_⟩
    refine ⟨_, rfl, b, l, _, _, rfl, by omega, by omega, B2.start, fun r3 H3 a3 c3 B3 => ⟨rfl, _, rfl, ?_⟩⟩
    replace B3 := B2.trans B3
    refine ite2 (fun _ => ?_) (fun _ => ?_)
    · refine ⟨_, rfl, _, rfl, b, l, G2, t, h, ra, da, sa, rs, ds, ss, rfl, B3.start, hR, hG, fun p G4 H4 B4 hb => ?_⟩
      obtain ⟨t', h', ra', da', sa', rs', ds', ss', z, hp, hR', w4, w3, w5, hbad⟩ := hb.ex
      refine ⟨p, _, rfl, Same.tup B4.wd.same hp, rfl, _, _, rfl, _, _, rfl, _, _, rfl, rfl, ?_⟩
      refine ⟨_, rfl, G4, t', h', ra', da', sa', rs', ds', ss', z, rfl, B4.wdP, B4.tabs, hR', w4, w3, w5, hbad, fun p2 H5 g5 hp2 t5 => ?_⟩
      refine ⟨_, rfl, _, rfl, by show 2 ≤ sizeLine; decide, fun p3 hp3 => ?_⟩
      refine ⟨_, _, .tuple [.str z.1, .int z.2], rfl, .tup (SqT.of (same_new hp3 _ _ hp2)) (.cons (.str _) (.cons (.int _) .nil)), .tup (SqT.of upd_same) (.cons (.str _) (.cons (.int _) .nil)), ⟨by show 2 ≤ 1000; decide, fun d hd => ?_⟩, q _⟩
      simp at hd
      rcases hd with rfl | rfl <;> exact True.intro
    refine st_eq (t := tNext) (σ' := [some (.ref a), some (.ref b), some (.ref t), none, none, none, none, none, none, none, none, none, none]) rfl ?_
    obtain ⟨xr, er, vr, lr⟩ := hR.r.at_ B3
    refine ⟨_, rfl, .inr (.inl ⟨t, _, _, .ref ra, rfl, rfl, Same.tup B3.wd.same hR.t, atI_nat (j := 1) rfl, ra, xr, rfl, .inl (SqL.of er), fun pa hpa => ?_⟩)⟩
    obtain ⟨Ga, Ba, sA, Ra⟩ := B3.lstS hpa vr
    obtain ⟨xd, ed, vd, ld⟩ := (hR.d.same sA).at_ Ba
    refine ⟨_, rfl, .inr (.inl ⟨t, _, _, .ref da, rfl, rfl, Same.tup (sA.trans Ba.wd.same) hR.t, atI_nat (j := 2) rfl, da, xd, rfl, .inl (SqL.of ed), fun pb hpb => ?_⟩)⟩
    obtain ⟨Gb, Bb, sB, Rb⟩ := Ba.lstS hpb vd
    obtain ⟨xs, es, vs, ls⟩ := (hR.s.same (sA.trans sB)).at_ Bb
    refine ⟨_, rfl, .inr (.inl ⟨t, _, _, .ref sa, rfl, rfl, Same.tup ((sA.trans sB).trans Bb.wd.same) hR.t, atI_nat (j := 3) rfl, sa, xs, rfl, .inl (SqL.of es), fun pc hpc => ?_⟩)⟩
    obtain ⟨Gc, Bc, sC, Rc⟩ := Bb.lstS hpc vs
    refine ⟨by show 3 ≤ sizeLine; decide, fun ph hph => ?_⟩
    have Bh := Bc.new (o := .lst [.ref pa, .ref pb, .ref pc]) hph
    have sAC := (sA.trans sB).trans sC
    have htS := Same.tup (sAC.trans Bh.wd.same) hR.t
    refine ⟨_, rfl, .inr (.inl ⟨t, _, _, .int h, rfl, rfl, htS, atI_nat (j := 0) rfl, ?_⟩)⟩
    refine ⟨_, rfl, .inl ⟨ph, _, _, .ref pa, rfl, rfl, SqL.of upd_same, atI_nat (j := 0) rfl, ?_⟩⟩
    refine ⟨_, rfl, .inl ⟨ph, _, _, .ref pb, rfl, rfl, SqL.of upd_same, atI_nat (j := 1) rfl, ?_⟩⟩
    refine ⟨_, rfl, .inl ⟨ph, _, _, .ref pc, rfl, rfl, SqL.of upd_same, atI_nat (j := 2) rfl, ?_⟩⟩
    refine fun x dx hx hdx hne => ?_
    obtain ⟨s2, wd2⟩ := made_wd (o1 := .own x) (o2 := .ins ad.cH dx []) Bh.wdP hx hdx hne
    refine ⟨Gc, x, dx, h, pa, pb, pc, rs, ds, ss, rfl, wd2, Bh.tabs.same s2, Bh.tabs.nin hx, upd_same, (Ra.same (sB.trans sC)).rows, (Rb.same sC).rows, Rc.rows, hG.w4, hG.w3, hG.w5, fun _ G6 H6 a' b' c' fa fb fc g6 t6 hx6 r1 r2 r3 => ⟨rfl, ?_⟩, fun z e => by rw [hG.bad] at e; cases e⟩
    obtain ⟨_, ea, _⟩ := Ra.same (sB.trans sC)
    obtain ⟨_, eb, _⟩ := Rb.same sC
    obtain ⟨_, ec, _⟩ := id Rc
    have nba : pb ≠ pa := fun z => by rw [z, upd_same] at hpb; cases hpb
    have nca : pc ≠ pa := fun z => by rw [z, Bb.wd.same _ _ ((Ra.same sB).choose_spec.1)] at hpc; cases hpc
    have ncb : pc ≠ pb := fun z => by rw [z, upd_same] at hpc; cases hpc
    have hxP : x ∉ Ps := Bh.tabs.nin hx
    obtain ⟨G7, w7, hx7, up7, rows7⟩ := forget3 (K := K) g6.wd hxP hx6 (g6.up _ _ ea) (g6.up _ _ eb) (g6.up _ _ ec) nba nca ncb
    have nof : ∀ y, (upd (upd _ dx (.own x)) x (.ins ad.cH dx [])) y = none → y ≠ pa ∧ y ≠ pb ∧ y ≠ pc := fun y hy => ⟨fun z => (by rw [z, wd2.same _ _ ea] at hy; cases hy), fun z => (by rw [z, wd2.same _ _ eb] at hy; cases hy), fun z => (by rw [z, wd2.same _ _ ec] at hy; cases hy)⟩
    obtain ⟨fa1, fa2, fa3⟩ := nof _ fa
    obtain ⟨fb1, fb2, fb3⟩ := nof _ fb
    obtain ⟨fc1, fc2, fc3⟩ := nof _ fc
    have hHo : HouseAt ad K G7 x h rs ds ss := ⟨⟨dx, a', b', c', hx7, rows7 _ _ fa1 fa2 fa3 r1, rows7 _ _ fb1 fb2 fb3 r2, rows7 _ _ fc1 fc2 fc3 r3⟩, hG.bad, hG.w4, hG.w3, hG.w5⟩
    have s27 : Same G2 G7 := fun c u e => up7 c u (fun z => by rw [z] at e; rw [B3.wd.same _ _ e] at hpa; cases hpa) (fun z => by rw [z] at e; rw [Ba.wd.same _ _ (sA _ _ e)] at hpb; cases hpb) (fun z => by rw [z] at e; rw [Bb.wd.same _ _ ((sA.trans sB) _ _ e)] at hpc; cases hpc)
      (fun z => by rw [z] at e; rw [Bh.wd.same _ _ (sAC _ _ e)] at hx; cases hx) (g6.up _ _ (sAC _ _ e))
    have hR7 : RowsAt K G7 t h ra da sa rs ds ss := ⟨Same.tup s27 hR.t, hR.r.same s27, hR.d.same s27, hR.s.same s27⟩
    have hph6 : H6 ph = some (.lst [.ref pa, .ref pb, .ref pc]) := g6.keep _ _ (fun hm => by
      rcases List.mem_cons.mp hm with z | hm
      · rw [z.symm, upd_same] at hx; cases hx
      · exact Bc.tabs.nin hph hm) (s2 _ _ upd_same)
    have hhp : ph ≠ pa ∧ ph ≠ pb ∧ ph ≠ pc := ⟨fun z => (by rw [z, Bc.wd.same _ _ ea] at hph; cases hph), fun z => (by rw [z, Bc.wd.same _ _ eb] at hph; cases hph), fun z => (by rw [z, Bc.wd.same _ _ ec] at hph; cases hph)⟩
    have hphF : ph ∉ pa :: pb :: pc :: Ps := fun hm => by
      rcases List.mem_cons.mp hm with z | hm
      · exact hhp.1 z
      rcases List.mem_cons.mp hm with z | hm
      · exact hhp.2.1 z
      rcases List.mem_cons.mp hm with z | hm
      · exact hhp.2.2 z
      · exact Bc.tabs.nin hph hm
    have paP : pa ∉ Ps := B3.tabs.nin hpa
    have pbP : pb ∉ Ps := Ba.tabs.nin hpb
    have pcP : pc ∉ Ps := Bb.tabs.nin hpc
    have ea6 := g6.wd.same _ _ (g6.up _ _ ea)
    have eb6 := g6.wd.same _ _ (g6.up _ _ eb)
    have ec6 := g6.wd.same _ _ (g6.up _ _ ec)
    have w7P : ∀ {H'}, Wd (pa :: pb :: pc :: Ps) G7 H' → Wd Ps G7 H' := fun w => w.sub fun c hc => List.mem_cons_of_mem _ (List.mem_cons_of_mem _ (List.mem_cons_of_mem _ hc))
    have sub3 : ∀ c ∈ Ps, c ∈ pa :: pb :: pc :: Ps := fun c hc => List.mem_cons_of_mem _ (List.mem_cons_of_mem _ (List.mem_cons_of_mem _ hc))
    clear fa fb fc fa1 fa2 fa3 fb1 fb2 fb3 fc1 fc2 fc3 nof
    refine st_eq (t := tSeq _ _) (σ' := [some (.ref a), some (.ref b), some (.ref t), none, none, none, some (.ref ph), some (.ref x), none, none, none, none, none]) rfl ?_
    have hfN : ∀ m : Str, ¬ m = "_stays" → ¬ m = "_doors" → ¬ m = "_rooms" → ¬ m = "hours" → (hf h a' b' c').lookup m = none := fun m h1 h2 h3 h4 => hf_no _ _ _ _ h1 h2 h3 h4
    refine ⟨2, rfl, by decide, by decide, for_range (lo := 0) (n := 2) (fun i σ H' => ∃ (o8 o9 o10 : Option V), σ = [some (.ref a), some (.ref b), some (.ref t), none, none, none, some (.ref ph), some (.ref x), o8, o9, o10, none, none] ∧ Gr (pa :: pb :: pc :: Ps) G7 H6 G7 H' ∧ Tabs Ps H' ∧ ∃ x1 x2 x3, H' pa = some (.lst x1) ∧ H' pb = some (.lst x2) ∧ H' pc = some (.lst x3)) ⟨_, _, _, rfl, Gr.refl w7, t6, _, _, _, ea6, eb6, ec6⟩ ?_ ?_⟩
    · rintro i0 σ H7 hi ⟨o8, o9, o10, rfl, g7, t7, x1, x2, x3, ea7, eb7, ec7⟩
      have w77 := g7.wd
      refine ⟨_, rfl, x, dx, _, rfl, w77.same _ _ hx7, hfN _ (by decide +kernel) (by decide +kernel) (by decide +kernel) (by decide +kernel), ?_⟩
      refine ⟨G7, x, h, rs, ds, ss, rfl, w7P w77, t7, hHo, fun f1 y1 H8 hf1 g8 e8 rv1 t8 => ?_⟩
      have gg8 := g7.trans (g8.widen w77 sub3)
      refine ⟨_, rfl, x, dx, _, rfl, gg8.wd.same _ _ hx7, hfN _ (by decide +kernel) (by decide +kernel) (by decide +kernel) (by decide +kernel), ?_⟩
      refine ⟨G7, x, h, rs, ds, ss, rfl, w7P gg8.wd, t8, hHo, fun f2 y2 H9 hf2 g9 e9 rv2 t9 => ?_⟩
      have gg9 := gg8.trans (g9.widen gg8.wd sub3)
      refine ⟨_, rfl, x, dx, _, rfl, gg9.wd.same _ _ hx7, hfN _ (by decide +kernel) (by decide +kernel) (by decide +kernel) (by decide +kernel), ?_⟩
      refine ⟨G7, x, h, rs, ds, ss, rfl, w7P gg9.wd, t9, hHo, fun f3 y3 H10 hf3 g10 e10 rv3 t10 => ?_⟩
      have gg10 := gg9.trans (g10.widen gg9.wd sub3)
      refine ⟨by show 3 ≤ sizeLine; decide, fun pf hpf => ?_⟩
      have gg11 := gg10.trans (Gr.new (o := .lst [.ref f1, .ref f2, .ref f3]) gg10.wd hpf)
      have t11 := t10.same (same_new (o := .lst [.ref f1, .ref f2, .ref f3]) hpf)
      have f1P : f1 ∉ Ps := t7.nin hf1
      have f2P : f2 ∉ Ps := t8.nin hf2
      have f3P : f3 ∉ Ps := t9.nin hf3
      have e8' := same_new (o := .lst [.ref f1, .ref f2, .ref f3]) hpf _ _ (g10.keep _ _ f1P (g9.keep _ _ f1P e8))
      have e9' := same_new (o := .lst [.ref f1, .ref f2, .ref f3]) hpf _ _ (g10.keep _ _ f2P e9)
      have e10' := same_new (o := .lst [.ref f1, .ref f2, .ref f3]) hpf _ _ e10
      have htS := Same.tup gg11.wd.same hR7.t
      refine ⟨_, rfl, _, rfl, .inr (.inl ⟨t, _, _, .ref ra, rfl, rfl, htS, atI_nat (j := 1) rfl, ?_⟩)⟩
      refine ⟨_, rfl, .inr (.inl ⟨t, _, _, .ref da, rfl, rfl, htS, atI_nat (j := 2) rfl, ?_⟩)⟩
      refine ⟨_, rfl, .inr (.inl ⟨t, _, _, .ref sa, rfl, rfl, htS, atI_nat (j := 3) rfl, ?_⟩)⟩
      refine ⟨by show 3 ≤ sizeLine; decide, fun pd hpd => ?_⟩
      have sd := same_new (o := .lst [.ref ra, .ref da, .ref sa]) hpd
      have gg12 := gg11.trans (Gr.new (o := .lst [.ref ra, .ref da, .ref sa]) gg11.wd hpd)
      have t12 := t11.same sd
      have hr6 := hG.r6
      have hd8 := hG.d8
      have hs20 := hG.s20
      refine ⟨_, _, .list [dI rs, dI ds, dI ss], rfl, ?_, ?_, ?_, ?_⟩
      · exact .lst (SqL.of (sd _ _ upd_same)) (.cons (.lst (SqL.of (sd _ _ e8')) (rowsV_dp (rowsV_same gg12.wd.same rv1))) (.cons (.lst (SqL.of (sd _ _ e9')) (rowsV_dp (rowsV_same gg12.wd.same rv2))) (.cons (.lst (SqL.of (sd _ _ e10')) (rowsV_dp (rowsV_same gg12.wd.same rv3))) .nil)))
      · exact .lst (SqL.of upd_same) (.cons (dp_same gg12.wd.same hR7.r.rows.dp) (.cons (dp_same gg12.wd.same hR7.d.rows.dp) (.cons (dp_same gg12.wd.same hR7.s.rows.dp) .nil)))
      · refine ⟨by show 3 ≤ 1000; decide, fun d hd => ?_⟩
        simp only [List.mem_cons, List.mem_nil_iff, or_false] at hd
        rcases hd with rfl | rfl | rfl
        · exact shp_rows 0 hG.w4 (by decide) (by omega)
        · exact shp_rows 0 hG.w3 (by decide) (by omega)
        · exact shp_rows 0 hG.w5 (by decide) (by omega)
      refine ⟨_, rfl, iteF ?_⟩
      refine ⟨_, rfl, x, ad.cH, dx, _, _, rfl, gg12.wd.same _ _ hx7, T.hcl, T.hnh, hf_h _ _ _ _, ?_⟩
      refine ⟨_, rfl, .inr (.inl ⟨t, _, _, .int h, rfl, rfl, Same.tup sd htS, atI_nat (j := 0) rfl, rfl, _, rfl, ?_⟩)⟩
      rw [decide_eq_true (rfl : V.int h = V.int h)]
      refine iteF ?_
      -- the lists are cleared
      have ph12 : (upd (upd H10 pf (.lst [.ref f1, .ref f2, .ref f3])) pd (.lst [.ref ra, .ref da, .ref sa])) ph = some (.lst [.ref pa, .ref pb, .ref pc]) := gg12.keep _ _ hphF hph6
      refine ⟨_, rfl, _, rfl, pf, ph, _, _, rfl, rfl, sd _ _ upd_same, ph12, by show 6 ≤ sizeLine; decide, fun pz hpz => ?_⟩
      have gg13 := gg12.trans (Gr.new (o := .lst ([.ref f1, .ref f2, .ref f3] ++ [.ref pa, .ref pb, .ref pc])) gg12.wd hpz)
      have t13 := t12.same (same_new (o := .lst ([.ref f1, .ref f2, .ref f3] ++ [.ref pa, .ref pb, .ref pc])) hpz)
      have lists13 : ∀ p ∈ [f1, f2, f3, pa, pb, pc], ∃ zs, (upd (upd (upd H10 pf (.lst [.ref f1, .ref f2, .ref f3])) pd (.lst [.ref ra, .ref da, .ref sa])) pz (.lst ([.ref f1, .ref f2, .ref f3] ++ [.ref pa, .ref pb, .ref pc]))) p = some (.lst zs) := fun p hp => by
        have s3 : Same H10 (upd (upd (upd H10 pf (.lst [.ref f1, .ref f2, .ref f3])) pd (.lst [.ref ra, .ref da, .ref sa])) pz (.lst ([.ref f1, .ref f2, .ref f3] ++ [.ref pa, .ref pb, .ref pc]))) := ((same_new hpf).trans sd).trans (same_new hpz)
        simp only [List.mem_cons, List.mem_nil_iff, or_false] at hp
        rcases hp with rfl | rfl | rfl | rfl | rfl | rfl
        · exact ⟨_, s3 _ _ (g10.keep _ _ f1P (g9.keep _ _ f1P e8))⟩
        · exact ⟨_, s3 _ _ (g10.keep _ _ f2P e9)⟩
        · exact ⟨_, s3 _ _ e10⟩
        · exact ⟨_, s3 _ _ (g10.keep _ _ paP (g9.keep _ _ paP (g8.keep _ _ paP ea7)))⟩
        · exact ⟨_, s3 _ _ (g10.keep _ _ pbP (g9.keep _ _ pbP (g8.keep _ _ pbP eb7)))⟩
        · exact ⟨_, s3 _ _ (g10.keep _ _ pcP (g9.keep _ _ pcP (g8.keep _ _ pcP ec7)))⟩
      have okp : ∀ p ∈ [f1, f2, f3, pa, pb, pc], p ∉ Ps ∧ p ≠ pz ∧ (p ∈ pa :: pb :: pc :: Ps ∨ (H6 p = none ∧ G7 p = none)) := fun p hp => by
        refine ⟨?_, fun z => ?_, ?_⟩
        · simp only [List.mem_cons, List.mem_nil_iff, or_false] at hp
          rcases hp with rfl | rfl | rfl | rfl | rfl | rfl <;> assumption
        · have s2' : Same H10 (upd (upd H10 pf (.lst [.ref f1, .ref f2, .ref f3])) pd (.lst [.ref ra, .ref da, .ref sa])) := (same_new hpf).trans sd
          simp only [List.mem_cons, List.mem_nil_iff, or_false] at hp
          rcases hp with rfl | rfl | rfl | rfl | rfl | rfl
          · rw [← z, s2' _ _ (g10.keep _ _ f1P (g9.keep _ _ f1P e8))] at hpz; cases hpz
          · rw [← z, s2' _ _ (g10.keep _ _ f2P e9)] at hpz; cases hpz
          · rw [← z, s2' _ _ e10] at hpz; cases hpz
          · rw [← z, s2' _ _ (g10.keep _ _ paP (g9.keep _ _ paP (g8.keep _ _ paP ea7)))] at hpz; cases hpz
          · rw [← z, s2' _ _ (g10.keep _ _ pbP (g9.keep _ _ pbP (g8.keep _ _ pbP eb7)))] at hpz; cases hpz
          · rw [← z, s2' _ _ (g10.keep _ _ pcP (g9.keep _ _ pcP (g8.keep _ _ pcP ec7)))] at hpz; cases hpz
        · simp only [List.mem_cons, List.mem_nil_iff, or_false] at hp
          rcases hp with rfl | rfl | rfl | rfl | rfl | rfl
          · exact .inr ⟨g7.free' hf1, g7.wd.free hf1⟩
          · exact .inr ⟨gg8.free' hf2, gg8.wd.free hf2⟩
          · exact .inr ⟨gg9.free' hf3, gg9.wd.free hf3⟩
          · exact .inl List.mem_cons_self
          · exact .inl (List.mem_cons_of_mem _ List.mem_cons_self)
          · exact .inl (List.mem_cons_of_mem _ (List.mem_cons_of_mem _ List.mem_cons_self))
      refine ⟨pz, rfl, ⟨_, SqL.of upd_same⟩, for_list (K := K) (a := pz) (xs := [f1, f2, f3, pa, pb, pc].map V.ref) (fun i σ H' => ∃ (o10 : Option V), σ = [some (.ref a), some (.ref b), some (.ref t), none, none, none, some (.ref ph), some (.ref x), some (.int (0 + (i0 : Int))), some (.ref pf), o10, none, none] ∧ Gr (pa :: pb :: pc :: Ps) G7 H6 G7 H' ∧ Tabs Ps H' ∧ H' pz = some (.lst ([f1, f2, f3, pa, pb, pc].map V.ref)) ∧ ∀ p ∈ [f1, f2, f3, pa, pb, pc], ∃ zs, H' p = some (.lst zs)) ⟨_, rfl, gg13, t13, upd_same, lists13⟩ (fun i σ H' _ ⟨_, _, _, _, e, _⟩ => SqL.of e) ?_ ?_⟩
      · rintro i y σ H' hy ⟨o10, rfl, g, tb, ez, ls⟩
        obtain ⟨p, hp, rfl⟩ : ∃ p ∈ [f1, f2, f3, pa, pb, pc], y = V.ref p := by
          obtain ⟨p, hp, e⟩ := List.mem_map.mp (List.mem_of_getElem? hy)
          exact ⟨p, hp, e.symm⟩
        obtain ⟨pP, pz', po⟩ := okp p hp
        obtain ⟨zs, ezs⟩ := ls p hp
        refine ⟨_, rfl, .inl ⟨rfl, zs, SqL.of ezs⟩, p, zs, rfl, rfl, ezs, _, rfl, ?_, tb.upd pP, by rw [upd_ne pz'.symm]; exact ez, fun p' hp' => ?_⟩
        · rcases po with po | ⟨po1, po2⟩
          · exact g.pokeF po
          · exact g.poke po1 po2
        · by_cases e : p' = p
          · rw [e, upd_same]; exact ⟨_, rfl⟩
          · rw [upd_ne e]; exact ls p' hp'
      · rintro σ H' ⟨o10, rfl, g, tb, ez, ls⟩
        obtain ⟨y1, z1⟩ := ls pa (by simp)
        obtain ⟨y2, z2⟩ := ls pb (by simp)
        obtain ⟨y3, z3⟩ := ls pc (by simp)
        exact ⟨_, _, _, rfl, g, tb, _, _, _, z1, z2, z3⟩
    · rintro σ H7 ⟨o8, o9, o10, rfl, g7, t7, _⟩
      have wb := w7P g7.wd
      have hr6 := hG.r6
      have pos : ∀ s ∈ ss, 0 ≤ s.getD 4 0 := fun s hs => stayOk_need (hG.sok s hs)
      have hh1 := hG.h1
      have hh12 := hG.h12
      obtain ⟨nh, rfl⟩ : ∃ nh : Nat, h = (nh : Int) := ⟨h.toNat, by omega⟩
      refine ⟨_, rfl, .inr (.inl ⟨t, _, _, .int (nh : Int), rfl, rfl, Same.tup g7.wd.same hR7.t, atI_nat (j := 0) rfl, ?_⟩)⟩
      refine ⟨(nh : Int), rfl, by omega, by omega, for_range (lo := 0) (n := nh) (fun i σ H' => ∃ (o11 o12 : Option V), σ = [some (.ref a), some (.ref b), some (.ref t), none, none, none, some (.ref ph), some (.ref x), o8, o9, o10, o11, o12] ∧ Wd Ps G7 H' ∧ Tabs Ps H') ⟨_, _, rfl, wb, t7⟩ ?_ ?_⟩
      · rintro i σ H8 hi ⟨o11, o12, rfl, w8, t8⟩
        obtain ⟨xr, er, vr⟩ := id hR7.r
        have lr' : xr.length = rs.length := Paired.length vr
        refine ⟨_, rfl, .inr (.inl ⟨t, _, _, .ref ra, rfl, rfl, Same.tup w8.same hR7.t, atI_nat (j := 1) rfl, ra, xr, rfl, .inl (SqL.of (w8.same _ _ er)), ?_⟩)⟩
        refine ⟨(xr.length : Int), rfl, by omega, by omega, for_range (lo := 0) (n := xr.length) (fun j σ H' => ∃ (o12 : Option V), σ = [some (.ref a), some (.ref b), some (.ref t), none, none, none, some (.ref ph), some (.ref x), o8, o9, o10, some (.int (0 + (i : Int))), o12] ∧ Wd Ps G7 H' ∧ Tabs Ps H') ⟨_, rfl, w8, t8⟩ ?_ ?_⟩
        · rintro j σ H9 hj ⟨o12, rfl, w9, t9⟩
          refine ⟨_, rfl, x, dx, _, rfl, w9.same _ _ hx7, hfN _ (by decide +kernel) (by decide +kernel) (by decide +kernel) (by decide +kernel), _, rfl, _, rfl, ?_⟩
          refine ⟨G7, x, _, rs, ds, ss, _, _, rfl, w9, t9, hHo, fun G10 H10 g10 t10 => ?_⟩
          have w10 := w9.back g10
          refine ⟨_, rfl, _, rfl, _, rfl, G7, t, _, ra, da, sa, rs, ds, ss, _, _, rfl, w10, t10, hR7, hG.w5, hG.s20, pos, fun H11 g11 t11 => ?_⟩
          have w11 := w10.back g11
          refine ⟨_, _, .int _, rfl, .int _, .int _, True.intro, _, rfl, iteF ?_⟩
          refine ⟨_, rfl, x, dx, _, rfl, w11.same _ _ hx7, hfN _ (by decide +kernel) (by decide +kernel) (by decide +kernel) (by decide +kernel), _, rfl, _, rfl, ?_⟩
          refine ⟨G7, x, _, rs, ds, ss, _, _, rfl, w11, t11, hHo, fun G12 H12 g12 t12 => ?_⟩
          have w12 := w11.back g12
          refine ⟨_, rfl, _, rfl, _, rfl, G7, t, _, ra, da, sa, rs, ds, ss, _, _, rfl, w12, t12, hR7, hG.w5, hG.s20, pos, fun H13 g13 t13 => ?_⟩
          refine ⟨_, _, .int _, rfl, .int _, .int _, True.intro, _, rfl, iteF ?_⟩
          exact ⟨_, rfl, w12.back g13, t13⟩
        · rintro σ H9 ⟨o12, rfl, w9, t9⟩
          exact ⟨_, _, rfl, w9, t9⟩
      · rintro σ H8 ⟨o11, o12, rfl, w8, t8⟩
        exact q _
end
end Cr
set_option Elab.async false
set_option linter.all false
set_option maxRecDepth 100000
set_option maxHeartbeats 4000000
namespace Cr
open PySem PySem.Spec PyProof.Rows L2
/-- what the law's promise asks of the head's heap -/
theorem fin_mk {P : Program} {w : World} {K : PySem.W.Frag} {h : Heap} {mg : Str → Option Value} {fa cHouse cAirError cBadHouse cN_numbers_can_be tN_numbers_can_be cBadPlan cBadText cBroken cNoPlan : Addr} {tMOST_HOURS tMOST_ROOMS tMOST_DOORS tMOST_STAYS tMOST_NUMBER : Tok}
    {nm_BadHouse : Str} {qb_BadHouse : Str} {Nb_BadHouse : Addr} {bs_BadHouse : List Value} {bm_BadHouse : List Value} {sn_BadHouse : List Str} {sub_BadHouse : List Value} {ab_BadHouse : Bool} {col_BadHouse : Option Bool} {dd_BadHouse : Option Addr} {m0_BadHouse : Option Value} {m1_BadHouse : Option Value} {m2_BadHouse : Option Value} {m3_BadHouse : Option Value} {m5_BadHouse : Option Value}
    (KX : K.In h) (G : h.Ns mainGlobals mg) (hfa : mg "law" = some (.ref fa))
    (a_House : PySem.W.nsIn K mainGlobals "House" = some (some (.ref cHouse)))
    (a_AirError : PySem.W.nsIn K mainGlobals "AirError" = some (some (.ref cAirError)))
    (a_BadHouse : PySem.W.nsIn K mainGlobals "BadHouse" = some (some (.ref cBadHouse)))
    (ai_rd : PySem.W.readsIn K cAirError (.type "type") = true)
    (ai_ga : PySem.W.specialIn K (.ref cAirError) "__getattribute__" = some (some (.builtin "type.__getattribute__")))
    (ai_iv : PySem.W.findCls K (.ref cAirError) (.type "type") "__init__" = some (.val (.builtin "ValueError.__init__")))
    (e_BadHouse : ErrF K cBadHouse "BadHouse.__init__" sBadHouse_init)
    (xL_BadHouse : K.lookup cBadHouse = some (excClassObj nm_BadHouse qb_BadHouse cBadHouse Nb_BadHouse bs_BadHouse bm_BadHouse true sn_BadHouse sub_BadHouse ab_BadHouse col_BadHouse dd_BadHouse m0_BadHouse m1_BadHouse m2_BadHouse m3_BadHouse m5_BadHouse "ValueError.__new__"))
    (xR_BadHouse : PySem.HandSPX.refsVE bm_BadHouse = true)
    (f_BadHouse_setattr : PySem.W.findIn K (.ref cBadHouse) "__setattr__" = some (some (.builtin "object.__setattr__")))
    (st_BadHouse_BaseException : PySem.W.subIn K (.ref cBadHouse) (.type "BaseException") = some true)
    (ty_BadHouse : PySem.W.typeIn K (.ref cBadHouse) = some (.type "type"))
    (kp_BadHouse : PySem.W.keepIn K (.ref cBadHouse) = true)
    (f_BadHouse_word : PySem.W.findIn K (.ref cBadHouse) "word" = some none)
    (f_BadHouse_number : PySem.W.findIn K (.ref cBadHouse) "number" = some none)
    (i_House : MetF K cHouse "__init__" "House.__init__" sHouse_init)
    (mk_House : PySem.W.makesIn K cHouse = true)
    (kp_House : PySem.W.keepIn K (.ref cHouse) = true)
    (pg_House : PySem.W.plainGet K cHouse Str.empty = true)
    (hd_House : PySem.W.hasDictIn K cHouse = true)
    (po_House : PySem.W.plainOver K cHouse = true)
    (f_House_setattr : PySem.W.findIn K (.ref cHouse) "__setattr__" = some (some (.builtin "object.__setattr__")))
    (f_House_hours : PySem.W.findIn K (.ref cHouse) "hours" = some none)
    (f_House_rooms_u : PySem.W.findIn K (.ref cHouse) "_rooms" = some none)
    (f_House_doors_u : PySem.W.findIn K (.ref cHouse) "_doors" = some none)
    (f_House_stays_u : PySem.W.findIn K (.ref cHouse) "_stays" = some none)
    (m_House_rooms : MetF K cHouse "rooms" "House.rooms" sHouse_rooms)
    (m_House_doors : MetF K cHouse "doors" "House.doors" sHouse_doors)
    (m_House_stays : MetF K cHouse "stays" "House.stays" sHouse_stays)
    (m_House_use : MetF K cHouse "use" "House.use" sHouse_use)
    (m_House_least : MetF K cHouse "least" "House.least" sHouse_least)
    (m_House__wants : MetF K cHouse "_wants" "House._wants" sHouse__wants)
    (d__check_counts : DefF K "_check_counts" s_check_counts)
    (d__check_parts : DefF K "_check_parts" s_check_parts)
    (d__room_can_be : DefF K "_room_can_be" s_room_can_be)
    (d__door_can_be : DefF K "_door_can_be" s_door_can_be)
    (d__stay_can_be : DefF K "_stay_can_be" s_stay_can_be)
    (aT_numbers_can_be : PySem.W.tabIn K "_numbers_can_be" = some (cN_numbers_can_be, tN_numbers_can_be))
    (nc_numbers_can_be : CodF K "_numbers_can_be" s_numbers_can_be cN_numbers_can_be)
    (g_MOST_HOURS : PySem.W.nsIn K mainGlobals "MOST_HOURS" = some (some (.int 12 tMOST_HOURS)))
    (g_MOST_ROOMS : PySem.W.nsIn K mainGlobals "MOST_ROOMS" = some (some (.int 6 tMOST_ROOMS)))
    (g_MOST_DOORS : PySem.W.nsIn K mainGlobals "MOST_DOORS" = some (some (.int 8 tMOST_DOORS)))
    (g_MOST_STAYS : PySem.W.nsIn K mainGlobals "MOST_STAYS" = some (some (.int 20 tMOST_STAYS)))
    (g_MOST_NUMBER : PySem.W.nsIn K mainGlobals "MOST_NUMBER" = some (some (.int 999 tMOST_NUMBER)))
    (z_all : PySem.W.nsIn K mainGlobals "all" = some none)
    (z_len : PySem.W.nsIn K mainGlobals "len" = some none)
    (z_max : PySem.W.nsIn K mainGlobals "max" = some none)
    (z_sum : PySem.W.nsIn K mainGlobals "sum" = some none)
    (z_list : PySem.W.nsIn K mainGlobals "list" = some none)
    (z_enumerate : PySem.W.nsIn K mainGlobals "enumerate" = some none)
    (d__law_begun : DefF K "_law_begun" s_law_begun)
    (d__law_take : DefF K "_law_take" s_law_take)
    (d__law_alike : DefF K "_law_alike" s_law_alike)
    (z_int : PySem.W.nsIn K mainGlobals "int" = some none)
    (z_bool : PySem.W.nsIn K mainGlobals "bool" = some none)
    (z_str : PySem.W.nsIn K mainGlobals "str" = some none)
    (z_tuple : PySem.W.nsIn K mainGlobals "tuple" = some none)
    (z_isinstance : PySem.W.nsIn K mainGlobals "isinstance" = some none)
    (z_range : PySem.W.nsIn K mainGlobals "range" = some none)
    (d__law_stay : DefF K "_law_stay" s_law_stay)
    (d__law_house : DefF K "_law_house" s_law_house)
    (z_min : PySem.W.nsIn K mainGlobals "min" = some none)
    (d__law_here : DefF K "_law_here" s_law_here)
    (d__law_use : DefF K "_law_use" s_law_use)
    (d__law_least : DefF K "_law_least" s_law_least)
    (d__law_refused : DefF K "_law_refused" s_law_refused)
    (st_AirError_BaseException : PySem.W.subIn K (.ref cAirError) (.type "BaseException") = some true)
    (ic_AirError : PySem.W.isClsIn K cAirError = true)
    (ty_AirError : PySem.W.typeIn K (.ref cAirError) = some (.type "type"))
    (sb_BadHouse_AirError : PySem.W.subIn K (.ref cBadHouse) (.ref cAirError) = some true)
    (f_BadHouse_getattribute : PySem.W.findIn K (.ref cBadHouse) "__getattribute__" = some (some (.builtin "BaseException.__getattribute__")))
    (f_BadHouse_getattr : PySem.W.findIn K (.ref cBadHouse) "__getattr__" = some none)
    (f_BadHouse_class : PySem.W.findIn K (.ref cBadHouse) "__class__" = some (some (.builtin "object.__class__")))
    (sp_class : PySem.W.specialIn K (.builtin "object.__class__") "__get__" = some (some (.builtin "getset_descriptor.__get__")))
    (tk_class : PySem.W.takesIn K (.builtin "object.__class__") = some true)
    (mr_BadHouse : PySem.W.mroIn K cBadHouse (.type "object") = some true)
    (hd_BadHouse : PySem.W.hasDictIn K cBadHouse = true)
    (es_BadHouse : (Value.ref cBadHouse == Value.ref cBadHouse) = true)
    (a_BadPlan : PySem.W.nsIn K mainGlobals "BadPlan" = some (some (.ref cBadPlan)))
    (ne_BadHouse_BadPlan : (Value.ref cBadHouse == Value.ref cBadPlan) = false)
    (ic_BadPlan : PySem.W.isClsIn K cBadPlan = true)
    (ty_BadPlan : PySem.W.typeIn K (.ref cBadPlan) = some (.type "type"))
    (sb_BadHouse_BadPlan : PySem.W.subIn K (.ref cBadHouse) (.ref cBadPlan) = some false)
    (a_BadText : PySem.W.nsIn K mainGlobals "BadText" = some (some (.ref cBadText)))
    (ne_BadHouse_BadText : (Value.ref cBadHouse == Value.ref cBadText) = false)
    (ic_BadText : PySem.W.isClsIn K cBadText = true)
    (ty_BadText : PySem.W.typeIn K (.ref cBadText) = some (.type "type"))
    (sb_BadHouse_BadText : PySem.W.subIn K (.ref cBadHouse) (.ref cBadText) = some false)
    (a_Broken : PySem.W.nsIn K mainGlobals "Broken" = some (some (.ref cBroken)))
    (ne_BadHouse_Broken : (Value.ref cBadHouse == Value.ref cBroken) = false)
    (ic_Broken : PySem.W.isClsIn K cBroken = true)
    (ty_Broken : PySem.W.typeIn K (.ref cBroken) = some (.type "type"))
    (sb_BadHouse_Broken : PySem.W.subIn K (.ref cBadHouse) (.ref cBroken) = some false)
    (a_NoPlan : PySem.W.nsIn K mainGlobals "NoPlan" = some (some (.ref cNoPlan)))
    (ne_BadHouse_NoPlan : (Value.ref cBadHouse == Value.ref cNoPlan) = false)
    (ic_NoPlan : PySem.W.isClsIn K cNoPlan = true)
    (ty_NoPlan : PySem.W.typeIn K (.ref cNoPlan) = some (.type "type"))
    (sb_BadHouse_NoPlan : PySem.W.subIn K (.ref cBadHouse) (.ref cNoPlan) = some false)
    (nt_BadHouse_ValueError : (Value.ref cBadHouse == Value.type "ValueError") = false)
    (vm_ValueError : PySem.W.kitMeta "ValueError" = true)
    (st_BadHouse_ValueError : PySem.W.subIn K (.ref cBadHouse) (.type "ValueError") = some true)
    (z_ValueError : PySem.W.nsIn K mainGlobals "ValueError" = some none)
    (d__law_bad_count : DefF K "_law_bad_count" s_law_bad_count)
    (d__law_wrong : DefF K "_law_wrong" s_law_wrong)
    (d_law : DefF K "law" slaw) :
    ∃ fd : FuncData, (∀ (s : Shared) (v : Value), BindsTo s fd ⟨[v], []⟩ [("_law_script", v)]) ∧ ∀ base : Heap, K.In base → base.Ns mainGlobals mg → GxR.TabB base mg cN_numbers_can_be tN_numbers_can_be → FnOk P w K mg base CX0 7 fa fd ["_law_script"] (spLaw K [tN_numbers_can_be]) := by
  have L : DefR K mg "law" slaw alaw := (d_law.r KX G (fun _ _ _ _ _ _ us hl => match us, hl with | [_], _ => rfl))
  obtain ⟨f, fd, FL, hm, bi⟩ := id L
  have e := hfa.symm.trans hm
  cases e
  refine ⟨fd, fun s v => ?_, fun base hb hg TB_numbers_can_be => ?_⟩
  · obtain ⟨oc, od, kV, doc, pm, an, cd, ct, sl, efd, _⟩ := FL.ex
    subst efd
    exact .of_eq rfl
  · have RP : RawP K mg base ⟨cHouse, cAirError, .type "type", cBadHouse, cN_numbers_can_be, tN_numbers_can_be⟩ := {
      airI := ⟨ai_rd, ai_ga, ai_iv⟩, m_AirError := (PySem.W.mg_of KX G a_AirError), bh := (e_BadHouse.r (show OexC K cBadHouse from ⟨⟨nm_BadHouse, qb_BadHouse, Nb_BadHouse, bs_BadHouse, bm_BadHouse, sn_BadHouse, sub_BadHouse, ab_BadHouse, col_BadHouse, dd_BadHouse, m0_BadHouse, m1_BadHouse, m2_BadHouse, m3_BadHouse, m5_BadHouse, xL_BadHouse, xR_BadHouse⟩, f_BadHouse_setattr, st_BadHouse_BaseException, ty_BadHouse, kp_BadHouse⟩) (PySem.W.mg_of KX G a_BadHouse) (fun _ _ _ _ _ _ us hl => match us, hl with | [_, _, _], _ => rfl)), bhw := f_BadHouse_word, bhn := f_BadHouse_number
      hi := (i_House.ini (PySem.W.mg_of KX G a_House) mk_House kp_House (fun _ _ _ _ _ _ us hl => match us, hl with | [_, _, _, _, _], _ => rfl)), hcl := ⟨pg_House, hd_House, po_House, f_House_setattr⟩, hnh := f_House_hours, hnr := f_House_rooms_u, hnd := f_House_doors_u, hns := f_House_stays_u
      hro := (m_House_rooms.r (fun _ _ _ _ _ _ us hl => match us, hl with | [_], _ => rfl))
      hdo := (m_House_doors.r (fun _ _ _ _ _ _ us hl => match us, hl with | [_], _ => rfl))
      hst := (m_House_stays.r (fun _ _ _ _ _ _ us hl => match us, hl with | [_], _ => rfl))
      hus := (m_House_use.r (fun _ _ _ _ _ _ us hl => match us, hl with | [_, _, _], _ => rfl))
      hle := (m_House_least.r (fun _ _ _ _ _ _ us hl => match us, hl with | [_, _, _], _ => rfl))
      hwa := (m_House__wants.r (fun _ _ _ _ _ _ us hl => match us, hl with | [_, _, _], _ => rfl))
      cc := (d__check_counts.r KX G (fun _ _ _ _ _ _ us hl => match us, hl with | [_, _, _, _], _ => rfl))
      cp := (d__check_parts.r KX G (fun _ _ _ _ _ _ us hl => match us, hl with | [_, _, _, _], _ => rfl))
      rc := (d__room_can_be.r KX G (fun _ _ _ _ _ _ us hl => match us, hl with | [_], _ => rfl))
      dc := (d__door_can_be.r KX G (fun _ _ _ _ _ _ us hl => match us, hl with | [_, _], _ => rfl))
      sc := (d__stay_can_be.r KX G (fun _ _ _ _ _ _ us hl => match us, hl with | [_, _, _], _ => rfl))
      nc := (nc_numbers_can_be.r KX G TB_numbers_can_be (fun _ _ _ _ _ _ us hl => match us, hl with | [_], _ => rfl))
      gH := ⟨_, PySem.W.mg_of KX G g_MOST_HOURS⟩
      gR := ⟨_, PySem.W.mg_of KX G g_MOST_ROOMS⟩
      gD := ⟨_, PySem.W.mg_of KX G g_MOST_DOORS⟩
      gS := ⟨_, PySem.W.mg_of KX G g_MOST_STAYS⟩
      gN := ⟨_, PySem.W.mg_of KX G g_MOST_NUMBER⟩
      b_all := PySem.W.mg_none_of KX G z_all, b_len := PySem.W.mg_none_of KX G z_len, b_max := PySem.W.mg_none_of KX G z_max, b_sum := PySem.W.mg_none_of KX G z_sum, b_list := PySem.W.mg_none_of KX G z_list, b_enumerate := PySem.W.mg_none_of KX G z_enumerate }
    have RL : RawL K mg := {
      begun := (d__law_begun.r KX G (fun _ _ _ _ _ _ us hl => match us, hl with | [_], _ => rfl)), take := (d__law_take.r KX G (fun _ _ _ _ _ _ us hl => match us, hl with | [_, _], _ => rfl))
      alike := (d__law_alike.r KX G (fun _ _ _ _ _ _ us hl => match us, hl with | [_, _], _ => rfl))
      b_len := PySem.W.mg_none_of KX G z_len, b_list := PySem.W.mg_none_of KX G z_list, b_int := PySem.W.mg_none_of KX G z_int, b_bool := PySem.W.mg_none_of KX G z_bool, b_str := PySem.W.mg_none_of KX G z_str, b_tuple := PySem.W.mg_none_of KX G z_tuple, b_isinstance := PySem.W.mg_none_of KX G z_isinstance, b_range := PySem.W.mg_none_of KX G z_range }
    have RH : RawH K mg := { RL with lstay := (d__law_stay.r KX G (fun _ _ _ _ _ _ us hl => match us, hl with | [_, _, _], _ => rfl)), lhouse := (d__law_house.r KX G (fun _ _ _ _ _ _ us hl => match us, hl with | [_], _ => rfl)), b_min := PySem.W.mg_none_of KX G z_min }
    have RU : RawU K mg := { RH with lhere := (d__law_here.r KX G (fun _ _ _ _ _ _ us hl => match us, hl with | [_, _, _], _ => rfl)), luse := (d__law_use.r KX G (fun _ _ _ _ _ _ us hl => match us, hl with | [_, _, _], _ => rfl)), lleast := (d__law_least.r KX G (fun _ _ _ _ _ _ us hl => match us, hl with | [_, _, _], _ => rfl)), b_sum := PySem.W.mg_none_of KX G z_sum, b_max := PySem.W.mg_none_of KX G z_max }
    have RR : RawR K mg base ⟨cHouse, cAirError, .type "type", cBadHouse, cN_numbers_can_be, tN_numbers_can_be⟩ := { RU, RP with
      lref := (d__law_refused.r KX G (fun _ _ _ _ _ _ us hl => match us, hl with | [_], _ => rfl)), exA := (exm_own st_AirError_BaseException ic_AirError ty_AirError sb_BadHouse_AirError), exC := ⟨f_BadHouse_getattribute, f_BadHouse_getattr, st_BadHouse_BaseException, hd_BadHouse, f_BadHouse_class, sp_class, tk_class, mr_BadHouse⟩, xfC := ⟨f_BadHouse_getattribute, f_BadHouse_getattr, st_BadHouse_BaseException, hd_BadHouse⟩, gBH := ⟨(PySem.W.mg_of KX G a_BadHouse), (kit_self es_BadHouse)⟩
      gBP := ⟨cBadPlan, (PySem.W.mg_of KX G a_BadPlan), (kit_own ne_BadHouse_BadPlan ic_BadPlan ty_BadPlan sb_BadHouse_BadPlan)⟩, gBT := ⟨cBadText, (PySem.W.mg_of KX G a_BadText), (kit_own ne_BadHouse_BadText ic_BadText ty_BadText sb_BadHouse_BadText)⟩, gBr := ⟨cBroken, (PySem.W.mg_of KX G a_Broken), (kit_own ne_BadHouse_Broken ic_Broken ty_Broken sb_BadHouse_Broken)⟩, gNP := ⟨cNoPlan, (PySem.W.mg_of KX G a_NoPlan), (kit_own ne_BadHouse_NoPlan ic_NoPlan ty_NoPlan sb_BadHouse_NoPlan)⟩
      iVE := (kit_bltn nt_BadHouse_ValueError vm_ValueError st_BadHouse_ValueError), b_ValueError := PySem.W.mg_none_of KX G z_ValueError }
    have RB : RawB K mg := { RU with lbc := (d__law_bad_count.r KX G (fun _ _ _ _ _ _ us hl => match us, hl with | [_, _], _ => rfl)) }
    have RW : RawW K mg := { RB with lwr := (d__law_wrong.r KX G (fun _ _ _ _ _ _ us hl => match us, hl with | [_, _], _ => rfl)) }
    have RA : RawA K mg base ⟨cHouse, cAirError, .type "type", cBadHouse, cN_numbers_can_be, tN_numbers_can_be⟩ := { RR, RW with }
    exact c_law RA (by simp) FL
theorem law_at {l : PySem.W.OpenLaw} {p : Program} {lo : List Str} {mean : ExcName → Option Value} {mb : Str → Option Value} {d_numbers_can_be : DefRec} {w : World} {K : PySem.W.Frag} {h : Heap} {mg : Str → Option Value} {fa cHouse cAirError cBadHouse cN_numbers_can_be tN_numbers_can_be cBadPlan cBadText cBroken cNoPlan : Addr} {tMOST_HOURS tMOST_ROOMS tMOST_DOORS tMOST_STAYS tMOST_NUMBER : Tok}
    {nm_BadHouse : Str} {qb_BadHouse : Str} {Nb_BadHouse : Addr} {bs_BadHouse : List Value} {bm_BadHouse : List Value} {sn_BadHouse : List Str} {sub_BadHouse : List Value} {ab_BadHouse : Bool} {col_BadHouse : Option Bool} {dd_BadHouse : Option Addr} {m0_BadHouse : Option Value} {m1_BadHouse : Option Value} {m2_BadHouse : Option Value} {m3_BadHouse : Option Value} {m5_BadHouse : Option Value}
    (T : Top p lo mean mg mb h) (KX : K.In h) (G : h.Ns mainGlobals mg) (hfa : mg "law" = some (.ref fa)) (tr_numbers_can_be : (recsOf p).find? (fun e => e.name == ("_numbers_can_be" : Str)) = some d_numbers_can_be)
    (a_House : PySem.W.nsIn K mainGlobals "House" = some (some (.ref cHouse)))
    (a_AirError : PySem.W.nsIn K mainGlobals "AirError" = some (some (.ref cAirError)))
    (a_BadHouse : PySem.W.nsIn K mainGlobals "BadHouse" = some (some (.ref cBadHouse)))
    (ai_rd : PySem.W.readsIn K cAirError (.type "type") = true)
    (ai_ga : PySem.W.specialIn K (.ref cAirError) "__getattribute__" = some (some (.builtin "type.__getattribute__")))
    (ai_iv : PySem.W.findCls K (.ref cAirError) (.type "type") "__init__" = some (.val (.builtin "ValueError.__init__")))
    (e_BadHouse : ErrF K cBadHouse "BadHouse.__init__" sBadHouse_init)
    (xL_BadHouse : K.lookup cBadHouse = some (excClassObj nm_BadHouse qb_BadHouse cBadHouse Nb_BadHouse bs_BadHouse bm_BadHouse true sn_BadHouse sub_BadHouse ab_BadHouse col_BadHouse dd_BadHouse m0_BadHouse m1_BadHouse m2_BadHouse m3_BadHouse m5_BadHouse "ValueError.__new__"))
    (xR_BadHouse : PySem.HandSPX.refsVE bm_BadHouse = true)
    (f_BadHouse_setattr : PySem.W.findIn K (.ref cBadHouse) "__setattr__" = some (some (.builtin "object.__setattr__")))
    (st_BadHouse_BaseException : PySem.W.subIn K (.ref cBadHouse) (.type "BaseException") = some true)
    (ty_BadHouse : PySem.W.typeIn K (.ref cBadHouse) = some (.type "type"))
    (kp_BadHouse : PySem.W.keepIn K (.ref cBadHouse) = true)
    (f_BadHouse_word : PySem.W.findIn K (.ref cBadHouse) "word" = some none)
    (f_BadHouse_number : PySem.W.findIn K (.ref cBadHouse) "number" = some none)
    (i_House : MetF K cHouse "__init__" "House.__init__" sHouse_init)
    (mk_House : PySem.W.makesIn K cHouse = true)
    (kp_House : PySem.W.keepIn K (.ref cHouse) = true)
    (pg_House : PySem.W.plainGet K cHouse Str.empty = true)
    (hd_House : PySem.W.hasDictIn K cHouse = true)
    (po_House : PySem.W.plainOver K cHouse = true)
    (f_House_setattr : PySem.W.findIn K (.ref cHouse) "__setattr__" = some (some (.builtin "object.__setattr__")))
    (f_House_hours : PySem.W.findIn K (.ref cHouse) "hours" = some none)
    (f_House_rooms_u : PySem.W.findIn K (.ref cHouse) "_rooms" = some none)
    (f_House_doors_u : PySem.W.findIn K (.ref cHouse) "_doors" = some none)
    (f_House_stays_u : PySem.W.findIn K (.ref cHouse) "_stays" = some none)
    (m_House_rooms : MetF K cHouse "rooms" "House.rooms" sHouse_rooms)
    (m_House_doors : MetF K cHouse "doors" "House.doors" sHouse_doors)
    (m_House_stays : MetF K cHouse "stays" "House.stays" sHouse_stays)
    (m_House_use : MetF K cHouse "use" "House.use" sHouse_use)
    (m_House_least : MetF K cHouse "least" "House.least" sHouse_least)
    (m_House__wants : MetF K cHouse "_wants" "House._wants" sHouse__wants)
    (d__check_counts : DefF K "_check_counts" s_check_counts)
    (d__check_parts : DefF K "_check_parts" s_check_parts)
    (d__room_can_be : DefF K "_room_can_be" s_room_can_be)
    (d__door_can_be : DefF K "_door_can_be" s_door_can_be)
    (d__stay_can_be : DefF K "_stay_can_be" s_stay_can_be)
    (aT_numbers_can_be : PySem.W.tabIn K "_numbers_can_be" = some (cN_numbers_can_be, tN_numbers_can_be))
    (nc_numbers_can_be : CodF K "_numbers_can_be" s_numbers_can_be cN_numbers_can_be)
    (g_MOST_HOURS : PySem.W.nsIn K mainGlobals "MOST_HOURS" = some (some (.int 12 tMOST_HOURS)))
    (g_MOST_ROOMS : PySem.W.nsIn K mainGlobals "MOST_ROOMS" = some (some (.int 6 tMOST_ROOMS)))
    (g_MOST_DOORS : PySem.W.nsIn K mainGlobals "MOST_DOORS" = some (some (.int 8 tMOST_DOORS)))
    (g_MOST_STAYS : PySem.W.nsIn K mainGlobals "MOST_STAYS" = some (some (.int 20 tMOST_STAYS)))
    (g_MOST_NUMBER : PySem.W.nsIn K mainGlobals "MOST_NUMBER" = some (some (.int 999 tMOST_NUMBER)))
    (z_all : PySem.W.nsIn K mainGlobals "all" = some none)
    (z_len : PySem.W.nsIn K mainGlobals "len" = some none)
    (z_max : PySem.W.nsIn K mainGlobals "max" = some none)
    (z_sum : PySem.W.nsIn K mainGlobals "sum" = some none)
    (z_list : PySem.W.nsIn K mainGlobals "list" = some none)
    (z_enumerate : PySem.W.nsIn K mainGlobals "enumerate" = some none)
    (d__law_begun : DefF K "_law_begun" s_law_begun)
    (d__law_take : DefF K "_law_take" s_law_take)
    (d__law_alike : DefF K "_law_alike" s_law_alike)
    (z_int : PySem.W.nsIn K mainGlobals "int" = some none)
    (z_bool : PySem.W.nsIn K mainGlobals "bool" = some none)
    (z_str : PySem.W.nsIn K mainGlobals "str" = some none)
    (z_tuple : PySem.W.nsIn K mainGlobals "tuple" = some none)
    (z_isinstance : PySem.W.nsIn K mainGlobals "isinstance" = some none)
    (z_range : PySem.W.nsIn K mainGlobals "range" = some none)
    (d__law_stay : DefF K "_law_stay" s_law_stay)
    (d__law_house : DefF K "_law_house" s_law_house)
    (z_min : PySem.W.nsIn K mainGlobals "min" = some none)
    (d__law_here : DefF K "_law_here" s_law_here)
    (d__law_use : DefF K "_law_use" s_law_use)
    (d__law_least : DefF K "_law_least" s_law_least)
    (d__law_refused : DefF K "_law_refused" s_law_refused)
    (st_AirError_BaseException : PySem.W.subIn K (.ref cAirError) (.type "BaseException") = some true)
    (ic_AirError : PySem.W.isClsIn K cAirError = true)
    (ty_AirError : PySem.W.typeIn K (.ref cAirError) = some (.type "type"))
    (sb_BadHouse_AirError : PySem.W.subIn K (.ref cBadHouse) (.ref cAirError) = some true)
    (f_BadHouse_getattribute : PySem.W.findIn K (.ref cBadHouse) "__getattribute__" = some (some (.builtin "BaseException.__getattribute__")))
    (f_BadHouse_getattr : PySem.W.findIn K (.ref cBadHouse) "__getattr__" = some none)
    (f_BadHouse_class : PySem.W.findIn K (.ref cBadHouse) "__class__" = some (some (.builtin "object.__class__")))
    (sp_class : PySem.W.specialIn K (.builtin "object.__class__") "__get__" = some (some (.builtin "getset_descriptor.__get__")))
    (tk_class : PySem.W.takesIn K (.builtin "object.__class__") = some true)
    (mr_BadHouse : PySem.W.mroIn K cBadHouse (.type "object") = some true)
    (hd_BadHouse : PySem.W.hasDictIn K cBadHouse = true)
    (es_BadHouse : (Value.ref cBadHouse == Value.ref cBadHouse) = true)
    (a_BadPlan : PySem.W.nsIn K mainGlobals "BadPlan" = some (some (.ref cBadPlan)))
    (ne_BadHouse_BadPlan : (Value.ref cBadHouse == Value.ref cBadPlan) = false)
    (ic_BadPlan : PySem.W.isClsIn K cBadPlan = true)
    (ty_BadPlan : PySem.W.typeIn K (.ref cBadPlan) = some (.type "type"))
    (sb_BadHouse_BadPlan : PySem.W.subIn K (.ref cBadHouse) (.ref cBadPlan) = some false)
    (a_BadText : PySem.W.nsIn K mainGlobals "BadText" = some (some (.ref cBadText)))
    (ne_BadHouse_BadText : (Value.ref cBadHouse == Value.ref cBadText) = false)
    (ic_BadText : PySem.W.isClsIn K cBadText = true)
    (ty_BadText : PySem.W.typeIn K (.ref cBadText) = some (.type "type"))
    (sb_BadHouse_BadText : PySem.W.subIn K (.ref cBadHouse) (.ref cBadText) = some false)
    (a_Broken : PySem.W.nsIn K mainGlobals "Broken" = some (some (.ref cBroken)))
    (ne_BadHouse_Broken : (Value.ref cBadHouse == Value.ref cBroken) = false)
    (ic_Broken : PySem.W.isClsIn K cBroken = true)
    (ty_Broken : PySem.W.typeIn K (.ref cBroken) = some (.type "type"))
    (sb_BadHouse_Broken : PySem.W.subIn K (.ref cBadHouse) (.ref cBroken) = some false)
    (a_NoPlan : PySem.W.nsIn K mainGlobals "NoPlan" = some (some (.ref cNoPlan)))
    (ne_BadHouse_NoPlan : (Value.ref cBadHouse == Value.ref cNoPlan) = false)
    (ic_NoPlan : PySem.W.isClsIn K cNoPlan = true)
    (ty_NoPlan : PySem.W.typeIn K (.ref cNoPlan) = some (.type "type"))
    (sb_BadHouse_NoPlan : PySem.W.subIn K (.ref cBadHouse) (.ref cNoPlan) = some false)
    (nt_BadHouse_ValueError : (Value.ref cBadHouse == Value.type "ValueError") = false)
    (vm_ValueError : PySem.W.kitMeta "ValueError" = true)
    (st_BadHouse_ValueError : PySem.W.subIn K (.ref cBadHouse) (.type "ValueError") = some true)
    (z_ValueError : PySem.W.nsIn K mainGlobals "ValueError" = some none)
    (d__law_bad_count : DefF K "_law_bad_count" s_law_bad_count)
    (d__law_wrong : DefF K "_law_wrong" s_law_wrong)
    (d_law : DefF K "law" slaw)
    (tn_numbers_can_be : K.lookup tN_numbers_can_be = none) : LamX.LawAtS l w K CX0 7 63 "_law_script" mg fa h := by
  obtain ⟨ch_numbers_can_be, ct_numbers_can_be⟩ := PySem.W.tab_of T KX tr_numbers_can_be aT_numbers_can_be
  obtain ⟨fd, hb, hF⟩ := fin_mk (P := l.prog) (w := w) KX G hfa a_House a_AirError a_BadHouse ai_rd ai_ga ai_iv e_BadHouse xL_BadHouse xR_BadHouse f_BadHouse_setattr st_BadHouse_BaseException ty_BadHouse kp_BadHouse f_BadHouse_word f_BadHouse_number i_House mk_House kp_House pg_House hd_House po_House f_House_setattr f_House_hours f_House_rooms_u f_House_doors_u f_House_stays_u m_House_rooms m_House_doors m_House_stays m_House_use m_House_least m_House__wants d__check_counts d__check_parts d__room_can_be d__door_can_be d__stay_can_be aT_numbers_can_be nc_numbers_can_be g_MOST_HOURS g_MOST_ROOMS g_MOST_DOORS g_MOST_STAYS g_MOST_NUMBER z_all z_len z_max z_sum z_list z_enumerate d__law_begun d__law_take d__law_alike z_int z_bool z_str z_tuple z_isinstance z_range d__law_stay d__law_house z_min d__law_here d__law_use d__law_least d__law_refused st_AirError_BaseException ic_AirError ty_AirError sb_BadHouse_AirError f_BadHouse_getattribute f_BadHouse_getattr f_BadHouse_class sp_class tk_class mr_BadHouse hd_BadHouse es_BadHouse a_BadPlan ne_BadHouse_BadPlan ic_BadPlan ty_BadPlan sb_BadHouse_BadPlan a_BadText ne_BadHouse_BadText ic_BadText ty_BadText sb_BadHouse_BadText a_Broken ne_BadHouse_Broken ic_Broken ty_Broken sb_BadHouse_Broken a_NoPlan ne_BadHouse_NoPlan ic_NoPlan ty_NoPlan sb_BadHouse_NoPlan nt_BadHouse_ValueError vm_ValueError st_BadHouse_ValueError z_ValueError d__law_bad_count d__law_wrong d_law
  refine ⟨fd, [(cN_numbers_can_be, tN_numbers_can_be)], spLaw K [tN_numbers_can_be], fun p hp => ?_, fun p hp => ?_, fun p hp => ?_, hb, fun H a ns hl _ hT hS => ⟨a, ns, rfl, hS, hl, fun P hP => ?_, fun _ => rfl⟩, fun base hKb hg TB => hF base hKb hg ?_⟩
  · simp only [List.mem_cons, List.mem_nil_iff, or_false] at hp
    have e := hp
    · rw [e]; exact ct_numbers_can_be
  · simp only [List.mem_cons, List.mem_nil_iff, or_false] at hp
    have e := hp
    · rw [e]; exact tn_numbers_can_be
  · simp only [List.mem_cons, List.mem_nil_iff, or_false] at hp
    have e := hp
    · rw [e]; exact ch_numbers_can_be
  · simp only [List.mem_cons, List.mem_nil_iff, or_false] at hP
    have e := hP
    · rw [e]; exact ⟨#[], hT (cN_numbers_can_be, tN_numbers_can_be) (by simp), True.intro⟩
  · have t := TB (cN_numbers_can_be, tN_numbers_can_be) (by simp)
    exact ⟨t.code, t.bm, t.gP⟩
end Cr
open PySem PySem.W PyProof.Rows
set_option maxRecDepth 100000 in
set_option maxHeartbeats 0 in
theorem PySem.Challenge.cw_candleroom_k01_houses_refused_holds : PySem.Challenge.rw_candleroom_k01_houses_refused.Holds := by
  w_on; o_law; k_head; (case hw => w_witness2)
  k_fill
  refine Cr.walk_tab (l := PySem.Challenge.rw_candleroom_k01_houses_refused) (n := 63) (k := 7) (CX := fun _ => L2.CX0) (x := "_law_script") rfl (by decide) rfl ⟨rfl, by decide, by decide⟩ (fun w h Y => PySem.W.kIn_of Y) ?F (fun _ _ _ _ _ z => z)
  case F =>
    intro w s₀ mg mb fa h GG KX G hmg
    refine' Cr.law_at GG.T KX G hmg ?tr_numbers_can_be ?a_House ?a_AirError ?a_BadHouse ?ai_rd ?ai_ga ?ai_iv ?e_BadHouse ?xL_BadHouse ?xR_BadHouse ?f_BadHouse_setattr ?st_BadHouse_BaseException ?ty_BadHouse ?kp_BadHouse ?f_BadHouse_word ?f_BadHouse_number ?i_House ?mk_House ?kp_House ?pg_House ?hd_House ?po_House ?f_House_setattr ?f_House_hours ?f_House_rooms_u ?f_House_doors_u ?f_House_stays_u ?m_House_rooms ?m_House_doors ?m_House_stays ?m_House_use ?m_House_least ?m_House__wants ?d__check_counts ?d__check_parts ?d__room_can_be ?d__door_can_be ?d__stay_can_be ?aT_numbers_can_be ?nc_numbers_can_be ?g_MOST_HOURS ?g_MOST_ROOMS ?g_MOST_DOORS ?g_MOST_STAYS ?g_MOST_NUMBER ?z_all ?z_len ?z_max ?z_sum ?z_list ?z_enumerate ?d__law_begun ?d__law_take ?d__law_alike ?z_int ?z_bool ?z_str ?z_tuple ?z_isinstance ?z_range ?d__law_stay ?d__law_house ?z_min ?d__law_here ?d__law_use ?d__law_least ?d__law_refused ?st_AirError_BaseException ?ic_AirError ?ty_AirError ?sb_BadHouse_AirError ?f_BadHouse_getattribute ?f_BadHouse_getattr ?f_BadHouse_class ?sp_class ?tk_class ?mr_BadHouse ?hd_BadHouse ?es_BadHouse ?a_BadPlan ?ne_BadHouse_BadPlan ?ic_BadPlan ?ty_BadPlan ?sb_BadHouse_BadPlan ?a_BadText ?ne_BadHouse_BadText ?ic_BadText ?ty_BadText ?sb_BadHouse_BadText ?a_Broken ?ne_BadHouse_Broken ?ic_Broken ?ty_Broken ?sb_BadHouse_Broken ?a_NoPlan ?ne_BadHouse_NoPlan ?ic_NoPlan ?ty_NoPlan ?sb_BadHouse_NoPlan ?nt_BadHouse_ValueError ?vm_ValueError ?st_BadHouse_ValueError ?z_ValueError ?d__law_bad_count ?d__law_wrong ?d_law ?tn_numbers_can_be
    (case aT_numbers_can_be => first | rfl | kernel_rfl)
    (case tr_numbers_can_be => rfl)
    (case tn_numbers_can_be => first | kernel_rfl | rfl)
    (case a_House => k_is)
    (case a_AirError => k_is)
    (case a_BadHouse => k_is)
    (case ai_rd => k_is)
    (case ai_ga => k_is)
    (case ai_iv => k_is)
    (case e_BadHouse => (refine' Cr.ErrF.mk ?za ?zi ?zl ?zc ?zk; (case za => k_is); (case zi => k_is); (case zl => k_is); (case zc => k_is); (case zk => k_is)))
    (case xL_BadHouse => k_is)
    (case xR_BadHouse => decide +kernel)
    (case f_BadHouse_setattr => k_is)
    (case st_BadHouse_BaseException => k_is)
    (case ty_BadHouse => k_is)
    (case kp_BadHouse => k_is)
    (case f_BadHouse_word => k_is)
    (case f_BadHouse_number => k_is)
    (case i_House => (refine' Cr.MetF.mk ?za ?zi ?zl ?zc ?zk; (case za => k_is); (case zi => k_is); (case zl => k_is); (case zc => k_is); (case zk => k_is)))
    (case mk_House => k_is)
    (case kp_House => k_is)
    (case pg_House => k_is)
    (case hd_House => k_is)
    (case po_House => k_is)
    (case f_House_setattr => k_is)
    (case f_House_hours => k_is)
    (case f_House_rooms_u => k_is)
    (case f_House_doors_u => k_is)
    (case f_House_stays_u => k_is)
    (case m_House_rooms => (refine' Cr.MetF.mk ?za ?zi ?zl ?zc ?zk; (case za => k_is); (case zi => k_is); (case zl => k_is); (case zc => k_is); (case zk => k_is)))
    (case m_House_doors => (refine' Cr.MetF.mk ?za ?zi ?zl ?zc ?zk; (case za => k_is); (case zi => k_is); (case zl => k_is); (case zc => k_is); (case zk => k_is)))
    (case m_House_stays => (refine' Cr.MetF.mk ?za ?zi ?zl ?zc ?zk; (case za => k_is); (case zi => k_is); (case zl => k_is); (case zc => k_is); (case zk => k_is)))
    (case m_House_use => (refine' Cr.MetF.mk ?za ?zi ?zl ?zc ?zk; (case za => k_is); (case zi => k_is); (case zl => k_is); (case zc => k_is); (case zk => k_is)))
    (case m_House_least => (refine' Cr.MetF.mk ?za ?zi ?zl ?zc ?zk; (case za => k_is); (case zi => k_is); (case zl => k_is); (case zc => k_is); (case zk => k_is)))
    (case m_House__wants => (refine' Cr.MetF.mk ?za ?zi ?zl ?zc ?zk; (case za => k_is); (case zi => k_is); (case zl => k_is); (case zc => k_is); (case zk => k_is)))
    (case d__check_counts => (refine' Cr.DefF.mk ?za ?zl ?zc ?zk; (case za => k_is); (case zl => k_is); (case zc => k_is); (case zk => k_is)))
    (case d__check_parts => (refine' Cr.DefF.mk ?za ?zl ?zc ?zk; (case za => k_is); (case zl => k_is); (case zc => k_is); (case zk => k_is)))
    (case d__room_can_be => (refine' Cr.DefF.mk ?za ?zl ?zc ?zk; (case za => k_is); (case zl => k_is); (case zc => k_is); (case zk => k_is)))
    (case d__door_can_be => (refine' Cr.DefF.mk ?za ?zl ?zc ?zk; (case za => k_is); (case zl => k_is); (case zc => k_is); (case zk => k_is)))
    (case d__stay_can_be => (refine' Cr.DefF.mk ?za ?zl ?zc ?zk; (case za => k_is); (case zl => k_is); (case zc => k_is); (case zk => k_is)))
    (case nc_numbers_can_be => (refine' Cr.CodF.mk ?za ?zl ?zc ?zk; (case za => k_is); (case zl => k_is); (case zc => k_is); (case zk => k_is)))
    (case g_MOST_HOURS => k_is)
    (case g_MOST_ROOMS => k_is)
    (case g_MOST_DOORS => k_is)
    (case g_MOST_STAYS => k_is)
    (case g_MOST_NUMBER => k_is)
    (case z_all => k_is)
    (case z_len => k_is)
    (case z_max => k_is)
    (case z_sum => k_is)
    (case z_list => k_is)
    (case z_enumerate => k_is)
    (case d__law_begun => (refine' Cr.DefF.mk ?za ?zl ?zc ?zk; (case za => k_is); (case zl => k_is); (case zc => k_is); (case zk => k_is)))
    (case d__law_take => (refine' Cr.DefF.mk ?za ?zl ?zc ?zk; (case za => k_is); (case zl => k_is); (case zc => k_is); (case zk => k_is)))
    (case d__law_alike => (refine' Cr.DefF.mk ?za ?zl ?zc ?zk; (case za => k_is); (case zl => k_is); (case zc => k_is); (case zk => k_is)))
    (case z_int => k_is)
    (case z_bool => k_is)
    (case z_str => k_is)
    (case z_tuple => k_is)
    (case z_isinstance => k_is)
    (case z_range => k_is)
    (case d__law_stay => (refine' Cr.DefF.mk ?za ?zl ?zc ?zk; (case za => k_is); (case zl => k_is); (case zc => k_is); (case zk => k_is)))
    (case d__law_house => (refine' Cr.DefF.mk ?za ?zl ?zc ?zk; (case za => k_is); (case zl => k_is); (case zc => k_is); (case zk => k_is)))
    (case z_min => k_is)
    (case d__law_here => (refine' Cr.DefF.mk ?za ?zl ?zc ?zk; (case za => k_is); (case zl => k_is); (case zc => k_is); (case zk => k_is)))
    (case d__law_use => (refine' Cr.DefF.mk ?za ?zl ?zc ?zk; (case za => k_is); (case zl => k_is); (case zc => k_is); (case zk => k_is)))
    (case d__law_least => (refine' Cr.DefF.mk ?za ?zl ?zc ?zk; (case za => k_is); (case zl => k_is); (case zc => k_is); (case zk => k_is)))
    (case d__law_refused => (refine' Cr.DefF.mk ?za ?zl ?zc ?zk; (case za => k_is); (case zl => k_is); (case zc => k_is); (case zk => k_is)))
    (case st_AirError_BaseException => k_is)
    (case ic_AirError => k_is)
    (case ty_AirError => k_is)
    (case sb_BadHouse_AirError => k_is)
    (case f_BadHouse_getattribute => k_is)
    (case f_BadHouse_getattr => k_is)
    (case f_BadHouse_class => k_is)
    (case sp_class => k_is)
    (case tk_class => k_is)
    (case mr_BadHouse => k_is)
    (case hd_BadHouse => k_is)
    (case es_BadHouse => first | rfl | decide)
    (case a_BadPlan => k_is)
    (case ne_BadHouse_BadPlan => first | rfl | decide)
    (case ic_BadPlan => k_is)
    (case ty_BadPlan => k_is)
    (case sb_BadHouse_BadPlan => k_is)
    (case a_BadText => k_is)
    (case ne_BadHouse_BadText => first | rfl | decide)
    (case ic_BadText => k_is)
    (case ty_BadText => k_is)
    (case sb_BadHouse_BadText => k_is)
    (case a_Broken => k_is)
    (case ne_BadHouse_Broken => first | rfl | decide)
    (case ic_Broken => k_is)
    (case ty_Broken => k_is)
    (case sb_BadHouse_Broken => k_is)
    (case a_NoPlan => k_is)
    (case ne_BadHouse_NoPlan => first | rfl | decide)
    (case ic_NoPlan => k_is)
    (case ty_NoPlan => k_is)
    (case sb_BadHouse_NoPlan => k_is)
    (case nt_BadHouse_ValueError => first | rfl | decide)
    (case vm_ValueError => first | rfl | decide +kernel)
    (case st_BadHouse_ValueError => k_is)
    (case z_ValueError => k_is)
    (case d__law_bad_count => (refine' Cr.DefF.mk ?za ?zl ?zc ?zk; (case za => k_is); (case zl => k_is); (case zc => k_is); (case zk => k_is)))
    (case d__law_wrong => (refine' Cr.DefF.mk ?za ?zl ?zc ?zk; (case za => k_is); (case zl => k_is); (case zc => k_is); (case zk => k_is)))
    (case d_law => (refine' Cr.DefF.mk ?za ?zl ?zc ?zk; (case za => k_is); (case zl => k_is); (case zc => k_is); (case zk => k_is)))
