import PyProof.Rows.All
import Wide.All
import OpenK.AllK
import Wide.FinOn
import KE.KExcSuper
import KE.KExcMake
import HandS.ForExc
import HandS.ExcInit
import HandS.ExcValue
import HandS.ExcIs
import KE.KExcIs
import HandS.ExcField
import HandS.IsInst
import HandS.TryMany
import PyProof.ReprRoads
import PyProof.ReprLen
import HandS.Dict
import PyProof.StrBlock2
import HandS.ForMost
import HandS.Codes
import HandS.StrMore
import HandS.TupMul
import HandS.Style
import HandS.TupAny
import HandS.Zip
import PyProof.Rows.StrRev
import KE.GoesEnum
import HandS.OwnEq
import HandS.TryOnly
import PySem.Challenge.RW_everypiece_k01_libraries_judged
set_option Elab.async false
set_option linter.all false
set_option maxRecDepth 100000
set_option maxHeartbeats 4000000
/-! Own errors whose __init__ says super().__init__() and nothing else. -/
namespace Ev
open PySem PySem.W PySem.Calls PyProof.Rows L2

abbrev supArgs (p : Pos) : Arguments := { posonlyargs := [], args := [{ arg := "self", annotation := none, pos := p }], vararg := none, kwonlyargs := [], kw_defaults := [], kwarg := none, defaults := [] }
abbrev supBody (p0 p1 p2 p3 p4 : Pos) : List Stmt := [.Expr (.Call (.Attribute (.Call (.Name "super" p0) [] [] p1) "__init__" p2) [] [] p3) p4]

abbrev supScope : Scope := { kind := .function, names := [(PySem.Str.ofString "self", .local), (PySem.Str.ofString "__class__", .free), (PySem.Str.ofString "super", .globalImplicit)], isGenerator := false, isCoroutine := false, more := [] }
theorem sup_l1 : supScope.names.lookup ("self" : Str) = some .local := by decide +kernel
theorem sup_l2 : supScope.names.lookup ("super" : Str) = some .globalImplicit := by decide +kernel
theorem sup_l3 : supScope.names.lookup ("__class__" : Str) = some .free := by decide +kernel
/-- what the written part tells of such a class at C, whose __init__ stands at fI -/
structure SupC (P : Program) (K : Frag) (mg : Str → Option Value) (C fI : Addr) : Prop where
  oex : OexC K C
  ini : findIn K (.ref C) "__init__" = some (some (.ref fI))
  tyI : typeIn K (.ref fI) = some (.type "function")
  fn : ∃ (oc : Value) (od : Option Addr) (qual : Str) (kV doc pm ct : Value) (an : Option Addr) (cda cc : Addr) (osl : Array (Option Value)) (p p0 p1 p2 p3 p4 : Pos) (ccl : Value) (cdd : Option Addr) (vs : Array Value) (ccs : Array (Option Value)) (file : Str) (tf : Tok) (cl : Value) (cld : Option Addr) (csl : Array (Option Value)),
    K.lookup fI = some ⟨oc, od, .func (ksFn "__init__" qual (supArgs p) (supBody p0 p1 p2 p3 p4) supScope .none kV doc pm an (.ref cda) ct cc), osl⟩ ∧ codeIn K (.ref cda) qual = true ∧
    K.lookup cda = some ⟨ccl, cdd, .fields vs, ccs⟩ ∧ vs[2]? = some (.str file tf) ∧ ((P.main.file : Str) == file) = true ∧ K.lookup cc = some ⟨cl, cld, .cell (some (.ref C)), csl⟩ ∧
    (p2.endLine == p3.line) = true
  gs : mg "super" = none
  top : (P.main.scope.names.lookup ("super" : Str)).isSome = false
  third : nsIn K cStatics "thirdparty.any" = some none
  sup : ks_superIn K C C "__init__" = some (some (.builtin "ValueError.__init__"))
  ve : subIn K (.ref C) (.type "ValueError") = some true
  me : mroIn K C (.ref C) = some true

theorem sup_eval {env : Env} {p0 p1 p2 p3 : Pos} (h : (p2.endLine == p3.line) = true) : eval (.Call (.Attribute (.Call (.Name "super" p0) [] [] p1) "__init__" p2) [] [] p3) env = (do
      let ov ← attributeBase (.Call (.Name "super" p0) [] [] p1) "__init__" env (eval (.Call (.Name "super" p0) [] [] p1) env)
      standAt p2.atName
      let (f, first) ← holding [ov] (getMethod ov "__init__" (do return (← importBound (.Call (.Name "super" p0) [] [] p1) env).getD true))
      callWith p3 f first (backTo p3 (starEach [] env)) []) := by
  have e : methodCallPos true (.Call (.Name "super" p0) [] [] p1) env p2 p3 = pure p3 := by
    unfold methodCallPos
    rw [h]
    rfl
  show (do
    let ov ← attributeBase (.Call (.Name "super" p0) [] [] p1) "__init__" env (eval (.Call (.Name "super" p0) [] [] p1) env)
    standAt p2.atName
    let (f, first) ← holding [ov] (getMethod ov "__init__" (do return (← importBound (.Call (.Name "super" p0) [] [] p1) env).getD true))
    let callPos ← methodCallPos true (.Call (.Name "super" p0) [] [] p1) env p2 p3
    callWith callPos f first (backTo p3 (starEach [] env)) []) = _
  rw [e]
  rfl
theorem boot_super : bootBuiltins "super" = some (.type "super") := by first | boot_by_name | rfl | kernel_rfl

section
variable {P : Program} {w : World} {A : Around} {E : Value → Shared → Prop} {K : Frag} {mg mb : Str → Option Value} {C fI x t0 : Addr} {h : Heap} {g : Array GenState} {d : Drawn} {tk : Nat} {os : OsState}

/-- the wrapper that super().__init__ gives, called: the args are laid anew -/
theorem bound_init {u : Addr} {Q : Value → Shared → Prop} (T : OexC K C) (X : K.In h) (hu : h.get? u = some (kxs_mw "ValueError.__init__" x)) (hx : h.get? x = some (PySem.HandSPX.excO C t0))
    (hq : ∀ h' t1, (∀ b o, b ≠ x → h.get? b = some o → h'.get? b = some o) → h'.get? x = some (PySem.HandSPX.excO C t1) → Q .none ⟨h', g, d, tk, os⟩) :
    wpAny (model P w) A (call (.ref u) []) Q E ⟨h, g, d, tk, os⟩ := by
  obtain ⟨nm, q, N, bs, bm, sn, sub, ab, col, dd, k0, k1, k2, k3, k5, hC, hbm⟩ := T.cls
  refine wpAny_call (codeAny_of_tree ?_)
  show wpAny _ A.in1 (callAny (.ref u) ⟨[], []⟩) _ _ _
  simp only [callAny]
  refine wpAny_bind (wpAny_load hu ?_)
  simp only [kxs_mw, show (Value.type "method-wrapper" == Value.type "method" || Value.type "method-wrapper" == Value.type "builtin_function_or_method" || Value.type "method-wrapper" == Value.type "method-wrapper") = true by decide, if_true]
  refine KFB.if_so (by decide) ?_
  refine wpAny_bind (check_bound_init F.excBase_ValueError.toExcCallFacts (X _ _ hC) hx rfl ?_)
  refine wpAny_bind (wpAny_pure (wpAny_pure ?_))
  refine ⟨plainId_quiet F.excBase_ValueError.init.plain _, codeAny_builtin F.excBase_ValueError.initEntry ?_⟩
  exact exc_init_tree (cls := .ref C) (t0 := t0) (dv := none) (c2 := .none) (c3 := .none) (b4 := .bool false) hx (by rw [sizeLine_eq]; exact Nat.zero_le _) fun h' k e _ => hq h' h.objs.size k e

theorem sup_init {R : Result → Shared → Prop} {s : Shared} (T : SupC P K mg C fI) (hroom : A.depth < recursionLimit) (X : K.In s.heap) (hlim : s.heap.NoLimit) (G : s.heap.Ns mainGlobals mg) (B : s.heap.Ns builtinsNs mb)
    (hbb : ∀ y : Str, y ≠ "__name__" → mb y = bootBuiltins y) (hx : s.heap.get? x = some (PySem.HandSPX.excO C t0))
    (hq : ∀ h' t' t1, (∀ b o, b ≠ x → s.heap.get? b = some o → h'.get? b = some o) → h'.get? x = some (PySem.HandSPX.excO C t1) → R (.ok (.ret .none)) { s with heap := h', toks := t' }) :
    codeAny (model P w) A (.call (.ref fI) ⟨[.ref x], []⟩) R s := by
  obtain ⟨oc, od, qual, kV, doc, pm, ct, an, cda, cc, osl, p, p0, p1, p2, p3, p4, ccl, cdd, vs, ccs, file, tf, cl, cld, csl, ho, hcd, hcode, hvs, hfile, hcell, hline⟩ := T.fn
  refine ks_codeAny_call_defAt (fd := ksFn "__init__" qual (supArgs p) (supBody p0 p1 p2 p3 p4) supScope .none kV doc pm an (.ref cda) ct cc) (body := supBody p0 p1 p2 p3 p4) (binds := [("self", .ref x)]) hroom (X _ _ ho) rfl hlim (codeRec_of X hcd) rfl
    (BindsTo.of_eq rfl) (by show ∀ y ∈ supScope.names, y.2 ≠ .cell; decide) (fun y hy => ?_) (fun h₁ hns k₁ => ?_)
  · obtain rfl : y = (("self" : Str), Value.ref x) := List.mem_singleton.mp hy
    exact sup_l1
  obtain ⟨hp, g, d, tk, os⟩ := s
  have X₁ : K.In h₁ := X.keeps k₁
  have hx₁ : h₁.get? x = some (PySem.HandSPX.excO C t0) := k₁ _ _ hx
  have G₁ : h₁.Ns mainGlobals mg := G.keeps k₁
  have B₁ : h₁.Ns builtinsNs mb := B.keeps k₁
  obtain ⟨nm, q, N, bs, bm, sn, sub, ab, col, dd, q0, q1, q2, q3, q5, hC, hbm⟩ := T.oex.cls
  show _root_.PySem.wpAt _ _ _ (execs (supBody p0 p1 p2 p3 p4) (ksEnv qual supScope hp.objs.size fI (.ref cda) cc)) _ _ _
  refine ks_wpAt_execs_cons (ks_wpAt_Expr_any (ks_wpAt_MethodCall ?_ (sup_eval hline)))
  refine ks_wpAt_super_base (env := ksEnv qual supScope hp.objs.size fI (.ref cda) cc) sup_l2 sup_l3 (by decide) rfl (X₁ _ _ ho) rfl rfl rfl (X₁ _ _ hcode) rfl hvs hfile T.top ?_
  refine ks_loadName_global rfl sup_l2 (loadGlobal_builtin (env := ksEnv qual supScope hp.objs.size fI (.ref cda) cc) G₁ T.gs B₁ ((hbb _ (by decide +kernel)).trans boot_super) ⟨rfl, ?_⟩)
  refine wpAny_loadName_free rfl sup_l3 rfl ⟨_, X₁ _ _ hcell, rfl⟩ ?_
  refine wpAny_loadName_local rfl sup_l1 hns (v := .ref x) (by show List.lookup ("self" : Str) [(("self" : Str), Value.ref x)] = some (Value.ref x); simp [List.lookup]) ?_
  refine ks_wpAny_isType_cls (X₁ _ _ hC) rfl ⟨rfl, ?_⟩
  have I : InstAt h₁ x (PySem.HandSPX.excO C t0) C none := ⟨hx₁, rfl, rfl, trivial⟩
  refine ks_wpAny_call_super (X₁ _ _ hC) rfl I.at_ I.cls (fun c e => by cases e) (looks_mroIn X₁ T.me) (fun h' e k => ?_)
  have X₂ : K.In h' := X₁.keeps k
  have hx₂ : h'.get? x = some (PySem.HandSPX.excO C t0) := k _ _ hx₁
  have I₂ : InstAt h' x (PySem.HandSPX.excO C t0) C none := ⟨hx₂, rfl, rfl, trivial⟩
  have hsu := T.sup
  unfold ks_superIn at hsu
  have hcl : clsIn K C = some { name := nm, bases := bs, mro := .ref C :: bm, ns := N, qualname := q, hasDict := true, slotNames := sn, subclasses := sub, abstract := ab, collection := col, hasDel := false } := by unfold clsIn; rw [hC] <;> rfl
  rw [hcl] at hsu
  refine kxs_getMethod kxs_ValueError e (looks_opaque X₂ T.third) (l₀ := .ref C :: bm) ?_ rfl X₂ hsu (I₂.type.andThen (looks_subIn X₂ T.ve)) (ks_ne X₂ I₂ hcl) (by decide) ?_
  · exact fun A Q E s k q => wpAny_bind ((looks_clsIn X₂ hcl) A _ E s k (wpAny_pure q))
  have hne : h'.objs.size ≠ x := Nat.ne_of_gt (Heap.lt_size hx₂)
  have k2 : ∀ b o, h'.get? b = some o → (h'.push (kxs_mw "ValueError.__init__" x)).get? b = some o := fun b o z => Heap.get?_push_of_some _ z
  have hmw : (h'.push (kxs_mw "ValueError.__init__" x)).get? h'.objs.size = some (kxs_mw "ValueError.__init__" x) := Heap.get?_push_at rfl rfl
  refine kxs_callWith (i := "ValueError.__init__") (x := x) rfl (evalArgs_empty ⟨hmw, ?_⟩)
  refine bound_init T.oex (X₂.keeps k2) hmw (k2 _ _ hx₂) fun h3 t1 k3 hx3 => ?_
  exact wpAt_of_wpAny (wpAny_execs_nil (hq h3 _ t1 (fun b o hb z => k3 b o hb (k2 b o (k b o (k₁ b o z)))) hx3))
end
end Ev
set_option maxHeartbeats 4000000
/-! Rules for own errors as values: made, asked by isinstance, their fields read. -/
namespace Ev
open PySem PySem.Spec PyProof.Rows L2

section
variable {X : Cx} {x : Str} {C fI : Addr} {p pos : Pos}
theorem make_room {k : Nat} {A : Around} (hr : Room k A) {us : List Value} : (A.under (.builtin "type.__call__" ⟨.ref C :: us, []⟩)).depth < recursionLimit := by
  rw [make_depth]
  have := hr.dp
  omega
/-- C() of a class whose __init__ is super().__init__(): what stands behind it -/
theorem run_exc0 {pins : List (Addr × Obj)} {s : Shared} {σ : L2.St} {H : Hp} {k : Nat} {Q : Value → Shared → Prop} (T : SupC X.prog X.K X.mg C fI) (hr : Room k X.A) (I : Inv X pins σ H s)
    (h : ∀ h' tk a t1, s.heap.objs.size ≤ a → (∀ b o, s.heap.get? b = some o → h'.get? b = some o) → h'.get? a = some (PySem.HandSPX.excO C t1) → Q (.ref a) { s with heap := h', toks := tk }) :
    wpAny (model X.prog X.w) X.A (call (.ref C) []) Q X.xe s := by
  obtain ⟨nm, q, N, bs, bm, sn, sub, ab, col, dd, k0, k1, k2, k3, k5, hC, hbm⟩ := T.oex.cls
  obtain ⟨mb, hb1, hb2⟩ := I.mod.blt
  have kX := I.kIn
  have lim := I.nolimit
  have g1 := I.mod.glob.keeps I.bk
  have b1 := hb1.keeps I.bk
  obtain ⟨hp, g, dr, tk, os⟩ := s
  have kk : ∀ b o, hp.get? b = some o → ((hp.push (PySem.W.kdv_tup [])).push (PySem.HandSPX.excO C hp.objs.size)).get? b = some o := fun b o e => Heap.get?_push_of_some _ (Heap.get?_push_of_some _ e)
  have hget : ((hp.push (PySem.W.kdv_tup [])).push (PySem.HandSPX.excO C hp.objs.size)).get? (hp.objs.size + 1) = some (PySem.HandSPX.excO C hp.objs.size) := by heap_get
  refine wpAny_call (PySem.HandSPX.call_own F.excBase_ValueError (fun Y => PySem.HandSPX.refsVE_contains Y bm hbm) (kX _ _ hC) (PySem.W.looks_findIn kX T.ini) (fun self => PySem.W.bind_fn kX self T.tyI) (by rw [sizeLine_eq]; exact Nat.zero_le _)
    (sup_init (s := ⟨(hp.push (PySem.W.kdv_tup [])).push (PySem.HandSPX.excO C hp.objs.size), g, dr, tk, os⟩) T (make_room hr) (kX.keeps kk) (lim.keeps kk) (g1.keeps kk) (b1.keeps kk) hb2 hget fun h' t' t1 k' hx => ⟨rfl, ?_⟩))
  exact h h' t' (hp.objs.size + 1) t1 (Nat.le_succ _) (fun b o e => k' b o (Nat.ne_of_lt (Nat.lt_succ_of_lt (Heap.lt_size e))) (kk b o e)) hx
def tExc0 (C : Addr) : TE := fun _ H Q => ∀ a, H a = none → Q (.ref a) (upd H a (exo a C none))
theorem pe_exc0 {k : Nat} (T : SupC X.prog X.K X.mg C fI) (hr : Room k X.A) (hg : Gl X x) (hm : X.mg x = some (.ref C)) (hdb : (x == ("__debug__" : Str)) = false := by decide) : PE X (.Call (.Name x p) [] [] pos) (tExc0 C) := by
  refine ⟨fun pins s σ H Q I h => ?_⟩
  refine wpAny_Call_Name_kw (ld_glob I hg hm ?_ hdb)
  refine PySem.W.callWith_K0 I.kIn T.oex.kC ?_
  show wpAny _ _ (call (.ref C) []) _ _ _
  refine run_exc0 T hr I fun h' tk a t1 ha k e => ?_
  exact ⟨.ref a, upd H a (exo a C none), I.laid k ha (exo_ok e), rfl, h a (I.hok.fresh ha)⟩
/-- raised at once -/
theorem pmk_exc0 {k : Nat} (T : SupC X.prog X.K X.mg C fI) (hr : Room k X.A) (hg : Gl X x) (hm : X.mg x = some (.ref C)) (hdb : (x == ("__debug__" : Str)) = false := by decide) : PMk X (.Call (.Name x p) [] [] pos) (fun _ H Q => Q (.ref C) none H) := by
  intro pins s σ H Q I h
  refine wpAny_Call_Name_kw (ld_glob I hg hm ?_ hdb)
  refine PySem.W.callWith_K0 I.kIn T.oex.kC ?_
  show wpAny _ _ (call (.ref C) []) _ _ _
  refine run_exc0 T hr I fun h' tk a t1 ha k e => ?_
  refine ⟨a, _, _, s, H, .ref C, none, rfl, I, k, ?_, e, ⟨rfl, rfl⟩, rfl, rfl, I.hok.fresh ha, rfl, I.bare, raises_own T.oex.exC T.oex.tyC, h⟩
  exact Heap.get?_none_of_le ha
end

/-! ### __init__(self, f): self.f = f -/
structure Ini1 (st : Stmt) (f : Str) : Prop where
  body : ∃ q1 q2 q3 q4, defBody st = [.Assign [.Attribute (.Name "self" q1) f q2] (.Name f q3) q4]
  sc : FnScope ["self", f] ["self", f] (defScope st)
  l0 : (defScope st).names.lookup ("self" : Str) = some .local
  l1 : (defScope st).names.lookup f = some .local
  d1 : (f == ("__debug__" : Str)) = false
  d2 : (f == ("__classdict__" : Str)) = false
def spIni1 (C : Addr) (f : Str) : Sp := fun vs H Q _ => ∃ (a : Addr) (v : V), vs = [.ref a, v] ∧ H a = some (exo a C none) ∧ ∀ dx, H dx = none → dx ≠ a → Q .non (upd (upd H dx (exd dx [(f, v)])) a (exo a C (some dx)))
section
variable {P : Program} {w : World} {K : PySem.W.Frag} {mg : Str → Option Value} {base : Heap} {C : Addr}
theorem ok_ini1 {qual f : Str} {st : Stmt} {fI : Addr} {fd : FuncData} (F : Fun K "__init__" qual st fI fd) (S : Ini1 st f) (T : OexC K C) (hno : PySem.W.findIn K (.ref C) f = some none) : FnOk P w K mg base CX0 1 fI fd ["self", f] (spIni1 C f) := by
  refine F.ok S.sc (fun vs H Q E h => ?_) (fun cdv A outer s H vs Q E hr h => ?_)
  · obtain ⟨a, v, rfl, _⟩ := h
    rfl
  · obtain ⟨a, v, rfl, ha, q⟩ := h
    obtain ⟨q1, q2, q3, q4, hb⟩ := S.body
    rw [hb]
    refine ⟨_, pss_one (ps_ost (pv 0 rfl (.inl S.l0)) (pv 1 rfl (.inl S.l1) S.d1 S.d2)), ?_⟩
    exact ⟨v, rfl, .ref a, rfl, a, C, rfl, T, hno, .inl ⟨ha, fun dx n ne => q dx n ne⟩⟩
end
theorem upd3 {H : Hp} {a d : Addr} {o1 o2 o3 : HO} (h : d ≠ a) : upd (upd (upd H a o1) d o2) a o3 = upd (upd H d o2) a o3 := by
  funext b
  by_cases e : b = a
  · rw [e, upd_same, upd_same]
  · rw [upd_ne e, upd_ne e]
    by_cases e2 : b = d
    · rw [e2, upd_same, upd_same]
    · rw [upd_ne e2, upd_ne e2, upd_ne e]
def tExc1 (C : Addr) (f : Str) (ta : TA) : TE := fun σ H Q => ta σ H fun vs H1 => ∃ v, vs = [v] ∧ ∀ a d, H1 a = none → H1 d = none → d ≠ a → Q (.ref a) (upd (upd H1 d (exd d [(f, v)])) a (exo a C (some d)))
section
variable {X : Cx} {x f : Str} {C fI : Addr} {p pos : Pos} {e : Expr} {ta : TA} {fd : FuncData}
theorem pe_exc1 {k : Nat} (T : OexC X.K C) (iC : PySem.W.findIn X.K (.ref C) "__init__" = some (some (.ref fI))) (tI : PySem.W.typeIn X.K (.ref fI) = some (.type "function")) (F1 : FnOk X.prog X.w X.K X.mg X.base CX0 1 fI fd ["self", f] (spIni1 C f)) (hr : Room (k + 2) X.A)
    (hb : Binds X.K fd ["self", f] []) (hg : Gl X x) (hm : X.mg x = some (.ref C)) (ha : PA X [e] ta) (hdb : (x == ("__debug__" : Str)) = false := by decide) (he : starEach (e :: []) X.env = (false, eval e X.env) :: starEach [] X.env := by rfl)
    (hpl : (backTo pos (starEach [] X.env)).any (·.1) = false := by rfl) : PE X (.Call (.Name x p) [e] [] pos) (tExc1 C f ta) := by
  refine ⟨fun pins s σ H Q I h => ?_⟩
  obtain ⟨nm, q, N, bs, bm, sn, sub, ab, col, dd, k0, k1, k2, k3, k5, hC, hbm⟩ := T.cls
  refine wpAny_Call_Name_kw (ld_glob I hg hm ?_ hdb)
  refine PySem.W.callWith_K (h₀ := X.base) I.ok.mod.kin T.kC (thn (ha.run pos pins s σ H _ I h) fun us s1 ⟨vs, H1, I1, r1, v, ev, q1⟩ => ⟨I1.kIn, ?_⟩) he hpl
  subst ev
  show wpAny _ _ (call (.ref C) us) _ _ _
  obtain ⟨hp, g, dr, tk, os⟩ := s1
  have hsz : hp.objs.size ≤ hp.objs.size + 1 := Nat.le_succ _
  have hn : H1 (hp.objs.size + 1) = none := I1.hok.fresh hsz
  have kk : ∀ b o, hp.get? b = some o → ((hp.push (PySem.W.kdv_tup us)).push (PySem.HandSPX.excO C hp.objs.size)).get? b = some o := fun b o e => Heap.get?_push_of_some _ (Heap.get?_push_of_some _ e)
  have hget : ((hp.push (PySem.W.kdv_tup us)).push (PySem.HandSPX.excO C hp.objs.size)).get? (hp.objs.size + 1) = some (PySem.HandSPX.excO C hp.objs.size) := by heap_get
  have I2 : Inv X pins σ (upd H1 (hp.objs.size + 1) (exo (hp.objs.size + 1) C none)) ⟨(hp.push (PySem.W.kdv_tup us)).push (PySem.HandSPX.excO C hp.objs.size), g, dr, tk, os⟩ :=
    I1.laid (t' := tk) (a := hp.objs.size + 1) (o := exo (hp.objs.size + 1) C none) (h' := (hp.push (PySem.W.kdv_tup us)).push (PySem.HandSPX.excO C hp.objs.size)) kk hsz (exo_ok hget)
  have r2 : Vals [V.ref (hp.objs.size + 1), v] (Value.ref (hp.objs.size + 1) :: us) := .cons rfl r1
  have hl1 : us.length = 1 := by rw [← Paired.length r1] <;> rfl
  have hl : (Value.ref (hp.objs.size + 1) :: us ++ []).length = (["self", f] : List Str).length := by
    rw [List.append_nil, List.length_cons, hl1] <;> rfl
  have hus : us.length ≤ sizeLine := by
    rw [hl1, sizeLine_eq]
    omega
  have b2 := hb _ (Value.ref (hp.objs.size + 1) :: us) I2.kIn hl
  rw [List.append_nil] at b2
  have hq : spIni1 C f [V.ref (hp.objs.size + 1), v] (upd H1 (hp.objs.size + 1) (exo (hp.objs.size + 1) C none)) (fun z H2 => z = .non ∧ Q (.ref (hp.objs.size + 1)) H2) E0 := by
    refine ⟨_, v, rfl, upd_same, fun dx n ne => ⟨rfl, ?_⟩⟩
    rw [upd_ne ne] at n
    rw [upd3 ne]
    exact q1 _ dx hn n ne
  refine wpAny_call (PySem.HandSPX.call_own F.excBase_ValueError (fun Y => PySem.HandSPX.refsVE_contains Y bm hbm) (I1.kIn _ _ hC) (PySem.W.looks_findIn I1.kIn iC) (fun self => PySem.W.bind_fn I1.kIn self tI) hus
    (codeAny_mono (F1.run _ X.stack _ _ ⟨Value.ref (hp.objs.size + 1) :: us, []⟩ (Value.ref (hp.objs.size + 1) :: us) _ _ E0 ((hr.mono (by omega : 1 + 1 ≤ k + 2)).make C us []) (I2.env0.make C us []) b2 r2 hq) fun r s' hq' => ?_))
  cases r with
  | error er => exact False.elim hq'
  | ok fl =>
    cases fl with
    | ret u =>
      obtain ⟨z, H', I3, rz, ez, q3⟩ := I2.after hq'
      subst ez
      exact ⟨rz, ⟨V.ref (hp.objs.size + 1), H', I3, rfl, q3⟩⟩
    | next => exact False.elim hq'
    | brk => exact False.elim hq'
    | cont => exact False.elim hq'
end

/-! ### isinstance -/
/-- at a stands an own error of the class at C -/
def ErrAt (H : Hp) (a C : Addr) : Prop := H a = some (exo a C none) ∨ ∃ d fs, H a = some (exo a C (some d)) ∧ H d = some (exd d fs)
theorem err_inst {X : Cx} {pins : List (Addr × Obj)} {σ : L2.St} {H : Hp} {s : Shared} {a C : Addr} (I : Inv X pins σ H s) (h : ErrAt H a C) : ∃ ox od, PySem.W.InstAt s.heap a ox C od := by
  rcases h with h | ⟨d, fs, h, hd⟩
  · obtain ⟨t1, e⟩ := exo_at I.hok h
    exact ⟨_, none, e, rfl, rfl, trivial⟩
  · obtain ⟨t1, e⟩ := exo_at I.hok h
    obtain ⟨mA, ⟨o, es, ep, ho, _⟩, _⟩ := exd_at I.hok hd
    exact ⟨_, some o, e, rfl, rfl, ho⟩
/-- isinstance(e, c), e an own error -/
def rIsX (K : PySem.W.Frag) : List V → Hp → VK → Prop := fun xs H Q => ∃ (a C : Addr) (c : V) (cv : Value) (b : Bool), xs = [.ref a, c] ∧ ErrAt H a C ∧ ExcC K C ∧ ClsV c cv ∧ PySem.W.kitOne K (.ref C) cv = some b ∧ Q (.bl b) H
theorem call_isX {X : Cx} : CallR X (.builtin "isinstance") (rIsX X.K) := by
  intro pins s σ H xs us Q I r h
  obtain ⟨a, C, c, cv, b, rfl, ea, T, k, e, q⟩ := h
  obtain ⟨u1, u2, rfl, r1, r2⟩ := vals2 r
  have e2 := k.eq r2
  subst e2
  obtain rfl : u1 = Value.ref a := r1
  obtain ⟨ox, od, J⟩ := err_inst I ea
  have hcl : (PySem.W.clsIn X.K C).isSome = true := by
    obtain ⟨cd, hc, _⟩ := PySem.W.any_some T.hd
    rw [hc]
    rfl
  exact PySem.W.kia_one (PySem.W.kitx_exc hcl T.hg T.hk T.hs T.ha T.hn T.ht T.hm) I.kIn J e (fun z => nomatch z) fun tk => ⟨.bl b, H, I.tok tk, rfl, q⟩
/-- e.n, e an own error -/
def tErrF (K : PySem.W.Frag) (n : Str) (te : TE) : TE := fun σ H Q => te σ H fun x H1 => ∃ (a C d : Addr) (fs : List (Str × V)) (v : V), x = .ref a ∧ H1 a = some (exo a C (some d)) ∧ H1 d = some (exd d fs) ∧ fs.lookup n = some v ∧ XfC K C ∧ PySem.W.findIn K (.ref C) n = some none ∧ Q v H1
theorem pe_errF {X : Cx} {e : Expr} {te : TE} {pos : Pos} {n : Str} (he : PE X e te) (hb : attributeBase e n X.env (eval e X.env) = eval e X.env := by rfl) : PE X (.Attribute e n pos) (tErrF X.K n te) := by
  refine ⟨fun pins s σ H Q I h => ?_⟩
  refine attr_of hb (thn (he.run pins s σ H _ I h) fun u s1 hh => ?_)
  obtain ⟨x, H1, I1, rx, a, C, d, fs, v, ex, ea, ed, l, T, hno, q⟩ := hh
  subst ex
  obtain rfl : u = Value.ref a := rx
  obtain ⟨t1, e1⟩ := exo_at I1.hok ea
  obtain ⟨mA, hns, hr⟩ := exd_at I1.hok ed
  obtain ⟨od, ho, hl⟩ := lookIn_ns hns
  obtain ⟨u, hu, ru⟩ := RelO.some_of (v := v) (o := mA n) (by rw [← l]; exact hr n)
  have J : PySem.W.InstAt s1.heap a _ C (some od) := ⟨e1, rfl, rfl, ho⟩
  exact HandSPX.exc_get I1.kIn J T.ga T.gg T.exC (PySem.W.findObj_own T.hdC hno rfl (by rw [hl, hu])) (handed_of ru) ⟨v, H1, I1.tok _, ru, q⟩
end Ev
set_option maxHeartbeats 4000000
/-! repr of nested data that the law has made. -/
namespace Ev
open PySem PySem.Spec PyProof.Rows L2

/-- a display of a list; its place is not the table of modules -/
def tLstN (t : TA) : TE := fun σ H Q => t σ H fun xs H1 => xs.length ≤ sizeLine ∧ ∀ p, H1 p = none → p ≠ sysModules → Q (.ref p) (upd H1 p (.lst xs))
theorem pe_lstN {X : Cx} {es : List Expr} {pos : Pos} {t : TA} (h : PA X es t) : PE X (.List es pos) (tLstN t) := by
  refine ⟨fun pins s σ H Q I hq => ?_⟩
  refine wpAny_List_spliced (thn (h.run pos pins s σ H _ I hq) fun us s1 hh => ?_)
  obtain ⟨xs, H1, I1, r, z, q⟩ := hh
  have hf : H1 s1.heap.objs.size = none := I1.hok.fresh (Nat.le_refl _)
  refine ⟨by rw [← r.length]; exact z, .ref s1.heap.objs.size, upd H1 s1.heap.objs.size (.lst xs), I1.laid (t' := s1.toks) (o := .lst xs) (fun b u e => Heap.get?_push_of_some _ e) (Nat.le_refl _) ⟨z, us, 0, r, Heap.get?_push_size _ rfl⟩, rfl, q _ hf (Ne.symm (Nat.ne_of_lt I1.big))⟩

/-- the datum d is told by v -/
inductive Dt (H : Hp) : V → PyData → Prop
  | non : Dt H .non .none
  | bl (b : Bool) : Dt H (.bl b) (.bool b)
  | int (i : Int) : Dt H (.int i) (.int i)
  | str (x : Str) : Dt H (.str x) (.str x)
  | dic {a : Addr} : H a = some (.dK []) → Dt H (.ref a) (.dict [])
  | l0 {a : Addr} : H a = some (.lst []) → a ≠ sysModules → Dt H (.ref a) (.list [])
  | l1 {a : Addr} {x : V} {d : PyData} : H a = some (.lst [x]) → a ≠ sysModules → Dt H x d → Dt H (.ref a) (.list [d])
  | l2 {a : Addr} {x y : V} {d e : PyData} : H a = some (.lst [x, y]) → a ≠ sysModules → Dt H x d → Dt H y e → Dt H (.ref a) (.list [d, e])
  | t0 {a : Addr} : H a = some (.tup []) → Dt H (.ref a) (.tuple [])
  | t1 {a : Addr} {x : V} {d : PyData} : H a = some (.tup [x]) → Dt H x d → Dt H (.ref a) (.tuple [d])
  | t2 {a : Addr} {x y : V} {d e : PyData} : H a = some (.tup [x, y]) → Dt H x d → Dt H y e → Dt H (.ref a) (.tuple [d, e])
theorem Dt.keep {H H' : Hp} {v : V} {d : PyData} (h : Dt H v d) (k : ∀ b o, H b = some o → H' b = some o) : Dt H' v d := by
  induction h with
  | non => exact .non
  | bl b => exact .bl b
  | int i => exact .int i
  | str x => exact .str x
  | dic e => exact .dic (k _ _ e)
  | l0 e n => exact .l0 (k _ _ e) n
  | l1 e n _ ih => exact .l1 (k _ _ e) n ih
  | l2 e n _ _ i1 i2 => exact .l2 (k _ _ e) n i1 i2
  | t0 e => exact .t0 (k _ _ e)
  | t1 e _ ih => exact .t1 (k _ _ e) ih
  | t2 e _ _ i1 i2 => exact .t2 (k _ _ e) i1 i2
section
variable {X : Cx} {pins : List (Addr × Obj)} {σ : L2.St} {H : Hp} {s : Shared}
theorem lst_at (I : L2.Inv X pins σ H s) {a : Addr} {xs : List V} (h : H a = some (.lst xs)) : ∃ (its : List Value) (n : Nat), Vals xs its ∧ s.heap.get? a = some { cls := .type "list", data := .seq its.toArray n } := by
  obtain ⟨_, its, n, r, e⟩ := (show ObjOk X.prog X.w H s.heap a (.lst xs) from I.hok a _ h)
  exact ⟨its, n, r, e⟩
theorem tup_at (I : L2.Inv X pins σ H s) {a : Addr} {xs : List V} (h : H a = some (.tup xs)) : ∃ (its : List Value) (o : Obj) (n : Nat), Vals xs its ∧ s.heap.get? a = some o ∧ o.cls = .type "tuple" ∧ o.data = .seq its.toArray n := by
  obtain ⟨_, its, r, o, e, c, n, d⟩ := (show ObjOk X.prog X.w H s.heap a (.tup xs) from I.hok a _ h)
  exact ⟨its, o, n, r, e, c, d⟩
theorem Dt.reads (I : L2.Inv X pins σ H s) {v : V} {d : PyData} (h : Dt H v d) : ∀ {u : Value}, RelV v u → ∃ as, Reads s.heap u d as ∧ sysModules ∉ as := by
  induction h with
  | non => intro u r; cases r; exact ⟨_, .none, by simp⟩
  | bl b => intro u r; cases r; exact ⟨_, .bool b, by simp⟩
  | int i => intro u r; obtain ⟨t, rfl⟩ := r; exact ⟨_, .int i t, by simp⟩
  | str x => intro u r; obtain ⟨t, rfl⟩ := r; exact ⟨_, .str x t, by simp⟩
  | @dic a e =>
    intro u r
    cases r
    obtain ⟨_, hs, vs, kv, o, es, ep, ho, hx, hd, hk, hp, _⟩ := (show ObjOk X.prog X.w H s.heap a (.dK []) from I.hok a _ e)
    cases kv
    have he : es.toList = [] := by
      generalize es.toList = l at hp
      cases hp
      rfl
    refine ⟨a :: [] ++ [], .dict (as := []) (bs := []) ho hx.1 hd ?_ ?_, ?_⟩
    · rw [he]; exact .nil
    · rw [he]; exact .nil
    · have : a ≠ sysModules := by simpa using hs
      simp [Ne.symm this]
  | @l0 a e n =>
    intro u r
    cases r
    obtain ⟨its, m, rv, ho⟩ := lst_at I e
    cases rv
    exact ⟨_, .list ho rfl rfl .nil, by simp [Ne.symm n]⟩
  | @l1 a x d e n hx ih =>
    intro u r
    cases r
    obtain ⟨its, m, rv, ho⟩ := lst_at I e
    cases rv with
    | cons r1 rr =>
      cases rr
      obtain ⟨as, q, nq⟩ := ih r1
      exact ⟨_, .list ho rfl rfl (.cons q .nil), by simp [Ne.symm n, nq]⟩
  | @l2 a x y d e2 e n hx hy ih1 ih2 =>
    intro u r
    cases r
    obtain ⟨its, m, rv, ho⟩ := lst_at I e
    cases rv with
    | cons r1 rr =>
      cases rr with
      | cons r2 rr =>
        cases rr
        obtain ⟨as, q, nq⟩ := ih1 r1
        obtain ⟨bs, q2, nq2⟩ := ih2 r2
        exact ⟨_, .list ho rfl rfl (.cons q (.cons q2 .nil)), by simp [Ne.symm n, nq, nq2]⟩
  | @t0 a e =>
    intro u r
    cases r
    obtain ⟨its, o, m, rv, ho, hc, hd⟩ := tup_at I e
    cases rv
    exact ⟨_, .tuple ho hc hd .nil, by simp⟩
  | @t1 a x d e hx ih =>
    intro u r
    cases r
    obtain ⟨its, o, m, rv, ho, hc, hd⟩ := tup_at I e
    cases rv with
    | cons r1 rr =>
      cases rr
      obtain ⟨as, q, nq⟩ := ih r1
      exact ⟨_, .tuple ho hc hd (.cons q .nil), by simp [nq]⟩
  | @t2 a x y d e2 e hx hy ih1 ih2 =>
    intro u r
    cases r
    obtain ⟨its, o, m, rv, ho, hc, hd⟩ := tup_at I e
    cases rv with
    | cons r1 rr =>
      cases rr with
      | cons r2 rr =>
        cases rr
        obtain ⟨as, q, nq⟩ := ih1 r1
        obtain ⟨bs, q2, nq2⟩ := ih2 r2
        exact ⟨_, .tuple ho hc hd (.cons q (.cons q2 .nil)), by simp [nq, nq2]⟩
end
/-- repr(x), x a datum of small depth and size -/
def rRepr : List V → Hp → VK → Prop := fun xs H Q => ∃ (x : V) (d : PyData), xs = [x] ∧ Dt H x d ∧ d.showable = true ∧ d.depth ≤ 100 ∧ d.shown.length ≤ 100000 ∧ Q (.str d.shown) H
theorem call_repr {X : Cx} {k : Nat} (hg : X.A.guards = some []) (hr : Room k X.A) : CallR X (.builtin "repr") rRepr := by
  intro pins s σ H xs us Q I r h
  obtain ⟨x, d, rfl, hd, hs, hdp, hz, q⟩ := h
  obtain ⟨u, rfl, ru⟩ := vals1 r
  have hz' : d.shown.length ≤ sizeLine := Nat.le_trans hz (by decide)
  obtain ⟨as, rd, ns⟩ := hd.reads I ru
  have hu : X.A.units + (d.depth + 1) < cLine := by have := hr.un; omega
  have viaRef : ∀ a, u = .ref a → wpAny (model X.prog X.w) X.A (call (.builtin "repr") [u]) (EP X pins σ Q) X.xe s := fun a e => by
    subst e
    exact repr_of_reads' rd hs (fun _ => ns) hg hu (fun _ _ e => e) (fun h' u tk k => ⟨.str d.shown, H, I.kept k, ⟨_, rfl⟩, q⟩) hz'
  cases hd with
  | non => cases ru; exact PySem.P.repr_of_none ⟨.str _, H, I.tok _, ⟨_, rfl⟩, by simpa only [PyData.shown] using q⟩
  | bl b => cases ru; exact PySem.P.repr_of_bool ⟨.str _, H, I.tok _, ⟨_, rfl⟩, by simpa only [PyData.shown] using q⟩
  | int i => obtain ⟨t, rfl⟩ := ru; exact PySem.P.repr_of_int (by simpa [PyData.showable] using hs) ⟨.str _, H, I.tok _, ⟨_, rfl⟩, by simpa only [PyData.shown] using q⟩
  | str x => obtain ⟨t, rfl⟩ := ru; exact PySem.P.repr_of_str ⟨.str _, H, I.tok _, ⟨_, rfl⟩, by simpa only [PyData.shown] using q⟩ (by simpa only [PyData.shown] using hz')
  | dic e => exact viaRef _ ru
  | l0 e n => exact viaRef _ ru
  | l1 e n h1 => exact viaRef _ ru
  | l2 e n h1 h2 => exact viaRef _ ru
  | t0 e => exact viaRef _ ru
  | t1 e h1 => exact viaRef _ ru
  | t2 e h1 h2 => exact viaRef _ ru
/-- what is told of a datum: it may be shown, so deep, so long -/
def Small (d : PyData) (n m : Nat) : Prop := d.showable = true ∧ d.depth ≤ n ∧ d.shown.length ≤ m
theorem int_len {k : Int} (hk : 0 ≤ k ∧ k < 100) : (PyData.shown (.int k)).length ≤ 3 := by
  have e : (toString k).length ≤ 2 + 1 := int_text_length_le10 (by decide) (by omega)
  simp only [PyData.shown]
  rw [PySem.ofString_length]
  exact e
theorem int_show {k : Int} (hk : 0 ≤ k ∧ k < 100) : k.natAbs.log2 < 1920 := by
  have := Nat.log2_le_self k.natAbs
  omega
theorem small_tup {d : PyData} {n m : Nat} {k : Int} (h : Small d n m) (hk : 0 ≤ k ∧ k < 100) : Small (.tuple [d, .int k]) (n + 1) (m + 10) := by
  obtain ⟨h1, h2, h3⟩ := h
  refine ⟨by simp [PyData.showable, PyData.showableAll, h1, int_show hk], by simp only [PyData.depth, PyData.depthAll]; omega, ?_⟩
  have e := tupleText_len_le (PyData.shownAll [d, .int k])
  have e2 := int_len hk
  simp only [PyData.shownAll, List.map_cons, List.map_nil, List.sum_cons, List.sum_nil, List.length_cons, List.length_nil] at e
  show (tupleText (PyData.shownAll [d, .int k])).length ≤ m + 10
  simp only [PyData.shownAll]
  omega
theorem small_lst {d : PyData} {n m : Nat} {k : Int} (h : Small d n m) (hk : 0 ≤ k ∧ k < 100) : Small (.list [.int k, d]) (n + 1) (m + 10) := by
  obtain ⟨h1, h2, h3⟩ := h
  refine ⟨by simp [PyData.showable, PyData.showableAll, h1, int_show hk], by simp only [PyData.depth, PyData.depthAll]; omega, ?_⟩
  have e := listText_len_le (PyData.shownAll [.int k, d])
  have e2 := int_len hk
  simp only [PyData.shownAll, List.map_cons, List.map_nil, List.sum_cons, List.sum_nil, List.length_cons, List.length_nil] at e
  show (listText (PyData.shownAll [.int k, d])).length ≤ m + 10
  simp only [PyData.shownAll]
  omega
theorem Small.mono {d : PyData} {n m n' m' : Nat} (h : Small d n m) (h1 : n ≤ n') (h2 : m ≤ m') : Small d n' m' := ⟨h.1, Nat.le_trans h.2.1 h1, Nat.le_trans h.2.2 h2⟩
end Ev
set_option maxHeartbeats 4000000
/-! try with several clauses «except X as n», the name the same in all of them. -/
namespace Ev
open PySem PySem.Spec PyProof.Rows L2
/-- behind a suite the name's slot (i) is empty -/
def offS (i : Nat) (D : Ends) : Ends := { nx := fun σ' H' => D.nx (σ'.set i none) H', rt := D.rt, bk := fun σ' H' => D.bk (σ'.set i none) H', ct := fun σ' H' => D.ct (σ'.set i none) H' }
def wManyAs (K : PySem.W.Frag) (i : Nat) (Wout : WX) (D : Ends) : List (Value × (Addr → Value → Option Addr → TS)) → WX
  | [] => Wout
  | (c, ts) :: r => fun cls d σ H => ∃ b, PySem.W.exmOne K cls c = some b ∧ (b = true → ∀ a, H a = none → ts a cls d (offS i D) (σ.set i (some (.ref a))) H) ∧ (b = false → wManyAs K i Wout D r cls d σ H)
inductive HdsAs (X : Cx) (n : Str) : List ExceptHandler → List (Value × (Addr → Value → Option Addr → TS)) → Prop
  | nil : HdsAs X n [] []
  | cons {x : Str} {c : Value} {ts : Addr → Value → Option Addr → TS} {b₀ : Stmt} {suite : List Stmt} {np pos' : Pos} {hds : List ExceptHandler} {l : List (Value × (Addr → Value → Option Addr → TS))} (hc : Names X x c)
      (hsu : ∀ (a : Addr) (oe : Obj) (cls : Value) (d : Option Addr) (pn : List (Addr × Obj)), Zc cls d oe → (∃ vs, oe.data = .fields vs) → PSs (X.suite a ((a, oe) :: pn)) (b₀ :: suite) (ts a cls d)) (r : HdsAs X n hds l) :
      HdsAs X n (.ExceptHandler (some (.Name x np)) (some n) (b₀ :: suite) pos' :: hds) ((c, ts) :: l)
section
variable {X : Cx} {body : List Stmt} {h₀ : ExceptHandler} {hds : List ExceptHandler} {l : List (Value × (Addr → Value → Option Addr → TS))} {pos : Pos} {tb : WX → TS} {Wout : WX} {n : Str} {i : Nat}
theorem ps_try_manyAs (hs : X.stack = X.env :: X.outer) (hf : X.env.frame = some X.env.locals) (hN : X.N.Nodup) (hi : X.N[i]? = some n) (hln : X.env.kindOf n = some .local) (tk : Takes X Wout)
    (hb : ∀ (W : WX) (pn : List (Addr × Obj)) (xe : Value → Shared → Prop), Takes (X.tr pn xe) W → PassesOwn (model X.prog X.w) X.A X.env xe → PSs (X.tr pn xe) body (tb W))
    (hh : HdsAs X n (h₀ :: hds) l) : PS X (.Try body (h₀ :: hds) [] [] pos) (fun D σ H => tb (wManyAs X.K i Wout D l) D σ H) := by
  refine ⟨fun pins s σ H D I h => ?_⟩
  have ok := I.ok
  have hfr : X.A.frames = some (X.env :: X.outer) := by rw [ok.frames, hs]
  have hloc : Loc X.env.scope n := .inl hln
  refine wpAny_Try_except (wpAny_mono ((hb (wManyAs X.K i Wout D l) (X.pn ++ pins) (fun e s₁ => wpAny (model X.prog X.w) X.A (noteFrame e X.env) (fun _ s₂ => wpAny (model X.prog X.w) X.A (setFlight e none) (fun _ s₃ =>
    wpAny (model X.prog X.w) X.A (handleBy e X.env (h₀ :: hds)) (SP X pins D) X.xe s₃) X.xe s₂) X.xe s₁) (fun u s' xx => ?_) PassesOwn.looking).run [] s σ H D (I.toTry _) h) (fun f s1 hsp => ?_) (fun e s1 he => he))
  · obtain ⟨a, B, sI, pins', σ', H', cls, d, rfl, J', nb, up, sky, na, os, ag, w⟩ := xx
    have J : L2.Inv X pins σ' H' sI := J'.ofTry ok
    have sky' : Sky B (X.env :: X.outer) a (Zc cls d) X.env.locals s'.heap := by rw [← hs]; exact sky
    refine Sky.land Zc.steady hfr hf sky' fun h3 fl3 up3 => ?_
    have J3 : L2.Inv X pins σ' H' { s' with heap := h3 } := J.landed nb fl3.1 (up.trans up3) os ag
    obtain ⟨oe3, vs3, he3, hz3, hd3⟩ := fl3.there
    have nfr : a ∉ frs (X.env :: X.outer) := fun hm => by
      obtain ⟨_, o', e', hnf⟩ := fl3.2.2.1.mem hm
      rw [he3] at e'; cases e'
      exact hnf _ hd3
    have nL : a ≠ X.env.locals := fun z => nfr (List.mem_filterMap.mpr ⟨X.env, List.mem_cons_self, by rw [hf, z]⟩)
    have nF : a ∉ X.fs := fun hm => by
      obtain ⟨e, he, q⟩ := List.mem_filterMap.mp hm
      exact nfr (List.mem_filterMap.mpr ⟨e, List.mem_cons_of_mem _ he, q⟩)
    have S3 := J3.suite he3 hd3 na nL nF
    have LT : PySem.W.Looks (model X.prog X.w) h3 (typeOf (.ref a)) cls := fun A Q E s k q => wpAny_typeOf_ref (k _ _ he3) (by rw [hz3.1]; exact q)
    have go : ∀ {hds' : List ExceptHandler} {l' : List (Value × (Addr → Value → Option Addr → TS))}, HdsAs X n hds' l' → wManyAs X.K i Wout D l' cls d σ' H' →
        wpAny (model X.prog X.w) X.A (handleBy (.ref a) X.env hds') (SP X pins D) X.xe { s' with heap := h3 } := by
      intro hds' l' hk
      induction hk with
      | nil =>
        intro w
        refine wpAny_handleBy_nil ?_
        obtain ⟨k1, k2, k3, oe, vs, T, oT, ts', he, hz, hd, h1, hr⟩ := id fl3
        unfold PySem.passOn
        refine wpAny_bind (wpAny_field he hd h1 ?_)
        rw [if_neg (show ¬ ((Value.ref T == Value.none) = true) from by simp)]
        have fin : wpAny (model X.prog X.w) X.A (setFlight (.ref a) X.env.frame) (fun _ s4 => wpAny (model X.prog X.w) X.A (throw (.ref a) : Sem Flow) (SP X pins D) X.xe s4) X.xe { s' with heap := h3 } := by
          rw [hf]
          refine HandSPX.setFlight_upZ fl3 fun h4 hh4 up4 => wpAny_throw (tk _ _ ?_)
          exact ⟨a, B, sI, pins, σ', H', cls, d, rfl, J, nb, (up.trans up3).trans up4, .inr (.inr (by rw [hs]; exact hh4)), na, os, ag, w⟩
        first
          | exact wpAny_bind (wpAny_pure (wpAny_bind fin))
          | exact wpAny_bind fin
      | @cons x c ts b₀ suite np pos' hds2 l2 hc hsu r ih =>
        intro w
        obtain ⟨b, hb1, hyes, hno⟩ := w
        refine wpAny_handleBy_cons (codeAny_handlers_test ?_) (by intro q; cases q)
        have LM := PySem.W.exm_one (M := model X.prog X.w) (J3.kIn) LT hb1
        have test : ∀ {Q : Value → Shared → Prop} {E : Value → Shared → Prop}, Q c { s' with heap := h3 } → wpAny (model X.prog X.w) (X.A.mark (some (.ref a))) (eval (.Name x np) X.env) Q E { s' with heap := h3 } := fun {Q E} q => by
          obtain ⟨hg, hdbg, hm | ⟨hm, hv, hnn⟩⟩ := hc
          · exact ld_glob (X := X.suite a ((a, oe3) :: (X.pn ++ pins))) S3 hg hm q hdbg
          · exact ld_blt (X := X.suite a ((a, oe3) :: (X.pn ++ pins))) S3 hg hm hv q hnn hdbg
        refine test (LM.here ?_)
        cases b with
        | true =>
          refine codeAny_handlers_suite_as (HandSPX.lands_againZ fl3 fun h4 fl4 up4 => ?_)
          have J4 : L2.Inv X pins σ' H' { s' with heap := h4 } := J.landed nb fl4.1 ((up.trans up3).trans up4) os ag
          obtain ⟨oe4, vs4, he4, hz4, hd4⟩ := fl4.there
          refine store_ok (X := X.suite a ((a, oe4) :: (X.pn ++ pins))) (v := .ref a) (J4.suite he4 hd4 na nL nF) hN hi hloc rfl (fun s5 S5 => ?_) (.inr hln)
          refine wpAny_mono ((hsu a oe4 cls d (X.pn ++ pins) hz4 ⟨_, hd4⟩).run [] s5 _ H' _ S5 (hyes rfl a na)) (fun f s6 hsp => ?_) (fun _ _ z => False.elim z)
          cases f with
          | next =>
            obtain ⟨σ6, H6, S6, q6⟩ := hsp
            exact gone_ok (S6.unsuite ok) hN hi hln fun s7 J7 => ⟨_, _, J7, q6⟩
          | brk =>
            obtain ⟨σ6, H6, S6, q6⟩ := hsp
            exact gone_ok (S6.unsuite ok) hN hi hln fun s7 J7 => ⟨_, _, J7, q6⟩
          | cont =>
            obtain ⟨σ6, H6, S6, q6⟩ := hsp
            exact gone_ok (S6.unsuite ok) hN hi hln fun s7 J7 => ⟨_, _, J7, q6⟩
          | ret u =>
            obtain ⟨v6, σ6, H6, S6, r6, q6⟩ := hsp
            exact gone_ok (S6.unsuite ok) hN hi hln fun s7 J7 => ⟨_, _, _, J7, r6, q6⟩
        | false => exact ih (hno rfl)
    exact go hh w
  · cases f with
    | next =>
      obtain ⟨σ', H', J', q⟩ := hsp
      exact wpAny_execs_nil ⟨σ', H', J'.ofTry ok, q⟩
    | brk =>
      obtain ⟨σ', H', J', q⟩ := hsp
      exact ⟨σ', H', J'.ofTry ok, q⟩
    | cont =>
      obtain ⟨σ', H', J', q⟩ := hsp
      exact ⟨σ', H', J'.ofTry ok, q⟩
    | ret u =>
      obtain ⟨v, σ', H', J', r, q⟩ := hsp
      exact ⟨v, σ', H', J'.ofTry ok, r, q⟩
end
end Ev
set_option maxHeartbeats 4000000
/-! The law's own def, called by the caller of claims alone: what runs around it is known (no repr is under way). -/
namespace Ev
open PySem PySem.Spec PyProof.Rows L2
/-- the def at f keeps sp, called where A runs around it -/
structure FnAt (A : Around) (P : Program) (w : World) (K : PySem.W.Frag) (mg : Str → Option Value) (base : Heap) (CX : CXT) (f : Addr) (fd : FuncData) (ps : List Str) (sp : Sp) : Prop where
  len : ∀ vs H Q E, sp vs H Q E → vs.length = ps.length
  run : ∀ (outer : List Env) (s : Shared) (H : Hp) (args : Args) (us : List Value) (vs : List V) (Q : VK) (E : XK), Env0 P w K mg base A outer s H → BindsTo s fd args (ps.zip us) → Vals vs us → sp vs H Q E →
    codeAny (model P w) A (.call (.ref f) args) (CR CX outer P w H s Q E) s
section
variable {A : Around} {CX : CXT} {P : Program} {w : World} {K : PySem.W.Frag} {mg : Str → Option Value} {base : Heap} {k : Nat}
theorem fun_at {x qual : Str} {st : Stmt} {f : Addr} {fd : FuncData} {N ps : List Str} {sp : Sp} (F : Fun K x qual st f fd) (S : FnScope N ps (defScope st)) (hr : Room (k + 1) A) (len : ∀ vs H Q E, sp vs H Q E → vs.length = ps.length)
    (hbody : ∀ (cdv : Value) (outer : List Env) (s : Shared) (H : Hp) (vs : List V) (Q : VK) (E : XK), Room k (A.deeper (envOfC qual (defScope st) s.heap.objs.size f cdv)) → sp vs H Q E →
      ∃ t, PSs (cxOf CX P w K mg base N qual (defScope st) f cdv A outer s H E).nox (defBody st) t ∧ t { nx := fun _ H' => Q .non H', rt := Q } (start N vs) H) : FnAt A P w K mg base CX f fd ps sp := by
  obtain ⟨oc, od, kV, doc, pm, an, cdv, ct, osl, rfl, lk, hcd⟩ := F.ex
  refine ⟨len, fun outer s H args us vs Q E e0 hb r hsp => ?_⟩
  have lim : s.heap.NoLimit := e0.mod.nolimit.keeps fun b o e => (e0.bs b o e).1
  have KX : K.In s.heap := e0.mod.kin.keeps fun b o e => (e0.bs b o e).1
  have kinds : ∀ y ∈ ps.zip us, (defScope st).names.lookup y.1 = some .local ∨ ((defScope st).names.lookup y.1 = some .cell ∧ ((cellsFrom (s.heap.objs.size + 1) (defScope st).names []).lookup y.1).isSome = true) := by
    rintro ⟨n, v⟩ hy
    exact (S.par n (List.of_mem_zip hy).1).imp id fun q => ⟨q, PySem.W.cellsFrom_some _ _ _ (.inl q)⟩
  refine codeAny_call_function hr.depth (KX _ _ lk) rfl S.co S.gen rfl (PySem.W.codeRec_of KX hcd) (hb _ _ _ _ (wpAny_newFunctionEnv_cells S.kind kinds fun env he s1 x => ?_))
  subst he
  obtain ⟨t, ht, hq⟩ := hbody cdv outer s H vs Q E (hr.deeper _) hsp
  have I := inv_start (CX := CX) (P := P) (w := w) (mg := mg) (base := base) (E := E) S hr.hd e0 (len _ _ _ _ hsp) r x
  refine ⟨lim.keeps x.toInCall.keep, codeAny_func (wpAny_mono (ht.nox.run [] s1 (start N vs) H _ I hq) (fun fl s' hs => ?_) fun e s' hs => hs)⟩
  cases fl with
  | ret u =>
    obtain ⟨v, σ', H', J, rv, q⟩ := hs
    exact ⟨v, H', J.os, J.bare, J.base, J.hok, rv, q⟩
  | next =>
    obtain ⟨σ', H', J, q⟩ := hs
    exact ⟨V.non, H', J.os, J.bare, J.base, J.hok, rfl, q⟩
  | brk => exact hs.elim fun _ z => z.elim fun _ y => y.2.elim
  | cont => exact hs.elim fun _ z => z.elim fun _ y => y.2.elim
end
section
variable {P : Program} {w : World} {K : PySem.W.Frag} {mg mb : Str → Option Value} {fa a : Addr} {fd : FuncData} {x : Str} {sp : Sp} {s₁ : Shared} {vs : List Value} {ns : List Int}
/-- from one abstract heap: nothing is tracked but, perhaps, the script -/
theorem law_at0 {H : Hp} (KX : K.In s₁.heap) (hns : s₁.heap.Ns mainGlobals mg) (hb : s₁.heap.Ns builtinsNs mb) (hbb : ∀ y : Str, y ≠ "__name__" → mb y = bootBuiltins y) (hlim : s₁.heap.NoLimit) (hg : s₁.gens = #[])
    (ha : s₁.heap.get? a = some { cls := .type "list", data := .seq vs.toArray }) (F : ∀ base : Heap, K.In base → base.Ns mainGlobals mg → FnAt callerA P w K mg base CX0 fa fd [x] sp)
    (hbind : ∀ (s : Shared) (u : Value), BindsTo s fd ⟨[u], []⟩ [(x, u)]) (hO : Only H) (hok : HOk P w H s₁.heap) (hA : ∀ b, H b ≠ none → b = a) (hK : H a ≠ none → K.lookup a = none)
    (hsp : sp [.ref a] H (fun v _ => v = .bl true) fun _ _ _ => False) :
    codeAny (model P w) callerA (.call (.ref fa) ⟨[.ref a], []⟩) (fun r s' => r = .ok (.ret (.bool true)) ∧ OldK s₁.heap s'.heap ∧ s'.os = s₁.os ∧ AllBare s'.gens) s₁ := by
  have off : ∀ {b : Addr} {o : Obj}, s₁.heap.get? b = some o → o ≠ { cls := .type "list", data := .seq vs.toArray } → H b = none := fun {b o} e n => by
    refine Classical.byContradiction fun z => n ?_
    have eb := hA b z
    rw [eb, ha] at e
    exact (Option.some.inj e).symm
  have nsK : ∀ {b : Addr} {m : Str → Option Value}, s₁.heap.Ns b m → (hidT s₁.heap H).Ns b m := fun {b m} ⟨o, es, ep, e, d, r⟩ => ⟨o, es, ep, hidT_get e (off e fun z => by rw [z] at d; cases d), d, r⟩
  have hKb : K.In (hidT s₁.heap H) := fun b o e => hidT_get (KX b o e) (Classical.byContradiction fun z => by
    have eb := hA b z
    rw [eb] at e z
    rw [hK z] at e
    cases e)
  have hM : Mod K mg (hidT s₁.heap H) := ⟨hKb, nsK hns, ⟨mb, nsK hb, hbb⟩, hlim.elim fun mc z => ⟨mc, nsK z.1, z.2⟩⟩
  have e0 : Env0 P w K mg (hidT s₁.heap H) callerA [] s₁ H := ⟨rfl, hM, fun b o e => of_hidT e, Nat.le_of_eq (hidT_size _ _), trivial, fun b hb => absurd (show b ∈ ([] : List Addr) from hb) (by simp), hok, .of_eq hg⟩
  refine codeAny_mono ((F _ hKb (nsK hns)).run [] s₁ H ⟨[.ref a], []⟩ [.ref a] [.ref a] _ _ e0 (hbind s₁ (.ref a)) (.cons rfl .nil) hsp) fun r s' h => ?_
  rcases r with e | fl
  · exact False.elim h
  cases fl with
  | next => exact False.elim h
  | brk => exact False.elim h
  | cont => exact False.elim h
  | ret u =>
    obtain ⟨v, H', os, bare, un, hok', r', rfl⟩ := h
    obtain rfl : u = Value.bool true := r'
    refine ⟨rfl, OldK.of_keep fun b o e => ?_, os, bare⟩
    rcases hO b with z | ⟨ob, xs, z⟩
    · exact un.keep b o e z (fun y => absurd (show b ∈ ([] : List Addr) from y) (by simp)) (by simp)
    · have e1 := (hok b _ z).1
      rw [e] at e1
      cases e1
      exact (hok' b _ (un.frzs b _ _ z)).1
theorem law_at (KX : K.In s₁.heap) (hns : s₁.heap.Ns mainGlobals mg) (hb : s₁.heap.Ns builtinsNs mb) (hbb : ∀ y : Str, y ≠ "__name__" → mb y = bootBuiltins y) (hlim : s₁.heap.NoLimit) (hg : s₁.gens = #[])
    (ha : s₁.heap.get? a = some { cls := .type "list", data := .seq vs.toArray }) (hi : IntsAre vs ns) (hl : ns.length ≤ sizeLine)
    (F : ∀ base : Heap, K.In base → base.Ns mainGlobals mg → FnAt callerA P w K mg base CX0 fa fd [x] sp) (hbind : ∀ (s : Shared) (u : Value), BindsTo s fd ⟨[u], []⟩ [(x, u)])
    (hsp : ∀ H : Hp, Only H → SqL K H a (ns.map V.int) → sp [.ref a] H (fun v _ => v = .bl true) fun _ _ _ => False) :
    codeAny (model P w) callerA (.call (.ref fa) ⟨[.ref a], []⟩) (fun r s' => r = .ok (.ret (.bool true)) ∧ OldK s₁.heap s'.heap ∧ s'.os = s₁.os ∧ AllBare s'.gens) s₁ := by
  have rv := vals_ints hi
  cases hk : K.lookup a with
  | some o =>
    have e := KX a o hk
    rw [ha] at e
    cases e
    have hO : Only (fun _ => none) := fun _ => .inl rfl
    exact law_at0 KX hns hb hbb hlim hg ha F hbind hO (fun b u z => by cases z) (fun b z => absurd rfl z) (fun z => absurd rfl z)
      (hsp _ hO (.inr ⟨_, vs.toArray, _, hk, rfl, rfl, rfl, by rw [List.size_toArray, hi.length]; exact hl, by simpa using rv⟩))
  | none =>
    have same : upd (fun _ => none) a (.frz { cls := .type "list", data := .seq vs.toArray } (.lst (ns.map V.int))) a = some (.frz { cls := .type "list", data := .seq vs.toArray } (.lst (ns.map V.int))) := upd_same
    have hO : Only (upd (fun _ => none) a (.frz { cls := .type "list", data := .seq vs.toArray } (.lst (ns.map V.int)))) := fun b => by
      by_cases h : b = a
      · exact .inr ⟨_, _, by rw [h]; exact same⟩
      · exact .inl (by rw [upd_ne h])
    refine law_at0 KX hns hb hbb hlim hg ha F hbind hO (fun b u z => ?_) (fun b z => ?_) (fun _ => hk) (hsp _ hO (.inl (.inr ⟨_, same⟩)))
    · by_cases h : b = a
      · subst h
        rw [same] at z
        cases z
        exact ⟨ha, by rw [List.length_map]; exact hl, vs, _, rv, ha⟩
      · rw [upd_ne h] at z
        cases z
    · exact Classical.byContradiction fun h => z (by rw [upd_ne h])
end
/-- the end of a law's row -/
theorem walk_at {l : PySem.W.OpenLaw} {n : Nat} {q : Program} {loose : List Str} {XP : (Str → Option Value) → Heap → Prop} {YP : World → Heap → Prop} {d : DefRec} {K : Params → PySem.W.Frag} {sp : PySem.W.Frag → Sp} {x : Str}
    (hn : l.most = some n) (hn2 : n ≤ sizeLine) (hdf : d.params.defaults = []) (hY : ∀ (w : World) (h : Heap), YP w h → (K w.params).In h)
    (F : ∀ (w : World) (mg : Str → Option Value) (fa : Addr) (h : Heap), (K w.params).In h → h.Ns mainGlobals mg → mg d.name = some (.ref fa) →
      ∃ fd : FuncData, (∀ (s : Shared) (u : Value), BindsTo s fd ⟨[u], []⟩ [(x, u)]) ∧ ∀ base : Heap, (K w.params).In base → base.Ns mainGlobals mg → FnAt callerA l.prog w (K w.params) mg base CX0 fa fd [x] (sp (K w.params)))
    (hsp : ∀ (K : PySem.W.Frag) (H : Hp) (a : Addr) (ns : List Int), ns.length ≤ n → Only H → SqL K H a (ns.map V.int) → sp K [.ref a] H (fun v _ => v = .bl true) fun _ _ _ => False) :
    PySem.W.WalkO q loose XP YP l.row.toRowW d [] (fun f vs => PySem.call f vs) :=
  Att.attach_call hn hdf fun w s₀ s₁ mg mb fa o pm cd doc a vs ns G Y ho hd hcd hmg hobj hints hlen hg => by
    obtain ⟨fd, hb, hF⟩ := F w mg fa _ (hY w _ Y) G.T.g hmg
    exact law_at (hY w _ Y) G.T.g G.T.b G.T.builtins G.T.nolimit hg hobj hints (Nat.le_trans hlen hn2) hF hb fun H hO hS => hsp _ H a ns hlen hO hS
/-- C() of an own error class without an __init__ of its own -/
theorem pe_excP {X : Cx} {x : Str} {C : Addr} {p pos : Pos} {bmB : List Value} {B newId initId : String} (F : ExcBaseFacts B newId initId bmB) (q : PySem.W.excIn X.K C bmB newId = true) (kC : PySem.W.keepIn X.K (.ref C) = true) (hg : Gl X x) (hm : X.mg x = some (.ref C))
    (hdb : (x == ("__debug__" : Str)) = false := by decide) : PE X (.Call (.Name x p) [] [] pos) (fun _ H Q => ∀ a, H a = none → Q (.ref a) (upd H a (exo a C none))) := by
  refine ⟨fun pins s σ H Q I h => ?_⟩
  refine wpAny_Call_Name_kw (ld_glob I hg hm ?_ hdb)
  refine PySem.W.callWith_K0 I.kIn kC ?_
  show wpAny _ _ (call (.ref C) []) _ _ _
  obtain ⟨bm, N, nm, qn, bs, hdct, sn, sub, ab, col, dd, k0, k1, k2, k3, k5, mN, hC, hN, hni, T⟩ := exc_obj I.kIn q
  refine wpAny_call_exc_subT F T hC hN hni (fun h' a hm => ?_) (by show 0 ≤ sizeLine; decide)
  have hn : H a = none := I.hok.gone hm.new
  obtain ⟨t, ht, _, _⟩ := hm.there
  exact ⟨.ref a, upd H a (exo a C none), I.laidN hm.keeps hm.new hn (exo_ok ht), rfl, h a hn⟩
end Ev
set_option maxHeartbeats 4000000
/-! Texts: how long, so many times, which signs; kinds of values. -/
namespace Ev
open PySem PySem.Spec PyProof.Rows L2
def rLenZ : List V → Hp → VK → Prop := fun xs H Q => ∃ z : Str, xs = [.str z] ∧ z.length ≤ sizeLine ∧ Q (.int z.length) H
theorem call_lenZ {X : Cx} : CallR X (.builtin "len") rLenZ := fun pins s σ H xs us Q I r h =>
  call_len pins s σ H xs us Q I r (let ⟨z, e, hz, q⟩ := h; ⟨.str z, z.length, e, ⟨hz, rfl⟩, q⟩)
def rMulS : R2 := fun x y H Q => ∃ (z : Str) (n : Int), x = .str z ∧ y = .int n ∧ 0 ≤ n ∧ n ≤ 2000 ∧ z.length ≤ 1000 ∧ Q (.str (Txt.mul z n)) H
theorem mul_ok {z : Str} {n : Int} (h0 : 0 ≤ n) (h1 : n ≤ 2000) (h2 : z.length ≤ 1000) : MulOk z n := by
  refine ⟨by simp; omega, fun a _ => ?_, fun _ _ => ?_⟩
  · have e : (1000 : Int) ≤ (2 ^ 63 - 1) / n := by
      refine Int.le_ediv_of_mul_le (by omega) ?_
      have : (2 : Int) ^ 63 - 1 = 9223372036854775807 := by decide
      omega
    omega
  · have e : z.length * n.toNat ≤ 1000 * 2000 := Nat.mul_le_mul h2 (by omega)
    have h3 : sizeLine = 16777216 := sizeLine_eq
    show decide (z.length * n.toNat > sizeLine) = false
    exact decide_eq_false (by omega)
theorem op_mulS {X : Cx} : OpR X (binaryOp .Mult) rMulS := by
  intro pins s σ H x y v u Q I rx ry h
  obtain ⟨z, n, rfl, rfl, h0, h1, h2, q⟩ := h
  obtain ⟨t, rfl⟩ := rx
  obtain ⟨t', rfl⟩ := ry
  exact SB.mul (mul_ok h0 h1 h2) fun t' k => ⟨.str _, H, I.tok _, ⟨_, rfl⟩, q⟩
/-- every sign of the text is one from the blank to the tilde -/
def sgC (c : Nat) : Bool := decide (32 ≤ c) && decide (c ≤ 126)
def sgB (z : Str) : Bool := z.cps.toList.all sgC
theorem prn128 : ∀ c : Fin 128, Unicode.isPrintable c.val = sgC c.val := by decide +kernel
theorem sgC_of (c : Nat) : (decide (c < 128) && Unicode.isPrintable c) = sgC c := by
  by_cases h : c < 128
  · rw [decide_eq_true h, Bool.true_and]
    exact prn128 ⟨c, h⟩
  · rw [decide_eq_false h, Bool.false_and]
    unfold sgC
    rw [decide_eq_false (show ¬ c ≤ 126 by omega), Bool.and_false]
theorem sgB_of (z : Str) : (Txt.isascii z && Txt.isprintable z) = sgB z := by
  unfold Txt.isascii Txt.isprintable sgB
  rw [← Array.all_toList, ← Array.all_toList]
  generalize z.cps.toList = l
  induction l with
  | nil => rfl
  | cons c l ih =>
    rw [List.all_cons, List.all_cons, List.all_cons, ← sgC_of, ← ih]
    cases decide (c < 128) <;> cases Unicode.isPrintable c <;> cases l.all (fun c => decide (c < 128)) <;> rfl
/-! ### kinds -/
inductive Kn | non | bl | int | str | lst | tup | dic
  deriving DecidableEq
def Kn.name : Kn → String
  | .non => "NoneType"
  | .bl => "bool"
  | .int => "int"
  | .str => "str"
  | .lst => "list"
  | .tup => "tuple"
  | .dic => "dict"
def kitB : Kn → Kn → Bool
  | .bl, .int => true
  | a, b => decide (a = b)
inductive Kd (H : Hp) : V → Kn → Prop
  | non : Kd H .non .non
  | bl (b : Bool) : Kd H (.bl b) .bl
  | int (i : Int) : Kd H (.int i) .int
  | str (z : Str) : Kd H (.str z) .str
  | lst {a : Addr} {xs : List V} (e : H a = some (.lst xs)) : Kd H (.ref a) .lst
  | tup {a : Addr} {xs : List V} (e : H a = some (.tup xs)) : Kd H (.ref a) .tup
  | dic {a : Addr} {kvs : List (Key × V)} (e : H a = some (.dK kvs)) : Kd H (.ref a) .dic
theorem Kd.tyx {K : PySem.W.Frag} {H : Hp} {x : V} {k : Kn} (h : Kd H x k) : TyX K H x (.type k.name) := by
  cases h with
  | non => exact .base .non
  | bl b => exact .base (.bl b)
  | int i => exact .base (.int i)
  | str z => exact .base (.str z)
  | lst e => exact .base (.lst e)
  | tup e => exact .base (.tup e)
  | dic e => exact .base (.dK e)
theorem Kd.same {H H' : Hp} (s : ∀ b o, H b = some o → H' b = some o) {x : V} {k : Kn} (h : Kd H x k) : Kd H' x k := by
  cases h with
  | non => exact .non
  | bl b => exact .bl b
  | int i => exact .int i
  | str z => exact .str z
  | lst e => exact .lst (s _ _ e)
  | tup e => exact .tup (s _ _ e)
  | dic e => exact .dic (s _ _ e)
theorem kit_kn {K : PySem.W.Frag} : ∀ a b : Kn, PySem.W.kitOne K (.type a.name) (.type b.name) = some (kitB a b) := by
  intro a b
  cases a <;> cases b <;> exact kit_ty (by decide +kernel)
theorem rd_isi {K : PySem.W.Frag} {H : Hp} {x : V} {k : Kn} {Q : VK} (T : Kn) (h : Kd H x k) (q : Q (.bl (kitB k T)) H) : rIsi K [x, .ty T.name] H Q :=
  ⟨x, .ty T.name, .type k.name, .type T.name, kitB k T, rfl, .ty _, h.tyx, kit_kn k T, q⟩
/-- for c in s -/
theorem for_strZ {z : Str} {g : TG} {tb : TS} {D : Ends} {σ : L2.St} {H : Hp} (Pv : Nat → L2.St → Hp → Prop) (h0 : Pv 0 σ H)
    (hs : ∀ i c σ H, z.cps[i]? = some c → Pv i σ H → g (.str ⟨#[c]⟩) σ H fun σ2 H2 => tb { D with nx := Pv (i + 1), ct := Pv (i + 1), bk := D.nx } σ2 H2) (hd : ∀ σ H, Pv z.cps.size σ H → D.nx σ H) :
    ∃ W : Nat → Nat → L2.St → Hp → Prop, (∃ m, W 0 m σ H) ∧ ∀ i m σ H, W i m σ H →
      ((Its z).stop i H ∧ D.nx σ H) ∨ ((Its z).go i H ∧ ∃ N : L2.St → Hp → Prop, (∀ σ' H', N σ' H' → ∃ m', m' < m ∧ W (i + 1) m' σ' H') ∧ ∀ x H', (Its z).yld i H x H' → g x σ H' fun σ2 H2 => tb { D with nx := N, ct := N, bk := D.nx } σ2 H2) := by
  refine ⟨fun i m σ H => m = z.cps.size - i ∧ i ≤ z.cps.size ∧ Pv i σ H, ⟨z.cps.size, by simp, Nat.zero_le _, h0⟩, ?_⟩
  rintro i m σ H ⟨rfl, hi, p⟩
  by_cases hlt : i < z.cps.size
  · refine .inr ⟨hlt, Pv (i + 1), fun σ' H' p' => ⟨z.cps.size - (i + 1), by omega, rfl, hlt, p'⟩, fun x H' y => ?_⟩
    obtain ⟨e, c, hc, ex⟩ := y
    subst e ex
    exact hs i c σ _ hc p
  · have e : i = z.cps.size := by omega
    subst e
    exact .inl ⟨Nat.le_refl _, hd σ H p⟩
def sgV : V → Bool
  | .str z => sgB z
  | _ => false
def wordV : V → Bool
  | .str z => sgB z && decide ((0 : Int) < (z.length : Int))
  | _ => false
/-- no text is too long -/
def Vs (x : V) : Prop := ∀ z, x = .str z → z.length ≤ 5000
theorem len5 {n : Nat} (h : n ≤ 5000) : n ≤ sizeLine := by
  have h3 : sizeLine = 16777216 := sizeLine_eq
  omega
def spSg : Sp := fun vs H Q _ => ∃ x k, vs = [x] ∧ Kd H x k ∧ Vs x ∧ Q (.bl (sgV x)) H
def spWd : Sp := fun vs H Q _ => ∃ x k, vs = [x] ∧ Kd H x k ∧ Vs x ∧ Q (.bl (wordV x)) H
def spInt : Sp := fun vs H Q _ => ∃ x k, vs = [x] ∧ Kd H x k ∧ Q (.bl (decide (k = .int))) H
def numV : V → Bool
  | .int i => decide (0 ≤ i)
  | _ => false
def spNum : Sp := fun vs H Q _ => ∃ x k, vs = [x] ∧ Kd H x k ∧ Q (.bl (numV x)) H
def inV2 (a b : Int) : V → Bool
  | .int i => decide (a ≤ i) && decide (i ≤ b)
  | _ => false
def spIn : Sp := fun vs H Q _ => ∃ x k a b, vs = [x, .int a, .int b] ∧ Kd H x k ∧ Q (.bl (inV2 a b x)) H
theorem sgB_at {z : Str} {i c : Nat} (h : z.cps[i]? = some c) (n : sgC c = false) : sgB z = false := by
  unfold sgB
  rw [List.all_eq_false]
  refine ⟨c, ?_, by simp [n]⟩
  rw [← Array.getElem?_toList] at h
  exact List.mem_of_getElem? h
theorem sgB_all {z : Str} (h : ∀ i c : Nat, z.cps[i]? = some c → sgC c = true) : sgB z = true := by
  unfold sgB
  rw [List.all_eq_true]
  intro c hc
  obtain ⟨i, hi, e⟩ := List.mem_iff_getElem.mp hc
  refine h i c ?_
  rw [← Array.getElem?_toList, List.getElem?_eq_getElem hi, e]
end Ev
set_option maxHeartbeats 4000000
namespace Ev
open PySem PySem.Spec PyProof.Rows L2
theorem joinL1 : ∀ cs : List Nat, TL.joinL [] (cs.map fun c => [c]) = cs
  | [] => rfl
  | [c] => rfl
  | c :: d :: r => by
    have e := joinL1 (d :: r)
    show [c] ++ ([] ++ TL.joinL [] ((d :: r).map fun c => [c])) = c :: d :: r
    rw [e]
    rfl
theorem join1 (cs : List Nat) : Txt.join (Str.ofString "") (cs.map fun c => SX.S [c]) = SX.S cs := by
  have e := SX.join_S [] (cs.map fun c => [c])
  rw [List.map_map, joinL1] at e
  exact e
theorem sgB_S (cs : List Nat) : sgB (SX.S cs) = cs.all sgC := rfl
theorem S_eta (z : Str) : SX.S z.cps.toList = z := SX.S_tl z
theorem len_S (z : Str) : z.length = z.cps.toList.length := by simp [Str.length]
theorem sgB_mem {z : Str} (h : sgB z = true) {c : Nat} (hc : c ∈ z.cps.toList) : sgC c = true := List.all_eq_true.mp h c hc
theorem sgB_of_mem {z : Str} (h : ∀ c ∈ z.cps.toList, sgC c = true) : sgB z = true := List.all_eq_true.mpr h
theorem sgB_cut {z : Str} (h : sgB z = true) (lo hi : Option Int) : sgB (cutS z lo hi) = true := by
  refine sgB_of_mem fun c hc => sgB_mem h ?_
  have hc' : c ∈ (z.cps.toList.drop (HT.sIx z.length 0 lo)).take (HT.sIx z.length z.length hi - HT.sIx z.length 0 lo) := by
    simpa [cutS] using hc
  exact List.mem_of_mem_drop (List.mem_of_mem_take hc')
theorem cut_len {z : Str} (lo hi : Option Int) : (cutS z lo hi).length ≤ z.length := by
  rw [len_S, len_S]
  have e : (cutS z lo hi).cps.toList = (z.cps.toList.drop (HT.sIx z.length 0 lo)).take (HT.sIx z.length z.length hi - HT.sIx z.length 0 lo) := by simp [cutS]
  rw [e, List.length_take, List.length_drop]
  omega
theorem cut_len2 {z : Str} (lo hi : Option Int) : (cutS z lo hi).length ≤ HT.sIx z.length z.length hi - HT.sIx z.length 0 lo := by
  rw [len_S]
  have e : (cutS z lo hi).cps.toList = (z.cps.toList.drop (HT.sIx z.length 0 lo)).take (HT.sIx z.length z.length hi - HT.sIx z.length 0 lo) := by simp [cutS]
  rw [e, List.length_take]
  omega
theorem sgB_app {a b : Str} (h1 : sgB a = true) (h2 : sgB b = true) : sgB (a ++ b) = true := by
  refine sgB_of_mem fun c hc => ?_
  have e : (a ++ b).cps.toList = a.cps.toList ++ b.cps.toList := TL.tl_append a b
  rw [e] at hc
  rcases List.mem_append.mp hc with h | h
  · exact sgB_mem h1 h
  · exact sgB_mem h2 h
theorem app_len (a b : Str) : (a ++ b).length = a.length + b.length := by
  have e : (a ++ b).cps.toList = a.cps.toList ++ b.cps.toList := TL.tl_append a b
  rw [len_S, e, List.length_append, ← len_S, ← len_S]
theorem rep_all (x : Array Nat) : ∀ (n : Nat) (acc : Array Nat), ((List.replicate n x).foldl (· ++ ·) acc).size = acc.size + n * x.size ∧ ∀ c ∈ ((List.replicate n x).foldl (· ++ ·) acc).toList, c ∈ acc.toList ∨ c ∈ x.toList
  | 0, acc => ⟨by simp, fun c h => .inl h⟩
  | n + 1, acc => by
    obtain ⟨h1, h2⟩ := rep_all x n (acc ++ x)
    rw [List.replicate_succ, List.foldl_cons]
    refine ⟨by rw [h1, Array.size_append, Nat.succ_mul]; omega, fun c hc => ?_⟩
    rcases h2 c hc with h | h
    · rw [Array.toList_append] at h
      exact List.mem_append.mp h
    · exact .inr h
theorem mul_facts (z : Str) (n : Int) : (Txt.mul z n).length ≤ z.length * n.toNat ∧ (sgB z = true → sgB (Txt.mul z n) = true) := by
  unfold Txt.mul
  by_cases h1 : n < 1
  · rw [if_pos h1]
    exact ⟨Nat.zero_le _, fun _ => rfl⟩
  · rw [if_neg h1]
    by_cases h2 : (n == 1 || z.length == 0) = true
    · rw [if_pos h2]
      exact ⟨Nat.le_mul_of_pos_right _ (by omega), fun h => h⟩
    · rw [if_neg h2]
      obtain ⟨r1, r2⟩ := rep_all z.cps n.toNat #[]
      refine ⟨?_, fun h => sgB_of_mem fun c hc => ?_⟩
      · show Array.size _ ≤ _
        rw [r1, Nat.mul_comm]
        show 0 + _ ≤ _
        rw [Nat.zero_add]
        exact Nat.le_refl _
      · rcases r2 c hc with q | q
        · cases q
        · exact sgB_mem h q
theorem cut_hi {z : Str} {lo : Option Int} {u : Int} (h : 0 ≤ u) : ((cutS z lo (some u)).length : Int) ≤ u := by
  have e := cut_len2 (z := z) lo (some u)
  have e2 : HT.sIx z.length z.length (some u) ≤ u.toNat := by
    show (if u < 0 then (u + (z.length : Int)).toNat else min u.toNat z.length) ≤ u.toNat
    rw [if_neg (by omega)]
    exact Nat.min_le_left _ _
  omega
theorem cut_lohi {z : Str} {b e : Int} (h : 0 ≤ b) (h2 : b ≤ e) : ((cutS z (some b) (some e)).length : Int) ≤ e - b := by
  have q := cut_len2 (z := z) (some b) (some e)
  have e1 : HT.sIx z.length z.length (some e) = min e.toNat z.length := by
    show (if e < 0 then (e + (z.length : Int)).toNat else min e.toNat z.length) = _
    rw [if_neg (by omega)]
  have e2 : HT.sIx z.length 0 (some b) = min b.toNat z.length := by
    show (if b < 0 then (b + (z.length : Int)).toNat else min b.toNat z.length) = _
    rw [if_neg (by omega)]
  rw [e1, e2] at q
  omega
end Ev
set_option maxHeartbeats 4000000
/-! Things that are judged: what they are, as far as it is asked. -/
namespace Ev
open PySem PySem.Spec PyProof.Rows L2
def dsm0 : PyData → Bool
  | .str z => decide (z.length ≤ 100)
  | _ => true
/-- no text in it is long -/
def dsm : PyData → Bool
  | .list ds => ds.all dsm0
  | .tuple ds => ds.all dsm0
  | d => dsm0 d
theorem Dt.kd {H : Hp} {v : V} {d : PyData} (h : Dt H v d) : ∃ k, Kd H v k := by
  cases h with
  | non => exact ⟨_, .non⟩
  | bl b => exact ⟨_, .bl b⟩
  | int i => exact ⟨_, .int i⟩
  | str x => exact ⟨_, .str x⟩
  | dic e => exact ⟨_, .dic e⟩
  | l0 e n => exact ⟨_, .lst e⟩
  | l1 e n _ => exact ⟨_, .lst e⟩
  | l2 e n _ _ => exact ⟨_, .lst e⟩
  | t0 e => exact ⟨_, .tup e⟩
  | t1 e _ => exact ⟨_, .tup e⟩
  | t2 e _ _ => exact ⟨_, .tup e⟩
theorem Dt.vs {H : Hp} {v : V} {d : PyData} (h : Dt H v d) (s : dsm0 d = true) : Vs v := by
  cases h with
  | str x =>
    intro z e
    cases e
    have q : x.length ≤ 100 := of_decide_eq_true s
    exact Nat.le_trans q (by decide)
  | non => exact fun z e => by cases e
  | bl b => exact fun z e => by cases e
  | int i => exact fun z e => by cases e
  | dic e => exact fun z e => by cases e
  | l0 e n => exact fun z e => by cases e
  | l1 e n _ => exact fun z e => by cases e
  | l2 e n _ _ => exact fun z e => by cases e
  | t0 e => exact fun z e => by cases e
  | t1 e _ => exact fun z e => by cases e
  | t2 e _ _ => exact fun z e => by cases e
/-- a thing; some xs: a tuple of xs -/
inductive Tg (H : Hp) : V → Option (List V) → Prop
  | no {x : V} {k : Kn} (h : Kd H x k) (n : k ≠ .tup) (s : Vs x) : Tg H x none
  | tup {a : Addr} {xs : List V} (e : H a = some (.tup xs)) (n : xs.length ≤ 30) (h : ∀ y ∈ xs, (∃ k, Kd H y k) ∧ Vs y) : Tg H (.ref a) (some xs)
theorem Tg.kd {H : Hp} {x : V} {o : Option (List V)} (h : Tg H x o) : ∃ k, Kd H x k ∧ (k = .tup ↔ o.isSome = true) := by
  cases h with
  | no h n s => exact ⟨_, h, fun e => absurd e n, fun e => by cases e⟩
  | tup e n h => exact ⟨_, .tup e, fun _ => rfl, fun _ => rfl⟩
theorem Tg.vs {H : Hp} {x : V} {o : Option (List V)} (h : Tg H x o) : Vs x := by
  cases h with
  | no h n s => exact s
  | tup e n h => exact fun z e => by cases e
theorem Tg.same {H H' : Hp} (s : ∀ b o, H b = some o → H' b = some o) {x : V} {o : Option (List V)} (h : Tg H x o) : Tg H' x o := by
  cases h with
  | no h n z => exact .no (h.same s) n z
  | tup e n h => exact .tup (s _ _ e) n fun y hy => ⟨let ⟨k, q⟩ := (h y hy).1; ⟨k, q.same s⟩, (h y hy).2⟩
theorem Dt.tg {H : Hp} {v : V} {d : PyData} (h : Dt H v d) (s : dsm d = true) : ∃ o, Tg H v o := by
  cases h with
  | non => exact ⟨_, .no .non (by decide) fun z e => by cases e⟩
  | bl b => exact ⟨_, .no (.bl b) (by decide) fun z e => by cases e⟩
  | int i => exact ⟨_, .no (.int i) (by decide) fun z e => by cases e⟩
  | str x => exact ⟨_, .no (.str x) (by decide) (Dt.vs (.str (H := H) x) s)⟩
  | dic e => exact ⟨_, .no (.dic e) (by decide) fun z e => by cases e⟩
  | l0 e n => exact ⟨_, .no (.lst e) (by decide) fun z e => by cases e⟩
  | l1 e n _ => exact ⟨_, .no (.lst e) (by decide) fun z e => by cases e⟩
  | l2 e n _ _ => exact ⟨_, .no (.lst e) (by decide) fun z e => by cases e⟩
  | t0 e => exact ⟨_, .tup e (by decide) fun y hy => absurd hy (by simp)⟩
  | @t1 a x d e hx =>
    have s1 : dsm0 d = true := List.all_eq_true.mp s d (by simp)
    exact ⟨_, .tup e (by simp) fun y hy => by
      obtain rfl := List.mem_singleton.mp hy
      exact ⟨hx.kd, hx.vs s1⟩⟩
  | @t2 a x z d1 d2 e hx hz =>
    have s1 : dsm0 d1 = true := List.all_eq_true.mp s d1 (by simp)
    have s2 : dsm0 d2 = true := List.all_eq_true.mp s d2 (by simp)
    refine ⟨_, .tup e (by simp) fun y hy => ?_⟩
    rcases List.mem_cons.mp hy with g | g
    · rw [g]
      exact ⟨hx.kd, hx.vs s1⟩
    · rw [List.mem_singleton.mp g]
      exact ⟨hz.kd, hz.vs s2⟩
def slen : V → Nat
  | .str z => z.length
  | _ => 0
/-- what is wrong with a thing that is to be texts -/
def badOf : Option (List V) → V
  | none => .int (-1)
  | some xs => if xs.length > 8 then .int (-1) else match xs.findIdx? (fun y => !sgV y) with
    | some k => .int (k : Int)
    | none => if (xs.map slen).sum > 2000 then .str (Str.ofString "long") else .non
/-- whether a thing is a place of these texts -/
def placeV (ts : List Str) : Option (List V) → Bool
  | some [x, y] => inV2 0 ((ts.length : Int) - 1) x && (match x with
    | .int i => inV2 0 (((ts.getD i.toNat Str.empty).length : Int) - 1) y
    | _ => false)
  | _ => false
end Ev
set_option maxHeartbeats 4000000
namespace Ev
open PySem PySem.Spec PyProof.Rows L2
theorem bad1 {xs : List V} (h : xs.length > 8) : badOf (some xs) = .int (-1) := if_pos h
theorem bad2 {xs : List V} {i : Nat} {y : V} (h : ¬ xs.length > 8) (hy : xs[i]? = some y) (b : sgV y = false) (g : ∀ (j : Nat) c, j < i → xs[j]? = some c → sgV c = true) : badOf (some xs) = .int (i : Int) := by
  obtain ⟨hi, ey⟩ := List.getElem?_eq_some_iff.mp hy
  have e : xs.findIdx? (fun y => !sgV y) = some i := by
    rw [List.findIdx?_eq_some_iff_getElem]
    refine ⟨hi, by rw [ey, b]; rfl, fun j hj => ?_⟩
    rw [g j xs[j] hj (List.getElem?_eq_getElem (by omega))]
    simp
  show (if xs.length > 8 then V.int (-1) else match xs.findIdx? (fun y => !sgV y) with
    | some k => V.int (k : Int)
    | none => if (xs.map slen).sum > 2000 then V.str (Str.ofString "long") else V.non) = _
  rw [if_neg h, e]
theorem good_none {xs : List V} (g : ∀ c ∈ xs, sgV c = true) : xs.findIdx? (fun y => !sgV y) = none := by
  rw [List.findIdx?_eq_none_iff]
  intro c hc
  rw [g c hc]
  rfl
theorem bad3 {xs : List V} (h : ¬ xs.length > 8) (g : ∀ c ∈ xs, sgV c = true) (s : (xs.map slen).sum > 2000) : badOf (some xs) = .str (Str.ofString "long") := by
  show (if xs.length > 8 then V.int (-1) else match xs.findIdx? (fun y => !sgV y) with
    | some k => V.int (k : Int)
    | none => if (xs.map slen).sum > 2000 then V.str (Str.ofString "long") else V.non) = _
  rw [if_neg h, good_none g]
  exact if_pos s
theorem bad4 {xs : List V} (h : ¬ xs.length > 8) (g : ∀ c ∈ xs, sgV c = true) (s : ¬ (xs.map slen).sum > 2000) : badOf (some xs) = .non := by
  show (if xs.length > 8 then V.int (-1) else match xs.findIdx? (fun y => !sgV y) with
    | some k => V.int (k : Int)
    | none => if (xs.map slen).sum > 2000 then V.str (Str.ofString "long") else V.non) = _
  rw [if_neg h, good_none g]
  exact if_neg s
/-- what is right: at most eight texts of signs -/
theorem bad_non {o : Option (List V)} (h : badOf o = .non) : ∃ xs, o = some xs ∧ xs.length ≤ 8 ∧ (∀ c ∈ xs, sgV c = true) ∧ (xs.map slen).sum ≤ 2000 := by
  cases o with
  | none => cases h
  | some xs =>
    by_cases h1 : xs.length > 8
    · rw [bad1 h1] at h
      cases h
    · cases e : xs.findIdx? (fun y => !sgV y) with
      | some k =>
        have h' : (if xs.length > 8 then V.int (-1) else match xs.findIdx? (fun y => !sgV y) with
          | some k => V.int (k : Int)
          | none => if (xs.map slen).sum > 2000 then V.str (Str.ofString "long") else V.non) = V.non := h
        rw [if_neg h1, e] at h'
        cases h'
      | none =>
        have g : ∀ c ∈ xs, sgV c = true := fun c hc => by
          have := List.findIdx?_eq_none_iff.mp e c hc
          simpa using this
        refine ⟨xs, rfl, by omega, g, ?_⟩
        by_cases s : (xs.map slen).sum > 2000
        · rw [bad3 h1 g s] at h
          cases h
        · omega
theorem sg_str {y : V} (h : sgV y = true) : ∃ z, y = .str z := by
  cases y with
  | str z => exact ⟨z, rfl⟩
  | non => cases h
  | bl b => cases h
  | int i => cases h
  | byt b => cases h
  | flt b => cases h
  | ref a => cases h
  | ty n => cases h
theorem bad_strs {xs : List V} (g : ∀ c ∈ xs, sgV c = true) : ∃ ts : List Str, xs = ts.map V.str ∧ ∀ t ∈ ts, sgB t = true := by
  induction xs with
  | nil => exact ⟨[], rfl, fun t h => absurd h (by simp)⟩
  | cons y xs ih =>
    obtain ⟨z, rfl⟩ := sg_str (g y (by simp))
    obtain ⟨ts, rfl, h⟩ := ih fun c hc => g c (List.mem_cons_of_mem _ hc)
    refine ⟨z :: ts, rfl, fun t ht => ?_⟩
    rcases List.mem_cons.mp ht with e | e
    · rw [e]
      exact g (.str z) (by simp)
    · exact h t e
theorem sum_cast (ns : List Nat) : (ns.map fun n : Nat => (n : Int)).sum = ((ns.sum : Nat) : Int) := by
  induction ns with
  | nil => rfl
  | cons n ns ih =>
    rw [List.map_cons, List.sum_cons, List.sum_cons, ih]
    simp
/-- the lengths of the texts of a tuple -/
theorem lc_lens {K : PySem.W.Frag} {a : Addr} {ts : List Str} {i : Nat} {σ : L2.St} {H1 : Hp} {D : Addr} {Qd : Hp → Prop} (hi : i < σ.length) (ha : H1 a = some (.tup (ts.map V.str))) (nD : H1 D = none) (hlen : ∀ t ∈ ts, t.length ≤ 5000) (hn : ts.length ≤ 1000)
    (hd : ∀ H, H D = some (.lst ((ts.map fun t => (t.length : Int)).map V.int)) → Same H1 H → Qd H) :
    ∃ W : Nat → Nat → Hp → Prop, (∃ m, W 0 m (upd H1 D (.lst []))) ∧ ∀ j m H, W j m H →
      ((Itt K a).stop j H ∧ Qd H) ∨ ((Itt K a).go j H ∧ ∃ Nx : Hp → Prop, (∀ H', Nx H' → ∃ m', m' < m ∧ W (j + 1) m' H') ∧ ∀ x H', (Itt K a).yld j H x H' → gName i x (wipe σ [i]) H' fun σ2 H2 => wipe σ2 [i] = wipe σ [i] ∧ tYes σ2 H2 fun b H3 =>
        if b = true then tCB rLenZ (tCons (tVar i) tNil) σ2 H3 fun y H4 => ∃ acc, H4 D = some (.lst acc) ∧ acc.length < sizeLine ∧ Nx (upd H4 D (.lst (acc ++ [y]))) else Nx H3) := by
  have sAt : ∀ {H' : Hp} {o : HO}, Same H1 H' → Same H1 (upd H' D o) := fun {H' o} k b u e => by
    rw [upd_ne (ne_of_none e nD)]
    exact k b u e
  refine lc_tup (K := K) (xs := ts.map V.str) (fun j H => H D = some (.lst (((ts.take j).map fun t => (t.length : Int)).map V.int)) ∧ Same H1 H) ⟨upd_same, sAt (Same.refl _)⟩ (fun j H _ p => SqT.of (p.2 _ _ ha)) (fun j x H hx p => ?_) (fun H p => ?_)
  · rw [List.getElem?_map] at hx
    cases e : ts[j]? with
    | none => rw [e] at hx; cases hx
    | some t =>
      rw [e] at hx
      obtain rfl : V.str t = x := Option.some.inj hx
      have hm := List.mem_of_getElem? e
      obtain ⟨hD, hs⟩ := p
      have hw : ((wipe σ [i]).set i (some (V.str t)))[i]? = some (some (V.str t)) := by
        rw [List.getElem?_set_self]
        show i < (σ.set i none).length
        rw [List.length_set]
        exact hi
      refine ⟨?_, .str t, hw, t, rfl, len5 (hlen t hm), _, hD, ?_, ?_, sAt hs⟩
      · show ((σ.set i none).set i (some (V.str t))).set i none = σ.set i none
        rw [List.set_set, List.set_set]
      · have h3 : sizeLine = 16777216 := sizeLine_eq
        rw [List.length_map, List.length_map, List.length_take]
        omega
      · rw [upd_same]
        have et : ts.take (j + 1) = ts.take j ++ [t] := by
          rw [List.take_add_one, e]
          rfl
        rw [et, List.map_append, List.map_append]
        rfl
  · obtain ⟨hD, hs⟩ := p
    rw [List.length_map, List.take_length] at hD
    exact hd H hD hs
theorem lens_sum (ts : List Str) : (ts.map fun t => (t.length : Int)).sum = ((((ts.map V.str).map slen).sum : Nat) : Int) := by
  rw [List.map_map, ← sum_cast, List.map_map]
  rfl
end Ev
set_option maxHeartbeats 4000000
/-! Tuples put together and cut, the heap only growing. -/
namespace Ev
open PySem PySem.Spec PyProof.Rows L2
def rCatM : R2 := fun x y H Q => ∃ a b xs ys, x = .ref a ∧ y = .ref b ∧ H a = some (.tup xs) ∧ H b = some (.tup ys) ∧ xs.length + ys.length ≤ 1000 ∧ ∀ p H', Same H H' → H' p = some (.tup (xs ++ ys)) → Q (.ref p) H'
theorem sameNew {H : Hp} {q : Addr} {o : HO} (h : H q = none) : Same H (upd H q o) := fun b u e => by
  rw [upd_ne (ne_of_none e h)]
  exact e
theorem op_catM {X : Cx} : OpR X (binaryOp .Add) rCatM := fun pins s σ H x y v u Q I rx ry h =>
  op_catA pins s σ H x y v u Q I rx ry (by
    obtain ⟨a, b, xs, ys, ex, ey, ha, hb, hz, q⟩ := h
    refine ⟨a, b, xs, ys, ex, ey, SqT.of ha, SqT.of hb, ?_, fun e => ?_, fun _ e => ?_, fun _ _ p np => ?_⟩
    · have h3 : sizeLine = 16777216 := sizeLine_eq
      omega
    · refine q b H (Same.refl H) ?_
      rw [e, List.nil_append]
      exact hb
    · refine q a H (Same.refl H) ?_
      rw [e, List.append_nil]
      exact ha
    · exact q p _ (sameNew np) upd_same)
def rSlM : V → Option Int → Option Int → Hp → VK → Prop := fun x lo hi H Q => ∃ a xs, x = .ref a ∧ H a = some (.tup xs) ∧ ∀ p H', Same H H' → H' p = some (.tup (cutV xs lo hi)) → Q (.ref p) H'
theorem sl_tupM {X : Cx} : SlR X rSlM := fun pins s σ H x v vl vu lo hi sl Q I rx hs pl pu h =>
  sl_tupA pins s σ H x v vl vu lo hi sl Q I rx hs pl pu (by
    obtain ⟨a, xs, ex, ha, q⟩ := h
    refine ⟨a, xs, ex, SqT.of ha, fun e => ?_, fun _ p np => q p _ (sameNew np) upd_same⟩
    refine q a H (Same.refl H) ?_
    have ec : cutV xs lo hi = xs := by
      unfold cutV
      rw [e.1, e.2, List.drop_zero, Nat.sub_zero, List.take_length]
    rw [ec]
    exact ha)
theorem cutV_mem {xs : List V} {lo hi : Option Int} {y : V} (h : y ∈ cutV xs lo hi) : y ∈ xs := List.mem_of_mem_drop (List.mem_of_mem_take h)
/-- the place that is one -/
theorem place_true {ts : List Str} {o : Option (List V)} (h : placeV ts o = true) : ∃ (i j : Int), o = some [.int i, .int j] ∧ 0 ≤ i ∧ i < ts.length ∧ 0 ≤ j ∧ j < ((ts.getD i.toNat Str.empty).length : Int) := by
  unfold placeV at h
  split at h
  · rename_i x y
    obtain ⟨h1, h2⟩ := Bool.and_eq_true_iff.mp h
    cases x with
    | int i =>
      obtain ⟨a1, a2⟩ := Bool.and_eq_true_iff.mp (show (decide (0 ≤ i) && decide (i ≤ (ts.length : Int) - 1)) = true from h1)
      have a1 := of_decide_eq_true a1
      have a2 := of_decide_eq_true a2
      cases y with
      | int j =>
        obtain ⟨b1, b2⟩ := Bool.and_eq_true_iff.mp (show (decide (0 ≤ j) && decide (j ≤ ((ts.getD i.toNat Str.empty).length : Int) - 1)) = true from h2)
        have b1 := of_decide_eq_true b1
        have b2 := of_decide_eq_true b2
        exact ⟨i, j, rfl, a1, by omega, b1, by omega⟩
      | non => cases h2
      | bl b => cases h2
      | str b => cases h2
      | byt b => cases h2
      | flt b => cases h2
      | ref b => cases h2
      | ty b => cases h2
    | non => cases h1
    | bl b => cases h1
    | str b => cases h1
    | byt b => cases h1
    | flt b => cases h1
    | ref b => cases h1
    | ty b => cases h1
  · cases h
theorem text_at {ts : List Str} {i : Int} (h0 : 0 ≤ i) (h1 : i < ts.length) : atI (ts.map V.str) i = some (.str (ts.getD i.toNat Str.empty)) ∧ ts.getD i.toNat Str.empty ∈ ts := by
  have hi : i.toNat < ts.length := by omega
  constructor
  · have e1 : i = ((i.toNat : Nat) : Int) := by omega
    rw [e1]
    refine atI_nat ?_
    rw [List.getElem?_map, List.getD_eq_getElem?_getD, Int.toNat_natCast, List.getElem?_eq_getElem hi]
    rfl
  · rw [List.getD_eq_getElem?_getD, List.getElem?_eq_getElem hi]
    exact List.getElem_mem hi
end Ev
set_option maxHeartbeats 4000000
namespace Ev
open PySem PySem.Spec PyProof.Rows L2
/-- x is True, x is False, x any value of a kind -/
def rIsT : R2 := fun x y H Q => ∃ (b : Bool) (k : Kn), y = .bl b ∧ Kd H x k ∧ Q (.bl (decide (x = .bl b))) H
theorem op_isT {X : Cx} : OpR X (compareOp .Is) rIsT := by
  intro pins s σ H x y v u Q I rx ry h
  obtain ⟨b, k, rfl, hk, q⟩ := h
  cases (show u = Value.bool b from ry)
  cases hk with
  | bl a =>
    refine op_isBl pins s σ H _ (.bl b) v _ Q I rx rfl ⟨a, b, rfl, rfl, ?_⟩
    have e : decide (V.bl a = V.bl b) = decide (a = b) := by
      by_cases z : a = b
      · subst z
        simp
      · rw [decide_eq_false z, decide_eq_false fun w => z (V.bl.inj w)]
    rw [e] at q
    exact q
  | non =>
    cases rx
    exact wpAny_is_other rfl (fun z => by cases z) ⟨.bl false, H, I, rfl, by simpa using q⟩
  | int i =>
    obtain ⟨t, rfl⟩ := rx
    exact wpAny_is_other rfl (fun z => by cases z) ⟨.bl false, H, I, rfl, by simpa using q⟩
  | str i =>
    obtain ⟨t, rfl⟩ := rx
    exact wpAny_is_other rfl (fun z => by cases z) ⟨.bl false, H, I, rfl, by simpa using q⟩
  | lst e =>
    cases rx
    exact wpAny_is_other rfl (fun z => by cases z) ⟨.bl false, H, I, rfl, by simpa using q⟩
  | tup e =>
    cases rx
    exact wpAny_is_other rfl (fun z => by cases z) ⟨.bl false, H, I, rfl, by simpa using q⟩
  | dic e =>
    cases rx
    exact wpAny_is_other rfl (fun z => by cases z) ⟨.bl false, H, I, rfl, by simpa using q⟩
end Ev
set_option maxHeartbeats 4000000
/-! A text read from its end. -/
namespace Ev
open PySem PySem.Spec PyProof.Rows L2
def revC (z : Str) : List Nat := (List.range z.length).map fun k => z.cps.getD (z.length - 1 - k) 0
def revZ (z : Str) : Str := SX.S (revC z)
theorem rev_pick (z : Str) : (Builtin.Str.strSliceIndices none none (-1) z.length).filterMap (z.cps[·]?) = revC z := by
  rw [picked_rev, filterMap_get, List.map_map]
  · rfl
  · intro i hi
    obtain ⟨k, hk, rfl⟩ := List.mem_map.mp hi
    have hk' := List.mem_range.mp hk
    show z.length - 1 - k < z.length
    omega
theorem revC_len (z : Str) : (revC z).length = z.length := by
  unfold revC
  rw [List.length_map, List.length_range]
theorem revZ_len (z : Str) : (revZ z).length = z.length := (SX.S_len _).trans (revC_len z)
theorem revC_mem {z : Str} {c : Nat} (h : c ∈ revC z) : c ∈ z.cps.toList := by
  obtain ⟨k, hk, rfl⟩ := List.mem_map.mp h
  have hk' := List.mem_range.mp hk
  have hi : z.length - 1 - k < z.cps.size := by
    show z.length - 1 - k < z.length
    omega
  have e : z.cps.getD (z.length - 1 - k) 0 = z.cps[z.length - 1 - k] := by simp [Array.getD, hi]
  rw [e]
  exact Array.getElem_mem_toList hi
theorem sgB_rev {z : Str} (h : sgB z = true) : sgB (revZ z) = true := List.all_eq_true.mpr fun c hc => sgB_mem h (revC_mem hc)
def tRevS (te : TE) : TE := fun σ H Q => te σ H fun x H1 => ∃ z : Str, x = .str z ∧ z.length ≤ sizeLine ∧ Q (.str (revZ z)) H1
theorem pe_revS {X : Cx} {e : Expr} {te : TE} {k : Nat} {p1 p2 p3 pos : Pos} (he : PE X e te) :
    PE X (.Subscript e (.Slice none none (some (.UnaryOp .USub (.Constant (.int 1) k p1) p2)) p3) pos) (tRevS te) := by
  constructor
  intro pins s σ H Q I h
  apply Subscript_
  refine thn (he.run pins s σ H _ I h) ?_
  rintro v s1 ⟨x, H1, I1, r1, z, rfl, hz, q⟩
  obtain ⟨t, rfl⟩ := r1
  have hst : PO X (some (.UnaryOp .USub (.Constant (.int 1) k p1) p2)) _ := po_some (pe_un un_neg pe_int)
  apply wpAny_Slice
  refine thn (po_none.run pins s1 σ H1 (fun o H2 => o = none ∧ H2 = H1) I1 ⟨rfl, rfl⟩) ?_
  rintro vl s2 ⟨l, H2, I2, pl, rfl, rfl⟩
  refine thn (po_none.run pins s2 σ _ (fun o H3 => o = none ∧ H3 = H2) I2 ⟨rfl, rfl⟩) ?_
  rintro vu s3 ⟨u, H3, I3, pu, rfl, rfl⟩
  refine thn (hst.run pins s3 σ _ (fun o H4 => o = some (-1) ∧ H4 = H3) I3 ⟨1, rfl, -1, rfl, rfl, rfl⟩) ?_
  rintro vs s4 ⟨o, H4, I4, pz, rfl, rfl⟩
  have I5 := I4.kept (t' := s4.toks) (h' := s4.heap.push { cls := .type "slice", data := .fields #[vl, vu, vs] }) fun b ob g => Heap.get?_push_of_some _ g
  obtain ⟨l', rfl, el⟩ := IsPart.raw pl
  obtain ⟨u', rfl, eu⟩ := IsPart.raw pu
  obtain ⟨w', rfl, ew⟩ := IsPart.raw pz
  refine tail_any (ops := [.str z t, .ref s4.heap.objs.size]) (typeIs_str _ _ _) F.slot_str_getitem.lookup ?_ (by with_unfolding_all rfl)
  have e1 : ((w'.map (·.1)).getD 1 == 1) = false := by rw [ew]; rfl
  have e0 : ((w'.map (·.1)).getD 1 == 0) = false := by rw [ew]; rfl
  refine wpAny_getItem_str_slice (l := l') (u := u') (st := w') (Heap.IsSliceOf.new ..) e0 ?_
  have em : sliceMade z t l' u' w' = Made.str (revZ z) := by
    unfold sliceMade
    rw [e1, Bool.false_and, if_neg (by decide)]
    have e2 : slicePicked z l' u' w' = Builtin.Str.strSliceIndices none none (-1) z.length := by
      unfold slicePicked
      rw [el, eu, ew]
      rfl
    rw [e2, rev_pick]
    rfl
  rw [em]
  refine ⟨?_, .str (revZ z), H4, I5.tok _, ⟨_, rfl⟩, q⟩
  rw [revZ_len]
  exact hz
end Ev
set_option maxHeartbeats 8000000
/-! enumerate over a tuple, as a walk. -/
namespace Ev
open PySem PySem.Spec PyProof.Rows L2
abbrev enObj (it : Addr) : Obj := { cls := .type "enumerate", data := .fields #[.none, .bool false, .ref it, rawInt 0, .none, .none] }
theorem enum_new1 {v : Value} {o : Obj} {Hh : Heap → Prop} (B : Begins v o Hh) :
    Meets (Builtin.«enumerate.__new__» ⟨[.type "enumerate", v], []⟩)
      (fun _ R s => Hh s.heap ∧ R (.ok (.ret (.ref (s.heap.push o).objs.size))) { s with heap := (s.heap.push o).push (enObj s.heap.objs.size) }) := by
  refine .of_wp fun prog w A R s hh => ?_
  obtain ⟨hp, g, d, tk, os⟩ := s
  obtain ⟨hv, hR⟩ := hh
  have hs := sub_enumerate
  have qi : ∀ {B' : Around} {E : Value → Shared → Prop} {Q : Value → Shared → Prop}, Q (.ref hp.objs.size) ⟨hp.push o, g, d, tk, os⟩ →
      wpAny (model prog w) B' (pyIter v) Q E ⟨hp, g, d, tk, os⟩ := fun q => B.iter prog w _ _ ⟨hp, g, d, tk, os⟩ _ hv q
  wp_walk using qi
  apply wpAny_stack_any
  intro st
  apply wpAny_pure
  split
  · rename_i c _ _ _ _ _
    cases (c == Value.type "enumerate") <;> (wp_walk using qi; exact ⟨_, rfl, hR⟩)
  · wp_walk using qi
    exact ⟨_, rfl, hR⟩
theorem enum_call {prog : Program} {w : World} {A : Around} {E : Value → Shared → Prop} {s : Shared} {v : Value} {o : Obj} {Hh : Heap → Prop} {Q : Value → Shared → Prop} (B : Begins v o Hh) (hv : Hh s.heap)
    (h : ∀ h', IsEnum h' (s.heap.objs.size + 1) s.heap.objs.size 0 .none → h'.get? s.heap.objs.size = some o → (∀ b u, s.heap.get? b = some u → h'.get? b = some u) →
      Q (.ref (s.heap.objs.size + 1)) { s with heap := h' }) : wpAny (model prog w) A (call (.type "enumerate") [v]) Q E s := by
  have m := enum_new1 B
  refine callType_new F.called_enumerate (by decide) (F.typeCall_enumerate_1 _) (F.newCall_enumerate_1 _) (fun obj => F.args_object_init_2 obj _) F.entry_enumerate_new m ⟨hv, ?_⟩
  have hsz : (s.heap.push o).objs.size = s.heap.objs.size + 1 := Heap.size_push ..
  show _ ∧ _
  rw [hsz]
  have hat : ((s.heap.push o).push (enObj s.heap.objs.size)).get? (s.heap.objs.size + 1) = some (enObj s.heap.objs.size) := by
    have z := Heap.get?_push_size (s.heap.push o) (o := enObj s.heap.objs.size) rfl
    rw [hsz] at z
    exact z
  exact ⟨⟨_, hat, rfl⟩, h _ hat (Heap.get?_push_of_some _ (Heap.get?_push_size _ B.free)) fun b u x => Heap.get?_push_of_some _ (Heap.get?_push_of_some _ x)⟩
/-- the tuple at a as it stands at each turn, each item in a new pair -/
def Iten (K : PySem.W.Frag) (a : Addr) : It :=
  ⟨fun i H => ∃ (xs : List V) (x : V), SqT K H a xs ∧ xs[i]? = some x,
   fun i H v H' => ∃ T x, v = .ref T ∧ H T = none ∧ H' = upd H T (.tup [.int (i : Nat), x]) ∧ ∀ xs, SqT K H a xs → xs[i]? = some x,
   fun i H => ∃ xs : List V, SqT K H a xs ∧ xs.length ≤ i⟩
theorem turn_en {P : Program} {w : World} {K : PySem.W.Frag} {elts : List Expr} {kk : Nat} {tpos : Pos} (a e it : Addr) :
    Turn P w K (.Tuple elts kk tpos) (Iten K a) [e, it] e (fun i h => (∃ old, IsEnum h e it ((i : Nat) : Int) old) ∧ h.IsTupleIter it a i ∧ e ≠ it ∧ a ≠ it ∧ a ≠ e) where
  mem := List.mem_cons_self
  obj := by
    rintro i h ⟨⟨old, he⟩, ⟨o, ho, hc, hd⟩, _⟩ b hb
    rcases List.mem_cons.mp hb with rfl | hb
    · exact ⟨_, he, fun v q => by cases q⟩
    · obtain rfl := List.mem_singleton.mp hb
      exact ⟨o, ho, fun v q => by rw [hd] at q; cases q⟩
  keep := by
    rintro i h h' ⟨⟨old, he⟩, hi, hn⟩ k
    exact ⟨⟨old, k e (by simp) _ he⟩, hi.at fun o q => k it (by simp) o q, hn⟩
  item := by
    intro X hP hw hK hc i pins s σ H E I hf st hg
    subst hP hw hK
    obtain ⟨⟨old, he⟩, hit, hne, hai, hae⟩ := st
    obtain ⟨xs, x, hq, hx⟩ := hg
    obtain ⟨its, rv, p, hz⟩ := I.tuple hq
    obtain ⟨u, hu, ru⟩ := rv.get hx
    have hel : e < s.heap.objs.size := Heap.lt_size he
    have hil : it < s.heap.objs.size := by
      obtain ⟨_, q, _⟩ := hit
      exact Heap.lt_size q
    have hlt : i < its.toArray.size := by
      rw [List.size_toArray]
      exact (List.getElem?_eq_some_iff.mp hu).1
    have D := Draws.tuple (prog := X.prog) (w := X.w) (A := X.A.in1) (I.ok.hd hc) it a hai its.toArray
    refine wpAny_pyNext_enum_itemD D he ⟨hit, (show s.heap.IsTuple a its.toArray from p)⟩ hlt hne (by simp [hne, Ne.symm hae]) fun y h' tk hy ho hst hT hsz hk => ?_
    have ey : y = u := by
      have z : its.toArray[i]? = some y := hy
      rw [List.getElem?_toArray, hu] at z
      exact (Option.some.inj z).symm
    subst ey
    refine ⟨_, rfl, ?_⟩
    refine wpAny_letOwnedTupleGo_enum (s := ⟨h', s.gens, s.drawn, tk + 1, s.os⟩) ho ?_
    intro h2 he2 sb
    have at2 : h2.get? s.heap.objs.size = some { cls := .type "tuple", data := .seq #[.int i tk, y] } := by
      rw [sb.2 _ (Nat.ne_of_gt hel)]
      exact hT
    have cell : ObjOk X.prog X.w (upd H s.heap.objs.size (.tup [.int (i : Nat), x])) h2 s.heap.objs.size (.tup [.int (i : Nat), x]) := by
      refine ⟨by show 2 ≤ sizeLine; decide, [.int i tk, y], .cons ⟨_, rfl⟩ (.cons ru .nil), ⟨_, at2, rfl, _, rfl⟩⟩
    have far : ∀ b ob, b ∉ [e, it] → s.heap.get? b = some ob → h2.get? b = some ob := fun b ob hb q => by
      have n1 : b ≠ e := fun z => hb (by simp [z])
      have n2 : b ≠ it := fun z => hb (by simp [z])
      rw [sb.2 b n1]
      exact hk b ob n1 n2 q
    have J := I.turnedNew (ch := [e, it]) (t' := tk + 1) far hf (Nat.le_refl _) cell
    refine ⟨.ref s.heap.objs.size, _, J, rfl, ⟨_, x, rfl, I.hok.fresh (Nat.le_refl _), rfl, fun ys hy => by rw [I.tuple_inj hy hq]; exact hx⟩, ⟨⟨y, ?_⟩, ?_, hne, hai, hae⟩, fun b hb => ?_⟩
    · have e1 : ((i + 1 : Nat) : Int) = (i : Int) + 1 := by omega
      rw [e1]
      exact he2
    · exact hst.1.at fun o q => by
        rw [sb.2 it (Ne.symm hne)]
        exact q
    · have lt : b < s.heap.objs.size := by
        rcases List.mem_cons.mp hb with rfl | hb
        · exact hel
        · obtain rfl := List.mem_singleton.mp hb
          exact hil
      rw [upd_ne (Nat.ne_of_lt lt)]
      exact (hf b hb).1
  done := by
    intro X hP hw hK hc i pins s σ H E I hf st hg
    subst hP hw hK
    obtain ⟨⟨old, he⟩, hit, hne, hai, hae⟩ := st
    obtain ⟨xs, hq, hx⟩ := hg
    obtain ⟨its, rv, p, hz⟩ := I.tuple hq
    obtain ⟨f0, f1, f2, f3, f4, f5⟩ := hf it (by simp)
    have hl := rv.length
    have none_i : its.toArray[i]? = none := by
      rw [List.getElem?_toArray, List.getElem?_eq_none_iff]
      omega
    have D : Draws X.prog X.w X.A.in1 it [it, a] i (fun j v => its.toArray[j]? = some v) (fun j h => (h.IsTupleIter it a j ∧ h.IsTuple a its.toArray) ∧ i ≤ j) :=
      { live := fun _ _ st => let ⟨o, ho, _⟩ := st.1.1; ⟨o, ho⟩
        frame := fun _ _ _ st hk => ⟨⟨st.1.1.at fun o e => hk it (by simp) o e, st.1.2.at fun o e => hk a (by simp) o e⟩, st.2⟩
        item := fun j _ _ _ hj st _ => absurd st.2 (by omega)
        done := fun s Q E st hE => wpAny_nextOf_tuple_end (I.ok.hd hc) st.1.1 st.1.2 none_i hE }
    refine wpAny_pyNext_enum_endD D he ⟨⟨hit, (show s.heap.IsTuple a its.toArray from p)⟩, Nat.le_refl _⟩ fun h' eb => ⟨rfl, ?_⟩
    exact I.turned (t' := s.toks) (fun b o hb q => eb b o hb q) f0 f1 f3 f4 f5
  self := fun A i s Q E st h => by
    obtain ⟨⟨_, he⟩, _⟩ := st
    exact wpAny_pyIter_enum he h
def iEnumT (K : PySem.W.Frag) (ta : TA) : TI := fun σ H R => ta σ H fun vs H1 => ∃ a xs, vs = [.ref a] ∧ SqT K H1 a xs ∧ R (Iten K a) H1
theorem pi_enumT {X : Cx} {e : Expr} {ta : TA} {p pos tpos : Pos} {elts : List Expr} {kk : Nat} (hg : Gl X "enumerate") (hm : X.mg "enumerate" = none) (ha : PA X [e] ta) (hs : starEach [e] X.env = [(false, eval e X.env)] := by rfl) :
    PI X (.Tuple elts kk tpos) (.Call (.Name "enumerate" p) [e] [] pos) (iEnumT X.K ta) := by
  constructor
  intro pins s σ H R I h
  refine Call_ (ld_blt I hg hm boot_enumerate (PyProof.Rows.callWith_type1 (thn (ha.run pos pins s σ H _ I h) ?_) hs rfl))
  rintro us s1 ⟨vs, H1, I1, r1, a, xs, rfl, hq, q⟩
  obtain ⟨u, rfl, ru⟩ := vals1 r1
  cases ru
  obtain ⟨its, rv, p', hz⟩ := I1.tuple hq
  have hal : a < s1.heap.objs.size := by
    obtain ⟨o, ho, _⟩ := p'
    exact Heap.lt_size ho
  refine enum_call (begins_tuple a its.toArray) (show s1.heap.IsTuple a its.toArray from p') fun h' he hit hk => wpAny_pyIter_enum he ?_
  have I2 : Inv X pins σ H1 { s1 with heap := h' } := I1.kept (t' := s1.toks) hk
  refine ⟨s1.heap.objs.size + 1, [s1.heap.objs.size + 1, s1.heap.objs.size], _, _, H1, rfl, I2, turn_en a (s1.heap.objs.size + 1) s1.heap.objs.size, ⟨⟨.none, he⟩, ⟨_, hit, rfl, rfl⟩, Nat.succ_ne_self _, Nat.ne_of_lt hal, Nat.ne_of_lt (Nat.lt_succ_of_lt hal)⟩, fun b hb => ?_, q⟩
  have hle : s1.heap.objs.size ≤ b := by
    rcases List.mem_cons.mp hb with rfl | hb
    · exact Nat.le_succ _
    · obtain rfl := List.mem_singleton.mp hb
      exact Nat.le_refl _
  exact I1.fpOk hle (I1.hok.fresh hle)
/-- for i, x in enumerate(t) -/
theorem for_enT {K : PySem.W.Frag} {a : Addr} {xs : List V} {g : TG} {tb : TS} {D : Ends} {σ : L2.St} {H : Hp} (Pv : Nat → L2.St → Hp → Prop) (h0 : Pv 0 σ H) (hl : ∀ i σ H, Pv i σ H → SqT K H a xs)
    (hs : ∀ (i : Nat) x σ H, xs[i]? = some x → Pv i σ H → ∀ T, H T = none → g (.ref T) σ (upd H T (.tup [.int (i : Nat), x])) fun σ2 H2 => tb { D with nx := Pv (i + 1), ct := Pv (i + 1), bk := D.nx } σ2 H2) (hd : ∀ σ H, Pv xs.length σ H → D.nx σ H) :
    ∃ W : Nat → Nat → L2.St → Hp → Prop, (∃ m, W 0 m σ H) ∧ ∀ i m σ H, W i m σ H →
      ((Iten K a).stop i H ∧ D.nx σ H) ∨ ((Iten K a).go i H ∧ ∃ N : L2.St → Hp → Prop, (∀ σ' H', N σ' H' → ∃ m', m' < m ∧ W (i + 1) m' σ' H') ∧ ∀ x H', (Iten K a).yld i H x H' → g x σ H' fun σ2 H2 => tb { D with nx := N, ct := N, bk := D.nx } σ2 H2) := by
  refine ⟨fun i m σ H => m = xs.length - i ∧ i ≤ xs.length ∧ Pv i σ H, ⟨xs.length, by simp, Nat.zero_le _, h0⟩, ?_⟩
  rintro i m σ H ⟨rfl, hi, p⟩
  have q := hl i σ H p
  by_cases hlt : i < xs.length
  · refine .inr ⟨⟨xs, xs[i], q, List.getElem?_eq_getElem hlt⟩, Pv (i + 1), fun σ' H' p' => ⟨xs.length - (i + 1), by omega, rfl, hlt, p'⟩, fun v H' y => ?_⟩
    obtain ⟨T, x, rfl, nT, rfl, hx⟩ := y
    exact hs i x σ H (hx xs q) p T nT
  · have e : i = xs.length := by omega
    subst e
    exact .inl ⟨⟨xs, q, Nat.le_refl _⟩, hd σ H p⟩
end Ev
set_option maxHeartbeats 4000000
/-! Objects of an own class, made where the making may raise; == by an own __eq__, with anything. -/
namespace Ev
open PySem PySem.Spec PyProof.Rows L2
section
variable {X : Cx} {CX : CXT} {k : Nat} {f C : Addr} {fd : FuncData} {ps : List Str} {sp : Sp} {x : Str} {p pos : Pos} {e : Expr} {es : List Expr} {t : TA}
theorem run_mkAt {pins : List (Addr × Obj)} {σ : L2.St} {H : Hp} {s : Shared} {Q : VK} {us : List Value} {vs : List V} {E : XK} (M : Mk X.K C f) (F : FnOk X.prog X.w X.K X.mg X.base CX k f fd ps sp) (hr : Room (k + 1) X.A) (hb : Binds X.K fd ps []) (hx : PassesAt CX X σ E) (I : Inv X pins σ H s) (r : Vals vs us)
    (h : ∀ a dx, H a = none → H dx = none → dx ≠ a → sp (.ref a :: vs) (upd (upd H dx (.own a)) a (.ins C dx [])) (fun v H2 => v = .non ∧ Q (.ref a) H2) E) :
    wpAny (model X.prog X.w) X.A (call (.ref C) us) (EP X pins σ Q) X.xe s := by
  have q := h (s.heap.objs.size + 1) s.heap.objs.size (I.hok.fresh (Nat.le_succ _)) (I.hok.fresh (Nat.le_refl _)) (Nat.ne_of_lt (Nat.lt_succ_self _))
  have J := Inv.made (C := C) I
  have rv : Vals (V.ref (s.heap.objs.size + 1) :: vs) (Value.ref (s.heap.objs.size + 1) :: us) := .cons rfl r
  have len := F.len _ _ _ _ q
  have lu : (Value.ref (s.heap.objs.size + 1) :: us ++ []).length = ps.length := by
    rw [List.append_nil, ← rv.length]
    exact len
  have bnd := hb _ (Value.ref (s.heap.objs.size + 1) :: us) J.kIn lu
  rw [List.append_nil] at bnd
  have go := F.run _ X.stack _ _ ⟨Value.ref (s.heap.objs.size + 1) :: us, []⟩ (Value.ref (s.heap.objs.size + 1) :: us) _ _ E (hr.make C us []) (J.env0.make C us []) bnd rv q
  refine wpAny_call (make_map (f := f) I.kIn M.makes M.init (beq_iff_eq.mp M.fn) (codeAny_mono go ?_))
  intro res s' got
  match res, got with
  | .error er, got => exact hx pins _ _ er s' J got
  | .ok (.ret u), got =>
    obtain ⟨v, H', I3, ru, rfl, q3⟩ := J.after got
    exact ⟨ru, ⟨V.ref (s.heap.objs.size + 1), H', I3, rfl, q3⟩⟩
  | .ok .next, got => exact got.elim
  | .ok .brk, got => exact got.elim
  | .ok .cont, got => exact got.elim
def tMkS (C : Addr) (sp : Sp) (E : L2.St → XK) (t : TA) : TE := fun σ H Q => t σ H fun vs H1 => ∀ a dx, H1 a = none → H1 dx = none → dx ≠ a →
  sp (.ref a :: vs) (upd (upd H1 dx (.own a)) a (.ins C dx [])) (fun v H2 => v = .non ∧ Q (.ref a) H2) (E σ)
theorem pe_mkS {E : L2.St → XK} (M : Mk X.K C f) (F : FnOk X.prog X.w X.K X.mg X.base CX k f fd ps sp) (hr : Room (k + 1) X.A) (hg : Gl X x) (hm : X.mg x = some (.ref C)) (hb : Binds X.K fd ps []) (hx : ∀ σ, PassesAt CX X σ (E σ)) (ha : PA X (e :: es) t)
    (hdb : (x == ("__debug__" : Str)) = false := by decide) (he : starEach (e :: es) X.env = (false, eval e X.env) :: starEach es X.env := by rfl) (hpl : (backTo pos (starEach es X.env)).any (·.1) = false := by rfl) :
    PE X (.Call (.Name x p) (e :: es) [] pos) (tMkS C sp E t) := by
  constructor
  intro pins s σ H Q I h
  refine wpAny_Call_Name_kw (ld_glob I hg hm ?_ hdb)
  refine PySem.W.callWith_K (h₀ := X.base) I.ok.mod.kin M.kp (thn (ha.run pos pins s σ H _ I h) ?_) he hpl
  rintro us s1 ⟨vs, H1, I1, r, q⟩
  exact ⟨I1.kIn, run_mkAt M F hr hb (hx σ) I1 r q⟩
theorem passL_at (σ : L2.St) : PassesAt (L2.CX X.prog X.w) X σ E0 := fun pins H s e s' I h => passL pins σ H s e s' I h
/-- x == y, x an object of the class at C -/
def rEqO (C : Addr) (K : PySem.W.Frag) (sp : Sp) (E : XK) : R2 := fun x y H Q => ∃ a dx fs t, x = .ref a ∧ H a = some (.ins C dx fs) ∧ TyX K H y t ∧ PySem.W.notFirst K C t = true ∧ sp [x, y] H (fun v H' => (∃ b, v = .bl b) ∧ Q v H') E
theorem op_eqO {E : XK} (F : FnOk X.prog X.w X.K X.mg X.base CX k f fd ps sp) (hs : PySem.W.findIn X.K (.ref C) "__eq__" = some (some (.ref f))) (hf : PySem.W.isFn X.K (.ref f) = true) (hb : Binds X.K fd ps []) (hx : Passes CX X E) (hr : Room k X.A) : OpR X (compareOp .Eq) (rEqO C X.K sp E) := by
  intro pins s σ H x y v u Q I rx ry h
  obtain ⟨a, dx, fs, t, rfl, ha, ty, nf, q⟩ := h
  cases rx
  obtain ⟨mA, J, _⟩ := ins_get I.hok ha
  obtain ⟨od, J, _⟩ := J.look
  obtain ⟨m, hF⟩ := I.fr
  obtain ⟨P, Z, hp, _⟩ := kit_of I ry ty
  show wpAny (model X.prog X.w) X.A (richCompare .Eq _ u) (EP X pins σ Q) X.xe s
  refine PySem.W.cmp_K (op := .Eq) (tb := t) hr.units0 hF I.ok.mod.kin J (Z.ty _ _ I.kIn hp) nf hs hf ?_
  have len := F.len _ _ _ _ q
  have rv : Vals [V.ref a, y] [Value.ref a, u] := .cons rfl (.cons ry .nil)
  have bnd := hb s [Value.ref a, u] I.kIn (by simpa using len)
  have go := F.run X.A X.stack s H ⟨[Value.ref a, u], []⟩ [Value.ref a, u] [V.ref a, y] _ E hr I.env0 (by simpa using bnd) rv q
  refine wpAny_call (codeAny_mono go ?_)
  intro res s' got
  match res, got with
  | .error er, got => exact hx pins σ H s er s' I got
  | .ok (.ret w), got =>
    obtain ⟨z, H', I', rz, ⟨b, rfl⟩, q'⟩ := I.after got
    cases rz
    exact ⟨.bl b, H', I', rfl, q'⟩
  | .ok .next, got => exact got.elim
  | .ok .brk, got => exact got.elim
  | .ok .cont, got => exact got.elim
end
end Ev
set_option maxHeartbeats 4000000
/-! Tuples of texts as data. -/
namespace Ev
open PySem PySem.Spec PyProof.Rows L2
theorem dp_strs {K : PySem.W.Frag} {H : Hp} : ∀ ts : List Str, DpAll K H (ts.map V.str) (ts.map PyData.str)
  | [] => .nil
  | t :: ts => .cons (.str t) (dp_strs ts)
theorem eqv_strs : ∀ ts us : List Str, PyData.eqvAll (ts.map PyData.str) (us.map PyData.str) = decide (ts = us)
  | [], [] => by rw [decide_eq_true rfl]; rfl
  | [], u :: us => by rw [decide_eq_false (by simp)]; rfl
  | t :: ts, [] => by rw [decide_eq_false (by simp)]; rfl
  | t :: ts, u :: us => by
    show (PyData.eqv (.str t) (.str u) && PyData.eqvAll (ts.map PyData.str) (us.map PyData.str)) = _
    rw [eqv_strs ts us]
    show ((t == u) && _) = _
    by_cases e : t = u
    · subst e
      by_cases e2 : ts = us
      · subst e2
        simp
      · simp [e2]
    · have : (t == u) = false := by simpa using e
      rw [this, Bool.false_and, decide_eq_false fun z => e (by injection z)]
theorem strOk_sg {t : Str} (h : sgB t = true) : PyData.strOk t = true := by
  have g : ∀ c ∈ t.cps.toList, c ≤ 126 := fun c hc => by
    have := sgB_mem h hc
    unfold sgC at this
    exact of_decide_eq_true (Bool.and_eq_true_iff.mp this).2
  show t.cps.all (· < 0x110000) = true
  rw [← Array.all_toList, List.all_eq_true]
  intro c hc
  have := g c hc
  exact decide_eq_true (by omega)
theorem shaped_strs {ts : List Str} (h : ∀ t ∈ ts, sgB t = true) : SeqAt.shaped (.tuple (ts.map PyData.str)) = true := by
  have h1 : ∀ us : List Str, (∀ t ∈ us, sgB t = true) → PyData.canLayAll0 (us.map PyData.str) = true := fun us hu => by
    induction us with
    | nil => rfl
    | cons u us ih =>
      show (PyData.strOk u && PyData.canLayAll0 (us.map PyData.str)) = true
      rw [strOk_sg (hu u (by simp)), ih fun t ht => hu t (List.mem_cons_of_mem _ ht)]
      rfl
  have h2 : ∀ us : List Str, PyData.depthAll (us.map PyData.str) ≤ 1 := fun us => by
    induction us with
    | nil => exact Nat.zero_le _
    | cons u us ih =>
      simp only [List.map_cons, PyData.depthAll, PyData.depth]
      omega
  unfold SeqAt.shaped
  have a : (PyData.tuple (ts.map PyData.str)).canLay0 = true := h1 ts h
  have b : (PyData.tuple (ts.map PyData.str)).depth ≤ 64 := by
    have := h2 ts
    simp only [PyData.depth]
    omega
  rw [a, decide_eq_true b]
  rfl
end Ev
set_option maxHeartbeats 8000000
namespace LawK
open PySem PySem.Spec PyProof.Rows L2 Ev
abbrev veT : List Value := [.type "ValueError", .type "Exception", .type "BaseException", .type "object"]
/-- an own error class at C, over the one at PE -/
structure ErC (K : PySem.W.Frag) (PE C : Addr) : Prop where
  oex : OexC K C
  isx : ExcC K C
  xf : XfC K C
  mro : ∃ cd, PySem.W.clsIn K C = some cd ∧ cd.mro = .ref C :: .ref PE :: veT
  isT : PySem.W.typeIn K (.ref C) = some (.type "type")
section
variable {K : PySem.W.Frag} {PE C D : Addr}
theorem ErC.sub (T : ErC K PE C) (b : Value) : PySem.W.subIn K (.ref C) b = some ((Value.ref C :: .ref PE :: veT).contains b) := by
  obtain ⟨cd, h1, h2⟩ := T.mro
  show (PySem.W.clsIn K C).bind _ = _
  rw [h1, Option.bind_some, h2]
  rfl
theorem kit_at (TD : ErC K PE D) (T : ErC K PE C) (n : D ≠ PE) : PySem.W.kitOne K (.ref C) (.ref D) = some (decide (C = D)) := by
  unfold PySem.W.kitOne
  by_cases e : C = D
  · subst e
    rw [if_pos (by simp), decide_eq_true rfl]
  · rw [if_neg (by simpa using e), decide_eq_false e]
    obtain ⟨cd, h1, h2⟩ := TD.mro
    show (if ((PySem.W.clsIn K D).isSome && PySem.W.typeIn K (.ref D) == some (.type "type")) = true then PySem.W.subIn K (.ref C) (.ref D) else none) = some false
    rw [if_pos (by rw [h1, TD.isT]; rfl), T.sub]
    have e2 : D ≠ C := fun z => e z.symm
    simp [veT, e2, n]
end
/-- an error class without a field -/
structure Cls0 (P : Program) (K : PySem.W.Frag) (mg : Str → Option Value) (PE : Addr) (x : Str) (C : Addr) : Prop where
  er : ErC K PE C
  ne : C ≠ PE
  sup : ∃ fI, SupC P K mg C fI
  g : mg x = some (.ref C)
/-- an error class with the field f -/
structure Cls1 (K : PySem.W.Frag) (mg : Str → Option Value) (PE : Addr) (x f : Str) (C : Addr) : Prop where
  er : ErC K PE C
  ne : C ≠ PE
  g : mg x = some (.ref C)
  ini : ∃ (fI : Addr) (fd : FuncData) (st : Stmt) (qual : Str), Fun K "__init__" qual st fI fd ∧ Ini1 st f ∧ Binds K fd ["self", f] [] ∧ PySem.W.findIn K (.ref C) "__init__" = some (some (.ref fI)) ∧ PySem.W.typeIn K (.ref fI) = some (.type "function")
  hno : PySem.W.findIn K (.ref C) f = some none
section
variable {X : Cx} {x f : Str} {PE C : Addr} {p pos : Pos} {e : Expr} {ta : TA} {k : Nat}
theorem pe_c0 (T : Cls0 X.prog X.K X.mg PE x C) (hr : Room k X.A) (hg : Gl X x := by rfl) (hdb : (x == ("__debug__" : Str)) = false := by decide) : L2.PE X (.Call (.Name x p) [] [] pos) (tExc0 C) := by
  obtain ⟨fI, S⟩ := T.sup
  exact pe_exc0 S hr hg T.g hdb
theorem pe_c1 (T : Cls1 X.K X.mg PE x f C) (hr : Room (k + 2) X.A) (ha : PA X [e] ta) (hg : Gl X x := by rfl) (hdb : (x == ("__debug__" : Str)) = false := by decide) (he : starEach (e :: []) X.env = (false, eval e X.env) :: starEach [] X.env := by rfl)
    (hpl : (backTo pos (starEach [] X.env)).any (·.1) = false := by rfl) : L2.PE X (.Call (.Name x p) [e] [] pos) (tExc1 C f ta) := by
  obtain ⟨fI, fd, st, qual, F1, S1, b1, iC, tI⟩ := T.ini
  exact pe_exc1 T.er.oex iC tI (ok_ini1 F1 S1 T.er.oex T.hno) hr b1 hg T.g ha hdb he hpl
def tMk1 (C : Addr) (f : Str) (ta : TA) : L2.St → Hp → XK → Prop := fun σ H Q => ta σ H fun vs H1 => ∃ v, vs = [v] ∧ ∀ d, H1 d = none → Q (.ref C) (some d) (upd H1 d (.xd [(f, v)]))
theorem del_upd {H : Hp} {a d : Addr} {o1 o2 o3 u : HO} (ha : H a = none) (hd : d ≠ a) : upd (del (upd (upd (upd H a o1) d o2) a o3) a) d u = upd H d u := by
  funext b
  by_cases e : b = d
  · rw [e, upd_same, upd_same]
  · rw [upd_ne e, upd_ne e]
    by_cases e2 : b = a
    · rw [e2, del_same, ha]
    · rw [del_ne e2, upd_ne e2, upd_ne e, upd_ne e2]
theorem pmk_c1 (T : Cls1 X.K X.mg PE x f C) (hr : Room (k + 2) X.A) (ha : PA X [e] ta) (hg : Gl X x := by rfl) (hdb : (x == ("__debug__" : Str)) = false := by decide) (he : starEach (e :: []) X.env = (false, eval e X.env) :: starEach [] X.env := by rfl)
    (hpl : (backTo pos (starEach [] X.env)).any (·.1) = false := by rfl) (hm : ∀ {σ : L2.St} {H : Hp} {Q1 Q2 : List V → Hp → Prop}, (∀ vs H1, Q1 vs H1 → Q2 vs H1) → ta σ H Q1 → ta σ H Q2) : PMk X (.Call (.Name x p) [e] [] pos) (tMk1 C f ta) := by
  obtain ⟨fI, fd, st, qual, F1, S1, b1, iC, tI⟩ := T.ini
  intro pins s σ H Q I h
  refine pmk_oex (CX := CX0) (k := 1) (sp := spIni1 C f) (ds := []) (dvs := []) T.er.oex iC tI (ok_ini1 F1 S1 T.er.oex T.hno) (hr.mono (by omega)) b1 .nil (fun _ _ _ _ _ _ _ z => z.elim) hg T.g ha hdb he hpl pins s σ H Q I (hm (fun vs H1 q => ?_) h)
  obtain ⟨v, rfl, q⟩ := q
  refine ⟨by show 1 ≤ 1000; decide, fun a na => ⟨a, v, rfl, upd_same, fun dx n ne => ⟨rfl, dx, _, upd_same, by rw [upd_ne ne, upd_same], ?_, ?_⟩⟩⟩
  · rw [upd_ne ne] at n
    exact n
  · rw [del_upd na ne]
    rw [upd_ne ne] at n
    exact q dx n
end
structure BaseX (K : PySem.W.Frag) (PE : Addr) : Prop where
  sub : PySem.W.subIn K (.ref PE) (.type "BaseException") = some true
  hd : PySem.W.hasDictIn K PE = true
  isT : PySem.W.typeIn K (.ref PE) = some (.type "type")
section
variable {K : PySem.W.Frag} {PE : Addr}
theorem exm_at {C D : Addr} (TD : ErC K PE D) (T : ErC K PE C) (n : D ≠ PE) : PySem.W.exmOne K (.ref C) (.ref D) = some (decide (C = D)) := by
  refine PySem.W.exm_ref TD.isx.hs TD.isx.hd TD.isT ?_
  rw [T.sub]
  by_cases e : C = D
  · subst e
    simp
  · have e2 : D ≠ C := fun z => e z.symm
    rw [decide_eq_false e]
    simp [veT, e2, n]
theorem exm_base {C : Addr} (B : BaseX K PE) (T : ErC K PE C) : PySem.W.exmOne K (.ref C) (.ref PE) = some true := by
  refine PySem.W.exm_ref B.sub B.hd B.isT ?_
  rw [T.sub]
  simp [veT]
theorem tCons1 {i j : Nat} {σ : L2.St} {H : Hp} {Q1 Q2 : List V → Hp → Prop} (h : ∀ vs H1, Q1 vs H1 → Q2 vs H1) : tCons (tVar i) tNil σ H Q1 → tCons (tVar i) tNil σ H Q2 := fun ⟨v, e, q⟩ => ⟨v, e, h _ _ q⟩
end
def chkE (K : PySem.W.Frag) (C : Addr) : Bool := xfB K C && (decide (PySem.W.typeIn K (.ref C) = some (.type "type")) && (PySem.W.keepIn K (.ref C) && (decide (PySem.W.findIn K (.ref C) "__class__" = some (some (.builtin "object.__class__"))) && decide (PySem.W.mroIn K C (.type "object") = some true))))
def chkC (K : PySem.W.Frag) (PE C : Addr) : Bool := chkE K C && (decide (PySem.W.findIn K (.ref C) "__setattr__" = some (some (.builtin "object.__setattr__"))) && decide (C ≠ PE))
structure Sh (K : PySem.W.Frag) : Prop where
  hn : PySem.W.specialIn K (.builtin "object.__class__") "__get__" = some (some (.builtin "getset_descriptor.__get__"))
  ht : PySem.W.takesIn K (.builtin "object.__class__") = some true
structure Sh0 (P : Program) (K : PySem.W.Frag) (mg : Str → Option Value) : Prop extends Sh K where
  gs : mg "super" = none
  top : (P.main.scope.names.lookup ("super" : Str)).isSome = false
  third : PySem.W.nsIn K cStatics "thirdparty.any" = some none
structure CkE (K : PySem.W.Frag) (C : Addr) : Prop where
  xf : XfC K C
  isT : PySem.W.typeIn K (.ref C) = some (.type "type")
  kp : PySem.W.keepIn K (.ref C) = true
  ha : PySem.W.findIn K (.ref C) "__class__" = some (some (.builtin "object.__class__"))
  hm : PySem.W.mroIn K C (.type "object") = some true
theorem chkE_ok {K : PySem.W.Frag} {C : Addr} (h : chkE K C = true) : CkE K C := by
  obtain ⟨h1, h⟩ := Bool.and_eq_true_iff.mp h
  obtain ⟨h2, h⟩ := Bool.and_eq_true_iff.mp h
  obtain ⟨h3, h⟩ := Bool.and_eq_true_iff.mp h
  obtain ⟨h4, h5⟩ := Bool.and_eq_true_iff.mp h
  exact ⟨xfB_ok h1, of_decide_eq_true h2, h3, of_decide_eq_true h4, of_decide_eq_true h5⟩
theorem CkE.isx {K : PySem.W.Frag} {C : Addr} (T : CkE K C) (S : Sh K) : ExcC K C := ⟨T.xf.ga, T.xf.gg, T.xf.exC, T.xf.hdC, T.ha, S.hn, S.ht, T.hm⟩
section
variable {P : Program} {w : World} {K : PySem.W.Frag} {mg : Str → Option Value} {h : Heap} {PE C fI : Addr} {x f qual : Str} {nm q : Str} {N : Addr} {bs : List Value} {sn : List Str} {sub : List Value} {ab : Bool} {col : Option Bool} {dd : Option Addr} {k0 k1 k2 k3 k5 : Option Value}
theorem mro_of {bm : List Value} {id : String} (lC : K.lookup C = some (excClassObj nm q C N bs bm true sn sub ab col dd k0 k1 k2 k3 k5 id)) : ∃ cd, PySem.W.clsIn K C = some cd ∧ cd.mro = .ref C :: bm := by
  have e : PySem.W.clsIn K C = some { name := nm, bases := bs, mro := .ref C :: bm, ns := N, qualname := q, hasDict := true, slotNames := sn, subclasses := sub, abstract := ab, collection := col, hasDel := false } := by
    unfold PySem.W.clsIn
    rw [lC]
  exact ⟨_, e, rfl⟩
theorem er_mk (S : Sh K) (lC : K.lookup C = some (excClassObj nm q C N bs (.ref PE :: veT) true sn sub ab col dd k0 k1 k2 k3 k5 "ValueError.__new__")) (ck : chkC K PE C = true) : ErC K PE C ∧ C ≠ PE := by
  obtain ⟨c1, c2⟩ := Bool.and_eq_true_iff.mp ck
  obtain ⟨c2, c3⟩ := Bool.and_eq_true_iff.mp c2
  have T := chkE_ok c1
  exact ⟨⟨⟨⟨nm, q, N, bs, _, sn, sub, ab, col, dd, k0, k1, k2, k3, k5, lC, (show PySem.HandSPX.refsVE veT = true by decide +kernel)⟩, of_decide_eq_true c2, T.xf.exC, T.isT, T.kp⟩, T.isx S, T.xf, mro_of lC, T.isT⟩, of_decide_eq_true c3⟩
theorem say {K : PySem.W.Frag} {h : Heap} (X : K.In h) (T : PySem.W.Frag → Prop) {g : Prop} (a : T K) (k : T K → g) : g := k a
def chk1 (K : PySem.W.Frag) (PE C fI : Addr) (f : Str) (cd : Value) (qual : Str) : Bool := chkC K PE C && (decide (PySem.W.typeIn K (.ref fI) = some (.type "function")) && (PySem.W.codeIn K cd qual && (PySem.W.keepIn K (.ref fI) && decide (PySem.W.findIn K (.ref C) f = some none))))
theorem cls1_mk {st : Stmt} {oc kV dc pm cd ct : Value} {od an : Option Addr} {sl : Array (Option Value)} (X : K.In h) (G : h.Ns mainGlobals mg) (S : Sh K)
    (i1 : Ini1 st f) (hb : ∀ (kV doc pm : Value) (an : Option Addr) (cdv ct : Value) (us : List Value), us.length = 2 → bindArgs (PySem.W.fnOf "__init__" qual (defArgs st) (defBody st) (defScope st) .none kV doc pm an cdv ct) ⟨us, []⟩ = pure ((["self", f] : List Str).zip us))
    (aC : PySem.W.nsIn K mainGlobals x = some (some (.ref C))) (lC : K.lookup C = some (excClassObj nm q C N bs (.ref PE :: veT) true sn sub ab col dd k0 k1 k2 k3 k5 "ValueError.__new__"))
    (iC : PySem.W.findIn K (.ref C) "__init__" = some (some (.ref fI))) (lI : K.lookup fI = some ⟨oc, od, .func (PySem.W.fnOf "__init__" qual (defArgs st) (defBody st) (defScope st) .none kV dc pm an cd ct), sl⟩)
    (ck : chk1 K PE C fI f cd qual = true) : Cls1 K mg PE x f C := by
  obtain ⟨c1, c2⟩ := Bool.and_eq_true_iff.mp ck
  obtain ⟨c2, c3⟩ := Bool.and_eq_true_iff.mp c2
  obtain ⟨c3, c4⟩ := Bool.and_eq_true_iff.mp c3
  obtain ⟨c4, c5⟩ := Bool.and_eq_true_iff.mp c4
  obtain ⟨e, n⟩ := er_mk S lC c1
  have F1 := fun_mk (st := st) lI c3 c4
  exact ⟨e, n, PySem.W.mg_of X G aC, ⟨fI, _, st, qual, F1, i1, F1.binds (ps := ["self", f]) hb, iC, of_decide_eq_true c2⟩, of_decide_eq_true c5⟩
def chk0 (K : PySem.W.Frag) (PE C fI : Addr) (cd : Value) (qual : Str) : Bool := chkC K PE C && (decide (PySem.W.typeIn K (.ref fI) = some (.type "function")) && (PySem.W.codeIn K cd qual && (decide (PySem.W.ks_superIn K C C "__init__" = some (some (.builtin "ValueError.__init__"))) && (decide (PySem.W.subIn K (.ref C) (.type "ValueError") = some true) && decide (PySem.W.mroIn K C (.ref C) = some true)))))
theorem cls0_mk {oc kV dc pm ct : Value} {od an : Option Addr} {cda cc : Addr} {osl : Array (Option Value)} {p p0 p1 p2 p3 p4 : Pos} {ccl : Value} {cdd : Option Addr} {vs : Array Value} {ccs : Array (Option Value)} {file : Str} {tf : Tok} {cl : Value} {cld : Option Addr} {csl : Array (Option Value)}
    (X : K.In h) (G : h.Ns mainGlobals mg) (S : Sh0 P K mg)
    (aC : PySem.W.nsIn K mainGlobals x = some (some (.ref C))) (lC : K.lookup C = some (excClassObj nm q C N bs (.ref PE :: veT) true sn sub ab col dd k0 k1 k2 k3 k5 "ValueError.__new__"))
    (iC : PySem.W.findIn K (.ref C) "__init__" = some (some (.ref fI)))
    (lI : K.lookup fI = some ⟨oc, od, .func (PySem.W.ksFn "__init__" qual (supArgs p) (supBody p0 p1 p2 p3 p4) supScope .none kV dc pm an (.ref cda) ct cc), osl⟩)
    (lD : K.lookup cda = some ⟨ccl, cdd, .fields vs, ccs⟩) (lc : K.lookup cc = some ⟨cl, cld, .cell (some (.ref C)), csl⟩)
    (v2 : vs[2]? = some (.str file tf)) (vf : ((P.main.file : Str) == file) = true) (pl : (p2.endLine == p3.line) = true)
    (ck : chk0 K PE C fI (.ref cda) qual = true) : Cls0 P K mg PE x C := by
  obtain ⟨c1, c2⟩ := Bool.and_eq_true_iff.mp ck
  obtain ⟨c2, c3⟩ := Bool.and_eq_true_iff.mp c2
  obtain ⟨c3, c4⟩ := Bool.and_eq_true_iff.mp c3
  obtain ⟨c4, c5⟩ := Bool.and_eq_true_iff.mp c4
  obtain ⟨c5, c6⟩ := Bool.and_eq_true_iff.mp c5
  obtain ⟨e, n⟩ := er_mk S.toSh lC c1
  exact ⟨e, n, ⟨fI, e.oex, iC, of_decide_eq_true c2, ⟨oc, od, qual, kV, dc, pm, ct, an, cda, cc, osl, p, p0, p1, p2, p3, p4, ccl, cdd, vs, ccs, file, tf, cl, cld, csl, lI, c3, lD, v2, vf, lc, pl⟩, S.gs, S.top, S.third, of_decide_eq_true c4, of_decide_eq_true c5, of_decide_eq_true c6⟩, PySem.W.mg_of X G aC⟩
theorem sh0_mk (X : K.In h) (G : h.Ns mainGlobals mg) (hn : PySem.W.specialIn K (.builtin "object.__class__") "__get__" = some (some (.builtin "getset_descriptor.__get__"))) (ht : PySem.W.takesIn K (.builtin "object.__class__") = some true)
    (gs : PySem.W.nsIn K mainGlobals "super" = some none) (top : (P.main.scope.names.lookup ("super" : Str)).isSome = false) (third : PySem.W.nsIn K cStatics "thirdparty.any" = some none) : Sh0 P K mg := ⟨⟨hn, ht⟩, PySem.W.mg_none_of X G gs, top, third⟩
end
end LawK
set_option maxHeartbeats 4000000
namespace LawK
open PySem PySem.Spec PyProof.Rows L2 Ev
def topS (i : Nat) : Stmt := PySem.Challenge.pw_everypiece_k01_libraries_judged.main.body.getD i (.Pass ⟨0, 0, 0, 0⟩)
abbrev sHand : Stmt := topS 18
abbrev sTake : Stmt := topS 19
/-! ### the hand of a law: what is left of the script, and a seed -/
def HandL (H : Hp) (p l : Addr) : Prop := ∃ (cells : List Int) (i r s n : Int), H p = some (.lst [.ref l, .int i, .int r, .int s, .int n]) ∧ H l = some (.lst (cells.map V.int)) ∧ 0 ≤ i ∧ 0 ≤ s ∧ s < 2147483647
/-- nothing but the hand at p has changed -/
def But (p : Addr) (H H' : Hp) : Prop := ∀ b o, b ≠ p → H b = some o → H' b = some o
theorem But.refl (p : Addr) (H : Hp) : But p H H := fun _ _ _ h => h
theorem But.trans {p : Addr} {H H1 H2 : Hp} (a : But p H H1) (b : But p H1 H2) : But p H H2 := fun c o n h => b c o n (a c o n h)
theorem But.new {p q : Addr} {H H1 : Hp} {o : HO} (a : But p H H1) (h : H1 q = none) : But p H (upd H1 q o) := fun c u n e => by
  have z := a c u n e
  rw [upd_ne (ne_of_none z h)]
  exact z
theorem But.same {p : Addr} {H H' : Hp} (a : Same H H') : But p H H' := fun c o _ e => a c o e
def spTake : Sp := fun vs H Q _ => ∃ (p : Addr) (m : Int), vs = [.ref p, .int m] ∧ 0 < m ∧ m < 1000000 ∧ ∃ l, HandL H p l ∧ ∀ v H', 0 ≤ v → v < m → HandL H' p l → But p H H' → Q (.int v) H'
def spHand (K : PySem.W.Frag) : Sp := fun vs H Q _ => ∃ (a : Addr) (ns : List Int), vs = [.ref a] ∧ SqL K H a (ns.map V.int) ∧ ∀ p l H', H p = none → H l = none → HandL H' p l → Same H H' → Q (.ref p) H'
theorem scHand : FnScope ["script"] ["script"] (defScope sHand) := ⟨rfl, rfl, rfl, by decide +kernel, rfl, by decide +kernel, by decide +kernel⟩
theorem scTake : FnScope ["hand", "many", "cell", "found", "number"] ["hand", "many"] (defScope sTake) := ⟨rfl, rfl, rfl, by decide +kernel, rfl, by decide +kernel, by decide +kernel⟩
structure Glob (mg : Str → Option Value) : Prop where
  len : mg "len" = none
  int : mg "int" = none
  list : mg "list" = none
  range : mg "range" = none
  isinstance : mg "isinstance" = none
  bool : mg "bool" = none
  str : mg "str" = none
  tuple : mg "tuple" = none
  sum : mg "sum" = none
  ord : mg "ord" = none
  zip : mg "zip" = none
  max : mg "max" = none
  enumerate : mg "enumerate" = none
theorem sq_of {K : PySem.W.Frag} {H : Hp} {a : Addr} {xs : List V} (h : H a = some (.lst xs)) : SqL K H a xs := .inl (.inl h)
theorem atI_in {α : Type} {xs : List α} {i : Int} (h0 : 0 ≤ i) (h1 : i < xs.length) : ∃ v, atI xs i = some v ∧ v ∈ xs := by
  obtain ⟨j, rfl⟩ := Int.eq_ofNat_of_zero_le h0
  have hj : j < xs.length := by omega
  exact ⟨xs[j], atI_nat (by rw [List.getElem?_eq_getElem hj]), List.getElem_mem hj⟩
theorem atI_int {xs : List Int} {i : Int} (h0 : 0 ≤ i) (h1 : i < xs.length) : ∃ c : Int, atI (xs.map V.int) i = some (.int c) := by
  obtain ⟨v, e, hm⟩ := atI_in (xs := xs.map V.int) h0 (by rw [List.length_map]; exact h1)
  obtain ⟨c, _, rfl⟩ := List.mem_map.mp hm
  exact ⟨c, e⟩
section
variable {P : Program} {w : World} {K : PySem.W.Frag} {mg : Str → Option Value} {base : Heap}
theorem ok_hand {f : Addr} {fd : FuncData} (F : Fun K "_law_hand" "_law_hand" sHand f fd) (T : Glob mg) : FnOk P w K mg base CX0 1 f fd ["script"] (spHand K) := by
  refine F.ok scHand (fun vs H Q E h => ?_) (fun cdv A outer s H vs Q E hr h => ?_)
  · obtain ⟨a, ns, rfl, _⟩ := h
    rfl
  · obtain ⟨a, ns, rfl, hS, q⟩ := h
    refine ⟨_, pss_one (ps_ret (pe_lst (pa_cons (pe_callTy call_list_of (by rfl) T.list (by decide +kernel) (pa_cons (pv 0) pa_nil)) (pa_cons pe_int (pa_cons pe_int (pa_cons pe_int (pa_cons pe_int pa_nil))))))), ?_⟩
    refine ⟨.ref a, rfl, a, _, rfl, .inl hS, fun l hl => ⟨by show 5 ≤ sizeLine; decide, fun p hp => ?_⟩⟩
    have nlp : l ≠ p := fun e => by
      rw [e, upd_same] at hp
      cases hp
    have np : H p = none := by
      rw [upd_ne nlp.symm] at hp
      exact hp
    refine q p l _ np hl ⟨ns, 0, 0, 1, 0, upd_same, by rw [upd_ne nlp, upd_same], by decide, by decide, by decide⟩ fun b o e => ?_
    rw [upd_ne (ne_of_none e np), upd_ne (ne_of_none e hl)]
    exact e
theorem PSs.imp {X : Cx} {st : List Stmt} {t u : TS} (h : PSs X st u) (k : ∀ D σ H, t D σ H → u D σ H) : PSs X st t := ⟨fun pins s σ H D I q => h.run pins s σ H D I (k D σ H q)⟩
theorem PE.imp {X : Cx} {e : Expr} {t u : TE} (h : PE X e u) (k : ∀ σ H Q, t σ H Q → u σ H Q) : PE X e t := ⟨fun pins s σ H Q I q => h.run pins s σ H Q I (k σ H Q q)⟩
theorem PS.imp {X : Cx} {st : Stmt} {t u : TS} (h : PS X st u) (k : ∀ D σ H, t D σ H → u D σ H) : PS X st t := ⟨fun pins s σ H D I q => h.run pins s σ H D I (k D σ H q)⟩
def tTail : TS := fun D σ H => ∃ (p : Addr) (m : Int) (l : Addr) (cells : List Int) (i r s n : Int) (c f x : Option V), σ = [some (.ref p), some (.int m), c, f, x] ∧ 0 < m ∧ m < 1000000 ∧ H p = some (.lst [.ref l, .int i, .int r, .int s, .int n]) ∧ H l = some (.lst (cells.map V.int)) ∧ l ≠ p ∧ 0 ≤ i ∧ 0 ≤ s ∧ s < 2147483647 ∧
  ∀ v H', 0 ≤ v → v < m → HandL H' p l → But p H H' → D.rt (.int v) H'
theorem HandL.mk {H : Hp} {p l : Addr} {cells : List Int} {i r s n : Int} (hp : H p = some (.lst [.ref l, .int i, .int r, .int s, .int n])) (hl : H l = some (.lst (cells.map V.int))) (h1 : 0 ≤ i) (h2 : 0 ≤ s) (h3 : s < 2147483647) : HandL H p l := ⟨cells, i, r, s, n, hp, hl, h1, h2, h3⟩
theorem but_upd {p : Addr} {H : Hp} {o : HO} : But p H (upd H p o) := fun b u n e => by
  rw [upd_ne n]
  exact e
theorem mod_pos {i j : Int} (h : 0 < j) : (fun (_ j : Int) => 0 < j) i j := h
theorem boot_ty_int : bootBuiltins "int" = some (.type "int") := by decide +kernel
theorem ok_take {f : Addr} {fd : FuncData} (F : Fun K "_law_take" "_law_take" sTake f fd) (T : Glob mg) : FnOk P w K mg base CX0 1 f fd ["hand", "many"] spTake := by
  refine F.ok scTake (fun vs H Q E h => ?_) (fun cdv A outer s H vs Q E hr h => ?_)
  · obtain ⟨p, m, rfl, _⟩ := h
    rfl
  · obtain ⟨p, m, rfl, m0, m1, l, ⟨cells, i, r, s0, n, hp, hl, hi, hs0, hs1⟩, q⟩ := h
    have npl : l ≠ p := fun e => by
      rw [e, hp] at hl
      have z := congrArg List.head? (HO.lst.inj (Option.some.inj hl))
      cases cells with
      | nil => cases z
      | cons c r => cases z
    refine ⟨_, pss_cons (ps_asg (pe_op op_add (pe_ix ix_list (pv 0) pe_int (fun _ _ => rfl)) pe_int) (pg_sub (pv 0) pe_int set_list))
      (pss_cons (ps_if (PW.pt (pw_and (pt_cmpR op_eq (pe_ix ix_list (pv 0) pe_int (fun _ _ => rfl)) pe_int (nomark _)) (pw_and1 (pt_cmpR op_lt (pe_ix ix_list (pv 0) pe_int (fun _ _ => rfl)) (pe_callB call_len_seq (by rfl) T.len PySem.boot_len (pa_cons (pe_ix ix_list (pv 0) pe_int (fun _ _ => rfl)) pa_nil)) (nomark _)))))
        (pss_cons (ps_set (i := 2) scTake.nd rfl (.inl rfl) (pe_callTy call_int1 (by rfl) T.int boot_ty_int (pa_cons (pe_ix ix_list (pe_ix ix_list (pv 0) pe_int (fun _ _ => rfl)) (pe_ix ix_list (pv 0) pe_int (fun _ _ => rfl)) (fun _ _ => rfl)) pa_nil)))
        (pss_cons (ps_asg (pe_op op_add (pe_ix ix_list (pv 0) pe_int (fun _ _ => rfl)) pe_int) (pg_sub (pv 0) pe_int set_list))
        (pss_one (ps_if (pt_cmpR op_ge (pv 2) (pe_op op_pow pe_int pe_int) (nomark _))
          (pss_one (ps_asg (pv 2) (pg_sub (pv 0) pe_int set_list)))
          (pss_one (ps_asg (pe_op op_mod (pe_callTy call_int1 (by rfl) T.int boot_ty_int (pa_cons (pe_op op_add (pe_op op_add (pe_op op_mul (pe_ix ix_list (pv 0) pe_int (fun _ _ => rfl)) pe_int) (pe_op op_mod (pe_callTy call_int1 (by rfl) T.int boot_ty_int (pa_cons (pv 2) pa_nil)) pe_int)) pe_int) pa_nil)) pe_int) (pg_sub (pv 0) pe_int set_list)))))))
        pss_nil)
      (PSs.imp (t := tTail) (pss_cons (ps_if (pt_cmpR op_gt (pe_ix ix_list (pv 0) pe_int (fun _ _ => rfl)) pe_int (nomark _))
        (pss_cons (ps_set (i := 3) scTake.nd rfl (.inl rfl) (pe_op op_mod (pe_callTy call_int1 (by rfl) T.int boot_ty_int (pa_cons (pe_ix ix_list (pv 0) pe_int (fun _ _ => rfl)) pa_nil)) (pv 1)))
        (pss_cons (ps_asg (pe_op op_fdiv (pe_callTy call_int1 (by rfl) T.int boot_ty_int (pa_cons (pe_ix ix_list (pv 0) pe_int (fun _ _ => rfl)) pa_nil)) (pv 1)) (pg_sub (pv 0) pe_int set_list))
        (pss_one (ps_ret (pv 3)))))
        pss_nil)
      (pss_cons (ps_asg (pe_op op_mod (pe_callTy call_int1 (by rfl) T.int boot_ty_int (pa_cons (pe_op op_add (pe_op op_mul (pe_ix ix_list (pv 0) pe_int (fun _ _ => rfl)) pe_int) (pe_op op_mul pe_int (pe_ix ix_list (pv 0) pe_int (fun _ _ => rfl)))) pa_nil)) pe_int) (pg_sub (pv 0) pe_int set_list))
      (pss_cons (ps_set (i := 4) scTake.nd rfl (.inl rfl) (pe_op op_mod (pe_callTy call_int1 (by rfl) T.int boot_ty_int (pa_cons (pe_op op_mul (pe_ix ix_list (pv 0) pe_int (fun _ _ => rfl)) (pe_op op_add (pe_op op_fdiv (pe_ix ix_list (pv 0) pe_int (fun _ _ => rfl)) pe_int) pe_int)) pa_nil)) pe_int))
      (pss_cons (ps_set (i := 4) scTake.nd rfl (.inl rfl) (pe_op op_mod (pe_callTy call_int1 (by rfl) T.int boot_ty_int (pa_cons (pe_op op_mul (pv 4) (pe_op op_add (pe_op op_fdiv (pv 4) pe_int) pe_int)) pa_nil)) pe_int))
      (pss_one (ps_ret (pe_op op_mod (pe_callTy call_int1 (by rfl) T.int boot_ty_int (pa_cons (pe_op op_fdiv (pv 4) pe_int) pa_nil)) (pv 1)))))))) ?tail)), ?_⟩
    case tail =>
      rintro D σ H ⟨p, m, l, cells, i, r, s, n, c, f, x, rfl, m0, m1, hp, hl, npl, hi, hs0, hs1, q⟩
      refine ⟨.ref p, rfl, p, _, 2, _, rfl, rfl, sq_of hp, rfl, _, _, rfl, rfl, _, rfl, ite2 (fun e => ?_) (fun e => ?_)⟩
      · refine ⟨.ref p, rfl, p, _, 2, _, rfl, rfl, sq_of hp, rfl, .inl ⟨r, rfl, .int m, rfl, _, _, rfl, rfl, m0, ?_⟩⟩
        refine ⟨.ref p, rfl, p, _, 2, _, rfl, rfl, sq_of hp, rfl, .inl ⟨r, rfl, .int m, rfl, _, _, rfl, rfl, ⟨m0, by omega⟩, ?_⟩⟩
        refine ⟨.ref p, rfl, p, _, 2, 2, rfl, rfl, hp, rfl, ?_⟩
        refine ⟨_, rfl, ?_⟩
        refine q _ _ (Int.emod_nonneg _ (by omega)) (Int.emod_lt_of_pos _ m0) (.mk upd_same (by rw [upd_ne npl]; exact hl) hi hs0 hs1) but_upd
      · refine ⟨.ref p, rfl, p, _, 3, _, rfl, rfl, sq_of hp, rfl, s, 69621, rfl, rfl, .inl ⟨by omega, by omega⟩, .ref p, rfl, p, _, 4, _, rfl, rfl, sq_of hp, rfl, 7919, n, rfl, rfl, .inl ⟨by decide, by decide⟩, _, _, rfl, rfl, .inl ⟨_, rfl, _, _, rfl, rfl, (by show (0 : Int) < 2147483647; decide), .ref p, rfl, p, _, 3, 3, rfl, rfl, hp, rfl, ?_⟩⟩
        dsimp only
        have a0 : 0 ≤ (s * 69621 + 7919 * n) % 2147483647 := Int.emod_nonneg _ (by decide)
        have a1 : (s * 69621 + 7919 * n) % 2147483647 < 2147483647 := Int.emod_lt_of_pos _ (by decide)
        generalize (s * 69621 + 7919 * n) % 2147483647 = s2 at a0 a1 ⊢
        have hp2 : upd H p (.lst (List.set [.ref l, .int i, .int r, .int s, .int n] 3 (.int s2))) p = some (.lst [.ref l, .int i, .int r, .int s2, .int n]) := upd_same
        have hl2 : upd H p (.lst (List.set [.ref l, .int i, .int r, .int s, .int n] 3 (.int s2))) l = some (.lst (cells.map V.int)) := by rw [upd_ne npl]; exact hl
        have b2 : But p H (upd H p (.lst (List.set [.ref l, .int i, .int r, .int s, .int n] 3 (.int s2)))) := but_upd
        generalize upd H p (.lst (List.set [.ref l, .int i, .int r, .int s, .int n] 3 (.int s2))) = H2 at hp2 hl2 b2 ⊢
        refine ⟨.ref p, rfl, p, _, 3, _, rfl, rfl, sq_of hp2, rfl, .ref p, rfl, p, _, 3, _, rfl, rfl, sq_of hp2, rfl, _, _, rfl, rfl, ⟨by decide, by decide⟩, _, _, rfl, rfl, _, _, rfl, rfl, .inl ⟨by omega, by omega⟩, .inl ⟨_, rfl, _, _, rfl, rfl, (by show (0 : Int) < 2147483647; decide), ?_⟩⟩
        dsimp only
        have a2 : 0 ≤ (s2 * (s2 / 1009 + 69621)) % 2147483647 := Int.emod_nonneg _ (by decide)
        have a3 : (s2 * (s2 / 1009 + 69621)) % 2147483647 < 2147483647 := Int.emod_lt_of_pos _ (by decide)
        generalize (s2 * (s2 / 1009 + 69621)) % 2147483647 = y at a2 a3 ⊢
        refine ⟨_, rfl, _, rfl, _, _, rfl, rfl, ⟨by decide, by decide⟩, _, _, rfl, rfl, _, _, rfl, rfl, .inl ⟨by omega, by omega⟩, .inl ⟨_, rfl, _, _, rfl, rfl, (by show (0 : Int) < 2147483399; decide), ?_⟩⟩
        refine ⟨_, rfl, _, _, rfl, rfl, ⟨by decide, by decide⟩, .inl ⟨_, rfl, .int m, rfl, _, _, rfl, rfl, m0, ?_⟩⟩
        exact q _ _ (Int.emod_nonneg _ (by omega)) (Int.emod_lt_of_pos _ m0) (.mk hp2 hl2 hi a0 a1) b2
    -- hand[4] = hand[4] + 1
    refine ⟨.ref p, rfl, p, _, 4, _, rfl, rfl, sq_of hp, rfl, _, _, rfl, rfl, .ref p, rfl, p, _, 4, 4, rfl, rfl, hp, rfl, ?_⟩
    dsimp only
    have hp1 : upd H p (.lst (List.set [.ref l, .int i, .int r, .int s0, .int n] 4 (.int (n + 1)))) p = some (.lst [.ref l, .int i, .int r, .int s0, .int (n + 1)]) := upd_same
    have hl1 : upd H p (.lst (List.set [.ref l, .int i, .int r, .int s0, .int n] 4 (.int (n + 1)))) l = some (.lst (cells.map V.int)) := by rw [upd_ne npl]; exact hl
    have b1 : But p H (upd H p (.lst (List.set [.ref l, .int i, .int r, .int s0, .int n] 4 (.int (n + 1))))) := but_upd
    generalize upd H p (.lst (List.set [.ref l, .int i, .int r, .int s0, .int n] 4 (.int (n + 1)))) = H1 at hp1 hl1 b1 ⊢
    have fin : ∀ {H2 : Hp} {i r s n : Int} {c : Option V}, H2 p = some (.lst [.ref l, .int i, .int r, .int s, .int n]) → H2 l = some (.lst (cells.map V.int)) → 0 ≤ i → 0 ≤ s → s < 2147483647 → But p H H2 →
        tTail { nx := fun _ H' => Q .non H', rt := Q } [some (.ref p), some (.int m), c, none, none] H2 := fun {H2 i r s n c} h1 h2 h3 h4 h5 h6 =>
      ⟨p, m, l, cells, i, r, s, n, c, none, none, rfl, m0, m1, h1, h2, npl, h3, h4, h5, fun v H' g1 g2 g3 g4 => q v H' g1 g2 g3 (h6.trans g4)⟩
    refine ⟨.ref p, rfl, p, _, 2, _, rfl, rfl, sq_of hp1, rfl, rfl, _, rfl, ite2 (fun e => ?_) (fun e => ?_)⟩
    · refine ⟨.ref p, rfl, p, _, 1, _, rfl, rfl, sq_of hp1, rfl, .ref p, rfl, p, _, 0, _, rfl, rfl, sq_of hp1, rfl, l, _, rfl, .inl (sq_of hl1), _, _, rfl, rfl, _, rfl, ite2 (fun e2 => ?_) (fun e2 => ?_)⟩
      · have hlt : i < (cells.length : Int) := by
          have z := of_decide_eq_true e2
          rw [List.length_map] at z
          exact z
        obtain ⟨c, hc⟩ := atI_int hi hlt
        refine ⟨.ref p, rfl, p, _, 0, _, rfl, rfl, sq_of hp1, rfl, .ref p, rfl, p, _, 1, _, rfl, rfl, sq_of hp1, rfl, l, _, i, _, rfl, rfl, sq_of hl1, hc, .inl ⟨c, rfl, ?_⟩⟩
        refine ⟨.ref p, rfl, p, _, 1, _, rfl, rfl, sq_of hp1, rfl, _, _, rfl, rfl, .ref p, rfl, p, _, 1, 1, rfl, rfl, hp1, rfl, ?_⟩
        dsimp only
        have hp2 : upd H1 p (.lst (List.set [.ref l, .int i, .int r, .int s0, .int (n + 1)] 1 (.int (i + 1)))) p = some (.lst [.ref l, .int (i + 1), .int r, .int s0, .int (n + 1)]) := upd_same
        have hl2 : upd H1 p (.lst (List.set [.ref l, .int i, .int r, .int s0, .int (n + 1)] 1 (.int (i + 1)))) l = some (.lst (cells.map V.int)) := by rw [upd_ne npl]; exact hl1
        have b2 : But p H (upd H1 p (.lst (List.set [.ref l, .int i, .int r, .int s0, .int (n + 1)] 1 (.int (i + 1))))) := b1.trans but_upd
        generalize upd H1 p (.lst (List.set [.ref l, .int i, .int r, .int s0, .int (n + 1)] 1 (.int (i + 1)))) = H2 at hp2 hl2 b2 ⊢
        refine ⟨.int c, rfl, _, _, rfl, rfl, ⟨by decide, by decide, by decide⟩, _, _, rfl, rfl, _, rfl, ite2 (fun _ => ?_) (fun _ => ?_)⟩
        · refine ⟨.int c, rfl, .ref p, rfl, p, _, 2, 2, rfl, rfl, hp2, rfl, ?_⟩
          exact fin upd_same (by rw [upd_ne npl]; exact hl2) (by omega) hs0 hs1 (b2.trans but_upd)
        · refine ⟨.ref p, rfl, p, _, 3, _, rfl, rfl, sq_of hp2, rfl, s0, 48271, rfl, rfl, .inl ⟨by omega, by omega⟩, .int c, rfl, .inl ⟨c, rfl, _, _, rfl, rfl, (by show (0 : Int) < 2147483647; decide), _, _, rfl, rfl, _, _, rfl, rfl, .inl ⟨_, rfl, _, _, rfl, rfl, (by show (0 : Int) < 2147483647; decide), .ref p, rfl, p, _, 3, 3, rfl, rfl, hp2, rfl, ?_⟩⟩⟩
          exact fin upd_same (by rw [upd_ne npl]; exact hl2) (by omega) (Int.emod_nonneg _ (by decide)) (Int.emod_lt_of_pos _ (by decide)) (b2.trans but_upd)
      · exact fin hp1 hl1 hi hs0 hs1 b1
    · exact fin hp1 hl1 hi hs0 hs1 b1
end
theorem Same.new {H : Hp} {q : Addr} {o : HO} (h : H q = none) : Same H (upd H q o) := fun b u e => by
  rw [upd_ne (ne_of_none e h)]
  exact e
theorem sameAt {H H' : Hp} {q : Addr} {o : HO} (k : Same H H') (h : H q = none) : Same H (upd H' q o) := fun b u e => by
  rw [upd_ne (ne_of_none e h)]
  exact k b u e
end LawK
set_option maxHeartbeats 4000000
namespace LawK
open PySem PySem.Spec PyProof.Rows L2 Ev
abbrev sOdd : Stmt := topS 24
theorem HandL.same {H H' : Hp} {p l : Addr} (k : Same H H') (h : HandL H p l) : HandL H' p l := by
  obtain ⟨cells, i, r, s, n, h1, h2, h3⟩ := h
  exact ⟨cells, i, r, s, n, k _ _ h1, k _ _ h2, h3⟩
theorem But.and {p : Addr} {H H1 H2 : Hp} (a : But p H H1) (k : Same H1 H2) : But p H H2 := fun b o n e => k b o (a b o n e)
theorem hand_ne {H : Hp} {p l' a : Addr} {o : HO} (h : HandL H p l') (e : H a = some o) (n : ∀ x1 x2 x3 x4 x5, o ≠ .lst [x1, x2, x3, x4, x5]) : a ≠ p := fun z => by
  obtain ⟨cells, i, r, s, m, h1, _⟩ := h
  rw [z, h1] at e
  exact n _ _ _ _ _ (Option.some.inj e).symm
theorem dt_but {H H' : Hp} {p l' : Addr} {v : V} {d : PyData} (h : Dt H v d) (hp : HandL H p l') (k : But p H H') : Dt H' v d := by
  induction h with
  | non => exact .non
  | bl b => exact .bl b
  | int i => exact .int i
  | str x => exact .str x
  | dic e => exact .dic (k _ _ (hand_ne hp e fun _ _ _ _ _ z => by cases z) e)
  | l0 e n => exact .l0 (k _ _ (hand_ne hp e fun _ _ _ _ _ z => by cases z) e) n
  | l1 e n _ ih => exact .l1 (k _ _ (hand_ne hp e fun _ _ _ _ _ z => by cases z) e) n ih
  | l2 e n _ _ i1 i2 => exact .l2 (k _ _ (hand_ne hp e fun _ _ _ _ _ z => by cases z) e) n i1 i2
  | t0 e => exact .t0 (k _ _ (hand_ne hp e fun _ _ _ _ _ z => by cases z) e)
  | t1 e _ ih => exact .t1 (k _ _ (hand_ne hp e fun _ _ _ _ _ z => by cases z) e) ih
  | t2 e _ _ i1 i2 => exact .t2 (k _ _ (hand_ne hp e fun _ _ _ _ _ z => by cases z) e) i1 i2
def spOdd : Sp := fun vs H Q _ => ∃ (p : Addr), vs = [.ref p] ∧ ∃ l, HandL H p l ∧ ∀ v d H', Dt H' v d → dsm d = true → HandL H' p l → But p H H' → Q v H'
theorem scOdd : FnScope ["hand", "way"] ["hand"] (defScope sOdd) := ⟨rfl, rfl, rfl, by decide +kernel, rfl, by decide +kernel, by decide +kernel⟩
section
variable {P : Program} {w : World} {K : PySem.W.Frag} {mg : Str → Option Value} {base : Heap}
theorem ok_odd {f fT : Addr} {fd fdT : FuncData} (F : Fun K "_law_odd" "_law_odd" sOdd f fd) (FT : Fun K "_law_take" "_law_take" sTake fT fdT) (bT : Binds K fdT ["hand", "many"] []) (gT : mg "_law_take" = some (.ref fT)) (T : Glob mg) : FnOk P w K mg base CX0 2 f fd ["hand"] spOdd := by
  have GT : FnOk P w K mg base CX0 1 fT fdT ["hand", "many"] spTake := ok_take FT T
  refine F.ok scOdd (fun vs H Q E h => ?_) (fun cdv A outer s H vs Q E hr h => ?_)
  · obtain ⟨p, rfl, _⟩ := h
    rfl
  · obtain ⟨p, rfl, lh, hH, q⟩ := h
    refine ⟨_, pss_cons (ps_set (i := 1) scOdd.nd rfl (.inl rfl) (pe_call GT hr (by rfl) gT FT.kp bT .nil pass0 (pa_cons (pv 0) (pa_cons pe_int pa_nil))))
      (pss_cons (ps_if (pt_cmpR op_lt (pv 1) pe_int (nomark _)) (pss_one (ps_ret (pe_ix ix_list (pe_lst (pa_cons pe_non (pa_cons pe_bl (pa_cons pe_bl (pa_cons pe_str (pa_cons pe_str (pa_cons pe_str pa_nil))))))) (pv 1) (fun _ _ => rfl)))) pss_nil)
      (pss_cons (ps_if (pt_cmpR op_lt (pv 1) pe_int (nomark _)) (pss_one (ps_ret (pe_ix ix_list (pe_lst (pa_cons (pe_tup pa_nil) (pa_cons (pe_lstN pa_nil) (pa_cons pe_dnewK (pa_cons (pe_tup (pa_cons pe_str pa_nil)) (pa_cons (pe_lstN (pa_cons pe_int pa_nil)) (pa_cons (pe_tup (pa_cons (pe_tup pa_nil) pa_nil)) pa_nil))))))) (pe_op op_sub (pv 1) pe_int) (fun _ _ => rfl)))) pss_nil)
      (pss_cons (ps_if (pt_cmpR op_lt (pv 1) pe_int (nomark _)) (pss_one (ps_ret (pe_ix ix_list (pe_lst (pa_cons (pe_un un_neg pe_int) (pa_cons pe_int (pa_cons pe_int (pa_cons (pe_op op_sub (pe_op op_pow pe_int pe_int) pe_int) (pa_cons pe_str (pa_cons pe_str pa_nil))))))) (pe_op op_sub (pv 1) pe_int) (fun _ _ => rfl)))) pss_nil)
      (pss_cons (ps_if (pt_cmpR op_eq (pv 1) pe_int (nomark _)) (pss_one (ps_ret (pe_lstN (pa_cons pe_str (pa_cons (pe_tup (pa_cons pe_str pa_nil)) pa_nil))))) pss_nil)
      (pss_one (ps_ret (pe_tup (pa_cons pe_str pa_nil)))))))), ?_⟩
    refine ⟨.ref p, rfl, p, 20, rfl, by decide, by decide, lh, hH, fun v H1 v0 v1 h1 b1 => ?_⟩
    refine ⟨.int v, rfl, _, _, rfl, rfl, _, rfl, ite2 (fun e => ?_) (fun e => ?_)⟩
    · have e' : v < 6 := of_decide_eq_true e
      refine ⟨by show 6 ≤ sizeLine; decide, fun o no => ?_⟩
      have k : ∀ {x : V} {d : PyData}, Dt (upd H1 o (.lst [.non, .bl true, .bl false, .str "", .str "a", .str "put"])) x d → dsm d = true → Q x (upd H1 o (.lst [.non, .bl true, .bl false, .str "", .str "a", .str "put"])) := fun {x d} h s => q x d _ h s (h1.same (Same.new no)) (b1.and (Same.new no))
      obtain rfl | rfl | rfl | rfl | rfl | rfl : v = 0 ∨ v = 1 ∨ v = 2 ∨ v = 3 ∨ v = 4 ∨ v = 5 := by omega
      · exact ⟨_, rfl, o, _, _, _, rfl, rfl, sq_of upd_same, rfl, k .non (by decide +kernel)⟩
      · exact ⟨_, rfl, o, _, _, _, rfl, rfl, sq_of upd_same, rfl, k (.bl _) (by decide +kernel)⟩
      · exact ⟨_, rfl, o, _, _, _, rfl, rfl, sq_of upd_same, rfl, k (.bl _) (by decide +kernel)⟩
      · exact ⟨_, rfl, o, _, _, _, rfl, rfl, sq_of upd_same, rfl, k (.str _) (by decide +kernel)⟩
      · exact ⟨_, rfl, o, _, _, _, rfl, rfl, sq_of upd_same, rfl, k (.str _) (by decide +kernel)⟩
      · exact ⟨_, rfl, o, _, _, _, rfl, rfl, sq_of upd_same, rfl, k (.str _) (by decide +kernel)⟩
    have e1 : ¬ v < 6 := fun z => e (decide_eq_true z)
    refine ⟨.int v, rfl, _, _, rfl, rfl, _, rfl, ite2 (fun e => ?_) (fun e => ?_)⟩
    · have e' : v < 12 := of_decide_eq_true e
      refine ⟨by show 0 ≤ sizeLine; decide, fun p1 n1 => ⟨by show 0 ≤ sizeLine; decide, fun p2 n2 m2 => fun p3 n3 => ⟨by show 1 ≤ sizeLine; decide, fun p4 n4 => ⟨by show 1 ≤ sizeLine; decide, fun p5 n5 m5 => ⟨by show 0 ≤ sizeLine; decide, fun p6 n6 => ⟨by show 1 ≤ sizeLine; decide, fun p7 n7 => ⟨by show 6 ≤ sizeLine; decide, fun o no => ?_⟩⟩⟩⟩⟩⟩⟩
      have k8 := Same.new (o := .lst [.ref p1, .ref p2, .ref p3, .ref p4, .ref p5, .ref p7]) no
      have k7 := (Same.new (o := .tup [.ref p6]) n7).trans k8
      have k6 := (Same.new (o := .tup []) n6).trans k7
      have k5 := (Same.new (o := .lst [.int 0]) n5).trans k6
      have k4 := (Same.new (o := .tup [.str "a"]) n4).trans k5
      have k3 := (Same.new (o := .dK []) n3).trans k4
      have k2 := (Same.new (o := .lst []) n2).trans k3
      have k1 := (Same.new (o := .tup []) n1).trans k2
      have hQ : ∀ {x : V} {d : PyData}, Dt _ x d → dsm d = true → Q x _ := fun {x d} h s => q x d _ h s (h1.same k1) (b1.and k1)
      obtain rfl | rfl | rfl | rfl | rfl | rfl : v = 6 ∨ v = 7 ∨ v = 8 ∨ v = 9 ∨ v = 10 ∨ v = 11 := by omega
      · exact ⟨_, rfl, _, _, rfl, rfl, o, _, _, _, rfl, rfl, sq_of upd_same, rfl, hQ (Dt.t0 (k2 _ _ upd_same)) (by decide +kernel)⟩
      · exact ⟨_, rfl, _, _, rfl, rfl, o, _, _, _, rfl, rfl, sq_of upd_same, rfl, hQ (Dt.l0 (k3 _ _ upd_same) m2) (by decide +kernel)⟩
      · exact ⟨_, rfl, _, _, rfl, rfl, o, _, _, _, rfl, rfl, sq_of upd_same, rfl, hQ (Dt.dic (k4 _ _ upd_same)) (by decide +kernel)⟩
      · exact ⟨_, rfl, _, _, rfl, rfl, o, _, _, _, rfl, rfl, sq_of upd_same, rfl, hQ (Dt.t1 (k5 _ _ upd_same) (.str _)) (by decide +kernel)⟩
      · exact ⟨_, rfl, _, _, rfl, rfl, o, _, _, _, rfl, rfl, sq_of upd_same, rfl, hQ (Dt.l1 (k6 _ _ upd_same) m5 (.int _)) (by decide +kernel)⟩
      · exact ⟨_, rfl, _, _, rfl, rfl, o, _, _, _, rfl, rfl, sq_of upd_same, rfl, hQ (Dt.t1 (k8 _ _ upd_same) (Dt.t0 (k7 _ _ upd_same))) (by decide +kernel)⟩
    have e2 : ¬ v < 12 := fun z => e (decide_eq_true z)
    refine ⟨.int v, rfl, _, _, rfl, rfl, _, rfl, ite2 (fun e => ?_) (fun e => ?_)⟩
    · have e' : v < 18 := of_decide_eq_true e
      refine ⟨_, rfl, _, _, rfl, rfl, ⟨by decide, by decide, by decide⟩, _, _, rfl, rfl, by show 6 ≤ sizeLine; decide, fun o no => ?_⟩
      have hQ : ∀ {x : V} {d : PyData} {u : HO}, Dt (upd H1 o u) x d → dsm d = true → Q x (upd H1 o u) := fun {x d u} h s => q x d _ h s (h1.same (Same.new no)) (b1.and (Same.new no))
      obtain rfl | rfl | rfl | rfl | rfl | rfl : v = 12 ∨ v = 13 ∨ v = 14 ∨ v = 15 ∨ v = 16 ∨ v = 17 := by omega
      · exact ⟨_, rfl, _, _, rfl, rfl, o, _, _, _, rfl, rfl, sq_of upd_same, rfl, hQ (.int _) (by decide +kernel)⟩
      · exact ⟨_, rfl, _, _, rfl, rfl, o, _, _, _, rfl, rfl, sq_of upd_same, rfl, hQ (.int _) (by decide +kernel)⟩
      · exact ⟨_, rfl, _, _, rfl, rfl, o, _, _, _, rfl, rfl, sq_of upd_same, rfl, hQ (.int _) (by decide +kernel)⟩
      · exact ⟨_, rfl, _, _, rfl, rfl, o, _, _, _, rfl, rfl, sq_of upd_same, rfl, hQ (.int _) (by decide +kernel)⟩
      · exact ⟨_, rfl, _, _, rfl, rfl, o, _, _, _, rfl, rfl, sq_of upd_same, rfl, hQ (.str _) (by decide +kernel)⟩
      · exact ⟨_, rfl, _, _, rfl, rfl, o, _, _, _, rfl, rfl, sq_of upd_same, rfl, hQ (.str _) (by decide +kernel)⟩
    refine ⟨.int v, rfl, rfl, _, rfl, ite2 (fun e => ?_) (fun e => ?_)⟩
    · refine ⟨by show 1 ≤ sizeLine; decide, fun p1 n1 => ⟨by show 2 ≤ sizeLine; decide, fun p2 n2 m2 => ?_⟩⟩
      have k2 := Same.new (o := .lst [.str "a", .ref p1]) n2
      have k1 := (Same.new (o := .tup [.str "go"]) n1).trans k2
      exact q _ _ _ (Dt.l2 upd_same m2 (.str _) (.t1 (k2 _ _ upd_same) (.str _))) (by decide +kernel) (h1.same k1) (b1.and k1)
    · refine ⟨by show 1 ≤ sizeLine; decide, fun p1 n1 => ?_⟩
      exact q _ _ _ (Dt.t1 upd_same (.str _)) (by decide +kernel) (h1.same (Same.new n1)) (b1.and (Same.new n1))
end
/-- the hand at p as it may be, all else of H as it was -/
structure Hn (p l : Addr) (H H' : Hp) : Prop where
  at_ : HandL H' p l
  but : But p H H'
theorem HandL.ne {H : Hp} {p l q : Addr} (h : HandL H p l) (n : H q = none) : q ≠ p ∧ q ≠ l := by
  obtain ⟨cells, i, r, s, m, h1, h2, _⟩ := h
  exact ⟨fun z => (by rw [z, h1] at n; cases n), fun z => (by rw [z, h2] at n; cases n)⟩
theorem Hn.new {p l q : Addr} {H H' : Hp} {o : HO} (h : Hn p l H H') (n : H' q = none) : Hn p l H (upd H' q o) := ⟨h.at_.same (Same.new n), h.but.and (Same.new n)⟩
theorem Hn.trans {p l : Addr} {H H1 H2 : Hp} (a : Hn p l H H1) (b : Hn p l H1 H2) : Hn p l H H2 := ⟨b.at_, a.but.trans b.but⟩
theorem Hn.refl {p l : Addr} {H : Hp} (h : HandL H p l) : Hn p l H H := ⟨h, But.refl p H⟩
theorem Hn.go {p l : Addr} {H H1 H2 : Hp} (a : Hn p l H H1) (h : HandL H2 p l) (b : But p H1 H2) : Hn p l H H2 := ⟨h, a.but.trans b⟩
theorem Hn.same {p l : Addr} {H H1 H2 : Hp} (a : Hn p l H H1) (k : Same H1 H2) : Hn p l H H2 := ⟨a.at_.same k, a.but.and k⟩
/-- an object that is new since H, at q, changes -/
theorem Hn.at {p l q : Addr} {H H' : Hp} {o : HO} (h : Hn p l H H') (h0 : HandL H p l) (n : H q = none) : Hn p l H (upd H' q o) := by
  obtain ⟨n1, n2⟩ := h0.ne n
  refine ⟨?_, fun b u nb e => ?_⟩
  · obtain ⟨cells, i, r, s, m, h1, h2, h3⟩ := h.at_
    exact ⟨cells, i, r, s, m, by rw [upd_ne (Ne.symm n1)]; exact h1, by rw [upd_ne (Ne.symm n2)]; exact h2, h3⟩
  · rw [upd_ne (ne_of_none e n)]
    exact h.but b u nb e
theorem sqBut {K : PySem.W.Frag} {H H' : Hp} {p a : Addr} {xs : List V} (h : SqL K H a xs) (n : a ≠ p) (b : But p H H') : SqL K H' a xs := by
  rcases h with (h | ⟨o, h⟩) | h
  · exact .inl (.inl (b _ _ n h))
  · exact .inl (.inr ⟨o, b _ _ n h⟩)
  · exact .inr h
end LawK
set_option maxHeartbeats 4000000
namespace LawK
open PySem PySem.Spec PyProof.Rows L2 Ev
structure Dk (P : Program) (w : World) (K : PySem.W.Frag) (mg : Str → Option Value) (base : Heap) (x : Str) (st : Stmt) (ps : List Str) (k : Nat) (sp : Sp) (f : Addr) (fd : FuncData) : Prop where
  F : Fun K x x st f fd
  b : Binds K fd ps []
  g : mg x = some (.ref f)
  ok : FnOk P w K mg base CX0 k f fd ps sp
section
variable {P : Program} {w : World} {K : PySem.W.Frag} {mg : Str → Option Value} {base : Heap}
abbrev sAreSigns : Stmt := topS 30
theorem scAreSigns : FnScope ["thing", "sign"] ["thing"] (defScope sAreSigns) := ⟨rfl, rfl, rfl, by decide +kernel, rfl, by decide +kernel, by decide +kernel⟩
theorem ok_AreSigns {f : Addr} {fd : FuncData} (F : Fun K "_law_are_signs" "_law_are_signs" sAreSigns f fd)  (T : Glob mg) : FnOk P w K mg base CX0 1 f fd ["thing"] spSg := by
  refine F.ok scAreSigns (fun vs H Q E h => ?_) (fun cdv A outer s H vs Q E hr h => ?_)
  · obtain ⟨x, k, rfl, _⟩ := h
    rfl
  · refine ⟨_, (pss_cons (ps_if (pt_not (pt_val (pe_callB call_isi (by rfl) T.isinstance PyProof.Rows.boot_isinstance (pa_cons (pv 0) (pa_cons (pe_bltn (v := .ty "str") (by rfl) T.str (by decide +kernel) rfl) pa_nil)))))
      (pss_one (ps_ret pe_bl))
      pss_nil)
      (pss_cons (ps_for PassesOwn.never rfl (pi_str (pv 0)) (pg_name (i := 1) scAreSigns.nd rfl (.inl rfl))
      (pss_one (ps_if (PW.pt (pw_or (pt_cmpR op_lt (pe_callB call_ord (by rfl) T.ord (by decide +kernel) (pa_cons (pv 1) pa_nil)) pe_int (nomark _)) (pw_or1 (pt_cmpR op_gt (pe_callB call_ord (by rfl) T.ord (by decide +kernel) (pa_cons (pv 1) pa_nil)) pe_int (nomark _)))))
        (pss_one (ps_ret pe_bl))
        pss_nil)))
      (pss_one (ps_ret pe_bl)))), ?_⟩
    obtain ⟨x, k, rfl, hk, hz, q⟩ := h
    refine ⟨x, rfl, x, .ty "str", .type (Kn.name k), .type "str", kitB k .str, rfl, .ty _, Kd.tyx hk, kit_kn k .str, _, rfl, ?_⟩
    cases hk with
    | str z =>
      have hz' := hz z rfl
      refine iteF ⟨.str z, rfl, z, rfl, for_strZ (fun i σ H' => (∃ y, σ = [some (.str z), y]) ∧ H' = H ∧ ∀ j c : Nat, j < i → z.cps[j]? = some c → sgC c = true) ⟨⟨_, rfl⟩, rfl, fun j c hj => absurd hj (by omega)⟩ ?_ ?_⟩
      · rintro i c σ H' hc ⟨⟨y, rfl⟩, rfl, hg⟩
        have bad : sgC c = false → Q (.bl false) H' := fun e => by
          have e2 := sgB_at hc e
          have q' : Q (.bl (sgB z)) H' := q
          rw [e2] at q'
          exact q'
        refine ⟨.str ⟨#[c]⟩, rfl, ⟨#[c]⟩, rfl, rfl, _, _, rfl, rfl, _, rfl, ite2 (fun e => iteT (bad ?_)) (fun e1 => ?_)⟩
        · have := of_decide_eq_true e
          have h2 : (c : Int) < 32 := this
          unfold sgC
          rw [decide_eq_false (show ¬ 32 ≤ c by omega), Bool.false_and]
        · refine ⟨.str ⟨#[c]⟩, rfl, ⟨#[c]⟩, rfl, rfl, _, _, rfl, rfl, _, rfl, ite2 (fun e => bad ?_) (fun e2 => ?_)⟩
          · have h2 : (126 : Int) < (c : Int) := of_decide_eq_true e
            unfold sgC
            rw [decide_eq_false (show ¬ c ≤ 126 by omega), Bool.and_false]
          · have h1 : ¬ (c : Int) < 32 := fun z => e1 (decide_eq_true z)
            have h2 : ¬ (126 : Int) < (c : Int) := fun z => e2 (decide_eq_true z)
            refine ⟨⟨_, rfl⟩, rfl, fun j d hj hd => ?_⟩
            by_cases e : j = i
            · subst e
              rw [hc] at hd
              cases hd
              unfold sgC
              rw [decide_eq_true (show 32 ≤ c by omega), decide_eq_true (show c ≤ 126 by omega)]
              rfl
            · exact hg j d (by omega) hd
      · rintro σ H' ⟨⟨y, rfl⟩, rfl, hg⟩
        have e : sgB z = true := sgB_all fun i c hc => hg i c (by
          have := Array.getElem?_eq_some_iff.mp hc
          exact this.1) hc
        have q' : Q (.bl (sgB z)) H' := q
        rw [e] at q'
        exact q'
    | non => exact iteT q
    | bl b => exact iteT q
    | int i => exact iteT q
    | lst e => exact iteT q
    | tup e => exact iteT q
    | dic e => exact iteT q
abbrev sIsWord : Stmt := topS 31
theorem scIsWord : FnScope ["thing"] ["thing"] (defScope sIsWord) := ⟨rfl, rfl, rfl, by decide +kernel, rfl, by decide +kernel, by decide +kernel⟩
theorem ok_IsWord {f : Addr} {fd : FuncData} (F : Fun K "_law_is_word" "_law_is_word" sIsWord f fd) {fAreSigns : Addr} {fdAreSigns : FuncData} (DAreSigns : Dk P w K mg base "_law_are_signs" sAreSigns ["thing"] 1 spSg fAreSigns fdAreSigns) (T : Glob mg) : FnOk P w K mg base CX0 2 f fd ["thing"] spWd := by
  refine F.ok scIsWord (fun vs H Q E h => ?_) (fun cdv A outer s H vs Q E hr h => ?_)
  · obtain ⟨x, k, rfl, _⟩ := h
    rfl
  · refine ⟨_, (pss_one (ps_ret (pe_and (pe_call DAreSigns.ok (hr.mono (by decide)) (by rfl) DAreSigns.g DAreSigns.F.kp DAreSigns.b .nil pass0 (pa_cons (pv 0) pa_nil)) (pe_one (pe_cmpR op_gt (pe_callB call_lenZ (by rfl) T.len PySem.boot_len (pa_cons (pv 0) pa_nil)) pe_int (nomark _)))))), ?_⟩
    obtain ⟨x, k, rfl, hk, hz, q⟩ := h
    refine ⟨x, rfl, x, k, rfl, hk, hz, _, rfl, ite2 (fun e => ?_) (fun e => ?_)⟩
    · cases hk with
      | str z =>
        refine ⟨.str z, rfl, z, rfl, len5 (hz z rfl), _, _, rfl, rfl, ?_⟩
        have e' : sgB z = true := e
        have q' : Q (.bl (sgB z && decide ((0 : Int) < (z.length : Int)))) H := q
        rw [e', Bool.true_and] at q'
        exact q'
      | non => exact Bool.noConfusion e
      | bl b => exact Bool.noConfusion e
      | int i => exact Bool.noConfusion e
      | lst e2 => exact Bool.noConfusion e
      | tup e2 => exact Bool.noConfusion e
      | dic e2 => exact Bool.noConfusion e
    · have e' : sgV x = false := by simpa using e
      cases hk with
      | str z =>
        have e2 : sgB z = false := e'
        have q' : Q (.bl (sgB z && decide ((0 : Int) < (z.length : Int)))) H := q
        rw [e2, Bool.false_and] at q'
        exact q'
      | non => exact q
      | bl b => exact q
      | int i => exact q
      | lst e2 => exact q
      | tup e2 => exact q
      | dic e2 => exact q
abbrev sPSigns : Stmt := topS 7
theorem scPSigns : FnScope ["thing"] ["thing"] (defScope sPSigns) := ⟨rfl, rfl, rfl, by decide +kernel, rfl, by decide +kernel, by decide +kernel⟩
theorem ok_PSigns {f : Addr} {fd : FuncData} (F : Fun K "is_signs" "is_signs" sPSigns f fd)  (T : Glob mg) : FnOk P w K mg base CX0 1 f fd ["thing"] spSg := by
  refine F.ok scPSigns (fun vs H Q E h => ?_) (fun cdv A outer s H vs Q E hr h => ?_)
  · obtain ⟨x, k, rfl, _⟩ := h
    rfl
  · refine ⟨_, (pss_one (ps_ret (pe_and (pe_callB call_isi (by rfl) T.isinstance PyProof.Rows.boot_isinstance (pa_cons (pv 0) (pa_cons (pe_bltn (v := .ty "str") (by rfl) T.str (by decide +kernel) rfl) pa_nil))) (pe_and (pe_bm0 PySem.F.plainAttrs_str PySem.F.slot_str_isascii PySem.F.type_str_isascii mt_isascii (pv 0)) (pe_one (pe_bm0 PySem.F.plainAttrs_str PySem.F.slot_str_isprintable PySem.F.type_str_isprintable mt_isprintable (pv 0))))))), ?_⟩
    obtain ⟨x, k, rfl, hk, hz, q⟩ := h
    refine ⟨x, rfl, x, .ty "str", .type (Kn.name k), .type "str", kitB k .str, rfl, .ty _, Kd.tyx hk, kit_kn k .str, _, rfl, ?_⟩
    cases hk with
    | str z =>
      refine iteT ⟨.str z, rfl, rfl, z, rfl, rfl, trivial, _, rfl, ite2 (fun e => ⟨.str z, rfl, rfl, z, rfl, rfl, trivial, ?_⟩) (fun e => ?_)⟩
      · have q' : Q (.bl (sgB z)) H := q
        rw [← sgB_of, e, Bool.true_and] at q'
        exact q'
      · have e' : Txt.isascii z = false := by simpa using e
        have q' : Q (.bl (sgB z)) H := q
        rw [← sgB_of, e', Bool.false_and] at q'
        exact q'
    | non => exact iteF q
    | bl b => exact iteF q
    | int i => exact iteF q
    | lst e => exact iteF q
    | tup e => exact iteF q
    | dic e => exact iteF q
abbrev sPWord : Stmt := topS 8
theorem scPWord : FnScope ["thing"] ["thing"] (defScope sPWord) := ⟨rfl, rfl, rfl, by decide +kernel, rfl, by decide +kernel, by decide +kernel⟩
theorem ok_PWord {f : Addr} {fd : FuncData} (F : Fun K "is_word" "is_word" sPWord f fd) {fPSigns : Addr} {fdPSigns : FuncData} (DPSigns : Dk P w K mg base "is_signs" sPSigns ["thing"] 1 spSg fPSigns fdPSigns) (T : Glob mg) : FnOk P w K mg base CX0 2 f fd ["thing"] spWd := by
  refine F.ok scPWord (fun vs H Q E h => ?_) (fun cdv A outer s H vs Q E hr h => ?_)
  · obtain ⟨x, k, rfl, _⟩ := h
    rfl
  · refine ⟨_, (pss_one (ps_ret (pe_and (pe_call DPSigns.ok (hr.mono (by decide)) (by rfl) DPSigns.g DPSigns.F.kp DPSigns.b .nil pass0 (pa_cons (pv 0) pa_nil)) (pe_one (pe_cmpR op_gt (pe_callB call_lenZ (by rfl) T.len PySem.boot_len (pa_cons (pv 0) pa_nil)) pe_int (nomark _)))))), ?_⟩
    obtain ⟨x, k, rfl, hk, hz, q⟩ := h
    refine ⟨x, rfl, x, k, rfl, hk, hz, _, rfl, ite2 (fun e => ?_) (fun e => ?_)⟩
    · cases hk with
      | str z =>
        refine ⟨.str z, rfl, z, rfl, len5 (hz z rfl), _, _, rfl, rfl, ?_⟩
        have e' : sgB z = true := e
        have q' : Q (.bl (sgB z && decide ((0 : Int) < (z.length : Int)))) H := q
        rw [e', Bool.true_and] at q'
        exact q'
      | non => exact Bool.noConfusion e
      | bl b => exact Bool.noConfusion e
      | int i => exact Bool.noConfusion e
      | lst e2 => exact Bool.noConfusion e
      | tup e2 => exact Bool.noConfusion e
      | dic e2 => exact Bool.noConfusion e
    · have e' : sgV x = false := by simpa using e
      cases hk with
      | str z =>
        have e2 : sgB z = false := e'
        have q' : Q (.bl (sgB z && decide ((0 : Int) < (z.length : Int)))) H := q
        rw [e2, Bool.false_and] at q'
        exact q'
      | non => exact q
      | bl b => exact q
      | int i => exact q
      | lst e2 => exact q
      | tup e2 => exact q
      | dic e2 => exact q
abbrev sIsInteger : Stmt := topS 21
theorem scIsInteger : FnScope ["thing"] ["thing"] (defScope sIsInteger) := ⟨rfl, rfl, rfl, by decide +kernel, rfl, by decide +kernel, by decide +kernel⟩
theorem ok_IsInteger {f : Addr} {fd : FuncData} (F : Fun K "_law_is_integer" "_law_is_integer" sIsInteger f fd)  (T : Glob mg) : FnOk P w K mg base CX0 1 f fd ["thing"] spInt := by
  refine F.ok scIsInteger (fun vs H Q E h => ?_) (fun cdv A outer s H vs Q E hr h => ?_)
  · obtain ⟨x, k, rfl, _⟩ := h
    rfl
  · refine ⟨_, (pss_one (ps_ret (pe_and (pe_callB call_isi (by rfl) T.isinstance PyProof.Rows.boot_isinstance (pa_cons (pv 0) (pa_cons (pe_bltn (v := .ty "int") (by rfl) T.int (by decide +kernel) rfl) pa_nil))) (pe_one (pe_not (pe_callB call_isi (by rfl) T.isinstance PyProof.Rows.boot_isinstance (pa_cons (pv 0) (pa_cons (pe_bltn (v := .ty "bool") (by rfl) T.bool (by decide +kernel) rfl) pa_nil)))))))), ?_⟩
    obtain ⟨x, k, rfl, hk, q⟩ := h
    refine ⟨x, rfl, x, .ty "int", .type (Kn.name k), .type "int", kitB k .int, rfl, .ty _, Kd.tyx hk, kit_kn k .int, _, rfl, ?_⟩
    cases hk with
    | int i => exact iteT ⟨.int i, rfl, .int i, .ty "bool", .type (Kn.name .int), .type "bool", kitB .int .bl, rfl, .ty _, Kd.tyx (.int i), kit_kn .int .bl, _, rfl, q⟩
    | bl b => exact iteT ⟨.bl b, rfl, .bl b, .ty "bool", .type (Kn.name .bl), .type "bool", kitB .bl .bl, rfl, .ty _, Kd.tyx (.bl b), kit_kn .bl .bl, _, rfl, q⟩
    | str z => exact iteF q
    | non => exact iteF q
    | lst e => exact iteF q
    | tup e => exact iteF q
    | dic e => exact iteF q
abbrev sPNumber : Stmt := topS 6
theorem scPNumber : FnScope ["thing"] ["thing"] (defScope sPNumber) := ⟨rfl, rfl, rfl, by decide +kernel, rfl, by decide +kernel, by decide +kernel⟩
theorem ok_PNumber {f : Addr} {fd : FuncData} (F : Fun K "is_number" "is_number" sPNumber f fd)  (T : Glob mg) : FnOk P w K mg base CX0 1 f fd ["thing"] spNum := by
  refine F.ok scPNumber (fun vs H Q E h => ?_) (fun cdv A outer s H vs Q E hr h => ?_)
  · obtain ⟨x, k, rfl, _⟩ := h
    rfl
  · refine ⟨_, (pss_one (ps_ret (pe_and (pe_callB call_isi (by rfl) T.isinstance PyProof.Rows.boot_isinstance (pa_cons (pv 0) (pa_cons (pe_bltn (v := .ty "int") (by rfl) T.int (by decide +kernel) rfl) pa_nil))) (pe_and (pe_not (pe_callB call_isi (by rfl) T.isinstance PyProof.Rows.boot_isinstance (pa_cons (pv 0) (pa_cons (pe_bltn (v := .ty "bool") (by rfl) T.bool (by decide +kernel) rfl) pa_nil)))) (pe_one (pe_cmpR op_ge (pv 0) pe_int (nomark _))))))), ?_⟩
    obtain ⟨x, k, rfl, hk, q⟩ := h
    refine ⟨x, rfl, x, .ty "int", .type (Kn.name k), .type "int", kitB k .int, rfl, .ty _, Kd.tyx hk, kit_kn k .int, _, rfl, ?_⟩
    cases hk with
    | int i => exact iteT ⟨.int i, rfl, .int i, .ty "bool", .type (Kn.name .int), .type "bool", kitB .int .bl, rfl, .ty _, Kd.tyx (.int i), kit_kn .int .bl, _, rfl, _, rfl, iteT ⟨.int i, rfl, _, _, rfl, rfl, q⟩⟩
    | bl b => exact iteT ⟨.bl b, rfl, .bl b, .ty "bool", .type (Kn.name .bl), .type "bool", kitB .bl .bl, rfl, .ty _, Kd.tyx (.bl b), kit_kn .bl .bl, _, rfl, _, rfl, iteF q⟩
    | str z => exact iteF q
    | non => exact iteF q
    | lst e => exact iteF q
    | tup e => exact iteF q
    | dic e => exact iteF q
abbrev sIsWithin : Stmt := topS 22
theorem scIsWithin : FnScope ["thing", "least", "most"] ["thing", "least", "most"] (defScope sIsWithin) := ⟨rfl, rfl, rfl, by decide +kernel, rfl, by decide +kernel, by decide +kernel⟩
theorem ok_IsWithin {f : Addr} {fd : FuncData} (F : Fun K "_law_is_within" "_law_is_within" sIsWithin f fd) {fIsInteger : Addr} {fdIsInteger : FuncData} (DIsInteger : Dk P w K mg base "_law_is_integer" sIsInteger ["thing"] 1 spInt fIsInteger fdIsInteger) (T : Glob mg) : FnOk P w K mg base CX0 2 f fd ["thing", "least", "most"] spIn := by
  refine F.ok scIsWithin (fun vs H Q E h => ?_) (fun cdv A outer s H vs Q E hr h => ?_)
  · obtain ⟨x, k, a, b, rfl, _⟩ := h
    rfl
  · refine ⟨_, (pss_one (ps_ret (pe_and (pe_call DIsInteger.ok (hr.mono (by decide)) (by rfl) DIsInteger.g DIsInteger.F.kp DIsInteger.b .nil pass0 (pa_cons (pv 0) pa_nil)) (pe_and (pe_cmpR op_le (pv 1) (pv 0) (nomark _)) (pe_one (pe_cmpR op_le (pv 0) (pv 2) (nomark _))))))), ?_⟩
    obtain ⟨x, k, a, b, rfl, hk, q⟩ := h
    refine ⟨x, rfl, x, k, rfl, hk, _, rfl, ?_⟩
    cases hk with
    | int i =>
      refine iteT ⟨.int a, rfl, .int i, rfl, _, _, rfl, rfl, _, rfl, ite2 (fun e => ?_) (fun e => ?_)⟩
      · have q' : Q (.bl (decide (a ≤ i) && decide (i ≤ b))) H := q
        rw [e, Bool.true_and] at q'
        exact ⟨.int i, rfl, .int b, rfl, _, _, rfl, rfl, q'⟩
      · have e' : decide (a ≤ i) = false := by simpa using e
        have q' : Q (.bl (decide (a ≤ i) && decide (i ≤ b))) H := q
        rw [e', Bool.false_and] at q'
        exact q'
    | bl b => exact iteF q
    | str z => exact iteF q
    | non => exact iteF q
    | lst e => exact iteF q
    | tup e => exact iteF q
    | dic e => exact iteF q
end
end LawK
set_option maxHeartbeats 4000000
namespace LawK
open PySem PySem.Spec PyProof.Rows L2 Ev
def spPick (K : PySem.W.Frag) : Sp := fun vs H Q _ => ∃ (p a : Addr) (xs : List V), vs = [.ref p, .ref a] ∧ SqL K H a xs ∧ a ≠ p ∧ 0 < xs.length ∧ xs.length < 1000000 ∧ ∃ l, HandL H p l ∧ ∀ x H', x ∈ xs → HandL H' p l → But p H H' → Q x H'
def spAlpha : Sp := fun vs H Q _ => ∃ (p : Addr), vs = [.ref p] ∧ ∃ l, HandL H p l ∧ ∀ z H', sgB z = true → 0 < z.length → z.length ≤ 100 → HandL H' p l → But p H H' → Q (.str z) H'
def spWord : Sp := fun vs H Q _ => ∃ (p : Addr) (z : Str) (a b : Int), vs = [.ref p, .str z, .int a, .int b] ∧ sgB z = true ∧ 0 < z.length ∧ z.length ≤ 100 ∧ 0 ≤ a ∧ a ≤ b ∧ b ≤ 1000 ∧ ∃ l, HandL H p l ∧
  ∀ y H', sgB y = true → a ≤ (y.length : Int) → (y.length : Int) ≤ b → HandL H' p l → But p H H' → Q (.str y) H'
def spText : Sp := fun vs H Q _ => ∃ (p : Addr) (z : Str) (m : Int), vs = [.ref p, .str z, .int m] ∧ sgB z = true ∧ 0 < z.length ∧ z.length ≤ 100 ∧ 1 ≤ m ∧ m ≤ 100 ∧ ∃ l, HandL H p l ∧
  ∀ y H', sgB y = true → (y.length : Int) ≤ m → HandL H' p l → But p H H' → Q (.str y) H'
def spNear : Sp := fun vs H Q _ => ∃ (p : Addr) (z t : Str) (m : Int), vs = [.ref p, .str z, .str t, .int m] ∧ sgB z = true ∧ 0 < z.length ∧ z.length ≤ 100 ∧ sgB t = true ∧ t.length ≤ 1000 ∧ 1 ≤ m ∧ m ≤ 100 ∧ ∃ l, HandL H p l ∧
  ∀ y H', sgB y = true → (y.length : Int) ≤ m → HandL H' p l → But p H H' → Q (.str y) H'
theorem len6 {z : Str} {n : Nat} (h : z.length ≤ n) (hn : n ≤ 5000 := by decide) : z.length ≤ sizeLine := len5 (Nat.le_trans h hn)
theorem sg_at {z : Str} {v : Int} (hz : sgB z = true) (h0 : 0 ≤ v) (h1 : v < (z.length : Int)) : ∃ c, atI z.cps.toList v = some c ∧ sgC c = true := by
  obtain ⟨c, e, hm⟩ := atI_in (xs := z.cps.toList) h0 (by rw [← len_S]; exact h1)
  exact ⟨c, e, sgB_mem hz hm⟩
section
variable {P : Program} {w : World} {K : PySem.W.Frag} {mg : Str → Option Value} {base : Heap}
abbrev sPick : Stmt := topS 20
theorem scPick : FnScope ["hand", "things"] ["hand", "things"] (defScope sPick) := ⟨rfl, rfl, rfl, by decide +kernel, rfl, by decide +kernel, by decide +kernel⟩
theorem ok_Pick {f : Addr} {fd : FuncData} (F : Fun K "_law_pick" "_law_pick" sPick f fd) {fTake : Addr} {fdTake : FuncData} (DTake : Dk P w K mg base "_law_take" sTake ["hand", "many"] 1 spTake fTake fdTake) (T : Glob mg) : FnOk P w K mg base CX0 2 f fd ["hand", "things"] (spPick K) := by
  refine F.ok scPick (fun vs H Q E h => ?_) (fun cdv A outer s H vs Q E hr h => ?_)
  · obtain ⟨p, a, xs, rfl, _⟩ := h
    rfl
  · refine ⟨_, (pss_one (ps_ret (pe_ix ix_list (pv 1) (pe_call DTake.ok (hr.mono (by decide)) (by rfl) DTake.g DTake.F.kp DTake.b .nil pass0 (pa_cons (pv 0) (pa_cons (pe_callB call_len_seq (by rfl) T.len PySem.boot_len (pa_cons (pv 1) pa_nil)) pa_nil))) (fun _ _ => rfl)))), ?_⟩
    obtain ⟨p, a, xs, rfl, ha, nap, h0, h1, lh, hH, q⟩ := h
    refine ⟨.ref a, rfl, .ref p, rfl, .ref a, rfl, a, xs, rfl, .inl ha, p, (xs.length : Int), rfl, by omega, by omega, lh, hH, fun v H1 v0 v1 h2 b2 => ?_⟩
    obtain ⟨x, e, hm⟩ := atI_in v0 v1
    exact ⟨a, xs, v, x, rfl, rfl, sqBut ha nap b2, e, q x H1 hm h2 b2⟩
abbrev sAlphabet : Stmt := topS 25
theorem scAlphabet : FnScope ["hand", "way", "signs"] ["hand"] (defScope sAlphabet) := ⟨rfl, rfl, rfl, by decide +kernel, rfl, by decide +kernel, by decide +kernel⟩
theorem ok_Alphabet {f : Addr} {fd : FuncData} (F : Fun K "_law_alphabet" "_law_alphabet" sAlphabet f fd) {fTake : Addr} {fdTake : FuncData} (DTake : Dk P w K mg base "_law_take" sTake ["hand", "many"] 1 spTake fTake fdTake) (T : Glob mg) : FnOk P w K mg base CX0 2 f fd ["hand"] spAlpha := by
  refine F.ok scAlphabet (fun vs H Q E h => ?_) (fun cdv A outer s H vs Q E hr h => ?_)
  · obtain ⟨p, rfl, _⟩ := h
    rfl
  · refine ⟨_, (pss_cons (ps_set (i := 1) scAlphabet.nd rfl (.inl rfl) (pe_call DTake.ok (hr.mono (by decide)) (by rfl) DTake.g DTake.F.kp DTake.b .nil pass0 (pa_cons (pv 0) (pa_cons pe_int pa_nil))))
      (pss_cons (ps_if (pt_cmpR op_lt (pv 1) pe_int (nomark _))
      (pss_one (ps_ret (pe_ix ix_list (pe_lst (pa_cons pe_str (pa_cons pe_str (pa_cons pe_str (pa_cons pe_str (pa_cons pe_str pa_nil)))))) (pv 1) (fun _ _ => rfl))))
      pss_nil)
      (pss_cons (ps_if (pt_cmpR op_lt (pv 1) pe_int (nomark _))
      (pss_one (ps_ret pe_str))
      pss_nil)
      (pss_cons (ps_set (i := 2) scAlphabet.nd rfl (.inl rfl) pe_str)
      (pss_one (ps_ret (pe_op op_add_str (pv 2) pe_str))))))), ?_⟩
    obtain ⟨p, rfl, lh, hH, q⟩ := h
    refine ⟨.ref p, rfl, p, 8, rfl, by decide, by decide, lh, hH, fun v H1 v0 v1 h1 b1 => ?_⟩
    refine ⟨.int v, rfl, _, _, rfl, rfl, _, rfl, ite2 (fun e => ?_) (fun e => ?_)⟩
    · have e' : v < 5 := of_decide_eq_true e
      refine ⟨by show 5 ≤ sizeLine; decide, fun o no => ?_⟩
      have k : ∀ {z : Str} {u : HO}, sgB z = true ∧ 0 < z.length ∧ z.length ≤ 100 → Q (.str z) (upd H1 o u) := fun {z u} hz => q z _ hz.1 hz.2.1 hz.2.2 (h1.same (Same.new no)) (b1.and (Same.new no))
      obtain rfl | rfl | rfl | rfl | rfl : v = 0 ∨ v = 1 ∨ v = 2 ∨ v = 3 ∨ v = 4 := by omega
      · exact ⟨_, rfl, o, _, _, _, rfl, rfl, sq_of upd_same, rfl, k ⟨by decide +kernel, by decide +kernel, by decide +kernel⟩⟩
      · exact ⟨_, rfl, o, _, _, _, rfl, rfl, sq_of upd_same, rfl, k ⟨by decide +kernel, by decide +kernel, by decide +kernel⟩⟩
      · exact ⟨_, rfl, o, _, _, _, rfl, rfl, sq_of upd_same, rfl, k ⟨by decide +kernel, by decide +kernel, by decide +kernel⟩⟩
      · exact ⟨_, rfl, o, _, _, _, rfl, rfl, sq_of upd_same, rfl, k ⟨by decide +kernel, by decide +kernel, by decide +kernel⟩⟩
      · exact ⟨_, rfl, o, _, _, _, rfl, rfl, sq_of upd_same, rfl, k ⟨by decide +kernel, by decide +kernel, by decide +kernel⟩⟩
    
    refine ⟨.int v, rfl, _, _, rfl, rfl, _, rfl, ite2 (fun e2 => ?_) (fun e2 => ?_)⟩
    · exact q _ _ (by decide +kernel) (by decide +kernel) (by decide +kernel) h1 b1
    · exact ⟨_, rfl, _, _, rfl, rfl, by decide +kernel, q _ _ (by decide +kernel) (by decide +kernel) (by decide +kernel) h1 b1⟩
abbrev sWord : Stmt := topS 26
theorem scWord : FnScope ["hand", "signs", "least", "most", "many", "k"] ["hand", "signs", "least", "most"] (defScope sWord) := ⟨rfl, rfl, rfl, by decide +kernel, rfl, by decide +kernel, by decide +kernel⟩
theorem ok_Word {f : Addr} {fd : FuncData} (F : Fun K "_law_word" "_law_word" sWord f fd) {fTake : Addr} {fdTake : FuncData} (DTake : Dk P w K mg base "_law_take" sTake ["hand", "many"] 1 spTake fTake fdTake) (T : Glob mg) : FnOk P w K mg base CX0 2 f fd ["hand", "signs", "least", "most"] spWord := by
  refine F.ok scWord (fun vs H Q E h => ?_) (fun cdv A outer s H vs Q E hr h => ?_)
  · obtain ⟨p, z, a, b, rfl, _⟩ := h
    rfl
  · refine ⟨_, (pss_cons (ps_set (i := 4) scWord.nd rfl (.inl rfl) (pe_op op_add (pv 2) (pe_call DTake.ok (hr.mono (by decide)) (by rfl) DTake.g DTake.F.kp DTake.b .nil pass0 (pa_cons (pv 0) (pa_cons (pe_op op_add (pe_op op_sub (pv 3) (pv 2)) pe_int) pa_nil)))))
      (pss_one (ps_ret (pe_join pe_str (pe_lc (own := [("k", 5)]) (g := gName 5) (by rfl) scWord.nd (pi_range1 (by rfl) T.range (pa_cons (pv 4) pa_nil)) (blkOk_by (N := ["hand", "signs", "least", "most", "many", "k"]) (sc := defScope sWord) (by decide +kernel)) (fun _ _ _ _ _ => pg_name (i := 5) scWord.nd rfl (.inl rfl)) (fun _ _ _ _ _ => pts_nil) (fun _ _ _ _ _ => (pe_ix ix_str (pv 1) (pe_call DTake.ok (hr.mono (by decide)) (by rfl) DTake.g DTake.F.kp DTake.b .nil pass0 (pa_cons (pv 0) (pa_cons (pe_callB call_lenZ (by rfl) T.len PySem.boot_len (pa_cons (pv 1) pa_nil)) pa_nil))) (fun _ _ => rfl)))))))), ?_⟩
    obtain ⟨p, z, a, b, rfl, hz, z0, z1, ha, hab, hb, lh, hH, q⟩ := h
    refine ⟨.int a, rfl, .ref p, rfl, .int b, rfl, .int a, rfl, _, _, rfl, rfl, _, _, rfl, rfl, p, b - a + 1, rfl, by omega, by omega, lh, hH, fun v H1 v0 v1 h1 b1 => ?_⟩
    refine ⟨_, _, rfl, rfl, ⟨_, rfl⟩, .int (a + v), rfl, a + v, rfl, by omega, by omega, fun D nD => lc_range (fun i H' => ∃ cs : List Nat, H' D = some (.lst (cs.map fun c => V.str (SX.S [c]))) ∧ cs.length = i ∧ (∀ c ∈ cs, sgC c = true) ∧ Hn p lh H1 H') ⟨[], upd_same, rfl, fun c hc => absurd hc (by simp), (Hn.refl h1).new nD⟩ ?_ ?_⟩
    · rintro i H' hi ⟨cs, hD, hl, hs, hn⟩
      refine ⟨rfl, .str z, rfl, .ref p, rfl, .str z, rfl, z, rfl, len6 z1, p, (z.length : Int), rfl, by omega, by omega, lh, hn.at_, fun u H2 u0 u1 h2 b2 => ?_⟩
      obtain ⟨c, ec, hc⟩ := sg_at hz u0 u1
      have nDp := (h1.ne nD).1
      refine ⟨z, u, c, rfl, rfl, len6 z1, ec, _, b2 _ _ nDp hD, ?_, cs ++ [c], ?_, ?_, ?_, (hn.go h2 b2).at h1 nD⟩
      · rw [List.length_map, hl]
        have h3 : sizeLine = 16777216 := sizeLine_eq
        omega
      · rw [upd_same, List.map_append]
        rfl
      · rw [List.length_append, hl]
        rfl
      · intro d hd
        rcases List.mem_append.mp hd with g | g
        · exact hs d g
        · rw [List.mem_singleton.mp g]
          exact hc
    · rintro H' ⟨cs, hD, hl, hs, hn⟩
      have e1 : (cs.map fun c => V.str (SX.S [c])) = (cs.map fun c => SX.S [c]).map V.str := by rw [List.map_map]; rfl
      have hln : (cs.length : Int) = a + v := by omega
      have hsum : ((cs.map fun c => SX.S [c]).map (·.length)).sum ≤ cs.length := by
        clear hD hl hs e1 hln
        induction cs with
        | nil => exact Nat.le_refl _
        | cons c cs ih =>
          simp only [List.map_cons, List.sum_cons, List.length_cons]
          have : (SX.S [c]).length = 1 := rfl
          omega
      refine ⟨_, D, cs.map (fun c => SX.S [c]), rfl, rfl, .inl (sq_of (e1 ▸ hD)), ?_, ?_⟩
      · rw [List.length_map]
        have : (Str.ofString "").length = 0 := by decide +kernel
        rw [this]
        omega
      · rw [join1]
        have e2 : (SX.S cs).length = cs.length := SX.S_len cs
        exact q _ H' (List.all_eq_true.mpr hs) (by rw [e2]; omega) (by rw [e2]; omega) hn.at_ (b1.trans hn.but)
end
end LawK
set_option maxHeartbeats 4000000
namespace LawK
open PySem PySem.Spec PyProof.Rows L2 Ev
section
variable {P : Program} {w : World} {K : PySem.W.Frag} {mg : Str → Option Value} {base : Heap}
abbrev sText : Stmt := topS 27
theorem scText : FnScope ["hand", "signs", "most", "way", "one", "other", "found", "k"] ["hand", "signs", "most"] (defScope sText) := ⟨rfl, rfl, rfl, by decide +kernel, rfl, by decide +kernel, by decide +kernel⟩
theorem ok_Text {f : Addr} {fd : FuncData} (F : Fun K "_law_text" "_law_text" sText f fd) {fTake : Addr} {fdTake : FuncData} (DTake : Dk P w K mg base "_law_take" sTake ["hand", "many"] 1 spTake fTake fdTake) {fWord : Addr} {fdWord : FuncData} (DWord : Dk P w K mg base "_law_word" sWord ["hand", "signs", "least", "most"] 2 spWord fWord fdWord) (T : Glob mg) : FnOk P w K mg base CX0 3 f fd ["hand", "signs", "most"] spText := by
  refine F.ok scText (fun vs H Q E h => ?_) (fun cdv A outer s H vs Q E hr h => ?_)
  · obtain ⟨p, z, m, rfl, _⟩ := h
    rfl
  · refine ⟨_, (pss_cons (ps_set (i := 3) scText.nd rfl (.inl rfl) (pe_call DTake.ok (hr.mono (by decide)) (by rfl) DTake.g DTake.F.kp DTake.b .nil pass0 (pa_cons (pv 0) (pa_cons pe_int pa_nil))))
      (pss_cons (ps_if (pt_cmpR op_eq (pv 3) pe_int (nomark _))
      (pss_one (ps_ret (pe_slice sl_str (pe_op op_mulS (pe_call DWord.ok (hr.mono (by decide)) (by rfl) DWord.g DWord.F.kp DWord.b .nil pass0 (pa_cons (pv 0) (pa_cons (pv 1) (pa_cons pe_int (pa_cons pe_int pa_nil))))) (pv 2)) po_none (po_some (pe_call DTake.ok (hr.mono (by decide)) (by rfl) DTake.g DTake.F.kp DTake.b .nil pass0 (pa_cons (pv 0) (pa_cons (pe_op op_add (pv 2) pe_int) pa_nil)))))))
      pss_nil)
      (pss_cons (ps_if (pt_cmpR op_eq (pv 3) pe_int (nomark _))
      (pss_cons (ps_set (i := 4) scText.nd rfl (.inl rfl) (pe_call DWord.ok (hr.mono (by decide)) (by rfl) DWord.g DWord.F.kp DWord.b .nil pass0 (pa_cons (pv 0) (pa_cons (pv 1) (pa_cons pe_int (pa_cons pe_int pa_nil))))))
        (pss_cons (ps_set (i := 5) scText.nd rfl (.inl rfl) (pe_call DWord.ok (hr.mono (by decide)) (by rfl) DWord.g DWord.F.kp DWord.b .nil pass0 (pa_cons (pv 0) (pa_cons (pv 1) (pa_cons pe_int (pa_cons pe_int pa_nil))))))
        (pss_cons (ps_set (i := 6) scText.nd rfl (.inl rfl) pe_str)
        (pss_cons (ps_for PassesOwn.never rfl (pi_range1 (by rfl) T.range (pa_cons (pe_op op_fdiv (pv 2) pe_int) pa_nil)) (pg_name (i := 7) scText.nd rfl (.inl rfl))
        (pss_one (ps_set (i := 6) scText.nd rfl (.inl rfl) (pe_op op_add_str (pv 6) (pe_ix ix_list (pe_lst (pa_cons (pv 4) (pa_cons (pv 5) pa_nil))) (pe_call DTake.ok (hr.mono (by decide)) (by rfl) DTake.g DTake.F.kp DTake.b .nil pass0 (pa_cons (pv 0) (pa_cons pe_int pa_nil))) (fun _ _ => rfl))))))
        (pss_one (ps_ret (pe_slice sl_str (pv 6) po_none (po_some (pv 2)))))))))
      pss_nil)
      (pss_one (ps_ret (pe_call DWord.ok (hr.mono (by decide)) (by rfl) DWord.g DWord.F.kp DWord.b .nil pass0 (pa_cons (pv 0) (pa_cons (pv 1) (pa_cons pe_int (pa_cons (pv 2) pa_nil)))))))))), ?_⟩
    obtain ⟨p, z, m, rfl, hz, z0, z1, m0, m1, lh, hH, q⟩ := h
    refine ⟨.ref p, rfl, p, 5, rfl, by decide, by decide, lh, hH, fun v H1 v0 v1 h1 b1 => ?_⟩
    refine ⟨.int v, rfl, rfl, _, rfl, ite2 (fun _ => ?_) (fun _ => ?_)⟩
    · refine ⟨.ref p, rfl, .str z, rfl, p, z, 1, 3, rfl, hz, z0, z1, by decide, by decide, by decide, lh, h1, fun y H2 sy y1 y3 h2 b2 => ?_⟩
      refine ⟨.int m, rfl, y, m, rfl, rfl, by omega, by omega, by omega, .ref p, rfl, .int m, rfl, _, _, rfl, rfl, p, m + 1, rfl, by omega, by omega, lh, h2, fun u H3 u0 u1 h3 b3 => ?_⟩
      obtain ⟨f1, f2⟩ := mul_facts y m
      have f3 : y.length * m.toNat ≤ 3 * 100 := Nat.mul_le_mul (by omega) (by omega)
      have f4 : (Txt.mul y m).length ≤ 300 := by omega
      refine ⟨u, rfl, Txt.mul y m, rfl, len6 f4, ?_⟩
      have c1 := cut_hi (z := Txt.mul y m) (lo := none) u0
      exact q _ H3 (sgB_cut (f2 sy) _ _) (by omega) h3 ((b1.trans b2).trans b3)
    refine ⟨.int v, rfl, rfl, _, rfl, ite2 (fun _ => ?_) (fun _ => ?_)⟩
    · refine ⟨.ref p, rfl, .str z, rfl, p, z, 1, 2, rfl, hz, z0, z1, by decide, by decide, by decide, lh, h1, fun y1 H2 sy1 g1 g2 h2 b2 => ?_⟩
      refine ⟨.ref p, rfl, .str z, rfl, p, z, 1, 3, rfl, hz, z0, z1, by decide, by decide, by decide, lh, h2, fun y2 H3 sy2 g3 g4 h3 b3 => ?_⟩
      have b13 := (b1.trans b2).trans b3
      have sel : ∀ {o : Addr} {H4 H5 : Hp} {u : Int}, HandL H4 p lh → H4 o = none → But p (upd H4 o (.lst [.str y1, .str y2])) H5 → 0 ≤ u → u < 2 → ∃ w, SqL K H5 o [.str y1, .str y2] ∧ atI [V.str y1, V.str y2] u = some (.str w) ∧ sgB w = true ∧ w.length ≤ 3 := fun {o H4 H5 u} h4 no b5 u0 u1 => by
        have ho : H5 o = some (.lst [.str y1, .str y2]) := b5 o _ (h4.ne no).1 upd_same
        obtain rfl | rfl : u = 0 ∨ u = 1 := by omega
        · exact ⟨y1, sq_of ho, rfl, sy1, by omega⟩
        · exact ⟨y2, sq_of ho, rfl, sy2, by omega⟩
      refine ⟨.int m, rfl, _, _, rfl, rfl, ⟨by decide, by decide⟩, _, rfl, by omega, by omega, for_range (fun i σ H' => ∃ (y : Str) (x : Option V), σ = [some (.ref p), some (.str z), some (.int m), some (.int v), some (.str y1), some (.str y2), some (.str y), x] ∧ sgB y = true ∧ y.length ≤ 3 * i ∧ Hn p lh H3 H') ⟨_, none, rfl, rfl, Nat.zero_le _, Hn.refl h3⟩ ?_ ?_⟩
      · rintro i σ H' hi ⟨y, x, rfl, sy, ly, hn⟩
        have hi2 : i < 60 := by omega
        refine ⟨.str y, rfl, .str y1, rfl, .str y2, rfl, by show 2 ≤ sizeLine; decide, fun o no => ?_⟩
        refine ⟨.ref p, rfl, p, 2, rfl, by decide, by decide, lh, (hn.new no).at_, fun u H4 u0 u1 h4 b4 => ?_⟩
        obtain ⟨w, hw, ew, sw, lw⟩ := sel hn.at_ no b4 u0 u1
        refine ⟨o, _, u, .str w, rfl, rfl, hw, ew, y, w, rfl, rfl, ?_, _, _, rfl, sgB_app sy sw, ?_, (hn.new no).go h4 b4⟩
        · have h3 : sizeLine = 16777216 := sizeLine_eq
          omega
        · rw [app_len]
          omega
      · rintro σ H' ⟨y, x, rfl, sy, ly, hn⟩
        have c1 := cut_hi (z := y) (lo := none) (u := m) (by omega)
        exact ⟨.str y, rfl, .int m, rfl, m, rfl, y, rfl, len5 (by omega), q _ H' (sgB_cut sy _ _) (by omega) hn.at_ (b13.trans hn.but)⟩
    exact ⟨.ref p, rfl, .str z, rfl, .int m, rfl, p, z, 0, m, rfl, hz, z0, z1, by decide, by omega, by omega, lh, h1, fun y H2 sy y1 y3 h2 b2 => q y H2 sy y3 h2 (b1.trans b2)⟩
abbrev sNear : Stmt := topS 28
theorem scNear : FnScope ["hand", "signs", "text", "most", "begin", "part", "at"] ["hand", "signs", "text", "most"] (defScope sNear) := ⟨rfl, rfl, rfl, by decide +kernel, rfl, by decide +kernel, by decide +kernel⟩
theorem ok_Near {f : Addr} {fd : FuncData} (F : Fun K "_law_near" "_law_near" sNear f fd) {fTake : Addr} {fdTake : FuncData} (DTake : Dk P w K mg base "_law_take" sTake ["hand", "many"] 1 spTake fTake fdTake) {fWord : Addr} {fdWord : FuncData} (DWord : Dk P w K mg base "_law_word" sWord ["hand", "signs", "least", "most"] 2 spWord fWord fdWord) (T : Glob mg) : FnOk P w K mg base CX0 3 f fd ["hand", "signs", "text", "most"] spNear := by
  refine F.ok scNear (fun vs H Q E h => ?_) (fun cdv A outer s H vs Q E hr h => ?_)
  · obtain ⟨p, z, t, m, rfl, _⟩ := h
    rfl
  · refine ⟨_, (pss_cons (ps_set (i := 4) scNear.nd rfl (.inl rfl) (pe_call DTake.ok (hr.mono (by decide)) (by rfl) DTake.g DTake.F.kp DTake.b .nil pass0 (pa_cons (pv 0) (pa_cons (pe_op op_add (pe_callB call_lenZ (by rfl) T.len PySem.boot_len (pa_cons (pv 2) pa_nil)) pe_int) pa_nil))))
      (pss_cons (ps_set (i := 5) scNear.nd rfl (.inl rfl) (pe_slice sl_str (pv 2) (po_some (pv 4)) (po_some (pe_op op_add (pv 4) (pe_call DTake.ok (hr.mono (by decide)) (by rfl) DTake.g DTake.F.kp DTake.b .nil pass0 (pa_cons (pv 0) (pa_cons (pe_op op_add (pv 3) pe_int) pa_nil)))))))
      (pss_cons (ps_if (pt_cmpR op_eq (pe_call DTake.ok (hr.mono (by decide)) (by rfl) DTake.g DTake.F.kp DTake.b .nil pass0 (pa_cons (pv 0) (pa_cons pe_int pa_nil))) pe_int (nomark _))
      (pss_one (ps_ret (pv 5)))
      pss_nil)
      (pss_cons (ps_set (i := 6) scNear.nd rfl (.inl rfl) (pe_call DTake.ok (hr.mono (by decide)) (by rfl) DTake.g DTake.F.kp DTake.b .nil pass0 (pa_cons (pv 0) (pa_cons (pe_op op_add (pe_callB call_lenZ (by rfl) T.len PySem.boot_len (pa_cons (pv 5) pa_nil)) pe_int) pa_nil))))
      (pss_one (ps_ret (pe_slice sl_str (pe_op op_add_str (pe_op op_add_str (pe_slice sl_str (pv 5) po_none (po_some (pv 6))) (pe_call DWord.ok (hr.mono (by decide)) (by rfl) DWord.g DWord.F.kp DWord.b .nil pass0 (pa_cons (pv 0) (pa_cons (pv 1) (pa_cons pe_int (pa_cons pe_int pa_nil)))))) (pe_slice sl_str (pv 5) (po_some (pv 6)) po_none)) po_none (po_some (pv 3))))))))), ?_⟩
    obtain ⟨p, z, t, m, rfl, hz, z0, z1, ht, lt, m0, m1, lh, hH, q⟩ := h
    refine ⟨.ref p, rfl, .str t, rfl, t, rfl, len6 lt, _, _, rfl, rfl, p, (t.length : Int) + 1, rfl, by omega, by omega, lh, hH, fun b H1 v0 v1 h1 b1 => ?_⟩
    refine ⟨.str t, rfl, .int b, rfl, b, rfl, .int b, rfl, .ref p, rfl, .int m, rfl, _, _, rfl, rfl, p, m + 1, rfl, by omega, by omega, lh, h1, fun u H2 u0 u1 h2 b2 => ?_⟩
    refine ⟨_, _, rfl, rfl, b + u, rfl, t, rfl, len6 lt, ?_⟩
    have c1 := cut_lohi (z := t) v0 (show b ≤ b + u by omega)
    have s1 := sgB_cut ht (some b) (some (b + u))
    have l1 := Nat.le_trans (cut_len (z := t) (some b) (some (b + u))) lt
    generalize cutS t (some b) (some (b + u)) = y at c1 s1 l1 ⊢
    refine ⟨.ref p, rfl, p, 2, rfl, by decide, by decide, lh, h2, fun w H3 w0 w1 h3 b3 => ⟨rfl, _, rfl, ite2 (fun _ => ?_) (fun _ => ?_)⟩⟩
    · exact ⟨.str y, rfl, q y H3 s1 (by omega) h3 ((b1.trans b2).trans b3)⟩
    refine ⟨.ref p, rfl, .str y, rfl, y, rfl, len6 l1, _, _, rfl, rfl, p, (y.length : Int) + 1, rfl, by omega, by omega, lh, h3, fun a H4 a0 a1 h4 b4 => ?_⟩
    refine ⟨.str y, rfl, .int a, rfl, a, rfl, y, rfl, len6 l1, .ref p, rfl, .str z, rfl, p, z, 0, 2, rfl, hz, z0, z1, by decide, by decide, by decide, lh, h4, fun x H5 sx x0 x2 h5 b5 => ?_⟩
    have k1 := cut_len (z := y) none (some a)
    have k2 := cut_len (z := y) (some a) none
    have s2 := sgB_cut s1 none (some a)
    have s3 := sgB_cut s1 (some a) none
    generalize cutS y none (some a) = y1 at k1 s2 ⊢
    have h6 : sizeLine = 16777216 := sizeLine_eq
    refine ⟨_, _, rfl, rfl, by omega, .str y, rfl, .int a, rfl, a, rfl, y, rfl, len6 l1, ?_⟩
    generalize cutS y (some a) none = y2 at k2 s3 ⊢
    have k3 := app_len y1 x
    refine ⟨_, _, rfl, rfl, by omega, .int m, rfl, m, rfl, _, rfl, ?_, ?_⟩
    · rw [app_len, app_len]
      omega
    · have c2 := cut_hi (z := y1 ++ x ++ y2) (lo := none) (u := m) (by omega)
      exact q _ H5 (sgB_cut (sgB_app (sgB_app s2 sx) s3) _ _) (by omega) h5 ((((b1.trans b2).trans b3).trans b4).trans b5)
end
end LawK
set_option maxHeartbeats 4000000
namespace LawK
open PySem PySem.Spec PyProof.Rows L2 Ev
/-- texts of a law -/
structure Ts (ts : List Str) : Prop where
  few : ts.length ≤ 8
  sg : ∀ t ∈ ts, sgB t = true
  len : ∀ t ∈ ts, t.length ≤ 100
def spTexts : Sp := fun vs H Q _ => ∃ (p : Addr) (m : Int), vs = [.ref p, .int m] ∧ 1 ≤ m ∧ m ≤ 100 ∧ ∃ l, HandL H p l ∧ ∀ a ts H', H a = none → H' a = some (.tup (ts.map V.str)) → Ts ts → HandL H' p l → But p H H' → Q (.ref a) H'
theorem Hn.free {p l a : Addr} {H H' : Hp} (h : Hn p l H H') (n : H' a = none) : H a = none := by
  cases e : H a with
  | none => rfl
  | some o =>
    by_cases z : a = p
    · obtain ⟨cells, i, r, s, m, h1, _⟩ := h.at_
      rw [z, h1] at n
      cases n
    · rw [h.but a o z e] at n
      cases n
section
variable {P : Program} {w : World} {K : PySem.W.Frag} {mg : Str → Option Value} {base : Heap}
abbrev sTexts : Stmt := topS 29
theorem scTexts : FnScope ["hand", "most", "signs", "many", "found", "k", "room"] ["hand", "most"] (defScope sTexts) := ⟨rfl, rfl, rfl, by decide +kernel, rfl, by decide +kernel, by decide +kernel⟩
theorem ok_Texts {f : Addr} {fd : FuncData} (F : Fun K "_law_texts" "_law_texts" sTexts f fd) {fTake : Addr} {fdTake : FuncData} (DTake : Dk P w K mg base "_law_take" sTake ["hand", "many"] 1 spTake fTake fdTake) {fPick : Addr} {fdPick : FuncData} (DPick : Dk P w K mg base "_law_pick" sPick ["hand", "things"] 2 (spPick K) fPick fdPick) {fAlphabet : Addr} {fdAlphabet : FuncData} (DAlphabet : Dk P w K mg base "_law_alphabet" sAlphabet ["hand"] 2 spAlpha fAlphabet fdAlphabet) {fText : Addr} {fdText : FuncData} (DText : Dk P w K mg base "_law_text" sText ["hand", "signs", "most"] 3 spText fText fdText) {fNear : Addr} {fdNear : FuncData} (DNear : Dk P w K mg base "_law_near" sNear ["hand", "signs", "text", "most"] 3 spNear fNear fdNear) (T : Glob mg) : FnOk P w K mg base CX0 4 f fd ["hand", "most"] spTexts := by
  refine F.ok scTexts (fun vs H Q E h => ?_) (fun cdv A outer s H vs Q E hr h => ?_)
  · obtain ⟨p, m, rfl, _⟩ := h
    rfl
  · refine ⟨_, (pss_cons (ps_set (i := 2) scTexts.nd rfl (.inl rfl) (pe_call DAlphabet.ok (hr.mono (by decide)) (by rfl) DAlphabet.g DAlphabet.F.kp DAlphabet.b .nil pass0 (pa_cons (pv 0) pa_nil)))
      (pss_cons (ps_set (i := 3) scTexts.nd rfl (.inl rfl) (pe_call DPick.ok (hr.mono (by decide)) (by rfl) DPick.g DPick.F.kp DPick.b .nil pass0 (pa_cons (pv 0) (pa_cons (pe_lst (pa_cons pe_int (pa_cons pe_int (pa_cons pe_int (pa_cons pe_int (pa_cons pe_int (pa_cons pe_int (pa_cons pe_int (pa_cons pe_int (pa_cons pe_int (pa_cons pe_int pa_nil))))))))))) pa_nil))))
      (pss_cons (ps_set (i := 4) scTexts.nd rfl (.inl rfl) (pe_lst pa_nil))
      (pss_cons (ps_for PassesOwn.never rfl (pi_range1 (by rfl) T.range (pa_cons (pv 3) pa_nil)) (pg_name (i := 5) scTexts.nd rfl (.inl rfl))
      (pss_cons (ps_set (i := 6) scTexts.nd rfl (.inl rfl) (pe_callB (call_max2 rfl) (by rfl) T.max (by decide +kernel) (pa_cons pe_int (pa_cons (pe_op op_fdiv (pv 1) (pv 3)) pa_nil))))
        (pss_one (ps_if (PW.pt (pw_and (pt_cmpR op_gt (pv 5) pe_int (nomark _)) (pw_and1 (pt_cmpR op_eq (pe_call DTake.ok (hr.mono (by decide)) (by rfl) DTake.g DTake.F.kp DTake.b .nil pass0 (pa_cons (pv 0) (pa_cons pe_int pa_nil))) pe_int (nomark _)))))
        (pss_one (ps_expr (pe_bm PySem.F.plainAttrs_list PySem.F.slot_list_append PySem.F.type_list_append mt_append (pv 4) (pa_cons (pe_call DNear.ok (hr.mono (by decide)) (by rfl) DNear.g DNear.F.kp DNear.b .nil pass0 (pa_cons (pv 0) (pa_cons (pv 2) (pa_cons (pe_call DPick.ok (hr.mono (by decide)) (by rfl) DPick.g DPick.F.kp DPick.b .nil pass0 (pa_cons (pv 0) (pa_cons (pv 4) pa_nil))) (pa_cons (pv 6) pa_nil))))) pa_nil))))
        (pss_one (ps_expr (pe_bm PySem.F.plainAttrs_list PySem.F.slot_list_append PySem.F.type_list_append mt_append (pv 4) (pa_cons (pe_call DText.ok (hr.mono (by decide)) (by rfl) DText.g DText.F.kp DText.b .nil pass0 (pa_cons (pv 0) (pa_cons (pv 2) (pa_cons (pv 6) pa_nil)))) pa_nil))))))))
      (pss_one (ps_ret (pe_callTy call_tuple_of (by rfl) T.tuple (by decide +kernel) (pa_cons (pv 4) pa_nil)))))))), ?_⟩
    obtain ⟨p, m, rfl, m0, m1, lh, hH, q⟩ := h
    refine ⟨.ref p, rfl, p, rfl, lh, hH, fun z H1 hz z0 z1 h1 b1 => ?_⟩
    refine ⟨.ref p, rfl, by show 10 ≤ sizeLine; decide, fun o no => ⟨p, o, _, rfl, sq_of upd_same, (h1.ne no).1, by simp, by show 10 < 1000000; decide, lh, h1.same (Same.new no), fun x H2 hx h2 b2 => ?_⟩⟩
    have b12 : But p H H2 := (b1.and (Same.new no)).trans b2
    obtain ⟨n, rfl, hn8⟩ : ∃ n : Nat, x = .int (n : Int) ∧ n ≤ 8 := by
      simp only [List.mem_cons, List.not_mem_nil, or_false] at hx
      obtain rfl | rfl | rfl | rfl | rfl | rfl | rfl | rfl | rfl | rfl := hx
      · exact ⟨0, rfl, by decide⟩
      · exact ⟨1, rfl, by decide⟩
      · exact ⟨1, rfl, by decide⟩
      · exact ⟨1, rfl, by decide⟩
      · exact ⟨2, rfl, by decide⟩
      · exact ⟨2, rfl, by decide⟩
      · exact ⟨3, rfl, by decide⟩
      · exact ⟨3, rfl, by decide⟩
      · exact ⟨4, rfl, by decide⟩
      · exact ⟨8, rfl, by decide⟩
    
    refine ⟨by show 0 ≤ sizeLine; decide, fun f nf => ?_⟩
    have nfp := (h2.ne nf).1
    refine ⟨.int (n : Int), rfl, _, rfl, by omega, by omega, for_range (fun i σ H' => ∃ (x y : Option V) (ts : List Str), σ = [some (.ref p), some (.int m), some (.str z), some (.int (n : Int)), some (.ref f), x, y] ∧ H' f = some (.lst (ts.map V.str)) ∧ ts.length = i ∧ (∀ t ∈ ts, sgB t = true ∧ t.length ≤ 100) ∧ Hn p lh H2 H') ⟨none, none, [], rfl, upd_same, rfl, fun t ht => absurd ht (by simp), (Hn.refl h2).new nf⟩ ?_ ?_⟩
    · rintro i σ H' hi ⟨x, y, ts, rfl, hf, hl, ht, hn⟩
      have hi2 : i < n := by omega
      have room : 1 ≤ (if m / (n : Int) > 1 then m / (n : Int) else 1) ∧ (if m / (n : Int) > 1 then m / (n : Int) else 1) ≤ 100 := by
        have g : m / (n : Int) ≤ m := Int.ediv_le_self _ (by omega)
        by_cases e : m / (n : Int) > 1
        · rw [if_pos e]
          omega
        · rw [if_neg e]
          omega
      refine ⟨.int m, rfl, .int (n : Int), rfl, _, _, rfl, rfl, ⟨by omega, by omega⟩, _, _, rfl, ?_⟩
      dsimp only
      generalize (if m / (n : Int) > 1 then m / (n : Int) else 1) = r at room ⊢
      obtain ⟨r0, r1⟩ := room
      have put : ∀ {H4 : Hp} {y : Str}, Hn p lh H2 H4 → H4 f = some (.lst (ts.map V.str)) → sgB y = true → y.length ≤ 100 → Hn p lh H2 (upd H4 f (.lst (ts.map V.str ++ [V.str y]))) ∧ upd H4 f (.lst (ts.map V.str ++ [V.str y])) f = some (.lst ((ts ++ [y]).map V.str)) ∧ (ts ++ [y]).length = i + 1 ∧ ∀ t ∈ ts ++ [y], sgB t = true ∧ t.length ≤ 100 := fun {H4 y} g1 g2 g3 g4 => by
        refine ⟨g1.at h2 nf, by rw [upd_same, List.map_append]; rfl, by rw [List.length_append, hl]; rfl, fun t hm => ?_⟩
        rcases List.mem_append.mp hm with e | e
        · exact ht t e
        · rw [List.mem_singleton.mp e]
          exact ⟨g3, g4⟩
      have lts : (ts.map V.str).length < sizeLine := by
        rw [List.length_map, hl]
        have h3 : sizeLine = 16777216 := sizeLine_eq
        omega
      refine ⟨.int (0 + (i : Int)), rfl, _, _, rfl, rfl, _, rfl, ite2 (fun e => ?_) (fun e => ?_)⟩
      · have i0 : 0 < (0 + (i : Int)) := of_decide_eq_true e
        refine ⟨.ref p, rfl, p, 3, rfl, by decide, by decide, lh, hn.at_, fun w H3 w0 w1 h3 b3 => ⟨rfl, _, rfl, ite2 (fun _ => ?_) (fun _ => ?_)⟩⟩
        · have hf3 := b3 _ _ nfp hf
          refine ⟨.ref f, rfl, .inl ⟨rfl, _, sq_of hf3⟩, .ref p, rfl, .str z, rfl, .ref p, rfl, .ref f, rfl, p, f, _, rfl, sq_of hf3, nfp, by rw [List.length_map]; omega, by rw [List.length_map]; omega, lh, h3, fun x4 H4 hx4 h4 b4 => ?_⟩
          obtain ⟨t, htm, rfl⟩ := List.mem_map.mp hx4
          refine ⟨.int r, rfl, p, z, t, r, rfl, hz, z0, z1, (ht t htm).1, by have := (ht t htm).2; omega, r0, r1, lh, h4, fun u H5 su lu h5 b5 => ?_⟩
          have hf5 := b5 _ _ nfp (b4 _ _ nfp hf3)
          obtain ⟨g1, g2, g3, g4⟩ := put (y := u) (((hn.go h3 b3).go h4 b4).go h5 b5) hf5 su (by omega)
          exact ⟨f, _, _, rfl, rfl, hf5, lts, _, _, _, rfl, g2, g3, g4, g1⟩
        · have hf3 := b3 _ _ nfp hf
          refine ⟨.ref f, rfl, .inl ⟨rfl, _, sq_of hf3⟩, .ref p, rfl, .str z, rfl, .int r, rfl, p, z, r, rfl, hz, z0, z1, r0, r1, lh, h3, fun u H5 su lu h5 b5 => ?_⟩
          have hf5 := b5 _ _ nfp hf3
          obtain ⟨g1, g2, g3, g4⟩ := put (y := u) ((hn.go h3 b3).go h5 b5) hf5 su (by omega)
          exact ⟨f, _, _, rfl, rfl, hf5, lts, _, _, _, rfl, g2, g3, g4, g1⟩
      · refine iteF ⟨.ref f, rfl, .inl ⟨rfl, _, sq_of hf⟩, .ref p, rfl, .str z, rfl, .int r, rfl, p, z, r, rfl, hz, z0, z1, r0, r1, lh, hn.at_, fun u H5 su lu h5 b5 => ?_⟩
        have hf5 := b5 _ _ nfp hf
        obtain ⟨g1, g2, g3, g4⟩ := put (y := u) (hn.go h5 b5) hf5 su (by omega)
        exact ⟨f, _, _, rfl, rfl, hf5, lts, _, _, _, rfl, g2, g3, g4, g1⟩
    · rintro σ H' ⟨x, y, ts, rfl, hf, hl, ht, hn⟩
      refine ⟨.ref f, rfl, f, _, rfl, .inl ⟨sq_of hf, fun a na => ?_⟩⟩
      have hl2 : ts.length ≤ 8 := by omega
      have hnn : Hn p lh H H' := ⟨hn.at_, b12.trans hn.but⟩
      exact q a ts _ (hnn.free na) upd_same ⟨hl2, fun t hm => (ht t hm).1, fun t hm => (ht t hm).2⟩ (hn.at_.same (Same.new na)) ((b12.trans hn.but).and (Same.new na))
end
end LawK
set_option maxHeartbeats 4000000
namespace LawK
open PySem PySem.Spec PyProof.Rows L2 Ev
def spBad : Sp := fun vs H Q _ => ∃ x o, vs = [x] ∧ Tg H x o ∧ ∀ H', Same H H' → Q (badOf o) H'
def spPlace : Sp := fun vs H Q _ => ∃ (a : Addr) (ts : List Str) (x : V) (o : Option (List V)), vs = [.ref a, x] ∧ H a = some (.tup (ts.map V.str)) ∧ ts.length ≤ 1000 ∧ (∀ t ∈ ts, t.length ≤ 5000) ∧ Tg H x o ∧ Q (.bl (placeV ts o)) H
theorem kit_no {K : PySem.W.Frag} {k : Kn} (n : k ≠ .tup) : PySem.W.kitOne K (.type k.name) (.type "tuple") = some false := by
  have e : kitB k .tup = false := by cases k <;> first | rfl | exact absurd rfl n
  have z := kit_kn (K := K) k .tup
  rw [e] at z
  exact z
section
variable {P : Program} {w : World} {K : PySem.W.Frag} {mg : Str → Option Value} {base : Heap}
abbrev sBadTexts : Stmt := topS 32
theorem scBadTexts : FnScope ["thing", "k", "text"] ["thing"] (defScope sBadTexts) := ⟨rfl, rfl, rfl, by decide +kernel, rfl, by decide +kernel, by decide +kernel⟩
theorem ok_BadTexts {f : Addr} {fd : FuncData} (F : Fun K "_law_bad_texts" "_law_bad_texts" sBadTexts f fd) {fAreSigns : Addr} {fdAreSigns : FuncData} (DAreSigns : Dk P w K mg base "_law_are_signs" sAreSigns ["thing"] 1 spSg fAreSigns fdAreSigns) (T : Glob mg) : FnOk P w K mg base CX0 2 f fd ["thing"] spBad := by
  refine F.ok scBadTexts (fun vs H Q E h => ?_) (fun cdv A outer s H vs Q E hr h => ?_)
  · obtain ⟨x, o, rfl, _⟩ := h
    rfl
  · refine ⟨_, (pss_cons (ps_if (PW.pt (pw_or (pt_not (pt_val (pe_callB call_isi (by rfl) T.isinstance PyProof.Rows.boot_isinstance (pa_cons (pv 0) (pa_cons (pe_bltn (v := .ty "tuple") (by rfl) T.tuple (by decide +kernel) rfl) pa_nil))))) (pw_or1 (pt_cmpR op_gt (pe_callB call_len_seq (by rfl) T.len PySem.boot_len (pa_cons (pv 0) pa_nil)) pe_int (nomark _)))))
      (pss_one (ps_ret (pe_un un_neg pe_int)))
      pss_nil)
      (pss_cons (ps_for PassesOwn.never rfl (pi_range1 (by rfl) T.range (pa_cons (pe_callB call_len_seq (by rfl) T.len PySem.boot_len (pa_cons (pv 0) pa_nil)) pa_nil)) (pg_name (i := 1) scBadTexts.nd rfl (.inl rfl))
      (pss_one (ps_if (pt_not (pt_val (pe_call DAreSigns.ok (hr.mono (by decide)) (by rfl) DAreSigns.g DAreSigns.F.kp DAreSigns.b .nil pass0 (pa_cons (pe_ix ix_tup (pv 0) (pv 1) (fun _ _ => rfl)) pa_nil))))
        (pss_one (ps_ret (pv 1)))
        pss_nil)))
      (pss_cons (ps_if (pt_cmpR op_gt (pe_callB (cr_sum rfl) (by rfl) T.sum (by decide +kernel) (pa_cons (pe_lc (own := [("text", 2)]) (g := gName 2) (by rfl) scBadTexts.nd (pi_tup (pv 0)) (blkOk_by (N := ["thing", "k", "text"]) (sc := defScope sBadTexts) (by decide +kernel)) (fun _ _ _ _ _ => pg_name (i := 2) scBadTexts.nd rfl (.inl rfl)) (fun _ _ _ _ _ => pts_nil) (fun _ _ _ _ _ => (pe_callB call_lenZ (by rfl) T.len PySem.boot_len (pa_cons (pv 2) pa_nil)))) pa_nil)) pe_int (nomark _))
      (pss_one (ps_ret pe_str))
      pss_nil)
      (pss_one (ps_ret pe_non))))), ?_⟩
    obtain ⟨x, o, rfl, hT, q⟩ := h
    cases hT with
    | @no _ k hk n s =>
      exact ⟨x, rfl, x, .ty "tuple", .type (Kn.name k), .type "tuple", false, rfl, .ty _, Kd.tyx hk, kit_no n, _, rfl, iteT ⟨_, rfl, q H (Same.refl H)⟩⟩
    | @tup a xs e n hy =>
      refine ⟨.ref a, rfl, .ref a, .ty "tuple", .type (Kn.name .tup), .type "tuple", kitB .tup .tup, rfl, .ty _, Kd.tyx (.tup e), kit_kn .tup .tup, _, rfl, iteF ?_⟩
      refine ⟨.ref a, rfl, a, xs, rfl, .inr (SqT.of e), _, _, rfl, rfl, _, rfl, ite2 (fun g => ?_) (fun g => ?_)⟩
      · have g' : (8 : Int) < (xs.length : Int) := of_decide_eq_true g
        have q' := q H (Same.refl H)
        rw [bad1 (by omega)] at q'
        exact ⟨_, rfl, q'⟩
      have g' : ¬ xs.length > 8 := fun z => g (decide_eq_true (show (8 : Int) < (xs.length : Int) by omega))
      refine ⟨.ref a, rfl, a, xs, rfl, .inr (SqT.of e), _, rfl, by omega, by omega, for_range (fun i σ H' => (∃ y z, σ = [some (.ref a), y, z]) ∧ H' = H ∧ ∀ (j : Nat) c, j < i → xs[j]? = some c → sgV c = true) ⟨⟨_, _, rfl⟩, rfl, fun j c hj => absurd hj (by omega)⟩ ?_ ?_⟩
      · rintro i σ H' hi ⟨⟨y, z, rfl⟩, rfl, hg⟩
        have hi2 : i < xs.length := by omega
        have hxi : xs[i]? = some xs[i] := List.getElem?_eq_getElem hi2
        have hm : xs[i] ∈ xs := List.getElem_mem hi2
        obtain ⟨⟨k, hk⟩, hv⟩ := hy _ hm
        generalize xs[i] = c at hxi hk hv
        refine ⟨.ref a, rfl, .int (0 + (i : Int)), rfl, a, xs, _, c, rfl, rfl, SqT.of e, (by rw [Int.zero_add]; exact atI_nat hxi), c, k, rfl, hk, hv, _, rfl, ite2 (fun b => ?_) (fun b => ?_)⟩
        · have b' : sgV c = false := by simpa using b
          have q' := q H' (Same.refl H')
          rw [bad2 g' hxi b' hg, ← Int.zero_add (i : Int)] at q'
          exact ⟨_, rfl, q'⟩
        · have b' : sgV c = true := by simpa using b
          refine ⟨⟨_, _, rfl⟩, rfl, fun j d hj hd => ?_⟩
          by_cases ej : j = i
          · rw [ej, hxi] at hd
            cases hd
            exact b'
          · exact hg j d (by omega) hd
      · rintro σ H' ⟨⟨y, z, rfl⟩, rfl, hg⟩
        have hall : ∀ c ∈ xs, sgV c = true := fun c hc => by
          obtain ⟨j, hj, ej⟩ := List.mem_iff_getElem.mp hc
          exact hg j c (by omega) (by rw [List.getElem?_eq_getElem hj, ej])
        obtain ⟨ts, rfl, hts⟩ := bad_strs hall
        refine ⟨.ref a, rfl, a, rfl, ⟨_, SqT.of e⟩, fun D nD => lc_lens (i := 2) (show 2 < 3 by decide) e nD (fun t ht => (hy (.str t) (List.mem_map.mpr ⟨t, ht, rfl⟩)).2 t rfl) (by rw [List.length_map] at n; omega) fun H2 hD hs => ?_⟩
        refine ⟨D, _, rfl, sq_of hD, _, _, rfl, rfl, _, rfl, ite2 (fun b => ?_) (fun b => ?_)⟩
        · have b' := of_decide_eq_true b
          rw [lens_sum] at b'
          have q' := q H2 hs
          rw [bad3 g' hall (by omega)] at q'
          exact q'
        · have b' : ¬ (2000 : Int) < (ts.map fun t => (t.length : Int)).sum := fun z => b (decide_eq_true z)
          rw [lens_sum] at b'
          have q' := q H2 hs
          rw [bad4 g' hall (by omega)] at q'
          exact q'
abbrev sIsPlace : Stmt := topS 33
theorem scIsPlace : FnScope ["texts", "thing"] ["texts", "thing"] (defScope sIsPlace) := ⟨rfl, rfl, rfl, by decide +kernel, rfl, by decide +kernel, by decide +kernel⟩
theorem ok_IsPlace {f : Addr} {fd : FuncData} (F : Fun K "_law_is_place" "_law_is_place" sIsPlace f fd) {fIsWithin : Addr} {fdIsWithin : FuncData} (DIsWithin : Dk P w K mg base "_law_is_within" sIsWithin ["thing", "least", "most"] 2 spIn fIsWithin fdIsWithin) (T : Glob mg) : FnOk P w K mg base CX0 3 f fd ["texts", "thing"] spPlace := by
  refine F.ok scIsPlace (fun vs H Q E h => ?_) (fun cdv A outer s H vs Q E hr h => ?_)
  · obtain ⟨a, ts, x, o, rfl, _⟩ := h
    rfl
  · refine ⟨_, (pss_cons (ps_if (PW.pt (pw_or (pt_not (pt_val (pe_callB call_isi (by rfl) T.isinstance PyProof.Rows.boot_isinstance (pa_cons (pv 1) (pa_cons (pe_bltn (v := .ty "tuple") (by rfl) T.tuple (by decide +kernel) rfl) pa_nil))))) (pw_or (pt_cmpR op_ne (pe_callB call_len_seq (by rfl) T.len PySem.boot_len (pa_cons (pv 1) pa_nil)) pe_int (nomark _)) (pw_or1 (pt_not (pt_val (pe_call DIsWithin.ok (hr.mono (by decide)) (by rfl) DIsWithin.g DIsWithin.F.kp DIsWithin.b .nil pass0 (pa_cons (pe_ix ix_tup (pv 1) pe_int (fun _ _ => rfl)) (pa_cons pe_int (pa_cons (pe_op op_sub (pe_callB call_len_seq (by rfl) T.len PySem.boot_len (pa_cons (pv 0) pa_nil)) pe_int) pa_nil))))))))))
      (pss_one (ps_ret pe_bl))
      pss_nil)
      (pss_one (ps_ret (pe_call DIsWithin.ok (hr.mono (by decide)) (by rfl) DIsWithin.g DIsWithin.F.kp DIsWithin.b .nil pass0 (pa_cons (pe_ix ix_tup (pv 1) pe_int (fun _ _ => rfl)) (pa_cons pe_int (pa_cons (pe_op op_sub (pe_callB call_lenZ (by rfl) T.len PySem.boot_len (pa_cons (pe_ix ix_tup (pv 0) (pe_ix ix_tup (pv 1) pe_int (fun _ _ => rfl)) (fun _ _ => rfl)) pa_nil)) pe_int) pa_nil))))))), ?_⟩
    obtain ⟨a, ts, x, o, rfl, ha, hn, hlen, hT, q⟩ := h
    cases hT with
    | @no _ k hk n s =>
      exact ⟨x, rfl, x, .ty "tuple", .type (Kn.name k), .type "tuple", false, rfl, .ty _, Kd.tyx hk, kit_no n, _, rfl, iteT q⟩
    | @tup b xs e n hy =>
      refine ⟨.ref b, rfl, .ref b, .ty "tuple", .type (Kn.name .tup), .type "tuple", kitB .tup .tup, rfl, .ty _, Kd.tyx (.tup e), kit_kn .tup .tup, _, rfl, iteF ?_⟩
      refine ⟨.ref b, rfl, b, xs, rfl, .inr (SqT.of e), rfl, _, rfl, ite2 (fun g => ?_) (fun g => ?_)⟩
      · have g' : ¬ xs.length = 2 := fun z => by
          rw [z] at g
          exact absurd g (by decide)
        have ez : placeV ts (some xs) = false := by
          cases xs with
          | nil => rfl
          | cons x r => cases r with
            | nil => rfl
            | cons y r => cases r with
              | nil => exact absurd rfl g'
              | cons z r => rfl
        rw [ez] at q
        exact q
      have g' : xs.length = 2 := Classical.byContradiction fun z => g (by
        have : ¬ V.int (xs.length : Int) = V.int 2 := fun e => z (by
          have := V.int.inj e
          omega)
        rw [decide_eq_false this]
        rfl)
      obtain ⟨x, y, rfl⟩ : ∃ x y, xs = [x, y] := by
        cases xs with
        | nil => cases g'
        | cons x r => cases r with
          | nil => cases g'
          | cons y r => cases r with
            | nil => exact ⟨x, y, rfl⟩
            | cons z r => simp at g'
      obtain ⟨⟨k1, hk1⟩, hv1⟩ := hy x (by simp)
      obtain ⟨⟨k2, hk2⟩, hv2⟩ := hy y (by simp)
      refine ⟨.ref b, rfl, b, _, 0, x, rfl, rfl, SqT.of e, rfl, .ref a, rfl, a, _, rfl, .inr (SqT.of ha), _, _, rfl, rfl, x, k1, 0, _, rfl, hk1, _, rfl, ?_⟩
      rw [List.length_map]
      refine ite2 (fun c => ?_) (fun c => ?_)
      · have c' : inV2 0 ((ts.length : Int) - 1) x = false := by simpa using c
        have ez : placeV ts (some [x, y]) = false := by
          show (inV2 0 ((ts.length : Int) - 1) x && _) = false
          rw [c', Bool.false_and]
        rw [ez] at q
        exact q
      have c' : inV2 0 ((ts.length : Int) - 1) x = true := by simpa using c
      cases x with
      | int i =>
        have c2 : (decide (0 ≤ i) && decide (i ≤ (ts.length : Int) - 1)) = true := c'
        obtain ⟨d1, d2⟩ := Bool.and_eq_true_iff.mp c2
        have d1 := of_decide_eq_true d1
        have d2 := of_decide_eq_true d2
        have hi : i.toNat < ts.length := by omega
        have et : atI (ts.map V.str) i = some (.str (ts.getD i.toNat Str.empty)) := by
          have e1 : i = ((i.toNat : Nat) : Int) := by omega
          rw [e1]
          refine atI_nat ?_
          rw [List.getElem?_map, List.getD_eq_getElem?_getD, Int.toNat_natCast, List.getElem?_eq_getElem hi]
          rfl
        have hm : ts.getD i.toNat Str.empty ∈ ts := by
          rw [List.getD_eq_getElem?_getD, List.getElem?_eq_getElem hi]
          exact List.getElem_mem hi
        refine ⟨.ref b, rfl, b, _, 1, y, rfl, rfl, SqT.of e, rfl, .ref a, rfl, .ref b, rfl, b, _, 0, .int i, rfl, rfl, SqT.of e, rfl, a, _, i, _, rfl, rfl, SqT.of ha, et, _, rfl, len5 (hlen _ hm), _, _, rfl, rfl, y, k2, 0, _, rfl, hk2, ?_⟩
        have ez : placeV ts (some [.int i, y]) = inV2 0 (((ts.getD i.toNat Str.empty).length : Int) - 1) y := by
          show (inV2 0 ((ts.length : Int) - 1) (.int i) && inV2 0 (((ts.getD i.toNat Str.empty).length : Int) - 1) y) = _
          rw [c', Bool.true_and]
        rw [ez] at q
        exact q
      | non => cases c'
      | bl b => cases c'
      | str b => cases c'
      | byt b => cases c'
      | flt b => cases c'
      | ref b => cases c'
      | ty b => cases c'
end
end LawK
set_option maxHeartbeats 4000000
namespace LawK
open PySem PySem.Spec PyProof.Rows L2 Ev
def Pl (H : Hp) (y : V) : Prop := ∃ b i j, y = .ref b ∧ H b = some (.tup [.int i, .int j])
theorem Pl.same {H H' : Hp} (k : Same H H') {y : V} (h : Pl H y) : Pl H' y := by
  obtain ⟨b, i, j, e, h⟩ := h
  exact ⟨b, i, j, e, k _ _ h⟩
theorem Pl.at {H : Hp} {D : Addr} {xs ys : List V} (hD : H D = some (.lst xs)) {y : V} (h : Pl H y) : Pl (upd H D (.lst ys)) y := by
  obtain ⟨b, i, j, e, h⟩ := h
  refine ⟨b, i, j, e, ?_⟩
  rw [upd_ne fun z => by
    rw [z, hD] at h
    cases h]
  exact h
theorem str_ok {ts : List Str} (hts : Ts ts) {H : Hp} {y : V} (h : y ∈ ts.map V.str) : (∃ k, Kd H y k) ∧ Vs y := by
  obtain ⟨z, hz, rfl⟩ := List.mem_map.mp h
  refine ⟨⟨_, .str z⟩, fun w e => ?_⟩
  cases e
  exact Nat.le_trans (hts.len z hz) (by decide)
theorem lit_ok {z : Str} (h : z.length ≤ 5000) {H : Hp} : (∃ k, Kd H (.str z) k) ∧ Vs (.str z) := ⟨⟨_, .str z⟩, fun w e => by
  cases e
  exact h⟩
theorem int_ok {i : Int} {H : Hp} : (∃ k, Kd H (.int i) k) ∧ Vs (.int i) := ⟨⟨_, .int i⟩, fun w e => by cases e⟩
theorem tup_ne {H : Hp} {p l a : Addr} {xs : List V} (h : HandL H p l) (e : H a = some (.tup xs)) : a ≠ p := hand_ne h e fun _ _ _ _ _ z => by cases z
def spAllP : Sp := fun vs H Q _ => ∃ (a : Addr) (ts : List Str), vs = [.ref a] ∧ H a = some (.tup (ts.map V.str)) ∧ Ts ts ∧ ∀ o ps H', H o = none → H' o = some (.lst ps) → ps.length ≤ 1000 → (∀ y ∈ ps, Pl H' y) → Same H H' → Q (.ref o) H'
def spThing : Sp := fun vs H Q _ => ∃ (p a : Addr) (ts : List Str), vs = [.ref p, .ref a] ∧ H a = some (.tup (ts.map V.str)) ∧ Ts ts ∧ ∃ l, HandL H p l ∧ ∀ x o H', Tg H' x o → HandL H' p l → But p H H' → Q x H'
def spSomeW : Sp := fun vs H Q _ => ∃ (p a : Addr) (ts : List Str) (x : V) (o : Option (List V)), vs = [.ref p, .ref a, x] ∧ H a = some (.tup (ts.map V.str)) ∧ Ts ts ∧ Tg H x o ∧ ∃ l, HandL H p l ∧ ∀ y k H', Kd H' y k → Vs y → HandL H' p l → But p H H' → Q y H'
section
variable {P : Program} {w : World} {K : PySem.W.Frag} {mg : Str → Option Value} {base : Heap}
abbrev sAllPlaces : Stmt := topS 34
theorem scAllPlaces : FnScope ["texts", "found", "text", "at"] ["texts"] (defScope sAllPlaces) := ⟨rfl, rfl, rfl, by decide +kernel, rfl, by decide +kernel, by decide +kernel⟩
theorem ok_AllPlaces {f : Addr} {fd : FuncData} (F : Fun K "_law_all_places" "_law_all_places" sAllPlaces f fd)  (T : Glob mg) : FnOk P w K mg base CX0 1 f fd ["texts"] spAllP := by
  refine F.ok scAllPlaces (fun vs H Q E h => ?_) (fun cdv A outer s H vs Q E hr h => ?_)
  · obtain ⟨a, ts, rfl, _⟩ := h
    rfl
  · refine ⟨_, (pss_cons (ps_set (i := 1) scAllPlaces.nd rfl (.inl rfl) (pe_lst pa_nil))
      (pss_cons (ps_for PassesOwn.never rfl (pi_range1 (by rfl) T.range (pa_cons (pe_callB call_len_seq (by rfl) T.len PySem.boot_len (pa_cons (pv 0) pa_nil)) pa_nil)) (pg_name (i := 2) scAllPlaces.nd rfl (.inr rfl))
      (pss_one (ps_set (i := 1) scAllPlaces.nd rfl (.inl rfl) (pe_op op_cat (pv 1) (pe_lc (own := [("at", 3)]) (g := gName 3) (by rfl) scAllPlaces.nd (pi_range1 (by rfl) T.range (pa_cons (pe_callB call_len (by rfl) T.len PySem.boot_len (pa_cons (pe_ix ix_tup (pv 0) (pv 2) (fun _ _ => rfl)) pa_nil)) pa_nil)) (blkOk_by (N := ["texts", "found", "text", "at"]) (sc := defScope sAllPlaces) (by decide +kernel)) (fun _ _ _ _ _ => pg_name (i := 3) scAllPlaces.nd rfl (.inl rfl)) (fun _ _ _ _ _ => pts_nil) (fun _ _ _ _ _ => (pe_tup (pa_cons (pv 2) (pa_cons (pv 3) pa_nil)))))))))
      (pss_one (ps_ret (pv 1))))), ?_⟩
    obtain ⟨a, ts, rfl, ha, hts, q⟩ := h
    refine ⟨by show 0 ≤ sizeLine; decide, fun f nf => ?_⟩
    have hfew := hts.few
    refine ⟨.ref a, rfl, a, _, rfl, .inr (SqT.of (Same.new nf _ _ ha)), _, rfl, by rw [List.length_map]; omega, by rw [List.length_map]; omega, for_range (fun i σ H' => ∃ f x y ps, σ = [some (.ref a), some (.ref f), x, y] ∧ H' f = some (.lst ps) ∧ H f = none ∧ ps.length ≤ 100 * i ∧ (∀ y ∈ ps, Pl H' y) ∧ Same H H') ⟨f, none, none, [], rfl, upd_same, nf, Nat.zero_le _, fun y hy => absurd hy (by simp), Same.new nf⟩ ?_ ?_⟩
    · rintro i σ H' hi ⟨f, x, y, ps, rfl, hf, nf0, lp, hp, k⟩
      rw [List.length_map] at hi
      have hi2 : i < ts.length := by omega
      have ha' := k _ _ ha
      obtain ⟨e1, e2⟩ := text_at (ts := ts) (i := 0 + (i : Int)) (by omega) (by omega)
      have hlen := hts.len _ e2
      generalize ts.getD (0 + (i : Int)).toNat Str.empty = t at e1 e2 hlen
      refine ⟨.ref f, rfl, .ref a, rfl, .int (0 + (i : Int)), rfl, a, _, _, _, rfl, rfl, SqT.of ha', e1, .str t, t.length, rfl, ⟨len6 hlen, rfl⟩, _, rfl, by omega, by omega, fun D nD => lc_range (fun j H2 => ∃ qs, H2 D = some (.lst qs) ∧ qs.length = j ∧ (∀ y ∈ qs, Pl H2 y) ∧ Same H' H2) ⟨[], upd_same, rfl, fun y hy => absurd hy (by simp), Same.new nD⟩ ?_ ?_⟩
      · rintro j H2 hj ⟨qs, hD, hl, hq, k2⟩
        refine ⟨rfl, .int (0 + (i : Int)), rfl, .int (0 + (j : Int)), rfl, by show 2 ≤ sizeLine; decide, fun b nb => ?_⟩
        have hD2 := Same.new (o := .tup [.int (0 + (i : Int)), .int (0 + (j : Int))]) nb _ _ hD
        refine ⟨_, hD2, ?_, qs ++ [.ref b], upd_same, by rw [List.length_append, hl]; rfl, fun y hy => ?_, sameAt (k2.trans (Same.new nb)) nD⟩
        · have h3 : sizeLine = 16777216 := sizeLine_eq
          omega
        · refine Pl.at hD2 ?_
          rcases List.mem_append.mp hy with g | g
          · exact (hq y g).same (Same.new nb)
          · rw [List.mem_singleton.mp g]
            exact ⟨b, _, _, rfl, upd_same⟩
      · rintro H2 ⟨qs, hD, hl, hq, k2⟩
        have hf2 := k2 _ _ hf
        have hql : qs.length ≤ 100 := by omega
        refine ⟨f, D, _, _, rfl, rfl, hf2, hD, ?_, fun r nr => ?_⟩
        · have h3 : sizeLine = 16777216 := sizeLine_eq
          omega
        · refine ⟨r, _, _, ps ++ qs, rfl, upd_same, ?_, by rw [List.length_append]; omega, fun y hy => ?_, (k.trans k2).trans (Same.new nr)⟩
          · cases e : H r with
            | none => rfl
            | some u =>
              rw [(k.trans k2) _ _ e] at nr
              cases nr
          · rcases List.mem_append.mp hy with g | g
            · exact ((hp y g).same k2).same (Same.new nr)
            · exact (hq y g).same (Same.new nr)
    · rintro σ H' ⟨f, x, y, ps, rfl, hf, nf0, lp, hp, k⟩
      rw [List.length_map] at lp
      exact ⟨_, rfl, q f ps H' nf0 hf (by omega) hp k⟩
abbrev sThing : Stmt := topS 35
theorem scThing : FnScope ["hand", "texts", "way", "at"] ["hand", "texts"] (defScope sThing) := ⟨rfl, rfl, rfl, by decide +kernel, rfl, by decide +kernel, by decide +kernel⟩
theorem ok_Thing {f : Addr} {fd : FuncData} (F : Fun K "_law_thing" "_law_thing" sThing f fd) {fTake : Addr} {fdTake : FuncData} (DTake : Dk P w K mg base "_law_take" sTake ["hand", "many"] 1 spTake fTake fdTake) {fPick : Addr} {fdPick : FuncData} (DPick : Dk P w K mg base "_law_pick" sPick ["hand", "things"] 2 (spPick K) fPick fdPick) {fOdd : Addr} {fdOdd : FuncData} (DOdd : Dk P w K mg base "_law_odd" sOdd ["hand"] 2 spOdd fOdd fdOdd) (T : Glob mg) : FnOk P w K mg base CX0 3 f fd ["hand", "texts"] spThing := by
  refine F.ok scThing (fun vs H Q E h => ?_) (fun cdv A outer s H vs Q E hr h => ?_)
  · obtain ⟨p, a, ts, rfl, _⟩ := h
    rfl
  · refine ⟨_, (pss_cons (ps_set (i := 2) scThing.nd rfl (.inl rfl) (pe_call DTake.ok (hr.mono (by decide)) (by rfl) DTake.g DTake.F.kp DTake.b .nil pass0 (pa_cons (pv 0) (pa_cons pe_int pa_nil))))
      (pss_cons (ps_set (i := 3) scThing.nd rfl (.inl rfl) (pe_call DTake.ok (hr.mono (by decide)) (by rfl) DTake.g DTake.F.kp DTake.b .nil pass0 (pa_cons (pv 0) (pa_cons (pe_op op_add (pe_callB call_len_seq (by rfl) T.len PySem.boot_len (pa_cons (pv 1) pa_nil)) pe_int) pa_nil))))
      (pss_cons (ps_if (pt_cmpR op_eq (pv 2) pe_int (nomark _))
      (pss_one (ps_ret (pe_callTy call_list_of (by rfl) T.list (by decide +kernel) (pa_cons (pv 1) pa_nil))))
      pss_nil)
      (pss_cons (ps_if (pt_cmpR op_eq (pv 2) pe_int (nomark _))
      (pss_one (ps_ret (pe_call DOdd.ok (hr.mono (by decide)) (by rfl) DOdd.g DOdd.F.kp DOdd.b .nil pass0 (pa_cons (pv 0) pa_nil))))
      pss_nil)
      (pss_cons (ps_if (pt_cmpR op_eq (pv 2) pe_int (nomark _))
      (pss_one (ps_ret (pe_slice sl_tupM (pe_op op_catM (pv 1) (pe_op op_repT (pe_tup (pa_cons pe_str pa_nil)) pe_int)) po_none (po_some (pe_op op_add pe_int (pe_call DTake.ok (hr.mono (by decide)) (by rfl) DTake.g DTake.F.kp DTake.b .nil pass0 (pa_cons (pv 0) (pa_cons pe_int pa_nil))))))))
      pss_nil)
      (pss_cons (ps_if (pt_cmpR op_eq (pv 2) pe_int (nomark _))
      (pss_one (ps_ret (pe_op op_catM (pe_op op_catM (pe_slice sl_tupM (pv 1) po_none (po_some (pv 3))) (pe_tup (pa_cons (pe_call DOdd.ok (hr.mono (by decide)) (by rfl) DOdd.g DOdd.F.kp DOdd.b .nil pass0 (pa_cons (pv 0) pa_nil)) pa_nil))) (pe_slice sl_tupM (pv 1) (po_some (pv 3)) po_none))))
      pss_nil)
      (pss_cons (ps_if (pt_cmpR op_eq (pv 2) pe_int (nomark _))
      (pss_one (ps_ret (pe_op op_catM (pe_op op_catM (pe_slice sl_tupM (pv 1) po_none (po_some (pv 3))) (pe_tup (pa_cons (pe_op op_add_str (pe_op op_add_str pe_str (pe_call DPick.ok (hr.mono (by decide)) (by rfl) DPick.g DPick.F.kp DPick.b .nil pass0 (pa_cons (pv 0) (pa_cons (pe_lst (pa_cons pe_str (pa_cons pe_str (pa_cons pe_str (pa_cons pe_str pa_nil))))) pa_nil)))) pe_str) pa_nil))) (pe_slice sl_tupM (pv 1) (po_some (pv 3)) po_none))))
      pss_nil)
      (pss_cons (ps_if (pt_cmpR op_eq (pv 2) pe_int (nomark _))
      (pss_one (ps_ret (pe_tup (pa_cons (pe_op op_mulS pe_str (pe_op op_sub pe_int (pe_call DTake.ok (hr.mono (by decide)) (by rfl) DTake.g DTake.F.kp DTake.b .nil pass0 (pa_cons (pv 0) (pa_cons pe_int pa_nil))))) (pa_cons pe_str (pa_cons (pe_op op_mulS pe_str (pe_op op_add pe_int (pe_call DTake.ok (hr.mono (by decide)) (by rfl) DTake.g DTake.F.kp DTake.b .nil pass0 (pa_cons (pv 0) (pa_cons pe_int pa_nil))))) pa_nil))))))
      pss_nil)
      (pss_one (ps_ret (pv 1))))))))))), ?_⟩
    obtain ⟨p, a, ts, rfl, ha, hts, lh, hH, q⟩ := h
    have hfew := hts.few
    have nap := tup_ne hH ha
    refine ⟨.ref p, rfl, p, 10, rfl, by decide, by decide, lh, hH, fun w H1 w0 w1 h1 b1 => ?_⟩
    have ha1 := b1 _ _ nap ha
    refine ⟨.ref p, rfl, .ref a, rfl, a, _, rfl, .inr (SqT.of ha1), _, _, rfl, rfl, p, _, rfl, by omega, by rw [List.length_map]; omega, lh, h1, fun v H2 v0 v1 h2 b2 => ?_⟩
    have ha2 := b2 _ _ nap ha1
    have b12 := b1.trans b2
    have cutok : ∀ {lo hi : Option Int} {y : V} {H9 : Hp}, y ∈ cutV (ts.map V.str) lo hi → (∃ k, Kd H9 y k) ∧ Vs y := fun {lo hi y H9} hy => str_ok hts (cutV_mem hy)
    have cutle : ∀ (lo hi : Option Int), (cutV (ts.map V.str) lo hi).length ≤ 8 := fun lo hi => by
      have z := cutV_length (ts.map V.str) lo hi
      rw [List.length_map] at z
      omega
    refine ⟨.int w, rfl, rfl, _, rfl, ite2 (fun _ => ?_) (fun _ => ?_)⟩
    · exact ⟨.ref a, rfl, a, _, rfl, .inr (SqT.of ha2), fun l nl => q _ none _ (.no (.lst upd_same) (by decide) fun z e => by cases e) (h2.same (Same.new nl)) (b12.and (Same.new nl))⟩
    refine ⟨.int w, rfl, rfl, _, rfl, ite2 (fun _ => ?_) (fun _ => ?_)⟩
    · refine ⟨.ref p, rfl, p, rfl, lh, h2, fun x d H3 hd sd h3 b3 => ?_⟩
      obtain ⟨o, ho⟩ := hd.tg sd
      exact q x o H3 ho h3 (b12.trans b3)
    refine ⟨.int w, rfl, rfl, _, rfl, ite2 (fun _ => ?_) (fun _ => ?_)⟩
    · refine ⟨.ref a, rfl, by show 1 ≤ sizeLine; decide, fun t nt => ⟨t, _, _, rfl, rfl, SqT.of upd_same, by simp, by decide, by decide, by show 1 ≤ 1000; decide, fun r nr => ?_⟩⟩
      have k4 := (Same.new (o := .tup [.str ""]) nt).trans (Same.new (o := .tup (List.replicate (9 : Int).toNat [V.str ""]).flatten) nr)
      refine ⟨a, r, _, _, rfl, rfl, k4 _ _ ha2, upd_same, ?_, fun e H5 k5 he => ?_⟩
      · have : ((List.replicate (9 : Int).toNat [V.str ""]).flatten).length = 9 := by decide
        rw [List.length_map, this]
        omega
      have h5 := h2.same (k4.trans k5)
      refine ⟨.ref p, rfl, p, 2, rfl, by decide, by decide, lh, h5, fun u H6 u0 u1 h6 b6 => ⟨_, _, rfl, rfl, 8 + u, rfl, e, _, rfl, b6 _ _ (tup_ne h5 he) he, fun g H7 k7 hg => ?_⟩⟩
      refine q (.ref g) _ H7 (.tup hg ?_ fun y hy => ?_) (h6.same k7) (((b12.and (k4.trans k5)).trans b6).and k7)
      · have z := cutV_length (ts.map V.str ++ (List.replicate (9 : Int).toNat [V.str ""]).flatten) none (some (8 + u))
        have : ((List.replicate (9 : Int).toNat [V.str ""]).flatten).length = 9 := by decide
        rw [List.length_append, List.length_map, this] at z
        omega
      · rcases List.mem_append.mp (cutV_mem hy) with g2 | g2
        · exact str_ok hts g2
        · obtain ⟨l2, hl2, hy2⟩ := List.mem_flatten.mp g2
          rw [(List.mem_replicate.mp hl2).2] at hy2
          rw [List.mem_singleton.mp hy2]
          exact lit_ok (by decide +kernel)
    refine ⟨.int w, rfl, rfl, _, rfl, ite2 (fun _ => ?_) (fun _ => ?_)⟩
    
    · refine ⟨.ref a, rfl, .int v, rfl, v, rfl, a, _, rfl, ha2, fun c H3 k3 hc => ?_⟩
      have h3 := h2.same k3
      refine ⟨.ref p, rfl, p, rfl, lh, h3, fun x d H4 hd sd h4 b4 => ⟨by show 1 ≤ sizeLine; decide, fun t nt => ?_⟩⟩
      have hc5 := Same.new (o := .tup [x]) nt _ _ (b4 _ _ (tup_ne h3 hc) hc)
      refine ⟨c, t, _, _, rfl, rfl, hc5, upd_same, by have := cutle none (some v); show _ + 1 ≤ 1000; omega, fun e H6 k6 he => ?_⟩
      have ha6 := k6 _ _ (Same.new (o := .tup [x]) nt _ _ (b4 _ _ nap (k3 _ _ ha2)))
      refine ⟨.ref a, rfl, .int v, rfl, v, rfl, a, _, rfl, ha6, fun g H7 k7 hg => ?_⟩
      refine ⟨e, g, _, _, rfl, rfl, k7 _ _ he, hg, ?_, fun r H8 k8 hr => ?_⟩
      · have z1 := cutle none (some v)
        have z2 := cutle (some v) none
        rw [List.length_append]
        show _ + 1 + _ ≤ 1000
        omega
      have k58 := (((Same.new (o := .tup [x]) nt).trans k6).trans k7).trans k8
      obtain ⟨o, ho⟩ := hd.tg sd
      obtain ⟨kx, hkx, _⟩ := (ho.same k58).kd
      refine q (.ref r) _ H8 (.tup hr ?_ fun y hy => ?_) (h4.same k58) (((b12.and k3).trans b4).and k58)
      · have z1 := cutle none (some v)
        have z2 := cutle (some v) none
        rw [List.length_append, List.length_append]
        show _ + 1 + _ ≤ 30
        omega
      · rcases List.mem_append.mp hy with g2 | g2
        · rcases List.mem_append.mp g2 with g3 | g3
          · exact cutok g3
          · rw [List.mem_singleton.mp g3]
            exact ⟨⟨_, hkx⟩, ho.vs⟩
        · exact cutok g2
    
    refine ⟨.int w, rfl, rfl, _, rfl, ite2 (fun _ => ?_) (fun _ => ?_)⟩
    
    · refine ⟨.ref a, rfl, .int v, rfl, v, rfl, a, _, rfl, ha2, fun c H3 k3 hc => ?_⟩
      have h3 := h2.same k3
      refine ⟨.ref p, rfl, by show 4 ≤ sizeLine; decide, fun f nf => ⟨p, f, _, rfl, sq_of upd_same, (h3.ne nf).1, by show 0 < 4; decide, by show 4 < 1000000; decide, lh, h3.same (Same.new nf), fun x H4 hx h4 b4 => ?_⟩⟩
      have b34 := (But.refl p H3).and (Same.new (o := .lst [.str "\n", .str "~", .str " ", .str "\n "]) nf) |>.trans b4
      obtain ⟨z, rfl, hz⟩ : ∃ z : Str, x = .str z ∧ z.length ≤ 10 := by
        simp only [List.mem_cons, List.not_mem_nil, or_false] at hx
        obtain rfl | rfl | rfl | rfl := hx
        · exact ⟨_, rfl, by decide +kernel⟩
        · exact ⟨_, rfl, by decide +kernel⟩
        · exact ⟨_, rfl, by decide +kernel⟩
        · exact ⟨_, rfl, by decide +kernel⟩
      have l1 : (Str.ofString "ab").length = 2 := by decide +kernel
      have l2 : (Str.ofString "c").length = 1 := by decide +kernel
      have l3 := app_len (Str.ofString "ab") z
      have h9 : sizeLine = 16777216 := sizeLine_eq
      refine ⟨_, _, rfl, rfl, by omega, _, _, rfl, rfl, by omega, by show 1 ≤ sizeLine; decide, fun t nt => ?_⟩
      have l4 := app_len (Str.ofString "ab" ++ z) (Str.ofString "c")
      generalize Str.ofString "ab" ++ z ++ Str.ofString "c" = x at l4 nt ⊢
      have hc5 := Same.new (o := .tup [.str x]) nt _ _ (b34 _ _ (tup_ne h3 hc) hc)
      refine ⟨c, t, _, _, rfl, rfl, hc5, upd_same, by have := cutle none (some v); show _ + 1 ≤ 1000; omega, fun e H6 k6 he => ?_⟩
      have ha6 := k6 _ _ (Same.new (o := .tup [.str x]) nt _ _ (b34 _ _ nap (k3 _ _ ha2)))
      refine ⟨.ref a, rfl, .int v, rfl, v, rfl, a, _, rfl, ha6, fun g H7 k7 hg => ?_⟩
      refine ⟨e, g, _, _, rfl, rfl, k7 _ _ he, hg, ?_, fun r H8 k8 hr => ?_⟩
      · have z1 := cutle none (some v)
        have z2 := cutle (some v) none
        rw [List.length_append]
        show _ + 1 + _ ≤ 1000
        omega
      have k58 := (((Same.new (o := .tup [.str x]) nt).trans k6).trans k7).trans k8
      refine q (.ref r) _ H8 (.tup hr ?_ fun y hy => ?_) (h4.same k58) (((b12.and k3).trans b34).and k58)
      · have z1 := cutle none (some v)
        have z2 := cutle (some v) none
        rw [List.length_append, List.length_append]
        show _ + 1 + _ ≤ 30
        omega
      · rcases List.mem_append.mp hy with g2 | g2
        · rcases List.mem_append.mp g2 with g3 | g3
          · exact cutok g3
          · rw [List.mem_singleton.mp g3]
            exact lit_ok (by omega)
        · exact cutok g2
    
    refine ⟨.int w, rfl, rfl, _, rfl, ite2 (fun _ => ?_) (fun _ => ?_)⟩
    · have la : (Str.ofString "a").length = 1 := by decide +kernel
      have lb : (Str.ofString "b").length = 1 := by decide +kernel
      refine ⟨.ref p, rfl, p, 5, rfl, by decide, by decide, lh, h2, fun u H3 u0 u1 h3 b3 => ⟨_, _, rfl, rfl, _, _, rfl, rfl, by omega, by omega, by omega, ?_⟩⟩
      refine ⟨.ref p, rfl, p, 5, rfl, by decide, by decide, lh, h3, fun u' H4 u2 u3 h4 b4 => ⟨_, _, rfl, rfl, _, _, rfl, rfl, by omega, by omega, by omega, by show 3 ≤ sizeLine; decide, fun t nt => ?_⟩⟩
      have m1 := (mul_facts (Str.ofString "a") (1000 - u)).1
      have m2 := (mul_facts (Str.ofString "b") (1000 + u')).1
      rw [la, Nat.one_mul] at m1
      rw [lb, Nat.one_mul] at m2
      refine q (.ref t) _ _ (.tup upd_same (by show 3 ≤ 30; decide) fun y hy => ?_) (h4.same (Same.new nt)) (((b12.trans b3).trans b4).and (Same.new nt))
      simp only [List.mem_cons, List.not_mem_nil, or_false] at hy
      obtain rfl | rfl | rfl := hy
      · exact lit_ok (by omega)
      · exact lit_ok (by decide +kernel)
      · exact lit_ok (by omega)
    exact ⟨.ref a, rfl, q (.ref a) _ H2 (.tup ha2 (by rw [List.length_map]; omega) fun y hy => str_ok hts hy) h2 b12⟩
end
end LawK
set_option maxHeartbeats 4000000
namespace LawK
open PySem PySem.Spec PyProof.Rows L2 Ev
theorem Kd.but {H H' : Hp} {p l : Addr} {x : V} {k : Kn} (h : Kd H x k) (h0 : HandL H p l) (h1 : HandL H' p l) (b : But p H H') : Kd H' x k := by
  cases h with
  | non => exact .non
  | bl b => exact .bl b
  | int i => exact .int i
  | str z => exact .str z
  | @lst a xs e =>
    by_cases z : a = p
    · obtain ⟨cells, i, r, s, m, h2, _⟩ := h1
      rw [z]
      exact .lst h2
    · exact .lst (b _ _ z e)
  | tup e => exact .tup (b _ _ (tup_ne h0 e) e)
  | dic e => exact .dic (b _ _ (hand_ne h0 e fun _ _ _ _ _ z => by cases z) e)
theorem Tg.but {H H' : Hp} {p l : Addr} {x : V} {o : Option (List V)} (h : Tg H x o) (h0 : HandL H p l) (h1 : HandL H' p l) (b : But p H H') : Tg H' x o := by
  cases h with
  | no h n s => exact .no (Kd.but h h0 h1 b) n s
  | tup e n h => exact .tup (b _ _ (tup_ne h0 e) e) n fun y hy => ⟨let ⟨k, q⟩ := (h y hy).1; ⟨k, Kd.but q h0 h1 b⟩, (h y hy).2⟩
section
variable {P : Program} {w : World} {K : PySem.W.Frag} {mg : Str → Option Value} {base : Heap}
abbrev sSomePlace : Stmt := topS 38
theorem scSomePlace : FnScope ["hand", "texts", "places"] ["hand", "texts"] (defScope sSomePlace) := ⟨rfl, rfl, rfl, by decide +kernel, rfl, by decide +kernel, by decide +kernel⟩
theorem ok_SomePlace {f : Addr} {fd : FuncData} (F : Fun K "_law_some_place" "_law_some_place" sSomePlace f fd) {fTake : Addr} {fdTake : FuncData} (DTake : Dk P w K mg base "_law_take" sTake ["hand", "many"] 1 spTake fTake fdTake) {fPick : Addr} {fdPick : FuncData} (DPick : Dk P w K mg base "_law_pick" sPick ["hand", "things"] 2 (spPick K) fPick fdPick) {fOdd : Addr} {fdOdd : FuncData} (DOdd : Dk P w K mg base "_law_odd" sOdd ["hand"] 2 spOdd fOdd fdOdd) {fAllPlaces : Addr} {fdAllPlaces : FuncData} (DAllPlaces : Dk P w K mg base "_law_all_places" sAllPlaces ["texts"] 1 spAllP fAllPlaces fdAllPlaces) (T : Glob mg) : FnOk P w K mg base CX0 4 f fd ["hand", "texts"] spThing := by
  refine F.ok scSomePlace (fun vs H Q E h => ?_) (fun cdv A outer s H vs Q E hr h => ?_)
  · obtain ⟨p, a, ts, rfl, _⟩ := h
    rfl
  · refine ⟨_, (pss_cons (ps_set (i := 2) scSomePlace.nd rfl (.inl rfl) (pe_call DAllPlaces.ok (hr.mono (by decide)) (by rfl) DAllPlaces.g DAllPlaces.F.kp DAllPlaces.b .nil pass0 (pa_cons (pv 1) pa_nil)))
      (pss_cons (ps_if (PW.pt (pw_or (pt_cmpR op_eq (pe_callB call_len_seq (by rfl) T.len PySem.boot_len (pa_cons (pv 2) pa_nil)) pe_int (nomark _)) (pw_or1 (pt_cmpR op_eq (pe_call DTake.ok (hr.mono (by decide)) (by rfl) DTake.g DTake.F.kp DTake.b .nil pass0 (pa_cons (pv 0) (pa_cons pe_int pa_nil))) pe_int (nomark _)))))
      (pss_one (ps_ret (pe_call DPick.ok (hr.mono (by decide)) (by rfl) DPick.g DPick.F.kp DPick.b .nil pass0 (pa_cons (pv 0) (pa_cons (pe_lst (pa_cons (pe_call DOdd.ok (hr.mono (by decide)) (by rfl) DOdd.g DOdd.F.kp DOdd.b .nil pass0 (pa_cons (pv 0) pa_nil)) (pa_cons (pe_tup (pa_cons (pe_callB call_len_seq (by rfl) T.len PySem.boot_len (pa_cons (pv 1) pa_nil)) (pa_cons pe_int pa_nil))) (pa_cons (pe_tup (pa_cons pe_int (pa_cons pe_int pa_nil))) (pa_cons (pe_tup (pa_cons (pe_un un_neg pe_int) (pa_cons pe_int pa_nil))) (pa_cons (pe_tup (pa_cons pe_int (pa_cons (pe_un un_neg pe_int) pa_nil))) (pa_cons (pe_lst (pa_cons pe_int (pa_cons pe_int pa_nil))) (pa_cons (pe_tup (pa_cons pe_int (pa_cons pe_bl pa_nil))) (pa_cons (pe_tup (pa_cons pe_int (pa_cons pe_int (pa_cons pe_int pa_nil)))) pa_nil))))))))) pa_nil)))))
      pss_nil)
      (pss_one (ps_ret (pe_call DPick.ok (hr.mono (by decide)) (by rfl) DPick.g DPick.F.kp DPick.b .nil pass0 (pa_cons (pv 0) (pa_cons (pv 2) pa_nil))))))), ?_⟩
    obtain ⟨p, a, ts, rfl, ha, hts, lh, hH, q⟩ := h
    have hfew := hts.few
    have nap := tup_ne hH ha
    refine ⟨.ref a, rfl, a, ts, rfl, ha, hts, fun o ps H1 no ho lp hp k1 => ?_⟩
    have h1 := hH.same k1
    have b1 : But p H H1 := But.same k1
    have ha1 := k1 _ _ ha
    have nop : o ≠ p := (hH.ne no).1
    refine ⟨.ref o, rfl, o, ps, rfl, .inl (sq_of ho), rfl, _, rfl, ite2 (fun _ => ?_) (fun c => ?_)⟩
    · refine iteT ?_
      refine ⟨.ref p, rfl, .ref p, rfl, p, rfl, lh, h1, fun x d H3 hd sd h3 b3 => ?_⟩
      have ha3 := b3 _ _ nap ha1
      refine ⟨.ref a, rfl, a, _, rfl, .inr (SqT.of ha3), by show 2 ≤ sizeLine; decide, fun t1 n1 => ⟨by show 2 ≤ sizeLine; decide, fun t2 n2 => ⟨_, rfl, by show 2 ≤ sizeLine; decide, fun t3 n3 => ⟨_, rfl, by show 2 ≤ sizeLine; decide, fun t4 n4 => ⟨by show 2 ≤ sizeLine; decide, fun t5 n5 => ⟨by show 2 ≤ sizeLine; decide, fun t6 n6 => ⟨by show 3 ≤ sizeLine; decide, fun t7 n7 => ⟨by show 8 ≤ sizeLine; decide, fun f nf => ?_⟩⟩⟩⟩⟩⟩⟩⟩
      have s7 := Same.new (o := HO.lst [x, .ref t1, .ref t2, .ref t3, .ref t4, .ref t5, .ref t6, .ref t7]) nf
      have s6 := (Same.new n7).trans s7
      have s5 := (Same.new n6).trans s6
      have s4 := (Same.new n5).trans s5
      have s3 := (Same.new n4).trans s4
      have s2 := (Same.new n3).trans s3
      have s1 := (Same.new n2).trans s2
      have s0 := (Same.new n1).trans s1
      have e7 := s7 _ _ upd_same
      have e6 := s6 _ _ upd_same
      have e5 := s5 _ _ upd_same
      have e4 := s4 _ _ upd_same
      have e3 := s3 _ _ upd_same
      have e2 := s2 _ _ upd_same
      have e1 := s1 _ _ upd_same
      have hf := h3.same s0
      have bf := (b1.trans b3).and s0
      have fp : f ≠ p := (h3.same ((Same.new n1).trans ((Same.new n2).trans ((Same.new n3).trans ((Same.new n4).trans ((Same.new n5).trans ((Same.new n6).trans (Same.new n7)))))))).ne nf |>.1
      refine ⟨p, f, _, rfl, sq_of upd_same, fp, by show 0 < 8; decide, by show 8 < 1000000; decide, lh, hf, fun y H4 hy h4 b4 => ?_⟩
      have dx := dt_but (hd.keep s0) hf b4
      have e1 := b4 _ _ (tup_ne hf e1) e1
      have e2 := b4 _ _ (tup_ne hf e2) e2
      have e3 := b4 _ _ (tup_ne hf e3) e3
      have e4 := b4 _ _ (tup_ne hf e4) e4
      have e5 := b4 _ _ (hand_ne hf e5 fun _ _ _ _ _ z => by cases z) e5
      have e6 := b4 _ _ (tup_ne hf e6) e6
      have e7 := b4 _ _ (tup_ne hf e7) e7
      have qq : ∀ o, Tg H4 y o → Q y H4 := fun o ho => q y o H4 ho h4 (bf.trans b4)
      clear q
      have two : ∀ {i j : Int} {y : V}, y ∈ [V.int i, V.int j] → (∃ k, Kd H4 y k) ∧ Vs y := fun {i j y} hy => by
        simp only [List.mem_cons, List.not_mem_nil, or_false] at hy
        obtain rfl | rfl := hy
        · exact int_ok
        · exact int_ok
      simp only [List.mem_cons, List.not_mem_nil, or_false] at hy
      obtain rfl | rfl | rfl | rfl | rfl | rfl | rfl | rfl := hy
      · obtain ⟨o, ho⟩ := dx.tg sd
        exact qq o ho
      · exact qq _ (.tup e1 (by show 2 ≤ 30; decide) fun y hy => two hy)
      · exact qq _ (.tup e2 (by show 2 ≤ 30; decide) fun y hy => two hy)
      · exact qq _ (.tup e3 (by show 2 ≤ 30; decide) fun y hy => two hy)
      · exact qq _ (.tup e4 (by show 2 ≤ 30; decide) fun y hy => two hy)
      · exact qq _ (.no (.lst e5) (by decide) fun z e => by cases e)
      · refine qq _ (.tup e6 (by show 2 ≤ 30; decide) fun y hy => ?_)
        simp only [List.mem_cons, List.not_mem_nil, or_false] at hy
        obtain rfl | rfl := hy
        · exact int_ok
        · exact ⟨⟨_, .bl true⟩, fun w e => by cases e⟩
      · refine qq _ (.tup e7 (by show 3 ≤ 30; decide) fun y hy => ?_)
        simp only [List.mem_cons, List.not_mem_nil, or_false] at hy
        obtain rfl | rfl | rfl := hy
        · exact int_ok
        · exact int_ok
        · exact int_ok
    have c' : 0 < ps.length := Nat.pos_of_ne_zero fun z => c (by rw [z]; rfl)
    refine ⟨.ref p, rfl, p, 5, rfl, by decide, by decide, lh, h1, fun u H2 u0 u1 h2 b2 => ⟨rfl, _, rfl, ite2 (fun _ => ?_) (fun _ => ?_)⟩⟩
    · have ha2 := b2 _ _ nap ha1
      have b12 := b1.trans b2
      refine ⟨.ref p, rfl, .ref p, rfl, p, rfl, lh, h2, fun x d H3 hd sd h3 b3 => ?_⟩
      have ha3 := b3 _ _ nap ha2
      refine ⟨.ref a, rfl, a, _, rfl, .inr (SqT.of ha3), by show 2 ≤ sizeLine; decide, fun t1 n1 => ⟨by show 2 ≤ sizeLine; decide, fun t2 n2 => ⟨_, rfl, by show 2 ≤ sizeLine; decide, fun t3 n3 => ⟨_, rfl, by show 2 ≤ sizeLine; decide, fun t4 n4 => ⟨by show 2 ≤ sizeLine; decide, fun t5 n5 => ⟨by show 2 ≤ sizeLine; decide, fun t6 n6 => ⟨by show 3 ≤ sizeLine; decide, fun t7 n7 => ⟨by show 8 ≤ sizeLine; decide, fun f nf => ?_⟩⟩⟩⟩⟩⟩⟩⟩
      have s7 := Same.new (o := HO.lst [x, .ref t1, .ref t2, .ref t3, .ref t4, .ref t5, .ref t6, .ref t7]) nf
      have s6 := (Same.new n7).trans s7
      have s5 := (Same.new n6).trans s6
      have s4 := (Same.new n5).trans s5
      have s3 := (Same.new n4).trans s4
      have s2 := (Same.new n3).trans s3
      have s1 := (Same.new n2).trans s2
      have s0 := (Same.new n1).trans s1
      have e7 := s7 _ _ upd_same
      have e6 := s6 _ _ upd_same
      have e5 := s5 _ _ upd_same
      have e4 := s4 _ _ upd_same
      have e3 := s3 _ _ upd_same
      have e2 := s2 _ _ upd_same
      have e1 := s1 _ _ upd_same
      have hf := h3.same s0
      have bf := (b12.trans b3).and s0
      have fp : f ≠ p := (h3.same ((Same.new n1).trans ((Same.new n2).trans ((Same.new n3).trans ((Same.new n4).trans ((Same.new n5).trans ((Same.new n6).trans (Same.new n7)))))))).ne nf |>.1
      refine ⟨p, f, _, rfl, sq_of upd_same, fp, by show 0 < 8; decide, by show 8 < 1000000; decide, lh, hf, fun y H4 hy h4 b4 => ?_⟩
      have dx := dt_but (hd.keep s0) hf b4
      have e1 := b4 _ _ (tup_ne hf e1) e1
      have e2 := b4 _ _ (tup_ne hf e2) e2
      have e3 := b4 _ _ (tup_ne hf e3) e3
      have e4 := b4 _ _ (tup_ne hf e4) e4
      have e5 := b4 _ _ (hand_ne hf e5 fun _ _ _ _ _ z => by cases z) e5
      have e6 := b4 _ _ (tup_ne hf e6) e6
      have e7 := b4 _ _ (tup_ne hf e7) e7
      have qq : ∀ o, Tg H4 y o → Q y H4 := fun o ho => q y o H4 ho h4 (bf.trans b4)
      clear q
      have two : ∀ {i j : Int} {y : V}, y ∈ [V.int i, V.int j] → (∃ k, Kd H4 y k) ∧ Vs y := fun {i j y} hy => by
        simp only [List.mem_cons, List.not_mem_nil, or_false] at hy
        obtain rfl | rfl := hy
        · exact int_ok
        · exact int_ok
      simp only [List.mem_cons, List.not_mem_nil, or_false] at hy
      obtain rfl | rfl | rfl | rfl | rfl | rfl | rfl | rfl := hy
      · obtain ⟨o, ho⟩ := dx.tg sd
        exact qq o ho
      · exact qq _ (.tup e1 (by show 2 ≤ 30; decide) fun y hy => two hy)
      · exact qq _ (.tup e2 (by show 2 ≤ 30; decide) fun y hy => two hy)
      · exact qq _ (.tup e3 (by show 2 ≤ 30; decide) fun y hy => two hy)
      · exact qq _ (.tup e4 (by show 2 ≤ 30; decide) fun y hy => two hy)
      · exact qq _ (.no (.lst e5) (by decide) fun z e => by cases e)
      · refine qq _ (.tup e6 (by show 2 ≤ 30; decide) fun y hy => ?_)
        simp only [List.mem_cons, List.not_mem_nil, or_false] at hy
        obtain rfl | rfl := hy
        · exact int_ok
        · exact ⟨⟨_, .bl true⟩, fun w e => by cases e⟩
      · refine qq _ (.tup e7 (by show 3 ≤ 30; decide) fun y hy => ?_)
        simp only [List.mem_cons, List.not_mem_nil, or_false] at hy
        obtain rfl | rfl | rfl := hy
        · exact int_ok
        · exact int_ok
        · exact int_ok
    · refine ⟨.ref p, rfl, .ref o, rfl, p, o, ps, rfl, sq_of (b2 _ _ nop ho), nop, c', by omega, lh, h2, fun y H4 hy h4 b4 => ?_⟩
      obtain ⟨b, i, j, rfl, hb⟩ := hp y hy
      have hb4 := b4 _ _ (tup_ne h2 (b2 _ _ (tup_ne h1 hb) hb)) (b2 _ _ (tup_ne h1 hb) hb)
      refine q _ _ H4 (.tup hb4 (by show 2 ≤ 30; decide) fun y hy => ?_) h4 ((b1.trans b2).trans b4)
      simp only [List.mem_cons, List.not_mem_nil, or_false] at hy
      obtain rfl | rfl := hy
      · exact int_ok
      · exact int_ok
abbrev sSomeWord : Stmt := topS 39
theorem scSomeWord : FnScope ["hand", "texts", "place", "way", "found"] ["hand", "texts", "place"] (defScope sSomeWord) := ⟨rfl, rfl, rfl, by decide +kernel, rfl, by decide +kernel, by decide +kernel⟩
theorem ok_SomeWord {f : Addr} {fd : FuncData} (F : Fun K "_law_some_word" "_law_some_word" sSomeWord f fd) {fTake : Addr} {fdTake : FuncData} (DTake : Dk P w K mg base "_law_take" sTake ["hand", "many"] 1 spTake fTake fdTake) {fOdd : Addr} {fdOdd : FuncData} (DOdd : Dk P w K mg base "_law_odd" sOdd ["hand"] 2 spOdd fOdd fdOdd) {fWord : Addr} {fdWord : FuncData} (DWord : Dk P w K mg base "_law_word" sWord ["hand", "signs", "least", "most"] 2 spWord fWord fdWord) {fIsPlace : Addr} {fdIsPlace : FuncData} (DIsPlace : Dk P w K mg base "_law_is_place" sIsPlace ["texts", "thing"] 3 spPlace fIsPlace fdIsPlace) (T : Glob mg) : FnOk P w K mg base CX0 4 f fd ["hand", "texts", "place"] spSomeW := by
  refine F.ok scSomeWord (fun vs H Q E h => ?_) (fun cdv A outer s H vs Q E hr h => ?_)
  · obtain ⟨p, a, ts, x, o, rfl, _⟩ := h
    rfl
  · refine ⟨_, (pss_cons (ps_set (i := 3) scSomeWord.nd rfl (.inl rfl) (pe_call DTake.ok (hr.mono (by decide)) (by rfl) DTake.g DTake.F.kp DTake.b .nil pass0 (pa_cons (pv 0) (pa_cons pe_int pa_nil))))
      (pss_cons (ps_if (pt_cmpR op_eq (pv 3) pe_int (nomark _))
      (pss_one (ps_ret (pe_call DOdd.ok (hr.mono (by decide)) (by rfl) DOdd.g DOdd.F.kp DOdd.b .nil pass0 (pa_cons (pv 0) pa_nil))))
      pss_nil)
      (pss_cons (ps_if (PW.pt (pw_or (pt_cmpR op_eq (pv 3) pe_int (nomark _)) (pw_or1 (pt_not (pt_val (pe_call DIsPlace.ok (hr.mono (by decide)) (by rfl) DIsPlace.g DIsPlace.F.kp DIsPlace.b .nil pass0 (pa_cons (pv 1) (pa_cons (pv 2) pa_nil))))))))
      (pss_one (ps_ret (pe_call DWord.ok (hr.mono (by decide)) (by rfl) DWord.g DWord.F.kp DWord.b .nil pass0 (pa_cons (pv 0) (pa_cons pe_str (pa_cons pe_int (pa_cons pe_int pa_nil)))))))
      pss_nil)
      (pss_cons (ps_set (i := 4) scSomeWord.nd rfl (.inl rfl) (pe_slice sl_str (pe_ix ix_tup (pv 1) (pe_ix ix_tup (pv 2) pe_int (fun _ _ => rfl)) (fun _ _ => rfl)) (po_some (pe_ix ix_tup (pv 2) pe_int (fun _ _ => rfl))) (po_some (pe_op op_add (pe_op op_add (pe_ix ix_tup (pv 2) pe_int (fun _ _ => rfl)) pe_int) (pe_call DTake.ok (hr.mono (by decide)) (by rfl) DTake.g DTake.F.kp DTake.b .nil pass0 (pa_cons (pv 0) (pa_cons pe_int pa_nil)))))))
      (pss_cons (ps_if (pt_cmpR op_eq (pv 3) pe_int (nomark _))
      (pss_one (ps_ret (pe_op op_add_str (pv 4) pe_str)))
      pss_nil)
      (pss_one (ps_ret (pv 4)))))))), ?_⟩
    obtain ⟨p, a, ts, x, o, rfl, ha, hts, hT, lh, hH, q⟩ := h
    have hfew := hts.few
    have nap := tup_ne hH ha
    refine ⟨.ref p, rfl, p, 6, rfl, by decide, by decide, lh, hH, fun w H1 w0 w1 h1 b1 => ?_⟩
    have ha1 := b1 _ _ nap ha
    have word : ∀ (y : Str) (H' : Hp), sgB y = true → (1 : Int) ≤ (y.length : Int) → (y.length : Int) ≤ 3 → HandL H' p lh → But p H1 H' → Q (.str y) H' := fun y H' _ _ l3 h' b' => q (.str y) _ H' (.str y) (fun z e => by
      cases e
      omega) h' (b1.trans b')
    refine ⟨.int w, rfl, rfl, _, rfl, ite2 (fun _ => ?_) (fun _ => ?_)⟩
    · refine ⟨.ref p, rfl, p, rfl, lh, h1, fun y d H3 hd sd h3 b3 => ?_⟩
      obtain ⟨o, ho⟩ := hd.tg sd
      obtain ⟨k, hk, _⟩ := ho.kd
      exact q y k H3 hk ho.vs h3 (b1.trans b3)
    have pl1 : Tg H1 x o := Tg.but hT hH h1 b1
    refine ⟨.int w, rfl, rfl, _, rfl, ite2 (fun _ => ?_) (fun _ => ?_)⟩
    · exact iteT ⟨.ref p, rfl, p, Str.ofString "ab", 1, 3, rfl, by decide +kernel, by decide +kernel, by decide +kernel, by decide, by decide, by decide, lh, h1, word⟩
    refine ⟨.ref a, rfl, x, rfl, a, ts, x, o, rfl, ha1, by omega, fun t ht => Nat.le_trans (hts.len t ht) (by decide), pl1, _, rfl, ite2 (fun _ => ?_) (fun c => ?_)⟩
    · exact ⟨.ref p, rfl, p, Str.ofString "ab", 1, 3, rfl, by decide +kernel, by decide +kernel, by decide +kernel, by decide, by decide, by decide, lh, h1, word⟩
    have c' : placeV ts o = true := by simpa using c
    obtain ⟨i, j, rfl, i0, i1, j0, j1⟩ := place_true c'
    cases pl1 with
    | @tup b _ e n hy =>
      obtain ⟨et, hm⟩ := text_at i0 i1
      have hlen := hts.len _ hm
      generalize ts.getD i.toNat Str.empty = t at et hlen j1
      refine ⟨.ref a, rfl, .ref b, rfl, b, _, 0, .int i, rfl, rfl, SqT.of e, rfl, a, _, i, .str t, rfl, rfl, SqT.of ha1, et, .ref b, rfl, b, _, 1, .int j, rfl, rfl, SqT.of e, rfl, j, rfl, ?_⟩
      refine ⟨.ref b, rfl, b, _, 1, .int j, rfl, rfl, SqT.of e, rfl, _, _, rfl, rfl, .ref p, rfl, p, 9, rfl, by decide, by decide, lh, h1, fun u H2 u0 u1 h2 b2 => ⟨_, _, rfl, rfl, _, rfl, t, rfl, len6 hlen, ?_⟩⟩
      have lc := cut_len (z := t) (some j) (some (j + 1 + u))
      generalize cutS t (some j) (some (j + 1 + u)) = y at lc ⊢
      have l1 : (Str.ofString "a").length = 1 := by decide +kernel
      have l2 := app_len y (Str.ofString "a")
      have h9 : sizeLine = 16777216 := sizeLine_eq
      refine ⟨.int w, rfl, rfl, _, rfl, ite2 (fun _ => ?_) (fun _ => ?_)⟩
      · refine ⟨.str y, rfl, _, _, rfl, rfl, by omega, q _ _ H2 (.str _) (fun z e => ?_) h2 (b1.trans b2)⟩
        cases e
        omega
      · refine ⟨.str y, rfl, q _ _ H2 (.str _) (fun z e => ?_) h2 (b1.trans b2)⟩
        cases e
        omega
end
end LawK
set_option maxHeartbeats 4000000
namespace LawK
open PySem PySem.Spec PyProof.Rows L2 Ev
/-- alike, one step deeper than S -/
inductive SameX (S : Hp → V → V → Prop) (H : Hp) : V → V → Prop
  | non : SameX S H .non .non
  | bl (b : Bool) : SameX S H (.bl b) (.bl b)
  | int (i : Int) : SameX S H (.int i) (.int i)
  | str (z : Str) : SameX S H (.str z) (.str z)
  | tup {a b : Addr} {xs ys : List V} (ha : H a = some (.tup xs)) (hb : H b = some (.tup ys)) (hl : xs.length = ys.length) (hn : xs.length ≤ 1000) (h : ∀ (i : Nat) x y, xs[i]? = some x → ys[i]? = some y → S H x y) : SameX S H (.ref a) (.ref b)
def spSame (S : Hp → V → V → Prop) : Sp := fun vs H Q _ => ∃ x y, vs = [x, y] ∧ S H x y ∧ ∀ H', Same H H' → Q (.bl true) H'
abbrev sSame : Stmt := topS 23
theorem scSame : FnScope ["actual", "due", "one", "other"] ["actual", "due"] (defScope sSame) := ⟨rfl, rfl, rfl, by decide +kernel, rfl, by decide +kernel, by decide +kernel⟩
section
variable {P : Program} {w : World} {K : PySem.W.Frag} {mg : Str → Option Value} {base : Heap}
theorem ok_same_step {S : Hp → V → V → Prop} (hm : ∀ H H' x y, Same H H' → S H x y → S H' x y) {k : Nat} {f : Addr} {fd : FuncData} (F : Fun K "_law_same" "_law_same" sSame f fd) (bS : Binds K fd ["actual", "due"] []) (gS : mg "_law_same" = some (.ref f)) (hk : 1 ≤ k) (G : FnOk P w K mg base CX0 k f fd ["actual", "due"] (spSame S))
    {fIsInteger : Addr} {fdIsInteger : FuncData} (DIsInteger : Dk P w K mg base "_law_is_integer" sIsInteger ["thing"] 1 spInt fIsInteger fdIsInteger) (T : Glob mg) : FnOk P w K mg base CX0 (k + 1) f fd ["actual", "due"] (spSame (SameX S)) := by
  refine F.ok scSame (fun vs H Q E h => ?_) (fun cdv A outer s H vs Q E hr h => ?_)
  · obtain ⟨x, y, rfl, _⟩ := h
    rfl
  · obtain ⟨x, y, rfl, hS, q⟩ := h
    refine ⟨_, (pss_cons (ps_if (pt_cmpR op_isN (pv 1) pe_non (nomark _))
      (pss_one (ps_ret (pe_cmpR op_isN (pv 0) pe_non (nomark _))))
      pss_nil)
      (pss_cons (ps_if (pt_cmpR op_isT (pv 1) pe_bl (nomark _))
      (pss_one (ps_ret (pe_cmpR op_isT (pv 0) pe_bl (nomark _))))
      pss_nil)
      (pss_cons (ps_if (pt_cmpR op_isT (pv 1) pe_bl (nomark _))
      (pss_one (ps_ret (pe_cmpR op_isT (pv 0) pe_bl (nomark _))))
      pss_nil)
      (pss_cons (ps_if (pt_val (pe_callB call_isi (by rfl) T.isinstance PyProof.Rows.boot_isinstance (pa_cons (pv 1) (pa_cons (pe_bltn (v := .ty "int") (by rfl) T.int (by decide +kernel) rfl) pa_nil))))
      (pss_one (ps_ret (pe_and (pe_call DIsInteger.ok (hr.mono (by omega)) (by rfl) DIsInteger.g DIsInteger.F.kp DIsInteger.b .nil pass0 (pa_cons (pv 0) pa_nil)) (pe_one (pe_cmpR op_eq (pv 0) (pv 1) (nomark _))))))
      pss_nil)
      (pss_cons (ps_if (pt_val (pe_callB call_isi (by rfl) T.isinstance PyProof.Rows.boot_isinstance (pa_cons (pv 1) (pa_cons (pe_bltn (v := .ty "str") (by rfl) T.str (by decide +kernel) rfl) pa_nil))))
      (pss_one (ps_ret (pe_and (pe_callB call_isi (by rfl) T.isinstance PyProof.Rows.boot_isinstance (pa_cons (pv 0) (pa_cons (pe_bltn (v := .ty "str") (by rfl) T.str (by decide +kernel) rfl) pa_nil))) (pe_one (pe_cmpR op_eq (pv 0) (pv 1) (nomark _))))))
      pss_nil)
      (pss_cons (ps_if (PW.pt (pw_or (pt_cmpR op_ne (pe_callB call_isi (by rfl) T.isinstance PyProof.Rows.boot_isinstance (pa_cons (pv 1) (pa_cons (pe_bltn (v := .ty "tuple") (by rfl) T.tuple (by decide +kernel) rfl) pa_nil))) (pe_callB call_isi (by rfl) T.isinstance PyProof.Rows.boot_isinstance (pa_cons (pv 0) (pa_cons (pe_bltn (v := .ty "tuple") (by rfl) T.tuple (by decide +kernel) rfl) pa_nil))) (nomark _)) (pw_or1 (pt_cmpR op_ne (pe_callB call_isi (by rfl) T.isinstance PyProof.Rows.boot_isinstance (pa_cons (pv 1) (pa_cons (pe_bltn (v := .ty "list") (by rfl) T.list (by decide +kernel) rfl) pa_nil))) (pe_callB call_isi (by rfl) T.isinstance PyProof.Rows.boot_isinstance (pa_cons (pv 0) (pa_cons (pe_bltn (v := .ty "list") (by rfl) T.list (by decide +kernel) rfl) pa_nil))) (nomark _)))))
      (pss_one (ps_ret pe_bl))
      pss_nil)
      (pss_cons (ps_if (pt_cmpR op_ne (pe_callB call_len_seq (by rfl) T.len PySem.boot_len (pa_cons (pv 0) pa_nil)) (pe_callB call_len_seq (by rfl) T.len PySem.boot_len (pa_cons (pv 1) pa_nil)) (nomark _))
      (pss_one (ps_ret pe_bl))
      pss_nil)
      (pss_cons (ps_for PassesOwn.never rfl (RZ.pi_zipA (by rfl) T.zip (pa_cons (pv 0) (pa_cons (pv 1) pa_nil))) (pg_tup (by rfl) (pgs_cons (pg_name (i := 2) scSame.nd rfl (.inl rfl)) (pgs_cons (pg_name (i := 3) scSame.nd rfl (.inl rfl)) pgs_nil)))
      (pss_one (ps_if (pt_not (pt_val (pe_call G (hr.mono (Nat.le_refl _)) (by rfl) gS F.kp bS .nil pass0 (pa_cons (pv 2) (pa_cons (pv 3) pa_nil)))))
        (pss_one (ps_ret pe_bl))
        pss_nil)))
      (pss_one (ps_ret pe_bl)))))))))), ?_⟩
    cases hS with
    | non => exact ⟨.non, rfl, rfl, _, rfl, iteT ⟨.non, rfl, rfl, q H (Same.refl H)⟩⟩
    | bl b =>
      refine ⟨.bl b, rfl, rfl, _, rfl, iteF ⟨.bl b, rfl, true, .bl, rfl, .bl b, _, rfl, ?_⟩⟩
      cases b with
      | true => exact iteT ⟨.bl true, rfl, true, .bl, rfl, .bl true, q H (Same.refl H)⟩
      | false => exact iteF ⟨.bl false, rfl, false, .bl, rfl, .bl false, _, rfl, iteT ⟨.bl false, rfl, false, .bl, rfl, .bl false, q H (Same.refl H)⟩⟩
    | int i =>
      refine ⟨.int i, rfl, rfl, _, rfl, iteF ⟨.int i, rfl, true, .int, rfl, .int i, _, rfl, iteF ⟨.int i, rfl, false, .int, rfl, .int i, _, rfl, iteF ?_⟩⟩⟩
      refine ⟨.int i, rfl, .int i, .ty "int", .type (Kn.name .int), .type "int", kitB .int .int, rfl, .ty _, Kd.tyx (.int i), kit_kn .int .int, _, rfl, iteT ⟨.int i, rfl, .int i, .int, rfl, .int i, _, rfl, iteT ⟨.int i, rfl, .int i, rfl, rfl, ?_⟩⟩⟩
      rw [decide_eq_true rfl]
      exact q H (Same.refl H)
    | str z =>
      refine ⟨.str z, rfl, rfl, _, rfl, iteF ⟨.str z, rfl, true, .str, rfl, .str z, _, rfl, iteF ⟨.str z, rfl, false, .str, rfl, .str z, _, rfl, iteF ?_⟩⟩⟩
      refine ⟨.str z, rfl, .str z, .ty "int", .type (Kn.name .str), .type "int", kitB .str .int, rfl, .ty _, Kd.tyx (.str z), kit_kn .str .int, _, rfl, iteF ⟨.str z, rfl, .str z, .ty "str", .type (Kn.name .str), .type "str", kitB .str .str, rfl, .ty _, Kd.tyx (.str z), kit_kn .str .str, _, rfl, iteT ⟨.str z, rfl, .str z, .ty "str", .type (Kn.name .str), .type "str", kitB .str .str, rfl, .ty _, Kd.tyx (.str z), kit_kn .str .str, _, rfl, iteT ⟨.str z, rfl, .str z, rfl, rfl, ?_⟩⟩⟩⟩
      rw [decide_eq_true rfl]
      exact q H (Same.refl H)
    | @tup a b xs ys ha hb hl hn hp =>
      refine ⟨.ref b, rfl, rfl, _, rfl, iteF ⟨.ref b, rfl, true, .tup, rfl, .tup hb, _, rfl, iteF ⟨.ref b, rfl, false, .tup, rfl, .tup hb, _, rfl, iteF ?_⟩⟩⟩
      refine ⟨.ref b, rfl, .ref b, .ty "int", .type (Kn.name .tup), .type "int", kitB .tup .int, rfl, .ty _, Kd.tyx (.tup hb), kit_kn .tup .int, _, rfl, iteF ⟨.ref b, rfl, .ref b, .ty "str", .type (Kn.name .tup), .type "str", kitB .tup .str, rfl, .ty _, Kd.tyx (.tup hb), kit_kn .tup .str, _, rfl, iteF ?_⟩⟩
      refine ⟨.ref b, rfl, .ref b, .ty "tuple", .type (Kn.name .tup), .type "tuple", kitB .tup .tup, rfl, .ty _, Kd.tyx (.tup hb), kit_kn .tup .tup, .ref a, rfl, .ref a, .ty "tuple", .type (Kn.name .tup), .type "tuple", kitB .tup .tup, rfl, .ty _, Kd.tyx (.tup ha), kit_kn .tup .tup, rfl, _, rfl, iteF ?_⟩
      refine ⟨.ref b, rfl, .ref b, .ty "list", .type (Kn.name .tup), .type "list", kitB .tup .lst, rfl, .ty _, Kd.tyx (.tup hb), kit_kn .tup .lst, .ref a, rfl, .ref a, .ty "list", .type (Kn.name .tup), .type "list", kitB .tup .lst, rfl, .ty _, Kd.tyx (.tup ha), kit_kn .tup .lst, rfl, _, rfl, iteF ?_⟩
      refine ⟨.ref a, rfl, a, xs, rfl, .inr (SqT.of ha), .ref b, rfl, b, ys, rfl, .inr (SqT.of hb), rfl, _, rfl, ?_⟩
      rw [hl, decide_eq_true rfl]
      refine iteF ⟨.ref a, rfl, .ref b, rfl, a, b, xs, ys, rfl, .inr ⟨SqT.of ha, SqT.of hb, RZ.for_zipT hl (fun _ σ H' => (∃ u v, σ = [some (.ref a), some (.ref b), u, v]) ∧ Same H H') ⟨⟨_, _, rfl⟩, Same.refl H⟩ (fun i σ H' p => ⟨SqT.of (p.2 _ _ ha), SqT.of (p.2 _ _ hb)⟩) ?_ ?_⟩⟩
      · rintro i x y t σ H' hx hy ⟨⟨u, v, rfl⟩, k⟩ nt
        refine ⟨t, [x, y], rfl, SqT.of upd_same, rfl, x, [y], rfl, y, [], rfl, rfl, ?_⟩
        refine ⟨x, rfl, y, rfl, x, y, rfl, hm _ _ _ _ (k.trans (Same.new nt)) (hp i x y hx hy), fun H3 k3 => ⟨_, rfl, iteF ⟨⟨_, _, rfl⟩, (k.trans (Same.new nt)).trans k3⟩⟩⟩
      · rintro σ H' ⟨⟨u, v, rfl⟩, k⟩
        exact q H' k
theorem SameX.mono {S : Hp → V → V → Prop} (hm : ∀ H H' x y, Same H H' → S H x y → S H' x y) : ∀ H H' x y, Same H H' → SameX S H x y → SameX S H' x y := fun H H' x y k h => by
  cases h with
  | non => exact .non
  | bl b => exact .bl b
  | int i => exact .int i
  | str z => exact .str z
  | tup ha hb hl hn hp => exact .tup (k _ _ ha) (k _ _ hb) hl hn fun i x y hx hy => hm _ _ _ _ k (hp i x y hx hy)
end
end LawK
set_option maxHeartbeats 4000000
namespace LawK
open PySem PySem.Spec PyProof.Rows L2 Ev
abbrev sLInit : Stmt := inClass (topS 12) 0
theorem scLInit : FnScope ["self", "texts", "part", "text"] ["self", "texts"] (defScope sLInit) := ⟨rfl, rfl, rfl, by decide +kernel, rfl, by decide +kernel, by decide +kernel⟩
abbrev sLEq : Stmt := inClass (topS 12) 1
theorem scLEq : FnScope ["self", "other"] ["self", "other"] (defScope sLEq) := ⟨rfl, rfl, rfl, by decide +kernel, rfl, by decide +kernel, by decide +kernel⟩
/-- the class of libraries, as it stands at C -/
structure LibC (K : PySem.W.Frag) (mg : Str → Option Value) (C fI fE : Addr) (fdI fdE : FuncData) : Prop where
  mak : Mk K C fI
  cl : Cls K C
  nt : NoAttr K C "texts"
  eq : PySem.W.findIn K (.ref C) "__eq__" = some (some (.ref fE))
  fnE : PySem.W.isFn K (.ref fE) = true
  ha : PySem.W.findIn K (.ref C) "__class__" = some (some (.builtin "object.__class__"))
  hn : PySem.W.specialIn K (.builtin "object.__class__") "__get__" = some (some (.builtin "getset_descriptor.__get__"))
  ht : PySem.W.takesIn K (.builtin "object.__class__") = some true
  hm : PySem.W.mroIn K C (.type "object") = some true
  kyes : PySem.W.kitOne K (.ref C) (.ref C) = some true
  kno : ∀ k : Kn, PySem.W.kitOne K (.type k.name) (.ref C) = some false
  nf : ∀ k : Kn, PySem.W.notFirst K C (.type k.name) = true
  nfo : PySem.W.notFirst K C (.ref C) = true
  FI : Fun K "__init__" "Library.__init__" sLInit fI fdI
  bI : Binds K fdI ["self", "texts"] []
  FE : Fun K "__eq__" "Library.__eq__" sLEq fE fdE
  bE : Binds K fdE ["self", "other"] []
  g : mg "Library" = some (.ref C)
/-- a library of these texts, at s -/
structure LibAt (H : Hp) (C s : Addr) (ts : List Str) : Prop where
  ex : ∃ dx a, H s = some (.ins C dx [("texts", .ref a)]) ∧ H a = some (.tup (ts.map V.str))
  few : ts.length ≤ 8
  sg : ∀ t ∈ ts, sgB t = true
  len : ∀ t ∈ ts, t.length ≤ 5000
  sum : ((ts.map V.str).map slen).sum ≤ 2000
theorem LibAt.same {H H' : Hp} {C s : Addr} {ts : List Str} (k : Same H H') (h : LibAt H C s ts) : LibAt H' C s ts := by
  obtain ⟨⟨dx, a, h1, h2⟩, h3, h4, h5, h6⟩ := h
  exact ⟨⟨dx, a, k _ _ h1, k _ _ h2⟩, h3, h4, h5, h6⟩
def spLEq (C : Addr) : Sp := fun vs H Q _ => ∃ (s : Addr) (ts : List Str) (y : V), vs = [.ref s, y] ∧ LibAt H C s ts ∧
  ((∃ k, Kd H y k) ∧ Q (.bl false) H ∨ ∃ b us, y = .ref b ∧ LibAt H C b us ∧ Q (.bl (decide (ts = us))) H)
def spSize (C : Addr) : Sp := fun vs H Q _ => ∃ (s : Addr) (ts : List Str), vs = [.ref s] ∧ LibAt H C s ts ∧ ∀ H', Same H H' → Q (.int (ts.map fun t => (t.length : Int)).sum) H'
def spPPlace (C : Addr) : Sp := fun vs H Q _ => ∃ (s : Addr) (ts : List Str) (x : V) (o : Option (List V)), vs = [.ref s, x] ∧ LibAt H C s ts ∧ Tg H x o ∧ Q (.bl (placeV ts o)) H
/-- nothing but the object at s has changed -/
def spLInit (C cB : Addr) : Sp := fun vs H Q E => ∃ (s dx : Addr) (x : V) (o : Option (List V)), vs = [.ref s, x] ∧ H s = some (.ins C dx []) ∧ Tg H x o ∧
  (badOf o = .non → ∀ H', H' s = some (.ins C dx [("texts", x)]) → (∀ b u, b ≠ s → H b = some u → H' b = some u) → Q .non H') ∧
  (badOf o ≠ .non → ∀ d H', Same H H' → H' d = none → E (.ref cB) (some d) (upd H' d (.xd [("part", badOf o)])))
theorem lk1 {a : V} : ([("texts", a)] : List (Str × V)).lookup ("texts" : Str) = some a := by simp [List.lookup]
section
variable {P : Program} {w : World} {K : PySem.W.Frag} {mg : Str → Option Value} {base : Heap}
variable {PE C fI fE cB : Addr} {fdI fdE : FuncData}
theorem ok_LEq (L : LibC K mg C fI fE fdI fdE) (T : Glob mg) : FnOk P w K mg base CX0 2 fE fdE ["self", "other"] (spLEq C) := by
  refine L.FE.ok scLEq (fun vs H Q E h => ?_) (fun cdv A outer s H vs Q E hr h => ?_)
  · obtain ⟨s, ts, y, rfl, _⟩ := h
    rfl
  · obtain ⟨p, ts, y, rfl, hl, q⟩ := h
    refine ⟨_, (pss_one (ps_ret (pe_and (pe_callB call_isi (by rfl) T.isinstance PyProof.Rows.boot_isinstance (pa_cons (pv 1) (pa_cons (pe_glob (v := .ref C) (by rfl) L.g rfl) pa_nil))) (pe_one (pe_cmpR (op_eqD hr.units) (pe_fld (pv 0) rfl) (pe_fld (pv 1) rfl) (nomark _)))))), ?_⟩
    rcases q with ⟨⟨k, hk⟩, q⟩ | ⟨b, us, rfl, hb, q⟩
    · exact ⟨y, rfl, y, .ref C, .type k.name, .ref C, false, rfl, .own C, hk.tyx, L.kno k, _, rfl, iteF q⟩
    · obtain ⟨⟨dx, a, h1, h2⟩, _, sg1, _, _⟩ := hl
      obtain ⟨⟨dy, a2, h3, h4⟩, _, sg2, _, _⟩ := hb
      refine ⟨.ref b, rfl, .ref b, .ref C, .ref C, .ref C, true, rfl, .own C, .base (.ins h3 L.cl L.ha L.hn L.ht L.hm), L.kyes, _, rfl, iteT ?_⟩
      refine ⟨.ref p, rfl, p, C, dx, _, .ref a, rfl, h1, L.cl, L.nt, lk1, .ref b, rfl, b, C, dy, _, .ref a2, rfl, h3, L.cl, L.nt, lk1, .tuple (ts.map PyData.str), .tuple (us.map PyData.str), .tup (SqT.of h2) (dp_strs ts), .tup (SqT.of h4) (dp_strs us), shaped_strs sg1, shaped_strs sg2, ?_⟩
      have e : PyData.eqv (.tuple (ts.map PyData.str)) (.tuple (us.map PyData.str)) = decide (ts = us) := eqv_strs ts us
      rw [e]
      exact q
abbrev sPSize : Stmt := topS 13
theorem scPSize : FnScope ["library", "text"] ["library"] (defScope sPSize) := ⟨rfl, rfl, rfl, by decide +kernel, rfl, by decide +kernel, by decide +kernel⟩
theorem ok_PSize {f : Addr} {fd : FuncData} (F : Fun K "size" "size" sPSize f fd) (L : LibC K mg C fI fE fdI fdE) (T : Glob mg) : FnOk P w K mg base CX0 1 f fd ["library"] (spSize C) := by
  refine F.ok scPSize (fun vs H Q E h => ?_) (fun cdv A outer s H vs Q E hr h => ?_)
  · obtain ⟨s, ts, rfl, _⟩ := h
    rfl
  · obtain ⟨p, ts, rfl, ⟨⟨dx, a, h1, h2⟩, few, sg1, len1, _⟩, q⟩ := h
    refine ⟨_, (pss_one (ps_ret (pe_callB (cr_sum rfl) (by rfl) T.sum (by decide +kernel) (pa_cons (pe_lc (own := [("text", 1)]) (g := gName 1) (by rfl) scPSize.nd (pi_tup (pe_fld (pv 0) rfl)) (blkOk_by (N := ["library", "text"]) (sc := defScope sPSize) (by decide +kernel)) (fun _ _ _ _ _ => pg_name (i := 1) scPSize.nd rfl (.inl rfl)) (fun _ _ _ _ _ => pts_nil) (fun _ _ _ _ _ => (pe_callB call_lenZ (by rfl) T.len PySem.boot_len (pa_cons (pv 1) pa_nil)))) pa_nil)))), ?_⟩
    refine ⟨.ref p, rfl, p, C, dx, _, .ref a, rfl, h1, L.cl, L.nt, lk1, a, rfl, ⟨_, SqT.of h2⟩, fun D nD => lc_lens (i := 1) (show 1 < 2 by decide) h2 nD len1 (by omega) fun H2 hD hs => ?_⟩
    exact ⟨D, _, rfl, sq_of hD, q H2 hs⟩
abbrev sPPlace : Stmt := topS 15
theorem scPPlace : FnScope ["library", "thing", "text", "at"] ["library", "thing"] (defScope sPPlace) := ⟨rfl, rfl, rfl, by decide +kernel, rfl, by decide +kernel, by decide +kernel⟩
theorem ok_PPlace {f : Addr} {fd : FuncData} (F : Fun K "is_place" "is_place" sPPlace f fd) {fPNumber : Addr} {fdPNumber : FuncData} (DPNumber : Dk P w K mg base "is_number" sPNumber ["thing"] 1 spNum fPNumber fdPNumber) (L : LibC K mg C fI fE fdI fdE) (T : Glob mg) : FnOk P w K mg base CX0 2 f fd ["library", "thing"] (spPPlace C) := by
  refine F.ok scPPlace (fun vs H Q E h => ?_) (fun cdv A outer s H vs Q E hr h => ?_)
  · obtain ⟨s, ts, x, o, rfl, _⟩ := h
    rfl
  · obtain ⟨p, ts, x, o, rfl, ⟨⟨dx, a, h1, h2⟩, few, sg1, len1, _⟩, hT, q⟩ := h
    refine ⟨_, (pss_cons (ps_if (PW.pt (pw_or (pt_not (pt_val (pe_callB call_isi (by rfl) T.isinstance PyProof.Rows.boot_isinstance (pa_cons (pv 1) (pa_cons (pe_bltn (v := .ty "tuple") (by rfl) T.tuple (by decide +kernel) rfl) pa_nil))))) (pw_or1 (pt_cmpR op_ne (pe_callB call_len_seq (by rfl) T.len PySem.boot_len (pa_cons (pv 1) pa_nil)) pe_int (nomark _)))))
      (pss_one (ps_ret pe_bl))
      pss_nil)
      (pss_cons (ps_asg (pv 1) (pg_tup (by rfl) (pgs_cons (pg_name (i := 2) scPPlace.nd rfl (.inl rfl)) (pgs_cons (pg_name (i := 3) scPPlace.nd rfl (.inl rfl)) pgs_nil))))
      (pss_cons (ps_if (PW.pt (pw_or (pt_not (pt_val (pe_call DPNumber.ok (hr.mono (by decide)) (by rfl) DPNumber.g DPNumber.F.kp DPNumber.b .nil pass0 (pa_cons (pv 2) pa_nil)))) (pw_or1 (pt_not (pt_val (pe_call DPNumber.ok (hr.mono (by decide)) (by rfl) DPNumber.g DPNumber.F.kp DPNumber.b .nil pass0 (pa_cons (pv 3) pa_nil)))))))
      (pss_one (ps_ret pe_bl))
      pss_nil)
      (pss_one (ps_ret (pe_and (pe_cmpR op_lt (pv 2) (pe_callB call_len_seq (by rfl) T.len PySem.boot_len (pa_cons (pe_fld (pv 0) rfl) pa_nil)) (nomark _)) (pe_one (pe_cmpR op_lt (pv 3) (pe_callB call_lenZ (by rfl) T.len PySem.boot_len (pa_cons (pe_ix ix_tup (pe_fld (pv 0) rfl) (pv 2) (fun _ _ => rfl)) pa_nil)) (nomark _))))))))), ?_⟩
    cases hT with
    | @no _ k hk n s =>
      exact ⟨x, rfl, x, .ty "tuple", .type (Kn.name k), .type "tuple", false, rfl, .ty _, Kd.tyx hk, kit_no n, _, rfl, iteT q⟩
    | @tup b xs e n hy =>
      refine ⟨.ref b, rfl, .ref b, .ty "tuple", .type (Kn.name .tup), .type "tuple", kitB .tup .tup, rfl, .ty _, Kd.tyx (.tup e), kit_kn .tup .tup, _, rfl, iteF ?_⟩
      refine ⟨.ref b, rfl, b, xs, rfl, .inr (SqT.of e), rfl, _, rfl, ite2 (fun g => ?_) (fun g => ?_)⟩
      · have g' : ¬ xs.length = 2 := fun z => by
          rw [z] at g
          exact absurd g (by decide)
        have ez : placeV ts (some xs) = false := by
          match xs, g' with
          | [], _ => rfl
          | [x], _ => rfl
          | [x, y], g' => exact absurd rfl g'
          | x :: y :: z :: r, _ => rfl
        rw [ez] at q
        exact q
      have g' : xs.length = 2 := Classical.byContradiction fun z => g (by
        have : ¬ V.int (xs.length : Int) = V.int 2 := fun e => z (by
          have := V.int.inj e
          omega)
        rw [decide_eq_false this]
        rfl)
      obtain ⟨x, y, rfl⟩ : ∃ x y, xs = [x, y] := by
        match xs, g' with
        | [], g' => cases g'
        | [x], g' => cases g'
        | [x, y], _ => exact ⟨x, y, rfl⟩
        | x :: y :: z :: r, g' => simp at g'
      obtain ⟨⟨k1, hk1⟩, hv1⟩ := hy x (by simp)
      obtain ⟨⟨k2, hk2⟩, hv2⟩ := hy y (by simp)
      refine ⟨.ref b, rfl, b, [x, y], rfl, SqT.of e, rfl, x, [y], rfl, y, [], rfl, rfl, ?_⟩
      refine ⟨x, rfl, x, k1, rfl, hk1, _, rfl, ite2 (fun c => ?_) (fun c => ?_)⟩
      · have c' : numV x = false := by simpa using c
        have ez : placeV ts (some [x, y]) = false := by
          cases x with
          | int i =>
            have c2 : decide (0 ≤ i) = false := c'
            show (decide (0 ≤ i) && _ && _) = false
            rw [c2, Bool.false_and, Bool.false_and]
          | non => rfl
          | bl b => rfl
          | str b => rfl
          | byt b => rfl
          | flt b => rfl
          | ref b => rfl
          | ty b => rfl
        rw [ez] at q
        exact q
      have c' : numV x = true := by simpa using c
      refine ⟨y, rfl, y, k2, rfl, hk2, _, rfl, ite2 (fun d => ?_) (fun d => ?_)⟩
      · have d' : numV y = false := by simpa using d
        have ez : placeV ts (some [x, y]) = false := by
          have e2 : ∀ m : Int, inV2 0 m y = false := fun m => by
            cases y with
            | int j =>
              have c2 : decide (0 ≤ j) = false := d'
              show (decide (0 ≤ j) && _) = false
              rw [c2, Bool.false_and]
            | non => rfl
            | bl b => rfl
            | str b => rfl
            | byt b => rfl
            | flt b => rfl
            | ref b => rfl
            | ty b => rfl
          cases x with
          | int i =>
            show (inV2 0 ((ts.length : Int) - 1) (.int i) && inV2 0 (((ts.getD i.toNat Str.empty).length : Int) - 1) y) = false
            rw [e2, Bool.and_false]
          | non => cases c'
          | bl b => cases c'
          | str b => cases c'
          | byt b => cases c'
          | flt b => cases c'
          | ref b => cases c'
          | ty b => cases c'
        rw [ez] at q
        exact q
      have d' : numV y = true := by simpa using d
      obtain ⟨i, rfl, hi⟩ : ∃ i, x = .int i ∧ 0 ≤ i := by
        cases x with
        | int i => exact ⟨i, rfl, of_decide_eq_true c'⟩
        | non => cases c'
        | bl b => cases c'
        | str b => cases c'
        | byt b => cases c'
        | flt b => cases c'
        | ref b => cases c'
        | ty b => cases c'
      obtain ⟨j, rfl, hj⟩ : ∃ j, y = .int j ∧ 0 ≤ j := by
        cases y with
        | int i => exact ⟨i, rfl, of_decide_eq_true d'⟩
        | non => cases d'
        | bl b => cases d'
        | str b => cases d'
        | byt b => cases d'
        | flt b => cases d'
        | ref b => cases d'
        | ty b => cases d'
      have ez : placeV ts (some [.int i, .int j]) = (decide (i < (ts.length : Int)) && decide (j < ((ts.getD i.toNat Str.empty).length : Int))) := by
        show ((decide (0 ≤ i) && decide (i ≤ (ts.length : Int) - 1)) && (decide (0 ≤ j) && decide (j ≤ ((ts.getD i.toNat Str.empty).length : Int) - 1))) = _
        rw [decide_eq_true hi, decide_eq_true hj, Bool.true_and, Bool.true_and]
        congr 1
        · exact decide_eq_decide.mpr (by omega)
        · exact decide_eq_decide.mpr (by omega)
      rw [ez] at q
      refine ⟨.int i, rfl, .ref p, rfl, p, C, dx, _, .ref a, rfl, h1, L.cl, L.nt, lk1, a, _, rfl, .inr (SqT.of h2), _, _, rfl, rfl, _, rfl, ?_⟩
      rw [List.length_map]
      refine ite2 (fun c => ?_) (fun c => ?_)
      · have hi2 : i < (ts.length : Int) := of_decide_eq_true c
        obtain ⟨et, hm⟩ := text_at hi hi2
        rw [c, Bool.true_and] at q
        exact ⟨.int j, rfl, .ref p, rfl, p, C, dx, _, .ref a, rfl, h1, L.cl, L.nt, lk1, .int i, rfl, a, _, i, _, rfl, rfl, SqT.of h2, et, _, rfl, len5 (len1 _ hm), _, _, rfl, rfl, q⟩
      · have c2 : decide (i < (ts.length : Int)) = false := by simpa using c
        rw [c2, Bool.false_and] at q
        exact q
end
end LawK
set_option maxHeartbeats 4000000
namespace LawK
open PySem PySem.Spec PyProof.Rows L2 Ev
section
variable {P : Program} {w : World} {K : PySem.W.Frag} {mg : Str → Option Value} {base : Heap}
variable {PE C fI fE cB : Addr} {fdI fdE : FuncData}
theorem ok_LInit (L : LibC K mg C fI fE fdI fdE) (B : Cls1 K mg PE "BadLibrary" "part" cB) {t8 t2000 : Tok} (g8 : mg "MOST_TEXTS" = some (.int 8 t8)) (g2000 : mg "MOST_SIGNS" = some (.int 2000 t2000))
    {fPSigns : Addr} {fdPSigns : FuncData} (DPSigns : Dk P w K mg base "is_signs" sPSigns ["thing"] 1 spSg fPSigns fdPSigns) (T : Glob mg) : FnOk P w K mg base (L2.CX P w) 4 fI fdI ["self", "texts"] (spLInit C cB) := by
  refine L.FI.okX scLInit (fun vs H Q E h => ?_) (fun cdv A outer s H vs Q E hr h => ?_)
  · obtain ⟨s, dx, x, o, rfl, _⟩ := h
    rfl
  · obtain ⟨p, dx, x, o, rfl, hp, hT, qok, qbad⟩ := h
    refine ⟨_, (pss_cons (ps_if (PW.pt (pw_or (pt_not (pt_val (pe_callB call_isi (by rfl) T.isinstance PyProof.Rows.boot_isinstance (pa_cons (pv 1) (pa_cons (pe_bltn (v := .ty "tuple") (by rfl) T.tuple (by decide +kernel) rfl) pa_nil))))) (pw_or1 (pt_cmpR op_gt (pe_callB call_len_seq (by rfl) T.len PySem.boot_len (pa_cons (pv 1) pa_nil)) (pe_glob (v := .int 8) (by rfl) g8 ⟨_, rfl⟩) (nomark _))))) (pss_one (ps_raise rfl (takes_of rfl rfl rfl rfl) (pmk_c1 B hr (pa_cons (pe_un un_neg pe_int) pa_nil) (hm := fun h ⟨i, e, q⟩ => ⟨i, e, h _ _ q⟩)))) pss_nil)
      (pss_cons (ps_for (passes_of rfl) rfl (pi_enumT (by rfl) T.enumerate (pa_cons (pv 1) pa_nil)) (pg_tup (by rfl) (pgs_cons (pg_name (i := 2) scLInit.nd rfl (.inl rfl)) (pgs_cons (pg_name (i := 3) scLInit.nd rfl (.inl rfl)) pgs_nil)))
        (pss_one (ps_if (pt_not (pt_val (pe_call DPSigns.ok (hr.mono (by decide)) (by rfl) DPSigns.g DPSigns.F.kp DPSigns.b .nil pass0 (pa_cons (pv 3) pa_nil)))) (pss_one (ps_raise rfl (takes_of rfl rfl rfl rfl) (pmk_c1 B hr (pa_cons (pv 2) pa_nil) (hm := tCons1 (j := 0))))) pss_nil)))
      (pss_cons (ps_if (pt_cmpR op_gt (pe_callB (cr_sum rfl) (by rfl) T.sum (by decide +kernel) (pa_cons (pe_lc (own := [("text", 3)]) (g := gName 3) (by rfl) scLInit.nd (pi_tup (pv 1)) (blkOk_by (N := ["self", "texts", "part", "text"]) (sc := defScope sLInit) (by decide +kernel)) (fun _ _ _ _ _ => pg_name (i := 3) scLInit.nd rfl (.inl rfl)) (fun _ _ _ _ _ => pts_nil) (fun _ _ _ _ _ => (pe_callB call_lenZ (by rfl) T.len PySem.boot_len (pa_cons (pv 3) pa_nil)))) pa_nil)) (pe_glob (v := .int 2000) (by rfl) g2000 ⟨_, rfl⟩) (nomark _)) (pss_one (ps_raise rfl (takes_of rfl rfl rfl rfl) (pmk_c1 B hr (pa_cons pe_str pa_nil) (hm := fun h q => h _ _ q)))) pss_nil)
      (pss_one (ps_fld (pv 0) (pv 1) rfl))))), ?_⟩
    cases hT with
    | @no _ k hk n s =>
      exact ⟨x, rfl, x, .ty "tuple", .type (Kn.name k), .type "tuple", false, rfl, .ty _, Kd.tyx hk, kit_no n, _, rfl, iteT ⟨_, rfl, _, rfl, fun d nd => qbad (by intro z; cases z) d H (Same.refl H) nd⟩⟩
    | @tup a xs e n hy =>
      refine ⟨.ref a, rfl, .ref a, .ty "tuple", .type (Kn.name .tup), .type "tuple", kitB .tup .tup, rfl, .ty _, Kd.tyx (.tup e), kit_kn .tup .tup, _, rfl, iteF ?_⟩
      refine ⟨.ref a, rfl, a, xs, rfl, .inr (SqT.of e), _, _, rfl, rfl, _, rfl, ite2 (fun g => ?_) (fun g => ?_)⟩
      · have g' : (8 : Int) < (xs.length : Int) := of_decide_eq_true g
        have e1 := bad1 (xs := xs) (by omega)
        rw [e1] at qbad
        exact ⟨_, rfl, _, rfl, fun d nd => qbad (by intro z; cases z) d H (Same.refl H) nd⟩
      have g' : ¬ xs.length > 8 := fun z => g (decide_eq_true (show (8 : Int) < (xs.length : Int) by omega))
      refine ⟨.ref a, rfl, a, xs, rfl, SqT.of e, for_enT (fun i σ H' => (∃ y z, σ = [some (.ref p), some (.ref a), y, z]) ∧ Same H H' ∧ ∀ (j : Nat) c, j < i → xs[j]? = some c → sgV c = true) ⟨⟨_, _, rfl⟩, Same.refl H, fun j c hj => absurd hj (by omega)⟩ (fun i σ H' q => SqT.of (q.2.1 _ _ e)) ?_ ?_⟩
      · rintro i c σ H' hxi ⟨⟨y, z, rfl⟩, kH, hg⟩ t nt
        obtain ⟨⟨k, hk⟩, hv⟩ := hy c (List.mem_of_getElem? hxi)
        have k2 := kH.trans (Same.new (o := .tup [.int (i : Nat), c]) nt)
        refine ⟨t, [.int (i : Nat), c], rfl, SqT.of upd_same, rfl, .int (i : Nat), [c], rfl, c, [], rfl, rfl, ?_⟩
        refine ⟨c, rfl, c, k, rfl, hk.same k2, hv, _, rfl, ite2 (fun b => ?_) (fun b => ?_)⟩
        · have b' : sgV c = false := by simpa using b
          have e2 := bad2 g' hxi b' hg
          rw [e2] at qbad
          exact ⟨_, rfl, _, rfl, fun d nd => qbad (by intro z; cases z) d _ k2 nd⟩
        · have b' : sgV c = true := by simpa using b
          refine ⟨⟨_, _, rfl⟩, k2, fun j d hj hd => ?_⟩
          by_cases ej : j = i
          · rw [ej, hxi] at hd
            cases hd
            exact b'
          · exact hg j d (by omega) hd
      · rintro σ H' ⟨⟨y, z, rfl⟩, kH, hg⟩
        have hall : ∀ c ∈ xs, sgV c = true := fun c hc => by
          obtain ⟨j, hj, ej⟩ := List.mem_iff_getElem.mp hc
          exact hg j c hj (by rw [List.getElem?_eq_getElem hj, ej])
        obtain ⟨ts, rfl, hts⟩ := bad_strs hall
        refine ⟨.ref a, rfl, a, rfl, ⟨_, SqT.of (kH _ _ e)⟩, fun D nD => lc_lens (i := 3) (show 3 < 4 by decide) (kH _ _ e) nD (fun t ht => (hy (.str t) (List.mem_map.mpr ⟨t, ht, rfl⟩)).2 t rfl) (by rw [List.length_map] at n; omega) fun H2 hD hs => ?_⟩
        refine ⟨D, _, rfl, sq_of hD, _, _, rfl, rfl, _, rfl, ite2 (fun b => ?_) (fun b => ?_)⟩
        · have b' := of_decide_eq_true b
          rw [lens_sum] at b'
          have e3 := bad3 g' hall (by omega)
          rw [e3] at qbad
          exact ⟨_, rfl, fun d nd => qbad (by intro z; cases z) d H2 (kH.trans hs) nd⟩
        · have b' : ¬ (2000 : Int) < (ts.map fun t => (t.length : Int)).sum := fun z => b (decide_eq_true z)
          rw [lens_sum] at b'
          have e4 := bad4 g' hall (by omega)
          have k2 := kH.trans hs
          refine ⟨.ref a, rfl, .ref p, rfl, p, C, dx, [], rfl, k2 _ _ hp, L.cl, L.nt, by decide, ?_⟩
          refine qok e4 _ upd_same fun b u nb hb => ?_
          rw [upd_ne nb]
          exact k2 _ _ hb
abbrev sPTurned : Stmt := topS 14
theorem scPTurned : FnScope ["library", "text"] ["library"] (defScope sPTurned) := ⟨rfl, rfl, rfl, by decide +kernel, rfl, by decide +kernel, by decide +kernel⟩
def spTurned (C : Addr) : Sp := fun vs H Q _ => ∃ (s : Addr) (ts : List Str), vs = [.ref s] ∧ LibAt H C s ts ∧ ∀ r H', Same H H' → LibAt H' C r (ts.map revZ) → Q (.ref r) H'
theorem bad_of_strs {ts : List Str} (few : ts.length ≤ 8) (sg : ∀ t ∈ ts, sgB t = true) (sum : ((ts.map V.str).map slen).sum ≤ 2000) : badOf (some (ts.map V.str)) = .non :=
  bad4 (by rw [List.length_map]; omega) (fun c hc => by
    obtain ⟨t, ht, rfl⟩ := List.mem_map.mp hc
    exact sg t ht) (by omega)
theorem rev_sum (ts : List Str) : (((ts.map revZ).map V.str).map slen).sum = ((ts.map V.str).map slen).sum := by
  induction ts with
  | nil => rfl
  | cons t ts ih =>
    simp only [List.map_cons, List.sum_cons]
    rw [ih]
    show (revZ t).length + _ = t.length + _
    rw [revZ_len]
theorem ok_PTurned {f : Addr} {fd : FuncData} (F : Fun K "turned_about" "turned_about" sPTurned f fd) (L : LibC K mg C fI fE fdI fdE) (GI : FnOk P w K mg base (L2.CX P w) 4 fI fdI ["self", "texts"] (spLInit C cB)) (T : Glob mg) : FnOk P w K mg base CX0 6 f fd ["library"] (spTurned C) := by
  refine F.ok scPTurned (fun vs H Q E h => ?_) (fun cdv A outer s H vs Q E hr h => ?_)
  · obtain ⟨s, ts, rfl, _⟩ := h
    rfl
  · obtain ⟨p, ts, rfl, ⟨⟨dx, a, h1, h2⟩, few, sg1, len1, sum1⟩, q⟩ := h
    refine ⟨_, (pss_one (ps_ret (pe_mkS (E := fun _ => E0) L.mak GI hr (by rfl) L.g L.bI (fun σ => passL_at σ) (pa_cons (pe_callTy call_tuple_of (by rfl) T.tuple (by decide +kernel) (pa_cons (pe_lc (own := [("text", 1)]) (g := gName 1) (by rfl) scPTurned.nd (pi_tup (pe_fld (pv 0) rfl)) (blkOk_by (N := ["library", "text"]) (sc := defScope sPTurned) (by decide +kernel)) (fun _ _ _ _ _ => pg_name (i := 1) scPTurned.nd rfl (.inl rfl)) (fun _ _ _ _ _ => pts_nil) (fun _ _ _ _ _ => (pe_revS (pv 1)))) pa_nil)) pa_nil)))), ?_⟩
    refine ⟨.ref p, rfl, p, C, dx, _, .ref a, rfl, h1, L.cl, L.nt, lk1, a, rfl, ⟨_, SqT.of h2⟩, fun D nD => lc_tup (K := K) (xs := ts.map V.str) (fun i H' => H' D = some (.lst ((ts.take i).map fun t => V.str (revZ t))) ∧ Same H H') ⟨upd_same, Same.new nD⟩ (fun i H' _ q => SqT.of (q.2 _ _ h2)) ?_ ?_⟩
    · rintro i x H' hx ⟨hD, k⟩
      rw [List.getElem?_map] at hx
      cases e : ts[i]? with
      | none => rw [e] at hx; cases hx
      | some t =>
        rw [e] at hx
        obtain rfl : V.str t = x := Option.some.inj hx
        have hm := List.mem_of_getElem? e
        refine ⟨rfl, .str t, rfl, t, rfl, len5 (len1 t hm), _, hD, ?_, ?_, sameAt k nD⟩
        · have h3 : sizeLine = 16777216 := sizeLine_eq
          rw [List.length_map, List.length_take]
          omega
        · rw [upd_same]
          have et : ts.take (i + 1) = ts.take i ++ [t] := by
            rw [List.take_add_one, e]
            rfl
          rw [et, List.map_append]
          rfl
    · rintro H1 ⟨hD, k⟩
      rw [List.length_map, List.take_length] at hD
      have eD : (ts.map fun t => V.str (revZ t)) = (ts.map revZ).map V.str := by rw [List.map_map]; rfl
      rw [eD] at hD
      have sgr : ∀ t ∈ ts.map revZ, sgB t = true := fun t ht => by
        obtain ⟨u, hu, rfl⟩ := List.mem_map.mp ht
        exact sgB_rev (sg1 u hu)
      have lenr : ∀ t ∈ ts.map revZ, t.length ≤ 5000 := fun t ht => by
        obtain ⟨u, hu, rfl⟩ := List.mem_map.mp ht
        rw [revZ_len]
        exact len1 u hu
      have fewr : (ts.map revZ).length ≤ 8 := by rw [List.length_map]; exact few
      have sumr : (((ts.map revZ).map V.str).map slen).sum ≤ 2000 := by rw [rev_sum]; exact sum1
      have bn := bad_of_strs fewr sgr sumr
      refine ⟨D, _, rfl, .inl ⟨sq_of hD, fun b nb x dx' nx ndx nxd => ?_⟩⟩
      have kb := Same.new (o := .tup ((ts.map revZ).map V.str)) nb
      have kd := kb.trans (Same.new (o := .own x) ndx)
      have nx' : upd (upd H1 b (.tup ((ts.map revZ).map V.str))) dx' (.own x) x = none := by
        rw [upd_ne (Ne.symm nxd)]
        exact nx
      have kx := kd.trans (Same.new (o := .ins C dx' []) nx')
      have hb : upd (upd (upd H1 b (.tup ((ts.map revZ).map V.str))) dx' (.own x)) x (.ins C dx' []) b = some (.tup ((ts.map revZ).map V.str)) :=
        ((Same.new (o := .own x) ndx).trans (Same.new (o := .ins C dx' []) nx')) _ _ upd_same
      refine ⟨x, dx', .ref b, some ((ts.map revZ).map V.str), rfl, upd_same, .tup hb (by rw [List.length_map, List.length_map]; omega) (fun y hy => ?_), fun _ H' hx' ho => ⟨rfl, ?_⟩, fun z => absurd bn z⟩
      · obtain ⟨t, ht, rfl⟩ := List.mem_map.mp hy
        exact lit_ok (lenr t ht)
      · have nbx : b ≠ x := ne_of_none (Same.new (o := .own x) ndx _ _ upd_same) nx'
        have kk : Same H H' := fun c u hc => ho c u (ne_of_none (kd _ _ (k _ _ hc)) nx') (kx _ _ (k _ _ hc))
        exact q x H' kk ⟨⟨dx', b, hx', ho b _ nbx hb⟩, fewr, sgr, lenr, sumr⟩
end
end LawK
set_option maxHeartbeats 4000000
namespace LawK
open PySem PySem.Spec PyProof.Rows L2 Ev
abbrev sPStands : Stmt := topS 16
theorem scPStands : FnScope ["library", "word", "place", "text", "at"] ["library", "word", "place"] (defScope sPStands) := ⟨rfl, rfl, rfl, by decide +kernel, rfl, by decide +kernel, by decide +kernel⟩
abbrev sMade : Stmt := topS 36
theorem scMade : FnScope ["thing", "library", "error"] ["thing"] (defScope sMade) := ⟨rfl, rfl, rfl, by decide +kernel, rfl, by decide +kernel, by decide +kernel⟩
abbrev sStood : Stmt := topS 37
theorem scStood : FnScope ["library", "word", "place"] ["library", "word", "place"] (defScope sStood) := ⟨rfl, rfl, rfl, by decide +kernel, rfl, by decide +kernel, by decide +kernel⟩
def standsV (ts : List Str) : V → Option (List V) → Bool
  | .str z, some [.int i, .int j] => decide (V.str (cutS (ts.getD i.toNat Str.empty) (some j) (some (j + (z.length : Int)))) = V.str z)
  | _, _ => false
def spStands (C cW cP : Addr) : Sp := fun vs H Q E => ∃ (s : Addr) (ts : List Str) (y x : V) (k : Kn) (o : Option (List V)), vs = [.ref s, y, x] ∧ LibAt H C s ts ∧ Kd H y k ∧ Vs y ∧ Tg H x o ∧
  (wordV y = false → E (.ref cW) none H) ∧ (wordV y = true → placeV ts o = false → E (.ref cP) none H) ∧ (wordV y = true → placeV ts o = true → Q (.bl (standsV ts y o)) H)
theorem word_str {y : V} (h : wordV y = true) : ∃ z, y = .str z := by
  cases y with
  | str z => exact ⟨z, rfl⟩
  | non => cases h
  | bl b => cases h
  | int i => cases h
  | byt b => cases h
  | flt b => cases h
  | ref a => cases h
  | ty n => cases h
def madeV (o : Option (List V)) (x : V) : List V := if badOf o = .non then [.str "told", x] else [.str "BadLibrary", badOf o]
def spMade : Sp := fun vs H Q _ => ∃ (x : V) (o : Option (List V)), vs = [x] ∧ Tg H x o ∧ ∀ r H', Same H H' → H' r = some (.tup (madeV o x)) → Q (.ref r) H'
def stoodV (ts : List Str) (y : V) (o : Option (List V)) : List V := if wordV y = true then (if placeV ts o = true then [.str "told", .bl (standsV ts y o)] else [.str "NoPlace"]) else [.str "NoWord"]
def spStood (C : Addr) : Sp := fun vs H Q _ => ∃ (s : Addr) (ts : List Str) (y x : V) (k : Kn) (o : Option (List V)), vs = [.ref s, y, x] ∧ LibAt H C s ts ∧ Kd H y k ∧ Vs y ∧ Tg H x o ∧ ∀ r H', Same H H' → H' r = some (.tup (stoodV ts y o)) → Q (.ref r) H'
section
variable {P : Program} {w : World} {K : PySem.W.Frag} {mg : Str → Option Value} {base : Heap}
variable {PE C fI fE cB cW cP : Addr} {fdI fdE : FuncData}
theorem ok_PStands {f : Addr} {fd : FuncData} (F : Fun K "stands" "stands" sPStands f fd) (L : LibC K mg C fI fE fdI fdE) (EW : Cls0 P K mg PE "NoWord" cW) (EP : Cls0 P K mg PE "NoPlace" cP)
    {fPWord : Addr} {fdPWord : FuncData} (DPWord : Dk P w K mg base "is_word" sPWord ["thing"] 2 spWd fPWord fdPWord) {fPPlace : Addr} {fdPPlace : FuncData} (DPPlace : Dk P w K mg base "is_place" sPPlace ["library", "thing"] 2 (spPPlace C) fPPlace fdPPlace) (T : Glob mg) :
    FnOk P w K mg base (L2.CX P w) 3 f fd ["library", "word", "place"] (spStands C cW cP) := by
  obtain ⟨fW, SW⟩ := EW.sup
  obtain ⟨fP, SP⟩ := EP.sup
  refine F.okX scPStands (fun vs H Q E h => ?_) (fun cdv A outer s H vs Q E hr h => ?_)
  · obtain ⟨s, ts, y, x, k, o, rfl, _⟩ := h
    rfl
  · obtain ⟨p, ts, y, x, k, o, rfl, hl, hk, hv, hT, q1, q2, q3⟩ := h
    have hl0 := hl
    obtain ⟨⟨dx, a, h1, h2⟩, few, sg1, len1, sum1⟩ := hl
    refine ⟨_, (pss_cons (ps_if (pt_not (pt_val (pe_call DPWord.ok (hr.mono (by decide)) (by rfl) DPWord.g DPWord.F.kp DPWord.b .nil pass0 (pa_cons (pv 1) pa_nil)))) (pss_one (ps_raise rfl (takes_of rfl rfl rfl rfl) (pmk_exc0 SW hr (by rfl) EW.g))) pss_nil)
      (pss_cons (ps_if (pt_not (pt_val (pe_call DPPlace.ok (hr.mono (by decide)) (by rfl) DPPlace.g DPPlace.F.kp DPPlace.b .nil pass0 (pa_cons (pv 0) (pa_cons (pv 2) pa_nil))))) (pss_one (ps_raise rfl (takes_of rfl rfl rfl rfl) (pmk_exc0 SP hr (by rfl) EP.g))) pss_nil)
      (pss_cons (ps_asg (pv 2) (pg_tup (by rfl) (pgs_cons (pg_name (i := 3) scPStands.nd rfl (.inl rfl)) (pgs_cons (pg_name (i := 4) scPStands.nd rfl (.inl rfl)) pgs_nil))))
      (pss_one (ps_ret (pe_cmpR op_eq (pe_slice sl_str (pe_ix ix_tup (pe_fld (pv 0) rfl) (pv 3) (fun _ _ => rfl)) (po_some (pv 4)) (po_some (pe_op op_add (pv 4) (pe_callB call_lenZ (by rfl) T.len PySem.boot_len (pa_cons (pv 1) pa_nil))))) (pv 1) (nomark _))))))), ?_⟩
    refine ⟨y, rfl, y, k, rfl, hk, hv, _, rfl, ite2 (fun c => ?_) (fun c => ?_)⟩
    · exact q1 (by simpa using c)
    have c' : wordV y = true := by simpa using c
    refine ⟨.ref p, rfl, x, rfl, p, ts, x, o, rfl, hl0, hT, _, rfl, ite2 (fun d => ?_) (fun d => ?_)⟩
    · exact q2 c' (by simpa using d)
    have d' : placeV ts o = true := by simpa using d
    have q := q3 c' d'
    obtain ⟨i, j, rfl, i0, i1, j0, j1⟩ := place_true d'
    obtain ⟨z, rfl⟩ := word_str c'
    obtain ⟨et, hm⟩ := text_at i0 i1
    have hlen := len1 _ hm
    cases hT with
    | @tup b _ e n hy =>
      refine ⟨.ref b, rfl, b, _, rfl, SqT.of e, rfl, .int i, [.int j], rfl, .int j, [], rfl, rfl, ?_⟩
      exact ⟨.ref p, rfl, p, C, dx, _, .ref a, rfl, h1, L.cl, L.nt, lk1, .int i, rfl, a, _, i, _, rfl, rfl, SqT.of h2, et, .int j, rfl, j, rfl, .int j, rfl, .str z, rfl, z, rfl, len5 (hv z rfl), _, _, rfl, rfl, j + (z.length : Int), rfl, _, rfl, len5 hlen, .str z, rfl, rfl, q⟩
theorem ok_Made {f : Addr} {fd : FuncData} (F : Fun K "_law_made" "_law_made" sMade f fd) (L : LibC K mg C fI fE fdI fdE) (B : Cls1 K mg PE "BadLibrary" "part" cB) (GI : FnOk P w K mg base (L2.CX P w) 4 fI fdI ["self", "texts"] (spLInit C cB)) (T : Glob mg) :
    FnOk P w K mg base CX0 6 f fd ["thing"] spMade := by
  refine F.ok scMade (fun vs H Q E h => ?_) (fun cdv A outer s H vs Q E hr h => ?_)
  · obtain ⟨x, o, rfl, _⟩ := h
    rfl
  · obtain ⟨x, o, rfl, hT, q⟩ := h
    refine ⟨_, pss_one (ps_try_as (i := 2) (tb := fun W => tSeq (tAsg (tMkS C (spLInit C cB) (fun σ => WE W σ) (tCons (tVar 0) tNil)) (gName 1)) (tRet (tTup (tCons (tC (.str "told")) (tCons (tFld K (tVar 1) "texts") tNil))))) (Wout := fun _ _ _ _ => False) rfl rfl scMade.nd rfl rfl ⟨rfl, by decide, .inl B.g⟩ takes0
        (fun W pn xe tk _ => pss_cons (ps_set (i := 1) scMade.nd rfl (.inl rfl) (pe_mkS (E := fun σ => WE W σ) L.mak GI hr (by rfl) L.g L.bI (fun σ => passAt tk σ) (pa_cons (pv 0) pa_nil)))
          (by exact pss_one (ps_ret (pe_tup (pa_cons pe_str (pa_cons (pe_fld (pv 1) rfl) pa_nil))))))
        (fun a oe cls d pn hz hf => pss_one (ps_ret (pe_tup (pa_cons pe_str (pa_cons (pe_xf B.er.xf B.hno hz hf (pv 2)) pa_nil)))))), ?_⟩
    refine ⟨x, rfl, fun a dx na ndx nda => ?_⟩
    have ka := Same.new (o := .own a) ndx
    have na' : upd H dx (.own a) a = none := by
      rw [upd_ne (Ne.symm nda)]
      exact na
    have kb := ka.trans (Same.new (o := .ins C dx []) na')
    refine ⟨a, dx, x, o, rfl, upd_same, hT.same kb, fun bn H' ha' ho => ⟨rfl, ?_⟩, fun bn d H' k' nd => ?_⟩
    · refine ⟨.ref a, rfl, a, C, dx, _, x, rfl, ha', L.cl, L.nt, lk1, by show 2 ≤ sizeLine; decide, fun r nr => ?_⟩
      have kk : Same H H' := fun c u hc => ho c u (ne_of_none (ka _ _ hc) na') (kb _ _ hc)
      refine q r _ (kk.trans (Same.new nr)) ?_
      rw [upd_same]
      unfold madeV
      rw [if_pos bn]
      all_goals rfl
    · refine ⟨true, (exm_at B.er B.er B.ne).trans (congrArg some (decide_eq_true rfl)), (fun _ a1 na1 => ?_), fun z => Bool.noConfusion z⟩
      refine ⟨.ref a1, rfl, rfl, rfl, d, _, badOf o, rfl, upd_same, (by simp [List.lookup]), by show 2 ≤ sizeLine; decide, fun r nr => ?_⟩
      refine q r _ (((kb.trans k').trans (Same.new nd)).trans (Same.new nr)) ?_
      rw [upd_same]
      unfold madeV
      rw [if_neg bn]
      all_goals rfl
theorem ok_Stood {f fS : Addr} {fd fdS : FuncData} (F : Fun K "_law_stood" "_law_stood" sStood f fd) (L : LibC K mg C fI fE fdI fdE) (EW : Cls0 P K mg PE "NoWord" cW) (EP : Cls0 P K mg PE "NoPlace" cP) (ne : cW ≠ cP)
    (FS : Fun K "stands" "stands" sPStands fS fdS) (bS : Binds K fdS ["library", "word", "place"] []) (gS : mg "stands" = some (.ref fS)) (GS : FnOk P w K mg base (L2.CX P w) 3 fS fdS ["library", "word", "place"] (spStands C cW cP)) (T : Glob mg) :
    FnOk P w K mg base CX0 4 f fd ["library", "word", "place"] (spStood C) := by
  refine F.ok scStood (fun vs H Q E h => ?_) (fun cdv A outer s H vs Q E hr h => ?_)
  · obtain ⟨s, ts, y, x, k, o, rfl, _⟩ := h
    rfl
  · obtain ⟨p, ts, y, x, k, o, rfl, hl, hk, hv, hT, q⟩ := h
    refine ⟨_, pss_one (ps_try_many (Wout := fun _ _ _ _ => False) rfl rfl takes0
        (fun W pn xe tk _ => pss_one (ps_ret (pe_tup (pa_cons pe_str (pa_cons (pe_callS (E := fun σ => WE W σ) GS hr rfl gS FS.kp bS (fun σ => passAt tk σ) (pa_cons (pv 0) (pa_cons (pv 1) (pa_cons (pv 2) pa_nil)))) pa_nil)))))
        (HdsOk.cons ⟨rfl, by decide, .inl EW.g⟩ (fun a oe cls d pn hz hf => pss_one (ps_ret (pe_tup (pa_cons pe_str pa_nil)))) (HdsOk.cons ⟨rfl, by decide, .inl EP.g⟩ (fun a oe cls d pn hz hf => pss_one (ps_ret (pe_tup (pa_cons pe_str pa_nil)))) HdsOk.nil))), ?_⟩
    refine ⟨.ref p, rfl, y, rfl, x, rfl, p, ts, y, x, k, o, rfl, hl, hk, hv, hT, fun e1 => ?_, fun e1 e2 => ?_, fun e1 e2 => ?_⟩
    · refine ⟨true, (exm_at EW.er EW.er EW.ne).trans (congrArg some (decide_eq_true rfl)), (fun _ a na => ?_), fun z => Bool.noConfusion z⟩
      refine ⟨by show 1 ≤ sizeLine; decide, fun r nr => q r _ (Same.new nr) ?_⟩
      rw [upd_same]
      unfold stoodV
      rw [if_neg (by rw [e1]; decide)]
      all_goals rfl
    · refine ⟨false, (exm_at EW.er EP.er EW.ne).trans (congrArg some (decide_eq_false (Ne.symm ne))), (fun z => Bool.noConfusion z), fun _ => ⟨true, (exm_at EP.er EP.er EP.ne).trans (congrArg some (decide_eq_true rfl)), (fun _ a na => ?_), fun z => Bool.noConfusion z⟩⟩
      refine ⟨by show 1 ≤ sizeLine; decide, fun r nr => q r _ (Same.new nr) ?_⟩
      rw [upd_same]
      unfold stoodV
      rw [if_pos e1, if_neg (by rw [e2]; decide)]
      all_goals rfl
    · refine ⟨by show 2 ≤ sizeLine; decide, fun r nr => q r _ (Same.new nr) ?_⟩
      rw [upd_same]
      unfold stoodV
      rw [if_pos e1, if_pos e2]
      all_goals rfl
end
end LawK
set_option maxHeartbeats 4000000
namespace LawK
open PySem PySem.Spec PyProof.Rows L2 Ev
abbrev sLaw : Stmt := topS 40
theorem scLaw : FnScope ["script", "hand", "texts", "thing", "bad", "due", "library", "other", "back", "k", "place", "word", "text"] ["script"] (defScope sLaw) := ⟨rfl, rfl, rfl, by decide +kernel, rfl, by decide +kernel, by decide +kernel⟩
def rJn (K : PySem.W.Frag) : V → List V → Hp → VK → Prop := fun x xs H Q => ∃ a p, ∃ ys : List Str, x = .str a ∧ xs = [.ref p] ∧ (SqL K H p (ys.map V.str) ∨ SqT K H p (ys.map V.str)) ∧ (ys.map (·.length)).sum + ys.length * a.length ≤ 16777216 ∧ Q (.str (Txt.join a ys)) H
def R0 : Hp → V → V → Prop := fun _ _ _ => False
def R1 := SameX R0
def R2 := SameX R1
def R3 := SameX R2
theorem R0.mono : ∀ H H' x y, Same H H' → R0 H x y → R0 H' x y := fun _ _ _ _ _ h => h.elim
theorem R1.mono : ∀ H H' x y, Same H H' → R1 H x y → R1 H' x y := SameX.mono R0.mono
theorem R2.mono : ∀ H H' x y, Same H H' → R2 H x y → R2 H' x y := SameX.mono R1.mono
def spLaw (K : PySem.W.Frag) : Sp := fun vs H Q _ => ∃ (a : Addr) (ns : List Int), vs = [.ref a] ∧ SqL K H a (ns.map V.int) ∧ ∀ H', Q (.bl true) H'
theorem strs_at {ts : List Str} {i : Nat} {x y : V} (hx : (ts.map V.str)[i]? = some x) (hy : (ts.map V.str)[i]? = some y) : ∃ z, x = .str z ∧ y = .str z := by
  rw [hx] at hy
  cases hy
  rw [List.getElem?_map] at hx
  cases e : ts[i]? with
  | none => rw [e] at hx; cases hx
  | some t =>
    rw [e] at hx
    exact ⟨t, (Option.some.inj hx).symm, (Option.some.inj hx).symm⟩
theorem r2_strs {H : Hp} {a b : Addr} {ts : List Str} (ha : H a = some (.tup (ts.map V.str))) (hb : H b = some (.tup (ts.map V.str))) (n : ts.length ≤ 1000) : R2 H (.ref a) (.ref b) :=
  .tup ha hb rfl (by rw [List.length_map]; exact n) fun i x y hx hy => by
    obtain ⟨z, rfl, rfl⟩ := strs_at hx hy
    exact .str z
theorem r3_strs {H : Hp} {a b : Addr} {ts : List Str} (ha : H a = some (.tup (ts.map V.str))) (hb : H b = some (.tup (ts.map V.str))) (n : ts.length ≤ 1000) : R3 H (.ref a) (.ref b) :=
  .tup ha hb rfl (by rw [List.length_map]; exact n) fun i x y hx hy => by
    obtain ⟨z, rfl, rfl⟩ := strs_at hx hy
    exact .str z
theorem r3_two {H : Hp} {a b : Addr} {x1 x2 y1 y2 : V} (ha : H a = some (.tup [x1, x2])) (hb : H b = some (.tup [y1, y2])) (h1 : R2 H x1 y1) (h2 : R2 H x2 y2) : R3 H (.ref a) (.ref b) :=
  .tup ha hb rfl (by show 2 ≤ 1000; decide) fun i x y hx hy => by
    match i with
    | 0 =>
      cases hx
      cases hy
      exact h1
    | 1 =>
      cases hx
      cases hy
      exact h2
    | n + 2 => cases hx
theorem r3_one {H : Hp} {a b : Addr} {x1 y1 : V} (ha : H a = some (.tup [x1])) (hb : H b = some (.tup [y1])) (h1 : R2 H x1 y1) : R3 H (.ref a) (.ref b) :=
  .tup ha hb rfl (by show 1 ≤ 1000; decide) fun i x y hx hy => by
    match i with
    | 0 =>
      cases hx
      cases hy
      exact h1
    | n + 1 => cases hx
theorem tg_some {H : Hp} {v : V} {xs : List V} (h : Tg H v (some xs)) : ∃ c, v = .ref c ∧ H c = some (.tup xs) ∧ ∀ y ∈ xs, (∃ k, Kd H y k) ∧ Vs y := by
  cases h with
  | tup e n h => exact ⟨_, rfl, e, h⟩
theorem bad_r2 {H : Hp} (o : Option (List V)) : R2 H (badOf o) (badOf o) := by
  cases o with
  | none => exact .int _
  | some xs =>
    by_cases h1 : xs.length > 8
    · rw [bad1 h1]
      exact .int _
    · show R2 H (if xs.length > 8 then V.int (-1) else match xs.findIdx? (fun y => !sgV y) with
        | some k => V.int (k : Int)
        | none => if (xs.map slen).sum > 2000 then V.str (Str.ofString "long") else V.non) (if xs.length > 8 then V.int (-1) else match xs.findIdx? (fun y => !sgV y) with
        | some k => V.int (k : Int)
        | none => if (xs.map slen).sum > 2000 then V.str (Str.ofString "long") else V.non)
      rw [if_neg h1]
      cases xs.findIdx? (fun y => !sgV y) with
      | some k => exact .int _
      | none =>
        by_cases h2 : (xs.map slen).sum > 2000
        · show R2 H (if (xs.map slen).sum > 2000 then V.str (Str.ofString "long") else V.non) (if (xs.map slen).sum > 2000 then V.str (Str.ofString "long") else V.non)
          rw [if_pos h2]
          exact .str _
        · show R2 H (if (xs.map slen).sum > 2000 then V.str (Str.ofString "long") else V.non) (if (xs.map slen).sum > 2000 then V.str (Str.ofString "long") else V.non)
          rw [if_neg h2]
          exact .non
theorem mk_lib {H : Hp} {C cB x dx a : Addr} {ts : List Str} {R : Hp → Prop} {E : XK} (ha : H a = some (.tup (ts.map V.str))) (few : ts.length ≤ 8) (sg : ∀ t ∈ ts, sgB t = true) (len : ∀ t ∈ ts, t.length ≤ 5000) (sum : ((ts.map V.str).map slen).sum ≤ 2000) (nx : H x = none) (ndx : H dx = none) (nxd : dx ≠ x)
    (q : ∀ H', Same H H' → LibAt H' C x ts → R H') : spLInit C cB [.ref x, .ref a] (upd (upd H dx (.own x)) x (.ins C dx [])) (fun v H2 => v = .non ∧ R H2) E := by
  have kd := Same.new (o := .own x) ndx
  have nx' : upd H dx (.own x) x = none := by
    rw [upd_ne (Ne.symm nxd)]
    exact nx
  have kx := kd.trans (Same.new (o := .ins C dx []) nx')
  refine ⟨x, dx, .ref a, some (ts.map V.str), rfl, upd_same, .tup (kx _ _ ha) (by rw [List.length_map]; omega) (fun y hy => ?_), fun _ H' hx' ho => ⟨rfl, ?_⟩, fun z => absurd (bad_of_strs few sg sum) z⟩
  · obtain ⟨t, ht, rfl⟩ := List.mem_map.mp hy
    exact lit_ok (len t ht)
  · have kk : Same H H' := fun c u hc => ho c u (ne_of_none (kd _ _ hc) nx') (kx _ _ hc)
    exact q H' kk ⟨⟨dx, a, hx', kk _ _ ha⟩, few, sg, len, sum⟩
theorem LibAt.but {H H' : Hp} {C s p l : Addr} {ts : List Str} (h : LibAt H C s ts) (hp : HandL H p l) (b : But p H H') : LibAt H' C s ts := by
  obtain ⟨⟨dx, a, h1, h2⟩, h3, h4, h5, h6⟩ := h
  exact ⟨⟨dx, a, b _ _ (hand_ne hp h1 fun _ _ _ _ _ z => by cases z) h1, b _ _ (tup_ne hp h2) h2⟩, h3, h4, h5, h6⟩
theorem ts_sum {ts : List Str} (h : Ts ts) : ((ts.map V.str).map slen).sum ≤ 2000 := by
  have g : ∀ us : List Str, (∀ t ∈ us, t.length ≤ 100) → ((us.map V.str).map slen).sum ≤ 100 * us.length := fun us hu => by
    induction us with
    | nil => exact Nat.zero_le _
    | cons u us ih =>
      simp only [List.map_cons, List.sum_cons, List.length_cons]
      have h1 : slen (.str u) ≤ 100 := hu u (by simp)
      have h2 := ih fun t ht => hu t (List.mem_cons_of_mem _ ht)
      omega
  have := g ts h.len
  have := h.few
  omega
section
variable {P : Program} {w : World} {K : PySem.W.Frag} {mg : Str → Option Value} {base : Heap}
variable {PE C fI fE cB cW cP : Addr} {fdI fdE : FuncData}
theorem ok_law {f : Addr} {fd : FuncData} (F : Fun K "law" "law" sLaw f fd) {fPSize : Addr} {fdPSize : FuncData} (DPSize : Dk P w K mg base "size" sPSize ["library"] 1 (spSize C) fPSize fdPSize) {fPTurned : Addr} {fdPTurned : FuncData} (DPTurned : Dk P w K mg base "turned_about" sPTurned ["library"] 6 (spTurned C) fPTurned fdPTurned) {fHand : Addr} {fdHand : FuncData} (DHand : Dk P w K mg base "_law_hand" sHand ["script"] 1 (spHand K) fHand fdHand) {fSame : Addr} {fdSame : FuncData} (DSame : Dk P w K mg base "_law_same" sSame ["actual", "due"] 4 (spSame R3) fSame fdSame) {fOdd : Addr} {fdOdd : FuncData} (DOdd : Dk P w K mg base "_law_odd" sOdd ["hand"] 2 spOdd fOdd fdOdd) {fTexts : Addr} {fdTexts : FuncData} (DTexts : Dk P w K mg base "_law_texts" sTexts ["hand", "most"] 4 spTexts fTexts fdTexts) {fIsWord : Addr} {fdIsWord : FuncData} (DIsWord : Dk P w K mg base "_law_is_word" sIsWord ["thing"] 2 spWd fIsWord fdIsWord) {fBadTexts : Addr} {fdBadTexts : FuncData} (DBadTexts : Dk P w K mg base "_law_bad_texts" sBadTexts ["thing"] 2 spBad fBadTexts fdBadTexts) {fIsPlace : Addr} {fdIsPlace : FuncData} (DIsPlace : Dk P w K mg base "_law_is_place" sIsPlace ["texts", "thing"] 3 spPlace fIsPlace fdIsPlace) {fThing : Addr} {fdThing : FuncData} (DThing : Dk P w K mg base "_law_thing" sThing ["hand", "texts"] 3 spThing fThing fdThing) {fMade : Addr} {fdMade : FuncData} (DMade : Dk P w K mg base "_law_made" sMade ["thing"] 6 spMade fMade fdMade) {fStood : Addr} {fdStood : FuncData} (DStood : Dk P w K mg base "_law_stood" sStood ["library", "word", "place"] 4 (spStood C) fStood fdStood) {fSomePlace : Addr} {fdSomePlace : FuncData} (DSomePlace : Dk P w K mg base "_law_some_place" sSomePlace ["hand", "texts"] 4 spThing fSomePlace fdSomePlace) {fSomeWord : Addr} {fdSomeWord : FuncData} (DSomeWord : Dk P w K mg base "_law_some_word" sSomeWord ["hand", "texts", "place"] 4 spSomeW fSomeWord fdSomeWord)
    (L : LibC K mg C fI fE fdI fdE) (GI : FnOk P w K mg base (L2.CX P w) 4 fI fdI ["self", "texts"] (spLInit C cB)) (GE : FnOk P w K mg base CX0 2 fE fdE ["self", "other"] (spLEq C)) (T : Glob mg) : FnAt callerA P w K mg base CX0 f fd ["script"] (spLaw K) := by
  refine fun_at (k := 8) F scLaw ⟨rfl, by decide, by decide⟩ (fun vs H Q E h => ?_) (fun cdv outer s H vs Q E hr h => ?_)
  · obtain ⟨a, ns, rfl, _⟩ := h
    rfl
  · obtain ⟨a, ns, rfl, hS, q⟩ := h
    refine ⟨_, (pss_cons (ps_set (i := 1) scLaw.nd rfl (.inl rfl) (pe_call DHand.ok (hr.mono (by decide)) (by rfl) DHand.g DHand.F.kp DHand.b .nil pass0 (pa_cons (pv 0) pa_nil)))
      (pss_cons (ps_set (i := 2) scLaw.nd rfl (.inl rfl) (pe_call DTexts.ok (hr.mono (by decide)) (by rfl) DTexts.g DTexts.F.kp DTexts.b .nil pass0 (pa_cons (pv 1) (pa_cons pe_int pa_nil))))
      (pss_cons (ps_for PassesOwn.never rfl (pi_list (pe_lst (pa_cons (pv 2) (pa_cons (pe_call DThing.ok (hr.mono (by decide)) (by rfl) DThing.g DThing.F.kp DThing.b .nil pass0 (pa_cons (pv 1) (pa_cons (pv 2) pa_nil))) (pa_cons (pe_call DThing.ok (hr.mono (by decide)) (by rfl) DThing.g DThing.F.kp DThing.b .nil pass0 (pa_cons (pv 1) (pa_cons (pv 2) pa_nil))) pa_nil))))) (pg_name (i := 3) scLaw.nd rfl (.inl rfl))
      (pss_cons (ps_set (i := 4) scLaw.nd rfl (.inl rfl) (pe_call DBadTexts.ok (hr.mono (by decide)) (by rfl) DBadTexts.g DBadTexts.F.kp DBadTexts.b .nil pass0 (pa_cons (pv 3) pa_nil)))
        (pss_cons (ps_set (i := 5) scLaw.nd rfl (.inl rfl) (pe_tup (pa_cons pe_str (pa_cons (pv 4) pa_nil))))
        (pss_cons (ps_if (pt_cmpR op_isN (pv 4) pe_non (nomark _))
        (pss_one (ps_set (i := 5) scLaw.nd rfl (.inl rfl) (pe_tup (pa_cons pe_str (pa_cons (pv 3) pa_nil)))))
        pss_nil)
        (pss_cons (ps_if (pt_not (pt_val (pe_call DSame.ok (hr.mono (by decide)) (by rfl) DSame.g DSame.F.kp DSame.b .nil pass0 (pa_cons (pe_call DMade.ok (hr.mono (by decide)) (by rfl) DMade.g DMade.F.kp DMade.b .nil pass0 (pa_cons (pv 3) pa_nil)) (pa_cons (pv 5) pa_nil)))))
        (pss_one (ps_ret pe_bl))
        pss_nil)
        (pss_one (ps_if (pt_cmpR op_isN (pv 4) pe_non (nomark _))
        (pss_cons (ps_set (i := 6) scLaw.nd rfl (.inl rfl) (pe_mkS (E := fun _ => E0) L.mak GI (hr.mono (by decide)) (by rfl) L.g L.bI (fun σ => passL_at σ) (pa_cons (pv 3) pa_nil)))
          (pss_cons (ps_if (pt_not (pt_val (pe_call DSame.ok (hr.mono (by decide)) (by rfl) DSame.g DSame.F.kp DSame.b .nil pass0 (pa_cons (pe_call DPSize.ok (hr.mono (by decide)) (by rfl) DPSize.g DPSize.F.kp DPSize.b .nil pass0 (pa_cons (pv 6) pa_nil)) (pa_cons (pe_callB (cr_sum rfl) (by rfl) T.sum (by decide +kernel) (pa_cons (pe_lc (own := [("text", 12)]) (g := gName 12) (by rfl) scLaw.nd (pi_tup (pv 3)) (blkOk_by (N := ["script", "hand", "texts", "thing", "bad", "due", "library", "other", "back", "k", "place", "word", "text"]) (sc := defScope sLaw) (by decide +kernel)) (fun _ _ _ _ _ => pg_name (i := 12) scLaw.nd rfl (.inl rfl)) (fun _ _ _ _ _ => pts_nil) (fun _ _ _ _ _ => (pe_callB call_lenZ (by rfl) T.len PySem.boot_len (pa_cons (pv 12) pa_nil)))) pa_nil)) pa_nil)))))
          (pss_one (ps_ret pe_bl))
          pss_nil)
          (pss_cons (ps_set (i := 7) scLaw.nd rfl (.inl rfl) (pe_call DPTurned.ok (hr.mono (by decide)) (by rfl) DPTurned.g DPTurned.F.kp DPTurned.b .nil pass0 (pa_cons (pv 6) pa_nil)))
          (pss_cons (ps_set (i := 8) scLaw.nd rfl (.inl rfl) (pe_callTy call_tuple_of (by rfl) T.tuple (by decide +kernel) (pa_cons (pe_lc (te := tM1 (rJn K) (tC (.str (Str.ofString ""))) (tLc (iRng1 (tCons (tCB rLenZ (tCons (tVar 12) tNil)) tNil)) (gName 9) tYes (tOp rIxS (tVar 12) (tOp (rI0 fun i j => .int (i - j)) (tOp (rI0 fun i j => .int (i - j)) (tCB rLenZ (tCons (tVar 12) tNil)) (tC (.int 1))) (tVar 9))) [9])) (own := [("text", 12)]) (g := gName 12) (by rfl) scLaw.nd (pi_tup (pv 3)) (blkOk_by (N := ["script", "hand", "texts", "thing", "bad", "due", "library", "other", "back", "k", "place", "word", "text"]) (sc := defScope sLaw) (by decide +kernel)) (fun _ _ _ _ _ => pg_name (i := 12) scLaw.nd rfl (.inr rfl)) (fun _ _ _ _ _ => pts_nil) (fun _ _ _ _ _ => (pe_join pe_str (pe_lc (own := [("k", 9)]) (g := gName 9) (by rfl) scLaw.nd (pi_range1 (by rfl) T.range (pa_cons (pe_callB call_lenZ (by rfl) T.len PySem.boot_len (pa_cons (pv 12) pa_nil)) pa_nil)) (blkOk_by (N := ["script", "hand", "texts", "thing", "bad", "due", "library", "other", "back", "k", "place", "word", "text"]) (sc := { kind := .function, names := [(".0", .local), ("text", .cell), ("range", .globalImplicit), ("len", .globalImplicit)], isGenerator := false, isCoroutine := false }) (by decide +kernel)) (fun _ _ _ _ _ => pg_name (i := 9) scLaw.nd rfl (.inl rfl)) (fun _ _ _ _ _ => pts_nil) (fun _ _ _ _ _ => (pe_ix ix_str (pv 12) (pe_op op_sub (pe_op op_sub (pe_callB call_lenZ (by rfl) T.len PySem.boot_len (pa_cons (pv 12) pa_nil)) pe_int) (pv 9)) (fun _ _ => rfl))))))) pa_nil)))
          (pss_cons (ps_if (PW.pt (pw_or (pt_not (pt_val (pe_callB call_isi (by rfl) T.isinstance PyProof.Rows.boot_isinstance (pa_cons (pv 7) (pa_cons (pe_glob (v := .ref C) (by rfl) L.g rfl) pa_nil))))) (pw_or (pt_not (pt_val (pe_call DSame.ok (hr.mono (by decide)) (by rfl) DSame.g DSame.F.kp DSame.b .nil pass0 (pa_cons (pe_fld (pv 7) rfl) (pa_cons (pv 8) pa_nil))))) (pw_or1 (pt_not (pt_val (pe_call DSame.ok (hr.mono (by decide)) (by rfl) DSame.g DSame.F.kp DSame.b .nil pass0 (pa_cons (pe_fld (pv 6) rfl) (pa_cons (pv 3) pa_nil)))))))))
          (pss_one (ps_ret pe_bl))
          pss_nil)
          (pss_one (ps_if (PW.pt (pw_or (pt_cmpR op_ne (pe_cmpR (op_eqO (E := E0) GE L.eq L.fnE L.bE pass0 (hr.mono (by decide))) (pv 6) (pe_mkS (E := fun _ => E0) L.mak GI (hr.mono (by decide)) (by rfl) L.g L.bI (fun σ => passL_at σ) (pa_cons (pv 2) pa_nil)) (nomark _)) (pe_cmpR (op_eqD hr.units) (pv 3) (pv 2) (nomark _)) (nomark _)) (pw_or (pt_cmpR (op_eqO (E := E0) GE L.eq L.fnE L.bE pass0 (hr.mono (by decide))) (pv 6) (pv 3) (nomark _)) (pw_or1 (pt_not (pt_cmpR (op_eqO (E := E0) GE L.eq L.fnE L.bE pass0 (hr.mono (by decide))) (pv 6) (pe_mkS (E := fun _ => E0) L.mak GI (hr.mono (by decide)) (by rfl) L.g L.bI (fun σ => passL_at σ) (pa_cons (pv 3) pa_nil)) (nomark _)))))))
          (pss_one (ps_ret pe_bl))
          pss_nil)))))))
        pss_nil)))))))
      (pss_cons (ps_set (i := 6) scLaw.nd rfl (.inl rfl) (pe_mkS (E := fun _ => E0) L.mak GI (hr.mono (by decide)) (by rfl) L.g L.bI (fun σ => passL_at σ) (pa_cons (pv 2) pa_nil)))
      (pss_cons (ps_for PassesOwn.never rfl (pi_range1 (by rfl) T.range (pa_cons pe_int pa_nil)) (pg_name (i := 9) scLaw.nd rfl (.inl rfl))
      (pss_cons (ps_set (i := 10) scLaw.nd rfl (.inl rfl) (pe_call DSomePlace.ok (hr.mono (by decide)) (by rfl) DSomePlace.g DSomePlace.F.kp DSomePlace.b .nil pass0 (pa_cons (pv 1) (pa_cons (pv 2) pa_nil))))
        (pss_cons (ps_set (i := 11) scLaw.nd rfl (.inl rfl) (pe_call DSomeWord.ok (hr.mono (by decide)) (by rfl) DSomeWord.g DSomeWord.F.kp DSomeWord.b .nil pass0 (pa_cons (pv 1) (pa_cons (pv 2) (pa_cons (pv 10) pa_nil)))))
        (pss_cons (ps_set (i := 5) scLaw.nd rfl (.inl rfl) (pe_tup (pa_cons pe_str pa_nil)))
        (pss_cons (ps_if (PW.pt (pw_and (pt_val (pe_call DIsWord.ok (hr.mono (by decide)) (by rfl) DIsWord.g DIsWord.F.kp DIsWord.b .nil pass0 (pa_cons (pv 11) pa_nil))) (pw_and1 (pt_not (pt_val (pe_call DIsPlace.ok (hr.mono (by decide)) (by rfl) DIsPlace.g DIsPlace.F.kp DIsPlace.b .nil pass0 (pa_cons (pv 2) (pa_cons (pv 10) pa_nil))))))))
        (pss_one (ps_set (i := 5) scLaw.nd rfl (.inl rfl) (pe_tup (pa_cons pe_str pa_nil))))
        (pss_one (ps_if (pt_val (pe_call DIsWord.ok (hr.mono (by decide)) (by rfl) DIsWord.g DIsWord.F.kp DIsWord.b .nil pass0 (pa_cons (pv 11) pa_nil)))
          (pss_one (ps_set (i := 5) scLaw.nd rfl (.inl rfl) (pe_tup (pa_cons pe_str (pa_cons (pe_cmpR op_eq (pe_slice sl_str (pe_ix ix_tup (pv 2) (pe_ix ix_tup (pv 10) pe_int (fun _ _ => rfl)) (fun _ _ => rfl)) (po_some (pe_ix ix_tup (pv 10) pe_int (fun _ _ => rfl))) (po_some (pe_op op_add (pe_ix ix_tup (pv 10) pe_int (fun _ _ => rfl)) (pe_callB call_lenZ (by rfl) T.len PySem.boot_len (pa_cons (pv 11) pa_nil))))) (pv 11) (nomark _)) pa_nil)))))
          pss_nil)))
        (pss_one (ps_if (pt_not (pt_val (pe_call DSame.ok (hr.mono (by decide)) (by rfl) DSame.g DSame.F.kp DSame.b .nil pass0 (pa_cons (pe_call DStood.ok (hr.mono (by decide)) (by rfl) DStood.g DStood.F.kp DStood.b .nil pass0 (pa_cons (pv 6) (pa_cons (pv 11) (pa_cons (pv 10) pa_nil)))) (pa_cons (pv 5) pa_nil)))))
        (pss_one (ps_ret pe_bl))
        pss_nil)))))))
      (pss_one (ps_ret (pe_not (pe_cmpR (op_eqO (E := E0) GE L.eq L.fnE L.bE pass0 (hr.mono (by decide))) (pv 6) (pe_call DOdd.ok (hr.mono (by decide)) (by rfl) DOdd.g DOdd.F.kp DOdd.b .nil pass0 (pa_cons (pv 1) pa_nil)) (nomark _)))))))))), ?_⟩
    refine ⟨.ref a, rfl, a, ns, rfl, hS, fun p l H1 np nl h1 k1 => ?_⟩
    refine ⟨.ref p, rfl, p, 60, rfl, by decide, by decide, l, h1, fun b ts H2 nb hb hts h2 b2 => ?_⟩
    have few := hts.few
    have nbp := tup_ne h2 hb
    have lens : ∀ t ∈ ts, t.length ≤ 5000 := fun t ht => Nat.le_trans (hts.len t ht) (by decide)
    have sums := ts_sum hts
    refine ⟨.ref b, rfl, .ref p, rfl, .ref b, rfl, p, b, ts, rfl, hb, hts, l, h2, fun x1 o1 H3 t1 h3 b3 => ?_⟩
    have hb3 := b3 _ _ nbp hb
    refine ⟨.ref p, rfl, .ref b, rfl, p, b, ts, rfl, hb3, hts, l, h3, fun x2 o2 H4 t2 h4 b4 => ?_⟩
    have hb4 := b4 _ _ nbp hb3
    have t1 := Tg.but t1 h3 h4 b4
    refine ⟨by show 3 ≤ sizeLine; decide, fun g ng => ?_⟩
    have kg := Same.new (o := .lst [.ref b, x1, x2]) ng
    have hg : upd H4 g (.lst [.ref b, x1, x2]) g = some (.lst [.ref b, x1, x2]) := upd_same
    have hbc := kg _ _ hb4
    have hc := h4.same kg
    have t1 := t1.same kg
    have t2 := t2.same kg
    have t0 : Tg (upd H4 g (.lst [.ref b, x1, x2])) (.ref b) (some (ts.map V.str)) := .tup hbc (by rw [List.length_map]; omega) fun y hy => str_ok hts hy
    generalize upd H4 g (.lst [.ref b, x1, x2]) = Hc at hg hbc hc t0 t1 t2 ⊢
    refine ⟨g, rfl, ⟨_, sq_of hg⟩, for_list (xs := [.ref b, x1, x2]) (fun _ σ H' => (∃ u3 u4 u5 u6 u7 u8 u9 u10 u11 u12, σ = [some (.ref a), some (.ref p), some (.ref b), u3, u4, u5, u6, u7, u8, u9, u10, u11, u12]) ∧ Same Hc H') ⟨⟨_, _, _, _, _, _, _, _, _, _, rfl⟩, Same.refl Hc⟩ (fun i σ H' _ pv => sq_of (pv.2 _ _ hg)) ?_ ?_⟩
    · rintro i v σ H' hv ⟨⟨u3, u4, u5, u6, u7, u8, u9, u10, u11, u12, rfl⟩, k⟩
      have hm := List.mem_of_getElem? hv
      simp only [List.mem_cons, List.not_mem_nil, or_false] at hm
      obtain ⟨o, ho⟩ : ∃ o, Tg H' v o := by
        rcases hm with e | e | e
        · rw [e]; exact ⟨_, t0.same k⟩
        · rw [e]; exact ⟨_, t1.same k⟩
        · rw [e]; exact ⟨_, t2.same k⟩
      clear hm hv
      refine ⟨v, rfl, v, o, rfl, ho, fun H6 k6 => ?_⟩
      refine ⟨_, rfl, by show 2 ≤ sizeLine; decide, fun d1 nd1 => ?_⟩
      have kd1 := Same.new (o := .tup [.str "BadLibrary", badOf o]) nd1
      have hd1 : upd H6 d1 (.tup [.str "BadLibrary", badOf o]) d1 = some (.tup [.str "BadLibrary", badOf o]) := upd_same
      generalize upd H6 d1 (.tup [.str "BadLibrary", badOf o]) = H7 at kd1 hd1 ⊢
      have k7 := k6.trans kd1
      refine ⟨_, rfl, rfl, _, rfl, ite2 (fun bn => ?_) (fun bn => ?_)⟩
      · have bn' := of_decide_eq_true bn
        obtain ⟨xs, rfl, lx, gx, sx⟩ := bad_non bn'
        obtain ⟨us, rfl, sgu⟩ := bad_strs gx
        obtain ⟨c, rfl, hc0, hyc⟩ := tg_some ho
        have lenu : ∀ t ∈ us, t.length ≤ 5000 := fun t ht => (hyc (.str t) (List.mem_map.mpr ⟨t, ht, rfl⟩)).2 t rfl
        have fewu : us.length ≤ 8 := by rw [List.length_map] at lx; exact lx
        have c7 := k7 _ _ hc0
        refine ⟨.ref c, rfl, by show 2 ≤ sizeLine; decide, fun d2 nd2 => ?_⟩
        have kd2 := Same.new (o := .tup [.str "told", .ref c]) nd2
        have hd2 : upd H7 d2 (.tup [.str "told", .ref c]) d2 = some (.tup [.str "told", .ref c]) := upd_same
        generalize upd H7 d2 (.tup [.str "told", .ref c]) = H8 at kd2 hd2 ⊢
        have k8 := k7.trans kd2
        refine ⟨.ref c, rfl, .ref c, _, rfl, ho.same k8, fun r H9 k9 hr => ?_⟩
        have hr' : H9 r = some (.tup [.str "told", .ref c]) := by
          rw [hr]
          unfold madeV
          rw [if_pos bn']
        have k9a := k8.trans k9
        refine ⟨.ref d2, rfl, .ref r, .ref d2, rfl, r3_two hr' (k9 _ _ hd2) (.str _) (r2_strs (k9a _ _ hc0) (k9a _ _ hc0) (by omega)), fun H10 k10 => ⟨_, rfl, iteF ?_⟩⟩
        have kA := k9a.trans k10
        refine ⟨_, rfl, rfl, _, rfl, ite2 (fun _ => ?_) (fun z => absurd bn z)⟩
        refine ⟨.ref c, rfl, fun s1 dx1 ns1 nd1 nn1 => ?_⟩
        refine mk_lib (kA _ _ hc0) fewu sgu lenu sx ns1 nd1 nn1 fun H11 k11 lib => ?_
        have kB := kA.trans k11
        refine ⟨.ref s1, rfl, s1, us, rfl, lib, fun H12 k12 => ?_⟩
        have kC := kB.trans k12
        refine ⟨.ref c, rfl, c, rfl, ⟨_, SqT.of (kC _ _ hc0)⟩, fun D nD => lc_lens (i := 12) (show 12 < 13 by decide) (kC _ _ hc0) nD lenu (by omega) fun H13 hD k13 => ?_⟩
        refine ⟨D, _, rfl, sq_of hD, _, _, rfl, .int _, fun H14 k14 => ⟨_, rfl, iteF ?_⟩⟩
        have kD := (kC.trans k13).trans k14
        have lib14 := lib.same (k12.trans (k13.trans k14))
        refine ⟨.ref s1, rfl, s1, us, rfl, lib14, fun r2 H15 k15 lib2 => ?_⟩
        have kE := kD.trans k15
        have c15 := kE _ _ hc0
        refine ⟨.ref c, rfl, c, rfl, ⟨_, SqT.of c15⟩, fun D nD => lc_tup (K := K) (xs := us.map V.str) (fun i H' => H' D = some (.lst ((us.take i).map fun t => V.str (revZ t))) ∧ Same H15 H') ⟨upd_same, Same.new nD⟩ (fun i H' _ q => SqT.of (q.2 _ _ c15)) ?_ ?_⟩
        · rintro i x H' hx ⟨hD, k⟩
          rw [List.getElem?_map] at hx
          cases e : us[i]? with
          | none => rw [e] at hx; cases hx
          | some t =>
            rw [e] at hx
            obtain rfl : V.str t = x := Option.some.inj hx
            have hm := List.mem_of_getElem? e
            have lt := lenu t hm
            refine ⟨rfl, ⟨_, rfl⟩, .str t, rfl, t, rfl, len5 lt, _, rfl, by omega, by omega, fun D2 nD2 => lc_range (fun j H2 => H2 D2 = some (.lst (((revC t).take j).map fun c => V.str (SX.S [c]))) ∧ Same H' H2) ⟨upd_same, Same.new nD2⟩ ?_ ?_⟩
            · rintro j H2 hj ⟨hD2, k2⟩
              have hj2 : j < t.length := by omega
              have hc2 : t.cps.toList[t.length - 1 - j]? = some (t.cps.getD (t.length - 1 - j) 0) := by
                have hi : t.length - 1 - j < t.cps.size := by
                  show t.length - 1 - j < t.length
                  omega
                rw [Array.getElem?_toList, Array.getElem?_eq_getElem hi]
                simp [Array.getD, hi]
              have ea : atI t.cps.toList ((t.length : Int) - 1 - (0 + (j : Int))) = some (t.cps.getD (t.length - 1 - j) 0) := by
                have e1 : (t.length : Int) - 1 - (0 + (j : Int)) = ((t.length - 1 - j : Nat) : Int) := by omega
                rw [e1]
                exact atI_nat hc2
              have er : (revC t)[j]? = some (t.cps.getD (t.length - 1 - j) 0) := by
                unfold revC
                rw [List.getElem?_map, List.getElem?_range hj2]
                rfl
              refine ⟨rfl, .str t, rfl, .str t, rfl, t, rfl, len5 lt, _, _, rfl, rfl, .int (0 + (j : Int)), rfl, _, _, rfl, rfl, t, _, _, rfl, rfl, len5 lt, ea, _, hD2, ?_, ?_, sameAt k2 nD2⟩
              · have h3 : sizeLine = 16777216 := sizeLine_eq
                rw [List.length_map, List.length_take]
                omega
              · rw [upd_same]
                have et : (revC t).take (j + 1) = (revC t).take j ++ [t.cps.getD (t.length - 1 - j) 0] := by
                  rw [List.take_add_one, er]
                  rfl
                rw [et, List.map_append]
                rfl
            · rintro H2 ⟨hD2, k2⟩
              have en : (revC t).take ((t.length : Int)).toNat = revC t := by
                rw [Int.toNat_natCast, ← revC_len t, List.take_length]
              rw [en] at hD2
              have e1 : ((revC t).map fun c => V.str (SX.S [c])) = ((revC t).map fun c => SX.S [c]).map V.str := by rw [List.map_map]; rfl
              rw [e1] at hD2
              have hsum : ∀ cs : List Nat, ((cs.map fun c => SX.S [c]).map (·.length)).sum = cs.length := fun cs => by
                induction cs with
                | nil => rfl
                | cons c cs ih =>
                  simp only [List.map_cons, List.sum_cons, List.length_cons]
                  rw [ih]
                  have : (SX.S [c]).length = 1 := rfl
                  omega
              refine ⟨_, D2, (revC t).map (fun c => SX.S [c]), rfl, rfl, .inl (sq_of hD2), ?_, _, k2 _ _ hD, ?_, ?_, sameAt (k.trans k2) nD⟩
              · rw [hsum, List.length_map]
                have z0 : (Str.ofString "").length = 0 := by decide +kernel
                rw [z0, revC_len]
                omega
              · have h3 : sizeLine = 16777216 := sizeLine_eq
                rw [List.length_map, List.length_take]
                omega
              · rw [upd_same, join1]
                have et : us.take (i + 1) = us.take i ++ [t] := by
                  rw [List.take_add_one, e]
                  rfl
                rw [et, List.map_append]
                rfl
        · rintro H16 ⟨hD, k16⟩
          rw [List.length_map, List.take_length] at hD
          have eD : (us.map fun t => V.str (revZ t)) = (us.map revZ).map V.str := by rw [List.map_map]; rfl
          rw [eD] at hD
          refine ⟨D, _, rfl, .inl ⟨sq_of hD, fun bk nbk => ?_⟩⟩
          have k17 := k16.trans (Same.new (o := .tup ((us.map revZ).map V.str)) nbk)
          have hbk : upd H16 bk (.tup ((us.map revZ).map V.str)) bk = some (.tup ((us.map revZ).map V.str)) := upd_same
          generalize upd H16 bk (.tup ((us.map revZ).map V.str)) = H17 at k17 hbk ⊢
          have kF := kE.trans k17
          have lib17 := lib14.same (k15.trans k17)
          have lib2' := lib2.same k17
          obtain ⟨⟨dxr, ar, hr2, har⟩, _⟩ := lib2'
          obtain ⟨⟨dxs, as, hs2, has⟩, _⟩ := lib17
          refine ⟨.ref r2, rfl, .ref r2, .ref C, .ref C, .ref C, true, rfl, .own C, .base (.ins hr2 L.cl L.ha L.hn L.ht L.hm), L.kyes, _, rfl, iteF ?_⟩
          refine ⟨.ref r2, rfl, r2, C, dxr, _, .ref ar, rfl, hr2, L.cl, L.nt, lk1, .ref bk, rfl, .ref ar, .ref bk, rfl, r3_strs har hbk (by rw [List.length_map]; omega), fun H18 k18 => ⟨_, rfl, iteF ?_⟩⟩
          have kG := kF.trans k18
          refine ⟨.ref s1, rfl, s1, C, dxs, _, .ref as, rfl, k18 _ _ hs2, L.cl, L.nt, lk1, .ref c, rfl, .ref as, .ref c, rfl, r3_strs (k18 _ _ has) (kG _ _ hc0) (by omega), fun H19 k19 => ⟨_, rfl, iteF ?_⟩⟩
          have kH := kG.trans k19
          have hs19 := k19 _ _ (k18 _ _ hs2)
          have lib19 := lib14.same (k15.trans (k17.trans (k18.trans k19)))
          refine ⟨.ref s1, rfl, .ref b, rfl, fun s2 dx2 ns2 nd2 nn2 => ?_⟩
          refine mk_lib ((k.trans kH) _ _ hbc) few hts.sg lens sums ns2 nd2 nn2 fun H20 k20 lib3 => ?_
          have kI := kH.trans k20
          obtain ⟨⟨dx3, a3, hs3, has3⟩, _⟩ := id lib3
          refine ⟨s1, dxs, _, .ref C, rfl, k20 _ _ hs19, .base (.ins hs3 L.cl L.ha L.hn L.ht L.hm), L.nfo, s1, us, .ref s2, rfl, lib19.same k20, .inr ⟨s2, ts, rfl, lib3, ⟨_, rfl⟩, ?_⟩⟩
          refine ⟨.ref c, rfl, .ref b, rfl, .tuple (us.map PyData.str), .tuple (ts.map PyData.str), .tup (SqT.of (kI _ _ hc0)) (dp_strs us), .tup (SqT.of ((k.trans kI) _ _ hbc)) (dp_strs ts), shaped_strs sgu, shaped_strs hts.sg, rfl, _, rfl, ?_⟩
          have ev : PyData.eqv (.tuple (us.map PyData.str)) (.tuple (ts.map PyData.str)) = decide (us = ts) := eqv_strs us ts
          rw [ev, decide_eq_true rfl]
          refine iteF ?_
          refine ⟨.ref s1, rfl, .ref c, rfl, s1, dxs, _, .type "tuple", rfl, k20 _ _ hs19, Kd.tyx (.tup (kI _ _ hc0)), L.nf .tup, s1, us, .ref c, rfl, lib19.same k20, .inl ⟨⟨.tup, .tup (kI _ _ hc0)⟩, ⟨_, rfl⟩, _, rfl, iteF ?_⟩⟩
          refine ⟨.ref s1, rfl, .ref c, rfl, fun s4 dx4 ns4 nd4 nn4 => ?_⟩
          refine mk_lib (kI _ _ hc0) fewu sgu lenu sx ns4 nd4 nn4 fun H21 k21 lib4 => ?_
          obtain ⟨⟨dx5, a5, hs5, has5⟩, _⟩ := id lib4
          refine ⟨s1, dxs, _, .ref C, rfl, k21 _ _ (k20 _ _ hs19), .base (.ins hs5 L.cl L.ha L.hn L.ht L.hm), L.nfo, s1, us, .ref s4, rfl, lib19.same (k20.trans k21), .inr ⟨s4, us, rfl, lib4, ⟨_, rfl⟩, _, rfl, ?_⟩⟩
          rw [decide_eq_true rfl]
          exact iteF ⟨⟨_, _, _, _, _, _, _, _, _, _, rfl⟩, k.trans (kI.trans k21)⟩
      · refine ⟨v, rfl, v, o, rfl, ho.same k7, fun r H9 k9 hr => ?_⟩
        have bn' : ¬ badOf o = .non := fun z => bn (decide_eq_true z)
        have hr' : H9 r = some (.tup [.str "BadLibrary", badOf o]) := by
          rw [hr]
          unfold madeV
          rw [if_neg bn']
        refine ⟨.ref d1, rfl, .ref r, .ref d1, rfl, r3_two hr' (k9 _ _ hd1) (.str _) (bad_r2 o), fun H10 k10 => ⟨_, rfl, iteF ?_⟩⟩
        exact ⟨_, rfl, rfl, _, rfl, ite2 (fun z => absurd z bn) (fun _ => ⟨⟨_, _, _, _, _, _, _, _, _, _, rfl⟩, k.trans (k7.trans (k9.trans k10))⟩)⟩
    · rintro σ H' ⟨⟨u3, u4, u5, u6, u7, u8, u9, u10, u11, u12, rfl⟩, k⟩
      have hbk := k _ _ hbc
      refine ⟨.ref b, rfl, fun s1 dx1 ns1 nd1 nn1 => ?_⟩
      refine mk_lib hbk few hts.sg lens sums ns1 nd1 nn1 fun H7 k7 lib => ?_
      have h7 := (hc.same k).same k7
      have hb7 := k7 _ _ hbk
      refine ⟨5, rfl, by decide, by decide, for_range (fun _ σ H' => (∃ u3 u4 u5 u7 u8 u9 u10 u11 u12, σ = [some (.ref a), some (.ref p), some (.ref b), u3, u4, u5, some (.ref s1), u7, u8, u9, u10, u11, u12]) ∧ Hn p l H7 H') ⟨⟨_, _, _, _, _, _, _, _, _, rfl⟩, Hn.refl h7⟩ ?_ ?_⟩
      · rintro i σ H' hi ⟨⟨u3, u4, u5, u7, u8, u9, u10, u11, u12, rfl⟩, hn⟩
        have hbn := hn.but _ _ (tup_ne h7 hb7) hb7
        refine ⟨.ref p, rfl, .ref b, rfl, p, b, ts, rfl, hbn, hts, l, hn.at_, fun x o H8 tx h8 b8 => ?_⟩
        have hb8 := b8 _ _ (tup_ne hn.at_ hbn) hbn
        refine ⟨.ref p, rfl, .ref b, rfl, x, rfl, p, b, ts, x, o, rfl, hb8, hts, tx, l, h8, fun y ky H9 hk hv h9 b9 => ?_⟩
        have hb9 := b9 _ _ (tup_ne h8 hb8) hb8
        have tx9 := Tg.but tx h8 h9 b9
        have hn9 : Hn p l H7 H9 := ⟨h9, (hn.but.trans b8).trans b9⟩
        have lib9 : LibAt H9 C s1 ts := LibAt.but lib h7 hn9.but
        refine ⟨by show 1 ≤ sizeLine; decide, fun d nd => ?_⟩
        have kd := Same.new (o := .tup [.str "NoWord"]) nd
        have hd : upd H9 d (.tup [.str "NoWord"]) d = some (.tup [.str "NoWord"]) := upd_same
        generalize upd H9 d (.tup [.str "NoWord"]) = H10 at kd hd ⊢
        refine ⟨y, rfl, y, ky, rfl, hk.same kd, hv, _, rfl, ite2 (fun wv => ?_) (fun wv => ?_)⟩
        · refine ⟨.ref b, rfl, x, rfl, b, ts, x, o, rfl, kd _ _ hb9, by omega, lens, tx9.same kd, _, rfl, ite2 (fun pv => ?_) (fun pv => ?_)⟩
          · have pv' : placeV ts o = false := by simpa using pv
            refine ⟨by show 1 ≤ sizeLine; decide, fun d2 nd2 => ?_⟩
            have kd2 := Same.new (o := .tup [.str "NoPlace"]) nd2
            have hd2 : upd H10 d2 (.tup [.str "NoPlace"]) d2 = some (.tup [.str "NoPlace"]) := upd_same
            generalize upd H10 d2 (.tup [.str "NoPlace"]) = H11 at kd2 hd2 ⊢
            have kk := kd.trans kd2
            refine ⟨.ref s1, rfl, y, rfl, x, rfl, s1, ts, y, x, ky, o, rfl, lib9.same kk, hk.same kk, hv, tx9.same kk, fun r H12 k12 hr => ?_⟩
            have hr' : H12 r = some (.tup [.str "NoPlace"]) := by
              rw [hr]
              unfold stoodV
              rw [if_pos wv, if_neg (by rw [pv']; decide)]
            exact ⟨.ref d2, rfl, .ref r, .ref d2, rfl, r3_one hr' (k12 _ _ hd2) (.str _), fun H13 k13 => ⟨_, rfl, iteF ⟨⟨_, _, _, _, _, _, _, _, _, rfl⟩, hn9.same (kk.trans (k12.trans k13))⟩⟩⟩
          · have pv' : placeV ts o = true := by simpa using pv
            obtain ⟨i1, j1, rfl, i0, i2, j0, j2⟩ := place_true pv'
            obtain ⟨z, rfl⟩ := word_str wv
            obtain ⟨e, rfl, he0, _⟩ := tg_some tx9
            obtain ⟨et, hm⟩ := text_at i0 i2
            have hlen := lens _ hm
            have he := kd _ _ he0
            refine ⟨.str z, rfl, .str z, ky, rfl, hk.same kd, hv, _, rfl, ite2 (fun _ => ?_) (fun c => absurd wv c)⟩
            refine ⟨.ref b, rfl, .ref e, rfl, e, _, 0, .int i1, rfl, rfl, SqT.of he, rfl, b, _, i1, _, rfl, rfl, SqT.of (kd _ _ hb9), et, .ref e, rfl, e, _, 1, .int j1, rfl, rfl, SqT.of he, rfl, j1, rfl, .ref e, rfl, e, _, 1, .int j1, rfl, rfl, SqT.of he, rfl, .str z, rfl, z, rfl, len5 (hv z rfl), _, _, rfl, rfl, j1 + (z.length : Int), rfl, _, rfl, len5 hlen, .str z, rfl, rfl, by show 2 ≤ sizeLine; decide, fun d2 nd2 => ?_⟩
            have ev : stoodV ts (.str z) (some [.int i1, .int j1]) = [.str "told", .bl (decide (V.str (cutS (ts.getD i1.toNat Str.empty) (some j1) (some (j1 + (z.length : Int)))) = V.str z))] := by
              unfold stoodV
              rw [if_pos wv, if_pos pv']
              rfl
            generalize decide (V.str (cutS (ts.getD i1.toNat Str.empty) (some j1) (some (j1 + (z.length : Int)))) = V.str z) = bb at ev nd2 ⊢
            have kd2 := Same.new (o := .tup [.str "told", .bl bb]) nd2
            have hd2 : upd H10 d2 (.tup [.str "told", .bl bb]) d2 = some (.tup [.str "told", .bl bb]) := upd_same
            generalize upd H10 d2 (.tup [.str "told", .bl bb]) = H11 at kd2 hd2 ⊢
            have kk := kd.trans kd2
            refine ⟨.ref s1, rfl, .str z, rfl, .ref e, rfl, s1, ts, .str z, .ref e, ky, _, rfl, lib9.same kk, hk.same kk, hv, tx9.same kk, fun r H12 k12 hr => ?_⟩
            rw [ev] at hr
            exact ⟨.ref d2, rfl, .ref r, .ref d2, rfl, r3_two hr (k12 _ _ hd2) (.str _) (.bl bb), fun H13 k13 => ⟨_, rfl, iteF ⟨⟨_, _, _, _, _, _, _, _, _, rfl⟩, hn9.same (kk.trans (k12.trans k13))⟩⟩⟩
        · have wv' : wordV y = false := by simpa using wv
          refine iteF ⟨y, rfl, y, ky, rfl, hk.same kd, hv, _, rfl, ite2 (fun c => absurd c wv) (fun _ => ?_)⟩
          refine ⟨.ref s1, rfl, y, rfl, x, rfl, s1, ts, y, x, ky, o, rfl, lib9.same kd, hk.same kd, hv, tx9.same kd, fun r H12 k12 hr => ?_⟩
          have hr' : H12 r = some (.tup [.str "NoWord"]) := by
            rw [hr]
            unfold stoodV
            rw [if_neg (by rw [wv']; decide)]
          exact ⟨.ref d, rfl, .ref r, .ref d, rfl, r3_one hr' (k12 _ _ hd) (.str _), fun H13 k13 => ⟨_, rfl, iteF ⟨⟨_, _, _, _, _, _, _, _, _, rfl⟩, hn9.same (kd.trans (k12.trans k13))⟩⟩⟩
      · rintro σ H' ⟨⟨u3, u4, u5, u7, u8, u9, u10, u11, u12, rfl⟩, hn⟩
        refine ⟨.ref s1, rfl, .ref p, rfl, p, rfl, l, hn.at_, fun v d H8 hd sd h8 b8 => ?_⟩
        obtain ⟨kv, hkv⟩ := hd.kd
        have lib8 := LibAt.but (LibAt.but lib h7 hn.but) hn.at_ b8
        obtain ⟨⟨dx8, a8, hs8, _⟩, _⟩ := id lib8
        exact ⟨s1, dx8, _, _, rfl, hs8, hkv.tyx, L.nf kv, s1, ts, v, rfl, lib8, .inl ⟨⟨kv, hkv⟩, ⟨_, rfl⟩, _, rfl, q _⟩⟩
end
end LawK
set_option maxHeartbeats 8000000
namespace LawK
open PySem PySem.Spec PyProof.Rows L2 Ev
structure Df (K : PySem.W.Frag) (mg : Str → Option Value) (x : Str) (st : Stmt) (ps : List Str) (f : Addr) (fd : FuncData) : Prop where
  F : Fun K x x st f fd
  b : Binds K fd ps []
  g : mg x = some (.ref f)
def kns : List Kn := [.non, .bl, .int, .str, .lst, .tup, .dic]
def chkL (K : PySem.W.Frag) (C fI fE : Addr) : Bool := PySem.W.makesIn K C && (PySem.W.isFn K (.ref fI) && (PySem.W.keepIn K (.ref C) && (PySem.W.plainGet K C Str.empty && (PySem.W.hasDictIn K C && (PySem.W.plainOver K C &&
  (decide (PySem.W.findIn K (.ref C) "__setattr__" = some (some (.builtin "object.__setattr__"))) && (decide (PySem.W.findIn K (.ref C) "texts" = some none) && (PySem.W.isFn K (.ref fE) &&
  (decide (PySem.W.findIn K (.ref C) "__class__" = some (some (.builtin "object.__class__"))) && (decide (PySem.W.mroIn K C (.type "object") = some true) && (decide (PySem.W.kitOne K (.ref C) (.ref C) = some true) && (PySem.W.notFirst K C (.ref C) &&
  kns.all fun k => decide (PySem.W.kitOne K (.type k.name) (.ref C) = some false) && PySem.W.notFirst K C (.type k.name)))))))))))))
section
variable {P : Program} {w : World} {K : PySem.W.Frag} {mg : Str → Option Value} {h : Heap} {x : Str}
theorem df_mk {st : Stmt} {ps : List Str} {oc kV dc pm cd ct : Value} {od an : Option Addr} {sl : Array (Option Value)} {fa : Addr} (X : K.In h) (G : h.Ns mainGlobals mg)
    (hb : ∀ (kV doc pm : Value) (an : Option Addr) (cdv ct : Value) (us : List Value), us.length = ps.length → bindArgs (PySem.W.fnOf x x (defArgs st) (defBody st) (defScope st) .none kV doc pm an cdv ct) ⟨us, []⟩ = pure (ps.zip us))
    (a : PySem.W.nsIn K mainGlobals x = some (some (.ref fa))) (l : K.lookup fa = some ⟨oc, od, .func (PySem.W.fnOf x x (defArgs st) (defBody st) (defScope st) .none kV dc pm an cd ct), sl⟩)
    (ck : (PySem.W.codeIn K cd x && PySem.W.keepIn K (.ref fa)) = true) : ∃ fd, Df K mg x st ps fa fd := by
  obtain ⟨c1, c2⟩ := Bool.and_eq_true_iff.mp ck
  have F1 := fun_mk (st := st) l c1 c2
  exact ⟨_, F1, F1.binds (ps := ps) hb, PySem.W.mg_of X G a⟩
theorem lib_mk {oc1 kV1 dc1 pm1 cd1 ct1 oc2 kV2 dc2 pm2 cd2 ct2 : Value} {od1 an1 od2 an2 : Option Addr} {sl1 sl2 : Array (Option Value)} {C fI fE : Addr} (X : K.In h) (G : h.Ns mainGlobals mg) (S : Sh K)
    (aC : PySem.W.nsIn K mainGlobals "Library" = some (some (.ref C))) (iC : PySem.W.findIn K (.ref C) "__init__" = some (some (.ref fI))) (eC : PySem.W.findIn K (.ref C) "__eq__" = some (some (.ref fE)))
    (lI : K.lookup fI = some ⟨oc1, od1, .func (PySem.W.fnOf "__init__" "Library.__init__" (defArgs sLInit) (defBody sLInit) (defScope sLInit) .none kV1 dc1 pm1 an1 cd1 ct1), sl1⟩)
    (lE : K.lookup fE = some ⟨oc2, od2, .func (PySem.W.fnOf "__eq__" "Library.__eq__" (defArgs sLEq) (defBody sLEq) (defScope sLEq) .none kV2 dc2 pm2 an2 cd2 ct2), sl2⟩)
    (c1 : (PySem.W.codeIn K cd1 "Library.__init__" && PySem.W.keepIn K (.ref fI)) = true) (c2 : (PySem.W.codeIn K cd2 "Library.__eq__" && PySem.W.keepIn K (.ref fE)) = true) (ck : chkL K C fI fE = true) : ∃ fdI fdE, LibC K mg C fI fE fdI fdE := by
  obtain ⟨i1, i2⟩ := Bool.and_eq_true_iff.mp c1
  obtain ⟨e1, e2⟩ := Bool.and_eq_true_iff.mp c2
  have FI := fun_mk (st := sLInit) lI i1 i2
  have FE := fun_mk (st := sLEq) lE e1 e2
  obtain ⟨h1, ck⟩ := Bool.and_eq_true_iff.mp ck
  obtain ⟨h2, ck⟩ := Bool.and_eq_true_iff.mp ck
  obtain ⟨h3, ck⟩ := Bool.and_eq_true_iff.mp ck
  obtain ⟨h4, ck⟩ := Bool.and_eq_true_iff.mp ck
  obtain ⟨h5, ck⟩ := Bool.and_eq_true_iff.mp ck
  obtain ⟨h6, ck⟩ := Bool.and_eq_true_iff.mp ck
  obtain ⟨h7, ck⟩ := Bool.and_eq_true_iff.mp ck
  obtain ⟨h8, ck⟩ := Bool.and_eq_true_iff.mp ck
  obtain ⟨h9, ck⟩ := Bool.and_eq_true_iff.mp ck
  obtain ⟨h10, ck⟩ := Bool.and_eq_true_iff.mp ck
  obtain ⟨h11, ck⟩ := Bool.and_eq_true_iff.mp ck
  obtain ⟨h12, ck⟩ := Bool.and_eq_true_iff.mp ck
  obtain ⟨h13, ck⟩ := Bool.and_eq_true_iff.mp ck
  have all := List.all_eq_true.mp ck
  have h8' := of_decide_eq_true h8
  have mem : ∀ k : Kn, k ∈ kns := fun k => by cases k <;> decide
  exact ⟨_, _, ⟨h1, iC, h2, h3⟩, ⟨h4, h5, h6, of_decide_eq_true h7⟩, h8', eC, h9, of_decide_eq_true h10, S.hn, S.ht, of_decide_eq_true h11, of_decide_eq_true h12,
    fun k => of_decide_eq_true (Bool.and_eq_true_iff.mp (all k (mem k))).1, fun k => (Bool.and_eq_true_iff.mp (all k (mem k))).2, h13,
    FI, FI.binds (ps := ["self", "texts"]) (fun _ _ _ _ _ _ us hl => match us, hl with | [_, _], _ => rfl), FE, FE.binds (ps := ["self", "other"]) (fun _ _ _ _ _ _ us hl => match us, hl with | [_, _], _ => rfl), PySem.W.mg_of X G aC⟩
end
theorem end_mk {P : Program} {w : World} {K : PySem.W.Frag} {mg : Str → Option Value} {h : Heap} {fa f PE C fI fE cB cW cP fPNumber fPSigns fPWord fPSize fPTurned fPPlace fPStands fHand fTake fPick fIsInteger fIsWithin fSame fOdd fAlphabet fWord fText fNear fTexts fAreSigns fIsWord fBadTexts fIsPlace fAllPlaces fThing fMade fStood fSomePlace fSomeWord : Addr} {oc kV dc pm cd ct : Value} {od an : Option Addr} {sl : Array (Option Value)} {t8 t2000 : Tok} (X : K.In h) (G : h.Ns mainGlobals mg) (hfa : mg "law" = some (.ref fa))
    (aL : PySem.W.nsIn K mainGlobals "law" = some (some (.ref f))) (lL : K.lookup f = some ⟨oc, od, .func (PySem.W.fnOf "law" "law" (defArgs sLaw) (defBody sLaw) (defScope sLaw) .none kV dc pm an cd ct), sl⟩) (ck : (PySem.W.codeIn K cd "law" && PySem.W.keepIn K (.ref f)) = true)
    (a8 : PySem.W.nsIn K mainGlobals "MOST_TEXTS" = some (some (.int 8 t8))) (a2000 : PySem.W.nsIn K mainGlobals "MOST_SIGNS" = some (some (.int 2000 t2000)))
    (DPNumber : ∃ fd, Df K mg "is_number" sPNumber ["thing"] fPNumber fd)
    (DPSigns : ∃ fd, Df K mg "is_signs" sPSigns ["thing"] fPSigns fd)
    (DPWord : ∃ fd, Df K mg "is_word" sPWord ["thing"] fPWord fd)
    (DPSize : ∃ fd, Df K mg "size" sPSize ["library"] fPSize fd)
    (DPTurned : ∃ fd, Df K mg "turned_about" sPTurned ["library"] fPTurned fd)
    (DPPlace : ∃ fd, Df K mg "is_place" sPPlace ["library", "thing"] fPPlace fd)
    (DPStands : ∃ fd, Df K mg "stands" sPStands ["library", "word", "place"] fPStands fd)
    (DHand : ∃ fd, Df K mg "_law_hand" sHand ["script"] fHand fd)
    (DTake : ∃ fd, Df K mg "_law_take" sTake ["hand", "many"] fTake fd)
    (DPick : ∃ fd, Df K mg "_law_pick" sPick ["hand", "things"] fPick fd)
    (DIsInteger : ∃ fd, Df K mg "_law_is_integer" sIsInteger ["thing"] fIsInteger fd)
    (DIsWithin : ∃ fd, Df K mg "_law_is_within" sIsWithin ["thing", "least", "most"] fIsWithin fd)
    (DSame : ∃ fd, Df K mg "_law_same" sSame ["actual", "due"] fSame fd)
    (DOdd : ∃ fd, Df K mg "_law_odd" sOdd ["hand"] fOdd fd)
    (DAlphabet : ∃ fd, Df K mg "_law_alphabet" sAlphabet ["hand"] fAlphabet fd)
    (DWord : ∃ fd, Df K mg "_law_word" sWord ["hand", "signs", "least", "most"] fWord fd)
    (DText : ∃ fd, Df K mg "_law_text" sText ["hand", "signs", "most"] fText fd)
    (DNear : ∃ fd, Df K mg "_law_near" sNear ["hand", "signs", "text", "most"] fNear fd)
    (DTexts : ∃ fd, Df K mg "_law_texts" sTexts ["hand", "most"] fTexts fd)
    (DAreSigns : ∃ fd, Df K mg "_law_are_signs" sAreSigns ["thing"] fAreSigns fd)
    (DIsWord : ∃ fd, Df K mg "_law_is_word" sIsWord ["thing"] fIsWord fd)
    (DBadTexts : ∃ fd, Df K mg "_law_bad_texts" sBadTexts ["thing"] fBadTexts fd)
    (DIsPlace : ∃ fd, Df K mg "_law_is_place" sIsPlace ["texts", "thing"] fIsPlace fd)
    (DAllPlaces : ∃ fd, Df K mg "_law_all_places" sAllPlaces ["texts"] fAllPlaces fd)
    (DThing : ∃ fd, Df K mg "_law_thing" sThing ["hand", "texts"] fThing fd)
    (DMade : ∃ fd, Df K mg "_law_made" sMade ["thing"] fMade fd)
    (DStood : ∃ fd, Df K mg "_law_stood" sStood ["library", "word", "place"] fStood fd)
    (DSomePlace : ∃ fd, Df K mg "_law_some_place" sSomePlace ["hand", "texts"] fSomePlace fd)
    (DSomeWord : ∃ fd, Df K mg "_law_some_word" sSomeWord ["hand", "texts", "place"] fSomeWord fd)
    (LL : ∃ fdI fdE, LibC K mg C fI fE fdI fdE) (EB : Cls1 K mg PE "BadLibrary" "part" cB) (EW : Cls0 P K mg PE "NoWord" cW) (EP : Cls0 P K mg PE "NoPlace" cP) (ne : cW ≠ cP) (T : Glob mg) :
    ∃ fd : FuncData, (∀ (s : Shared) (u : Value), BindsTo s fd ⟨[u], []⟩ [("script", u)]) ∧ ∀ base : Heap, K.In base → base.Ns mainGlobals mg → FnAt callerA P w K mg base CX0 fa fd ["script"] (spLaw K) := by
  have e := hfa.symm.trans (PySem.W.mg_of X G aL)
  cases e
  obtain ⟨fdI, fdE, L⟩ := LL
  obtain ⟨fdPNumber, DPNumber⟩ := DPNumber
  obtain ⟨fdPSigns, DPSigns⟩ := DPSigns
  obtain ⟨fdPWord, DPWord⟩ := DPWord
  obtain ⟨fdPSize, DPSize⟩ := DPSize
  obtain ⟨fdPTurned, DPTurned⟩ := DPTurned
  obtain ⟨fdPPlace, DPPlace⟩ := DPPlace
  obtain ⟨fdPStands, DPStands⟩ := DPStands
  obtain ⟨fdHand, DHand⟩ := DHand
  obtain ⟨fdTake, DTake⟩ := DTake
  obtain ⟨fdPick, DPick⟩ := DPick
  obtain ⟨fdIsInteger, DIsInteger⟩ := DIsInteger
  obtain ⟨fdIsWithin, DIsWithin⟩ := DIsWithin
  obtain ⟨fdSame, DSame⟩ := DSame
  obtain ⟨fdOdd, DOdd⟩ := DOdd
  obtain ⟨fdAlphabet, DAlphabet⟩ := DAlphabet
  obtain ⟨fdWord, DWord⟩ := DWord
  obtain ⟨fdText, DText⟩ := DText
  obtain ⟨fdNear, DNear⟩ := DNear
  obtain ⟨fdTexts, DTexts⟩ := DTexts
  obtain ⟨fdAreSigns, DAreSigns⟩ := DAreSigns
  obtain ⟨fdIsWord, DIsWord⟩ := DIsWord
  obtain ⟨fdBadTexts, DBadTexts⟩ := DBadTexts
  obtain ⟨fdIsPlace, DIsPlace⟩ := DIsPlace
  obtain ⟨fdAllPlaces, DAllPlaces⟩ := DAllPlaces
  obtain ⟨fdThing, DThing⟩ := DThing
  obtain ⟨fdMade, DMade⟩ := DMade
  obtain ⟨fdStood, DStood⟩ := DStood
  obtain ⟨fdSomePlace, DSomePlace⟩ := DSomePlace
  obtain ⟨fdSomeWord, DSomeWord⟩ := DSomeWord
  obtain ⟨c1, c2⟩ := Bool.and_eq_true_iff.mp ck
  have F1 := fun_mk (st := sLaw) lL c1 c2
  refine ⟨PySem.W.fnOf "law" "law" (defArgs sLaw) (defBody sLaw) (defScope sLaw) .none kV dc pm an cd ct, fun s u => .of_eq rfl, fun base _ _ => ?_⟩
  have TPNumber : Dk P w K mg base "is_number" sPNumber ["thing"] 1 spNum fPNumber fdPNumber := ⟨DPNumber.F, DPNumber.b, DPNumber.g, ok_PNumber DPNumber.F  (T := T)⟩
  have TPSigns : Dk P w K mg base "is_signs" sPSigns ["thing"] 1 spSg fPSigns fdPSigns := ⟨DPSigns.F, DPSigns.b, DPSigns.g, ok_PSigns DPSigns.F  (T := T)⟩
  have TPWord : Dk P w K mg base "is_word" sPWord ["thing"] 2 spWd fPWord fdPWord := ⟨DPWord.F, DPWord.b, DPWord.g, ok_PWord DPWord.F (DPSigns := TPSigns) (T := T)⟩
  have THand : Dk P w K mg base "_law_hand" sHand ["script"] 1 (spHand K) fHand fdHand := ⟨DHand.F, DHand.b, DHand.g, ok_hand DHand.F T⟩
  have TTake : Dk P w K mg base "_law_take" sTake ["hand", "many"] 1 spTake fTake fdTake := ⟨DTake.F, DTake.b, DTake.g, ok_take DTake.F T⟩
  have TPick : Dk P w K mg base "_law_pick" sPick ["hand", "things"] 2 (spPick K) fPick fdPick := ⟨DPick.F, DPick.b, DPick.g, ok_Pick DPick.F (DTake := TTake) (T := T)⟩
  have TIsInteger : Dk P w K mg base "_law_is_integer" sIsInteger ["thing"] 1 spInt fIsInteger fdIsInteger := ⟨DIsInteger.F, DIsInteger.b, DIsInteger.g, ok_IsInteger DIsInteger.F  (T := T)⟩
  have TIsWithin : Dk P w K mg base "_law_is_within" sIsWithin ["thing", "least", "most"] 2 spIn fIsWithin fdIsWithin := ⟨DIsWithin.F, DIsWithin.b, DIsWithin.g, ok_IsWithin DIsWithin.F (DIsInteger := TIsInteger) (T := T)⟩
  have TOdd : Dk P w K mg base "_law_odd" sOdd ["hand"] 2 spOdd fOdd fdOdd := ⟨DOdd.F, DOdd.b, DOdd.g, ok_odd DOdd.F DTake.F DTake.b DTake.g T⟩
  have TAlphabet : Dk P w K mg base "_law_alphabet" sAlphabet ["hand"] 2 spAlpha fAlphabet fdAlphabet := ⟨DAlphabet.F, DAlphabet.b, DAlphabet.g, ok_Alphabet DAlphabet.F (DTake := TTake) (T := T)⟩
  have TWord : Dk P w K mg base "_law_word" sWord ["hand", "signs", "least", "most"] 2 spWord fWord fdWord := ⟨DWord.F, DWord.b, DWord.g, ok_Word DWord.F (DTake := TTake) (T := T)⟩
  have TText : Dk P w K mg base "_law_text" sText ["hand", "signs", "most"] 3 spText fText fdText := ⟨DText.F, DText.b, DText.g, ok_Text DText.F (DTake := TTake) (DWord := TWord) (T := T)⟩
  have TNear : Dk P w K mg base "_law_near" sNear ["hand", "signs", "text", "most"] 3 spNear fNear fdNear := ⟨DNear.F, DNear.b, DNear.g, ok_Near DNear.F (DTake := TTake) (DWord := TWord) (T := T)⟩
  have TTexts : Dk P w K mg base "_law_texts" sTexts ["hand", "most"] 4 spTexts fTexts fdTexts := ⟨DTexts.F, DTexts.b, DTexts.g, ok_Texts DTexts.F (DTake := TTake) (DPick := TPick) (DAlphabet := TAlphabet) (DText := TText) (DNear := TNear) (T := T)⟩
  have TAreSigns : Dk P w K mg base "_law_are_signs" sAreSigns ["thing"] 1 spSg fAreSigns fdAreSigns := ⟨DAreSigns.F, DAreSigns.b, DAreSigns.g, ok_AreSigns DAreSigns.F  (T := T)⟩
  have TIsWord : Dk P w K mg base "_law_is_word" sIsWord ["thing"] 2 spWd fIsWord fdIsWord := ⟨DIsWord.F, DIsWord.b, DIsWord.g, ok_IsWord DIsWord.F (DAreSigns := TAreSigns) (T := T)⟩
  have TBadTexts : Dk P w K mg base "_law_bad_texts" sBadTexts ["thing"] 2 spBad fBadTexts fdBadTexts := ⟨DBadTexts.F, DBadTexts.b, DBadTexts.g, ok_BadTexts DBadTexts.F (DAreSigns := TAreSigns) (T := T)⟩
  have TIsPlace : Dk P w K mg base "_law_is_place" sIsPlace ["texts", "thing"] 3 spPlace fIsPlace fdIsPlace := ⟨DIsPlace.F, DIsPlace.b, DIsPlace.g, ok_IsPlace DIsPlace.F (DIsWithin := TIsWithin) (T := T)⟩
  have TAllPlaces : Dk P w K mg base "_law_all_places" sAllPlaces ["texts"] 1 spAllP fAllPlaces fdAllPlaces := ⟨DAllPlaces.F, DAllPlaces.b, DAllPlaces.g, ok_AllPlaces DAllPlaces.F  (T := T)⟩
  have TThing : Dk P w K mg base "_law_thing" sThing ["hand", "texts"] 3 spThing fThing fdThing := ⟨DThing.F, DThing.b, DThing.g, ok_Thing DThing.F (DTake := TTake) (DPick := TPick) (DOdd := TOdd) (T := T)⟩
  have TSomePlace : Dk P w K mg base "_law_some_place" sSomePlace ["hand", "texts"] 4 spThing fSomePlace fdSomePlace := ⟨DSomePlace.F, DSomePlace.b, DSomePlace.g, ok_SomePlace DSomePlace.F (DTake := TTake) (DPick := TPick) (DOdd := TOdd) (DAllPlaces := TAllPlaces) (T := T)⟩
  have TSomeWord : Dk P w K mg base "_law_some_word" sSomeWord ["hand", "texts", "place"] 4 spSomeW fSomeWord fdSomeWord := ⟨DSomeWord.F, DSomeWord.b, DSomeWord.g, ok_SomeWord DSomeWord.F (DTake := TTake) (DOdd := TOdd) (DWord := TWord) (DIsPlace := TIsPlace) (T := T)⟩
  have S0 : FnOk P w K mg base CX0 1 fSame fdSame ["actual", "due"] (spSame R0) := ⟨fun vs H Q E z => z.elim fun _ z => z.elim fun _ z => z.2.1.elim, fun A outer s H args us vs Q E _ _ _ _ z => z.elim fun _ z => z.elim fun _ z => z.2.1.elim⟩
  have S1 := ok_same_step R0.mono DSame.F DSame.b DSame.g (by decide) S0 TIsInteger T
  have S2 := ok_same_step R1.mono DSame.F DSame.b DSame.g (by decide) S1 TIsInteger T
  have S3 := ok_same_step R2.mono DSame.F DSame.b DSame.g (by decide) S2 TIsInteger T
  have TSame : Dk P w K mg base "_law_same" sSame ["actual", "due"] 4 (spSame R3) fSame fdSame := ⟨DSame.F, DSame.b, DSame.g, S3⟩
  have TPSize : Dk P w K mg base "size" sPSize ["library"] 1 (spSize C) fPSize fdPSize := ⟨DPSize.F, DPSize.b, DPSize.g, ok_PSize DPSize.F L T⟩
  have TPPlace : Dk P w K mg base "is_place" sPPlace ["library", "thing"] 2 (spPPlace C) fPPlace fdPPlace := ⟨DPPlace.F, DPPlace.b, DPPlace.g, ok_PPlace DPPlace.F TPNumber L T⟩
  have GE : FnOk P w K mg base CX0 2 fE fdE ["self", "other"] (spLEq C) := ok_LEq L T
  have GI : FnOk P w K mg base (L2.CX P w) 4 fI fdI ["self", "texts"] (spLInit C cB) := ok_LInit L EB (PySem.W.mg_of X G a8) (PySem.W.mg_of X G a2000) TPSigns T
  have TPTurned : Dk P w K mg base "turned_about" sPTurned ["library"] 6 (spTurned C) fPTurned fdPTurned := ⟨DPTurned.F, DPTurned.b, DPTurned.g, ok_PTurned DPTurned.F L GI T⟩
  have GS : FnOk P w K mg base (L2.CX P w) 3 fPStands fdPStands ["library", "word", "place"] (spStands C cW cP) := ok_PStands DPStands.F L EW EP TPWord TPPlace T
  have TMade : Dk P w K mg base "_law_made" sMade ["thing"] 6 spMade fMade fdMade := ⟨DMade.F, DMade.b, DMade.g, ok_Made DMade.F L EB GI T⟩
  have TStood : Dk P w K mg base "_law_stood" sStood ["library", "word", "place"] 4 (spStood C) fStood fdStood := ⟨DStood.F, DStood.b, DStood.g, ok_Stood DStood.F L EW EP ne DPStands.F DPStands.b DPStands.g GS T⟩
  exact ok_law F1 (DPSize := TPSize) (DPTurned := TPTurned) (DHand := THand) (DTexts := TTexts) (DThing := TThing) (DBadTexts := TBadTexts) (DMade := TMade) (DSame := TSame) (DSomePlace := TSomePlace) (DSomeWord := TSomeWord) (DIsWord := TIsWord) (DIsPlace := TIsPlace) (DStood := TStood) (DOdd := TOdd) (L := L) (GI := GI) (GE := GE) (T := T)
end LawK
open PySem PySem.W PyProof.Rows L2
set_option maxRecDepth 100000 in
set_option maxHeartbeats 0 in
theorem PySem.Challenge.cw_everypiece_k01_libraries_judged_holds : PySem.Challenge.rw_everypiece_k01_libraries_judged.Holds := by
  w_on; o_law; k_head; (case hw => w_witness2)
  k_fill
  refine Ev.walk_at (l := PySem.Challenge.rw_everypiece_k01_libraries_judged) (n := 63) (x := "script") (sp := LawK.spLaw) rfl (by decide) rfl (fun w h Y => PySem.W.kIn_of Y) ?F (fun K H a ns hl _ hS => ⟨a, ns, rfl, hS, fun _ => rfl⟩)
  case F =>
    intro w mg fa h KX G hmg
    have hfa : mg "law" = some (.ref fa) := hmg
    clear hmg
    refine LawK.say KX (fun K => LawK.Sh0 (PySem.W.OpenLaw.prog PySem.Challenge.rw_everypiece_k01_libraries_judged) K mg) (by
      refine' LawK.sh0_mk KX G ?kq1a ?kq1b ?kq1c ?kq1d ?kq1e
      (case kq1a => k_is); (case kq1b => k_is); (case kq1c => k_is); (case kq1d => decide +kernel); (case kq1e => k_is)) ?_
    intro S
    refine LawK.say KX (fun K => LawK.Cls1 K mg 24 "BadLibrary" "part" 44) (by
      refine' LawK.cls1_mk (st := inClass (LawK.topS 2) 0) (qual := "BadLibrary.__init__") KX G S.toSh ⟨⟨_, _, _, _, rfl⟩, ⟨rfl, rfl, rfl, by decide +kernel, rfl, by decide +kernel, by decide +kernel⟩, rfl, rfl, rfl, rfl⟩ (fun _ _ _ _ _ _ us hl => match us, hl with | [_, _], _ => rfl) ?kq2a ?kq2l ?kq2i ?kq2f ?kq2c
      (case kq2a => k_is); (case kq2l => k_is); (case kq2i => k_is); (case kq2f => k_is); (case kq2c => kernel_rfl)) ?_
    intro EB
    refine LawK.say KX (fun K => LawK.Cls0 (PySem.W.OpenLaw.prog PySem.Challenge.rw_everypiece_k01_libraries_judged) K mg 24 "NoWord" 65) (by
      refine' LawK.cls0_mk (qual := "NoWord.__init__") KX G S ?kq3a ?kq3l ?kq3i ?kq3f ?kq3d ?kq3e ?kq3v ?kq3w ?kq3p ?kq3c
      (case kq3a => k_is); (case kq3l => k_is); (case kq3i => k_is); (case kq3f => k_is); (case kq3d => k_is); (case kq3e => k_is); (case kq3v => rfl); (case kq3w => rfl); (case kq3p => rfl); (case kq3c => kernel_rfl)) ?_
    intro EW
    refine LawK.say KX (fun K => LawK.Cls0 (PySem.W.OpenLaw.prog PySem.Challenge.rw_everypiece_k01_libraries_judged) K mg 24 "NoPlace" 86) (by
      refine' LawK.cls0_mk (qual := "NoPlace.__init__") KX G S ?kq4a ?kq4l ?kq4i ?kq4f ?kq4d ?kq4e ?kq4v ?kq4w ?kq4p ?kq4c
      (case kq4a => k_is); (case kq4l => k_is); (case kq4i => k_is); (case kq4f => k_is); (case kq4d => k_is); (case kq4e => k_is); (case kq4v => rfl); (case kq4w => rfl); (case kq4p => rfl); (case kq4c => kernel_rfl)) ?_
    intro EP
    refine LawK.say KX (fun K => ∃ fd, LawK.Df K mg "is_number" LawK.sPNumber ["thing"] 95 fd) (by
      refine' LawK.df_mk KX G (fun _ _ _ _ _ _ us hl => match us, hl with | [_], _ => rfl) ?kq5a ?kq5l ?kq5c
      (case kq5a => k_is); (case kq5l => k_is); (case kq5c => kernel_rfl)) ?_
    intro DPNumber
    refine LawK.say KX (fun K => ∃ fd, LawK.Df K mg "is_signs" LawK.sPSigns ["thing"] 102 fd) (by
      refine' LawK.df_mk KX G (fun _ _ _ _ _ _ us hl => match us, hl with | [_], _ => rfl) ?kq6a ?kq6l ?kq6c
      (case kq6a => k_is); (case kq6l => k_is); (case kq6c => kernel_rfl)) ?_
    intro DPSigns
    refine LawK.say KX (fun K => ∃ fd, LawK.Df K mg "is_word" LawK.sPWord ["thing"] 109 fd) (by
      refine' LawK.df_mk KX G (fun _ _ _ _ _ _ us hl => match us, hl with | [_], _ => rfl) ?kq7a ?kq7l ?kq7c
      (case kq7a => k_is); (case kq7l => k_is); (case kq7c => kernel_rfl)) ?_
    intro DPWord
    refine LawK.say KX (fun K => ∃ fd, LawK.Df K mg "size" LawK.sPSize ["library"] 140 fd) (by
      refine' LawK.df_mk KX G (fun _ _ _ _ _ _ us hl => match us, hl with | [_], _ => rfl) ?kq8a ?kq8l ?kq8c
      (case kq8a => k_is); (case kq8l => k_is); (case kq8c => kernel_rfl)) ?_
    intro DPSize
    refine LawK.say KX (fun K => ∃ fd, LawK.Df K mg "turned_about" LawK.sPTurned ["library"] 145 fd) (by
      refine' LawK.df_mk KX G (fun _ _ _ _ _ _ us hl => match us, hl with | [_], _ => rfl) ?kq9a ?kq9l ?kq9c
      (case kq9a => k_is); (case kq9l => k_is); (case kq9c => kernel_rfl)) ?_
    intro DPTurned
    refine LawK.say KX (fun K => ∃ fd, LawK.Df K mg "is_place" LawK.sPPlace ["library", "thing"] 152 fd) (by
      refine' LawK.df_mk KX G (fun _ _ _ _ _ _ us hl => match us, hl with | [_, _], _ => rfl) ?kq10a ?kq10l ?kq10c
      (case kq10a => k_is); (case kq10l => k_is); (case kq10c => kernel_rfl)) ?_
    intro DPPlace
    refine LawK.say KX (fun K => ∃ fd, LawK.Df K mg "stands" LawK.sPStands ["library", "word", "place"] 159 fd) (by
      refine' LawK.df_mk KX G (fun _ _ _ _ _ _ us hl => match us, hl with | [_, _, _], _ => rfl) ?kq11a ?kq11l ?kq11c
      (case kq11a => k_is); (case kq11l => k_is); (case kq11c => kernel_rfl)) ?_
    intro DPStands
    refine LawK.say KX (fun K => ∃ fd, LawK.Df K mg "_law_hand" LawK.sHand ["script"] 166 fd) (by
      refine' LawK.df_mk KX G (fun _ _ _ _ _ _ us hl => match us, hl with | [_], _ => rfl) ?kq12a ?kq12l ?kq12c
      (case kq12a => k_is); (case kq12l => k_is); (case kq12c => kernel_rfl)) ?_
    intro DHand
    refine LawK.say KX (fun K => ∃ fd, LawK.Df K mg "_law_take" LawK.sTake ["hand", "many"] 173 fd) (by
      refine' LawK.df_mk KX G (fun _ _ _ _ _ _ us hl => match us, hl with | [_, _], _ => rfl) ?kq13a ?kq13l ?kq13c
      (case kq13a => k_is); (case kq13l => k_is); (case kq13c => kernel_rfl)) ?_
    intro DTake
    refine LawK.say KX (fun K => ∃ fd, LawK.Df K mg "_law_pick" LawK.sPick ["hand", "things"] 180 fd) (by
      refine' LawK.df_mk KX G (fun _ _ _ _ _ _ us hl => match us, hl with | [_, _], _ => rfl) ?kq14a ?kq14l ?kq14c
      (case kq14a => k_is); (case kq14l => k_is); (case kq14c => kernel_rfl)) ?_
    intro DPick
    refine LawK.say KX (fun K => ∃ fd, LawK.Df K mg "_law_is_integer" LawK.sIsInteger ["thing"] 187 fd) (by
      refine' LawK.df_mk KX G (fun _ _ _ _ _ _ us hl => match us, hl with | [_], _ => rfl) ?kq15a ?kq15l ?kq15c
      (case kq15a => k_is); (case kq15l => k_is); (case kq15c => kernel_rfl)) ?_
    intro DIsInteger
    refine LawK.say KX (fun K => ∃ fd, LawK.Df K mg "_law_is_within" LawK.sIsWithin ["thing", "least", "most"] 194 fd) (by
      refine' LawK.df_mk KX G (fun _ _ _ _ _ _ us hl => match us, hl with | [_, _, _], _ => rfl) ?kq16a ?kq16l ?kq16c
      (case kq16a => k_is); (case kq16l => k_is); (case kq16c => kernel_rfl)) ?_
    intro DIsWithin
    refine LawK.say KX (fun K => ∃ fd, LawK.Df K mg "_law_same" LawK.sSame ["actual", "due"] 201 fd) (by
      refine' LawK.df_mk KX G (fun _ _ _ _ _ _ us hl => match us, hl with | [_, _], _ => rfl) ?kq17a ?kq17l ?kq17c
      (case kq17a => k_is); (case kq17l => k_is); (case kq17c => kernel_rfl)) ?_
    intro DSame
    refine LawK.say KX (fun K => ∃ fd, LawK.Df K mg "_law_odd" LawK.sOdd ["hand"] 208 fd) (by
      refine' LawK.df_mk KX G (fun _ _ _ _ _ _ us hl => match us, hl with | [_], _ => rfl) ?kq18a ?kq18l ?kq18c
      (case kq18a => k_is); (case kq18l => k_is); (case kq18c => kernel_rfl)) ?_
    intro DOdd
    refine LawK.say KX (fun K => ∃ fd, LawK.Df K mg "_law_alphabet" LawK.sAlphabet ["hand"] 215 fd) (by
      refine' LawK.df_mk KX G (fun _ _ _ _ _ _ us hl => match us, hl with | [_], _ => rfl) ?kq19a ?kq19l ?kq19c
      (case kq19a => k_is); (case kq19l => k_is); (case kq19c => kernel_rfl)) ?_
    intro DAlphabet
    refine LawK.say KX (fun K => ∃ fd, LawK.Df K mg "_law_word" LawK.sWord ["hand", "signs", "least", "most"] 220 fd) (by
      refine' LawK.df_mk KX G (fun _ _ _ _ _ _ us hl => match us, hl with | [_, _, _, _], _ => rfl) ?kq20a ?kq20l ?kq20c
      (case kq20a => k_is); (case kq20l => k_is); (case kq20c => kernel_rfl)) ?_
    intro DWord
    refine LawK.say KX (fun K => ∃ fd, LawK.Df K mg "_law_text" LawK.sText ["hand", "signs", "most"] 227 fd) (by
      refine' LawK.df_mk KX G (fun _ _ _ _ _ _ us hl => match us, hl with | [_, _, _], _ => rfl) ?kq21a ?kq21l ?kq21c
      (case kq21a => k_is); (case kq21l => k_is); (case kq21c => kernel_rfl)) ?_
    intro DText
    refine LawK.say KX (fun K => ∃ fd, LawK.Df K mg "_law_near" LawK.sNear ["hand", "signs", "text", "most"] 234 fd) (by
      refine' LawK.df_mk KX G (fun _ _ _ _ _ _ us hl => match us, hl with | [_, _, _, _], _ => rfl) ?kq22a ?kq22l ?kq22c
      (case kq22a => k_is); (case kq22l => k_is); (case kq22c => kernel_rfl)) ?_
    intro DNear
    refine LawK.say KX (fun K => ∃ fd, LawK.Df K mg "_law_texts" LawK.sTexts ["hand", "most"] 241 fd) (by
      refine' LawK.df_mk KX G (fun _ _ _ _ _ _ us hl => match us, hl with | [_, _], _ => rfl) ?kq23a ?kq23l ?kq23c
      (case kq23a => k_is); (case kq23l => k_is); (case kq23c => kernel_rfl)) ?_
    intro DTexts
    refine LawK.say KX (fun K => ∃ fd, LawK.Df K mg "_law_are_signs" LawK.sAreSigns ["thing"] 248 fd) (by
      refine' LawK.df_mk KX G (fun _ _ _ _ _ _ us hl => match us, hl with | [_], _ => rfl) ?kq24a ?kq24l ?kq24c
      (case kq24a => k_is); (case kq24l => k_is); (case kq24c => kernel_rfl)) ?_
    intro DAreSigns
    refine LawK.say KX (fun K => ∃ fd, LawK.Df K mg "_law_is_word" LawK.sIsWord ["thing"] 255 fd) (by
      refine' LawK.df_mk KX G (fun _ _ _ _ _ _ us hl => match us, hl with | [_], _ => rfl) ?kq25a ?kq25l ?kq25c
      (case kq25a => k_is); (case kq25l => k_is); (case kq25c => kernel_rfl)) ?_
    intro DIsWord
    refine LawK.say KX (fun K => ∃ fd, LawK.Df K mg "_law_bad_texts" LawK.sBadTexts ["thing"] 260 fd) (by
      refine' LawK.df_mk KX G (fun _ _ _ _ _ _ us hl => match us, hl with | [_], _ => rfl) ?kq26a ?kq26l ?kq26c
      (case kq26a => k_is); (case kq26l => k_is); (case kq26c => kernel_rfl)) ?_
    intro DBadTexts
    refine LawK.say KX (fun K => ∃ fd, LawK.Df K mg "_law_is_place" LawK.sIsPlace ["texts", "thing"] 267 fd) (by
      refine' LawK.df_mk KX G (fun _ _ _ _ _ _ us hl => match us, hl with | [_, _], _ => rfl) ?kq27a ?kq27l ?kq27c
      (case kq27a => k_is); (case kq27l => k_is); (case kq27c => kernel_rfl)) ?_
    intro DIsPlace
    refine LawK.say KX (fun K => ∃ fd, LawK.Df K mg "_law_all_places" LawK.sAllPlaces ["texts"] 272 fd) (by
      refine' LawK.df_mk KX G (fun _ _ _ _ _ _ us hl => match us, hl with | [_], _ => rfl) ?kq28a ?kq28l ?kq28c
      (case kq28a => k_is); (case kq28l => k_is); (case kq28c => kernel_rfl)) ?_
    intro DAllPlaces
    refine LawK.say KX (fun K => ∃ fd, LawK.Df K mg "_law_thing" LawK.sThing ["hand", "texts"] 279 fd) (by
      refine' LawK.df_mk KX G (fun _ _ _ _ _ _ us hl => match us, hl with | [_, _], _ => rfl) ?kq29a ?kq29l ?kq29c
      (case kq29a => k_is); (case kq29l => k_is); (case kq29c => kernel_rfl)) ?_
    intro DThing
    refine LawK.say KX (fun K => ∃ fd, LawK.Df K mg "_law_made" LawK.sMade ["thing"] 286 fd) (by
      refine' LawK.df_mk KX G (fun _ _ _ _ _ _ us hl => match us, hl with | [_], _ => rfl) ?kq30a ?kq30l ?kq30c
      (case kq30a => k_is); (case kq30l => k_is); (case kq30c => kernel_rfl)) ?_
    intro DMade
    refine LawK.say KX (fun K => ∃ fd, LawK.Df K mg "_law_stood" LawK.sStood ["library", "word", "place"] 293 fd) (by
      refine' LawK.df_mk KX G (fun _ _ _ _ _ _ us hl => match us, hl with | [_, _, _], _ => rfl) ?kq31a ?kq31l ?kq31c
      (case kq31a => k_is); (case kq31l => k_is); (case kq31c => kernel_rfl)) ?_
    intro DStood
    refine LawK.say KX (fun K => ∃ fd, LawK.Df K mg "_law_some_place" LawK.sSomePlace ["hand", "texts"] 300 fd) (by
      refine' LawK.df_mk KX G (fun _ _ _ _ _ _ us hl => match us, hl with | [_, _], _ => rfl) ?kq32a ?kq32l ?kq32c
      (case kq32a => k_is); (case kq32l => k_is); (case kq32c => kernel_rfl)) ?_
    intro DSomePlace
    refine LawK.say KX (fun K => ∃ fd, LawK.Df K mg "_law_some_word" LawK.sSomeWord ["hand", "texts", "place"] 307 fd) (by
      refine' LawK.df_mk KX G (fun _ _ _ _ _ _ us hl => match us, hl with | [_, _, _], _ => rfl) ?kq33a ?kq33l ?kq33c
      (case kq33a => k_is); (case kq33l => k_is); (case kq33c => kernel_rfl)) ?_
    intro DSomeWord
    have GL : LawK.Glob mg := ⟨mg_none_of KX G (by k_is), mg_none_of KX G (by k_is), mg_none_of KX G (by k_is), mg_none_of KX G (by k_is), mg_none_of KX G (by k_is), mg_none_of KX G (by k_is), mg_none_of KX G (by k_is), mg_none_of KX G (by k_is), mg_none_of KX G (by k_is), mg_none_of KX G (by k_is), mg_none_of KX G (by k_is), mg_none_of KX G (by k_is), mg_none_of KX G (by k_is)⟩
    refine' LawK.end_mk (C := 131) KX G hfa ?kq34a ?kq34l ?kq34c ?kq34e ?kq34h DPNumber DPSigns DPWord DPSize DPTurned DPPlace DPStands DHand DTake DPick DIsInteger DIsWithin DSame DOdd DAlphabet DWord DText DNear DTexts DAreSigns DIsWord DBadTexts DIsPlace DAllPlaces DThing DMade DStood DSomePlace DSomeWord ?kq34g EB EW EP (by decide) GL
    (case kq34a => k_is); (case kq34l => k_is); (case kq34c => kernel_rfl); (case kq34e => k_is); (case kq34h => k_is)
    case kq34g =>
      refine' LawK.lib_mk KX G S.toSh ?kq35a ?kq35b ?kq35c ?kq35d ?kq35e ?kq35f ?kq35h ?kq35i
      (case kq35a => k_is); (case kq35b => k_is); (case kq35c => k_is); (case kq35d => k_is); (case kq35e => k_is); (case kq35f => kernel_rfl); (case kq35h => kernel_rfl); (case kq35i => kernel_rfl)
