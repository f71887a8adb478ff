import PyProof.Rows.All
import Wide.All
import OpenK.AllK
import Wide.FinOn
import KE.KExcSuper
import KE.KExcMake
import HandS.ForExc
import HandS.ExcInit
import HandS.ExcValue
import HandS.ExcIs
import KE.KExcIs
import HandS.ExcField
import HandS.IsInst
import HandS.TryMany
import PyProof.ReprRoads
import PyProof.ReprLen
import HandS.Dict
import HandS.ForMost
import HandS.TryOnly
import PySem.Challenge.RW_everypiece_k00_errors_keep_what_is_passe
set_option Elab.async false
set_option linter.all false
set_option maxRecDepth 100000
set_option maxHeartbeats 4000000
/-! Own errors whose __init__ says super().__init__() and nothing else. -/
namespace Ev
open PySem PySem.W PySem.Calls PyProof.Rows L2

abbrev supArgs (p : Pos) : Arguments := { posonlyargs := [], args := [{ arg := "self", annotation := none, pos := p }], vararg := none, kwonlyargs := [], kw_defaults := [], kwarg := none, defaults := [] }
abbrev supBody (p0 p1 p2 p3 p4 : Pos) : List Stmt := [.Expr (.Call (.Attribute (.Call (.Name "super" p0) [] [] p1) "__init__" p2) [] [] p3) p4]

abbrev supScope : Scope := { kind := .function, names := [(PySem.Str.ofString "self", .local), (PySem.Str.ofString "__class__", .free), (PySem.Str.ofString "super", .globalImplicit)], isGenerator := false, isCoroutine := false, more := [] }
theorem sup_l1 : supScope.names.lookup ("self" : Str) = some .local := by decide +kernel
theorem sup_l2 : supScope.names.lookup ("super" : Str) = some .globalImplicit := by decide +kernel
theorem sup_l3 : supScope.names.lookup ("__class__" : Str) = some .free := by decide +kernel
/-- what the written part tells of such a class at C, whose __init__ stands at fI -/
structure SupC (P : Program) (K : Frag) (mg : Str → Option Value) (C fI : Addr) : Prop where
  oex : OexC K C
  ini : findIn K (.ref C) "__init__" = some (some (.ref fI))
  tyI : typeIn K (.ref fI) = some (.type "function")
  fn : ∃ (oc : Value) (od : Option Addr) (qual : Str) (kV doc pm ct : Value) (an : Option Addr) (cda cc : Addr) (osl : Array (Option Value)) (p p0 p1 p2 p3 p4 : Pos) (ccl : Value) (cdd : Option Addr) (vs : Array Value) (ccs : Array (Option Value)) (file : Str) (tf : Tok) (cl : Value) (cld : Option Addr) (csl : Array (Option Value)),
    K.lookup fI = some ⟨oc, od, .func (ksFn "__init__" qual (supArgs p) (supBody p0 p1 p2 p3 p4) supScope .none kV doc pm an (.ref cda) ct cc), osl⟩ ∧ codeIn K (.ref cda) qual = true ∧
    K.lookup cda = some ⟨ccl, cdd, .fields vs, ccs⟩ ∧ vs[2]? = some (.str file tf) ∧ ((P.main.file : Str) == file) = true ∧ K.lookup cc = some ⟨cl, cld, .cell (some (.ref C)), csl⟩ ∧
    (p2.endLine == p3.line) = true
  gs : mg "super" = none
  top : (P.main.scope.names.lookup ("super" : Str)).isSome = false
  third : nsIn K cStatics "thirdparty.any" = some none
  sup : ks_superIn K C C "__init__" = some (some (.builtin "ValueError.__init__"))
  ve : subIn K (.ref C) (.type "ValueError") = some true
  me : mroIn K C (.ref C) = some true

theorem sup_eval {env : Env} {p0 p1 p2 p3 : Pos} (h : (p2.endLine == p3.line) = true) : eval (.Call (.Attribute (.Call (.Name "super" p0) [] [] p1) "__init__" p2) [] [] p3) env = (do
      let ov ← attributeBase (.Call (.Name "super" p0) [] [] p1) "__init__" env (eval (.Call (.Name "super" p0) [] [] p1) env)
      standAt p2.atName
      let (f, first) ← holding [ov] (getMethod ov "__init__" (do return (← importBound (.Call (.Name "super" p0) [] [] p1) env).getD true))
      callWith p3 f first (backTo p3 (starEach [] env)) []) := by
  have e : methodCallPos true (.Call (.Name "super" p0) [] [] p1) env p2 p3 = pure p3 := by
    unfold methodCallPos
    rw [h]
    rfl
  show (do
    let ov ← attributeBase (.Call (.Name "super" p0) [] [] p1) "__init__" env (eval (.Call (.Name "super" p0) [] [] p1) env)
    standAt p2.atName
    let (f, first) ← holding [ov] (getMethod ov "__init__" (do return (← importBound (.Call (.Name "super" p0) [] [] p1) env).getD true))
    let callPos ← methodCallPos true (.Call (.Name "super" p0) [] [] p1) env p2 p3
    callWith callPos f first (backTo p3 (starEach [] env)) []) = _
  rw [e]
  rfl
theorem boot_super : bootBuiltins "super" = some (.type "super") := by first | boot_by_name | rfl | kernel_rfl

section
variable {P : Program} {w : World} {A : Around} {E : Value → Shared → Prop} {K : Frag} {mg mb : Str → Option Value} {C fI x t0 : Addr} {h : Heap} {g : Array GenState} {d : Drawn} {tk : Nat} {os : OsState}

/-- the wrapper that super().__init__ gives, called: the args are laid anew -/
theorem bound_init {u : Addr} {Q : Value → Shared → Prop} (T : OexC K C) (X : K.In h) (hu : h.get? u = some (kxs_mw "ValueError.__init__" x)) (hx : h.get? x = some (PySem.HandSPX.excO C t0))
    (hq : ∀ h' t1, (∀ b o, b ≠ x → h.get? b = some o → h'.get? b = some o) → h'.get? x = some (PySem.HandSPX.excO C t1) → Q .none ⟨h', g, d, tk, os⟩) :
    wpAny (model P w) A (call (.ref u) []) Q E ⟨h, g, d, tk, os⟩ := by
  obtain ⟨nm, q, N, bs, bm, sn, sub, ab, col, dd, k0, k1, k2, k3, k5, hC, hbm⟩ := T.cls
  refine wpAny_call (codeAny_of_tree ?_)
  show wpAny _ A.in1 (callAny (.ref u) ⟨[], []⟩) _ _ _
  simp only [callAny]
  refine wpAny_bind (wpAny_load hu ?_)
  simp only [kxs_mw, show (Value.type "method-wrapper" == Value.type "method" || Value.type "method-wrapper" == Value.type "builtin_function_or_method" || Value.type "method-wrapper" == Value.type "method-wrapper") = true by decide, if_true]
  refine KFB.if_so (by decide) ?_
  refine wpAny_bind (check_bound_init F.excBase_ValueError.toExcCallFacts (X _ _ hC) hx rfl ?_)
  refine wpAny_bind (wpAny_pure (wpAny_pure ?_))
  refine ⟨plainId_quiet F.excBase_ValueError.init.plain _, codeAny_builtin F.excBase_ValueError.initEntry ?_⟩
  exact exc_init_tree (cls := .ref C) (t0 := t0) (dv := none) (c2 := .none) (c3 := .none) (b4 := .bool false) hx (by rw [sizeLine_eq]; exact Nat.zero_le _) fun h' k e _ => hq h' h.objs.size k e

theorem sup_init {R : Result → Shared → Prop} {s : Shared} (T : SupC P K mg C fI) (hroom : A.depth < recursionLimit) (X : K.In s.heap) (hlim : s.heap.NoLimit) (G : s.heap.Ns mainGlobals mg) (B : s.heap.Ns builtinsNs mb)
    (hbb : ∀ y : Str, y ≠ "__name__" → mb y = bootBuiltins y) (hx : s.heap.get? x = some (PySem.HandSPX.excO C t0))
    (hq : ∀ h' t' t1, (∀ b o, b ≠ x → s.heap.get? b = some o → h'.get? b = some o) → h'.get? x = some (PySem.HandSPX.excO C t1) → R (.ok (.ret .none)) { s with heap := h', toks := t' }) :
    codeAny (model P w) A (.call (.ref fI) ⟨[.ref x], []⟩) R s := by
  obtain ⟨oc, od, qual, kV, doc, pm, ct, an, cda, cc, osl, p, p0, p1, p2, p3, p4, ccl, cdd, vs, ccs, file, tf, cl, cld, csl, ho, hcd, hcode, hvs, hfile, hcell, hline⟩ := T.fn
  refine ks_codeAny_call_defAt (fd := ksFn "__init__" qual (supArgs p) (supBody p0 p1 p2 p3 p4) supScope .none kV doc pm an (.ref cda) ct cc) (body := supBody p0 p1 p2 p3 p4) (binds := [("self", .ref x)]) hroom (X _ _ ho) rfl hlim (codeRec_of X hcd) rfl
    (BindsTo.of_eq rfl) (by show ∀ y ∈ supScope.names, y.2 ≠ .cell; decide) (fun y hy => ?_) (fun h₁ hns k₁ => ?_)
  · obtain rfl : y = (("self" : Str), Value.ref x) := List.mem_singleton.mp hy
    exact sup_l1
  obtain ⟨hp, g, d, tk, os⟩ := s
  have X₁ : K.In h₁ := X.keeps k₁
  have hx₁ : h₁.get? x = some (PySem.HandSPX.excO C t0) := k₁ _ _ hx
  have G₁ : h₁.Ns mainGlobals mg := G.keeps k₁
  have B₁ : h₁.Ns builtinsNs mb := B.keeps k₁
  obtain ⟨nm, q, N, bs, bm, sn, sub, ab, col, dd, q0, q1, q2, q3, q5, hC, hbm⟩ := T.oex.cls
  show _root_.PySem.wpAt _ _ _ (execs (supBody p0 p1 p2 p3 p4) (ksEnv qual supScope hp.objs.size fI (.ref cda) cc)) _ _ _
  refine ks_wpAt_execs_cons (ks_wpAt_Expr_any (ks_wpAt_MethodCall ?_ (sup_eval hline)))
  refine ks_wpAt_super_base (env := ksEnv qual supScope hp.objs.size fI (.ref cda) cc) sup_l2 sup_l3 (by decide) rfl (X₁ _ _ ho) rfl rfl rfl (X₁ _ _ hcode) rfl hvs hfile T.top ?_
  refine ks_loadName_global rfl sup_l2 (loadGlobal_builtin (env := ksEnv qual supScope hp.objs.size fI (.ref cda) cc) G₁ T.gs B₁ ((hbb _ (by decide +kernel)).trans boot_super) ⟨rfl, ?_⟩)
  refine wpAny_loadName_free rfl sup_l3 rfl ⟨_, X₁ _ _ hcell, rfl⟩ ?_
  refine wpAny_loadName_local rfl sup_l1 hns (v := .ref x) (by show List.lookup ("self" : Str) [(("self" : Str), Value.ref x)] = some (Value.ref x); simp [List.lookup]) ?_
  refine ks_wpAny_isType_cls (X₁ _ _ hC) rfl ⟨rfl, ?_⟩
  have I : InstAt h₁ x (PySem.HandSPX.excO C t0) C none := ⟨hx₁, rfl, rfl, trivial⟩
  refine ks_wpAny_call_super (X₁ _ _ hC) rfl I.at_ I.cls (fun c e => by cases e) (looks_mroIn X₁ T.me) (fun h' e k => ?_)
  have X₂ : K.In h' := X₁.keeps k
  have hx₂ : h'.get? x = some (PySem.HandSPX.excO C t0) := k _ _ hx₁
  have I₂ : InstAt h' x (PySem.HandSPX.excO C t0) C none := ⟨hx₂, rfl, rfl, trivial⟩
  have hsu := T.sup
  unfold ks_superIn at hsu
  have hcl : clsIn K C = some { name := nm, bases := bs, mro := .ref C :: bm, ns := N, qualname := q, hasDict := true, slotNames := sn, subclasses := sub, abstract := ab, collection := col, hasDel := false } := by unfold clsIn; rw [hC] <;> rfl
  rw [hcl] at hsu
  refine kxs_getMethod kxs_ValueError e (looks_opaque X₂ T.third) (l₀ := .ref C :: bm) ?_ rfl X₂ hsu (I₂.type.andThen (looks_subIn X₂ T.ve)) (ks_ne X₂ I₂ hcl) (by decide) ?_
  · exact fun A Q E s k q => wpAny_bind ((looks_clsIn X₂ hcl) A _ E s k (wpAny_pure q))
  have hne : h'.objs.size ≠ x := Nat.ne_of_gt (Heap.lt_size hx₂)
  have k2 : ∀ b o, h'.get? b = some o → (h'.push (kxs_mw "ValueError.__init__" x)).get? b = some o := fun b o z => Heap.get?_push_of_some _ z
  have hmw : (h'.push (kxs_mw "ValueError.__init__" x)).get? h'.objs.size = some (kxs_mw "ValueError.__init__" x) := Heap.get?_push_at rfl rfl
  refine kxs_callWith (i := "ValueError.__init__") (x := x) rfl (evalArgs_empty ⟨hmw, ?_⟩)
  refine bound_init T.oex (X₂.keeps k2) hmw (k2 _ _ hx₂) fun h3 t1 k3 hx3 => ?_
  exact wpAt_of_wpAny (wpAny_execs_nil (hq h3 _ t1 (fun b o hb z => k3 b o hb (k2 b o (k b o (k₁ b o z)))) hx3))
end
end Ev
set_option maxHeartbeats 4000000
/-! Rules for own errors as values: made, asked by isinstance, their fields read. -/
namespace Ev
open PySem PySem.Spec PyProof.Rows L2

section
variable {X : Cx} {x : Str} {C fI : Addr} {p pos : Pos}
theorem make_room {k : Nat} {A : Around} (hr : Room k A) {us : List Value} : (A.under (.builtin "type.__call__" ⟨.ref C :: us, []⟩)).depth < recursionLimit := by
  rw [make_depth]
  have := hr.dp
  omega
/-- C() of a class whose __init__ is super().__init__(): what stands behind it -/
theorem run_exc0 {pins : List (Addr × Obj)} {s : Shared} {σ : L2.St} {H : Hp} {k : Nat} {Q : Value → Shared → Prop} (T : SupC X.prog X.K X.mg C fI) (hr : Room k X.A) (I : Inv X pins σ H s)
    (h : ∀ h' tk a t1, s.heap.objs.size ≤ a → (∀ b o, s.heap.get? b = some o → h'.get? b = some o) → h'.get? a = some (PySem.HandSPX.excO C t1) → Q (.ref a) { s with heap := h', toks := tk }) :
    wpAny (model X.prog X.w) X.A (call (.ref C) []) Q X.xe s := by
  obtain ⟨nm, q, N, bs, bm, sn, sub, ab, col, dd, k0, k1, k2, k3, k5, hC, hbm⟩ := T.oex.cls
  obtain ⟨mb, hb1, hb2⟩ := I.mod.blt
  have kX := I.kIn
  have lim := I.nolimit
  have g1 := I.mod.glob.keeps I.bk
  have b1 := hb1.keeps I.bk
  obtain ⟨hp, g, dr, tk, os⟩ := s
  have kk : ∀ b o, hp.get? b = some o → ((hp.push (PySem.W.kdv_tup [])).push (PySem.HandSPX.excO C hp.objs.size)).get? b = some o := fun b o e => Heap.get?_push_of_some _ (Heap.get?_push_of_some _ e)
  have hget : ((hp.push (PySem.W.kdv_tup [])).push (PySem.HandSPX.excO C hp.objs.size)).get? (hp.objs.size + 1) = some (PySem.HandSPX.excO C hp.objs.size) := by heap_get
  refine wpAny_call (PySem.HandSPX.call_own F.excBase_ValueError (fun Y => PySem.HandSPX.refsVE_contains Y bm hbm) (kX _ _ hC) (PySem.W.looks_findIn kX T.ini) (fun self => PySem.W.bind_fn kX self T.tyI) (by rw [sizeLine_eq]; exact Nat.zero_le _)
    (sup_init (s := ⟨(hp.push (PySem.W.kdv_tup [])).push (PySem.HandSPX.excO C hp.objs.size), g, dr, tk, os⟩) T (make_room hr) (kX.keeps kk) (lim.keeps kk) (g1.keeps kk) (b1.keeps kk) hb2 hget fun h' t' t1 k' hx => ⟨rfl, ?_⟩))
  exact h h' t' (hp.objs.size + 1) t1 (Nat.le_succ _) (fun b o e => k' b o (Nat.ne_of_lt (Nat.lt_succ_of_lt (Heap.lt_size e))) (kk b o e)) hx
def tExc0 (C : Addr) : TE := fun _ H Q => ∀ a, H a = none → Q (.ref a) (upd H a (exo a C none))
theorem pe_exc0 {k : Nat} (T : SupC X.prog X.K X.mg C fI) (hr : Room k X.A) (hg : Gl X x) (hm : X.mg x = some (.ref C)) (hdb : (x == ("__debug__" : Str)) = false := by decide) : PE X (.Call (.Name x p) [] [] pos) (tExc0 C) := by
  refine ⟨fun pins s σ H Q I h => ?_⟩
  refine wpAny_Call_Name_kw (ld_glob I hg hm ?_ hdb)
  refine PySem.W.callWith_K0 I.kIn T.oex.kC ?_
  show wpAny _ _ (call (.ref C) []) _ _ _
  refine run_exc0 T hr I fun h' tk a t1 ha k e => ?_
  exact ⟨.ref a, upd H a (exo a C none), I.laid k ha (exo_ok e), rfl, h a (I.hok.fresh ha)⟩
/-- raised at once -/
theorem pmk_exc0 {k : Nat} (T : SupC X.prog X.K X.mg C fI) (hr : Room k X.A) (hg : Gl X x) (hm : X.mg x = some (.ref C)) (hdb : (x == ("__debug__" : Str)) = false := by decide) : PMk X (.Call (.Name x p) [] [] pos) (fun _ H Q => Q (.ref C) none H) := by
  intro pins s σ H Q I h
  refine wpAny_Call_Name_kw (ld_glob I hg hm ?_ hdb)
  refine PySem.W.callWith_K0 I.kIn T.oex.kC ?_
  show wpAny _ _ (call (.ref C) []) _ _ _
  refine run_exc0 T hr I fun h' tk a t1 ha k e => ?_
  refine ⟨a, _, _, s, H, .ref C, none, rfl, I, k, ?_, e, ⟨rfl, rfl⟩, rfl, rfl, I.hok.fresh ha, rfl, I.bare, raises_own T.oex.exC T.oex.tyC, h⟩
  exact Heap.get?_none_of_le ha
end

/-! ### __init__(self, f): self.f = f -/
structure Ini1 (st : Stmt) (f : Str) : Prop where
  body : ∃ q1 q2 q3 q4, defBody st = [.Assign [.Attribute (.Name "self" q1) f q2] (.Name f q3) q4]
  sc : FnScope ["self", f] ["self", f] (defScope st)
  l0 : (defScope st).names.lookup ("self" : Str) = some .local
  l1 : (defScope st).names.lookup f = some .local
  d1 : (f == ("__debug__" : Str)) = false
  d2 : (f == ("__classdict__" : Str)) = false
def spIni1 (C : Addr) (f : Str) : Sp := fun vs H Q _ => ∃ (a : Addr) (v : V), vs = [.ref a, v] ∧ H a = some (exo a C none) ∧ ∀ dx, H dx = none → dx ≠ a → Q .non (upd (upd H dx (exd dx [(f, v)])) a (exo a C (some dx)))
section
variable {P : Program} {w : World} {K : PySem.W.Frag} {mg : Str → Option Value} {base : Heap} {C : Addr}
theorem ok_ini1 {qual f : Str} {st : Stmt} {fI : Addr} {fd : FuncData} (F : Fun K "__init__" qual st fI fd) (S : Ini1 st f) (T : OexC K C) (hno : PySem.W.findIn K (.ref C) f = some none) : FnOk P w K mg base CX0 1 fI fd ["self", f] (spIni1 C f) := by
  refine F.ok S.sc (fun vs H Q E h => ?_) (fun cdv A outer s H vs Q E hr h => ?_)
  · obtain ⟨a, v, rfl, _⟩ := h
    rfl
  · obtain ⟨a, v, rfl, ha, q⟩ := h
    obtain ⟨q1, q2, q3, q4, hb⟩ := S.body
    rw [hb]
    refine ⟨_, pss_one (ps_ost (pv 0 rfl (.inl S.l0)) (pv 1 rfl (.inl S.l1) S.d1 S.d2)), ?_⟩
    exact ⟨v, rfl, .ref a, rfl, a, C, rfl, T, hno, .inl ⟨ha, fun dx n ne => q dx n ne⟩⟩
end
theorem upd3 {H : Hp} {a d : Addr} {o1 o2 o3 : HO} (h : d ≠ a) : upd (upd (upd H a o1) d o2) a o3 = upd (upd H d o2) a o3 := by
  funext b
  by_cases e : b = a
  · rw [e, upd_same, upd_same]
  · rw [upd_ne e, upd_ne e]
    by_cases e2 : b = d
    · rw [e2, upd_same, upd_same]
    · rw [upd_ne e2, upd_ne e2, upd_ne e]
def tExc1 (C : Addr) (f : Str) (ta : TA) : TE := fun σ H Q => ta σ H fun vs H1 => ∃ v, vs = [v] ∧ ∀ a d, H1 a = none → H1 d = none → d ≠ a → Q (.ref a) (upd (upd H1 d (exd d [(f, v)])) a (exo a C (some d)))
section
variable {X : Cx} {x f : Str} {C fI : Addr} {p pos : Pos} {e : Expr} {ta : TA} {fd : FuncData}
theorem pe_exc1 {k : Nat} (T : OexC X.K C) (iC : PySem.W.findIn X.K (.ref C) "__init__" = some (some (.ref fI))) (tI : PySem.W.typeIn X.K (.ref fI) = some (.type "function")) (F1 : FnOk X.prog X.w X.K X.mg X.base CX0 1 fI fd ["self", f] (spIni1 C f)) (hr : Room (k + 2) X.A)
    (hb : Binds X.K fd ["self", f] []) (hg : Gl X x) (hm : X.mg x = some (.ref C)) (ha : PA X [e] ta) (hdb : (x == ("__debug__" : Str)) = false := by decide) (he : starEach (e :: []) X.env = (false, eval e X.env) :: starEach [] X.env := by rfl)
    (hpl : (backTo pos (starEach [] X.env)).any (·.1) = false := by rfl) : PE X (.Call (.Name x p) [e] [] pos) (tExc1 C f ta) := by
  refine ⟨fun pins s σ H Q I h => ?_⟩
  obtain ⟨nm, q, N, bs, bm, sn, sub, ab, col, dd, k0, k1, k2, k3, k5, hC, hbm⟩ := T.cls
  refine wpAny_Call_Name_kw (ld_glob I hg hm ?_ hdb)
  refine PySem.W.callWith_K (h₀ := X.base) I.ok.mod.kin T.kC (thn (ha.run pos pins s σ H _ I h) fun us s1 ⟨vs, H1, I1, r1, v, ev, q1⟩ => ⟨I1.kIn, ?_⟩) he hpl
  subst ev
  show wpAny _ _ (call (.ref C) us) _ _ _
  obtain ⟨hp, g, dr, tk, os⟩ := s1
  have hsz : hp.objs.size ≤ hp.objs.size + 1 := Nat.le_succ _
  have hn : H1 (hp.objs.size + 1) = none := I1.hok.fresh hsz
  have kk : ∀ b o, hp.get? b = some o → ((hp.push (PySem.W.kdv_tup us)).push (PySem.HandSPX.excO C hp.objs.size)).get? b = some o := fun b o e => Heap.get?_push_of_some _ (Heap.get?_push_of_some _ e)
  have hget : ((hp.push (PySem.W.kdv_tup us)).push (PySem.HandSPX.excO C hp.objs.size)).get? (hp.objs.size + 1) = some (PySem.HandSPX.excO C hp.objs.size) := by heap_get
  have I2 : Inv X pins σ (upd H1 (hp.objs.size + 1) (exo (hp.objs.size + 1) C none)) ⟨(hp.push (PySem.W.kdv_tup us)).push (PySem.HandSPX.excO C hp.objs.size), g, dr, tk, os⟩ :=
    I1.laid (t' := tk) (a := hp.objs.size + 1) (o := exo (hp.objs.size + 1) C none) (h' := (hp.push (PySem.W.kdv_tup us)).push (PySem.HandSPX.excO C hp.objs.size)) kk hsz (exo_ok hget)
  have r2 : Vals [V.ref (hp.objs.size + 1), v] (Value.ref (hp.objs.size + 1) :: us) := .cons rfl r1
  have hl1 : us.length = 1 := by rw [← Paired.length r1] <;> rfl
  have hl : (Value.ref (hp.objs.size + 1) :: us ++ []).length = (["self", f] : List Str).length := by
    rw [List.append_nil, List.length_cons, hl1] <;> rfl
  have hus : us.length ≤ sizeLine := by
    rw [hl1, sizeLine_eq]
    omega
  have b2 := hb _ (Value.ref (hp.objs.size + 1) :: us) I2.kIn hl
  rw [List.append_nil] at b2
  have hq : spIni1 C f [V.ref (hp.objs.size + 1), v] (upd H1 (hp.objs.size + 1) (exo (hp.objs.size + 1) C none)) (fun z H2 => z = .non ∧ Q (.ref (hp.objs.size + 1)) H2) E0 := by
    refine ⟨_, v, rfl, upd_same, fun dx n ne => ⟨rfl, ?_⟩⟩
    rw [upd_ne ne] at n
    rw [upd3 ne]
    exact q1 _ dx hn n ne
  refine wpAny_call (PySem.HandSPX.call_own F.excBase_ValueError (fun Y => PySem.HandSPX.refsVE_contains Y bm hbm) (I1.kIn _ _ hC) (PySem.W.looks_findIn I1.kIn iC) (fun self => PySem.W.bind_fn I1.kIn self tI) hus
    (codeAny_mono (F1.run _ X.stack _ _ ⟨Value.ref (hp.objs.size + 1) :: us, []⟩ (Value.ref (hp.objs.size + 1) :: us) _ _ E0 ((hr.mono (by omega : 1 + 1 ≤ k + 2)).make C us []) (I2.env0.make C us []) b2 r2 hq) fun r s' hq' => ?_))
  cases r with
  | error er => exact False.elim hq'
  | ok fl =>
    cases fl with
    | ret u =>
      obtain ⟨z, H', I3, rz, ez, q3⟩ := I2.after hq'
      subst ez
      exact ⟨rz, ⟨V.ref (hp.objs.size + 1), H', I3, rfl, q3⟩⟩
    | next => exact False.elim hq'
    | brk => exact False.elim hq'
    | cont => exact False.elim hq'
end

/-! ### isinstance -/
/-- at a stands an own error of the class at C -/
def ErrAt (H : Hp) (a C : Addr) : Prop := H a = some (exo a C none) ∨ ∃ d fs, H a = some (exo a C (some d)) ∧ H d = some (exd d fs)
theorem err_inst {X : Cx} {pins : List (Addr × Obj)} {σ : L2.St} {H : Hp} {s : Shared} {a C : Addr} (I : Inv X pins σ H s) (h : ErrAt H a C) : ∃ ox od, PySem.W.InstAt s.heap a ox C od := by
  rcases h with h | ⟨d, fs, h, hd⟩
  · obtain ⟨t1, e⟩ := exo_at I.hok h
    exact ⟨_, none, e, rfl, rfl, trivial⟩
  · obtain ⟨t1, e⟩ := exo_at I.hok h
    obtain ⟨mA, ⟨o, es, ep, ho, _⟩, _⟩ := exd_at I.hok hd
    exact ⟨_, some o, e, rfl, rfl, ho⟩
/-- isinstance(e, c), e an own error -/
def rIsX (K : PySem.W.Frag) : List V → Hp → VK → Prop := fun xs H Q => ∃ (a C : Addr) (c : V) (cv : Value) (b : Bool), xs = [.ref a, c] ∧ ErrAt H a C ∧ ExcC K C ∧ ClsV c cv ∧ PySem.W.kitOne K (.ref C) cv = some b ∧ Q (.bl b) H
theorem call_isX {X : Cx} : CallR X (.builtin "isinstance") (rIsX X.K) := by
  intro pins s σ H xs us Q I r h
  obtain ⟨a, C, c, cv, b, rfl, ea, T, k, e, q⟩ := h
  obtain ⟨u1, u2, rfl, r1, r2⟩ := vals2 r
  have e2 := k.eq r2
  subst e2
  obtain rfl : u1 = Value.ref a := r1
  obtain ⟨ox, od, J⟩ := err_inst I ea
  have hcl : (PySem.W.clsIn X.K C).isSome = true := by
    obtain ⟨cd, hc, _⟩ := PySem.W.any_some T.hd
    rw [hc]
    rfl
  exact PySem.W.kia_one (PySem.W.kitx_exc hcl T.hg T.hk T.hs T.ha T.hn T.ht T.hm) I.kIn J e (fun z => nomatch z) fun tk => ⟨.bl b, H, I.tok tk, rfl, q⟩
/-- e.n, e an own error -/
def tErrF (K : PySem.W.Frag) (n : Str) (te : TE) : TE := fun σ H Q => te σ H fun x H1 => ∃ (a C d : Addr) (fs : List (Str × V)) (v : V), x = .ref a ∧ H1 a = some (exo a C (some d)) ∧ H1 d = some (exd d fs) ∧ fs.lookup n = some v ∧ XfC K C ∧ PySem.W.findIn K (.ref C) n = some none ∧ Q v H1
theorem pe_errF {X : Cx} {e : Expr} {te : TE} {pos : Pos} {n : Str} (he : PE X e te) (hb : attributeBase e n X.env (eval e X.env) = eval e X.env := by rfl) : PE X (.Attribute e n pos) (tErrF X.K n te) := by
  refine ⟨fun pins s σ H Q I h => ?_⟩
  refine attr_of hb (thn (he.run pins s σ H _ I h) fun u s1 hh => ?_)
  obtain ⟨x, H1, I1, rx, a, C, d, fs, v, ex, ea, ed, l, T, hno, q⟩ := hh
  subst ex
  obtain rfl : u = Value.ref a := rx
  obtain ⟨t1, e1⟩ := exo_at I1.hok ea
  obtain ⟨mA, hns, hr⟩ := exd_at I1.hok ed
  obtain ⟨od, ho, hl⟩ := lookIn_ns hns
  obtain ⟨u, hu, ru⟩ := RelO.some_of (v := v) (o := mA n) (by rw [← l]; exact hr n)
  have J : PySem.W.InstAt s1.heap a _ C (some od) := ⟨e1, rfl, rfl, ho⟩
  exact HandSPX.exc_get I1.kIn J T.ga T.gg T.exC (PySem.W.findObj_own T.hdC hno rfl (by rw [hl, hu])) (handed_of ru) ⟨v, H1, I1.tok _, ru, q⟩
end Ev
set_option maxHeartbeats 4000000
/-! repr of nested data that the law has made. -/
namespace Ev
open PySem PySem.Spec PyProof.Rows L2

/-- a display of a list; its place is not the table of modules -/
def tLstN (t : TA) : TE := fun σ H Q => t σ H fun xs H1 => xs.length ≤ sizeLine ∧ ∀ p, H1 p = none → p ≠ sysModules → Q (.ref p) (upd H1 p (.lst xs))
theorem pe_lstN {X : Cx} {es : List Expr} {pos : Pos} {t : TA} (h : PA X es t) : PE X (.List es pos) (tLstN t) := by
  refine ⟨fun pins s σ H Q I hq => ?_⟩
  refine wpAny_List_spliced (thn (h.run pos pins s σ H _ I hq) fun us s1 hh => ?_)
  obtain ⟨xs, H1, I1, r, z, q⟩ := hh
  have hf : H1 s1.heap.objs.size = none := I1.hok.fresh (Nat.le_refl _)
  refine ⟨by rw [← r.length]; exact z, .ref s1.heap.objs.size, upd H1 s1.heap.objs.size (.lst xs), I1.laid (t' := s1.toks) (o := .lst xs) (fun b u e => Heap.get?_push_of_some _ e) (Nat.le_refl _) ⟨z, us, 0, r, Heap.get?_push_size _ rfl⟩, rfl, q _ hf (Ne.symm (Nat.ne_of_lt I1.big))⟩

/-- the datum d is told by v -/
inductive Dt (H : Hp) : V → PyData → Prop
  | non : Dt H .non .none
  | bl (b : Bool) : Dt H (.bl b) (.bool b)
  | int (i : Int) : Dt H (.int i) (.int i)
  | str (x : Str) : Dt H (.str x) (.str x)
  | dic {a : Addr} : H a = some (.dK []) → Dt H (.ref a) (.dict [])
  | l0 {a : Addr} : H a = some (.lst []) → a ≠ sysModules → Dt H (.ref a) (.list [])
  | l1 {a : Addr} {x : V} {d : PyData} : H a = some (.lst [x]) → a ≠ sysModules → Dt H x d → Dt H (.ref a) (.list [d])
  | l2 {a : Addr} {x y : V} {d e : PyData} : H a = some (.lst [x, y]) → a ≠ sysModules → Dt H x d → Dt H y e → Dt H (.ref a) (.list [d, e])
  | t0 {a : Addr} : H a = some (.tup []) → Dt H (.ref a) (.tuple [])
  | t1 {a : Addr} {x : V} {d : PyData} : H a = some (.tup [x]) → Dt H x d → Dt H (.ref a) (.tuple [d])
  | t2 {a : Addr} {x y : V} {d e : PyData} : H a = some (.tup [x, y]) → Dt H x d → Dt H y e → Dt H (.ref a) (.tuple [d, e])
theorem Dt.keep {H H' : Hp} {v : V} {d : PyData} (h : Dt H v d) (k : ∀ b o, H b = some o → H' b = some o) : Dt H' v d := by
  induction h with
  | non => exact .non
  | bl b => exact .bl b
  | int i => exact .int i
  | str x => exact .str x
  | dic e => exact .dic (k _ _ e)
  | l0 e n => exact .l0 (k _ _ e) n
  | l1 e n _ ih => exact .l1 (k _ _ e) n ih
  | l2 e n _ _ i1 i2 => exact .l2 (k _ _ e) n i1 i2
  | t0 e => exact .t0 (k _ _ e)
  | t1 e _ ih => exact .t1 (k _ _ e) ih
  | t2 e _ _ i1 i2 => exact .t2 (k _ _ e) i1 i2
section
variable {X : Cx} {pins : List (Addr × Obj)} {σ : L2.St} {H : Hp} {s : Shared}
theorem lst_at (I : L2.Inv X pins σ H s) {a : Addr} {xs : List V} (h : H a = some (.lst xs)) : ∃ (its : List Value) (n : Nat), Vals xs its ∧ s.heap.get? a = some { cls := .type "list", data := .seq its.toArray n } := by
  obtain ⟨_, its, n, r, e⟩ := (show ObjOk X.prog X.w H s.heap a (.lst xs) from I.hok a _ h)
  exact ⟨its, n, r, e⟩
theorem tup_at (I : L2.Inv X pins σ H s) {a : Addr} {xs : List V} (h : H a = some (.tup xs)) : ∃ (its : List Value) (o : Obj) (n : Nat), Vals xs its ∧ s.heap.get? a = some o ∧ o.cls = .type "tuple" ∧ o.data = .seq its.toArray n := by
  obtain ⟨_, its, r, o, e, c, n, d⟩ := (show ObjOk X.prog X.w H s.heap a (.tup xs) from I.hok a _ h)
  exact ⟨its, o, n, r, e, c, d⟩
theorem Dt.reads (I : L2.Inv X pins σ H s) {v : V} {d : PyData} (h : Dt H v d) : ∀ {u : Value}, RelV v u → ∃ as, Reads s.heap u d as ∧ sysModules ∉ as := by
  induction h with
  | non => intro u r; cases r; exact ⟨_, .none, by simp⟩
  | bl b => intro u r; cases r; exact ⟨_, .bool b, by simp⟩
  | int i => intro u r; obtain ⟨t, rfl⟩ := r; exact ⟨_, .int i t, by simp⟩
  | str x => intro u r; obtain ⟨t, rfl⟩ := r; exact ⟨_, .str x t, by simp⟩
  | @dic a e =>
    intro u r
    cases r
    obtain ⟨_, hs, vs, kv, o, es, ep, ho, hx, hd, hk, hp, _⟩ := (show ObjOk X.prog X.w H s.heap a (.dK []) from I.hok a _ e)
    cases kv
    have he : es.toList = [] := by
      generalize es.toList = l at hp
      cases hp
      rfl
    refine ⟨a :: [] ++ [], .dict (as := []) (bs := []) ho hx.1 hd ?_ ?_, ?_⟩
    · rw [he]; exact .nil
    · rw [he]; exact .nil
    · have : a ≠ sysModules := by simpa using hs
      simp [Ne.symm this]
  | @l0 a e n =>
    intro u r
    cases r
    obtain ⟨its, m, rv, ho⟩ := lst_at I e
    cases rv
    exact ⟨_, .list ho rfl rfl .nil, by simp [Ne.symm n]⟩
  | @l1 a x d e n hx ih =>
    intro u r
    cases r
    obtain ⟨its, m, rv, ho⟩ := lst_at I e
    cases rv with
    | cons r1 rr =>
      cases rr
      obtain ⟨as, q, nq⟩ := ih r1
      exact ⟨_, .list ho rfl rfl (.cons q .nil), by simp [Ne.symm n, nq]⟩
  | @l2 a x y d e2 e n hx hy ih1 ih2 =>
    intro u r
    cases r
    obtain ⟨its, m, rv, ho⟩ := lst_at I e
    cases rv with
    | cons r1 rr =>
      cases rr with
      | cons r2 rr =>
        cases rr
        obtain ⟨as, q, nq⟩ := ih1 r1
        obtain ⟨bs, q2, nq2⟩ := ih2 r2
        exact ⟨_, .list ho rfl rfl (.cons q (.cons q2 .nil)), by simp [Ne.symm n, nq, nq2]⟩
  | @t0 a e =>
    intro u r
    cases r
    obtain ⟨its, o, m, rv, ho, hc, hd⟩ := tup_at I e
    cases rv
    exact ⟨_, .tuple ho hc hd .nil, by simp⟩
  | @t1 a x d e hx ih =>
    intro u r
    cases r
    obtain ⟨its, o, m, rv, ho, hc, hd⟩ := tup_at I e
    cases rv with
    | cons r1 rr =>
      cases rr
      obtain ⟨as, q, nq⟩ := ih r1
      exact ⟨_, .tuple ho hc hd (.cons q .nil), by simp [nq]⟩
  | @t2 a x y d e2 e hx hy ih1 ih2 =>
    intro u r
    cases r
    obtain ⟨its, o, m, rv, ho, hc, hd⟩ := tup_at I e
    cases rv with
    | cons r1 rr =>
      cases rr with
      | cons r2 rr =>
        cases rr
        obtain ⟨as, q, nq⟩ := ih1 r1
        obtain ⟨bs, q2, nq2⟩ := ih2 r2
        exact ⟨_, .tuple ho hc hd (.cons q (.cons q2 .nil)), by simp [nq, nq2]⟩
end
/-- repr(x), x a datum of small depth and size -/
def rRepr : List V → Hp → VK → Prop := fun xs H Q => ∃ (x : V) (d : PyData), xs = [x] ∧ Dt H x d ∧ d.showable = true ∧ d.depth ≤ 100 ∧ d.shown.length ≤ 100000 ∧ Q (.str d.shown) H
theorem call_repr {X : Cx} {k : Nat} (hg : X.A.guards = some []) (hr : Room k X.A) : CallR X (.builtin "repr") rRepr := by
  intro pins s σ H xs us Q I r h
  obtain ⟨x, d, rfl, hd, hs, hdp, hz, q⟩ := h
  obtain ⟨u, rfl, ru⟩ := vals1 r
  have hz' : d.shown.length ≤ sizeLine := Nat.le_trans hz (by decide)
  obtain ⟨as, rd, ns⟩ := hd.reads I ru
  have hu : X.A.units + (d.depth + 1) < cLine := by have := hr.un; omega
  have viaRef : ∀ a, u = .ref a → wpAny (model X.prog X.w) X.A (call (.builtin "repr") [u]) (EP X pins σ Q) X.xe s := fun a e => by
    subst e
    exact repr_of_reads' rd hs (fun _ => ns) hg hu (fun _ _ e => e) (fun h' u tk k => ⟨.str d.shown, H, I.kept k, ⟨_, rfl⟩, q⟩) hz'
  cases hd with
  | non => cases ru; exact PySem.P.repr_of_none ⟨.str _, H, I.tok _, ⟨_, rfl⟩, by simpa only [PyData.shown] using q⟩
  | bl b => cases ru; exact PySem.P.repr_of_bool ⟨.str _, H, I.tok _, ⟨_, rfl⟩, by simpa only [PyData.shown] using q⟩
  | int i => obtain ⟨t, rfl⟩ := ru; exact PySem.P.repr_of_int (by simpa [PyData.showable] using hs) ⟨.str _, H, I.tok _, ⟨_, rfl⟩, by simpa only [PyData.shown] using q⟩
  | str x => obtain ⟨t, rfl⟩ := ru; exact PySem.P.repr_of_str ⟨.str _, H, I.tok _, ⟨_, rfl⟩, by simpa only [PyData.shown] using q⟩ (by simpa only [PyData.shown] using hz')
  | dic e => exact viaRef _ ru
  | l0 e n => exact viaRef _ ru
  | l1 e n h1 => exact viaRef _ ru
  | l2 e n h1 h2 => exact viaRef _ ru
  | t0 e => exact viaRef _ ru
  | t1 e h1 => exact viaRef _ ru
  | t2 e h1 h2 => exact viaRef _ ru
/-- what is told of a datum: it may be shown, so deep, so long -/
def Small (d : PyData) (n m : Nat) : Prop := d.showable = true ∧ d.depth ≤ n ∧ d.shown.length ≤ m
theorem int_len {k : Int} (hk : 0 ≤ k ∧ k < 100) : (PyData.shown (.int k)).length ≤ 3 := by
  have e : (toString k).length ≤ 2 + 1 := int_text_length_le10 (by decide) (by omega)
  simp only [PyData.shown]
  rw [PySem.ofString_length]
  exact e
theorem int_show {k : Int} (hk : 0 ≤ k ∧ k < 100) : k.natAbs.log2 < 1920 := by
  have := Nat.log2_le_self k.natAbs
  omega
theorem small_tup {d : PyData} {n m : Nat} {k : Int} (h : Small d n m) (hk : 0 ≤ k ∧ k < 100) : Small (.tuple [d, .int k]) (n + 1) (m + 10) := by
  obtain ⟨h1, h2, h3⟩ := h
  refine ⟨by simp [PyData.showable, PyData.showableAll, h1, int_show hk], by simp only [PyData.depth, PyData.depthAll]; omega, ?_⟩
  have e := tupleText_len_le (PyData.shownAll [d, .int k])
  have e2 := int_len hk
  simp only [PyData.shownAll, List.map_cons, List.map_nil, List.sum_cons, List.sum_nil, List.length_cons, List.length_nil] at e
  show (tupleText (PyData.shownAll [d, .int k])).length ≤ m + 10
  simp only [PyData.shownAll]
  omega
theorem small_lst {d : PyData} {n m : Nat} {k : Int} (h : Small d n m) (hk : 0 ≤ k ∧ k < 100) : Small (.list [.int k, d]) (n + 1) (m + 10) := by
  obtain ⟨h1, h2, h3⟩ := h
  refine ⟨by simp [PyData.showable, PyData.showableAll, h1, int_show hk], by simp only [PyData.depth, PyData.depthAll]; omega, ?_⟩
  have e := listText_len_le (PyData.shownAll [.int k, d])
  have e2 := int_len hk
  simp only [PyData.shownAll, List.map_cons, List.map_nil, List.sum_cons, List.sum_nil, List.length_cons, List.length_nil] at e
  show (listText (PyData.shownAll [.int k, d])).length ≤ m + 10
  simp only [PyData.shownAll]
  omega
theorem Small.mono {d : PyData} {n m n' m' : Nat} (h : Small d n m) (h1 : n ≤ n') (h2 : m ≤ m') : Small d n' m' := ⟨h.1, Nat.le_trans h.2.1 h1, Nat.le_trans h.2.2 h2⟩
end Ev
set_option maxHeartbeats 4000000
/-! try with several clauses «except X as n», the name the same in all of them. -/
namespace Ev
open PySem PySem.Spec PyProof.Rows L2
/-- behind a suite the name's slot (i) is empty -/
def offS (i : Nat) (D : Ends) : Ends := { nx := fun σ' H' => D.nx (σ'.set i none) H', rt := D.rt, bk := fun σ' H' => D.bk (σ'.set i none) H', ct := fun σ' H' => D.ct (σ'.set i none) H' }
def wManyAs (K : PySem.W.Frag) (i : Nat) (Wout : WX) (D : Ends) : List (Value × (Addr → Value → Option Addr → TS)) → WX
  | [] => Wout
  | (c, ts) :: r => fun cls d σ H => ∃ b, PySem.W.exmOne K cls c = some b ∧ (b = true → ∀ a, H a = none → ts a cls d (offS i D) (σ.set i (some (.ref a))) H) ∧ (b = false → wManyAs K i Wout D r cls d σ H)
inductive HdsAs (X : Cx) (n : Str) : List ExceptHandler → List (Value × (Addr → Value → Option Addr → TS)) → Prop
  | nil : HdsAs X n [] []
  | cons {x : Str} {c : Value} {ts : Addr → Value → Option Addr → TS} {b₀ : Stmt} {suite : List Stmt} {np pos' : Pos} {hds : List ExceptHandler} {l : List (Value × (Addr → Value → Option Addr → TS))} (hc : Names X x c)
      (hsu : ∀ (a : Addr) (oe : Obj) (cls : Value) (d : Option Addr) (pn : List (Addr × Obj)), Zc cls d oe → (∃ vs, oe.data = .fields vs) → PSs (X.suite a ((a, oe) :: pn)) (b₀ :: suite) (ts a cls d)) (r : HdsAs X n hds l) :
      HdsAs X n (.ExceptHandler (some (.Name x np)) (some n) (b₀ :: suite) pos' :: hds) ((c, ts) :: l)
section
variable {X : Cx} {body : List Stmt} {h₀ : ExceptHandler} {hds : List ExceptHandler} {l : List (Value × (Addr → Value → Option Addr → TS))} {pos : Pos} {tb : WX → TS} {Wout : WX} {n : Str} {i : Nat}
theorem ps_try_manyAs (hs : X.stack = X.env :: X.outer) (hf : X.env.frame = some X.env.locals) (hN : X.N.Nodup) (hi : X.N[i]? = some n) (hln : X.env.kindOf n = some .local) (tk : Takes X Wout)
    (hb : ∀ (W : WX) (pn : List (Addr × Obj)) (xe : Value → Shared → Prop), Takes (X.tr pn xe) W → PassesOwn (model X.prog X.w) X.A X.env xe → PSs (X.tr pn xe) body (tb W))
    (hh : HdsAs X n (h₀ :: hds) l) : PS X (.Try body (h₀ :: hds) [] [] pos) (fun D σ H => tb (wManyAs X.K i Wout D l) D σ H) := by
  refine ⟨fun pins s σ H D I h => ?_⟩
  have ok := I.ok
  have hfr : X.A.frames = some (X.env :: X.outer) := by rw [ok.frames, hs]
  have hloc : Loc X.env.scope n := .inl hln
  refine wpAny_Try_except (wpAny_mono ((hb (wManyAs X.K i Wout D l) (X.pn ++ pins) (fun e s₁ => wpAny (model X.prog X.w) X.A (noteFrame e X.env) (fun _ s₂ => wpAny (model X.prog X.w) X.A (setFlight e none) (fun _ s₃ =>
    wpAny (model X.prog X.w) X.A (handleBy e X.env (h₀ :: hds)) (SP X pins D) X.xe s₃) X.xe s₂) X.xe s₁) (fun u s' xx => ?_) PassesOwn.looking).run [] s σ H D (I.toTry _) h) (fun f s1 hsp => ?_) (fun e s1 he => he))
  · obtain ⟨a, B, sI, pins', σ', H', cls, d, rfl, J', nb, up, sky, na, os, ag, w⟩ := xx
    have J : L2.Inv X pins σ' H' sI := J'.ofTry ok
    have sky' : Sky B (X.env :: X.outer) a (Zc cls d) X.env.locals s'.heap := by rw [← hs]; exact sky
    refine Sky.land Zc.steady hfr hf sky' fun h3 fl3 up3 => ?_
    have J3 : L2.Inv X pins σ' H' { s' with heap := h3 } := J.landed nb fl3.1 (up.trans up3) os ag
    obtain ⟨oe3, vs3, he3, hz3, hd3⟩ := fl3.there
    have nfr : a ∉ frs (X.env :: X.outer) := fun hm => by
      obtain ⟨_, o', e', hnf⟩ := fl3.2.2.1.mem hm
      rw [he3] at e'; cases e'
      exact hnf _ hd3
    have nL : a ≠ X.env.locals := fun z => nfr (List.mem_filterMap.mpr ⟨X.env, List.mem_cons_self, by rw [hf, z]⟩)
    have nF : a ∉ X.fs := fun hm => by
      obtain ⟨e, he, q⟩ := List.mem_filterMap.mp hm
      exact nfr (List.mem_filterMap.mpr ⟨e, List.mem_cons_of_mem _ he, q⟩)
    have S3 := J3.suite he3 hd3 na nL nF
    have LT : PySem.W.Looks (model X.prog X.w) h3 (typeOf (.ref a)) cls := fun A Q E s k q => wpAny_typeOf_ref (k _ _ he3) (by rw [hz3.1]; exact q)
    have go : ∀ {hds' : List ExceptHandler} {l' : List (Value × (Addr → Value → Option Addr → TS))}, HdsAs X n hds' l' → wManyAs X.K i Wout D l' cls d σ' H' →
        wpAny (model X.prog X.w) X.A (handleBy (.ref a) X.env hds') (SP X pins D) X.xe { s' with heap := h3 } := by
      intro hds' l' hk
      induction hk with
      | nil =>
        intro w
        refine wpAny_handleBy_nil ?_
        obtain ⟨k1, k2, k3, oe, vs, T, oT, ts', he, hz, hd, h1, hr⟩ := id fl3
        unfold PySem.passOn
        refine wpAny_bind (wpAny_field he hd h1 ?_)
        rw [if_neg (show ¬ ((Value.ref T == Value.none) = true) from by simp)]
        have fin : wpAny (model X.prog X.w) X.A (setFlight (.ref a) X.env.frame) (fun _ s4 => wpAny (model X.prog X.w) X.A (throw (.ref a) : Sem Flow) (SP X pins D) X.xe s4) X.xe { s' with heap := h3 } := by
          rw [hf]
          refine HandSPX.setFlight_upZ fl3 fun h4 hh4 up4 => wpAny_throw (tk _ _ ?_)
          exact ⟨a, B, sI, pins, σ', H', cls, d, rfl, J, nb, (up.trans up3).trans up4, .inr (.inr (by rw [hs]; exact hh4)), na, os, ag, w⟩
        first
          | exact wpAny_bind (wpAny_pure (wpAny_bind fin))
          | exact wpAny_bind fin
      | @cons x c ts b₀ suite np pos' hds2 l2 hc hsu r ih =>
        intro w
        obtain ⟨b, hb1, hyes, hno⟩ := w
        refine wpAny_handleBy_cons (codeAny_handlers_test ?_) (by intro q; cases q)
        have LM := PySem.W.exm_one (M := model X.prog X.w) (J3.kIn) LT hb1
        have test : ∀ {Q : Value → Shared → Prop} {E : Value → Shared → Prop}, Q c { s' with heap := h3 } → wpAny (model X.prog X.w) (X.A.mark (some (.ref a))) (eval (.Name x np) X.env) Q E { s' with heap := h3 } := fun {Q E} q => by
          obtain ⟨hg, hdbg, hm | ⟨hm, hv, hnn⟩⟩ := hc
          · exact ld_glob (X := X.suite a ((a, oe3) :: (X.pn ++ pins))) S3 hg hm q hdbg
          · exact ld_blt (X := X.suite a ((a, oe3) :: (X.pn ++ pins))) S3 hg hm hv q hnn hdbg
        refine test (LM.here ?_)
        cases b with
        | true =>
          refine codeAny_handlers_suite_as (HandSPX.lands_againZ fl3 fun h4 fl4 up4 => ?_)
          have J4 : L2.Inv X pins σ' H' { s' with heap := h4 } := J.landed nb fl4.1 ((up.trans up3).trans up4) os ag
          obtain ⟨oe4, vs4, he4, hz4, hd4⟩ := fl4.there
          refine store_ok (X := X.suite a ((a, oe4) :: (X.pn ++ pins))) (v := .ref a) (J4.suite he4 hd4 na nL nF) hN hi hloc rfl (fun s5 S5 => ?_) (.inr hln)
          refine wpAny_mono ((hsu a oe4 cls d (X.pn ++ pins) hz4 ⟨_, hd4⟩).run [] s5 _ H' _ S5 (hyes rfl a na)) (fun f s6 hsp => ?_) (fun _ _ z => False.elim z)
          cases f with
          | next =>
            obtain ⟨σ6, H6, S6, q6⟩ := hsp
            exact gone_ok (S6.unsuite ok) hN hi hln fun s7 J7 => ⟨_, _, J7, q6⟩
          | brk =>
            obtain ⟨σ6, H6, S6, q6⟩ := hsp
            exact gone_ok (S6.unsuite ok) hN hi hln fun s7 J7 => ⟨_, _, J7, q6⟩
          | cont =>
            obtain ⟨σ6, H6, S6, q6⟩ := hsp
            exact gone_ok (S6.unsuite ok) hN hi hln fun s7 J7 => ⟨_, _, J7, q6⟩
          | ret u =>
            obtain ⟨v6, σ6, H6, S6, r6, q6⟩ := hsp
            exact gone_ok (S6.unsuite ok) hN hi hln fun s7 J7 => ⟨_, _, _, J7, r6, q6⟩
        | false => exact ih (hno rfl)
    exact go hh w
  · cases f with
    | next =>
      obtain ⟨σ', H', J', q⟩ := hsp
      exact wpAny_execs_nil ⟨σ', H', J'.ofTry ok, q⟩
    | brk =>
      obtain ⟨σ', H', J', q⟩ := hsp
      exact ⟨σ', H', J'.ofTry ok, q⟩
    | cont =>
      obtain ⟨σ', H', J', q⟩ := hsp
      exact ⟨σ', H', J'.ofTry ok, q⟩
    | ret u =>
      obtain ⟨v, σ', H', J', r, q⟩ := hsp
      exact ⟨v, σ', H', J'.ofTry ok, r, q⟩
end
end Ev
set_option maxHeartbeats 4000000
/-! The law's own def, called by the caller of claims alone: what runs around it is known (no repr is under way). -/
namespace Ev
open PySem PySem.Spec PyProof.Rows L2
/-- the def at f keeps sp, called where A runs around it -/
structure FnAt (A : Around) (P : Program) (w : World) (K : PySem.W.Frag) (mg : Str → Option Value) (base : Heap) (CX : CXT) (f : Addr) (fd : FuncData) (ps : List Str) (sp : Sp) : Prop where
  len : ∀ vs H Q E, sp vs H Q E → vs.length = ps.length
  run : ∀ (outer : List Env) (s : Shared) (H : Hp) (args : Args) (us : List Value) (vs : List V) (Q : VK) (E : XK), Env0 P w K mg base A outer s H → BindsTo s fd args (ps.zip us) → Vals vs us → sp vs H Q E →
    codeAny (model P w) A (.call (.ref f) args) (CR CX outer P w H s Q E) s
section
variable {A : Around} {CX : CXT} {P : Program} {w : World} {K : PySem.W.Frag} {mg : Str → Option Value} {base : Heap} {k : Nat}
theorem fun_at {x qual : Str} {st : Stmt} {f : Addr} {fd : FuncData} {N ps : List Str} {sp : Sp} (F : Fun K x qual st f fd) (S : FnScope N ps (defScope st)) (hr : Room (k + 1) A) (len : ∀ vs H Q E, sp vs H Q E → vs.length = ps.length)
    (hbody : ∀ (cdv : Value) (outer : List Env) (s : Shared) (H : Hp) (vs : List V) (Q : VK) (E : XK), Room k (A.deeper (envOfC qual (defScope st) s.heap.objs.size f cdv)) → sp vs H Q E →
      ∃ t, PSs (cxOf CX P w K mg base N qual (defScope st) f cdv A outer s H E).nox (defBody st) t ∧ t { nx := fun _ H' => Q .non H', rt := Q } (start N vs) H) : FnAt A P w K mg base CX f fd ps sp := by
  obtain ⟨oc, od, kV, doc, pm, an, cdv, ct, osl, rfl, lk, hcd⟩ := F.ex
  refine ⟨len, fun outer s H args us vs Q E e0 hb r hsp => ?_⟩
  have lim : s.heap.NoLimit := e0.mod.nolimit.keeps fun b o e => (e0.bs b o e).1
  have KX : K.In s.heap := e0.mod.kin.keeps fun b o e => (e0.bs b o e).1
  have kinds : ∀ y ∈ ps.zip us, (defScope st).names.lookup y.1 = some .local ∨ ((defScope st).names.lookup y.1 = some .cell ∧ ((cellsFrom (s.heap.objs.size + 1) (defScope st).names []).lookup y.1).isSome = true) := by
    rintro ⟨n, v⟩ hy
    exact (S.par n (List.of_mem_zip hy).1).imp id fun q => ⟨q, PySem.W.cellsFrom_some _ _ _ (.inl q)⟩
  refine codeAny_call_function hr.depth (KX _ _ lk) rfl S.co S.gen rfl (PySem.W.codeRec_of KX hcd) (hb _ _ _ _ (wpAny_newFunctionEnv_cells S.kind kinds fun env he s1 x => ?_))
  subst he
  obtain ⟨t, ht, hq⟩ := hbody cdv outer s H vs Q E (hr.deeper _) hsp
  have I := inv_start (CX := CX) (P := P) (w := w) (mg := mg) (base := base) (E := E) S hr.hd e0 (len _ _ _ _ hsp) r x
  refine ⟨lim.keeps x.toInCall.keep, codeAny_func (wpAny_mono (ht.nox.run [] s1 (start N vs) H _ I hq) (fun fl s' hs => ?_) fun e s' hs => hs)⟩
  cases fl with
  | ret u =>
    obtain ⟨v, σ', H', J, rv, q⟩ := hs
    exact ⟨v, H', J.os, J.bare, J.base, J.hok, rv, q⟩
  | next =>
    obtain ⟨σ', H', J, q⟩ := hs
    exact ⟨V.non, H', J.os, J.bare, J.base, J.hok, rfl, q⟩
  | brk => exact hs.elim fun _ z => z.elim fun _ y => y.2.elim
  | cont => exact hs.elim fun _ z => z.elim fun _ y => y.2.elim
end
section
variable {P : Program} {w : World} {K : PySem.W.Frag} {mg mb : Str → Option Value} {fa a : Addr} {fd : FuncData} {x : Str} {sp : Sp} {s₁ : Shared} {vs : List Value} {ns : List Int}
/-- from one abstract heap: nothing is tracked but, perhaps, the script -/
theorem law_at0 {H : Hp} (KX : K.In s₁.heap) (hns : s₁.heap.Ns mainGlobals mg) (hb : s₁.heap.Ns builtinsNs mb) (hbb : ∀ y : Str, y ≠ "__name__" → mb y = bootBuiltins y) (hlim : s₁.heap.NoLimit) (hg : s₁.gens = #[])
    (ha : s₁.heap.get? a = some { cls := .type "list", data := .seq vs.toArray }) (F : ∀ base : Heap, K.In base → base.Ns mainGlobals mg → FnAt callerA P w K mg base CX0 fa fd [x] sp)
    (hbind : ∀ (s : Shared) (u : Value), BindsTo s fd ⟨[u], []⟩ [(x, u)]) (hO : Only H) (hok : HOk P w H s₁.heap) (hA : ∀ b, H b ≠ none → b = a) (hK : H a ≠ none → K.lookup a = none)
    (hsp : sp [.ref a] H (fun v _ => v = .bl true) fun _ _ _ => False) :
    codeAny (model P w) callerA (.call (.ref fa) ⟨[.ref a], []⟩) (fun r s' => r = .ok (.ret (.bool true)) ∧ OldK s₁.heap s'.heap ∧ s'.os = s₁.os ∧ AllBare s'.gens) s₁ := by
  have off : ∀ {b : Addr} {o : Obj}, s₁.heap.get? b = some o → o ≠ { cls := .type "list", data := .seq vs.toArray } → H b = none := fun {b o} e n => by
    refine Classical.byContradiction fun z => n ?_
    have eb := hA b z
    rw [eb, ha] at e
    exact (Option.some.inj e).symm
  have nsK : ∀ {b : Addr} {m : Str → Option Value}, s₁.heap.Ns b m → (hidT s₁.heap H).Ns b m := fun {b m} ⟨o, es, ep, e, d, r⟩ => ⟨o, es, ep, hidT_get e (off e fun z => by rw [z] at d; cases d), d, r⟩
  have hKb : K.In (hidT s₁.heap H) := fun b o e => hidT_get (KX b o e) (Classical.byContradiction fun z => by
    have eb := hA b z
    rw [eb] at e z
    rw [hK z] at e
    cases e)
  have hM : Mod K mg (hidT s₁.heap H) := ⟨hKb, nsK hns, ⟨mb, nsK hb, hbb⟩, hlim.elim fun mc z => ⟨mc, nsK z.1, z.2⟩⟩
  have e0 : Env0 P w K mg (hidT s₁.heap H) callerA [] s₁ H := ⟨rfl, hM, fun b o e => of_hidT e, Nat.le_of_eq (hidT_size _ _), trivial, fun b hb => absurd (show b ∈ ([] : List Addr) from hb) (by simp), hok, .of_eq hg⟩
  refine codeAny_mono ((F _ hKb (nsK hns)).run [] s₁ H ⟨[.ref a], []⟩ [.ref a] [.ref a] _ _ e0 (hbind s₁ (.ref a)) (.cons rfl .nil) hsp) fun r s' h => ?_
  rcases r with e | fl
  · exact False.elim h
  cases fl with
  | next => exact False.elim h
  | brk => exact False.elim h
  | cont => exact False.elim h
  | ret u =>
    obtain ⟨v, H', os, bare, un, hok', r', rfl⟩ := h
    obtain rfl : u = Value.bool true := r'
    refine ⟨rfl, OldK.of_keep fun b o e => ?_, os, bare⟩
    rcases hO b with z | ⟨ob, xs, z⟩
    · exact un.keep b o e z (fun y => absurd (show b ∈ ([] : List Addr) from y) (by simp)) (by simp)
    · have e1 := (hok b _ z).1
      rw [e] at e1
      cases e1
      exact (hok' b _ (un.frzs b _ _ z)).1
theorem law_at (KX : K.In s₁.heap) (hns : s₁.heap.Ns mainGlobals mg) (hb : s₁.heap.Ns builtinsNs mb) (hbb : ∀ y : Str, y ≠ "__name__" → mb y = bootBuiltins y) (hlim : s₁.heap.NoLimit) (hg : s₁.gens = #[])
    (ha : s₁.heap.get? a = some { cls := .type "list", data := .seq vs.toArray }) (hi : IntsAre vs ns) (hl : ns.length ≤ sizeLine)
    (F : ∀ base : Heap, K.In base → base.Ns mainGlobals mg → FnAt callerA P w K mg base CX0 fa fd [x] sp) (hbind : ∀ (s : Shared) (u : Value), BindsTo s fd ⟨[u], []⟩ [(x, u)])
    (hsp : ∀ H : Hp, Only H → SqL K H a (ns.map V.int) → sp [.ref a] H (fun v _ => v = .bl true) fun _ _ _ => False) :
    codeAny (model P w) callerA (.call (.ref fa) ⟨[.ref a], []⟩) (fun r s' => r = .ok (.ret (.bool true)) ∧ OldK s₁.heap s'.heap ∧ s'.os = s₁.os ∧ AllBare s'.gens) s₁ := by
  have rv := vals_ints hi
  cases hk : K.lookup a with
  | some o =>
    have e := KX a o hk
    rw [ha] at e
    cases e
    have hO : Only (fun _ => none) := fun _ => .inl rfl
    exact law_at0 KX hns hb hbb hlim hg ha F hbind hO (fun b u z => by cases z) (fun b z => absurd rfl z) (fun z => absurd rfl z)
      (hsp _ hO (.inr ⟨_, vs.toArray, _, hk, rfl, rfl, rfl, by rw [List.size_toArray, hi.length]; exact hl, by simpa using rv⟩))
  | none =>
    have same : upd (fun _ => none) a (.frz { cls := .type "list", data := .seq vs.toArray } (.lst (ns.map V.int))) a = some (.frz { cls := .type "list", data := .seq vs.toArray } (.lst (ns.map V.int))) := upd_same
    have hO : Only (upd (fun _ => none) a (.frz { cls := .type "list", data := .seq vs.toArray } (.lst (ns.map V.int)))) := fun b => by
      by_cases h : b = a
      · exact .inr ⟨_, _, by rw [h]; exact same⟩
      · exact .inl (by rw [upd_ne h])
    refine law_at0 KX hns hb hbb hlim hg ha F hbind hO (fun b u z => ?_) (fun b z => ?_) (fun _ => hk) (hsp _ hO (.inl (.inr ⟨_, same⟩)))
    · by_cases h : b = a
      · subst h
        rw [same] at z
        cases z
        exact ⟨ha, by rw [List.length_map]; exact hl, vs, _, rv, ha⟩
      · rw [upd_ne h] at z
        cases z
    · exact Classical.byContradiction fun h => z (by rw [upd_ne h])
end
/-- the end of a law's row -/
theorem walk_at {l : PySem.W.OpenLaw} {n : Nat} {q : Program} {loose : List Str} {XP : (Str → Option Value) → Heap → Prop} {YP : World → Heap → Prop} {d : DefRec} {K : Params → PySem.W.Frag} {sp : PySem.W.Frag → Sp} {x : Str}
    (hn : l.most = some n) (hn2 : n ≤ sizeLine) (hdf : d.params.defaults = []) (hY : ∀ (w : World) (h : Heap), YP w h → (K w.params).In h)
    (F : ∀ (w : World) (mg : Str → Option Value) (fa : Addr) (h : Heap), (K w.params).In h → h.Ns mainGlobals mg → mg d.name = some (.ref fa) →
      ∃ fd : FuncData, (∀ (s : Shared) (u : Value), BindsTo s fd ⟨[u], []⟩ [(x, u)]) ∧ ∀ base : Heap, (K w.params).In base → base.Ns mainGlobals mg → FnAt callerA l.prog w (K w.params) mg base CX0 fa fd [x] (sp (K w.params)))
    (hsp : ∀ (K : PySem.W.Frag) (H : Hp) (a : Addr) (ns : List Int), ns.length ≤ n → Only H → SqL K H a (ns.map V.int) → sp K [.ref a] H (fun v _ => v = .bl true) fun _ _ _ => False) :
    PySem.W.WalkO q loose XP YP l.row.toRowW d [] (fun f vs => PySem.call f vs) :=
  Att.attach_call hn hdf fun w s₀ s₁ mg mb fa o pm cd doc a vs ns G Y ho hd hcd hmg hobj hints hlen hg => by
    obtain ⟨fd, hb, hF⟩ := F w mg fa _ (hY w _ Y) G.T.g hmg
    exact law_at (hY w _ Y) G.T.g G.T.b G.T.builtins G.T.nolimit hg hobj hints (Nat.le_trans hlen hn2) hF hb fun H hO hS => hsp _ H a ns hlen hO hS
/-- C() of an own error class without an __init__ of its own -/
theorem pe_excP {X : Cx} {x : Str} {C : Addr} {p pos : Pos} {bmB : List Value} {B newId initId : String} (F : ExcBaseFacts B newId initId bmB) (q : PySem.W.excIn X.K C bmB newId = true) (kC : PySem.W.keepIn X.K (.ref C) = true) (hg : Gl X x) (hm : X.mg x = some (.ref C))
    (hdb : (x == ("__debug__" : Str)) = false := by decide) : PE X (.Call (.Name x p) [] [] pos) (fun _ H Q => ∀ a, H a = none → Q (.ref a) (upd H a (exo a C none))) := by
  refine ⟨fun pins s σ H Q I h => ?_⟩
  refine wpAny_Call_Name_kw (ld_glob I hg hm ?_ hdb)
  refine PySem.W.callWith_K0 I.kIn kC ?_
  show wpAny _ _ (call (.ref C) []) _ _ _
  obtain ⟨bm, N, nm, qn, bs, hdct, sn, sub, ab, col, dd, k0, k1, k2, k3, k5, mN, hC, hN, hni, T⟩ := exc_obj I.kIn q
  refine wpAny_call_exc_subT F T hC hN hni (fun h' a hm => ?_) (by show 0 ≤ sizeLine; decide)
  have hn : H a = none := I.hok.gone hm.new
  obtain ⟨t, ht, _, _⟩ := hm.there
  exact ⟨.ref a, upd H a (exo a C none), I.laidN hm.keeps hm.new hn (exo_ok ht), rfl, h a hn⟩
end Ev
set_option maxHeartbeats 4000000
namespace LawK
open PySem PySem.Spec PyProof.Rows L2 Ev
def topS (i : Nat) : Stmt := PySem.Challenge.pw_everypiece_k00_errors_keep_what_is_passe.main.body.getD i (.Pass ⟨0, 0, 0, 0⟩)
abbrev sHand : Stmt := topS 32
abbrev sTake : Stmt := topS 33
/-! ### the hand of a law: what is left of the script, and a seed -/
def HandAt (H : Hp) (p : Addr) : Prop := ∃ (l : Addr) (cells : List Int) (i r s n : Int), H p = some (.lst [.ref l, .int i, .int r, .int s, .int n]) ∧ H l = some (.lst (cells.map V.int)) ∧ 0 ≤ i ∧ 0 ≤ s ∧ s < 2147483647
/-- nothing but the hand at p has changed -/
def But (p : Addr) (H H' : Hp) : Prop := ∀ b o, b ≠ p → H b = some o → H' b = some o
theorem But.refl (p : Addr) (H : Hp) : But p H H := fun _ _ _ h => h
theorem But.trans {p : Addr} {H H1 H2 : Hp} (a : But p H H1) (b : But p H1 H2) : But p H H2 := fun c o n h => b c o n (a c o n h)
theorem But.new {p q : Addr} {H H1 : Hp} {o : HO} (a : But p H H1) (h : H1 q = none) : But p H (upd H1 q o) := fun c u n e => by
  have z := a c u n e
  rw [upd_ne (ne_of_none z h)]
  exact z
theorem But.same {p : Addr} {H H' : Hp} (a : Same H H') : But p H H' := fun c o _ e => a c o e
def spTake : Sp := fun vs H Q _ => ∃ (p : Addr) (m : Int), vs = [.ref p, .int m] ∧ 0 < m ∧ m < 1000000 ∧ HandAt H p ∧ ∀ v H', 0 ≤ v → v < m → HandAt H' p → But p H H' → Q (.int v) H'
def spHand (K : PySem.W.Frag) : Sp := fun vs H Q _ => ∃ (a : Addr) (ns : List Int), vs = [.ref a] ∧ SqL K H a (ns.map V.int) ∧ ∀ p H', H p = none → HandAt H' p → Same H H' → Q (.ref p) H'
theorem scHand : FnScope ["script"] ["script"] (defScope sHand) := ⟨rfl, rfl, rfl, by decide +kernel, rfl, by decide +kernel, by decide +kernel⟩
theorem scTake : FnScope ["hand", "many", "cell", "found", "number"] ["hand", "many"] (defScope sTake) := ⟨rfl, rfl, rfl, by decide +kernel, rfl, by decide +kernel, by decide +kernel⟩
structure Glob (mg : Str → Option Value) : Prop where
  len : mg "len" = none
  int : mg "int" = none
  list : mg "list" = none
  range : mg "range" = none
theorem sq_of {K : PySem.W.Frag} {H : Hp} {a : Addr} {xs : List V} (h : H a = some (.lst xs)) : SqL K H a xs := .inl (.inl h)
theorem atI_in {α : Type} {xs : List α} {i : Int} (h0 : 0 ≤ i) (h1 : i < xs.length) : ∃ v, atI xs i = some v ∧ v ∈ xs := by
  obtain ⟨j, rfl⟩ := Int.eq_ofNat_of_zero_le h0
  have hj : j < xs.length := by omega
  exact ⟨xs[j], atI_nat (by rw [List.getElem?_eq_getElem hj]), List.getElem_mem hj⟩
theorem atI_int {xs : List Int} {i : Int} (h0 : 0 ≤ i) (h1 : i < xs.length) : ∃ c : Int, atI (xs.map V.int) i = some (.int c) := by
  obtain ⟨v, e, hm⟩ := atI_in (xs := xs.map V.int) h0 (by rw [List.length_map]; exact h1)
  obtain ⟨c, _, rfl⟩ := List.mem_map.mp hm
  exact ⟨c, e⟩
section
variable {P : Program} {w : World} {K : PySem.W.Frag} {mg : Str → Option Value} {base : Heap}
theorem ok_hand {f : Addr} {fd : FuncData} (F : Fun K "_law_hand" "_law_hand" sHand f fd) (T : Glob mg) : FnOk P w K mg base CX0 1 f fd ["script"] (spHand K) := by
  refine F.ok scHand (fun vs H Q E h => ?_) (fun cdv A outer s H vs Q E hr h => ?_)
  · obtain ⟨a, ns, rfl, _⟩ := h
    rfl
  · obtain ⟨a, ns, rfl, hS, q⟩ := h
    refine ⟨_, pss_one (ps_ret (pe_lst (pa_cons (pe_callTy call_list_of (by rfl) T.list (by decide +kernel) (pa_cons (pv 0) pa_nil)) (pa_cons pe_int (pa_cons pe_int (pa_cons pe_int (pa_cons pe_int pa_nil))))))), ?_⟩
    refine ⟨.ref a, rfl, a, _, rfl, .inl hS, fun l hl => ⟨by show 5 ≤ sizeLine; decide, fun p hp => ?_⟩⟩
    have nlp : l ≠ p := fun e => by
      rw [e, upd_same] at hp
      cases hp
    have np : H p = none := by
      rw [upd_ne nlp.symm] at hp
      exact hp
    refine q p _ np ⟨l, ns, 0, 0, 1, 0, upd_same, by rw [upd_ne nlp, upd_same], by decide, by decide, by decide⟩ fun b o e => ?_
    rw [upd_ne (ne_of_none e np), upd_ne (ne_of_none e hl)]
    exact e
theorem PSs.imp {X : Cx} {st : List Stmt} {t u : TS} (h : PSs X st u) (k : ∀ D σ H, t D σ H → u D σ H) : PSs X st t := ⟨fun pins s σ H D I q => h.run pins s σ H D I (k D σ H q)⟩
theorem PE.imp {X : Cx} {e : Expr} {t u : TE} (h : PE X e u) (k : ∀ σ H Q, t σ H Q → u σ H Q) : PE X e t := ⟨fun pins s σ H Q I q => h.run pins s σ H Q I (k σ H Q q)⟩
theorem PS.imp {X : Cx} {st : Stmt} {t u : TS} (h : PS X st u) (k : ∀ D σ H, t D σ H → u D σ H) : PS X st t := ⟨fun pins s σ H D I q => h.run pins s σ H D I (k D σ H q)⟩
def tTail : TS := fun D σ H => ∃ (p : Addr) (m : Int) (l : Addr) (cells : List Int) (i r s n : Int) (c f x : Option V), σ = [some (.ref p), some (.int m), c, f, x] ∧ 0 < m ∧ m < 1000000 ∧ H p = some (.lst [.ref l, .int i, .int r, .int s, .int n]) ∧ H l = some (.lst (cells.map V.int)) ∧ l ≠ p ∧ 0 ≤ i ∧ 0 ≤ s ∧ s < 2147483647 ∧
  ∀ v H', 0 ≤ v → v < m → HandAt H' p → But p H H' → D.rt (.int v) H'
theorem HandAt.mk {H : Hp} {p l : Addr} {cells : List Int} {i r s n : Int} (hp : H p = some (.lst [.ref l, .int i, .int r, .int s, .int n])) (hl : H l = some (.lst (cells.map V.int))) (h1 : 0 ≤ i) (h2 : 0 ≤ s) (h3 : s < 2147483647) : HandAt H p := ⟨l, cells, i, r, s, n, hp, hl, h1, h2, h3⟩
theorem but_upd {p : Addr} {H : Hp} {o : HO} : But p H (upd H p o) := fun b u n e => by
  rw [upd_ne n]
  exact e
theorem mod_pos {i j : Int} (h : 0 < j) : (fun (_ j : Int) => 0 < j) i j := h
theorem boot_ty_int : bootBuiltins "int" = some (.type "int") := by decide +kernel
theorem ok_take {f : Addr} {fd : FuncData} (F : Fun K "_law_take" "_law_take" sTake f fd) (T : Glob mg) : FnOk P w K mg base CX0 1 f fd ["hand", "many"] spTake := by
  refine F.ok scTake (fun vs H Q E h => ?_) (fun cdv A outer s H vs Q E hr h => ?_)
  · obtain ⟨p, m, rfl, _⟩ := h
    rfl
  · obtain ⟨p, m, rfl, m0, m1, ⟨l, cells, i, r, s0, n, hp, hl, hi, hs0, hs1⟩, q⟩ := h
    have npl : l ≠ p := fun e => by
      rw [e, hp] at hl
      have z := congrArg List.head? (HO.lst.inj (Option.some.inj hl))
      cases cells with
      | nil => cases z
      | cons c r => cases z
    refine ⟨_, pss_cons (ps_asg (pe_op op_add (pe_ix ix_list (pv 0) pe_int (fun _ _ => rfl)) pe_int) (pg_sub (pv 0) pe_int set_list))
      (pss_cons (ps_if (PW.pt (pw_and (pt_cmpR op_eq (pe_ix ix_list (pv 0) pe_int (fun _ _ => rfl)) pe_int (nomark _)) (pw_and1 (pt_cmpR op_lt (pe_ix ix_list (pv 0) pe_int (fun _ _ => rfl)) (pe_callB call_len_seq (by rfl) T.len PySem.boot_len (pa_cons (pe_ix ix_list (pv 0) pe_int (fun _ _ => rfl)) pa_nil)) (nomark _)))))
        (pss_cons (ps_set (i := 2) scTake.nd rfl (.inl rfl) (pe_callTy call_int1 (by rfl) T.int boot_ty_int (pa_cons (pe_ix ix_list (pe_ix ix_list (pv 0) pe_int (fun _ _ => rfl)) (pe_ix ix_list (pv 0) pe_int (fun _ _ => rfl)) (fun _ _ => rfl)) pa_nil)))
        (pss_cons (ps_asg (pe_op op_add (pe_ix ix_list (pv 0) pe_int (fun _ _ => rfl)) pe_int) (pg_sub (pv 0) pe_int set_list))
        (pss_one (ps_if (pt_cmpR op_ge (pv 2) (pe_op op_pow pe_int pe_int) (nomark _))
          (pss_one (ps_asg (pv 2) (pg_sub (pv 0) pe_int set_list)))
          (pss_one (ps_asg (pe_op op_mod (pe_callTy call_int1 (by rfl) T.int boot_ty_int (pa_cons (pe_op op_add (pe_op op_add (pe_op op_mul (pe_ix ix_list (pv 0) pe_int (fun _ _ => rfl)) pe_int) (pe_op op_mod (pe_callTy call_int1 (by rfl) T.int boot_ty_int (pa_cons (pv 2) pa_nil)) pe_int)) pe_int) pa_nil)) pe_int) (pg_sub (pv 0) pe_int set_list)))))))
        pss_nil)
      (PSs.imp (t := tTail) (pss_cons (ps_if (pt_cmpR op_gt (pe_ix ix_list (pv 0) pe_int (fun _ _ => rfl)) pe_int (nomark _))
        (pss_cons (ps_set (i := 3) scTake.nd rfl (.inl rfl) (pe_op op_mod (pe_callTy call_int1 (by rfl) T.int boot_ty_int (pa_cons (pe_ix ix_list (pv 0) pe_int (fun _ _ => rfl)) pa_nil)) (pv 1)))
        (pss_cons (ps_asg (pe_op op_fdiv (pe_callTy call_int1 (by rfl) T.int boot_ty_int (pa_cons (pe_ix ix_list (pv 0) pe_int (fun _ _ => rfl)) pa_nil)) (pv 1)) (pg_sub (pv 0) pe_int set_list))
        (pss_one (ps_ret (pv 3)))))
        pss_nil)
      (pss_cons (ps_asg (pe_op op_mod (pe_callTy call_int1 (by rfl) T.int boot_ty_int (pa_cons (pe_op op_add (pe_op op_mul (pe_ix ix_list (pv 0) pe_int (fun _ _ => rfl)) pe_int) (pe_op op_mul pe_int (pe_ix ix_list (pv 0) pe_int (fun _ _ => rfl)))) pa_nil)) pe_int) (pg_sub (pv 0) pe_int set_list))
      (pss_cons (ps_set (i := 4) scTake.nd rfl (.inl rfl) (pe_op op_mod (pe_callTy call_int1 (by rfl) T.int boot_ty_int (pa_cons (pe_op op_mul (pe_ix ix_list (pv 0) pe_int (fun _ _ => rfl)) (pe_op op_add (pe_op op_fdiv (pe_ix ix_list (pv 0) pe_int (fun _ _ => rfl)) pe_int) pe_int)) pa_nil)) pe_int))
      (pss_cons (ps_set (i := 4) scTake.nd rfl (.inl rfl) (pe_op op_mod (pe_callTy call_int1 (by rfl) T.int boot_ty_int (pa_cons (pe_op op_mul (pv 4) (pe_op op_add (pe_op op_fdiv (pv 4) pe_int) pe_int)) pa_nil)) pe_int))
      (pss_one (ps_ret (pe_op op_mod (pe_callTy call_int1 (by rfl) T.int boot_ty_int (pa_cons (pe_op op_fdiv (pv 4) pe_int) pa_nil)) (pv 1)))))))) ?tail)), ?_⟩
    case tail =>
      rintro D σ H ⟨p, m, l, cells, i, r, s, n, c, f, x, rfl, m0, m1, hp, hl, npl, hi, hs0, hs1, q⟩
      refine ⟨.ref p, rfl, p, _, 2, _, rfl, rfl, sq_of hp, rfl, _, _, rfl, rfl, _, rfl, ite2 (fun e => ?_) (fun e => ?_)⟩
      · refine ⟨.ref p, rfl, p, _, 2, _, rfl, rfl, sq_of hp, rfl, .inl ⟨r, rfl, .int m, rfl, _, _, rfl, rfl, m0, ?_⟩⟩
        refine ⟨.ref p, rfl, p, _, 2, _, rfl, rfl, sq_of hp, rfl, .inl ⟨r, rfl, .int m, rfl, _, _, rfl, rfl, ⟨m0, by omega⟩, ?_⟩⟩
        refine ⟨.ref p, rfl, p, _, 2, 2, rfl, rfl, hp, rfl, ?_⟩
        refine ⟨_, rfl, ?_⟩
        refine q _ _ (Int.emod_nonneg _ (by omega)) (Int.emod_lt_of_pos _ m0) (.mk upd_same (by rw [upd_ne npl]; exact hl) hi hs0 hs1) but_upd
      · refine ⟨.ref p, rfl, p, _, 3, _, rfl, rfl, sq_of hp, rfl, s, 69621, rfl, rfl, .inl ⟨by omega, by omega⟩, .ref p, rfl, p, _, 4, _, rfl, rfl, sq_of hp, rfl, 7919, n, rfl, rfl, .inl ⟨by decide, by decide⟩, _, _, rfl, rfl, .inl ⟨_, rfl, _, _, rfl, rfl, (by show (0 : Int) < 2147483647; decide), .ref p, rfl, p, _, 3, 3, rfl, rfl, hp, rfl, ?_⟩⟩
        dsimp only
        have a0 : 0 ≤ (s * 69621 + 7919 * n) % 2147483647 := Int.emod_nonneg _ (by decide)
        have a1 : (s * 69621 + 7919 * n) % 2147483647 < 2147483647 := Int.emod_lt_of_pos _ (by decide)
        generalize (s * 69621 + 7919 * n) % 2147483647 = s2 at a0 a1 ⊢
        have hp2 : upd H p (.lst (List.set [.ref l, .int i, .int r, .int s, .int n] 3 (.int s2))) p = some (.lst [.ref l, .int i, .int r, .int s2, .int n]) := upd_same
        have hl2 : upd H p (.lst (List.set [.ref l, .int i, .int r, .int s, .int n] 3 (.int s2))) l = some (.lst (cells.map V.int)) := by rw [upd_ne npl]; exact hl
        have b2 : But p H (upd H p (.lst (List.set [.ref l, .int i, .int r, .int s, .int n] 3 (.int s2)))) := but_upd
        generalize upd H p (.lst (List.set [.ref l, .int i, .int r, .int s, .int n] 3 (.int s2))) = H2 at hp2 hl2 b2 ⊢
        refine ⟨.ref p, rfl, p, _, 3, _, rfl, rfl, sq_of hp2, rfl, .ref p, rfl, p, _, 3, _, rfl, rfl, sq_of hp2, rfl, _, _, rfl, rfl, ⟨by decide, by decide⟩, _, _, rfl, rfl, _, _, rfl, rfl, .inl ⟨by omega, by omega⟩, .inl ⟨_, rfl, _, _, rfl, rfl, (by show (0 : Int) < 2147483647; decide), ?_⟩⟩
        dsimp only
        have a2 : 0 ≤ (s2 * (s2 / 1009 + 69621)) % 2147483647 := Int.emod_nonneg _ (by decide)
        have a3 : (s2 * (s2 / 1009 + 69621)) % 2147483647 < 2147483647 := Int.emod_lt_of_pos _ (by decide)
        generalize (s2 * (s2 / 1009 + 69621)) % 2147483647 = y at a2 a3 ⊢
        refine ⟨_, rfl, _, rfl, _, _, rfl, rfl, ⟨by decide, by decide⟩, _, _, rfl, rfl, _, _, rfl, rfl, .inl ⟨by omega, by omega⟩, .inl ⟨_, rfl, _, _, rfl, rfl, (by show (0 : Int) < 2147483399; decide), ?_⟩⟩
        refine ⟨_, rfl, _, _, rfl, rfl, ⟨by decide, by decide⟩, .inl ⟨_, rfl, .int m, rfl, _, _, rfl, rfl, m0, ?_⟩⟩
        exact q _ _ (Int.emod_nonneg _ (by omega)) (Int.emod_lt_of_pos _ m0) (.mk hp2 hl2 hi a0 a1) b2
    -- hand[4] = hand[4] + 1
    refine ⟨.ref p, rfl, p, _, 4, _, rfl, rfl, sq_of hp, rfl, _, _, rfl, rfl, .ref p, rfl, p, _, 4, 4, rfl, rfl, hp, rfl, ?_⟩
    dsimp only
    have hp1 : upd H p (.lst (List.set [.ref l, .int i, .int r, .int s0, .int n] 4 (.int (n + 1)))) p = some (.lst [.ref l, .int i, .int r, .int s0, .int (n + 1)]) := upd_same
    have hl1 : upd H p (.lst (List.set [.ref l, .int i, .int r, .int s0, .int n] 4 (.int (n + 1)))) l = some (.lst (cells.map V.int)) := by rw [upd_ne npl]; exact hl
    have b1 : But p H (upd H p (.lst (List.set [.ref l, .int i, .int r, .int s0, .int n] 4 (.int (n + 1))))) := but_upd
    generalize upd H p (.lst (List.set [.ref l, .int i, .int r, .int s0, .int n] 4 (.int (n + 1)))) = H1 at hp1 hl1 b1 ⊢
    have fin : ∀ {H2 : Hp} {i r s n : Int} {c : Option V}, H2 p = some (.lst [.ref l, .int i, .int r, .int s, .int n]) → H2 l = some (.lst (cells.map V.int)) → 0 ≤ i → 0 ≤ s → s < 2147483647 → But p H H2 →
        tTail { nx := fun _ H' => Q .non H', rt := Q } [some (.ref p), some (.int m), c, none, none] H2 := fun {H2 i r s n c} h1 h2 h3 h4 h5 h6 =>
      ⟨p, m, l, cells, i, r, s, n, c, none, none, rfl, m0, m1, h1, h2, npl, h3, h4, h5, fun v H' g1 g2 g3 g4 => q v H' g1 g2 g3 (h6.trans g4)⟩
    refine ⟨.ref p, rfl, p, _, 2, _, rfl, rfl, sq_of hp1, rfl, rfl, _, rfl, ite2 (fun e => ?_) (fun e => ?_)⟩
    · refine ⟨.ref p, rfl, p, _, 1, _, rfl, rfl, sq_of hp1, rfl, .ref p, rfl, p, _, 0, _, rfl, rfl, sq_of hp1, rfl, l, _, rfl, .inl (sq_of hl1), _, _, rfl, rfl, _, rfl, ite2 (fun e2 => ?_) (fun e2 => ?_)⟩
      · have hlt : i < (cells.length : Int) := by
          have z := of_decide_eq_true e2
          rw [List.length_map] at z
          exact z
        obtain ⟨c, hc⟩ := atI_int hi hlt
        refine ⟨.ref p, rfl, p, _, 0, _, rfl, rfl, sq_of hp1, rfl, .ref p, rfl, p, _, 1, _, rfl, rfl, sq_of hp1, rfl, l, _, i, _, rfl, rfl, sq_of hl1, hc, .inl ⟨c, rfl, ?_⟩⟩
        refine ⟨.ref p, rfl, p, _, 1, _, rfl, rfl, sq_of hp1, rfl, _, _, rfl, rfl, .ref p, rfl, p, _, 1, 1, rfl, rfl, hp1, rfl, ?_⟩
        dsimp only
        have hp2 : upd H1 p (.lst (List.set [.ref l, .int i, .int r, .int s0, .int (n + 1)] 1 (.int (i + 1)))) p = some (.lst [.ref l, .int (i + 1), .int r, .int s0, .int (n + 1)]) := upd_same
        have hl2 : upd H1 p (.lst (List.set [.ref l, .int i, .int r, .int s0, .int (n + 1)] 1 (.int (i + 1)))) l = some (.lst (cells.map V.int)) := by rw [upd_ne npl]; exact hl1
        have b2 : But p H (upd H1 p (.lst (List.set [.ref l, .int i, .int r, .int s0, .int (n + 1)] 1 (.int (i + 1))))) := b1.trans but_upd
        generalize upd H1 p (.lst (List.set [.ref l, .int i, .int r, .int s0, .int (n + 1)] 1 (.int (i + 1)))) = H2 at hp2 hl2 b2 ⊢
        refine ⟨.int c, rfl, _, _, rfl, rfl, ⟨by decide, by decide, by decide⟩, _, _, rfl, rfl, _, rfl, ite2 (fun _ => ?_) (fun _ => ?_)⟩
        · refine ⟨.int c, rfl, .ref p, rfl, p, _, 2, 2, rfl, rfl, hp2, rfl, ?_⟩
          exact fin upd_same (by rw [upd_ne npl]; exact hl2) (by omega) hs0 hs1 (b2.trans but_upd)
        · refine ⟨.ref p, rfl, p, _, 3, _, rfl, rfl, sq_of hp2, rfl, s0, 48271, rfl, rfl, .inl ⟨by omega, by omega⟩, .int c, rfl, .inl ⟨c, rfl, _, _, rfl, rfl, (by show (0 : Int) < 2147483647; decide), _, _, rfl, rfl, _, _, rfl, rfl, .inl ⟨_, rfl, _, _, rfl, rfl, (by show (0 : Int) < 2147483647; decide), .ref p, rfl, p, _, 3, 3, rfl, rfl, hp2, rfl, ?_⟩⟩⟩
          exact fin upd_same (by rw [upd_ne npl]; exact hl2) (by omega) (Int.emod_nonneg _ (by decide)) (Int.emod_lt_of_pos _ (by decide)) (b2.trans but_upd)
      · exact fin hp1 hl1 hi hs0 hs1 b1
    · exact fin hp1 hl1 hi hs0 hs1 b1
end
end LawK
set_option maxHeartbeats 4000000
namespace LawK
open PySem PySem.Spec PyProof.Rows L2 Ev
abbrev sOdd : Stmt := topS 34
abbrev sThing : Stmt := topS 35
theorem Same.new {H : Hp} {q : Addr} {o : HO} (h : H q = none) : Same H (upd H q o) := fun b u e => by
  rw [upd_ne (ne_of_none e h)]
  exact e
theorem HandAt.same {H H' : Hp} {p : Addr} (k : Same H H') (h : HandAt H p) : HandAt H' p := by
  obtain ⟨l, cells, i, r, s, n, h1, h2, h3⟩ := h
  exact ⟨l, cells, i, r, s, n, k _ _ h1, k _ _ h2, h3⟩
theorem But.and {p : Addr} {H H1 H2 : Hp} (a : But p H H1) (k : Same H1 H2) : But p H H2 := fun b o n e => k b o (a b o n e)
theorem hand_ne {H : Hp} {p a : Addr} {o : HO} (h : HandAt H p) (e : H a = some o) (n : ∀ x1 x2 x3 x4 x5, o ≠ .lst [x1, x2, x3, x4, x5]) : a ≠ p := fun z => by
  obtain ⟨l, cells, i, r, s, m, h1, _⟩ := h
  rw [z, h1] at e
  exact n _ _ _ _ _ (Option.some.inj e).symm
theorem dt_but {H H' : Hp} {p : Addr} {v : V} {d : PyData} (h : Dt H v d) (hp : HandAt H p) (k : But p H H') : Dt H' v d := by
  induction h with
  | non => exact .non
  | bl b => exact .bl b
  | int i => exact .int i
  | str x => exact .str x
  | dic e => exact .dic (k _ _ (hand_ne hp e fun _ _ _ _ _ z => by cases z) e)
  | l0 e n => exact .l0 (k _ _ (hand_ne hp e fun _ _ _ _ _ z => by cases z) e) n
  | l1 e n _ ih => exact .l1 (k _ _ (hand_ne hp e fun _ _ _ _ _ z => by cases z) e) n ih
  | l2 e n _ _ i1 i2 => exact .l2 (k _ _ (hand_ne hp e fun _ _ _ _ _ z => by cases z) e) n i1 i2
  | t0 e => exact .t0 (k _ _ (hand_ne hp e fun _ _ _ _ _ z => by cases z) e)
  | t1 e _ ih => exact .t1 (k _ _ (hand_ne hp e fun _ _ _ _ _ z => by cases z) e) ih
  | t2 e _ _ i1 i2 => exact .t2 (k _ _ (hand_ne hp e fun _ _ _ _ _ z => by cases z) e) i1 i2
def spOdd : Sp := fun vs H Q _ => ∃ (p : Addr), vs = [.ref p] ∧ HandAt H p ∧ ∀ v d H', Dt H' v d → Small d 3 40 → HandAt H' p → But p H H' → Q v H'
def spThing : Sp := fun vs H Q _ => ∃ (p : Addr), vs = [.ref p] ∧ HandAt H p ∧ ∀ v d H', Dt H' v d → Small d 60 1000 → HandAt H' p → But p H H' → Q v H'
theorem scOdd : FnScope ["hand", "way"] ["hand"] (defScope sOdd) := ⟨rfl, rfl, rfl, by decide +kernel, rfl, by decide +kernel, by decide +kernel⟩
theorem scThing : FnScope ["hand", "thing", "k"] ["hand"] (defScope sThing) := ⟨rfl, rfl, rfl, by decide +kernel, rfl, by decide +kernel, by decide +kernel⟩
section
variable {P : Program} {w : World} {K : PySem.W.Frag} {mg : Str → Option Value} {base : Heap}
theorem ok_odd {f fT : Addr} {fd fdT : FuncData} (F : Fun K "_law_odd" "_law_odd" sOdd f fd) (FT : Fun K "_law_take" "_law_take" sTake fT fdT) (bT : Binds K fdT ["hand", "many"] []) (gT : mg "_law_take" = some (.ref fT)) (T : Glob mg) : FnOk P w K mg base CX0 2 f fd ["hand"] spOdd := by
  have GT : FnOk P w K mg base CX0 1 fT fdT ["hand", "many"] spTake := ok_take FT T
  refine F.ok scOdd (fun vs H Q E h => ?_) (fun cdv A outer s H vs Q E hr h => ?_)
  · obtain ⟨p, rfl, _⟩ := h
    rfl
  · obtain ⟨p, rfl, hH, q⟩ := h
    refine ⟨_, pss_cons (ps_set (i := 1) scOdd.nd rfl (.inl rfl) (pe_call GT hr (by rfl) gT FT.kp bT .nil pass0 (pa_cons (pv 0) (pa_cons pe_int pa_nil))))
      (pss_cons (ps_if (pt_cmpR op_lt (pv 1) pe_int (nomark _)) (pss_one (ps_ret (pe_ix ix_list (pe_lst (pa_cons pe_non (pa_cons pe_bl (pa_cons pe_bl (pa_cons pe_str (pa_cons pe_str (pa_cons pe_str pa_nil))))))) (pv 1) (fun _ _ => rfl)))) pss_nil)
      (pss_cons (ps_if (pt_cmpR op_lt (pv 1) pe_int (nomark _)) (pss_one (ps_ret (pe_ix ix_list (pe_lst (pa_cons (pe_tup pa_nil) (pa_cons (pe_lstN pa_nil) (pa_cons pe_dnewK (pa_cons (pe_tup (pa_cons pe_str pa_nil)) (pa_cons (pe_lstN (pa_cons pe_int pa_nil)) (pa_cons (pe_tup (pa_cons (pe_tup pa_nil) pa_nil)) pa_nil))))))) (pe_op op_sub (pv 1) pe_int) (fun _ _ => rfl)))) pss_nil)
      (pss_cons (ps_if (pt_cmpR op_lt (pv 1) pe_int (nomark _)) (pss_one (ps_ret (pe_ix ix_list (pe_lst (pa_cons (pe_un un_neg pe_int) (pa_cons pe_int (pa_cons pe_int (pa_cons (pe_op op_sub (pe_op op_pow pe_int pe_int) pe_int) (pa_cons pe_str (pa_cons pe_str pa_nil))))))) (pe_op op_sub (pv 1) pe_int) (fun _ _ => rfl)))) pss_nil)
      (pss_cons (ps_if (pt_cmpR op_eq (pv 1) pe_int (nomark _)) (pss_one (ps_ret (pe_lstN (pa_cons pe_str (pa_cons (pe_tup (pa_cons pe_str pa_nil)) pa_nil))))) pss_nil)
      (pss_one (ps_ret (pe_tup (pa_cons pe_str pa_nil)))))))), ?_⟩
    refine ⟨.ref p, rfl, p, 20, rfl, by decide, by decide, hH, fun v H1 v0 v1 h1 b1 => ?_⟩
    refine ⟨.int v, rfl, _, _, rfl, rfl, _, rfl, ite2 (fun e => ?_) (fun e => ?_)⟩
    · have e' : v < 6 := of_decide_eq_true e
      refine ⟨by show 6 ≤ sizeLine; decide, fun o no => ?_⟩
      have k : ∀ {x : V} {d : PyData}, Dt (upd H1 o (.lst [.non, .bl true, .bl false, .str "", .str "a", .str "put"])) x d → Small d 3 40 → Q x (upd H1 o (.lst [.non, .bl true, .bl false, .str "", .str "a", .str "put"])) := fun {x d} h s => q x d _ h s (h1.same (Same.new no)) (b1.and (Same.new no))
      obtain rfl | rfl | rfl | rfl | rfl | rfl : v = 0 ∨ v = 1 ∨ v = 2 ∨ v = 3 ∨ v = 4 ∨ v = 5 := by omega
      · exact ⟨_, rfl, o, _, _, _, rfl, rfl, sq_of upd_same, rfl, k .non ⟨by decide +kernel, by decide +kernel, by decide +kernel⟩⟩
      · exact ⟨_, rfl, o, _, _, _, rfl, rfl, sq_of upd_same, rfl, k (.bl _) ⟨by decide +kernel, by decide +kernel, by decide +kernel⟩⟩
      · exact ⟨_, rfl, o, _, _, _, rfl, rfl, sq_of upd_same, rfl, k (.bl _) ⟨by decide +kernel, by decide +kernel, by decide +kernel⟩⟩
      · exact ⟨_, rfl, o, _, _, _, rfl, rfl, sq_of upd_same, rfl, k (.str _) ⟨by decide +kernel, by decide +kernel, by decide +kernel⟩⟩
      · exact ⟨_, rfl, o, _, _, _, rfl, rfl, sq_of upd_same, rfl, k (.str _) ⟨by decide +kernel, by decide +kernel, by decide +kernel⟩⟩
      · exact ⟨_, rfl, o, _, _, _, rfl, rfl, sq_of upd_same, rfl, k (.str _) ⟨by decide +kernel, by decide +kernel, by decide +kernel⟩⟩
    have e1 : ¬ v < 6 := fun z => e (decide_eq_true z)
    refine ⟨.int v, rfl, _, _, rfl, rfl, _, rfl, ite2 (fun e => ?_) (fun e => ?_)⟩
    · have e' : v < 12 := of_decide_eq_true e
      refine ⟨by show 0 ≤ sizeLine; decide, fun p1 n1 => ⟨by show 0 ≤ sizeLine; decide, fun p2 n2 m2 => fun p3 n3 => ⟨by show 1 ≤ sizeLine; decide, fun p4 n4 => ⟨by show 1 ≤ sizeLine; decide, fun p5 n5 m5 => ⟨by show 0 ≤ sizeLine; decide, fun p6 n6 => ⟨by show 1 ≤ sizeLine; decide, fun p7 n7 => ⟨by show 6 ≤ sizeLine; decide, fun o no => ?_⟩⟩⟩⟩⟩⟩⟩
      have k8 := Same.new (o := .lst [.ref p1, .ref p2, .ref p3, .ref p4, .ref p5, .ref p7]) no
      have k7 := (Same.new (o := .tup [.ref p6]) n7).trans k8
      have k6 := (Same.new (o := .tup []) n6).trans k7
      have k5 := (Same.new (o := .lst [.int 0]) n5).trans k6
      have k4 := (Same.new (o := .tup [.str "a"]) n4).trans k5
      have k3 := (Same.new (o := .dK []) n3).trans k4
      have k2 := (Same.new (o := .lst []) n2).trans k3
      have k1 := (Same.new (o := .tup []) n1).trans k2
      have hQ : ∀ {x : V} {d : PyData}, Dt _ x d → Small d 3 40 → Q x _ := fun {x d} h s => q x d _ h s (h1.same k1) (b1.and k1)
      obtain rfl | rfl | rfl | rfl | rfl | rfl : v = 6 ∨ v = 7 ∨ v = 8 ∨ v = 9 ∨ v = 10 ∨ v = 11 := by omega
      · exact ⟨_, rfl, _, _, rfl, rfl, o, _, _, _, rfl, rfl, sq_of upd_same, rfl, hQ (Dt.t0 (k2 _ _ upd_same)) ⟨by decide +kernel, by decide +kernel, by decide +kernel⟩⟩
      · exact ⟨_, rfl, _, _, rfl, rfl, o, _, _, _, rfl, rfl, sq_of upd_same, rfl, hQ (Dt.l0 (k3 _ _ upd_same) m2) ⟨by decide +kernel, by decide +kernel, by decide +kernel⟩⟩
      · exact ⟨_, rfl, _, _, rfl, rfl, o, _, _, _, rfl, rfl, sq_of upd_same, rfl, hQ (Dt.dic (k4 _ _ upd_same)) ⟨by decide +kernel, by decide +kernel, by decide +kernel⟩⟩
      · exact ⟨_, rfl, _, _, rfl, rfl, o, _, _, _, rfl, rfl, sq_of upd_same, rfl, hQ (Dt.t1 (k5 _ _ upd_same) (.str _)) ⟨by decide +kernel, by decide +kernel, by decide +kernel⟩⟩
      · exact ⟨_, rfl, _, _, rfl, rfl, o, _, _, _, rfl, rfl, sq_of upd_same, rfl, hQ (Dt.l1 (k6 _ _ upd_same) m5 (.int _)) ⟨by decide +kernel, by decide +kernel, by decide +kernel⟩⟩
      · exact ⟨_, rfl, _, _, rfl, rfl, o, _, _, _, rfl, rfl, sq_of upd_same, rfl, hQ (Dt.t1 (k8 _ _ upd_same) (Dt.t0 (k7 _ _ upd_same))) ⟨by decide +kernel, by decide +kernel, by decide +kernel⟩⟩
    have e2 : ¬ v < 12 := fun z => e (decide_eq_true z)
    refine ⟨.int v, rfl, _, _, rfl, rfl, _, rfl, ite2 (fun e => ?_) (fun e => ?_)⟩
    · have e' : v < 18 := of_decide_eq_true e
      refine ⟨_, rfl, _, _, rfl, rfl, ⟨by decide, by decide, by decide⟩, _, _, rfl, rfl, by show 6 ≤ sizeLine; decide, fun o no => ?_⟩
      have hQ : ∀ {x : V} {d : PyData} {u : HO}, Dt (upd H1 o u) x d → Small d 3 40 → Q x (upd H1 o u) := fun {x d u} h s => q x d _ h s (h1.same (Same.new no)) (b1.and (Same.new no))
      obtain rfl | rfl | rfl | rfl | rfl | rfl : v = 12 ∨ v = 13 ∨ v = 14 ∨ v = 15 ∨ v = 16 ∨ v = 17 := by omega
      · exact ⟨_, rfl, _, _, rfl, rfl, o, _, _, _, rfl, rfl, sq_of upd_same, rfl, hQ (.int _) ⟨by decide +kernel, by decide +kernel, by decide +kernel⟩⟩
      · exact ⟨_, rfl, _, _, rfl, rfl, o, _, _, _, rfl, rfl, sq_of upd_same, rfl, hQ (.int _) ⟨by decide +kernel, by decide +kernel, by decide +kernel⟩⟩
      · exact ⟨_, rfl, _, _, rfl, rfl, o, _, _, _, rfl, rfl, sq_of upd_same, rfl, hQ (.int _) ⟨by decide +kernel, by decide +kernel, by decide +kernel⟩⟩
      · exact ⟨_, rfl, _, _, rfl, rfl, o, _, _, _, rfl, rfl, sq_of upd_same, rfl, hQ (.int _) ⟨by decide +kernel, by decide +kernel, by decide +kernel⟩⟩
      · exact ⟨_, rfl, _, _, rfl, rfl, o, _, _, _, rfl, rfl, sq_of upd_same, rfl, hQ (.str _) ⟨by decide +kernel, by decide +kernel, by decide +kernel⟩⟩
      · exact ⟨_, rfl, _, _, rfl, rfl, o, _, _, _, rfl, rfl, sq_of upd_same, rfl, hQ (.str _) ⟨by decide +kernel, by decide +kernel, by decide +kernel⟩⟩
    refine ⟨.int v, rfl, rfl, _, rfl, ite2 (fun e => ?_) (fun e => ?_)⟩
    · refine ⟨by show 1 ≤ sizeLine; decide, fun p1 n1 => ⟨by show 2 ≤ sizeLine; decide, fun p2 n2 m2 => ?_⟩⟩
      have k2 := Same.new (o := .lst [.str "a", .ref p1]) n2
      have k1 := (Same.new (o := .tup [.str "go"]) n1).trans k2
      exact q _ _ _ (Dt.l2 upd_same m2 (.str _) (.t1 (k2 _ _ upd_same) (.str _))) ⟨by decide +kernel, by decide +kernel, by decide +kernel⟩ (h1.same k1) (b1.and k1)
    · refine ⟨by show 1 ≤ sizeLine; decide, fun p1 n1 => ?_⟩
      exact q _ _ _ (Dt.t1 upd_same (.str _)) ⟨by decide +kernel, by decide +kernel, by decide +kernel⟩ (h1.same (Same.new n1)) (b1.and (Same.new n1))
theorem ok_thing {f fT fO : Addr} {fd fdT fdO : FuncData} (F : Fun K "_law_thing" "_law_thing" sThing f fd) (FT : Fun K "_law_take" "_law_take" sTake fT fdT) (bT : Binds K fdT ["hand", "many"] []) (gT : mg "_law_take" = some (.ref fT))
    (FO : Fun K "_law_odd" "_law_odd" sOdd fO fdO) (bO : Binds K fdO ["hand"] []) (gO : mg "_law_odd" = some (.ref fO)) (T : Glob mg) : FnOk P w K mg base CX0 3 f fd ["hand"] spThing := by
  have GT : FnOk P w K mg base CX0 1 fT fdT ["hand", "many"] spTake := ok_take FT T
  have GO : FnOk P w K mg base CX0 2 fO fdO ["hand"] spOdd := ok_odd FO FT bT gT T
  refine F.ok scThing (fun vs H Q E h => ?_) (fun cdv A outer s H vs Q E hr h => ?_)
  · obtain ⟨p, rfl, _⟩ := h
    rfl
  · obtain ⟨p, rfl, hH, q⟩ := h
    have hr1 : Room 1 _ := hr.mono (by decide)
    refine ⟨_, pss_cons (ps_set (i := 1) scThing.nd rfl (.inl rfl) (pe_call GO hr (by rfl) gO FO.kp bO .nil pass0 (pa_cons (pv 0) pa_nil)))
      (pss_cons (ps_for PassesOwn.never rfl (pi_range1 (by rfl) T.range (pa_cons (pe_call GT hr1 (by rfl) gT FT.kp bT .nil pass0 (pa_cons (pv 0) (pa_cons pe_int pa_nil))) pa_nil)) (pg_name (i := 2) scThing.nd rfl (.inl rfl))
        (pss_one (ps_if (pt_cmpR op_eq (pe_call GT hr1 (by rfl) gT FT.kp bT .nil pass0 (pa_cons (pv 0) (pa_cons pe_int pa_nil))) pe_int (nomark _))
          (pss_one (ps_set (i := 1) scThing.nd rfl (.inl rfl) (pe_tup (pa_cons (pv 1) (pa_cons (pv 2) pa_nil)))))
          (pss_one (ps_set (i := 1) scThing.nd rfl (.inl rfl) (pe_lstN (pa_cons (pv 2) (pa_cons (pv 1) pa_nil))))))))
      (pss_one (ps_ret (pv 1)))), ?_⟩
    refine ⟨.ref p, rfl, p, rfl, hH, fun v d H1 hd sd h1 b1 => ?_⟩
    refine ⟨.ref p, rfl, p, 38, rfl, by decide, by decide, h1, fun n H2 n0 n1 h2 b2 => ?_⟩
    refine ⟨n, rfl, by omega, by omega, for_range (fun i σ H' => ∃ (v : V) (d : PyData) (x : Option V), σ = [some (.ref p), some v, x] ∧ Dt H' v d ∧ Small d (3 + i) (40 + 10 * i) ∧ HandAt H' p ∧ But p H H') ⟨v, d, none, rfl, ?_, sd, h2, b1.trans b2⟩ ?_ ?_⟩
    · exact dt_but hd h1 b2
    · rintro i σ H' hi ⟨v, d, x, rfl, hd, sd, h, b⟩
      have hin : (i : Int) < 38 := by omega
      refine ⟨.ref p, rfl, p, 2, rfl, by decide, by decide, h, fun y H3 y0 y1 h3 b3 => ⟨rfl, _, rfl, ite2 (fun e => ?_) (fun e => ?_)⟩⟩
      · refine ⟨_, rfl, _, rfl, by show 2 ≤ sizeLine; decide, fun a na => ?_⟩
        refine ⟨_, _, _, rfl, Dt.t2 upd_same ?_ (.int _), (small_tup sd (k := 0 + (i : Int)) (by omega)).mono (by omega) (by omega), h3.same (Same.new na), (b.trans b3).and (Same.new na)⟩
        exact (dt_but hd h b3).keep (Same.new na)
      · refine ⟨_, rfl, _, rfl, by show 2 ≤ sizeLine; decide, fun a na ma => ?_⟩
        refine ⟨_, _, _, rfl, Dt.l2 upd_same ma (.int _) ?_, (small_lst sd (k := 0 + (i : Int)) (by omega)).mono (by omega) (by omega), h3.same (Same.new na), (b.trans b3).and (Same.new na)⟩
        exact (dt_but hd h b3).keep (Same.new na)
    · rintro σ H' ⟨v, d, x, rfl, hd, sd, h, b⟩
      exact ⟨_, rfl, q v d H' hd (sd.mono (by omega) (by omega)) h b⟩
end
end LawK
set_option maxHeartbeats 4000000
namespace LawK
open PySem PySem.Spec PyProof.Rows L2 Ev
abbrev veT : List Value := [.type "ValueError", .type "Exception", .type "BaseException", .type "object"]
/-- an own error class at C, over the one at PE -/
structure ErC (K : PySem.W.Frag) (PE C : Addr) : Prop where
  oex : OexC K C
  isx : ExcC K C
  xf : XfC K C
  mro : ∃ cd, PySem.W.clsIn K C = some cd ∧ cd.mro = .ref C :: .ref PE :: veT
  isT : PySem.W.typeIn K (.ref C) = some (.type "type")
section
variable {K : PySem.W.Frag} {PE C D : Addr}
theorem ErC.sub (T : ErC K PE C) (b : Value) : PySem.W.subIn K (.ref C) b = some ((Value.ref C :: .ref PE :: veT).contains b) := by
  obtain ⟨cd, h1, h2⟩ := T.mro
  show (PySem.W.clsIn K C).bind _ = _
  rw [h1, Option.bind_some, h2]
  rfl
theorem kit_at (TD : ErC K PE D) (T : ErC K PE C) (n : D ≠ PE) : PySem.W.kitOne K (.ref C) (.ref D) = some (decide (C = D)) := by
  unfold PySem.W.kitOne
  by_cases e : C = D
  · subst e
    rw [if_pos (by simp), decide_eq_true rfl]
  · rw [if_neg (by simpa using e), decide_eq_false e]
    obtain ⟨cd, h1, h2⟩ := TD.mro
    show (if ((PySem.W.clsIn K D).isSome && PySem.W.typeIn K (.ref D) == some (.type "type")) = true then PySem.W.subIn K (.ref C) (.ref D) else none) = some false
    rw [if_pos (by rw [h1, TD.isT]; rfl), T.sub]
    have e2 : D ≠ C := fun z => e z.symm
    simp [veT, e2, n]
end
/-- what stands over all of them -/
structure BaseC (K : PySem.W.Frag) (PE : Addr) : Prop where
  isT : PySem.W.typeIn K (.ref PE) = some (.type "type")
  cls : (PySem.W.clsIn K PE).isSome = true
section
variable {K : PySem.W.Frag} {PE C : Addr}
theorem kit_base (B : BaseC K PE) (T : ErC K PE C) : PySem.W.kitOne K (.ref C) (.ref PE) = some true := by
  unfold PySem.W.kitOne
  by_cases e : C = PE
  · subst e
    rw [if_pos (by simp)]
  · rw [if_neg (by simpa using e)]
    show (if ((PySem.W.clsIn K PE).isSome && PySem.W.typeIn K (.ref PE) == some (.type "type")) = true then PySem.W.subIn K (.ref C) (.ref PE) else none) = some true
    rw [if_pos (by rw [B.cls, B.isT]; rfl), T.sub]
    simp [veT]
theorem kit_type (T : ErC K PE C) {t : String} (h : PySem.W.kitMeta t = true) : PySem.W.kitOne K (.ref C) (.type t) = some (veT.contains (.type t)) := by
  unfold PySem.W.kitOne
  rw [if_neg (by simp)]
  show (if PySem.W.kitMeta t = true then PySem.W.subIn K (.ref C) (.type t) else none) = _
  rw [if_pos h, T.sub]
  simp
end
/-- an error of the class at C at a: with the field f = v, or none -/
def ErrF (H : Hp) (v : V) (a : Addr) (s : Addr × Option Str) : Prop := match s.2 with
  | none => H a = some (exo a s.1 none)
  | some f => ∃ d, H a = some (exo a s.1 (some d)) ∧ H d = some (exd d [(f, v)])
theorem ErrF.same {H H' : Hp} {v : V} {a : Addr} {s : Addr × Option Str} (k : Same H H') (h : ErrF H v a s) : ErrF H' v a s := by
  obtain ⟨C, f⟩ := s
  cases f with
  | none => exact k _ _ h
  | some f =>
    obtain ⟨d, h1, h2⟩ := h
    exact ⟨d, k _ _ h1, k _ _ h2⟩
theorem ErrF.at {H : Hp} {v : V} {a : Addr} {s : Addr × Option Str} (h : ErrF H v a s) : ErrAt H a s.1 := by
  obtain ⟨C, f⟩ := s
  cases f with
  | none => exact .inl h
  | some f =>
    obtain ⟨d, h1, h2⟩ := h
    exact .inr ⟨d, _, h1, h2⟩
abbrev Errs (H : Hp) (v : V) : List Addr → List (Addr × Option Str) → Prop := Paired (ErrF H v)
theorem Errs.same {H H' : Hp} {v : V} (k : Same H H') : ∀ {es : List Addr} {ss : List (Addr × Option Str)}, Errs H v es ss → Errs H' v es ss
  | _, _, .nil => .nil
  | _, _, .cons h t => .cons (h.same k) (Errs.same k t)
theorem Errs.append {H : Hp} {v : V} : ∀ {es fs : List Addr} {ss ts : List (Addr × Option Str)}, Errs H v es ss → Errs H v fs ts → Errs H v (es ++ fs) (ss ++ ts)
  | _, _, _, _, .nil, h => h
  | _, _, _, _, .cons a t, h => .cons a (Errs.append t h)
theorem Errs.get {H : Hp} {v : V} : ∀ {es : List Addr} {ss : List (Addr × Option Str)} {i : Nat} {s : Addr × Option Str}, Errs H v es ss → ss[i]? = some s → ∃ a, es[i]? = some a ∧ ErrF H v a s
  | _, _, _, _, .nil, e => by simp at e
  | _, _, 0, _, .cons h _, e => by
    simp at e
    subst e
    exact ⟨_, rfl, h⟩
  | _, _, i + 1, s, .cons _ t, e => by
    obtain ⟨a, h1, h2⟩ := Errs.get (i := i) (s := s) t (by simpa using e)
    exact ⟨a, by simpa using h1, h2⟩
/-- te makes an error of this kind; the slots are σ -/
def EvE (te : TE) (σ : L2.St) (v : V) (s : Addr × Option Str) : Prop := ∀ (H : Hp) (Q : VK), (∀ a H', Same H H' → ErrF H' v a s → Q (.ref a) H') → te σ H Q
inductive EAll (σ : L2.St) (v : V) : TA → List (Addr × Option Str) → Prop
  | nil : EAll σ v tNil []
  | cons {te : TE} {ta : TA} {s : Addr × Option Str} {ss : List (Addr × Option Str)} : EvE te σ v s → EAll σ v ta ss → EAll σ v (tCons te ta) (s :: ss)
theorem EAll.run {σ : L2.St} {v : V} {ta : TA} {ss : List (Addr × Option Str)} (h : EAll σ v ta ss) : ∀ (H : Hp) (Q : List V → Hp → Prop), (∀ es H', Same H H' → Errs H' v es ss → Q (es.map V.ref) H') → ta σ H Q := by
  induction h with
  | nil => exact fun H Q q => q [] H (Same.refl H) .nil
  | cons he _ ih =>
    intro H Q q
    refine he H _ fun a H1 k1 e1 => ih H1 _ fun es H2 k2 e2 => ?_
    exact q (a :: es) H2 (k1.trans k2) (.cons (e1.same k2) e2)
theorem ev_exc0 {C : Addr} {σ : L2.St} {v : V} : EvE (tExc0 C) σ v (C, none) := fun H Q q a na => q a _ (Same.new na) (by show (upd H a (exo a C none)) a = _; exact upd_same)
theorem ev_exc1 {C : Addr} {f : Str} {σ : L2.St} {v : V} {i : Nat} (h : σ[i]? = some (some v)) : EvE (tExc1 C f (tCons (tVar i) tNil)) σ v (C, some f) := fun H Q q => ⟨v, h, v, rfl, fun a d na nd ne => q a _ (fun b o e => by
  rw [upd_ne (ne_of_none e na), upd_ne (ne_of_none e nd)]
  exact e) ⟨d, upd_same, by rw [upd_ne ne, upd_same]⟩⟩
/-- a display of errors -/
theorem EAll.lst {σ : L2.St} {v : V} {ta : TA} {ss : List (Addr × Option Str)} (h : EAll σ v ta ss) (hz : ss.length ≤ 1000) (H : Hp) (Q : VK) (q : ∀ es p H', Same H H' → H p = none → H' p = some (.lst (es.map V.ref)) → Errs H' v es ss → es.length = ss.length → Q (.ref p) H') : tLst ta σ H Q := by
  refine h.run H _ fun es H1 k1 e1 => ?_
  have hl : es.length = ss.length := Paired.length e1
  refine ⟨?_, fun p np => ?_⟩
  · rw [List.length_map, hl]
    exact Nat.le_trans hz (by decide)
  · exact q es p _ (k1.trans (Same.new np)) (k1.free np) upd_same (e1.same (Same.new np)) hl
/-- isinstance(one, D) for several D -/
inductive IAll (K : PySem.W.Frag) (PE : Addr) : TA → List Addr → Prop
  | nil : IAll K PE tNil []
  | cons {D : Addr} {Ds : List Addr} {ta : TA} : ErC K PE D → D ≠ PE → IAll K PE ta Ds → IAll K PE (tCons (tCB (rIsX K) (tCons (tVar 0) (tCons (tC (.ref D)) tNil))) ta) (D :: Ds)
theorem IAll.run {K : PySem.W.Frag} {PE C a : Addr} {σ : L2.St} {ta : TA} {Ds : List Addr} (h : IAll K PE ta Ds) (T : ErC K PE C) (h0 : σ[0]? = some (some (.ref a))) : ∀ (H : Hp) (Q : List V → Hp → Prop), ErrAt H a C → Q (Ds.map fun D => .bl (decide (C = D))) H → ta σ H Q := by
  induction h with
  | nil => exact fun H Q _ q => q
  | cons TD nD _ ih =>
    intro H Q ea q
    exact ⟨.ref a, h0, a, C, .ref _, .ref _, _, rfl, ea, T.isx, .own _, kit_at TD T nD, ih H _ ea q⟩
theorem errAt_same {H H' : Hp} {a C : Addr} (k : Same H H') (h : ErrAt H a C) : ErrAt H' a C := by
  rcases h with h | ⟨d, fs, h, hd⟩
  · exact .inl (k _ _ h)
  · exact .inr ⟨d, fs, k _ _ h, k _ _ hd⟩
theorem IAll.lst {K : PySem.W.Frag} {PE C a : Addr} {σ : L2.St} {ta : TA} {Ds : List Addr} (h : IAll K PE ta Ds) (T : ErC K PE C) (h0 : σ[0]? = some (some (.ref a))) (hz : Ds.length ≤ 1000) (H : Hp) (Q : VK) (ea : ErrAt H a C)
    (q : ∀ p H', Same H H' → H p = none → H' p = some (.lst (Ds.map fun D => .bl (decide (C = D)))) → Q (.ref p) H') : tLst ta σ H Q :=
  h.run T h0 H _ ea ⟨by rw [List.length_map]; exact Nat.le_trans hz (by decide), fun p np => q p _ (Same.new np) np upd_same⟩
end LawK
set_option maxHeartbeats 8000000
namespace LawK
open PySem PySem.Spec PyProof.Rows L2 Ev
abbrev sAll : Stmt := topS 36
abbrev sMarks : Stmt := topS 37
abbrev sAlien : Stmt := topS 38
abbrev sFields : Stmt := topS 39
abbrev sRaise : Stmt := topS 40
abbrev sCaught : Stmt := topS 41
abbrev sBased : Stmt := topS 42
/-- an error class without a field -/
structure Cls0 (P : Program) (K : PySem.W.Frag) (mg : Str → Option Value) (PE : Addr) (x : Str) (C : Addr) : Prop where
  er : ErC K PE C
  ne : C ≠ PE
  sup : ∃ fI, SupC P K mg C fI
  g : mg x = some (.ref C)
/-- an error class with the field f -/
structure Cls1 (K : PySem.W.Frag) (mg : Str → Option Value) (PE : Addr) (x f : Str) (C : Addr) : Prop where
  er : ErC K PE C
  ne : C ≠ PE
  g : mg x = some (.ref C)
  ini : ∃ (fI : Addr) (fd : FuncData) (st : Stmt) (qual : Str), Fun K "__init__" qual st fI fd ∧ Ini1 st f ∧ Binds K fd ["self", f] [] ∧ PySem.W.findIn K (.ref C) "__init__" = some (some (.ref fI)) ∧ PySem.W.typeIn K (.ref fI) = some (.type "function")
  hno : PySem.W.findIn K (.ref C) f = some none
section
variable {X : Cx} {x f : Str} {PE C : Addr} {p pos : Pos} {e : Expr} {ta : TA} {k : Nat}
theorem pe_c0 (T : Cls0 X.prog X.K X.mg PE x C) (hr : Room k X.A) (hg : Gl X x := by rfl) (hdb : (x == ("__debug__" : Str)) = false := by decide) : L2.PE X (.Call (.Name x p) [] [] pos) (tExc0 C) := by
  obtain ⟨fI, S⟩ := T.sup
  exact pe_exc0 S hr hg T.g hdb
theorem pe_c1 (T : Cls1 X.K X.mg PE x f C) (hr : Room (k + 2) X.A) (ha : PA X [e] ta) (hg : Gl X x := by rfl) (hdb : (x == ("__debug__" : Str)) = false := by decide) (he : starEach (e :: []) X.env = (false, eval e X.env) :: starEach [] X.env := by rfl)
    (hpl : (backTo pos (starEach [] X.env)).any (·.1) = false := by rfl) : L2.PE X (.Call (.Name x p) [e] [] pos) (tExc1 C f ta) := by
  obtain ⟨fI, fd, st, qual, F1, S1, b1, iC, tI⟩ := T.ini
  exact pe_exc1 T.er.oex iC tI (ok_ini1 F1 S1 T.er.oex T.hno) hr b1 hg T.g ha hdb he hpl
def tMk1 (C : Addr) (f : Str) (ta : TA) : L2.St → Hp → XK → Prop := fun σ H Q => ta σ H fun vs H1 => ∃ v, vs = [v] ∧ ∀ d, H1 d = none → Q (.ref C) (some d) (upd H1 d (.xd [(f, v)]))
theorem del_upd {H : Hp} {a d : Addr} {o1 o2 o3 u : HO} (ha : H a = none) (hd : d ≠ a) : upd (del (upd (upd (upd H a o1) d o2) a o3) a) d u = upd H d u := by
  funext b
  by_cases e : b = d
  · rw [e, upd_same, upd_same]
  · rw [upd_ne e, upd_ne e]
    by_cases e2 : b = a
    · rw [e2, del_same, ha]
    · rw [del_ne e2, upd_ne e2, upd_ne e, upd_ne e2]
theorem pmk_c1 (T : Cls1 X.K X.mg PE x f C) (hr : Room (k + 2) X.A) (ha : PA X [e] ta) (hg : Gl X x := by rfl) (hdb : (x == ("__debug__" : Str)) = false := by decide) (he : starEach (e :: []) X.env = (false, eval e X.env) :: starEach [] X.env := by rfl)
    (hpl : (backTo pos (starEach [] X.env)).any (·.1) = false := by rfl) (hm : ∀ {σ : L2.St} {H : Hp} {Q1 Q2 : List V → Hp → Prop}, (∀ vs H1, Q1 vs H1 → Q2 vs H1) → ta σ H Q1 → ta σ H Q2) : PMk X (.Call (.Name x p) [e] [] pos) (tMk1 C f ta) := by
  obtain ⟨fI, fd, st, qual, F1, S1, b1, iC, tI⟩ := T.ini
  intro pins s σ H Q I h
  refine pmk_oex (CX := CX0) (k := 1) (sp := spIni1 C f) (ds := []) (dvs := []) T.er.oex iC tI (ok_ini1 F1 S1 T.er.oex T.hno) (hr.mono (by omega)) b1 .nil (fun _ _ _ _ _ _ _ z => z.elim) hg T.g ha hdb he hpl pins s σ H Q I (hm (fun vs H1 q => ?_) h)
  obtain ⟨v, rfl, q⟩ := q
  refine ⟨by show 1 ≤ 1000; decide, fun a na => ⟨a, v, rfl, upd_same, fun dx n ne => ⟨rfl, dx, _, upd_same, by rw [upd_ne ne, upd_same], ?_, ?_⟩⟩⟩
  · rw [upd_ne ne] at n
    exact n
  · rw [del_upd na ne]
    rw [upd_ne ne] at n
    exact q dx n
end
structure AllC (P : Program) (K : PySem.W.Frag) (mg : Str → Option Value) (PE : Addr) (c : Nat → Addr) : Prop where
  e0 : Cls1 K mg PE "BadLibrary" "part" (c 0)
  e1 : Cls0 P K mg PE "NoWord" (c 1)
  e2 : Cls0 P K mg PE "NoPlace" (c 2)
  e3 : Cls0 P K mg PE "NoEdit" (c 3)
  e4 : Cls1 K mg PE "BadEdits" "index" (c 4)
  e5 : Cls0 P K mg PE "NoNames" (c 5)
  e6 : Cls0 P K mg PE "NoText" (c 6)
  e7 : Cls0 P K mg PE "NoLevel" (c 7)
  e8 : Cls0 P K mg PE "NoNumber" (c 8)
  e9 : Cls0 P K mg PE "NothingDone" (c 9)
  e10 : Cls0 P K mg PE "NoRow" (c 10)
  e11 : Cls0 P K mg PE "NoSign" (c 11)
  e12 : Cls0 P K mg PE "NoClass" (c 12)
  e13 : Cls1 K mg PE "BadWeb" "index" (c 13)
  e14 : Cls0 P K mg PE "NoMachine" (c 14)
  e15 : Cls1 K mg PE "TooMany" "most" (c 15)
  e16 : Cls0 P K mg PE "NoState" (c 16)
  e17 : Cls0 P K mg PE "NoSigns" (c 17)
  e18 : Cls1 K mg PE "NoPhrases" "index" (c 18)
  e19 : Cls0 P K mg PE "NoPattern" (c 19)
  e20 : Cls1 K mg PE "BadPattern" "place" (c 20)
  e21 : Cls0 P K mg PE "NoGaps" (c 21)
  e22 : Cls0 P K mg PE "NoHoles" (c 22)
  e23 : Cls0 P K mg PE "NoLine" (c 23)
  e24 : Cls0 P K mg PE "NoCut" (c 24)
  e25 : Cls0 P K mg PE "NoLines" (c 25)
  e26 : Cls0 P K mg PE "NoDisk" (c 26)
  e27 : Cls0 P K mg PE "NoAsk" (c 27)
  e28 : Cls1 K mg PE "NoName" "name" (c 28)
  inj : ∀ i j, i < 29 → j < 29 → c i = c j → i = j
  base : BaseC K PE
  gPE : mg "PieceError" = some (.ref PE)
def sp1 (c : Nat → Addr) : List (Addr × Option Str) := [(c 0, some ("part" : Str)), (c 1, none), (c 2, none), (c 3, none), (c 4, some ("index" : Str)), (c 5, none), (c 6, none), (c 7, none), (c 8, none)]
def cs1 (c : Nat → Addr) : List Addr := [c 0, c 1, c 2, c 3, c 4, c 5, c 6, c 7, c 8]
def sp2 (c : Nat → Addr) : List (Addr × Option Str) := [(c 9, none), (c 10, none), (c 11, none), (c 12, none), (c 13, some ("index" : Str)), (c 14, none), (c 15, some ("most" : Str)), (c 16, none), (c 17, none)]
def cs2 (c : Nat → Addr) : List Addr := [c 9, c 10, c 11, c 12, c 13, c 14, c 15, c 16, c 17]
def sp3 (c : Nat → Addr) : List (Addr × Option Str) := [(c 18, some ("index" : Str)), (c 19, none), (c 20, some ("place" : Str)), (c 21, none), (c 22, none), (c 23, none), (c 24, none), (c 25, none), (c 26, none)]
def cs3 (c : Nat → Addr) : List Addr := [c 18, c 19, c 20, c 21, c 22, c 23, c 24, c 25, c 26]
def sp4 (c : Nat → Addr) : List (Addr × Option Str) := [(c 27, none), (c 28, some ("name" : Str))]
def cs4 (c : Nat → Addr) : List Addr := [c 27, c 28]
def specs (c : Nat → Addr) : List (Addr × Option Str) := ((sp1 c ++ sp2 c) ++ sp3 c) ++ sp4 c
def cs (c : Nat → Addr) : List Addr := ((cs1 c ++ cs2 c) ++ cs3 c) ++ cs4 c
def spAll (c : Nat → Addr) : Sp := fun vs H Q _ => ∃ v, vs = [v] ∧ ∀ es p H', Same H H' → H p = none → H' p = some (.lst (es.map V.ref)) → Errs H' v es (specs c) → es.length = 29 → Q (.ref p) H'
def spMarks (K : PySem.W.Frag) (PE : Addr) (c : Nat → Addr) : Sp := fun vs H Q _ => ∃ a C, vs = [.ref a] ∧ ErrAt H a C ∧ ErC K PE C ∧ ∀ p H', Same H H' → H p = none → H' p = some (.lst ((cs c).map fun D => .bl (decide (C = D)))) → Q (.ref p) H'
def spAlien (K : PySem.W.Frag) (PE : Addr) : Sp := fun vs H Q _ => ∃ a C, vs = [.ref a] ∧ ErrAt H a C ∧ ErC K PE C ∧ Q (.bl false) H
def spFields (c : Nat → Addr) : Sp := fun vs H Q _ => ∃ p es v, vs = [.ref p] ∧ H p = some (.lst (es.map V.ref)) ∧ Errs H v es (specs c) ∧ ∀ p' H', Same H H' → H p' = none → H' p' = some (.lst [v, v, v, v, v, v, v]) → Q (.ref p') H'
theorem scAll : FnScope ["thing", "first", "second", "third"] ["thing"] (defScope sAll) := ⟨rfl, rfl, rfl, by decide +kernel, rfl, by decide +kernel, by decide +kernel⟩
theorem scMarks : FnScope ["one", "first", "second", "third"] ["one"] (defScope sMarks) := ⟨rfl, rfl, rfl, by decide +kernel, rfl, by decide +kernel, by decide +kernel⟩
theorem scAlien : FnScope ["one"] ["one"] (defScope sAlien) := ⟨rfl, rfl, rfl, by decide +kernel, rfl, by decide +kernel, by decide +kernel⟩
theorem scFields : FnScope ["errors", "first"] ["errors"] (defScope sFields) := ⟨rfl, rfl, rfl, by decide +kernel, rfl, by decide +kernel, by decide +kernel⟩
end LawK
set_option maxHeartbeats 8000000
namespace LawK
open PySem PySem.Spec PyProof.Rows L2 Ev
section
variable {P : Program} {w : World} {K : PySem.W.Frag} {mg : Str → Option Value} {base : Heap} {PE : Addr} {c : Nat → Addr}
theorem ok_all {f : Addr} {fd : FuncData} (F : Fun K "_law_all" "_law_all" sAll f fd) (T : AllC P K mg PE c) : FnOk P w K mg base CX0 3 f fd ["thing"] (spAll c) := by
  refine F.ok scAll (fun vs H Q E h => ?_) (fun cdv A outer s H vs Q E hr h => ?_)
  · obtain ⟨v, rfl, _⟩ := h
    rfl
  · obtain ⟨v, rfl, q⟩ := h
    refine ⟨_, pss_cons (ps_set (i := 1) scAll.nd rfl (.inl rfl) (pe_lst (pa_cons (pe_c1 T.e0 hr (pa_cons (pv 0) pa_nil)) (pa_cons (pe_c0 T.e1 hr) (pa_cons (pe_c0 T.e2 hr) (pa_cons (pe_c0 T.e3 hr) (pa_cons (pe_c1 T.e4 hr (pa_cons (pv 0) pa_nil)) (pa_cons (pe_c0 T.e5 hr) (pa_cons (pe_c0 T.e6 hr) (pa_cons (pe_c0 T.e7 hr) (pa_cons (pe_c0 T.e8 hr) pa_nil)))))))))))
      (pss_cons (ps_set (i := 2) scAll.nd rfl (.inl rfl) (pe_lst (pa_cons (pe_c0 T.e9 hr) (pa_cons (pe_c0 T.e10 hr) (pa_cons (pe_c0 T.e11 hr) (pa_cons (pe_c0 T.e12 hr) (pa_cons (pe_c1 T.e13 hr (pa_cons (pv 0) pa_nil)) (pa_cons (pe_c0 T.e14 hr) (pa_cons (pe_c1 T.e15 hr (pa_cons (pv 0) pa_nil)) (pa_cons (pe_c0 T.e16 hr) (pa_cons (pe_c0 T.e17 hr) pa_nil)))))))))))
      (pss_cons (ps_set (i := 3) scAll.nd rfl (.inl rfl) (pe_lst (pa_cons (pe_c1 T.e18 hr (pa_cons (pv 0) pa_nil)) (pa_cons (pe_c0 T.e19 hr) (pa_cons (pe_c1 T.e20 hr (pa_cons (pv 0) pa_nil)) (pa_cons (pe_c0 T.e21 hr) (pa_cons (pe_c0 T.e22 hr) (pa_cons (pe_c0 T.e23 hr) (pa_cons (pe_c0 T.e24 hr) (pa_cons (pe_c0 T.e25 hr) (pa_cons (pe_c0 T.e26 hr) pa_nil)))))))))))
      (pss_one (ps_ret (pe_op op_cat (pe_op op_cat (pe_op op_cat (pv 1) (pv 2)) (pv 3)) (pe_lst (pa_cons (pe_c0 T.e27 hr) (pa_cons (pe_c1 T.e28 hr (pa_cons (pv 0) pa_nil)) pa_nil)))))))), ?_⟩
    (try dsimp only [tSeq, tAsg, gName, tRet, tOp])
    refine EAll.lst (v := v) (ss := sp1 c) ?a1 (by show 9 ≤ 1000; decide) H _ fun es1 p1 H1 k1 n1 h1 r1 l1 => ?b1
    case' a1 => exact (.cons (ev_exc1 (i := 0) rfl) (.cons ev_exc0 (.cons ev_exc0 (.cons ev_exc0 (.cons (ev_exc1 (i := 0) rfl) (.cons ev_exc0 (.cons ev_exc0 (.cons ev_exc0 (.cons ev_exc0 .nil)))))))))
    (try dsimp only [tSeq, tAsg, gName, tRet, tOp])
    refine EAll.lst (v := v) (ss := sp2 c) ?a2 (by show 9 ≤ 1000; decide) H1 _ fun es2 p2 H2 k2 n2 h2 r2 l2 => ?b2
    case' a2 => exact (.cons ev_exc0 (.cons ev_exc0 (.cons ev_exc0 (.cons ev_exc0 (.cons (ev_exc1 (i := 0) rfl) (.cons ev_exc0 (.cons (ev_exc1 (i := 0) rfl) (.cons ev_exc0 (.cons ev_exc0 .nil)))))))))
    (try dsimp only [tSeq, tAsg, gName, tRet, tOp])
    refine EAll.lst (v := v) (ss := sp3 c) ?a3 (by show 9 ≤ 1000; decide) H2 _ fun es3 p3 H3 k3 n3 h3 r3 l3 => ?b3
    case' a3 => exact (.cons (ev_exc1 (i := 0) rfl) (.cons ev_exc0 (.cons (ev_exc1 (i := 0) rfl) (.cons ev_exc0 (.cons ev_exc0 (.cons ev_exc0 (.cons ev_exc0 (.cons ev_exc0 (.cons ev_exc0 .nil)))))))))
    have z1 : es1.length = 9 := l1
    have z2 : es2.length = 9 := l2
    have z3 : es3.length = 9 := l3
    have h1' := k3 _ _ (k2 _ _ h1)
    have h2' := k3 _ _ h2
    refine ⟨.ref p1, rfl, .ref p2, rfl, p1, p2, _, _, rfl, rfl, h1', h2', by rw [List.length_map, List.length_map, z1, z2]; decide, fun q1 m1 => ?_⟩
    have g3 := (Same.new (o := .lst (es1.map V.ref ++ es2.map V.ref)) m1) _ _ h3
    refine ⟨.ref p3, rfl, q1, p3, _, _, rfl, rfl, upd_same, g3, by rw [List.length_append, List.length_map, List.length_map, List.length_map, z1, z2, z3]; decide, fun q2 m2 => ?_⟩
    (try dsimp only [tSeq, tAsg, gName, tRet, tOp])
    refine EAll.lst (v := v) (ss := sp4 c) ?a4 (by show 2 ≤ 1000; decide) _ _ fun es4 p4 H4 k4 n4 h4 r4 l4 => ?b4
    case' a4 => exact (.cons ev_exc0 (.cons (ev_exc1 (i := 0) rfl) .nil))
    have z4 : es4.length = 2 := l4
    have hq2 := k4 _ _ (upd_same (H := upd H3 q1 (.lst (es1.map V.ref ++ es2.map V.ref))) (a := q2) (o := .lst ((es1.map V.ref ++ es2.map V.ref) ++ es3.map V.ref)))
    refine ⟨q2, p4, _, _, rfl, rfl, hq2, h4, by rw [List.length_append, List.length_append, List.length_map, List.length_map, List.length_map, List.length_map, z1, z2, z3, z4]; decide, fun q3 m3 => ?_⟩
    have e4 : Same (upd (upd H3 q1 (.lst (es1.map V.ref ++ es2.map V.ref))) q2 (.lst ((es1.map V.ref ++ es2.map V.ref) ++ es3.map V.ref))) H4 := k4
    have e3 : Same H3 H4 := (Same.new m1).trans ((Same.new m2).trans e4)
    have kk : Same H (upd H4 q3 (.lst (((es1.map V.ref ++ es2.map V.ref) ++ es3.map V.ref) ++ es4.map V.ref))) := k1.trans (k2.trans (k3.trans (e3.trans (Same.new m3))))
    refine q (((es1 ++ es2) ++ es3) ++ es4) q3 _ kk ((k1.trans (k2.trans (k3.trans e3))).free m3) (by rw [upd_same, List.map_append, List.map_append, List.map_append]) ?_ (by simp only [List.length_append]; omega)
    have t3 : Same H3 (upd H4 q3 (.lst (((es1.map V.ref ++ es2.map V.ref) ++ es3.map V.ref) ++ es4.map V.ref))) := e3.trans (Same.new m3)
    exact (((r1.same (k2.trans (k3.trans t3))).append (r2.same (k3.trans t3))).append (r3.same t3)).append (r4.same (Same.new m3))
end
end LawK
set_option maxHeartbeats 8000000
namespace LawK
open PySem PySem.Spec PyProof.Rows L2 Ev
section
variable {P : Program} {w : World} {K : PySem.W.Frag} {mg : Str → Option Value} {base : Heap} {PE : Addr} {c : Nat → Addr}
theorem ok_marks {f : Addr} {fd : FuncData} (F : Fun K "_law_marks" "_law_marks" sMarks f fd) (T : AllC P K mg PE c) (gi : mg "isinstance" = none) : FnOk P w K mg base CX0 1 f fd ["one"] (spMarks K PE c) := by
  refine F.ok scMarks (fun vs H Q E h => ?_) (fun cdv A outer s H vs Q E hr h => ?_)
  · obtain ⟨a, C, rfl, _⟩ := h
    rfl
  · obtain ⟨a, C, rfl, ea, TC, q⟩ := h
    refine ⟨_, pss_cons (ps_set (i := 1) scMarks.nd rfl (.inl rfl) (pe_lst (pa_cons (pe_callB call_isX (by rfl) gi PyProof.Rows.boot_isinstance (pa_cons (pv 0) (pa_cons (pe_glob (v := .ref (c 0)) (by rfl) T.e0.g rfl) pa_nil))) (pa_cons (pe_callB call_isX (by rfl) gi PyProof.Rows.boot_isinstance (pa_cons (pv 0) (pa_cons (pe_glob (v := .ref (c 1)) (by rfl) T.e1.g rfl) pa_nil))) (pa_cons (pe_callB call_isX (by rfl) gi PyProof.Rows.boot_isinstance (pa_cons (pv 0) (pa_cons (pe_glob (v := .ref (c 2)) (by rfl) T.e2.g rfl) pa_nil))) (pa_cons (pe_callB call_isX (by rfl) gi PyProof.Rows.boot_isinstance (pa_cons (pv 0) (pa_cons (pe_glob (v := .ref (c 3)) (by rfl) T.e3.g rfl) pa_nil))) (pa_cons (pe_callB call_isX (by rfl) gi PyProof.Rows.boot_isinstance (pa_cons (pv 0) (pa_cons (pe_glob (v := .ref (c 4)) (by rfl) T.e4.g rfl) pa_nil))) (pa_cons (pe_callB call_isX (by rfl) gi PyProof.Rows.boot_isinstance (pa_cons (pv 0) (pa_cons (pe_glob (v := .ref (c 5)) (by rfl) T.e5.g rfl) pa_nil))) (pa_cons (pe_callB call_isX (by rfl) gi PyProof.Rows.boot_isinstance (pa_cons (pv 0) (pa_cons (pe_glob (v := .ref (c 6)) (by rfl) T.e6.g rfl) pa_nil))) (pa_cons (pe_callB call_isX (by rfl) gi PyProof.Rows.boot_isinstance (pa_cons (pv 0) (pa_cons (pe_glob (v := .ref (c 7)) (by rfl) T.e7.g rfl) pa_nil))) (pa_cons (pe_callB call_isX (by rfl) gi PyProof.Rows.boot_isinstance (pa_cons (pv 0) (pa_cons (pe_glob (v := .ref (c 8)) (by rfl) T.e8.g rfl) pa_nil))) pa_nil)))))))))))
      (pss_cons (ps_set (i := 2) scMarks.nd rfl (.inl rfl) (pe_lst (pa_cons (pe_callB call_isX (by rfl) gi PyProof.Rows.boot_isinstance (pa_cons (pv 0) (pa_cons (pe_glob (v := .ref (c 9)) (by rfl) T.e9.g rfl) pa_nil))) (pa_cons (pe_callB call_isX (by rfl) gi PyProof.Rows.boot_isinstance (pa_cons (pv 0) (pa_cons (pe_glob (v := .ref (c 10)) (by rfl) T.e10.g rfl) pa_nil))) (pa_cons (pe_callB call_isX (by rfl) gi PyProof.Rows.boot_isinstance (pa_cons (pv 0) (pa_cons (pe_glob (v := .ref (c 11)) (by rfl) T.e11.g rfl) pa_nil))) (pa_cons (pe_callB call_isX (by rfl) gi PyProof.Rows.boot_isinstance (pa_cons (pv 0) (pa_cons (pe_glob (v := .ref (c 12)) (by rfl) T.e12.g rfl) pa_nil))) (pa_cons (pe_callB call_isX (by rfl) gi PyProof.Rows.boot_isinstance (pa_cons (pv 0) (pa_cons (pe_glob (v := .ref (c 13)) (by rfl) T.e13.g rfl) pa_nil))) (pa_cons (pe_callB call_isX (by rfl) gi PyProof.Rows.boot_isinstance (pa_cons (pv 0) (pa_cons (pe_glob (v := .ref (c 14)) (by rfl) T.e14.g rfl) pa_nil))) (pa_cons (pe_callB call_isX (by rfl) gi PyProof.Rows.boot_isinstance (pa_cons (pv 0) (pa_cons (pe_glob (v := .ref (c 15)) (by rfl) T.e15.g rfl) pa_nil))) (pa_cons (pe_callB call_isX (by rfl) gi PyProof.Rows.boot_isinstance (pa_cons (pv 0) (pa_cons (pe_glob (v := .ref (c 16)) (by rfl) T.e16.g rfl) pa_nil))) (pa_cons (pe_callB call_isX (by rfl) gi PyProof.Rows.boot_isinstance (pa_cons (pv 0) (pa_cons (pe_glob (v := .ref (c 17)) (by rfl) T.e17.g rfl) pa_nil))) pa_nil)))))))))))
      (pss_cons (ps_set (i := 3) scMarks.nd rfl (.inl rfl) (pe_lst (pa_cons (pe_callB call_isX (by rfl) gi PyProof.Rows.boot_isinstance (pa_cons (pv 0) (pa_cons (pe_glob (v := .ref (c 18)) (by rfl) T.e18.g rfl) pa_nil))) (pa_cons (pe_callB call_isX (by rfl) gi PyProof.Rows.boot_isinstance (pa_cons (pv 0) (pa_cons (pe_glob (v := .ref (c 19)) (by rfl) T.e19.g rfl) pa_nil))) (pa_cons (pe_callB call_isX (by rfl) gi PyProof.Rows.boot_isinstance (pa_cons (pv 0) (pa_cons (pe_glob (v := .ref (c 20)) (by rfl) T.e20.g rfl) pa_nil))) (pa_cons (pe_callB call_isX (by rfl) gi PyProof.Rows.boot_isinstance (pa_cons (pv 0) (pa_cons (pe_glob (v := .ref (c 21)) (by rfl) T.e21.g rfl) pa_nil))) (pa_cons (pe_callB call_isX (by rfl) gi PyProof.Rows.boot_isinstance (pa_cons (pv 0) (pa_cons (pe_glob (v := .ref (c 22)) (by rfl) T.e22.g rfl) pa_nil))) (pa_cons (pe_callB call_isX (by rfl) gi PyProof.Rows.boot_isinstance (pa_cons (pv 0) (pa_cons (pe_glob (v := .ref (c 23)) (by rfl) T.e23.g rfl) pa_nil))) (pa_cons (pe_callB call_isX (by rfl) gi PyProof.Rows.boot_isinstance (pa_cons (pv 0) (pa_cons (pe_glob (v := .ref (c 24)) (by rfl) T.e24.g rfl) pa_nil))) (pa_cons (pe_callB call_isX (by rfl) gi PyProof.Rows.boot_isinstance (pa_cons (pv 0) (pa_cons (pe_glob (v := .ref (c 25)) (by rfl) T.e25.g rfl) pa_nil))) (pa_cons (pe_callB call_isX (by rfl) gi PyProof.Rows.boot_isinstance (pa_cons (pv 0) (pa_cons (pe_glob (v := .ref (c 26)) (by rfl) T.e26.g rfl) pa_nil))) pa_nil)))))))))))
      (pss_one (ps_ret (pe_op op_cat (pe_op op_cat (pe_op op_cat (pv 1) (pv 2)) (pv 3)) (pe_lst (pa_cons (pe_callB call_isX (by rfl) gi PyProof.Rows.boot_isinstance (pa_cons (pv 0) (pa_cons (pe_glob (v := .ref (c 27)) (by rfl) T.e27.g rfl) pa_nil))) (pa_cons (pe_callB call_isX (by rfl) gi PyProof.Rows.boot_isinstance (pa_cons (pv 0) (pa_cons (pe_glob (v := .ref (c 28)) (by rfl) T.e28.g rfl) pa_nil))) pa_nil)))))))), ?_⟩
    (try dsimp only [tSeq, tAsg, gName, tRet, tOp])
    refine IAll.lst (Ds := cs1 c) ?a1 TC ?s1 (by show 9 ≤ 1000; decide) H _ ea fun p1 H1 k1 n1 h1 => ?b1
    case' a1 => exact (.cons T.e0.er T.e0.ne (.cons T.e1.er T.e1.ne (.cons T.e2.er T.e2.ne (.cons T.e3.er T.e3.ne (.cons T.e4.er T.e4.ne (.cons T.e5.er T.e5.ne (.cons T.e6.er T.e6.ne (.cons T.e7.er T.e7.ne (.cons T.e8.er T.e8.ne .nil)))))))))
    case' s1 => rfl
    refine IAll.lst (Ds := cs2 c) ?a2 TC ?s2 (by show 9 ≤ 1000; decide) H1 _ (errAt_same k1 ea) fun p2 H2 k2 n2 h2 => ?b2
    case' a2 => exact (.cons T.e9.er T.e9.ne (.cons T.e10.er T.e10.ne (.cons T.e11.er T.e11.ne (.cons T.e12.er T.e12.ne (.cons T.e13.er T.e13.ne (.cons T.e14.er T.e14.ne (.cons T.e15.er T.e15.ne (.cons T.e16.er T.e16.ne (.cons T.e17.er T.e17.ne .nil)))))))))
    case' s2 => rfl
    refine IAll.lst (Ds := cs3 c) ?a3 TC ?s3 (by show 9 ≤ 1000; decide) H2 _ (errAt_same (k1.trans k2) ea) fun p3 H3 k3 n3 h3 => ?b3
    case' a3 => exact (.cons T.e18.er T.e18.ne (.cons T.e19.er T.e19.ne (.cons T.e20.er T.e20.ne (.cons T.e21.er T.e21.ne (.cons T.e22.er T.e22.ne (.cons T.e23.er T.e23.ne (.cons T.e24.er T.e24.ne (.cons T.e25.er T.e25.ne (.cons T.e26.er T.e26.ne .nil)))))))))
    case' s3 => rfl
    have k13 := k1.trans (k2.trans k3)
    refine ⟨.ref p1, rfl, .ref p2, rfl, p1, p2, _, _, rfl, rfl, k3 _ _ (k2 _ _ h1), k3 _ _ h2, by show 9 + 9 ≤ sizeLine; decide, fun q1 m1 => ?_⟩
    refine ⟨.ref p3, rfl, q1, p3, _, _, rfl, rfl, upd_same, (Same.new m1) _ _ h3, by show 18 + 9 ≤ sizeLine; decide, fun q2 m2 => ?_⟩
    have k4 := k13.trans ((Same.new (o := .lst ((cs1 c).map (fun D => V.bl (decide (C = D))) ++ (cs2 c).map (fun D => V.bl (decide (C = D))))) m1).trans (Same.new (o := .lst (((cs1 c).map (fun D => V.bl (decide (C = D))) ++ (cs2 c).map (fun D => V.bl (decide (C = D)))) ++ (cs3 c).map (fun D => V.bl (decide (C = D))))) m2))
    refine IAll.lst (Ds := cs4 c) ?a4 TC ?s4 (by show 2 ≤ 1000; decide) _ _ (errAt_same k4 ea) fun p4 H4 k5 n4 h4 => ?b4
    case' a4 => exact (.cons T.e27.er T.e27.ne (.cons T.e28.er T.e28.ne .nil))
    case' s4 => rfl
    refine ⟨q2, p4, _, _, rfl, rfl, k5 _ _ upd_same, h4, by show 27 + 2 ≤ sizeLine; decide, fun q3 m3 => ?_⟩
    refine q q3 _ ((k4.trans k5).trans (Same.new m3)) ((k4.trans k5).free m3) ?_
    rw [upd_same]
    simp only [cs, List.map_append]
end
end LawK
set_option maxHeartbeats 8000000
namespace LawK
open PySem PySem.Spec PyProof.Rows L2 Ev
section
variable {P : Program} {w : World} {K : PySem.W.Frag} {mg : Str → Option Value} {base : Heap} {PE : Addr} {c : Nat → Addr}
theorem ok_alien {f : Addr} {fd : FuncData} (F : Fun K "_law_alien" "_law_alien" sAlien f fd) (gi : mg "isinstance" = none) (gKeyError : mg "KeyError" = none) (gIndexError : mg "IndexError" = none) (gArithmeticError : mg "ArithmeticError" = none) : FnOk P w K mg base CX0 1 f fd ["one"] (spAlien K PE) := by
  refine F.ok scAlien (fun vs H Q E h => ?_) (fun cdv A outer s H vs Q E hr h => ?_)
  · obtain ⟨a, C, rfl, _⟩ := h
    rfl
  · obtain ⟨a, C, rfl, ea, TC, q⟩ := h
    refine ⟨_, pss_one (ps_ret (pe_or (pe_callB call_isX (by rfl) gi PyProof.Rows.boot_isinstance (pa_cons (pv 0) (pa_cons (pe_bltn (v := .ty "KeyError") (by rfl) gKeyError (by decide +kernel) rfl) pa_nil))) (pe_or (pe_callB call_isX (by rfl) gi PyProof.Rows.boot_isinstance (pa_cons (pv 0) (pa_cons (pe_bltn (v := .ty "IndexError") (by rfl) gIndexError (by decide +kernel) rfl) pa_nil))) (pe_one (pe_callB call_isX (by rfl) gi PyProof.Rows.boot_isinstance (pa_cons (pv 0) (pa_cons (pe_bltn (v := .ty "ArithmeticError") (by rfl) gArithmeticError (by decide +kernel) rfl) pa_nil))))))), ?_⟩
    refine ⟨.ref a, rfl, a, C, .ty "KeyError", .type "KeyError", _, rfl, ea, TC.isx, .ty _, kit_type TC (by decide +kernel), _, rfl, ?_⟩
    refine ⟨.ref a, rfl, a, C, .ty "IndexError", .type "IndexError", _, rfl, ea, TC.isx, .ty _, kit_type TC (by decide +kernel), _, rfl, ?_⟩
    exact ⟨.ref a, rfl, a, C, .ty "ArithmeticError", .type "ArithmeticError", _, rfl, ea, TC.isx, .ty _, kit_type TC (by decide +kernel), q⟩
theorem fld_get {H : Hp} {p : Addr} {es : List Addr} {v : V} {i : Nat} {C : Addr} {f : Str} (hE : Errs H v es (specs c)) (hs : (specs c)[i]? = some (C, some f)) : ∃ a d, atI (es.map V.ref) (i : Int) = some (.ref a) ∧ H a = some (exo a C (some d)) ∧ H d = some (exd d [(f, v)]) := by
  obtain ⟨a, h1, d, h2, h3⟩ := hE.get hs
  exact ⟨a, d, atI_nat (by rw [List.getElem?_map, h1]; rfl), h2, h3⟩
theorem ok_fields {f : Addr} {fd : FuncData} (F : Fun K "_law_fields" "_law_fields" sFields f fd) (T : AllC P K mg PE c) : FnOk P w K mg base CX0 1 f fd ["errors"] (spFields c) := by
  refine F.ok scFields (fun vs H Q E h => ?_) (fun cdv A outer s H vs Q E hr h => ?_)
  · obtain ⟨p, es, v, rfl, _⟩ := h
    rfl
  · obtain ⟨p, es, v, rfl, hp, hE, q⟩ := h
    refine ⟨_, pss_cons (ps_set (i := 1) scFields.nd rfl (.inl rfl) (pe_lst (pa_cons (pe_errF (pe_ix ix_list (pv 0) pe_int (fun _ _ => rfl))) (pa_cons (pe_errF (pe_ix ix_list (pv 0) pe_int (fun _ _ => rfl))) (pa_cons (pe_errF (pe_ix ix_list (pv 0) pe_int (fun _ _ => rfl))) (pa_cons (pe_errF (pe_ix ix_list (pv 0) pe_int (fun _ _ => rfl))) (pa_cons (pe_errF (pe_ix ix_list (pv 0) pe_int (fun _ _ => rfl))) (pa_cons (pe_errF (pe_ix ix_list (pv 0) pe_int (fun _ _ => rfl))) pa_nil))))))))
      (pss_one (ps_ret (pe_op op_cat (pv 1) (pe_lst (pa_cons (pe_errF (pe_ix ix_list (pv 0) pe_int (fun _ _ => rfl))) pa_nil))))), ?_⟩
    obtain ⟨a0, d0, i0, o0, x0⟩ := fld_get (p := p) (i := 0) (C := c 0) (f := "part") hE rfl
    obtain ⟨a4, d4, i4, o4, x4⟩ := fld_get (p := p) (i := 4) (C := c 4) (f := "index") hE rfl
    obtain ⟨a13, d13, i13, o13, x13⟩ := fld_get (p := p) (i := 13) (C := c 13) (f := "index") hE rfl
    obtain ⟨a15, d15, i15, o15, x15⟩ := fld_get (p := p) (i := 15) (C := c 15) (f := "most") hE rfl
    obtain ⟨a18, d18, i18, o18, x18⟩ := fld_get (p := p) (i := 18) (C := c 18) (f := "index") hE rfl
    obtain ⟨a20, d20, i20, o20, x20⟩ := fld_get (p := p) (i := 20) (C := c 20) (f := "place") hE rfl
    obtain ⟨a28, d28, i28, o28, x28⟩ := fld_get (p := p) (i := 28) (C := c 28) (f := "name") hE rfl
    refine ⟨.ref p, rfl, p, _, 0, .ref a0, rfl, rfl, sq_of hp, i0, a0, c 0, d0, _, v, rfl, o0, x0, (by simp [List.lookup]), T.e0.er.xf, T.e0.hno, .ref p, rfl, p, _, 4, .ref a4, rfl, rfl, sq_of hp, i4, a4, c 4, d4, _, v, rfl, o4, x4, (by simp [List.lookup]), T.e4.er.xf, T.e4.hno, .ref p, rfl, p, _, 13, .ref a13, rfl, rfl, sq_of hp, i13, a13, c 13, d13, _, v, rfl, o13, x13, (by simp [List.lookup]), T.e13.er.xf, T.e13.hno, .ref p, rfl, p, _, 15, .ref a15, rfl, rfl, sq_of hp, i15, a15, c 15, d15, _, v, rfl, o15, x15, (by simp [List.lookup]), T.e15.er.xf, T.e15.hno, .ref p, rfl, p, _, 18, .ref a18, rfl, rfl, sq_of hp, i18, a18, c 18, d18, _, v, rfl, o18, x18, (by simp [List.lookup]), T.e18.er.xf, T.e18.hno, .ref p, rfl, p, _, 20, .ref a20, rfl, rfl, sq_of hp, i20, a20, c 20, d20, _, v, rfl, o20, x20, (by simp [List.lookup]), T.e20.er.xf, T.e20.hno, by show 6 ≤ sizeLine; decide, fun p1 n1 => ?_⟩
    have k1 := Same.new (o := .lst [v, v, v, v, v, v]) n1
    refine ⟨.ref p1, rfl, .ref p, rfl, p, _, 28, .ref a28, rfl, rfl, sq_of (k1 _ _ hp), i28, a28, c 28, d28, _, v, rfl, k1 _ _ o28, k1 _ _ x28, (by simp [List.lookup]), T.e28.er.xf, T.e28.hno, by show 1 ≤ sizeLine; decide, fun p2 n2 => ?_⟩
    have k2 := Same.new (o := .lst [v]) n2
    refine ⟨p1, p2, _, _, rfl, rfl, k2 _ _ upd_same, upd_same, by show 6 + 1 ≤ sizeLine; decide, fun p3 n3 => ?_⟩
    exact q p3 _ ((k1.trans k2).trans (Same.new n3)) ((k1.trans k2).free n3) upd_same
end
end LawK
set_option maxHeartbeats 4000000
namespace LawK
open PySem PySem.Spec PyProof.Rows L2 Ev
def rzC (c : Nat → Addr) : List (Addr × Str) := [(c 0, ("part" : Str)), (c 4, ("index" : Str)), (c 13, ("index" : Str)), (c 15, ("most" : Str)), (c 18, ("index" : Str)), (c 20, ("place" : Str)), (c 28, ("name" : Str))]
def spRaise (c : Nat → Addr) : Sp := fun vs H Q E => ∃ (k : Nat) (s : Addr × Str) (v : V), vs = [.int (k : Int), v] ∧ (rzC c)[k]? = some s ∧ ∀ d, H d = none → E (.ref s.1) (some d) (upd H d (.xd [(s.2, v)]))
def spCaught (c : Nat → Addr) : Sp := fun vs H Q _ => ∃ (k : Nat) (v : V), vs = [.int (k : Int), v] ∧ k < 7 ∧ ∀ p H', Same H H' → H' p = some (.tup [.int (k : Int), v]) → Q (.ref p) H'
def spBased : Sp := fun vs H Q _ => ∃ (k : Nat) (v : V), vs = [.int (k : Int), v] ∧ k < 7 ∧ ∀ H', Same H H' → Q (.bl true) H'
theorem scRaise : FnScope ["which", "thing"] ["which", "thing"] (defScope sRaise) := ⟨rfl, rfl, rfl, by decide +kernel, rfl, by decide +kernel, by decide +kernel⟩
theorem scCaught : FnScope ["which", "thing", "error"] ["which", "thing"] (defScope sCaught) := ⟨rfl, rfl, rfl, by decide +kernel, rfl, by decide +kernel, by decide +kernel⟩
theorem scBased : FnScope ["which", "thing"] ["which", "thing"] (defScope sBased) := ⟨rfl, rfl, rfl, by decide +kernel, rfl, by decide +kernel, by decide +kernel⟩
theorem rz_lt {c : Nat → Addr} {k : Nat} (h : k < 7) : ∃ s, (rzC c)[k]? = some s := by
  have hl : (rzC c).length = 7 := rfl
  exact ⟨(rzC c)[k], List.getElem?_eq_getElem (by omega)⟩
structure BaseX (K : PySem.W.Frag) (PE : Addr) : Prop where
  sub : PySem.W.subIn K (.ref PE) (.type "BaseException") = some true
  hd : PySem.W.hasDictIn K PE = true
  isT : PySem.W.typeIn K (.ref PE) = some (.type "type")
section
variable {P : Program} {w : World} {K : PySem.W.Frag} {mg : Str → Option Value} {base : Heap} {PE : Addr} {c : Nat → Addr}
theorem exm_at {C D : Addr} (TD : ErC K PE D) (T : ErC K PE C) (n : D ≠ PE) : PySem.W.exmOne K (.ref C) (.ref D) = some (decide (C = D)) := by
  refine PySem.W.exm_ref TD.isx.hs TD.isx.hd TD.isT ?_
  rw [T.sub]
  by_cases e : C = D
  · subst e
    simp
  · have e2 : D ≠ C := fun z => e z.symm
    rw [decide_eq_false e]
    simp [veT, e2, n]
theorem exm_base {C : Addr} (B : BaseX K PE) (T : ErC K PE C) : PySem.W.exmOne K (.ref C) (.ref PE) = some true := by
  refine PySem.W.exm_ref B.sub B.hd B.isT ?_
  rw [T.sub]
  simp [veT]
theorem tCons1 {i j : Nat} {σ : L2.St} {H : Hp} {Q1 Q2 : List V → Hp → Prop} (h : ∀ vs H1, Q1 vs H1 → Q2 vs H1) : tCons (tVar i) tNil σ H Q1 → tCons (tVar i) tNil σ H Q2 := fun ⟨v, e, q⟩ => ⟨v, e, h _ _ q⟩
theorem ok_raise {f : Addr} {fd : FuncData} (F : Fun K "_law_raise" "_law_raise" sRaise f fd) (T : AllC P K mg PE c) : FnOk P w K mg base (L2.CX P w) 3 f fd ["which", "thing"] (spRaise c) := by
  refine F.okX scRaise (fun vs H Q E h => ?_) (fun cdv A outer s H vs Q E hr h => ?_)
  · obtain ⟨k, s, v, rfl, _⟩ := h
    rfl
  · obtain ⟨k, s, v, rfl, hk, q⟩ := h
    refine ⟨_, (pss_cons (ps_if (pt_cmpR op_eq (pv 0) pe_int (nomark _)) (pss_one (ps_raise rfl (takes_of rfl rfl rfl rfl) (pmk_c1 T.e0 hr (pa_cons (pv 1) pa_nil) (hm := tCons1 (j := 0))))) pss_nil)
      (pss_cons (ps_if (pt_cmpR op_eq (pv 0) pe_int (nomark _)) (pss_one (ps_raise rfl (takes_of rfl rfl rfl rfl) (pmk_c1 T.e4 hr (pa_cons (pv 1) pa_nil) (hm := tCons1 (j := 0))))) pss_nil)
      (pss_cons (ps_if (pt_cmpR op_eq (pv 0) pe_int (nomark _)) (pss_one (ps_raise rfl (takes_of rfl rfl rfl rfl) (pmk_c1 T.e13 hr (pa_cons (pv 1) pa_nil) (hm := tCons1 (j := 0))))) pss_nil)
      (pss_cons (ps_if (pt_cmpR op_eq (pv 0) pe_int (nomark _)) (pss_one (ps_raise rfl (takes_of rfl rfl rfl rfl) (pmk_c1 T.e15 hr (pa_cons (pv 1) pa_nil) (hm := tCons1 (j := 0))))) pss_nil)
      (pss_cons (ps_if (pt_cmpR op_eq (pv 0) pe_int (nomark _)) (pss_one (ps_raise rfl (takes_of rfl rfl rfl rfl) (pmk_c1 T.e18 hr (pa_cons (pv 1) pa_nil) (hm := tCons1 (j := 0))))) pss_nil)
      (pss_cons (ps_if (pt_cmpR op_eq (pv 0) pe_int (nomark _)) (pss_one (ps_raise rfl (takes_of rfl rfl rfl rfl) (pmk_c1 T.e20 hr (pa_cons (pv 1) pa_nil) (hm := tCons1 (j := 0))))) pss_nil)
      (pss_one (ps_raise rfl (takes_of rfl rfl rfl rfl) (pmk_c1 T.e28 hr (pa_cons (pv 1) pa_nil) (hm := tCons1 (j := 0))))))))))), ?_⟩
    have hlt : k < 7 := (List.getElem?_eq_some_iff.mp hk).1
    obtain rfl | rfl | rfl | rfl | rfl | rfl | rfl : k = 0 ∨ k = 1 ∨ k = 2 ∨ k = 3 ∨ k = 4 ∨ k = 5 ∨ k = 6 := by omega
    all_goals (cases hk)
    · exact ⟨_, rfl, rfl, _, rfl, iteT ⟨v, rfl, v, rfl, fun d n => q d n⟩⟩
    · exact ⟨_, rfl, rfl, _, rfl, iteF ⟨_, rfl, rfl, _, rfl, iteT ⟨v, rfl, v, rfl, fun d n => q d n⟩⟩⟩
    · exact ⟨_, rfl, rfl, _, rfl, iteF ⟨_, rfl, rfl, _, rfl, iteF ⟨_, rfl, rfl, _, rfl, iteT ⟨v, rfl, v, rfl, fun d n => q d n⟩⟩⟩⟩
    · exact ⟨_, rfl, rfl, _, rfl, iteF ⟨_, rfl, rfl, _, rfl, iteF ⟨_, rfl, rfl, _, rfl, iteF ⟨_, rfl, rfl, _, rfl, iteT ⟨v, rfl, v, rfl, fun d n => q d n⟩⟩⟩⟩⟩
    · exact ⟨_, rfl, rfl, _, rfl, iteF ⟨_, rfl, rfl, _, rfl, iteF ⟨_, rfl, rfl, _, rfl, iteF ⟨_, rfl, rfl, _, rfl, iteF ⟨_, rfl, rfl, _, rfl, iteT ⟨v, rfl, v, rfl, fun d n => q d n⟩⟩⟩⟩⟩⟩
    · exact ⟨_, rfl, rfl, _, rfl, iteF ⟨_, rfl, rfl, _, rfl, iteF ⟨_, rfl, rfl, _, rfl, iteF ⟨_, rfl, rfl, _, rfl, iteF ⟨_, rfl, rfl, _, rfl, iteF ⟨_, rfl, rfl, _, rfl, iteT ⟨v, rfl, v, rfl, fun d n => q d n⟩⟩⟩⟩⟩⟩⟩
    · exact ⟨_, rfl, rfl, _, rfl, iteF ⟨_, rfl, rfl, _, rfl, iteF ⟨_, rfl, rfl, _, rfl, iteF ⟨_, rfl, rfl, _, rfl, iteF ⟨_, rfl, rfl, _, rfl, iteF ⟨_, rfl, rfl, _, rfl, iteF ⟨v, rfl, v, rfl, fun d n => q d n⟩⟩⟩⟩⟩⟩⟩
theorem ok_caught {f fR : Addr} {fd fdR : FuncData} (F : Fun K "_law_caught" "_law_caught" sCaught f fd) (FR : Fun K "_law_raise" "_law_raise" sRaise fR fdR) (bR : Binds K fdR ["which", "thing"] []) (gR : mg "_law_raise" = some (.ref fR)) (T : AllC P K mg PE c) :
    FnOk P w K mg base (L2.CX P w) 4 f fd ["which", "thing"] (spCaught c) := by
  have GR : FnOk P w K mg base (L2.CX P w) 3 fR fdR ["which", "thing"] (spRaise c) := ok_raise FR T
  refine F.okX scCaught (fun vs H Q E h => ?_) (fun cdv A outer s H vs Q E hr h => ?_)
  · obtain ⟨k, v, rfl, _⟩ := h
    rfl
  · obtain ⟨k, v, rfl, hlt, q⟩ := h
    refine ⟨_, pss_cons (ps_try_manyAs (i := 2) (Wout := fun _ _ _ _ => False) (tb := fun W => tDrop (tCallS (spRaise c) (WE W) (tCons (tVar 0) (tCons (tVar 1) tNil)))) rfl rfl scCaught.nd rfl rfl takes0
        (fun W pn xe tk _ => pss_one (ps_expr (pe_callS GR hr rfl gR FR.kp bR (fun σ => passAt tk σ) (pa_cons (pv 0) (pa_cons (pv 1) pa_nil)))))
        (HdsAs.cons ⟨rfl, by decide, .inl T.e0.g⟩ (fun a oe cls d pn hz hf => pss_one (ps_ret (pe_tup (pa_cons pe_int (pa_cons (pe_xf T.e0.er.xf T.e0.hno hz hf (pv 2)) pa_nil))))) (HdsAs.cons ⟨rfl, by decide, .inl T.e4.g⟩ (fun a oe cls d pn hz hf => pss_one (ps_ret (pe_tup (pa_cons pe_int (pa_cons (pe_xf T.e4.er.xf T.e4.hno hz hf (pv 2)) pa_nil))))) (HdsAs.cons ⟨rfl, by decide, .inl T.e13.g⟩ (fun a oe cls d pn hz hf => pss_one (ps_ret (pe_tup (pa_cons pe_int (pa_cons (pe_xf T.e13.er.xf T.e13.hno hz hf (pv 2)) pa_nil))))) (HdsAs.cons ⟨rfl, by decide, .inl T.e15.g⟩ (fun a oe cls d pn hz hf => pss_one (ps_ret (pe_tup (pa_cons pe_int (pa_cons (pe_xf T.e15.er.xf T.e15.hno hz hf (pv 2)) pa_nil))))) (HdsAs.cons ⟨rfl, by decide, .inl T.e18.g⟩ (fun a oe cls d pn hz hf => pss_one (ps_ret (pe_tup (pa_cons pe_int (pa_cons (pe_xf T.e18.er.xf T.e18.hno hz hf (pv 2)) pa_nil))))) (HdsAs.cons ⟨rfl, by decide, .inl T.e20.g⟩ (fun a oe cls d pn hz hf => pss_one (ps_ret (pe_tup (pa_cons pe_int (pa_cons (pe_xf T.e20.er.xf T.e20.hno hz hf (pv 2)) pa_nil))))) (HdsAs.cons ⟨rfl, by decide, .inl T.e28.g⟩ (fun a oe cls d pn hz hf => pss_one (ps_ret (pe_tup (pa_cons pe_int (pa_cons (pe_xf T.e28.er.xf T.e28.hno hz hf (pv 2)) pa_nil))))) HdsAs.nil))))))))
      (pss_one (ps_ret (pe_tup (pa_cons pe_int (pa_cons pe_non pa_nil))))), ?_⟩
    obtain ⟨s, hs⟩ := rz_lt (c := c) hlt
    refine ⟨.int (k : Int), rfl, v, rfl, k, s, v, rfl, hs, fun d hd => ?_⟩
    have nE : ∀ i j : Nat, i < 29 → j < 29 → i ≠ j → decide (c i = c j) = false := fun i j hi hj n => decide_eq_false fun e => n (T.inj i j hi hj e)
    obtain rfl | rfl | rfl | rfl | rfl | rfl | rfl : k = 0 ∨ k = 1 ∨ k = 2 ∨ k = 3 ∨ k = 4 ∨ k = 5 ∨ k = 6 := by omega
    all_goals (cases hs)
    · refine ⟨true, ((exm_at T.e0.er T.e0.er T.e0.ne).trans (congrArg some (decide_eq_true rfl))), (fun _ a na => ?_), fun z => Bool.noConfusion z⟩
      refine ⟨.ref a, rfl, rfl, rfl, d, _, v, rfl, upd_same, (by simp [List.lookup]), by show 2 ≤ sizeLine; decide, fun p np => ?_⟩
      exact q p _ ((Same.new hd).trans (Same.new np)) upd_same
    · refine ⟨false, ((exm_at T.e0.er T.e4.er T.e0.ne).trans (congrArg some (nE 4 0 (by decide) (by decide) (by decide)))), (fun z => Bool.noConfusion z), fun _ => ⟨true, ((exm_at T.e4.er T.e4.er T.e4.ne).trans (congrArg some (decide_eq_true rfl))), (fun _ a na => ?_), fun z => Bool.noConfusion z⟩⟩
      refine ⟨.ref a, rfl, rfl, rfl, d, _, v, rfl, upd_same, (by simp [List.lookup]), by show 2 ≤ sizeLine; decide, fun p np => ?_⟩
      exact q p _ ((Same.new hd).trans (Same.new np)) upd_same
    · refine ⟨false, ((exm_at T.e0.er T.e13.er T.e0.ne).trans (congrArg some (nE 13 0 (by decide) (by decide) (by decide)))), (fun z => Bool.noConfusion z), fun _ => ⟨false, ((exm_at T.e4.er T.e13.er T.e4.ne).trans (congrArg some (nE 13 4 (by decide) (by decide) (by decide)))), (fun z => Bool.noConfusion z), fun _ => ⟨true, ((exm_at T.e13.er T.e13.er T.e13.ne).trans (congrArg some (decide_eq_true rfl))), (fun _ a na => ?_), fun z => Bool.noConfusion z⟩⟩⟩
      refine ⟨.ref a, rfl, rfl, rfl, d, _, v, rfl, upd_same, (by simp [List.lookup]), by show 2 ≤ sizeLine; decide, fun p np => ?_⟩
      exact q p _ ((Same.new hd).trans (Same.new np)) upd_same
    · refine ⟨false, ((exm_at T.e0.er T.e15.er T.e0.ne).trans (congrArg some (nE 15 0 (by decide) (by decide) (by decide)))), (fun z => Bool.noConfusion z), fun _ => ⟨false, ((exm_at T.e4.er T.e15.er T.e4.ne).trans (congrArg some (nE 15 4 (by decide) (by decide) (by decide)))), (fun z => Bool.noConfusion z), fun _ => ⟨false, ((exm_at T.e13.er T.e15.er T.e13.ne).trans (congrArg some (nE 15 13 (by decide) (by decide) (by decide)))), (fun z => Bool.noConfusion z), fun _ => ⟨true, ((exm_at T.e15.er T.e15.er T.e15.ne).trans (congrArg some (decide_eq_true rfl))), (fun _ a na => ?_), fun z => Bool.noConfusion z⟩⟩⟩⟩
      refine ⟨.ref a, rfl, rfl, rfl, d, _, v, rfl, upd_same, (by simp [List.lookup]), by show 2 ≤ sizeLine; decide, fun p np => ?_⟩
      exact q p _ ((Same.new hd).trans (Same.new np)) upd_same
    · refine ⟨false, ((exm_at T.e0.er T.e18.er T.e0.ne).trans (congrArg some (nE 18 0 (by decide) (by decide) (by decide)))), (fun z => Bool.noConfusion z), fun _ => ⟨false, ((exm_at T.e4.er T.e18.er T.e4.ne).trans (congrArg some (nE 18 4 (by decide) (by decide) (by decide)))), (fun z => Bool.noConfusion z), fun _ => ⟨false, ((exm_at T.e13.er T.e18.er T.e13.ne).trans (congrArg some (nE 18 13 (by decide) (by decide) (by decide)))), (fun z => Bool.noConfusion z), fun _ => ⟨false, ((exm_at T.e15.er T.e18.er T.e15.ne).trans (congrArg some (nE 18 15 (by decide) (by decide) (by decide)))), (fun z => Bool.noConfusion z), fun _ => ⟨true, ((exm_at T.e18.er T.e18.er T.e18.ne).trans (congrArg some (decide_eq_true rfl))), (fun _ a na => ?_), fun z => Bool.noConfusion z⟩⟩⟩⟩⟩
      refine ⟨.ref a, rfl, rfl, rfl, d, _, v, rfl, upd_same, (by simp [List.lookup]), by show 2 ≤ sizeLine; decide, fun p np => ?_⟩
      exact q p _ ((Same.new hd).trans (Same.new np)) upd_same
    · refine ⟨false, ((exm_at T.e0.er T.e20.er T.e0.ne).trans (congrArg some (nE 20 0 (by decide) (by decide) (by decide)))), (fun z => Bool.noConfusion z), fun _ => ⟨false, ((exm_at T.e4.er T.e20.er T.e4.ne).trans (congrArg some (nE 20 4 (by decide) (by decide) (by decide)))), (fun z => Bool.noConfusion z), fun _ => ⟨false, ((exm_at T.e13.er T.e20.er T.e13.ne).trans (congrArg some (nE 20 13 (by decide) (by decide) (by decide)))), (fun z => Bool.noConfusion z), fun _ => ⟨false, ((exm_at T.e15.er T.e20.er T.e15.ne).trans (congrArg some (nE 20 15 (by decide) (by decide) (by decide)))), (fun z => Bool.noConfusion z), fun _ => ⟨false, ((exm_at T.e18.er T.e20.er T.e18.ne).trans (congrArg some (nE 20 18 (by decide) (by decide) (by decide)))), (fun z => Bool.noConfusion z), fun _ => ⟨true, ((exm_at T.e20.er T.e20.er T.e20.ne).trans (congrArg some (decide_eq_true rfl))), (fun _ a na => ?_), fun z => Bool.noConfusion z⟩⟩⟩⟩⟩⟩
      refine ⟨.ref a, rfl, rfl, rfl, d, _, v, rfl, upd_same, (by simp [List.lookup]), by show 2 ≤ sizeLine; decide, fun p np => ?_⟩
      exact q p _ ((Same.new hd).trans (Same.new np)) upd_same
    · refine ⟨false, ((exm_at T.e0.er T.e28.er T.e0.ne).trans (congrArg some (nE 28 0 (by decide) (by decide) (by decide)))), (fun z => Bool.noConfusion z), fun _ => ⟨false, ((exm_at T.e4.er T.e28.er T.e4.ne).trans (congrArg some (nE 28 4 (by decide) (by decide) (by decide)))), (fun z => Bool.noConfusion z), fun _ => ⟨false, ((exm_at T.e13.er T.e28.er T.e13.ne).trans (congrArg some (nE 28 13 (by decide) (by decide) (by decide)))), (fun z => Bool.noConfusion z), fun _ => ⟨false, ((exm_at T.e15.er T.e28.er T.e15.ne).trans (congrArg some (nE 28 15 (by decide) (by decide) (by decide)))), (fun z => Bool.noConfusion z), fun _ => ⟨false, ((exm_at T.e18.er T.e28.er T.e18.ne).trans (congrArg some (nE 28 18 (by decide) (by decide) (by decide)))), (fun z => Bool.noConfusion z), fun _ => ⟨false, ((exm_at T.e20.er T.e28.er T.e20.ne).trans (congrArg some (nE 28 20 (by decide) (by decide) (by decide)))), (fun z => Bool.noConfusion z), fun _ => ⟨true, ((exm_at T.e28.er T.e28.er T.e28.ne).trans (congrArg some (decide_eq_true rfl))), (fun _ a na => ?_), fun z => Bool.noConfusion z⟩⟩⟩⟩⟩⟩⟩
      refine ⟨.ref a, rfl, rfl, rfl, d, _, v, rfl, upd_same, (by simp [List.lookup]), by show 2 ≤ sizeLine; decide, fun p np => ?_⟩
      exact q p _ ((Same.new hd).trans (Same.new np)) upd_same
theorem ok_based {f fR : Addr} {fd fdR : FuncData} (F : Fun K "_law_based" "_law_based" sBased f fd) (FR : Fun K "_law_raise" "_law_raise" sRaise fR fdR) (bR : Binds K fdR ["which", "thing"] []) (gR : mg "_law_raise" = some (.ref fR)) (T : AllC P K mg PE c) (B : BaseX K PE) :
    FnOk P w K mg base (L2.CX P w) 4 f fd ["which", "thing"] spBased := by
  have GR : FnOk P w K mg base (L2.CX P w) 3 fR fdR ["which", "thing"] (spRaise c) := ok_raise FR T
  refine F.okX scBased (fun vs H Q E h => ?_) (fun cdv A outer s H vs Q E hr h => ?_)
  · obtain ⟨k, v, rfl, _⟩ := h
    rfl
  · obtain ⟨k, v, rfl, hlt, q⟩ := h
    refine ⟨_, pss_cons (ps_try_only (c := .ref PE) (Wout := fun _ _ _ _ => False) (tb := fun W => tDrop (tCallS (spRaise c) (WE W) (tCons (tVar 0) (tCons (tVar 1) tNil)))) (ts := fun _ _ _ => tRet (tC (.bl true))) rfl rfl ⟨rfl, by decide, .inl T.gPE⟩ takes0
        (fun W pn xe tk _ => pss_one (ps_expr (pe_callS GR hr rfl gR FR.kp bR (fun σ => passAt tk σ) (pa_cons (pv 0) (pa_cons (pv 1) pa_nil)))))
        (fun a oe cls d pn hz hf => pss_one (ps_ret pe_bl)))
      (pss_one (ps_ret pe_bl)), ?_⟩
    obtain ⟨s, hs⟩ := rz_lt (c := c) hlt
    refine ⟨.int (k : Int), rfl, v, rfl, k, s, v, rfl, hs, fun d hd => ?_⟩
    have es : ErC K PE s.1 := by
      obtain rfl | rfl | rfl | rfl | rfl | rfl | rfl : k = 0 ∨ k = 1 ∨ k = 2 ∨ k = 3 ∨ k = 4 ∨ k = 5 ∨ k = 6 := by omega
      all_goals (cases hs)
      · exact T.e0.er
      · exact T.e4.er
      · exact T.e13.er
      · exact T.e15.er
      · exact T.e18.er
      · exact T.e20.er
      · exact T.e28.er
    exact ⟨true, exm_base B es, fun _ a na => q _ (Same.new hd), fun z => Bool.noConfusion z⟩
end
end LawK
set_option maxHeartbeats 8000000
namespace LawK
open PySem PySem.Spec PyProof.Rows L2 Ev
abbrev sLaw : Stmt := topS 43
theorem scLaw : FnScope ["script", "hand", "which", "thing", "due", "errors", "k", "marks", "kept", "caught", "j"] ["script"] (defScope sLaw) := ⟨rfl, rfl, rfl, by decide +kernel, rfl, by decide +kernel, by decide +kernel⟩
def spLaw (K : PySem.W.Frag) : Sp := fun vs H Q _ => ∃ (a : Addr) (ns : List Int), vs = [.ref a] ∧ SqL K H a (ns.map V.int) ∧ ∀ H', Q (.bl true) H'
theorem sameAt {H H' : Hp} {q : Addr} {o : HO} (k : Same H H') (h : H q = none) : Same H (upd H' q o) := fun b u e => by
  rw [upd_ne (ne_of_none e h)]
  exact k b u e
theorem cs_get {c : Nat → Addr} {i : Nat} (h : i < 29) : (cs c)[i]? = some (c i) := by
  have e : cs c = (List.range 29).map c := rfl
  rw [e, List.getElem?_map, List.getElem?_range h]
  rfl
theorem specs_get {c : Nat → Addr} {i : Nat} (h : i < 29) : ∃ o, (specs c)[i]? = some (c i, o) := by
  have e : (specs c).map (·.1) = cs c := rfl
  have z := cs_get (c := c) h
  rw [← e, List.getElem?_map] at z
  cases q : (specs c)[i]? with
  | none => rw [q] at z; cases z
  | some s =>
    rw [q] at z
    exact ⟨s.2, congrArg some (Prod.ext (Option.some.inj z) rfl)⟩
/-- a def of the text and how it is called -/
structure Df (K : PySem.W.Frag) (mg : Str → Option Value) (x : Str) (st : Stmt) (ps : List Str) (f : Addr) (fd : FuncData) : Prop where
  F : Fun K x x st f fd
  b : Binds K fd ps []
  g : mg x = some (.ref f)
structure GlobL (mg : Str → Option Value) : Prop extends Glob mg where
  isinst : mg "isinstance" = none
  repr : mg "repr" = none
  ve : mg "ValueError" = none
  ke : mg "KeyError" = none
  ie : mg "IndexError" = none
  ae : mg "ArithmeticError" = none
/-- the class over all errors, called and asked -/
structure BaseP (K : PySem.W.Frag) (PE : Addr) : Prop where
  isx : ExcC K PE
  ex : PySem.W.excIn K PE [.type "ValueError", .type "Exception", .type "BaseException", .type "object"] "ValueError.__new__" = true
  kp : PySem.W.keepIn K (.ref PE) = true
  mro : ∃ cd, PySem.W.clsIn K PE = some cd ∧ cd.mro = .ref PE :: veT
section
variable {P : Program} {w : World} {K : PySem.W.Frag} {mg : Str → Option Value} {base : Heap} {PE : Addr} {c : Nat → Addr}
theorem BaseP.sub (T : BaseP K PE) (b : Value) : PySem.W.subIn K (.ref PE) b = some ((Value.ref PE :: veT).contains b) := by
  obtain ⟨cd, h1, h2⟩ := T.mro
  show (PySem.W.clsIn K PE).bind _ = _
  rw [h1, Option.bind_some, h2]
  rfl
theorem kit_p1 {D : Addr} (TD : ErC K PE D) (T : BaseP K PE) (n : D ≠ PE) : PySem.W.kitOne K (.ref PE) (.ref D) = some false := by
  unfold PySem.W.kitOne
  have e : PE ≠ D := fun z => n z.symm
  rw [if_neg (by simpa using e)]
  obtain ⟨cd, h1, h2⟩ := TD.mro
  show (if ((PySem.W.clsIn K D).isSome && PySem.W.typeIn K (.ref D) == some (.type "type")) = true then PySem.W.subIn K (.ref PE) (.ref D) else none) = some false
  rw [if_pos (by rw [h1, TD.isT]; rfl), T.sub]
  simp [veT, n]
theorem kit_p2 (T : BaseP K PE) {t : String} (h : PySem.W.kitMeta t = true) : PySem.W.kitOne K (.ref PE) (.type t) = some (veT.contains (.type t)) := by
  unfold PySem.W.kitOne
  rw [if_neg (by simp)]
  show (if PySem.W.kitMeta t = true then PySem.W.subIn K (.ref PE) (.type t) else none) = _
  rw [if_pos h, T.sub]
  simp
theorem AllC.er (T : AllC P K mg PE c) : ∀ i, i < 29 → ErC K PE (c i) ∧ c i ≠ PE
  | 0, _ => ⟨T.e0.er, T.e0.ne⟩
  | 1, _ => ⟨T.e1.er, T.e1.ne⟩
  | 2, _ => ⟨T.e2.er, T.e2.ne⟩
  | 3, _ => ⟨T.e3.er, T.e3.ne⟩
  | 4, _ => ⟨T.e4.er, T.e4.ne⟩
  | 5, _ => ⟨T.e5.er, T.e5.ne⟩
  | 6, _ => ⟨T.e6.er, T.e6.ne⟩
  | 7, _ => ⟨T.e7.er, T.e7.ne⟩
  | 8, _ => ⟨T.e8.er, T.e8.ne⟩
  | 9, _ => ⟨T.e9.er, T.e9.ne⟩
  | 10, _ => ⟨T.e10.er, T.e10.ne⟩
  | 11, _ => ⟨T.e11.er, T.e11.ne⟩
  | 12, _ => ⟨T.e12.er, T.e12.ne⟩
  | 13, _ => ⟨T.e13.er, T.e13.ne⟩
  | 14, _ => ⟨T.e14.er, T.e14.ne⟩
  | 15, _ => ⟨T.e15.er, T.e15.ne⟩
  | 16, _ => ⟨T.e16.er, T.e16.ne⟩
  | 17, _ => ⟨T.e17.er, T.e17.ne⟩
  | 18, _ => ⟨T.e18.er, T.e18.ne⟩
  | 19, _ => ⟨T.e19.er, T.e19.ne⟩
  | 20, _ => ⟨T.e20.er, T.e20.ne⟩
  | 21, _ => ⟨T.e21.er, T.e21.ne⟩
  | 22, _ => ⟨T.e22.er, T.e22.ne⟩
  | 23, _ => ⟨T.e23.er, T.e23.ne⟩
  | 24, _ => ⟨T.e24.er, T.e24.ne⟩
  | 25, _ => ⟨T.e25.er, T.e25.ne⟩
  | 26, _ => ⟨T.e26.er, T.e26.ne⟩
  | 27, _ => ⟨T.e27.er, T.e27.ne⟩
  | 28, _ => ⟨T.e28.er, T.e28.ne⟩
  | n + 29, h => absurd h (by omega)
theorem ok_law {f fH fT fO fTh fA fM fAl fF fR fC fB : Addr} {fd fdH fdT fdO fdTh fdA fdM fdAl fdF fdR fdC fdB : FuncData} (F : Fun K "law" "law" sLaw f fd)
    (DH : Df K mg "_law_hand" sHand ["script"] fH fdH) (DT : Df K mg "_law_take" sTake ["hand", "many"] fT fdT) (DO : Df K mg "_law_odd" sOdd ["hand"] fO fdO) (DTh : Df K mg "_law_thing" sThing ["hand"] fTh fdTh) (DA : Df K mg "_law_all" sAll ["thing"] fA fdA)
    (DM : Df K mg "_law_marks" sMarks ["one"] fM fdM) (DAl : Df K mg "_law_alien" sAlien ["one"] fAl fdAl) (DF : Df K mg "_law_fields" sFields ["errors"] fF fdF) (DR : Df K mg "_law_raise" sRaise ["which", "thing"] fR fdR) (DC : Df K mg "_law_caught" sCaught ["which", "thing"] fC fdC)
    (DB : Df K mg "_law_based" sBased ["which", "thing"] fB fdB) (T : AllC P K mg PE c) (B : BaseX K PE) (BP : BaseP K PE) (G : GlobL mg) : FnAt callerA P w K mg base CX0 f fd ["script"] (spLaw K) := by
  have GH : FnOk P w K mg base CX0 1 fH fdH ["script"] (spHand K) := ok_hand DH.F G.toGlob
  have GT : FnOk P w K mg base CX0 1 fT fdT ["hand", "many"] spTake := ok_take DT.F G.toGlob
  have GTh : FnOk P w K mg base CX0 3 fTh fdTh ["hand"] spThing := ok_thing DTh.F DT.F DT.b DT.g DO.F DO.b DO.g G.toGlob
  have GA : FnOk P w K mg base CX0 3 fA fdA ["thing"] (spAll c) := ok_all DA.F T
  have GM : FnOk P w K mg base CX0 1 fM fdM ["one"] (spMarks K PE c) := ok_marks DM.F T G.isinst
  have GAl : FnOk P w K mg base CX0 1 fAl fdAl ["one"] (spAlien K PE) := ok_alien DAl.F G.isinst G.ke G.ie G.ae
  have GF : FnOk P w K mg base CX0 1 fF fdF ["errors"] (spFields c) := ok_fields DF.F T
  have GC : FnOk P w K mg base (L2.CX P w) 4 fC fdC ["which", "thing"] (spCaught c) := ok_caught DC.F DR.F DR.b DR.g T
  have GB : FnOk P w K mg base (L2.CX P w) 4 fB fdB ["which", "thing"] spBased := ok_based DB.F DR.F DR.b DR.g T B
  refine fun_at (k := 4) F scLaw ⟨rfl, by decide, by decide⟩ (fun vs H Q E h => ?_) (fun cdv outer s H vs Q E hr h => ?_)
  · obtain ⟨a, ns, rfl, _⟩ := h
    rfl
  · obtain ⟨a, ns, rfl, hS, q⟩ := h
    have hr1 : Room 1 _ := hr.mono (by decide)
    have hr3 : Room 3 _ := hr.mono (by decide)
    refine ⟨_, pss_cons (ps_set (i := 1) scLaw.nd rfl (.inl rfl) (pe_call GH hr1 (by rfl) DH.g DH.F.kp DH.b .nil pass0 (pa_cons (pv 0) pa_nil)))
      (pss_cons (ps_set (i := 2) scLaw.nd rfl (.inl rfl) (pe_call GT hr1 (by rfl) DT.g DT.F.kp DT.b .nil pass0 (pa_cons (pv 1) (pa_cons pe_int pa_nil))))
      (pss_cons (ps_set (i := 3) scLaw.nd rfl (.inl rfl) (pe_call GTh hr3 (by rfl) DTh.g DTh.F.kp DTh.b .nil pass0 (pa_cons (pv 1) pa_nil)))
      (pss_cons (ps_set (i := 4) scLaw.nd rfl (.inl rfl) (pe_callB (call_repr rfl hr1) (by rfl) G.repr PyProof.Rows.boot_repr (pa_cons (pv 3) pa_nil)))
      (pss_cons (ps_set (i := 5) scLaw.nd rfl (.inl rfl) (pe_call GA hr3 (by rfl) DA.g DA.F.kp DA.b .nil pass0 (pa_cons (pv 3) pa_nil)))
      (pss_cons (ps_for PassesOwn.never rfl (pi_range1 (by rfl) G.range (pa_cons (pe_callB call_len_seq (by rfl) G.len PySem.boot_len (pa_cons (pv 5) pa_nil)) pa_nil)) (pg_name (i := 6) scLaw.nd rfl (.inl rfl))
        (pss_cons (ps_if (PW.pt (pw_or (pt_not (pt_val (pe_callB call_isX (by rfl) G.isinst PyProof.Rows.boot_isinstance (pa_cons (pe_ix ix_list (pv 5) (pv 6) (fun _ _ => rfl)) (pa_cons (pe_glob (v := .ref PE) (by rfl) T.gPE rfl) pa_nil)))))
            (pw_or (pt_not (pt_val (pe_callB call_isX (by rfl) G.isinst PyProof.Rows.boot_isinstance (pa_cons (pe_ix ix_list (pv 5) (pv 6) (fun _ _ => rfl)) (pa_cons (pe_bltn (v := .ty "ValueError") (by rfl) G.ve (by decide +kernel) rfl) pa_nil)))))
            (pw_or1 (pt_val (pe_call GAl hr1 (by rfl) DAl.g DAl.F.kp DAl.b .nil pass0 (pa_cons (pe_ix ix_list (pv 5) (pv 6) (fun _ _ => rfl)) pa_nil)))))))
          (pss_one (ps_ret pe_bl)) pss_nil)
        (pss_cons (ps_set (i := 7) scLaw.nd rfl (.inr rfl) (pe_call GM hr1 (by rfl) DM.g DM.F.kp DM.b .nil pass0 (pa_cons (pe_ix ix_list (pv 5) (pv 6) (fun _ _ => rfl)) pa_nil)))
        (pss_one (ps_if (pt_cmpR (op_neD hr.units) (pe_lc (own := [("j", 10)]) (g := gName 10) rfl scLaw.nd (pi_range1 (by rfl) G.range (pa_cons (pe_callB call_len_seq (by rfl) G.len PySem.boot_len (pa_cons (pv 7) pa_nil)) pa_nil))
              (blkOk_by (N := ["script", "hand", "which", "thing", "due", "errors", "k", "marks", "kept", "caught", "j"]) (sc := defScope sLaw) (by decide +kernel)) (fun _ _ _ _ _ => pg_name (i := 10) scLaw.nd rfl (.inl rfl))
              (fun _ _ _ _ _ => pts_one (pt_val (pe_ix (r := rIxL K) ix_list (pv 7) (pv 10) (fun _ _ => rfl)))) (fun _ _ _ _ _ => pv 10)) (pe_lst (pa_cons (pv 6) pa_nil)) (nomark _))
          (pss_one (ps_ret pe_bl)) pss_nil)))))
      (pss_cons (ps_for PassesOwn.never rfl (pi_list (pe_call GF hr1 (by rfl) DF.g DF.F.kp DF.b .nil pass0 (pa_cons (pv 5) pa_nil))) (pg_name (i := 8) scLaw.nd rfl (.inl rfl))
        (pss_one (ps_if (pt_cmpR op_ne (pe_callB (call_repr rfl hr1) (by rfl) G.repr PyProof.Rows.boot_repr (pa_cons (pv 8) pa_nil)) (pv 4) (nomark _)) (pss_one (ps_ret pe_bl)) pss_nil)))
      (pss_cons (ps_if (PW.pt (pw_or (pt_val (pe_callB call_isX (by rfl) G.isinst PyProof.Rows.boot_isinstance (pa_cons (pe_excP PySem.F.excBase_ValueError BP.ex BP.kp (by rfl) T.gPE) (pa_cons (pe_glob (v := .ref (c 1)) (by rfl) T.e1.g rfl) pa_nil))))
          (pw_or1 (pt_not (pt_val (pe_callB call_isX (by rfl) G.isinst PyProof.Rows.boot_isinstance (pa_cons (pe_excP PySem.F.excBase_ValueError BP.ex BP.kp (by rfl) T.gPE) (pa_cons (pe_bltn (v := .ty "ValueError") (by rfl) G.ve (by decide +kernel) rfl) pa_nil))))))))
          (pss_one (ps_ret pe_bl)) pss_nil)
      (pss_cons (ps_set (i := 9) scLaw.nd rfl (.inl rfl) (pe_call GC hr (by rfl) DC.g DC.F.kp DC.b .nil passL (pa_cons (pv 2) (pa_cons (pv 3) pa_nil))))
      (pss_one (ps_ret (pe_and (pe_cmpR op_eq (pe_ix ix_tup (pv 9) pe_int (fun _ _ => rfl)) (pv 2) (nomark _))
        (pe_and (pe_cmpR op_eq (pe_callB (call_repr rfl hr1) (by rfl) G.repr PyProof.Rows.boot_repr (pa_cons (pe_ix ix_tup (pv 9) pe_int (fun _ _ => rfl)) pa_nil)) (pv 4) (nomark _))
        (pe_one (pe_call GB hr (by rfl) DB.g DB.F.kp DB.b .nil passL (pa_cons (pv 2) (pa_cons (pv 3) pa_nil)))))))))))))))), ?_⟩
    refine ⟨.ref a, rfl, a, ns, rfl, hS, fun p H1 np hH1 k1 => ?_⟩
    refine ⟨.ref p, rfl, p, 7, rfl, by decide, by decide, hH1, fun w0 H2 w1 w2 hH2 b2 => ?_⟩
    obtain ⟨kw, rfl⟩ := Int.eq_ofNat_of_zero_le w1
    refine ⟨.ref p, rfl, p, rfl, hH2, fun v d H3 hd sd hH3 b3 => ?_⟩
    have sd2 := sd.2.1
    have sd3 := sd.2.2
    refine ⟨v, rfl, v, d, rfl, hd, sd.1, by omega, by omega, ?_⟩
    refine ⟨v, rfl, v, rfl, fun es pe H4 k4 ne4 h4 hE hl => ?_⟩
    have hlm : (es.map V.ref).length = 29 := by rw [List.length_map]; exact hl
    refine ⟨.ref pe, rfl, pe, _, rfl, .inl (sq_of h4), _, rfl, by rw [hlm]; decide, by rw [hlm]; decide, for_range (fun _ σ H' => ∃ x6 x7 x10, σ = [some (.ref a), some (.ref p), some (.int (kw : Int)), some v, some (.str d.shown), some (.ref pe), x6, x7, none, none, x10] ∧ Same H4 H') ⟨none, none, none, rfl, Same.refl _⟩ ?_ ?_⟩
    · rintro k σ H' hk ⟨x6, x7, x10, rfl, kH⟩
      have hk2 : k < 29 := by rw [hlm] at hk; exact hk
      obtain ⟨o, ho⟩ := specs_get (c := c) hk2
      obtain ⟨ak, hak, fk⟩ := (hE.same kH).get ho
      have ea := fk.at
      have TC := (T.er k hk2).1
      have iak : atI (es.map V.ref) (0 + (k : Int)) = some (.ref ak) := by
        rw [Int.zero_add]
        exact atI_nat (by rw [List.getElem?_map, hak]; rfl)
      have h4' := kH _ _ h4
      refine ⟨.ref pe, rfl, _, rfl, pe, _, _, .ref ak, rfl, rfl, sq_of h4', iak, ak, c k, .ref PE, .ref PE, _, rfl, ea, TC.isx, .own _, kit_base T.base TC, _, rfl, iteF ?_⟩
      refine ⟨.ref pe, rfl, _, rfl, pe, _, _, .ref ak, rfl, rfl, sq_of h4', iak, ak, c k, .ty "ValueError", .type "ValueError", _, rfl, ea, TC.isx, .ty _, kit_type TC (by decide +kernel), _, rfl, iteF ?_⟩
      refine ⟨.ref pe, rfl, _, rfl, pe, _, _, .ref ak, rfl, rfl, sq_of h4', iak, ak, c k, rfl, ea, TC, _, rfl, iteF ?_⟩
      refine ⟨.ref pe, rfl, _, rfl, pe, _, _, .ref ak, rfl, rfl, sq_of h4', iak, ak, c k, rfl, ea, TC, fun pm H5 k5 n5 h5 => ?_⟩
      have hlc : ((cs c).map fun D => V.bl (decide (c k = D))).length = 29 := rfl
      refine ⟨.ref pm, rfl, pm, _, rfl, .inl (sq_of h5), _, rfl, by rw [hlc]; decide, by rw [hlc]; decide, fun D nD => lc_range (fun i H' => Same H5 H' ∧ H' D = some (.lst (if k < i then [.int (0 + (k : Int))] else []))) ⟨sameAt (Same.refl _) nD, by rw [upd_same]; rfl⟩ ?_ ?_⟩
      · rintro i H' hi ⟨k6, hD⟩
        have hi2 : i < 29 := hi
        have ii : atI ((cs c).map fun D => V.bl (decide (c k = D))) (0 + (i : Int)) = some (.bl (decide (c k = c i))) := by
          rw [Int.zero_add]
          exact atI_nat (by rw [List.getElem?_map, cs_get hi2]; rfl)
        refine ⟨rfl, .ref pm, rfl, _, rfl, pm, _, _, _, rfl, rfl, sq_of (k6 _ _ h5), ii, _, rfl, ?_⟩
        refine ite2 (fun e => ?_) (fun e => ?_)
        · obtain rfl := T.inj k i hk2 hi2 (of_decide_eq_true e)
          rw [if_neg (by omega)] at hD
          refine ⟨_, rfl, _, hD, by decide, sameAt k6 nD, ?_⟩
          rw [upd_same, if_pos (by omega)]
          rfl
        · have ne : k ≠ i := fun z => e (decide_eq_true (congrArg c z))
          refine ⟨k6, ?_⟩
          rw [hD]
          by_cases l : k < i
          · rw [if_pos l, if_pos (by omega)]
          · rw [if_neg l, if_neg (by omega)]
      · rintro H' ⟨k6, hD⟩
        rw [if_pos (show k < ((((cs c).map fun D => V.bl (decide (c k = D))).length : Nat) : Int).toNat from hk2)] at hD
        refine ⟨.int _, rfl, by show 1 ≤ sizeLine; decide, fun o no => ?_⟩
        refine ⟨.list [.int (0 + (k : Int))], .list [.int (0 + (k : Int))], .lst (sq_of ((Same.new no) _ _ hD)) (.cons (.int _) .nil), .lst (sq_of upd_same) (.cons (.int _) .nil), rfl, rfl, _, rfl, ?_⟩
        have ee : PyData.eqv (.list [.int (0 + (k : Int))]) (.list [.int (0 + (k : Int))]) = true := by simp [PyData.eqv, PyData.eqvAll]
        rw [ee]
        exact iteF ⟨_, _, _, rfl, (kH.trans (k5.trans k6)).trans (Same.new no)⟩
    · rintro σ H' ⟨x6, x7, x10, rfl, kH⟩
      refine ⟨.ref pe, rfl, pe, es, v, rfl, kH _ _ h4, hE.same kH, fun pf H5 k5 n5 h5 => ?_⟩
      refine ⟨pf, rfl, ⟨_, sq_of h5⟩, for_list (xs := [v, v, v, v, v, v, v]) (fun _ σ H' => ∃ x6 x7 x8 x10, σ = [some (.ref a), some (.ref p), some (.int (kw : Int)), some v, some (.str d.shown), some (.ref pe), x6, x7, x8, none, x10] ∧ Same H5 H') ⟨x6, x7, none, x10, rfl, Same.refl _⟩ ?_ ?_ ?_⟩
      · rintro i σ H' _ ⟨_, _, _, _, rfl, k6⟩
        exact sq_of (k6 _ _ h5)
      · rintro i x σ H' hx ⟨y6, y7, y8, y10, rfl, k6⟩
        have hxv : x = v := by
          have hm := List.mem_of_getElem? hx
          simpa using hm
        subst hxv
        have d6 := hd.keep (fun b o z => k6 _ _ (k5 _ _ (kH _ _ (k4 _ _ z))))
        refine ⟨x, rfl, x, d, rfl, d6, sd.1, by omega, by omega, .str d.shown, rfl, rfl, _, rfl, ?_⟩
        rw [decide_eq_true rfl]
        exact iteF ⟨_, _, _, _, rfl, k6⟩
      · rintro σ H' ⟨y6, y7, y8, y10, rfl, k6⟩
        have d6 : ∀ {H9 : Hp}, Same H' H9 → Dt H9 v d := fun k9 => hd.keep (fun b o z => k9 _ _ (k6 _ _ (k5 _ _ (kH _ _ (k4 _ _ z)))))
        refine fun x1 m1 => ⟨x1, PE, .ref (c 1), .ref (c 1), _, rfl, .inl upd_same, BP.isx, .own _, kit_p1 T.e1.er BP T.e1.ne, _, rfl, iteF ?_⟩
        refine fun x2 m2 => ⟨x2, PE, .ty "ValueError", .type "ValueError", _, rfl, .inl upd_same, BP.isx, .ty _, kit_p2 BP (by decide +kernel), _, rfl, iteF ?_⟩
        refine ⟨.int (kw : Int), rfl, v, rfl, kw, v, rfl, by omega, fun pc H7 k7 h7 => ?_⟩
        have k8 := (Same.new (o := exo x1 PE none) m1).trans ((Same.new (o := exo x2 PE none) m2).trans k7)
        have s7 : SqT K H7 pc [.int (kw : Int), v] := .inl (.inl h7)
        refine ⟨.ref pc, rfl, pc, _, 0, .int (kw : Int), rfl, rfl, s7, rfl, .int (kw : Int), rfl, rfl, _, rfl, ite2 (fun _ => ?_) (fun z => absurd (decide_eq_true rfl) z)⟩
        refine ⟨.ref pc, rfl, pc, _, 1, v, rfl, rfl, s7, rfl, v, d, rfl, d6 k8, sd.1, by omega, by omega, .str d.shown, rfl, rfl, _, rfl, ite2 (fun _ => ?_) (fun z => absurd (decide_eq_true rfl) z)⟩
        exact ⟨.int (kw : Int), rfl, v, rfl, kw, v, rfl, by omega, fun H8 _ => q _⟩
end
end LawK
set_option maxHeartbeats 8000000
namespace LawK
open PySem PySem.Spec PyProof.Rows L2 Ev
def cA : Nat → Addr := fun i => ([44, 65, 86, 107, 126, 147, 168, 189, 210, 231, 252, 273, 294, 313, 334, 353, 374, 395, 414, 435, 454, 475, 496, 517, 538, 559, 580, 601, 620] : List Nat).getD i 0
theorem cA_inj : ∀ i j, i < 29 → j < 29 → cA i = cA j → i = j := by
  have h : ∀ i : Fin 29, ∀ j : Fin 29, cA i = cA j → i = j := by decide +kernel
  intro i j hi hj e
  exact congrArg Fin.val (h ⟨i, hi⟩ ⟨j, hj⟩ e)
/-- asked of every own error -/
def chkE (K : PySem.W.Frag) (C : Addr) : Bool := xfB K C && (decide (PySem.W.typeIn K (.ref C) = some (.type "type")) && (PySem.W.keepIn K (.ref C) && (decide (PySem.W.findIn K (.ref C) "__class__" = some (some (.builtin "object.__class__"))) && decide (PySem.W.mroIn K C (.type "object") = some true))))
def chkC (K : PySem.W.Frag) (PE C : Addr) : Bool := chkE K C && (decide (PySem.W.findIn K (.ref C) "__setattr__" = some (some (.builtin "object.__setattr__"))) && decide (C ≠ PE))
structure Sh (K : PySem.W.Frag) : Prop where
  hn : PySem.W.specialIn K (.builtin "object.__class__") "__get__" = some (some (.builtin "getset_descriptor.__get__"))
  ht : PySem.W.takesIn K (.builtin "object.__class__") = some true
structure Sh0 (P : Program) (K : PySem.W.Frag) (mg : Str → Option Value) : Prop extends Sh K where
  gs : mg "super" = none
  top : (P.main.scope.names.lookup ("super" : Str)).isSome = false
  third : PySem.W.nsIn K cStatics "thirdparty.any" = some none
structure CkE (K : PySem.W.Frag) (C : Addr) : Prop where
  xf : XfC K C
  isT : PySem.W.typeIn K (.ref C) = some (.type "type")
  kp : PySem.W.keepIn K (.ref C) = true
  ha : PySem.W.findIn K (.ref C) "__class__" = some (some (.builtin "object.__class__"))
  hm : PySem.W.mroIn K C (.type "object") = some true
theorem chkE_ok {K : PySem.W.Frag} {C : Addr} (h : chkE K C = true) : CkE K C := by
  obtain ⟨h1, h⟩ := Bool.and_eq_true_iff.mp h
  obtain ⟨h2, h⟩ := Bool.and_eq_true_iff.mp h
  obtain ⟨h3, h⟩ := Bool.and_eq_true_iff.mp h
  obtain ⟨h4, h5⟩ := Bool.and_eq_true_iff.mp h
  exact ⟨xfB_ok h1, of_decide_eq_true h2, h3, of_decide_eq_true h4, of_decide_eq_true h5⟩
theorem CkE.isx {K : PySem.W.Frag} {C : Addr} (T : CkE K C) (S : Sh K) : ExcC K C := ⟨T.xf.ga, T.xf.gg, T.xf.exC, T.xf.hdC, T.ha, S.hn, S.ht, T.hm⟩
section
variable {P : Program} {w : World} {K : PySem.W.Frag} {mg : Str → Option Value} {h : Heap} {PE C fI : Addr} {x f qual : Str} {nm q : Str} {N : Addr} {bs : List Value} {sn : List Str} {sub : List Value} {ab : Bool} {col : Option Bool} {dd : Option Addr} {k0 k1 k2 k3 k5 : Option Value}
theorem mro_of {bm : List Value} {id : String} (lC : K.lookup C = some (excClassObj nm q C N bs bm true sn sub ab col dd k0 k1 k2 k3 k5 id)) : ∃ cd, PySem.W.clsIn K C = some cd ∧ cd.mro = .ref C :: bm := by
  have e : PySem.W.clsIn K C = some { name := nm, bases := bs, mro := .ref C :: bm, ns := N, qualname := q, hasDict := true, slotNames := sn, subclasses := sub, abstract := ab, collection := col, hasDel := false } := by
    unfold PySem.W.clsIn
    rw [lC]
  exact ⟨_, e, rfl⟩
theorem er_mk (S : Sh K) (lC : K.lookup C = some (excClassObj nm q C N bs (.ref PE :: veT) true sn sub ab col dd k0 k1 k2 k3 k5 "ValueError.__new__")) (ck : chkC K PE C = true) : ErC K PE C ∧ C ≠ PE := by
  obtain ⟨c1, c2⟩ := Bool.and_eq_true_iff.mp ck
  obtain ⟨c2, c3⟩ := Bool.and_eq_true_iff.mp c2
  have T := chkE_ok c1
  exact ⟨⟨⟨⟨nm, q, N, bs, _, sn, sub, ab, col, dd, k0, k1, k2, k3, k5, lC, (show PySem.HandSPX.refsVE veT = true by decide +kernel)⟩, of_decide_eq_true c2, T.xf.exC, T.isT, T.kp⟩, T.isx S, T.xf, mro_of lC, T.isT⟩, of_decide_eq_true c3⟩
theorem say {K : PySem.W.Frag} {h : Heap} (X : K.In h) (T : PySem.W.Frag → Prop) {g : Prop} (a : T K) (k : T K → g) : g := k a
def chk1 (K : PySem.W.Frag) (PE C fI : Addr) (f : Str) (cd : Value) (qual : Str) : Bool := chkC K PE C && (decide (PySem.W.typeIn K (.ref fI) = some (.type "function")) && (PySem.W.codeIn K cd qual && (PySem.W.keepIn K (.ref fI) && decide (PySem.W.findIn K (.ref C) f = some none))))
theorem cls1_mk {st : Stmt} {oc kV dc pm cd ct : Value} {od an : Option Addr} {sl : Array (Option Value)} (X : K.In h) (G : h.Ns mainGlobals mg) (S : Sh K)
    (i1 : Ini1 st f) (hb : ∀ (kV doc pm : Value) (an : Option Addr) (cdv ct : Value) (us : List Value), us.length = 2 → bindArgs (PySem.W.fnOf "__init__" qual (defArgs st) (defBody st) (defScope st) .none kV doc pm an cdv ct) ⟨us, []⟩ = pure ((["self", f] : List Str).zip us))
    (aC : PySem.W.nsIn K mainGlobals x = some (some (.ref C))) (lC : K.lookup C = some (excClassObj nm q C N bs (.ref PE :: veT) true sn sub ab col dd k0 k1 k2 k3 k5 "ValueError.__new__"))
    (iC : PySem.W.findIn K (.ref C) "__init__" = some (some (.ref fI))) (lI : K.lookup fI = some ⟨oc, od, .func (PySem.W.fnOf "__init__" qual (defArgs st) (defBody st) (defScope st) .none kV dc pm an cd ct), sl⟩)
    (ck : chk1 K PE C fI f cd qual = true) : Cls1 K mg PE x f C := by
  obtain ⟨c1, c2⟩ := Bool.and_eq_true_iff.mp ck
  obtain ⟨c2, c3⟩ := Bool.and_eq_true_iff.mp c2
  obtain ⟨c3, c4⟩ := Bool.and_eq_true_iff.mp c3
  obtain ⟨c4, c5⟩ := Bool.and_eq_true_iff.mp c4
  obtain ⟨e, n⟩ := er_mk S lC c1
  have F1 := fun_mk (st := st) lI c3 c4
  exact ⟨e, n, PySem.W.mg_of X G aC, ⟨fI, _, st, qual, F1, i1, F1.binds (ps := ["self", f]) hb, iC, of_decide_eq_true c2⟩, of_decide_eq_true c5⟩
def chk0 (K : PySem.W.Frag) (PE C fI : Addr) (cd : Value) (qual : Str) : Bool := chkC K PE C && (decide (PySem.W.typeIn K (.ref fI) = some (.type "function")) && (PySem.W.codeIn K cd qual && (decide (PySem.W.ks_superIn K C C "__init__" = some (some (.builtin "ValueError.__init__"))) && (decide (PySem.W.subIn K (.ref C) (.type "ValueError") = some true) && decide (PySem.W.mroIn K C (.ref C) = some true)))))
theorem cls0_mk {oc kV dc pm ct : Value} {od an : Option Addr} {cda cc : Addr} {osl : Array (Option Value)} {p p0 p1 p2 p3 p4 : Pos} {ccl : Value} {cdd : Option Addr} {vs : Array Value} {ccs : Array (Option Value)} {file : Str} {tf : Tok} {cl : Value} {cld : Option Addr} {csl : Array (Option Value)}
    (X : K.In h) (G : h.Ns mainGlobals mg) (S : Sh0 P K mg)
    (aC : PySem.W.nsIn K mainGlobals x = some (some (.ref C))) (lC : K.lookup C = some (excClassObj nm q C N bs (.ref PE :: veT) true sn sub ab col dd k0 k1 k2 k3 k5 "ValueError.__new__"))
    (iC : PySem.W.findIn K (.ref C) "__init__" = some (some (.ref fI)))
    (lI : K.lookup fI = some ⟨oc, od, .func (PySem.W.ksFn "__init__" qual (supArgs p) (supBody p0 p1 p2 p3 p4) supScope .none kV dc pm an (.ref cda) ct cc), osl⟩)
    (lD : K.lookup cda = some ⟨ccl, cdd, .fields vs, ccs⟩) (lc : K.lookup cc = some ⟨cl, cld, .cell (some (.ref C)), csl⟩)
    (v2 : vs[2]? = some (.str file tf)) (vf : ((P.main.file : Str) == file) = true) (pl : (p2.endLine == p3.line) = true)
    (ck : chk0 K PE C fI (.ref cda) qual = true) : Cls0 P K mg PE x C := by
  obtain ⟨c1, c2⟩ := Bool.and_eq_true_iff.mp ck
  obtain ⟨c2, c3⟩ := Bool.and_eq_true_iff.mp c2
  obtain ⟨c3, c4⟩ := Bool.and_eq_true_iff.mp c3
  obtain ⟨c4, c5⟩ := Bool.and_eq_true_iff.mp c4
  obtain ⟨c5, c6⟩ := Bool.and_eq_true_iff.mp c5
  obtain ⟨e, n⟩ := er_mk S.toSh lC c1
  exact ⟨e, n, ⟨fI, e.oex, iC, of_decide_eq_true c2, ⟨oc, od, qual, kV, dc, pm, ct, an, cda, cc, osl, p, p0, p1, p2, p3, p4, ccl, cdd, vs, ccs, file, tf, cl, cld, csl, lI, c3, lD, v2, vf, lc, pl⟩, S.gs, S.top, S.third, of_decide_eq_true c4, of_decide_eq_true c5, of_decide_eq_true c6⟩, PySem.W.mg_of X G aC⟩
theorem sh0_mk (X : K.In h) (G : h.Ns mainGlobals mg) (hn : PySem.W.specialIn K (.builtin "object.__class__") "__get__" = some (some (.builtin "getset_descriptor.__get__"))) (ht : PySem.W.takesIn K (.builtin "object.__class__") = some true)
    (gs : PySem.W.nsIn K mainGlobals "super" = some none) (top : (P.main.scope.names.lookup ("super" : Str)).isSome = false) (third : PySem.W.nsIn K cStatics "thirdparty.any" = some none) : Sh0 P K mg := ⟨⟨hn, ht⟩, PySem.W.mg_none_of X G gs, top, third⟩
theorem df_mk {st : Stmt} {ps : List Str} {oc kV dc pm cd ct : Value} {od an : Option Addr} {sl : Array (Option Value)} {fa : Addr} (X : K.In h) (G : h.Ns mainGlobals mg)
    (hb : ∀ (kV doc pm : Value) (an : Option Addr) (cdv ct : Value) (us : List Value), us.length = ps.length → bindArgs (PySem.W.fnOf x x (defArgs st) (defBody st) (defScope st) .none kV doc pm an cdv ct) ⟨us, []⟩ = pure (ps.zip us))
    (a : PySem.W.nsIn K mainGlobals x = some (some (.ref fa))) (l : K.lookup fa = some ⟨oc, od, .func (PySem.W.fnOf x x (defArgs st) (defBody st) (defScope st) .none kV dc pm an cd ct), sl⟩)
    (ck : (PySem.W.codeIn K cd x && PySem.W.keepIn K (.ref fa)) = true) : ∃ fd, Df K mg x st ps fa fd := by
  obtain ⟨c1, c2⟩ := Bool.and_eq_true_iff.mp ck
  have F1 := fun_mk (st := st) l c1 c2
  exact ⟨_, F1, F1.binds (ps := ps) hb, PySem.W.mg_of X G a⟩
theorem base_mk (S : Sh K) (lC : K.lookup PE = some (excClassObj nm q PE N bs veT true sn sub ab col dd k0 k1 k2 k3 k5 "ValueError.__new__")) (ex : PySem.W.excIn K PE [.type "ValueError", .type "Exception", .type "BaseException", .type "object"] "ValueError.__new__" = true)
    (ck : chkE K PE = true) : BaseC K PE ∧ BaseX K PE ∧ BaseP K PE := by
  have T := chkE_ok ck
  have hm := mro_of lC
  exact ⟨⟨T.isT, by obtain ⟨cd, e, _⟩ := hm; rw [e]; rfl⟩, ⟨T.xf.exC, T.xf.hdC, T.isT⟩, ⟨T.isx S, ex, T.kp, hm⟩⟩
end
theorem end_mk {P : Program} {w : World} {K : PySem.W.Frag} {mg : Str → Option Value} {h : Heap} {fa f PE fH fT fO fTh fA fM fAl fF fR fC fB : Addr} {c : Nat → Addr} {oc kV dc pm cd ct : Value} {od an : Option Addr} {sl : Array (Option Value)} (X : K.In h) (G : h.Ns mainGlobals mg) (hfa : mg "law" = some (.ref fa))
    (aL : PySem.W.nsIn K mainGlobals "law" = some (some (.ref f))) (lL : K.lookup f = some ⟨oc, od, .func (PySem.W.fnOf "law" "law" (defArgs sLaw) (defBody sLaw) (defScope sLaw) .none kV dc pm an cd ct), sl⟩) (ck : (PySem.W.codeIn K cd "law" && PySem.W.keepIn K (.ref f)) = true)
    (DH : ∃ fd, Df K mg "_law_hand" sHand ["script"] fH fd)
    (DT : ∃ fd, Df K mg "_law_take" sTake ["hand", "many"] fT fd)
    (DO : ∃ fd, Df K mg "_law_odd" sOdd ["hand"] fO fd)
    (DTh : ∃ fd, Df K mg "_law_thing" sThing ["hand"] fTh fd)
    (DA : ∃ fd, Df K mg "_law_all" sAll ["thing"] fA fd)
    (DM : ∃ fd, Df K mg "_law_marks" sMarks ["one"] fM fd)
    (DAl : ∃ fd, Df K mg "_law_alien" sAlien ["one"] fAl fd)
    (DF : ∃ fd, Df K mg "_law_fields" sFields ["errors"] fF fd)
    (DR : ∃ fd, Df K mg "_law_raise" sRaise ["which", "thing"] fR fd)
    (DC : ∃ fd, Df K mg "_law_caught" sCaught ["which", "thing"] fC fd)
    (DB : ∃ fd, Df K mg "_law_based" sBased ["which", "thing"] fB fd)
    (T : AllC P K mg PE c) (B : BaseX K PE) (BP : BaseP K PE) (GL : GlobL mg) :
    ∃ fd : FuncData, (∀ (s : Shared) (u : Value), BindsTo s fd ⟨[u], []⟩ [("script", u)]) ∧ ∀ base : Heap, K.In base → base.Ns mainGlobals mg → FnAt callerA P w K mg base CX0 fa fd ["script"] (spLaw K) := by
  have e := hfa.symm.trans (PySem.W.mg_of X G aL)
  cases e
  obtain ⟨fdH, DH⟩ := DH
  obtain ⟨fdT, DT⟩ := DT
  obtain ⟨fdO, DO⟩ := DO
  obtain ⟨fdTh, DTh⟩ := DTh
  obtain ⟨fdA, DA⟩ := DA
  obtain ⟨fdM, DM⟩ := DM
  obtain ⟨fdAl, DAl⟩ := DAl
  obtain ⟨fdF, DF⟩ := DF
  obtain ⟨fdR, DR⟩ := DR
  obtain ⟨fdC, DC⟩ := DC
  obtain ⟨fdB, DB⟩ := DB
  obtain ⟨c1, c2⟩ := Bool.and_eq_true_iff.mp ck
  have F1 := fun_mk (st := sLaw) lL c1 c2
  exact ⟨_, fun s u => .of_eq rfl, fun base _ _ => ok_law F1 DH DT DO DTh DA DM DAl DF DR DC DB T B BP GL⟩
end LawK
open PySem PySem.W PyProof.Rows L2
set_option maxRecDepth 100000 in
set_option maxHeartbeats 0 in
theorem PySem.Challenge.cw_everypiece_k00_errors_keep_what_is_passe_holds : PySem.Challenge.rw_everypiece_k00_errors_keep_what_is_passe.Holds := by
  w_on; o_law; k_head; (case hw => w_witness2)
  k_fill
  refine Ev.walk_at (l := PySem.Challenge.rw_everypiece_k00_errors_keep_what_is_passe) (n := 63) (x := "script") (sp := LawK.spLaw) rfl (by decide) rfl (fun w h Y => PySem.W.kIn_of Y) ?F (fun K H a ns hl _ hS => ⟨a, ns, rfl, hS, fun _ => rfl⟩)
  case F =>
    intro w mg fa h KX G hmg
    have hfa : mg "law" = some (.ref fa) := hmg
    clear hmg
    refine LawK.say KX (fun K => LawK.Sh0 (PySem.W.OpenLaw.prog PySem.Challenge.rw_everypiece_k00_errors_keep_what_is_passe) K mg) (by
      refine' LawK.sh0_mk KX G ?kq1a ?kq1b ?kq1c ?kq1d ?kq1e
      (case kq1a => k_is); (case kq1b => k_is); (case kq1c => k_is); (case kq1d => decide +kernel); (case kq1e => k_is)) ?_
    intro S
    refine LawK.say KX (fun K => LawK.BaseC K 24 ∧ LawK.BaseX K 24 ∧ LawK.BaseP K 24) (by
      refine' LawK.base_mk S.toSh ?kq2l ?kq2e ?kq2c
      (case kq2l => k_is); (case kq2e => k_exc); (case kq2c => kernel_rfl)) ?_
    intro BB
    refine LawK.say KX (fun K => LawK.Cls1 K mg 24 "BadLibrary" "part" 44) (by
      refine' LawK.cls1_mk (st := inClass (LawK.topS 2) 0) (qual := "BadLibrary.__init__") KX G S.toSh ⟨⟨_, _, _, _, rfl⟩, ⟨rfl, rfl, rfl, by decide +kernel, rfl, by decide +kernel, by decide +kernel⟩, rfl, rfl, rfl, rfl⟩ (fun _ _ _ _ _ _ us hl => match us, hl with | [_, _], _ => rfl) ?kq3a ?kq3l ?kq3i ?kq3f ?kq3c
      (case kq3a => k_is); (case kq3l => k_is); (case kq3i => k_is); (case kq3f => k_is); (case kq3c => kernel_rfl)) ?_
    intro e0
    refine LawK.say KX (fun K => LawK.Cls0 (PySem.W.OpenLaw.prog PySem.Challenge.rw_everypiece_k00_errors_keep_what_is_passe) K mg 24 "NoWord" 65) (by
      refine' LawK.cls0_mk (qual := "NoWord.__init__") KX G S ?kq4a ?kq4l ?kq4i ?kq4f ?kq4d ?kq4e ?kq4v ?kq4w ?kq4p ?kq4c
      (case kq4a => k_is); (case kq4l => k_is); (case kq4i => k_is); (case kq4f => k_is); (case kq4d => k_is); (case kq4e => k_is); (case kq4v => rfl); (case kq4w => rfl); (case kq4p => rfl); (case kq4c => kernel_rfl)) ?_
    intro e1
    refine LawK.say KX (fun K => LawK.Cls0 (PySem.W.OpenLaw.prog PySem.Challenge.rw_everypiece_k00_errors_keep_what_is_passe) K mg 24 "NoPlace" 86) (by
      refine' LawK.cls0_mk (qual := "NoPlace.__init__") KX G S ?kq5a ?kq5l ?kq5i ?kq5f ?kq5d ?kq5e ?kq5v ?kq5w ?kq5p ?kq5c
      (case kq5a => k_is); (case kq5l => k_is); (case kq5i => k_is); (case kq5f => k_is); (case kq5d => k_is); (case kq5e => k_is); (case kq5v => rfl); (case kq5w => rfl); (case kq5p => rfl); (case kq5c => kernel_rfl)) ?_
    intro e2
    refine LawK.say KX (fun K => LawK.Cls0 (PySem.W.OpenLaw.prog PySem.Challenge.rw_everypiece_k00_errors_keep_what_is_passe) K mg 24 "NoEdit" 107) (by
      refine' LawK.cls0_mk (qual := "NoEdit.__init__") KX G S ?kq6a ?kq6l ?kq6i ?kq6f ?kq6d ?kq6e ?kq6v ?kq6w ?kq6p ?kq6c
      (case kq6a => k_is); (case kq6l => k_is); (case kq6i => k_is); (case kq6f => k_is); (case kq6d => k_is); (case kq6e => k_is); (case kq6v => rfl); (case kq6w => rfl); (case kq6p => rfl); (case kq6c => kernel_rfl)) ?_
    intro e3
    refine LawK.say KX (fun K => LawK.Cls1 K mg 24 "BadEdits" "index" 126) (by
      refine' LawK.cls1_mk (st := inClass (LawK.topS 6) 0) (qual := "BadEdits.__init__") KX G S.toSh ⟨⟨_, _, _, _, rfl⟩, ⟨rfl, rfl, rfl, by decide +kernel, rfl, by decide +kernel, by decide +kernel⟩, rfl, rfl, rfl, rfl⟩ (fun _ _ _ _ _ _ us hl => match us, hl with | [_, _], _ => rfl) ?kq7a ?kq7l ?kq7i ?kq7f ?kq7c
      (case kq7a => k_is); (case kq7l => k_is); (case kq7i => k_is); (case kq7f => k_is); (case kq7c => kernel_rfl)) ?_
    intro e4
    refine LawK.say KX (fun K => LawK.Cls0 (PySem.W.OpenLaw.prog PySem.Challenge.rw_everypiece_k00_errors_keep_what_is_passe) K mg 24 "NoNames" 147) (by
      refine' LawK.cls0_mk (qual := "NoNames.__init__") KX G S ?kq8a ?kq8l ?kq8i ?kq8f ?kq8d ?kq8e ?kq8v ?kq8w ?kq8p ?kq8c
      (case kq8a => k_is); (case kq8l => k_is); (case kq8i => k_is); (case kq8f => k_is); (case kq8d => k_is); (case kq8e => k_is); (case kq8v => rfl); (case kq8w => rfl); (case kq8p => rfl); (case kq8c => kernel_rfl)) ?_
    intro e5
    refine LawK.say KX (fun K => LawK.Cls0 (PySem.W.OpenLaw.prog PySem.Challenge.rw_everypiece_k00_errors_keep_what_is_passe) K mg 24 "NoText" 168) (by
      refine' LawK.cls0_mk (qual := "NoText.__init__") KX G S ?kq9a ?kq9l ?kq9i ?kq9f ?kq9d ?kq9e ?kq9v ?kq9w ?kq9p ?kq9c
      (case kq9a => k_is); (case kq9l => k_is); (case kq9i => k_is); (case kq9f => k_is); (case kq9d => k_is); (case kq9e => k_is); (case kq9v => rfl); (case kq9w => rfl); (case kq9p => rfl); (case kq9c => kernel_rfl)) ?_
    intro e6
    refine LawK.say KX (fun K => LawK.Cls0 (PySem.W.OpenLaw.prog PySem.Challenge.rw_everypiece_k00_errors_keep_what_is_passe) K mg 24 "NoLevel" 189) (by
      refine' LawK.cls0_mk (qual := "NoLevel.__init__") KX G S ?kq10a ?kq10l ?kq10i ?kq10f ?kq10d ?kq10e ?kq10v ?kq10w ?kq10p ?kq10c
      (case kq10a => k_is); (case kq10l => k_is); (case kq10i => k_is); (case kq10f => k_is); (case kq10d => k_is); (case kq10e => k_is); (case kq10v => rfl); (case kq10w => rfl); (case kq10p => rfl); (case kq10c => kernel_rfl)) ?_
    intro e7
    refine LawK.say KX (fun K => LawK.Cls0 (PySem.W.OpenLaw.prog PySem.Challenge.rw_everypiece_k00_errors_keep_what_is_passe) K mg 24 "NoNumber" 210) (by
      refine' LawK.cls0_mk (qual := "NoNumber.__init__") KX G S ?kq11a ?kq11l ?kq11i ?kq11f ?kq11d ?kq11e ?kq11v ?kq11w ?kq11p ?kq11c
      (case kq11a => k_is); (case kq11l => k_is); (case kq11i => k_is); (case kq11f => k_is); (case kq11d => k_is); (case kq11e => k_is); (case kq11v => rfl); (case kq11w => rfl); (case kq11p => rfl); (case kq11c => kernel_rfl)) ?_
    intro e8
    refine LawK.say KX (fun K => LawK.Cls0 (PySem.W.OpenLaw.prog PySem.Challenge.rw_everypiece_k00_errors_keep_what_is_passe) K mg 24 "NothingDone" 231) (by
      refine' LawK.cls0_mk (qual := "NothingDone.__init__") KX G S ?kq12a ?kq12l ?kq12i ?kq12f ?kq12d ?kq12e ?kq12v ?kq12w ?kq12p ?kq12c
      (case kq12a => k_is); (case kq12l => k_is); (case kq12i => k_is); (case kq12f => k_is); (case kq12d => k_is); (case kq12e => k_is); (case kq12v => rfl); (case kq12w => rfl); (case kq12p => rfl); (case kq12c => kernel_rfl)) ?_
    intro e9
    refine LawK.say KX (fun K => LawK.Cls0 (PySem.W.OpenLaw.prog PySem.Challenge.rw_everypiece_k00_errors_keep_what_is_passe) K mg 24 "NoRow" 252) (by
      refine' LawK.cls0_mk (qual := "NoRow.__init__") KX G S ?kq13a ?kq13l ?kq13i ?kq13f ?kq13d ?kq13e ?kq13v ?kq13w ?kq13p ?kq13c
      (case kq13a => k_is); (case kq13l => k_is); (case kq13i => k_is); (case kq13f => k_is); (case kq13d => k_is); (case kq13e => k_is); (case kq13v => rfl); (case kq13w => rfl); (case kq13p => rfl); (case kq13c => kernel_rfl)) ?_
    intro e10
    refine LawK.say KX (fun K => LawK.Cls0 (PySem.W.OpenLaw.prog PySem.Challenge.rw_everypiece_k00_errors_keep_what_is_passe) K mg 24 "NoSign" 273) (by
      refine' LawK.cls0_mk (qual := "NoSign.__init__") KX G S ?kq14a ?kq14l ?kq14i ?kq14f ?kq14d ?kq14e ?kq14v ?kq14w ?kq14p ?kq14c
      (case kq14a => k_is); (case kq14l => k_is); (case kq14i => k_is); (case kq14f => k_is); (case kq14d => k_is); (case kq14e => k_is); (case kq14v => rfl); (case kq14w => rfl); (case kq14p => rfl); (case kq14c => kernel_rfl)) ?_
    intro e11
    refine LawK.say KX (fun K => LawK.Cls0 (PySem.W.OpenLaw.prog PySem.Challenge.rw_everypiece_k00_errors_keep_what_is_passe) K mg 24 "NoClass" 294) (by
      refine' LawK.cls0_mk (qual := "NoClass.__init__") KX G S ?kq15a ?kq15l ?kq15i ?kq15f ?kq15d ?kq15e ?kq15v ?kq15w ?kq15p ?kq15c
      (case kq15a => k_is); (case kq15l => k_is); (case kq15i => k_is); (case kq15f => k_is); (case kq15d => k_is); (case kq15e => k_is); (case kq15v => rfl); (case kq15w => rfl); (case kq15p => rfl); (case kq15c => kernel_rfl)) ?_
    intro e12
    refine LawK.say KX (fun K => LawK.Cls1 K mg 24 "BadWeb" "index" 313) (by
      refine' LawK.cls1_mk (st := inClass (LawK.topS 15) 0) (qual := "BadWeb.__init__") KX G S.toSh ⟨⟨_, _, _, _, rfl⟩, ⟨rfl, rfl, rfl, by decide +kernel, rfl, by decide +kernel, by decide +kernel⟩, rfl, rfl, rfl, rfl⟩ (fun _ _ _ _ _ _ us hl => match us, hl with | [_, _], _ => rfl) ?kq16a ?kq16l ?kq16i ?kq16f ?kq16c
      (case kq16a => k_is); (case kq16l => k_is); (case kq16i => k_is); (case kq16f => k_is); (case kq16c => kernel_rfl)) ?_
    intro e13
    refine LawK.say KX (fun K => LawK.Cls0 (PySem.W.OpenLaw.prog PySem.Challenge.rw_everypiece_k00_errors_keep_what_is_passe) K mg 24 "NoMachine" 334) (by
      refine' LawK.cls0_mk (qual := "NoMachine.__init__") KX G S ?kq17a ?kq17l ?kq17i ?kq17f ?kq17d ?kq17e ?kq17v ?kq17w ?kq17p ?kq17c
      (case kq17a => k_is); (case kq17l => k_is); (case kq17i => k_is); (case kq17f => k_is); (case kq17d => k_is); (case kq17e => k_is); (case kq17v => rfl); (case kq17w => rfl); (case kq17p => rfl); (case kq17c => kernel_rfl)) ?_
    intro e14
    refine LawK.say KX (fun K => LawK.Cls1 K mg 24 "TooMany" "most" 353) (by
      refine' LawK.cls1_mk (st := inClass (LawK.topS 17) 0) (qual := "TooMany.__init__") KX G S.toSh ⟨⟨_, _, _, _, rfl⟩, ⟨rfl, rfl, rfl, by decide +kernel, rfl, by decide +kernel, by decide +kernel⟩, rfl, rfl, rfl, rfl⟩ (fun _ _ _ _ _ _ us hl => match us, hl with | [_, _], _ => rfl) ?kq18a ?kq18l ?kq18i ?kq18f ?kq18c
      (case kq18a => k_is); (case kq18l => k_is); (case kq18i => k_is); (case kq18f => k_is); (case kq18c => kernel_rfl)) ?_
    intro e15
    refine LawK.say KX (fun K => LawK.Cls0 (PySem.W.OpenLaw.prog PySem.Challenge.rw_everypiece_k00_errors_keep_what_is_passe) K mg 24 "NoState" 374) (by
      refine' LawK.cls0_mk (qual := "NoState.__init__") KX G S ?kq19a ?kq19l ?kq19i ?kq19f ?kq19d ?kq19e ?kq19v ?kq19w ?kq19p ?kq19c
      (case kq19a => k_is); (case kq19l => k_is); (case kq19i => k_is); (case kq19f => k_is); (case kq19d => k_is); (case kq19e => k_is); (case kq19v => rfl); (case kq19w => rfl); (case kq19p => rfl); (case kq19c => kernel_rfl)) ?_
    intro e16
    refine LawK.say KX (fun K => LawK.Cls0 (PySem.W.OpenLaw.prog PySem.Challenge.rw_everypiece_k00_errors_keep_what_is_passe) K mg 24 "NoSigns" 395) (by
      refine' LawK.cls0_mk (qual := "NoSigns.__init__") KX G S ?kq20a ?kq20l ?kq20i ?kq20f ?kq20d ?kq20e ?kq20v ?kq20w ?kq20p ?kq20c
      (case kq20a => k_is); (case kq20l => k_is); (case kq20i => k_is); (case kq20f => k_is); (case kq20d => k_is); (case kq20e => k_is); (case kq20v => rfl); (case kq20w => rfl); (case kq20p => rfl); (case kq20c => kernel_rfl)) ?_
    intro e17
    refine LawK.say KX (fun K => LawK.Cls1 K mg 24 "NoPhrases" "index" 414) (by
      refine' LawK.cls1_mk (st := inClass (LawK.topS 20) 0) (qual := "NoPhrases.__init__") KX G S.toSh ⟨⟨_, _, _, _, rfl⟩, ⟨rfl, rfl, rfl, by decide +kernel, rfl, by decide +kernel, by decide +kernel⟩, rfl, rfl, rfl, rfl⟩ (fun _ _ _ _ _ _ us hl => match us, hl with | [_, _], _ => rfl) ?kq21a ?kq21l ?kq21i ?kq21f ?kq21c
      (case kq21a => k_is); (case kq21l => k_is); (case kq21i => k_is); (case kq21f => k_is); (case kq21c => kernel_rfl)) ?_
    intro e18
    refine LawK.say KX (fun K => LawK.Cls0 (PySem.W.OpenLaw.prog PySem.Challenge.rw_everypiece_k00_errors_keep_what_is_passe) K mg 24 "NoPattern" 435) (by
      refine' LawK.cls0_mk (qual := "NoPattern.__init__") KX G S ?kq22a ?kq22l ?kq22i ?kq22f ?kq22d ?kq22e ?kq22v ?kq22w ?kq22p ?kq22c
      (case kq22a => k_is); (case kq22l => k_is); (case kq22i => k_is); (case kq22f => k_is); (case kq22d => k_is); (case kq22e => k_is); (case kq22v => rfl); (case kq22w => rfl); (case kq22p => rfl); (case kq22c => kernel_rfl)) ?_
    intro e19
    refine LawK.say KX (fun K => LawK.Cls1 K mg 24 "BadPattern" "place" 454) (by
      refine' LawK.cls1_mk (st := inClass (LawK.topS 22) 0) (qual := "BadPattern.__init__") KX G S.toSh ⟨⟨_, _, _, _, rfl⟩, ⟨rfl, rfl, rfl, by decide +kernel, rfl, by decide +kernel, by decide +kernel⟩, rfl, rfl, rfl, rfl⟩ (fun _ _ _ _ _ _ us hl => match us, hl with | [_, _], _ => rfl) ?kq23a ?kq23l ?kq23i ?kq23f ?kq23c
      (case kq23a => k_is); (case kq23l => k_is); (case kq23i => k_is); (case kq23f => k_is); (case kq23c => kernel_rfl)) ?_
    intro e20
    refine LawK.say KX (fun K => LawK.Cls0 (PySem.W.OpenLaw.prog PySem.Challenge.rw_everypiece_k00_errors_keep_what_is_passe) K mg 24 "NoGaps" 475) (by
      refine' LawK.cls0_mk (qual := "NoGaps.__init__") KX G S ?kq24a ?kq24l ?kq24i ?kq24f ?kq24d ?kq24e ?kq24v ?kq24w ?kq24p ?kq24c
      (case kq24a => k_is); (case kq24l => k_is); (case kq24i => k_is); (case kq24f => k_is); (case kq24d => k_is); (case kq24e => k_is); (case kq24v => rfl); (case kq24w => rfl); (case kq24p => rfl); (case kq24c => kernel_rfl)) ?_
    intro e21
    refine LawK.say KX (fun K => LawK.Cls0 (PySem.W.OpenLaw.prog PySem.Challenge.rw_everypiece_k00_errors_keep_what_is_passe) K mg 24 "NoHoles" 496) (by
      refine' LawK.cls0_mk (qual := "NoHoles.__init__") KX G S ?kq25a ?kq25l ?kq25i ?kq25f ?kq25d ?kq25e ?kq25v ?kq25w ?kq25p ?kq25c
      (case kq25a => k_is); (case kq25l => k_is); (case kq25i => k_is); (case kq25f => k_is); (case kq25d => k_is); (case kq25e => k_is); (case kq25v => rfl); (case kq25w => rfl); (case kq25p => rfl); (case kq25c => kernel_rfl)) ?_
    intro e22
    refine LawK.say KX (fun K => LawK.Cls0 (PySem.W.OpenLaw.prog PySem.Challenge.rw_everypiece_k00_errors_keep_what_is_passe) K mg 24 "NoLine" 517) (by
      refine' LawK.cls0_mk (qual := "NoLine.__init__") KX G S ?kq26a ?kq26l ?kq26i ?kq26f ?kq26d ?kq26e ?kq26v ?kq26w ?kq26p ?kq26c
      (case kq26a => k_is); (case kq26l => k_is); (case kq26i => k_is); (case kq26f => k_is); (case kq26d => k_is); (case kq26e => k_is); (case kq26v => rfl); (case kq26w => rfl); (case kq26p => rfl); (case kq26c => kernel_rfl)) ?_
    intro e23
    refine LawK.say KX (fun K => LawK.Cls0 (PySem.W.OpenLaw.prog PySem.Challenge.rw_everypiece_k00_errors_keep_what_is_passe) K mg 24 "NoCut" 538) (by
      refine' LawK.cls0_mk (qual := "NoCut.__init__") KX G S ?kq27a ?kq27l ?kq27i ?kq27f ?kq27d ?kq27e ?kq27v ?kq27w ?kq27p ?kq27c
      (case kq27a => k_is); (case kq27l => k_is); (case kq27i => k_is); (case kq27f => k_is); (case kq27d => k_is); (case kq27e => k_is); (case kq27v => rfl); (case kq27w => rfl); (case kq27p => rfl); (case kq27c => kernel_rfl)) ?_
    intro e24
    refine LawK.say KX (fun K => LawK.Cls0 (PySem.W.OpenLaw.prog PySem.Challenge.rw_everypiece_k00_errors_keep_what_is_passe) K mg 24 "NoLines" 559) (by
      refine' LawK.cls0_mk (qual := "NoLines.__init__") KX G S ?kq28a ?kq28l ?kq28i ?kq28f ?kq28d ?kq28e ?kq28v ?kq28w ?kq28p ?kq28c
      (case kq28a => k_is); (case kq28l => k_is); (case kq28i => k_is); (case kq28f => k_is); (case kq28d => k_is); (case kq28e => k_is); (case kq28v => rfl); (case kq28w => rfl); (case kq28p => rfl); (case kq28c => kernel_rfl)) ?_
    intro e25
    refine LawK.say KX (fun K => LawK.Cls0 (PySem.W.OpenLaw.prog PySem.Challenge.rw_everypiece_k00_errors_keep_what_is_passe) K mg 24 "NoDisk" 580) (by
      refine' LawK.cls0_mk (qual := "NoDisk.__init__") KX G S ?kq29a ?kq29l ?kq29i ?kq29f ?kq29d ?kq29e ?kq29v ?kq29w ?kq29p ?kq29c
      (case kq29a => k_is); (case kq29l => k_is); (case kq29i => k_is); (case kq29f => k_is); (case kq29d => k_is); (case kq29e => k_is); (case kq29v => rfl); (case kq29w => rfl); (case kq29p => rfl); (case kq29c => kernel_rfl)) ?_
    intro e26
    refine LawK.say KX (fun K => LawK.Cls0 (PySem.W.OpenLaw.prog PySem.Challenge.rw_everypiece_k00_errors_keep_what_is_passe) K mg 24 "NoAsk" 601) (by
      refine' LawK.cls0_mk (qual := "NoAsk.__init__") KX G S ?kq30a ?kq30l ?kq30i ?kq30f ?kq30d ?kq30e ?kq30v ?kq30w ?kq30p ?kq30c
      (case kq30a => k_is); (case kq30l => k_is); (case kq30i => k_is); (case kq30f => k_is); (case kq30d => k_is); (case kq30e => k_is); (case kq30v => rfl); (case kq30w => rfl); (case kq30p => rfl); (case kq30c => kernel_rfl)) ?_
    intro e27
    refine LawK.say KX (fun K => LawK.Cls1 K mg 24 "NoName" "name" 620) (by
      refine' LawK.cls1_mk (st := inClass (LawK.topS 30) 0) (qual := "NoName.__init__") KX G S.toSh ⟨⟨_, _, _, _, rfl⟩, ⟨rfl, rfl, rfl, by decide +kernel, rfl, by decide +kernel, by decide +kernel⟩, rfl, rfl, rfl, rfl⟩ (fun _ _ _ _ _ _ us hl => match us, hl with | [_, _], _ => rfl) ?kq31a ?kq31l ?kq31i ?kq31f ?kq31c
      (case kq31a => k_is); (case kq31l => k_is); (case kq31i => k_is); (case kq31f => k_is); (case kq31c => kernel_rfl)) ?_
    intro e28
    refine LawK.say KX (fun K => ∃ fd, LawK.Df K mg "_law_hand" LawK.sHand ["script"] 629 fd) (by
      refine' LawK.df_mk KX G (fun _ _ _ _ _ _ us hl => match us, hl with | [_], _ => rfl) ?kq32a ?kq32l ?kq32c
      (case kq32a => k_is); (case kq32l => k_is); (case kq32c => kernel_rfl)) ?_
    intro DH
    refine LawK.say KX (fun K => ∃ fd, LawK.Df K mg "_law_take" LawK.sTake ["hand", "many"] 636 fd) (by
      refine' LawK.df_mk KX G (fun _ _ _ _ _ _ us hl => match us, hl with | [_, _], _ => rfl) ?kq33a ?kq33l ?kq33c
      (case kq33a => k_is); (case kq33l => k_is); (case kq33c => kernel_rfl)) ?_
    intro DT
    refine LawK.say KX (fun K => ∃ fd, LawK.Df K mg "_law_odd" LawK.sOdd ["hand"] 643 fd) (by
      refine' LawK.df_mk KX G (fun _ _ _ _ _ _ us hl => match us, hl with | [_], _ => rfl) ?kq34a ?kq34l ?kq34c
      (case kq34a => k_is); (case kq34l => k_is); (case kq34c => kernel_rfl)) ?_
    intro DO
    refine LawK.say KX (fun K => ∃ fd, LawK.Df K mg "_law_thing" LawK.sThing ["hand"] 650 fd) (by
      refine' LawK.df_mk KX G (fun _ _ _ _ _ _ us hl => match us, hl with | [_], _ => rfl) ?kq35a ?kq35l ?kq35c
      (case kq35a => k_is); (case kq35l => k_is); (case kq35c => kernel_rfl)) ?_
    intro DTh
    refine LawK.say KX (fun K => ∃ fd, LawK.Df K mg "_law_all" LawK.sAll ["thing"] 657 fd) (by
      refine' LawK.df_mk KX G (fun _ _ _ _ _ _ us hl => match us, hl with | [_], _ => rfl) ?kq36a ?kq36l ?kq36c
      (case kq36a => k_is); (case kq36l => k_is); (case kq36c => kernel_rfl)) ?_
    intro DA
    refine LawK.say KX (fun K => ∃ fd, LawK.Df K mg "_law_marks" LawK.sMarks ["one"] 664 fd) (by
      refine' LawK.df_mk KX G (fun _ _ _ _ _ _ us hl => match us, hl with | [_], _ => rfl) ?kq37a ?kq37l ?kq37c
      (case kq37a => k_is); (case kq37l => k_is); (case kq37c => kernel_rfl)) ?_
    intro DM
    refine LawK.say KX (fun K => ∃ fd, LawK.Df K mg "_law_alien" LawK.sAlien ["one"] 671 fd) (by
      refine' LawK.df_mk KX G (fun _ _ _ _ _ _ us hl => match us, hl with | [_], _ => rfl) ?kq38a ?kq38l ?kq38c
      (case kq38a => k_is); (case kq38l => k_is); (case kq38c => kernel_rfl)) ?_
    intro DAl
    refine LawK.say KX (fun K => ∃ fd, LawK.Df K mg "_law_fields" LawK.sFields ["errors"] 678 fd) (by
      refine' LawK.df_mk KX G (fun _ _ _ _ _ _ us hl => match us, hl with | [_], _ => rfl) ?kq39a ?kq39l ?kq39c
      (case kq39a => k_is); (case kq39l => k_is); (case kq39c => kernel_rfl)) ?_
    intro DF
    refine LawK.say KX (fun K => ∃ fd, LawK.Df K mg "_law_raise" LawK.sRaise ["which", "thing"] 685 fd) (by
      refine' LawK.df_mk KX G (fun _ _ _ _ _ _ us hl => match us, hl with | [_, _], _ => rfl) ?kq40a ?kq40l ?kq40c
      (case kq40a => k_is); (case kq40l => k_is); (case kq40c => kernel_rfl)) ?_
    intro DR
    refine LawK.say KX (fun K => ∃ fd, LawK.Df K mg "_law_caught" LawK.sCaught ["which", "thing"] 692 fd) (by
      refine' LawK.df_mk KX G (fun _ _ _ _ _ _ us hl => match us, hl with | [_, _], _ => rfl) ?kq41a ?kq41l ?kq41c
      (case kq41a => k_is); (case kq41l => k_is); (case kq41c => kernel_rfl)) ?_
    intro DC
    refine LawK.say KX (fun K => ∃ fd, LawK.Df K mg "_law_based" LawK.sBased ["which", "thing"] 699 fd) (by
      refine' LawK.df_mk KX G (fun _ _ _ _ _ _ us hl => match us, hl with | [_, _], _ => rfl) ?kq42a ?kq42l ?kq42c
      (case kq42a => k_is); (case kq42l => k_is); (case kq42c => kernel_rfl)) ?_
    intro DB
    refine LawK.say KX (fun K => LawK.AllC (PySem.W.OpenLaw.prog PySem.Challenge.rw_everypiece_k00_errors_keep_what_is_passe) K mg 24 LawK.cA) ⟨e0, e1, e2, e3, e4, e5, e6, e7, e8, e9, e10, e11, e12, e13, e14, e15, e16, e17, e18, e19, e20, e21, e22, e23, e24, e25, e26, e27, e28, LawK.cA_inj, BB.1, mg_of KX G (by k_is)⟩ ?_
    intro T
    have GL : LawK.GlobL mg := ⟨⟨mg_none_of KX G (by k_is), mg_none_of KX G (by k_is), mg_none_of KX G (by k_is), mg_none_of KX G (by k_is)⟩, mg_none_of KX G (by k_is), mg_none_of KX G (by k_is), mg_none_of KX G (by k_is), mg_none_of KX G (by k_is), mg_none_of KX G (by k_is), mg_none_of KX G (by k_is)⟩
    refine' LawK.end_mk KX G hfa ?kq44a ?kq44l ?kq44c DH DT DO DTh DA DM DAl DF DR DC DB T BB.2.1 BB.2.2 GL
    (case kq44a => k_is); (case kq44l => k_is); (case kq44c => kernel_rfl)
