import PyProof.Rows.All
import Wide.All
import OpenK.AllK
import Wide.FinOn
import HandS.ForMost
import HandS.ForExc
import PyProof.ReprRoads
import PyProof.ReprLen
import HandS.Dict
import HandS.ExcInit
import PyProof.StrBlock2
import HandS.IsInst
import HandS.Codes
import HandS.StrMore
import HandS.TupMul
import HandS.Style
import HandS.TupAny
import HandS.Zip
import PyProof.Rows.StrRev
import HandS.OwnEq
import KE.KExcSuper
import KE.KExcMake
import HandS.ExcValue
import HandS.ExcIs
import KE.KExcIs
import HandS.ExcField
import HandS.TryMany
import HandS.TryOnly
import KE.GoesEnum
import HandS.More
import HandS.CallLocal
import PyProof.DictStraight
import HandS.Walk
import PyProof.ListStr
import HandS.Rev
import PySem.Challenge.RW_everypiece_k05_refusals_of_edits
set_option Elab.async false
set_option linter.all false
set_option maxRecDepth 100000
set_option maxHeartbeats 4000000
/-! repr of nested data that the law has made. -/
namespace Ev
open PySem PySem.Spec PyProof.Rows L2

/-- a display of a list; its place is not the table of modules -/
def tLstN (t : TA) : TE := fun σ H Q => t σ H fun xs H1 => xs.length ≤ sizeLine ∧ ∀ p, H1 p = none → p ≠ sysModules → Q (.ref p) (upd H1 p (.lst xs))
theorem pe_lstN {X : Cx} {es : List Expr} {pos : Pos} {t : TA} (h : PA X es t) : PE X (.List es pos) (tLstN t) := by
  refine ⟨fun pins s σ H Q I hq => ?_⟩
  refine wpAny_List_spliced (thn (h.run pos pins s σ H _ I hq) fun us s1 hh => ?_)
  obtain ⟨xs, H1, I1, r, z, q⟩ := hh
  have hf : H1 s1.heap.objs.size = none := I1.hok.fresh (Nat.le_refl _)
  refine ⟨by rw [← r.length]; exact z, .ref s1.heap.objs.size, upd H1 s1.heap.objs.size (.lst xs), I1.laid (t' := s1.toks) (o := .lst xs) (fun b u e => Heap.get?_push_of_some _ e) (Nat.le_refl _) ⟨z, us, 0, r, Heap.get?_push_size _ rfl⟩, rfl, q _ hf (Ne.symm (Nat.ne_of_lt I1.big))⟩

/-- the datum d is told by v -/
inductive Dt (H : Hp) : V → PyData → Prop
  | non : Dt H .non .none
  | bl (b : Bool) : Dt H (.bl b) (.bool b)
  | int (i : Int) : Dt H (.int i) (.int i)
  | str (x : Str) : Dt H (.str x) (.str x)
  | dic {a : Addr} : H a = some (.dK []) → Dt H (.ref a) (.dict [])
  | l0 {a : Addr} : H a = some (.lst []) → a ≠ sysModules → Dt H (.ref a) (.list [])
  | l1 {a : Addr} {x : V} {d : PyData} : H a = some (.lst [x]) → a ≠ sysModules → Dt H x d → Dt H (.ref a) (.list [d])
  | l2 {a : Addr} {x y : V} {d e : PyData} : H a = some (.lst [x, y]) → a ≠ sysModules → Dt H x d → Dt H y e → Dt H (.ref a) (.list [d, e])
  | t0 {a : Addr} : H a = some (.tup []) → Dt H (.ref a) (.tuple [])
  | t1 {a : Addr} {x : V} {d : PyData} : H a = some (.tup [x]) → Dt H x d → Dt H (.ref a) (.tuple [d])
  | t2 {a : Addr} {x y : V} {d e : PyData} : H a = some (.tup [x, y]) → Dt H x d → Dt H y e → Dt H (.ref a) (.tuple [d, e])
theorem Dt.keep {H H' : Hp} {v : V} {d : PyData} (h : Dt H v d) (k : ∀ b o, H b = some o → H' b = some o) : Dt H' v d := by
  induction h with
  | non => exact .non
  | bl b => exact .bl b
  | int i => exact .int i
  | str x => exact .str x
  | dic e => exact .dic (k _ _ e)
  | l0 e n => exact .l0 (k _ _ e) n
  | l1 e n _ ih => exact .l1 (k _ _ e) n ih
  | l2 e n _ _ i1 i2 => exact .l2 (k _ _ e) n i1 i2
  | t0 e => exact .t0 (k _ _ e)
  | t1 e _ ih => exact .t1 (k _ _ e) ih
  | t2 e _ _ i1 i2 => exact .t2 (k _ _ e) i1 i2
section
variable {X : Cx} {pins : List (Addr × Obj)} {σ : L2.St} {H : Hp} {s : Shared}
theorem lst_at (I : L2.Inv X pins σ H s) {a : Addr} {xs : List V} (h : H a = some (.lst xs)) : ∃ (its : List Value) (n : Nat), Vals xs its ∧ s.heap.get? a = some { cls := .type "list", data := .seq its.toArray n } := by
  obtain ⟨_, its, n, r, e⟩ := (show ObjOk X.prog X.w H s.heap a (.lst xs) from I.hok a _ h)
  exact ⟨its, n, r, e⟩
theorem tup_at (I : L2.Inv X pins σ H s) {a : Addr} {xs : List V} (h : H a = some (.tup xs)) : ∃ (its : List Value) (o : Obj) (n : Nat), Vals xs its ∧ s.heap.get? a = some o ∧ o.cls = .type "tuple" ∧ o.data = .seq its.toArray n := by
  obtain ⟨_, its, r, o, e, c, n, d⟩ := (show ObjOk X.prog X.w H s.heap a (.tup xs) from I.hok a _ h)
  exact ⟨its, o, n, r, e, c, d⟩
theorem Dt.reads (I : L2.Inv X pins σ H s) {v : V} {d : PyData} (h : Dt H v d) : ∀ {u : Value}, RelV v u → ∃ as, Reads s.heap u d as ∧ sysModules ∉ as := by
  induction h with
  | non => intro u r; cases r; exact ⟨_, .none, by simp⟩
  | bl b => intro u r; cases r; exact ⟨_, .bool b, by simp⟩
  | int i => intro u r; obtain ⟨t, rfl⟩ := r; exact ⟨_, .int i t, by simp⟩
  | str x => intro u r; obtain ⟨t, rfl⟩ := r; exact ⟨_, .str x t, by simp⟩
  | @dic a e =>
    intro u r
    cases r
    obtain ⟨_, hs, vs, kv, o, es, ep, ho, hx, hd, hk, hp, _⟩ := (show ObjOk X.prog X.w H s.heap a (.dK []) from I.hok a _ e)
    cases kv
    have he : es.toList = [] := by
      generalize es.toList = l at hp
      cases hp
      rfl
    refine ⟨a :: [] ++ [], .dict (as := []) (bs := []) ho hx.1 hd ?_ ?_, ?_⟩
    · rw [he]; exact .nil
    · rw [he]; exact .nil
    · have : a ≠ sysModules := by simpa using hs
      simp [Ne.symm this]
  | @l0 a e n =>
    intro u r
    cases r
    obtain ⟨its, m, rv, ho⟩ := lst_at I e
    cases rv
    exact ⟨_, .list ho rfl rfl .nil, by simp [Ne.symm n]⟩
  | @l1 a x d e n hx ih =>
    intro u r
    cases r
    obtain ⟨its, m, rv, ho⟩ := lst_at I e
    cases rv with
    | cons r1 rr =>
      cases rr
      obtain ⟨as, q, nq⟩ := ih r1
      exact ⟨_, .list ho rfl rfl (.cons q .nil), by simp [Ne.symm n, nq]⟩
  | @l2 a x y d e2 e n hx hy ih1 ih2 =>
    intro u r
    cases r
    obtain ⟨its, m, rv, ho⟩ := lst_at I e
    cases rv with
    | cons r1 rr =>
      cases rr with
      | cons r2 rr =>
        cases rr
        obtain ⟨as, q, nq⟩ := ih1 r1
        obtain ⟨bs, q2, nq2⟩ := ih2 r2
        exact ⟨_, .list ho rfl rfl (.cons q (.cons q2 .nil)), by simp [Ne.symm n, nq, nq2]⟩
  | @t0 a e =>
    intro u r
    cases r
    obtain ⟨its, o, m, rv, ho, hc, hd⟩ := tup_at I e
    cases rv
    exact ⟨_, .tuple ho hc hd .nil, by simp⟩
  | @t1 a x d e hx ih =>
    intro u r
    cases r
    obtain ⟨its, o, m, rv, ho, hc, hd⟩ := tup_at I e
    cases rv with
    | cons r1 rr =>
      cases rr
      obtain ⟨as, q, nq⟩ := ih r1
      exact ⟨_, .tuple ho hc hd (.cons q .nil), by simp [nq]⟩
  | @t2 a x y d e2 e hx hy ih1 ih2 =>
    intro u r
    cases r
    obtain ⟨its, o, m, rv, ho, hc, hd⟩ := tup_at I e
    cases rv with
    | cons r1 rr =>
      cases rr with
      | cons r2 rr =>
        cases rr
        obtain ⟨as, q, nq⟩ := ih1 r1
        obtain ⟨bs, q2, nq2⟩ := ih2 r2
        exact ⟨_, .tuple ho hc hd (.cons q (.cons q2 .nil)), by simp [nq, nq2]⟩
end
/-- repr(x), x a datum of small depth and size -/
def rRepr : List V → Hp → VK → Prop := fun xs H Q => ∃ (x : V) (d : PyData), xs = [x] ∧ Dt H x d ∧ d.showable = true ∧ d.depth ≤ 100 ∧ d.shown.length ≤ 100000 ∧ Q (.str d.shown) H
theorem call_repr {X : Cx} {k : Nat} (hg : X.A.guards = some []) (hr : Room k X.A) : CallR X (.builtin "repr") rRepr := by
  intro pins s σ H xs us Q I r h
  obtain ⟨x, d, rfl, hd, hs, hdp, hz, q⟩ := h
  obtain ⟨u, rfl, ru⟩ := vals1 r
  have hz' : d.shown.length ≤ sizeLine := Nat.le_trans hz (by decide)
  obtain ⟨as, rd, ns⟩ := hd.reads I ru
  have hu : X.A.units + (d.depth + 1) < cLine := by have := hr.un; omega
  have viaRef : ∀ a, u = .ref a → wpAny (model X.prog X.w) X.A (call (.builtin "repr") [u]) (EP X pins σ Q) X.xe s := fun a e => by
    subst e
    exact repr_of_reads' rd hs (fun _ => ns) hg hu (fun _ _ e => e) (fun h' u tk k => ⟨.str d.shown, H, I.kept k, ⟨_, rfl⟩, q⟩) hz'
  cases hd with
  | non => cases ru; exact PySem.P.repr_of_none ⟨.str _, H, I.tok _, ⟨_, rfl⟩, by simpa only [PyData.shown] using q⟩
  | bl b => cases ru; exact PySem.P.repr_of_bool ⟨.str _, H, I.tok _, ⟨_, rfl⟩, by simpa only [PyData.shown] using q⟩
  | int i => obtain ⟨t, rfl⟩ := ru; exact PySem.P.repr_of_int (by simpa [PyData.showable] using hs) ⟨.str _, H, I.tok _, ⟨_, rfl⟩, by simpa only [PyData.shown] using q⟩
  | str x => obtain ⟨t, rfl⟩ := ru; exact PySem.P.repr_of_str ⟨.str _, H, I.tok _, ⟨_, rfl⟩, by simpa only [PyData.shown] using q⟩ (by simpa only [PyData.shown] using hz')
  | dic e => exact viaRef _ ru
  | l0 e n => exact viaRef _ ru
  | l1 e n h1 => exact viaRef _ ru
  | l2 e n h1 h2 => exact viaRef _ ru
  | t0 e => exact viaRef _ ru
  | t1 e h1 => exact viaRef _ ru
  | t2 e h1 h2 => exact viaRef _ ru
/-- what is told of a datum: it may be shown, so deep, so long -/
def Small (d : PyData) (n m : Nat) : Prop := d.showable = true ∧ d.depth ≤ n ∧ d.shown.length ≤ m
theorem int_len {k : Int} (hk : 0 ≤ k ∧ k < 100) : (PyData.shown (.int k)).length ≤ 3 := by
  have e : (toString k).length ≤ 2 + 1 := int_text_length_le10 (by decide) (by omega)
  simp only [PyData.shown]
  rw [PySem.ofString_length]
  exact e
theorem int_show {k : Int} (hk : 0 ≤ k ∧ k < 100) : k.natAbs.log2 < 1920 := by
  have := Nat.log2_le_self k.natAbs
  omega
theorem small_tup {d : PyData} {n m : Nat} {k : Int} (h : Small d n m) (hk : 0 ≤ k ∧ k < 100) : Small (.tuple [d, .int k]) (n + 1) (m + 10) := by
  obtain ⟨h1, h2, h3⟩ := h
  refine ⟨by simp [PyData.showable, PyData.showableAll, h1, int_show hk], by simp only [PyData.depth, PyData.depthAll]; omega, ?_⟩
  have e := tupleText_len_le (PyData.shownAll [d, .int k])
  have e2 := int_len hk
  simp only [PyData.shownAll, List.map_cons, List.map_nil, List.sum_cons, List.sum_nil, List.length_cons, List.length_nil] at e
  show (tupleText (PyData.shownAll [d, .int k])).length ≤ m + 10
  simp only [PyData.shownAll]
  omega
theorem small_lst {d : PyData} {n m : Nat} {k : Int} (h : Small d n m) (hk : 0 ≤ k ∧ k < 100) : Small (.list [.int k, d]) (n + 1) (m + 10) := by
  obtain ⟨h1, h2, h3⟩ := h
  refine ⟨by simp [PyData.showable, PyData.showableAll, h1, int_show hk], by simp only [PyData.depth, PyData.depthAll]; omega, ?_⟩
  have e := listText_len_le (PyData.shownAll [.int k, d])
  have e2 := int_len hk
  simp only [PyData.shownAll, List.map_cons, List.map_nil, List.sum_cons, List.sum_nil, List.length_cons, List.length_nil] at e
  show (listText (PyData.shownAll [.int k, d])).length ≤ m + 10
  simp only [PyData.shownAll]
  omega
theorem Small.mono {d : PyData} {n m n' m' : Nat} (h : Small d n m) (h1 : n ≤ n') (h2 : m ≤ m') : Small d n' m' := ⟨h.1, Nat.le_trans h.2.1 h1, Nat.le_trans h.2.2 h2⟩
end Ev
set_option maxHeartbeats 4000000
namespace LawK
open PySem PySem.Spec PyProof.Rows L2 Ev
def topS (i : Nat) : Stmt := PySem.Challenge.pw_everypiece_k05_refusals_of_edits.main.body.getD i (.Pass ⟨0, 0, 0, 0⟩)
abbrev sHand : Stmt := topS 43
abbrev sTake : Stmt := topS 44
/-! ### the hand of a law: what is left of the script, and a seed -/
def HandL (H : Hp) (p l : Addr) : Prop := ∃ (cells : List Int) (i r s n : Int), H p = some (.lst [.ref l, .int i, .int r, .int s, .int n]) ∧ H l = some (.lst (cells.map V.int)) ∧ 0 ≤ i ∧ 0 ≤ s ∧ s < 2147483647
/-- nothing but the hand at p has changed -/
def But (p : Addr) (H H' : Hp) : Prop := ∀ b o, b ≠ p → H b = some o → H' b = some o
theorem But.refl (p : Addr) (H : Hp) : But p H H := fun _ _ _ h => h
theorem But.trans {p : Addr} {H H1 H2 : Hp} (a : But p H H1) (b : But p H1 H2) : But p H H2 := fun c o n h => b c o n (a c o n h)
theorem But.new {p q : Addr} {H H1 : Hp} {o : HO} (a : But p H H1) (h : H1 q = none) : But p H (upd H1 q o) := fun c u n e => by
  have z := a c u n e
  rw [upd_ne (ne_of_none z h)]
  exact z
theorem But.same {p : Addr} {H H' : Hp} (a : Same H H') : But p H H' := fun c o _ e => a c o e
def spTake : Sp := fun vs H Q _ => ∃ (p : Addr) (m : Int), vs = [.ref p, .int m] ∧ 0 < m ∧ m < 1000000 ∧ ∃ l, HandL H p l ∧ ∀ v H', 0 ≤ v → v < m → HandL H' p l → But p H H' → Q (.int v) H'
def spHand (K : PySem.W.Frag) : Sp := fun vs H Q _ => ∃ (a : Addr) (ns : List Int), vs = [.ref a] ∧ SqL K H a (ns.map V.int) ∧ ∀ p l H', H p = none → H l = none → HandL H' p l → Same H H' → Q (.ref p) H'
theorem scHand : FnScope ["script"] ["script"] (defScope sHand) := ⟨rfl, rfl, rfl, by decide +kernel, rfl, by decide +kernel, by decide +kernel⟩
theorem scTake : FnScope ["hand", "many", "cell", "found", "number"] ["hand", "many"] (defScope sTake) := ⟨rfl, rfl, rfl, by decide +kernel, rfl, by decide +kernel, by decide +kernel⟩
structure Glob (mg : Str → Option Value) : Prop where
  reversed : mg "reversed" = none
  repr : mg "repr" = none
  len : mg "len" = none
  int : mg "int" = none
  list : mg "list" = none
  range : mg "range" = none
  isinstance : mg "isinstance" = none
  bool : mg "bool" = none
  str : mg "str" = none
  tuple : mg "tuple" = none
  sum : mg "sum" = none
  ord : mg "ord" = none
  zip : mg "zip" = none
  max : mg "max" = none
  min : mg "min" = none
  all : mg "all" = none
  enumerate : mg "enumerate" = none
theorem sq_of {K : PySem.W.Frag} {H : Hp} {a : Addr} {xs : List V} (h : H a = some (.lst xs)) : SqL K H a xs := .inl (.inl h)
theorem atI_in {α : Type} {xs : List α} {i : Int} (h0 : 0 ≤ i) (h1 : i < xs.length) : ∃ v, atI xs i = some v ∧ v ∈ xs := by
  obtain ⟨j, rfl⟩ := Int.eq_ofNat_of_zero_le h0
  have hj : j < xs.length := by omega
  exact ⟨xs[j], atI_nat (by rw [List.getElem?_eq_getElem hj]), List.getElem_mem hj⟩
theorem atI_int {xs : List Int} {i : Int} (h0 : 0 ≤ i) (h1 : i < xs.length) : ∃ c : Int, atI (xs.map V.int) i = some (.int c) := by
  obtain ⟨v, e, hm⟩ := atI_in (xs := xs.map V.int) h0 (by rw [List.length_map]; exact h1)
  obtain ⟨c, _, rfl⟩ := List.mem_map.mp hm
  exact ⟨c, e⟩
section
variable {P : Program} {w : World} {K : PySem.W.Frag} {mg : Str → Option Value} {base : Heap}
theorem ok_hand {f : Addr} {fd : FuncData} (F : Fun K "_law_hand" "_law_hand" sHand f fd) (T : Glob mg) : FnOk P w K mg base CX0 1 f fd ["script"] (spHand K) := by
  refine F.ok scHand (fun vs H Q E h => ?_) (fun cdv A outer s H vs Q E hr h => ?_)
  · obtain ⟨a, ns, rfl, _⟩ := h
    rfl
  · obtain ⟨a, ns, rfl, hS, q⟩ := h
    refine ⟨_, pss_one (ps_ret (pe_lst (pa_cons (pe_callTy call_list_of (by rfl) T.list (by decide +kernel) (pa_cons (pv 0) pa_nil)) (pa_cons pe_int (pa_cons pe_int (pa_cons pe_int (pa_cons pe_int pa_nil))))))), ?_⟩
    refine ⟨.ref a, rfl, a, _, rfl, .inl hS, fun l hl => ⟨by show 5 ≤ sizeLine; decide, fun p hp => ?_⟩⟩
    have nlp : l ≠ p := fun e => by
      rw [e, upd_same] at hp
      cases hp
    have np : H p = none := by
      rw [upd_ne nlp.symm] at hp
      exact hp
    refine q p l _ np hl ⟨ns, 0, 0, 1, 0, upd_same, by rw [upd_ne nlp, upd_same], by decide, by decide, by decide⟩ fun b o e => ?_
    rw [upd_ne (ne_of_none e np), upd_ne (ne_of_none e hl)]
    exact e
theorem PSs.imp {X : Cx} {st : List Stmt} {t u : TS} (h : PSs X st u) (k : ∀ D σ H, t D σ H → u D σ H) : PSs X st t := ⟨fun pins s σ H D I q => h.run pins s σ H D I (k D σ H q)⟩
theorem PE.imp {X : Cx} {e : Expr} {t u : TE} (h : PE X e u) (k : ∀ σ H Q, t σ H Q → u σ H Q) : PE X e t := ⟨fun pins s σ H Q I q => h.run pins s σ H Q I (k σ H Q q)⟩
theorem PS.imp {X : Cx} {st : Stmt} {t u : TS} (h : PS X st u) (k : ∀ D σ H, t D σ H → u D σ H) : PS X st t := ⟨fun pins s σ H D I q => h.run pins s σ H D I (k D σ H q)⟩
def tTail : TS := fun D σ H => ∃ (p : Addr) (m : Int) (l : Addr) (cells : List Int) (i r s n : Int) (c f x : Option V), σ = [some (.ref p), some (.int m), c, f, x] ∧ 0 < m ∧ m < 1000000 ∧ H p = some (.lst [.ref l, .int i, .int r, .int s, .int n]) ∧ H l = some (.lst (cells.map V.int)) ∧ l ≠ p ∧ 0 ≤ i ∧ 0 ≤ s ∧ s < 2147483647 ∧
  ∀ v H', 0 ≤ v → v < m → HandL H' p l → But p H H' → D.rt (.int v) H'
theorem HandL.mk {H : Hp} {p l : Addr} {cells : List Int} {i r s n : Int} (hp : H p = some (.lst [.ref l, .int i, .int r, .int s, .int n])) (hl : H l = some (.lst (cells.map V.int))) (h1 : 0 ≤ i) (h2 : 0 ≤ s) (h3 : s < 2147483647) : HandL H p l := ⟨cells, i, r, s, n, hp, hl, h1, h2, h3⟩
theorem but_upd {p : Addr} {H : Hp} {o : HO} : But p H (upd H p o) := fun b u n e => by
  rw [upd_ne n]
  exact e
theorem mod_pos {i j : Int} (h : 0 < j) : (fun (_ j : Int) => 0 < j) i j := h
theorem boot_ty_int : bootBuiltins "int" = some (.type "int") := by decide +kernel
theorem ok_take {f : Addr} {fd : FuncData} (F : Fun K "_law_take" "_law_take" sTake f fd) (T : Glob mg) : FnOk P w K mg base CX0 1 f fd ["hand", "many"] spTake := by
  refine F.ok scTake (fun vs H Q E h => ?_) (fun cdv A outer s H vs Q E hr h => ?_)
  · obtain ⟨p, m, rfl, _⟩ := h
    rfl
  · obtain ⟨p, m, rfl, m0, m1, l, ⟨cells, i, r, s0, n, hp, hl, hi, hs0, hs1⟩, q⟩ := h
    have npl : l ≠ p := fun e => by
      rw [e, hp] at hl
      have z := congrArg List.head? (HO.lst.inj (Option.some.inj hl))
      cases cells with
      | nil => cases z
      | cons c r => cases z
    refine ⟨_, pss_cons (ps_asg (pe_op op_add (pe_ix ix_list (pv 0) pe_int (fun _ _ => rfl)) pe_int) (pg_sub (pv 0) pe_int set_list))
      (pss_cons (ps_if (PW.pt (pw_and (pt_cmpR op_eq (pe_ix ix_list (pv 0) pe_int (fun _ _ => rfl)) pe_int (nomark _)) (pw_and1 (pt_cmpR op_lt (pe_ix ix_list (pv 0) pe_int (fun _ _ => rfl)) (pe_callB call_len_seq (by rfl) T.len PySem.boot_len (pa_cons (pe_ix ix_list (pv 0) pe_int (fun _ _ => rfl)) pa_nil)) (nomark _)))))
        (pss_cons (ps_set (i := 2) scTake.nd rfl (.inl rfl) (pe_callTy call_int1 (by rfl) T.int boot_ty_int (pa_cons (pe_ix ix_list (pe_ix ix_list (pv 0) pe_int (fun _ _ => rfl)) (pe_ix ix_list (pv 0) pe_int (fun _ _ => rfl)) (fun _ _ => rfl)) pa_nil)))
        (pss_cons (ps_asg (pe_op op_add (pe_ix ix_list (pv 0) pe_int (fun _ _ => rfl)) pe_int) (pg_sub (pv 0) pe_int set_list))
        (pss_one (ps_if (pt_cmpR op_ge (pv 2) (pe_op op_pow pe_int pe_int) (nomark _))
          (pss_one (ps_asg (pv 2) (pg_sub (pv 0) pe_int set_list)))
          (pss_one (ps_asg (pe_op op_mod (pe_callTy call_int1 (by rfl) T.int boot_ty_int (pa_cons (pe_op op_add (pe_op op_add (pe_op op_mul (pe_ix ix_list (pv 0) pe_int (fun _ _ => rfl)) pe_int) (pe_op op_mod (pe_callTy call_int1 (by rfl) T.int boot_ty_int (pa_cons (pv 2) pa_nil)) pe_int)) pe_int) pa_nil)) pe_int) (pg_sub (pv 0) pe_int set_list)))))))
        pss_nil)
      (PSs.imp (t := tTail) (pss_cons (ps_if (pt_cmpR op_gt (pe_ix ix_list (pv 0) pe_int (fun _ _ => rfl)) pe_int (nomark _))
        (pss_cons (ps_set (i := 3) scTake.nd rfl (.inl rfl) (pe_op op_mod (pe_callTy call_int1 (by rfl) T.int boot_ty_int (pa_cons (pe_ix ix_list (pv 0) pe_int (fun _ _ => rfl)) pa_nil)) (pv 1)))
        (pss_cons (ps_asg (pe_op op_fdiv (pe_callTy call_int1 (by rfl) T.int boot_ty_int (pa_cons (pe_ix ix_list (pv 0) pe_int (fun _ _ => rfl)) pa_nil)) (pv 1)) (pg_sub (pv 0) pe_int set_list))
        (pss_one (ps_ret (pv 3)))))
        pss_nil)
      (pss_cons (ps_asg (pe_op op_mod (pe_callTy call_int1 (by rfl) T.int boot_ty_int (pa_cons (pe_op op_add (pe_op op_mul (pe_ix ix_list (pv 0) pe_int (fun _ _ => rfl)) pe_int) (pe_op op_mul pe_int (pe_ix ix_list (pv 0) pe_int (fun _ _ => rfl)))) pa_nil)) pe_int) (pg_sub (pv 0) pe_int set_list))
      (pss_cons (ps_set (i := 4) scTake.nd rfl (.inl rfl) (pe_op op_mod (pe_callTy call_int1 (by rfl) T.int boot_ty_int (pa_cons (pe_op op_mul (pe_ix ix_list (pv 0) pe_int (fun _ _ => rfl)) (pe_op op_add (pe_op op_fdiv (pe_ix ix_list (pv 0) pe_int (fun _ _ => rfl)) pe_int) pe_int)) pa_nil)) pe_int))
      (pss_cons (ps_set (i := 4) scTake.nd rfl (.inl rfl) (pe_op op_mod (pe_callTy call_int1 (by rfl) T.int boot_ty_int (pa_cons (pe_op op_mul (pv 4) (pe_op op_add (pe_op op_fdiv (pv 4) pe_int) pe_int)) pa_nil)) pe_int))
      (pss_one (ps_ret (pe_op op_mod (pe_callTy call_int1 (by rfl) T.int boot_ty_int (pa_cons (pe_op op_fdiv (pv 4) pe_int) pa_nil)) (pv 1)))))))) ?tail)), ?_⟩
    case tail =>
      rintro D σ H ⟨p, m, l, cells, i, r, s, n, c, f, x, rfl, m0, m1, hp, hl, npl, hi, hs0, hs1, q⟩
      refine ⟨.ref p, rfl, p, _, 2, _, rfl, rfl, sq_of hp, rfl, _, _, rfl, rfl, _, rfl, ite2 (fun e => ?_) (fun e => ?_)⟩
      · refine ⟨.ref p, rfl, p, _, 2, _, rfl, rfl, sq_of hp, rfl, .inl ⟨r, rfl, .int m, rfl, _, _, rfl, rfl, m0, ?_⟩⟩
        refine ⟨.ref p, rfl, p, _, 2, _, rfl, rfl, sq_of hp, rfl, .inl ⟨r, rfl, .int m, rfl, _, _, rfl, rfl, ⟨m0, by omega⟩, ?_⟩⟩
        refine ⟨.ref p, rfl, p, _, 2, 2, rfl, rfl, hp, rfl, ?_⟩
        refine ⟨_, rfl, ?_⟩
        refine q _ _ (Int.emod_nonneg _ (by omega)) (Int.emod_lt_of_pos _ m0) (.mk upd_same (by rw [upd_ne npl]; exact hl) hi hs0 hs1) but_upd
      · refine ⟨.ref p, rfl, p, _, 3, _, rfl, rfl, sq_of hp, rfl, s, 69621, rfl, rfl, .inl ⟨by omega, by omega⟩, .ref p, rfl, p, _, 4, _, rfl, rfl, sq_of hp, rfl, 7919, n, rfl, rfl, .inl ⟨by decide, by decide⟩, _, _, rfl, rfl, .inl ⟨_, rfl, _, _, rfl, rfl, (by show (0 : Int) < 2147483647; decide), .ref p, rfl, p, _, 3, 3, rfl, rfl, hp, rfl, ?_⟩⟩
        dsimp only
        have a0 : 0 ≤ (s * 69621 + 7919 * n) % 2147483647 := Int.emod_nonneg _ (by decide)
        have a1 : (s * 69621 + 7919 * n) % 2147483647 < 2147483647 := Int.emod_lt_of_pos _ (by decide)
        generalize (s * 69621 + 7919 * n) % 2147483647 = s2 at a0 a1 ⊢
        have hp2 : upd H p (.lst (List.set [.ref l, .int i, .int r, .int s, .int n] 3 (.int s2))) p = some (.lst [.ref l, .int i, .int r, .int s2, .int n]) := upd_same
        have hl2 : upd H p (.lst (List.set [.ref l, .int i, .int r, .int s, .int n] 3 (.int s2))) l = some (.lst (cells.map V.int)) := by rw [upd_ne npl]; exact hl
        have b2 : But p H (upd H p (.lst (List.set [.ref l, .int i, .int r, .int s, .int n] 3 (.int s2)))) := but_upd
        generalize upd H p (.lst (List.set [.ref l, .int i, .int r, .int s, .int n] 3 (.int s2))) = H2 at hp2 hl2 b2 ⊢
        refine ⟨.ref p, rfl, p, _, 3, _, rfl, rfl, sq_of hp2, rfl, .ref p, rfl, p, _, 3, _, rfl, rfl, sq_of hp2, rfl, _, _, rfl, rfl, ⟨by decide, by decide⟩, _, _, rfl, rfl, _, _, rfl, rfl, .inl ⟨by omega, by omega⟩, .inl ⟨_, rfl, _, _, rfl, rfl, (by show (0 : Int) < 2147483647; decide), ?_⟩⟩
        dsimp only
        have a2 : 0 ≤ (s2 * (s2 / 1009 + 69621)) % 2147483647 := Int.emod_nonneg _ (by decide)
        have a3 : (s2 * (s2 / 1009 + 69621)) % 2147483647 < 2147483647 := Int.emod_lt_of_pos _ (by decide)
        generalize (s2 * (s2 / 1009 + 69621)) % 2147483647 = y at a2 a3 ⊢
        refine ⟨_, rfl, _, rfl, _, _, rfl, rfl, ⟨by decide, by decide⟩, _, _, rfl, rfl, _, _, rfl, rfl, .inl ⟨by omega, by omega⟩, .inl ⟨_, rfl, _, _, rfl, rfl, (by show (0 : Int) < 2147483399; decide), ?_⟩⟩
        refine ⟨_, rfl, _, _, rfl, rfl, ⟨by decide, by decide⟩, .inl ⟨_, rfl, .int m, rfl, _, _, rfl, rfl, m0, ?_⟩⟩
        exact q _ _ (Int.emod_nonneg _ (by omega)) (Int.emod_lt_of_pos _ m0) (.mk hp2 hl2 hi a0 a1) b2
    -- hand[4] = hand[4] + 1
    refine ⟨.ref p, rfl, p, _, 4, _, rfl, rfl, sq_of hp, rfl, _, _, rfl, rfl, .ref p, rfl, p, _, 4, 4, rfl, rfl, hp, rfl, ?_⟩
    dsimp only
    have hp1 : upd H p (.lst (List.set [.ref l, .int i, .int r, .int s0, .int n] 4 (.int (n + 1)))) p = some (.lst [.ref l, .int i, .int r, .int s0, .int (n + 1)]) := upd_same
    have hl1 : upd H p (.lst (List.set [.ref l, .int i, .int r, .int s0, .int n] 4 (.int (n + 1)))) l = some (.lst (cells.map V.int)) := by rw [upd_ne npl]; exact hl
    have b1 : But p H (upd H p (.lst (List.set [.ref l, .int i, .int r, .int s0, .int n] 4 (.int (n + 1))))) := but_upd
    generalize upd H p (.lst (List.set [.ref l, .int i, .int r, .int s0, .int n] 4 (.int (n + 1)))) = H1 at hp1 hl1 b1 ⊢
    have fin : ∀ {H2 : Hp} {i r s n : Int} {c : Option V}, H2 p = some (.lst [.ref l, .int i, .int r, .int s, .int n]) → H2 l = some (.lst (cells.map V.int)) → 0 ≤ i → 0 ≤ s → s < 2147483647 → But p H H2 →
        tTail { nx := fun _ H' => Q .non H', rt := Q } [some (.ref p), some (.int m), c, none, none] H2 := fun {H2 i r s n c} h1 h2 h3 h4 h5 h6 =>
      ⟨p, m, l, cells, i, r, s, n, c, none, none, rfl, m0, m1, h1, h2, npl, h3, h4, h5, fun v H' g1 g2 g3 g4 => q v H' g1 g2 g3 (h6.trans g4)⟩
    refine ⟨.ref p, rfl, p, _, 2, _, rfl, rfl, sq_of hp1, rfl, rfl, _, rfl, ite2 (fun e => ?_) (fun e => ?_)⟩
    · refine ⟨.ref p, rfl, p, _, 1, _, rfl, rfl, sq_of hp1, rfl, .ref p, rfl, p, _, 0, _, rfl, rfl, sq_of hp1, rfl, l, _, rfl, .inl (sq_of hl1), _, _, rfl, rfl, _, rfl, ite2 (fun e2 => ?_) (fun e2 => ?_)⟩
      · have hlt : i < (cells.length : Int) := by
          have z := of_decide_eq_true e2
          rw [List.length_map] at z
          exact z
        obtain ⟨c, hc⟩ := atI_int hi hlt
        refine ⟨.ref p, rfl, p, _, 0, _, rfl, rfl, sq_of hp1, rfl, .ref p, rfl, p, _, 1, _, rfl, rfl, sq_of hp1, rfl, l, _, i, _, rfl, rfl, sq_of hl1, hc, .inl ⟨c, rfl, ?_⟩⟩
        refine ⟨.ref p, rfl, p, _, 1, _, rfl, rfl, sq_of hp1, rfl, _, _, rfl, rfl, .ref p, rfl, p, _, 1, 1, rfl, rfl, hp1, rfl, ?_⟩
        dsimp only
        have hp2 : upd H1 p (.lst (List.set [.ref l, .int i, .int r, .int s0, .int (n + 1)] 1 (.int (i + 1)))) p = some (.lst [.ref l, .int (i + 1), .int r, .int s0, .int (n + 1)]) := upd_same
        have hl2 : upd H1 p (.lst (List.set [.ref l, .int i, .int r, .int s0, .int (n + 1)] 1 (.int (i + 1)))) l = some (.lst (cells.map V.int)) := by rw [upd_ne npl]; exact hl1
        have b2 : But p H (upd H1 p (.lst (List.set [.ref l, .int i, .int r, .int s0, .int (n + 1)] 1 (.int (i + 1))))) := b1.trans but_upd
        generalize upd H1 p (.lst (List.set [.ref l, .int i, .int r, .int s0, .int (n + 1)] 1 (.int (i + 1)))) = H2 at hp2 hl2 b2 ⊢
        refine ⟨.int c, rfl, _, _, rfl, rfl, ⟨by decide, by decide, by decide⟩, _, _, rfl, rfl, _, rfl, ite2 (fun _ => ?_) (fun _ => ?_)⟩
        · refine ⟨.int c, rfl, .ref p, rfl, p, _, 2, 2, rfl, rfl, hp2, rfl, ?_⟩
          exact fin upd_same (by rw [upd_ne npl]; exact hl2) (by omega) hs0 hs1 (b2.trans but_upd)
        · refine ⟨.ref p, rfl, p, _, 3, _, rfl, rfl, sq_of hp2, rfl, s0, 48271, rfl, rfl, .inl ⟨by omega, by omega⟩, .int c, rfl, .inl ⟨c, rfl, _, _, rfl, rfl, (by show (0 : Int) < 2147483647; decide), _, _, rfl, rfl, _, _, rfl, rfl, .inl ⟨_, rfl, _, _, rfl, rfl, (by show (0 : Int) < 2147483647; decide), .ref p, rfl, p, _, 3, 3, rfl, rfl, hp2, rfl, ?_⟩⟩⟩
          exact fin upd_same (by rw [upd_ne npl]; exact hl2) (by omega) (Int.emod_nonneg _ (by decide)) (Int.emod_lt_of_pos _ (by decide)) (b2.trans but_upd)
      · exact fin hp1 hl1 hi hs0 hs1 b1
    · exact fin hp1 hl1 hi hs0 hs1 b1
end
theorem Same.new {H : Hp} {q : Addr} {o : HO} (h : H q = none) : Same H (upd H q o) := fun b u e => by
  rw [upd_ne (ne_of_none e h)]
  exact e
theorem sameAt {H H' : Hp} {q : Addr} {o : HO} (k : Same H H') (h : H q = none) : Same H (upd H' q o) := fun b u e => by
  rw [upd_ne (ne_of_none e h)]
  exact k b u e
end LawK
set_option maxHeartbeats 4000000
/-! Texts: how long, so many times, which signs; kinds of values. -/
namespace Ev
open PySem PySem.Spec PyProof.Rows L2
def rLenZ : List V → Hp → VK → Prop := fun xs H Q => ∃ z : Str, xs = [.str z] ∧ z.length ≤ sizeLine ∧ Q (.int z.length) H
theorem call_lenZ {X : Cx} : CallR X (.builtin "len") rLenZ := fun pins s σ H xs us Q I r h =>
  call_len pins s σ H xs us Q I r (let ⟨z, e, hz, q⟩ := h; ⟨.str z, z.length, e, ⟨hz, rfl⟩, q⟩)
def rMulS : R2 := fun x y H Q => ∃ (z : Str) (n : Int), x = .str z ∧ y = .int n ∧ 0 ≤ n ∧ n ≤ 3000 ∧ z.length ≤ 1000 ∧ Q (.str (Txt.mul z n)) H
theorem mul_ok {z : Str} {n : Int} (h0 : 0 ≤ n) (h1 : n ≤ 3000) (h2 : z.length ≤ 1000) : MulOk z n := by
  refine ⟨by simp; omega, fun a _ => ?_, fun _ _ => ?_⟩
  · have e : (1000 : Int) ≤ (2 ^ 63 - 1) / n := by
      refine Int.le_ediv_of_mul_le (by omega) ?_
      have : (2 : Int) ^ 63 - 1 = 9223372036854775807 := by decide
      omega
    omega
  · have e : z.length * n.toNat ≤ 1000 * 3000 := Nat.mul_le_mul h2 (by omega)
    have h3 : sizeLine = 16777216 := sizeLine_eq
    show decide (z.length * n.toNat > sizeLine) = false
    exact decide_eq_false (by omega)
theorem op_mulS {X : Cx} : OpR X (binaryOp .Mult) rMulS := by
  intro pins s σ H x y v u Q I rx ry h
  obtain ⟨z, n, rfl, rfl, h0, h1, h2, q⟩ := h
  obtain ⟨t, rfl⟩ := rx
  obtain ⟨t', rfl⟩ := ry
  exact SB.mul (mul_ok h0 h1 h2) fun t' k => ⟨.str _, H, I.tok _, ⟨_, rfl⟩, q⟩
/-- every sign of the text is one from the blank to the tilde -/
def sgC (c : Nat) : Bool := decide (32 ≤ c) && decide (c ≤ 126)
def sgB (z : Str) : Bool := z.cps.toList.all sgC
theorem prn128 : ∀ c : Fin 128, Unicode.isPrintable c.val = sgC c.val := by decide +kernel
theorem sgC_of (c : Nat) : (decide (c < 128) && Unicode.isPrintable c) = sgC c := by
  by_cases h : c < 128
  · rw [decide_eq_true h, Bool.true_and]
    exact prn128 ⟨c, h⟩
  · rw [decide_eq_false h, Bool.false_and]
    unfold sgC
    rw [decide_eq_false (show ¬ c ≤ 126 by omega), Bool.and_false]
theorem sgB_of (z : Str) : (Txt.isascii z && Txt.isprintable z) = sgB z := by
  unfold Txt.isascii Txt.isprintable sgB
  rw [← Array.all_toList, ← Array.all_toList]
  generalize z.cps.toList = l
  induction l with
  | nil => rfl
  | cons c l ih =>
    rw [List.all_cons, List.all_cons, List.all_cons, ← sgC_of, ← ih]
    cases decide (c < 128) <;> cases Unicode.isPrintable c <;> cases l.all (fun c => decide (c < 128)) <;> rfl
/-! ### kinds -/
inductive Kn | non | bl | int | str | lst | tup | dic
  deriving DecidableEq
def Kn.name : Kn → String
  | .non => "NoneType"
  | .bl => "bool"
  | .int => "int"
  | .str => "str"
  | .lst => "list"
  | .tup => "tuple"
  | .dic => "dict"
def kitB : Kn → Kn → Bool
  | .bl, .int => true
  | a, b => decide (a = b)
inductive Kd (H : Hp) : V → Kn → Prop
  | non : Kd H .non .non
  | bl (b : Bool) : Kd H (.bl b) .bl
  | int (i : Int) : Kd H (.int i) .int
  | str (z : Str) : Kd H (.str z) .str
  | lst {a : Addr} {xs : List V} (e : H a = some (.lst xs)) : Kd H (.ref a) .lst
  | tup {a : Addr} {xs : List V} (e : H a = some (.tup xs)) : Kd H (.ref a) .tup
  | dic {a : Addr} {kvs : List (Key × V)} (e : H a = some (.dK kvs)) : Kd H (.ref a) .dic
theorem Kd.tyx {K : PySem.W.Frag} {H : Hp} {x : V} {k : Kn} (h : Kd H x k) : TyX K H x (.type k.name) := by
  cases h with
  | non => exact .base .non
  | bl b => exact .base (.bl b)
  | int i => exact .base (.int i)
  | str z => exact .base (.str z)
  | lst e => exact .base (.lst e)
  | tup e => exact .base (.tup e)
  | dic e => exact .base (.dK e)
theorem Kd.same {H H' : Hp} (s : ∀ b o, H b = some o → H' b = some o) {x : V} {k : Kn} (h : Kd H x k) : Kd H' x k := by
  cases h with
  | non => exact .non
  | bl b => exact .bl b
  | int i => exact .int i
  | str z => exact .str z
  | lst e => exact .lst (s _ _ e)
  | tup e => exact .tup (s _ _ e)
  | dic e => exact .dic (s _ _ e)
theorem kit_kn {K : PySem.W.Frag} : ∀ a b : Kn, PySem.W.kitOne K (.type a.name) (.type b.name) = some (kitB a b) := by
  intro a b
  cases a <;> cases b <;> exact kit_ty (by decide +kernel)
theorem rd_isi {K : PySem.W.Frag} {H : Hp} {x : V} {k : Kn} {Q : VK} (T : Kn) (h : Kd H x k) (q : Q (.bl (kitB k T)) H) : rIsi K [x, .ty T.name] H Q :=
  ⟨x, .ty T.name, .type k.name, .type T.name, kitB k T, rfl, .ty _, h.tyx, kit_kn k T, q⟩
/-- for c in s -/
theorem for_strZ {z : Str} {g : TG} {tb : TS} {D : Ends} {σ : L2.St} {H : Hp} (Pv : Nat → L2.St → Hp → Prop) (h0 : Pv 0 σ H)
    (hs : ∀ i c σ H, z.cps[i]? = some c → Pv i σ H → g (.str ⟨#[c]⟩) σ H fun σ2 H2 => tb { D with nx := Pv (i + 1), ct := Pv (i + 1), bk := D.nx } σ2 H2) (hd : ∀ σ H, Pv z.cps.size σ H → D.nx σ H) :
    ∃ W : Nat → Nat → L2.St → Hp → Prop, (∃ m, W 0 m σ H) ∧ ∀ i m σ H, W i m σ H →
      ((Its z).stop i H ∧ D.nx σ H) ∨ ((Its z).go i H ∧ ∃ N : L2.St → Hp → Prop, (∀ σ' H', N σ' H' → ∃ m', m' < m ∧ W (i + 1) m' σ' H') ∧ ∀ x H', (Its z).yld i H x H' → g x σ H' fun σ2 H2 => tb { D with nx := N, ct := N, bk := D.nx } σ2 H2) := by
  refine ⟨fun i m σ H => m = z.cps.size - i ∧ i ≤ z.cps.size ∧ Pv i σ H, ⟨z.cps.size, by simp, Nat.zero_le _, h0⟩, ?_⟩
  rintro i m σ H ⟨rfl, hi, p⟩
  by_cases hlt : i < z.cps.size
  · refine .inr ⟨hlt, Pv (i + 1), fun σ' H' p' => ⟨z.cps.size - (i + 1), by omega, rfl, hlt, p'⟩, fun x H' y => ?_⟩
    obtain ⟨e, c, hc, ex⟩ := y
    subst e ex
    exact hs i c σ _ hc p
  · have e : i = z.cps.size := by omega
    subst e
    exact .inl ⟨Nat.le_refl _, hd σ H p⟩
def sgV : V → Bool
  | .str z => sgB z
  | _ => false
def wordV : V → Bool
  | .str z => sgB z && decide ((0 : Int) < (z.length : Int))
  | _ => false
/-- no text is too long -/
def Vs (x : V) : Prop := ∀ z, x = .str z → z.length ≤ 5000
theorem len5 {n : Nat} (h : n ≤ 5000) : n ≤ sizeLine := by
  have h3 : sizeLine = 16777216 := sizeLine_eq
  omega
def spSg : Sp := fun vs H Q _ => ∃ x k, vs = [x] ∧ Kd H x k ∧ Vs x ∧ Q (.bl (sgV x)) H
def spWd : Sp := fun vs H Q _ => ∃ x k, vs = [x] ∧ Kd H x k ∧ Vs x ∧ Q (.bl (wordV x)) H
def spInt : Sp := fun vs H Q _ => ∃ x k, vs = [x] ∧ Kd H x k ∧ Q (.bl (decide (k = .int))) H
def numV : V → Bool
  | .int i => decide (0 ≤ i)
  | _ => false
def spNum : Sp := fun vs H Q _ => ∃ x k, vs = [x] ∧ Kd H x k ∧ Q (.bl (numV x)) H
def inV2 (a b : Int) : V → Bool
  | .int i => decide (a ≤ i) && decide (i ≤ b)
  | _ => false
def spIn : Sp := fun vs H Q _ => ∃ x k a b, vs = [x, .int a, .int b] ∧ Kd H x k ∧ Q (.bl (inV2 a b x)) H
theorem sgB_at {z : Str} {i c : Nat} (h : z.cps[i]? = some c) (n : sgC c = false) : sgB z = false := by
  unfold sgB
  rw [List.all_eq_false]
  refine ⟨c, ?_, by simp [n]⟩
  rw [← Array.getElem?_toList] at h
  exact List.mem_of_getElem? h
theorem sgB_all {z : Str} (h : ∀ i c : Nat, z.cps[i]? = some c → sgC c = true) : sgB z = true := by
  unfold sgB
  rw [List.all_eq_true]
  intro c hc
  obtain ⟨i, hi, e⟩ := List.mem_iff_getElem.mp hc
  refine h i c ?_
  rw [← Array.getElem?_toList, List.getElem?_eq_getElem hi, e]
end Ev
set_option maxHeartbeats 4000000
/-! Things that are judged: what they are, as far as it is asked. -/
namespace Ev
open PySem PySem.Spec PyProof.Rows L2
def dsm0 : PyData → Bool
  | .str z => decide (z.length ≤ 100) && PyData.strOk z
  | _ => true
/-- no text in it is long -/
def dsm : PyData → Bool
  | .list ds => ds.all dsm0
  | .tuple ds => ds.all dsm0
  | d => dsm0 d
theorem Dt.kd {H : Hp} {v : V} {d : PyData} (h : Dt H v d) : ∃ k, Kd H v k := by
  cases h with
  | non => exact ⟨_, .non⟩
  | bl b => exact ⟨_, .bl b⟩
  | int i => exact ⟨_, .int i⟩
  | str x => exact ⟨_, .str x⟩
  | dic e => exact ⟨_, .dic e⟩
  | l0 e n => exact ⟨_, .lst e⟩
  | l1 e n _ => exact ⟨_, .lst e⟩
  | l2 e n _ _ => exact ⟨_, .lst e⟩
  | t0 e => exact ⟨_, .tup e⟩
  | t1 e _ => exact ⟨_, .tup e⟩
  | t2 e _ _ => exact ⟨_, .tup e⟩
theorem Dt.vs {H : Hp} {v : V} {d : PyData} (h : Dt H v d) (s : dsm0 d = true) : Vs v := by
  cases h with
  | str x =>
    intro z e
    cases e
    have q : x.length ≤ 100 := of_decide_eq_true (Bool.and_eq_true_iff.mp s).1
    exact Nat.le_trans q (by decide)
  | non => exact fun z e => by cases e
  | bl b => exact fun z e => by cases e
  | int i => exact fun z e => by cases e
  | dic e => exact fun z e => by cases e
  | l0 e n => exact fun z e => by cases e
  | l1 e n _ => exact fun z e => by cases e
  | l2 e n _ _ => exact fun z e => by cases e
  | t0 e => exact fun z e => by cases e
  | t1 e _ => exact fun z e => by cases e
  | t2 e _ _ => exact fun z e => by cases e
/-- a thing; some xs: a tuple of xs -/
inductive Tg (H : Hp) : V → Option (List V) → Prop
  | no {x : V} {k : Kn} (h : Kd H x k) (n : k ≠ .tup) (s : Vs x) : Tg H x none
  | tup {a : Addr} {xs : List V} (e : H a = some (.tup xs)) (n : xs.length ≤ 30) (h : ∀ y ∈ xs, (∃ k, Kd H y k) ∧ Vs y) : Tg H (.ref a) (some xs)
theorem Tg.kd {H : Hp} {x : V} {o : Option (List V)} (h : Tg H x o) : ∃ k, Kd H x k ∧ (k = .tup ↔ o.isSome = true) := by
  cases h with
  | no h n s => exact ⟨_, h, fun e => absurd e n, fun e => by cases e⟩
  | tup e n h => exact ⟨_, .tup e, fun _ => rfl, fun _ => rfl⟩
theorem Tg.vs {H : Hp} {x : V} {o : Option (List V)} (h : Tg H x o) : Vs x := by
  cases h with
  | no h n s => exact s
  | tup e n h => exact fun z e => by cases e
theorem Tg.same {H H' : Hp} (s : ∀ b o, H b = some o → H' b = some o) {x : V} {o : Option (List V)} (h : Tg H x o) : Tg H' x o := by
  cases h with
  | no h n z => exact .no (h.same s) n z
  | tup e n h => exact .tup (s _ _ e) n fun y hy => ⟨let ⟨k, q⟩ := (h y hy).1; ⟨k, q.same s⟩, (h y hy).2⟩
theorem Dt.tg {H : Hp} {v : V} {d : PyData} (h : Dt H v d) (s : dsm d = true) : ∃ o, Tg H v o := by
  cases h with
  | non => exact ⟨_, .no .non (by decide) fun z e => by cases e⟩
  | bl b => exact ⟨_, .no (.bl b) (by decide) fun z e => by cases e⟩
  | int i => exact ⟨_, .no (.int i) (by decide) fun z e => by cases e⟩
  | str x => exact ⟨_, .no (.str x) (by decide) (Dt.vs (.str (H := H) x) s)⟩
  | dic e => exact ⟨_, .no (.dic e) (by decide) fun z e => by cases e⟩
  | l0 e n => exact ⟨_, .no (.lst e) (by decide) fun z e => by cases e⟩
  | l1 e n _ => exact ⟨_, .no (.lst e) (by decide) fun z e => by cases e⟩
  | l2 e n _ _ => exact ⟨_, .no (.lst e) (by decide) fun z e => by cases e⟩
  | t0 e => exact ⟨_, .tup e (by decide) fun y hy => absurd hy (by simp)⟩
  | @t1 a x d e hx =>
    have s1 : dsm0 d = true := List.all_eq_true.mp s d (by simp)
    exact ⟨_, .tup e (by simp) fun y hy => by
      obtain rfl := List.mem_singleton.mp hy
      exact ⟨hx.kd, hx.vs s1⟩⟩
  | @t2 a x z d1 d2 e hx hz =>
    have s1 : dsm0 d1 = true := List.all_eq_true.mp s d1 (by simp)
    have s2 : dsm0 d2 = true := List.all_eq_true.mp s d2 (by simp)
    refine ⟨_, .tup e (by simp) fun y hy => ?_⟩
    rcases List.mem_cons.mp hy with g | g
    · rw [g]
      exact ⟨hx.kd, hx.vs s1⟩
    · rw [List.mem_singleton.mp g]
      exact ⟨hz.kd, hz.vs s2⟩
def slen : V → Nat
  | .str z => z.length
  | _ => 0
/-- what is wrong with a thing that is to be texts -/
def badOf : Option (List V) → V
  | none => .int (-1)
  | some xs => if xs.length > 8 then .int (-1) else match xs.findIdx? (fun y => !sgV y) with
    | some k => .int (k : Int)
    | none => if (xs.map slen).sum > 2000 then .str (Str.ofString "long") else .non
/-- whether a thing is a place of these texts -/
def placeV (ts : List Str) : Option (List V) → Bool
  | some [x, y] => inV2 0 ((ts.length : Int) - 1) x && (match x with
    | .int i => inV2 0 (((ts.getD i.toNat Str.empty).length : Int) - 1) y
    | _ => false)
  | _ => false
end Ev
set_option maxHeartbeats 4000000
namespace LawK
open PySem PySem.Spec PyProof.Rows L2 Ev
abbrev sOdd : Stmt := topS 49
theorem HandL.same {H H' : Hp} {p l : Addr} (k : Same H H') (h : HandL H p l) : HandL H' p l := by
  obtain ⟨cells, i, r, s, n, h1, h2, h3⟩ := h
  exact ⟨cells, i, r, s, n, k _ _ h1, k _ _ h2, h3⟩
theorem But.and {p : Addr} {H H1 H2 : Hp} (a : But p H H1) (k : Same H1 H2) : But p H H2 := fun b o n e => k b o (a b o n e)
theorem hand_ne {H : Hp} {p l' a : Addr} {o : HO} (h : HandL H p l') (e : H a = some o) (n : ∀ x1 x2 x3 x4 x5, o ≠ .lst [x1, x2, x3, x4, x5]) : a ≠ p := fun z => by
  obtain ⟨cells, i, r, s, m, h1, _⟩ := h
  rw [z, h1] at e
  exact n _ _ _ _ _ (Option.some.inj e).symm
theorem dt_but {H H' : Hp} {p l' : Addr} {v : V} {d : PyData} (h : Dt H v d) (hp : HandL H p l') (k : But p H H') : Dt H' v d := by
  induction h with
  | non => exact .non
  | bl b => exact .bl b
  | int i => exact .int i
  | str x => exact .str x
  | dic e => exact .dic (k _ _ (hand_ne hp e fun _ _ _ _ _ z => by cases z) e)
  | l0 e n => exact .l0 (k _ _ (hand_ne hp e fun _ _ _ _ _ z => by cases z) e) n
  | l1 e n _ ih => exact .l1 (k _ _ (hand_ne hp e fun _ _ _ _ _ z => by cases z) e) n ih
  | l2 e n _ _ i1 i2 => exact .l2 (k _ _ (hand_ne hp e fun _ _ _ _ _ z => by cases z) e) n i1 i2
  | t0 e => exact .t0 (k _ _ (hand_ne hp e fun _ _ _ _ _ z => by cases z) e)
  | t1 e _ ih => exact .t1 (k _ _ (hand_ne hp e fun _ _ _ _ _ z => by cases z) e) ih
  | t2 e _ _ i1 i2 => exact .t2 (k _ _ (hand_ne hp e fun _ _ _ _ _ z => by cases z) e) i1 i2
def spOdd : Sp := fun vs H Q _ => ∃ (p : Addr), vs = [.ref p] ∧ ∃ l, HandL H p l ∧ ∀ v d H', Dt H' v d → dsm d = true → HandL H' p l → But p H H' → Q v H'
theorem scOdd : FnScope ["hand", "way"] ["hand"] (defScope sOdd) := ⟨rfl, rfl, rfl, by decide +kernel, rfl, by decide +kernel, by decide +kernel⟩
section
variable {P : Program} {w : World} {K : PySem.W.Frag} {mg : Str → Option Value} {base : Heap}
theorem ok_odd {f fT : Addr} {fd fdT : FuncData} (F : Fun K "_law_odd" "_law_odd" sOdd f fd) (FT : Fun K "_law_take" "_law_take" sTake fT fdT) (bT : Binds K fdT ["hand", "many"] []) (gT : mg "_law_take" = some (.ref fT)) (T : Glob mg) : FnOk P w K mg base CX0 2 f fd ["hand"] spOdd := by
  have GT : FnOk P w K mg base CX0 1 fT fdT ["hand", "many"] spTake := ok_take FT T
  refine F.ok scOdd (fun vs H Q E h => ?_) (fun cdv A outer s H vs Q E hr h => ?_)
  · obtain ⟨p, rfl, _⟩ := h
    rfl
  · obtain ⟨p, rfl, lh, hH, q⟩ := h
    refine ⟨_, pss_cons (ps_set (i := 1) scOdd.nd rfl (.inl rfl) (pe_call GT hr (by rfl) gT FT.kp bT .nil pass0 (pa_cons (pv 0) (pa_cons pe_int pa_nil))))
      (pss_cons (ps_if (pt_cmpR op_lt (pv 1) pe_int (nomark _)) (pss_one (ps_ret (pe_ix ix_list (pe_lst (pa_cons pe_non (pa_cons pe_bl (pa_cons pe_bl (pa_cons pe_str (pa_cons pe_str (pa_cons pe_str pa_nil))))))) (pv 1) (fun _ _ => rfl)))) pss_nil)
      (pss_cons (ps_if (pt_cmpR op_lt (pv 1) pe_int (nomark _)) (pss_one (ps_ret (pe_ix ix_list (pe_lst (pa_cons (pe_tup pa_nil) (pa_cons (pe_lstN pa_nil) (pa_cons pe_dnewK (pa_cons (pe_tup (pa_cons pe_str pa_nil)) (pa_cons (pe_lstN (pa_cons pe_int pa_nil)) (pa_cons (pe_tup (pa_cons (pe_tup pa_nil) pa_nil)) pa_nil))))))) (pe_op op_sub (pv 1) pe_int) (fun _ _ => rfl)))) pss_nil)
      (pss_cons (ps_if (pt_cmpR op_lt (pv 1) pe_int (nomark _)) (pss_one (ps_ret (pe_ix ix_list (pe_lst (pa_cons (pe_un un_neg pe_int) (pa_cons pe_int (pa_cons pe_int (pa_cons (pe_op op_sub (pe_op op_pow pe_int pe_int) pe_int) (pa_cons pe_str (pa_cons pe_str pa_nil))))))) (pe_op op_sub (pv 1) pe_int) (fun _ _ => rfl)))) pss_nil)
      (pss_cons (ps_if (pt_cmpR op_eq (pv 1) pe_int (nomark _)) (pss_one (ps_ret (pe_lstN (pa_cons pe_str (pa_cons (pe_tup (pa_cons pe_str pa_nil)) pa_nil))))) pss_nil)
      (pss_one (ps_ret (pe_tup (pa_cons pe_str pa_nil)))))))), ?_⟩
    refine ⟨.ref p, rfl, p, 20, rfl, by decide, by decide, lh, hH, fun v H1 v0 v1 h1 b1 => ?_⟩
    refine ⟨.int v, rfl, _, _, rfl, rfl, _, rfl, ite2 (fun e => ?_) (fun e => ?_)⟩
    · have e' : v < 6 := of_decide_eq_true e
      refine ⟨by show 6 ≤ sizeLine; decide, fun o no => ?_⟩
      have k : ∀ {x : V} {d : PyData}, Dt (upd H1 o (.lst [.non, .bl true, .bl false, .str "", .str "a", .str "put"])) x d → dsm d = true → Q x (upd H1 o (.lst [.non, .bl true, .bl false, .str "", .str "a", .str "put"])) := fun {x d} h s => q x d _ h s (h1.same (Same.new no)) (b1.and (Same.new no))
      obtain rfl | rfl | rfl | rfl | rfl | rfl : v = 0 ∨ v = 1 ∨ v = 2 ∨ v = 3 ∨ v = 4 ∨ v = 5 := by omega
      · exact ⟨_, rfl, o, _, _, _, rfl, rfl, sq_of upd_same, rfl, k .non (by decide +kernel)⟩
      · exact ⟨_, rfl, o, _, _, _, rfl, rfl, sq_of upd_same, rfl, k (.bl _) (by decide +kernel)⟩
      · exact ⟨_, rfl, o, _, _, _, rfl, rfl, sq_of upd_same, rfl, k (.bl _) (by decide +kernel)⟩
      · exact ⟨_, rfl, o, _, _, _, rfl, rfl, sq_of upd_same, rfl, k (.str _) (by decide +kernel)⟩
      · exact ⟨_, rfl, o, _, _, _, rfl, rfl, sq_of upd_same, rfl, k (.str _) (by decide +kernel)⟩
      · exact ⟨_, rfl, o, _, _, _, rfl, rfl, sq_of upd_same, rfl, k (.str _) (by decide +kernel)⟩
    have e1 : ¬ v < 6 := fun z => e (decide_eq_true z)
    refine ⟨.int v, rfl, _, _, rfl, rfl, _, rfl, ite2 (fun e => ?_) (fun e => ?_)⟩
    · have e' : v < 12 := of_decide_eq_true e
      refine ⟨by show 0 ≤ sizeLine; decide, fun p1 n1 => ⟨by show 0 ≤ sizeLine; decide, fun p2 n2 m2 => fun p3 n3 => ⟨by show 1 ≤ sizeLine; decide, fun p4 n4 => ⟨by show 1 ≤ sizeLine; decide, fun p5 n5 m5 => ⟨by show 0 ≤ sizeLine; decide, fun p6 n6 => ⟨by show 1 ≤ sizeLine; decide, fun p7 n7 => ⟨by show 6 ≤ sizeLine; decide, fun o no => ?_⟩⟩⟩⟩⟩⟩⟩
      have k8 := Same.new (o := .lst [.ref p1, .ref p2, .ref p3, .ref p4, .ref p5, .ref p7]) no
      have k7 := (Same.new (o := .tup [.ref p6]) n7).trans k8
      have k6 := (Same.new (o := .tup []) n6).trans k7
      have k5 := (Same.new (o := .lst [.int 0]) n5).trans k6
      have k4 := (Same.new (o := .tup [.str "a"]) n4).trans k5
      have k3 := (Same.new (o := .dK []) n3).trans k4
      have k2 := (Same.new (o := .lst []) n2).trans k3
      have k1 := (Same.new (o := .tup []) n1).trans k2
      have hQ : ∀ {x : V} {d : PyData}, Dt _ x d → dsm d = true → Q x _ := fun {x d} h s => q x d _ h s (h1.same k1) (b1.and k1)
      obtain rfl | rfl | rfl | rfl | rfl | rfl : v = 6 ∨ v = 7 ∨ v = 8 ∨ v = 9 ∨ v = 10 ∨ v = 11 := by omega
      · exact ⟨_, rfl, _, _, rfl, rfl, o, _, _, _, rfl, rfl, sq_of upd_same, rfl, hQ (Dt.t0 (k2 _ _ upd_same)) (by decide +kernel)⟩
      · exact ⟨_, rfl, _, _, rfl, rfl, o, _, _, _, rfl, rfl, sq_of upd_same, rfl, hQ (Dt.l0 (k3 _ _ upd_same) m2) (by decide +kernel)⟩
      · exact ⟨_, rfl, _, _, rfl, rfl, o, _, _, _, rfl, rfl, sq_of upd_same, rfl, hQ (Dt.dic (k4 _ _ upd_same)) (by decide +kernel)⟩
      · exact ⟨_, rfl, _, _, rfl, rfl, o, _, _, _, rfl, rfl, sq_of upd_same, rfl, hQ (Dt.t1 (k5 _ _ upd_same) (.str _)) (by decide +kernel)⟩
      · exact ⟨_, rfl, _, _, rfl, rfl, o, _, _, _, rfl, rfl, sq_of upd_same, rfl, hQ (Dt.l1 (k6 _ _ upd_same) m5 (.int _)) (by decide +kernel)⟩
      · exact ⟨_, rfl, _, _, rfl, rfl, o, _, _, _, rfl, rfl, sq_of upd_same, rfl, hQ (Dt.t1 (k8 _ _ upd_same) (Dt.t0 (k7 _ _ upd_same))) (by decide +kernel)⟩
    have e2 : ¬ v < 12 := fun z => e (decide_eq_true z)
    refine ⟨.int v, rfl, _, _, rfl, rfl, _, rfl, ite2 (fun e => ?_) (fun e => ?_)⟩
    · have e' : v < 18 := of_decide_eq_true e
      refine ⟨_, rfl, _, _, rfl, rfl, ⟨by decide, by decide, by decide⟩, _, _, rfl, rfl, by show 6 ≤ sizeLine; decide, fun o no => ?_⟩
      have hQ : ∀ {x : V} {d : PyData} {u : HO}, Dt (upd H1 o u) x d → dsm d = true → Q x (upd H1 o u) := fun {x d u} h s => q x d _ h s (h1.same (Same.new no)) (b1.and (Same.new no))
      obtain rfl | rfl | rfl | rfl | rfl | rfl : v = 12 ∨ v = 13 ∨ v = 14 ∨ v = 15 ∨ v = 16 ∨ v = 17 := by omega
      · exact ⟨_, rfl, _, _, rfl, rfl, o, _, _, _, rfl, rfl, sq_of upd_same, rfl, hQ (.int _) (by decide +kernel)⟩
      · exact ⟨_, rfl, _, _, rfl, rfl, o, _, _, _, rfl, rfl, sq_of upd_same, rfl, hQ (.int _) (by decide +kernel)⟩
      · exact ⟨_, rfl, _, _, rfl, rfl, o, _, _, _, rfl, rfl, sq_of upd_same, rfl, hQ (.int _) (by decide +kernel)⟩
      · exact ⟨_, rfl, _, _, rfl, rfl, o, _, _, _, rfl, rfl, sq_of upd_same, rfl, hQ (.int _) (by decide +kernel)⟩
      · exact ⟨_, rfl, _, _, rfl, rfl, o, _, _, _, rfl, rfl, sq_of upd_same, rfl, hQ (.str _) (by decide +kernel)⟩
      · exact ⟨_, rfl, _, _, rfl, rfl, o, _, _, _, rfl, rfl, sq_of upd_same, rfl, hQ (.str _) (by decide +kernel)⟩
    refine ⟨.int v, rfl, rfl, _, rfl, ite2 (fun e => ?_) (fun e => ?_)⟩
    · refine ⟨by show 1 ≤ sizeLine; decide, fun p1 n1 => ⟨by show 2 ≤ sizeLine; decide, fun p2 n2 m2 => ?_⟩⟩
      have k2 := Same.new (o := .lst [.str "a", .ref p1]) n2
      have k1 := (Same.new (o := .tup [.str "go"]) n1).trans k2
      exact q _ _ _ (Dt.l2 upd_same m2 (.str _) (.t1 (k2 _ _ upd_same) (.str _))) (by decide +kernel) (h1.same k1) (b1.and k1)
    · refine ⟨by show 1 ≤ sizeLine; decide, fun p1 n1 => ?_⟩
      exact q _ _ _ (Dt.t1 upd_same (.str _)) (by decide +kernel) (h1.same (Same.new n1)) (b1.and (Same.new n1))
end
/-- the hand at p as it may be, all else of H as it was -/
structure Hn (p l : Addr) (H H' : Hp) : Prop where
  at_ : HandL H' p l
  but : But p H H'
theorem HandL.ne {H : Hp} {p l q : Addr} (h : HandL H p l) (n : H q = none) : q ≠ p ∧ q ≠ l := by
  obtain ⟨cells, i, r, s, m, h1, h2, _⟩ := h
  exact ⟨fun z => (by rw [z, h1] at n; cases n), fun z => (by rw [z, h2] at n; cases n)⟩
theorem Hn.new {p l q : Addr} {H H' : Hp} {o : HO} (h : Hn p l H H') (n : H' q = none) : Hn p l H (upd H' q o) := ⟨h.at_.same (Same.new n), h.but.and (Same.new n)⟩
theorem Hn.trans {p l : Addr} {H H1 H2 : Hp} (a : Hn p l H H1) (b : Hn p l H1 H2) : Hn p l H H2 := ⟨b.at_, a.but.trans b.but⟩
theorem Hn.refl {p l : Addr} {H : Hp} (h : HandL H p l) : Hn p l H H := ⟨h, But.refl p H⟩
theorem Hn.go {p l : Addr} {H H1 H2 : Hp} (a : Hn p l H H1) (h : HandL H2 p l) (b : But p H1 H2) : Hn p l H H2 := ⟨h, a.but.trans b⟩
theorem Hn.same {p l : Addr} {H H1 H2 : Hp} (a : Hn p l H H1) (k : Same H1 H2) : Hn p l H H2 := ⟨a.at_.same k, a.but.and k⟩
/-- an object that is new since H, at q, changes -/
theorem Hn.at {p l q : Addr} {H H' : Hp} {o : HO} (h : Hn p l H H') (h0 : HandL H p l) (n : H q = none) : Hn p l H (upd H' q o) := by
  obtain ⟨n1, n2⟩ := h0.ne n
  refine ⟨?_, fun b u nb e => ?_⟩
  · obtain ⟨cells, i, r, s, m, h1, h2, h3⟩ := h.at_
    exact ⟨cells, i, r, s, m, by rw [upd_ne (Ne.symm n1)]; exact h1, by rw [upd_ne (Ne.symm n2)]; exact h2, h3⟩
  · rw [upd_ne (ne_of_none e n)]
    exact h.but b u nb e
theorem sqBut {K : PySem.W.Frag} {H H' : Hp} {p a : Addr} {xs : List V} (h : SqL K H a xs) (n : a ≠ p) (b : But p H H') : SqL K H' a xs := by
  rcases h with (h | ⟨o, h⟩) | h
  · exact .inl (.inl (b _ _ n h))
  · exact .inl (.inr ⟨o, b _ _ n h⟩)
  · exact .inr h
end LawK
set_option maxHeartbeats 4000000
namespace LawK
open PySem PySem.Spec PyProof.Rows L2 Ev
structure Dk (P : Program) (w : World) (K : PySem.W.Frag) (mg : Str → Option Value) (base : Heap) (x : Str) (st : Stmt) (ps : List Str) (k : Nat) (sp : Sp) (f : Addr) (fd : FuncData) : Prop where
  F : Fun K x x st f fd
  b : Binds K fd ps []
  g : mg x = some (.ref f)
  ok : FnOk P w K mg base CX0 k f fd ps sp
section
variable {P : Program} {w : World} {K : PySem.W.Frag} {mg : Str → Option Value} {base : Heap}
abbrev sAreSigns : Stmt := topS 55
theorem scAreSigns : FnScope ["thing", "sign"] ["thing"] (defScope sAreSigns) := ⟨rfl, rfl, rfl, by decide +kernel, rfl, by decide +kernel, by decide +kernel⟩
theorem ok_AreSigns {f : Addr} {fd : FuncData} (F : Fun K "_law_are_signs" "_law_are_signs" sAreSigns f fd)  (T : Glob mg) : FnOk P w K mg base CX0 1 f fd ["thing"] spSg := by
  refine F.ok scAreSigns (fun vs H Q E h => ?_) (fun cdv A outer s H vs Q E hr h => ?_)
  · obtain ⟨x, k, rfl, _⟩ := h
    rfl
  · refine ⟨_, (pss_cons (ps_if (pt_not (pt_val (pe_callB call_isi (by rfl) T.isinstance PyProof.Rows.boot_isinstance (pa_cons (pv 0) (pa_cons (pe_bltn (v := .ty "str") (by rfl) T.str (by decide +kernel) rfl) pa_nil)))))
      (pss_one (ps_ret pe_bl))
      pss_nil)
      (pss_cons (ps_for PassesOwn.never rfl (pi_str (pv 0)) (pg_name (i := 1) scAreSigns.nd rfl (.inl rfl))
      (pss_one (ps_if (PW.pt (pw_or (pt_cmpR op_lt (pe_callB call_ord (by rfl) T.ord (by decide +kernel) (pa_cons (pv 1) pa_nil)) pe_int (nomark _)) (pw_or1 (pt_cmpR op_gt (pe_callB call_ord (by rfl) T.ord (by decide +kernel) (pa_cons (pv 1) pa_nil)) pe_int (nomark _)))))
        (pss_one (ps_ret pe_bl))
        pss_nil)))
      (pss_one (ps_ret pe_bl)))), ?_⟩
    obtain ⟨x, k, rfl, hk, hz, q⟩ := h
    refine ⟨x, rfl, x, .ty "str", .type (Kn.name k), .type "str", kitB k .str, rfl, .ty _, Kd.tyx hk, kit_kn k .str, _, rfl, ?_⟩
    cases hk with
    | str z =>
      have hz' := hz z rfl
      refine iteF ⟨.str z, rfl, z, rfl, for_strZ (fun i σ H' => (∃ y, σ = [some (.str z), y]) ∧ H' = H ∧ ∀ j c : Nat, j < i → z.cps[j]? = some c → sgC c = true) ⟨⟨_, rfl⟩, rfl, fun j c hj => absurd hj (by omega)⟩ ?_ ?_⟩
      · rintro i c σ H' hc ⟨⟨y, rfl⟩, rfl, hg⟩
        have bad : sgC c = false → Q (.bl false) H' := fun e => by
          have e2 := sgB_at hc e
          have q' : Q (.bl (sgB z)) H' := q
          rw [e2] at q'
          exact q'
        refine ⟨.str ⟨#[c]⟩, rfl, ⟨#[c]⟩, rfl, rfl, _, _, rfl, rfl, _, rfl, ite2 (fun e => iteT (bad ?_)) (fun e1 => ?_)⟩
        · have := of_decide_eq_true e
          have h2 : (c : Int) < 32 := this
          unfold sgC
          rw [decide_eq_false (show ¬ 32 ≤ c by omega), Bool.false_and]
        · refine ⟨.str ⟨#[c]⟩, rfl, ⟨#[c]⟩, rfl, rfl, _, _, rfl, rfl, _, rfl, ite2 (fun e => bad ?_) (fun e2 => ?_)⟩
          · have h2 : (126 : Int) < (c : Int) := of_decide_eq_true e
            unfold sgC
            rw [decide_eq_false (show ¬ c ≤ 126 by omega), Bool.and_false]
          · have h1 : ¬ (c : Int) < 32 := fun z => e1 (decide_eq_true z)
            have h2 : ¬ (126 : Int) < (c : Int) := fun z => e2 (decide_eq_true z)
            refine ⟨⟨_, rfl⟩, rfl, fun j d hj hd => ?_⟩
            by_cases e : j = i
            · subst e
              rw [hc] at hd
              cases hd
              unfold sgC
              rw [decide_eq_true (show 32 ≤ c by omega), decide_eq_true (show c ≤ 126 by omega)]
              rfl
            · exact hg j d (by omega) hd
      · rintro σ H' ⟨⟨y, rfl⟩, rfl, hg⟩
        have e : sgB z = true := sgB_all fun i c hc => hg i c (by
          have := Array.getElem?_eq_some_iff.mp hc
          exact this.1) hc
        have q' : Q (.bl (sgB z)) H' := q
        rw [e] at q'
        exact q'
    | non => exact iteT q
    | bl b => exact iteT q
    | int i => exact iteT q
    | lst e => exact iteT q
    | tup e => exact iteT q
    | dic e => exact iteT q
abbrev sIsWord : Stmt := topS 56
theorem scIsWord : FnScope ["thing"] ["thing"] (defScope sIsWord) := ⟨rfl, rfl, rfl, by decide +kernel, rfl, by decide +kernel, by decide +kernel⟩
theorem ok_IsWord {f : Addr} {fd : FuncData} (F : Fun K "_law_is_word" "_law_is_word" sIsWord f fd) {fAreSigns : Addr} {fdAreSigns : FuncData} (DAreSigns : Dk P w K mg base "_law_are_signs" sAreSigns ["thing"] 1 spSg fAreSigns fdAreSigns) (T : Glob mg) : FnOk P w K mg base CX0 2 f fd ["thing"] spWd := by
  refine F.ok scIsWord (fun vs H Q E h => ?_) (fun cdv A outer s H vs Q E hr h => ?_)
  · obtain ⟨x, k, rfl, _⟩ := h
    rfl
  · refine ⟨_, (pss_one (ps_ret (pe_and (pe_call DAreSigns.ok (hr.mono (by decide)) (by rfl) DAreSigns.g DAreSigns.F.kp DAreSigns.b .nil pass0 (pa_cons (pv 0) pa_nil)) (pe_one (pe_cmpR op_gt (pe_callB call_lenZ (by rfl) T.len PySem.boot_len (pa_cons (pv 0) pa_nil)) pe_int (nomark _)))))), ?_⟩
    obtain ⟨x, k, rfl, hk, hz, q⟩ := h
    refine ⟨x, rfl, x, k, rfl, hk, hz, _, rfl, ite2 (fun e => ?_) (fun e => ?_)⟩
    · cases hk with
      | str z =>
        refine ⟨.str z, rfl, z, rfl, len5 (hz z rfl), _, _, rfl, rfl, ?_⟩
        have e' : sgB z = true := e
        have q' : Q (.bl (sgB z && decide ((0 : Int) < (z.length : Int)))) H := q
        rw [e', Bool.true_and] at q'
        exact q'
      | non => exact Bool.noConfusion e
      | bl b => exact Bool.noConfusion e
      | int i => exact Bool.noConfusion e
      | lst e2 => exact Bool.noConfusion e
      | tup e2 => exact Bool.noConfusion e
      | dic e2 => exact Bool.noConfusion e
    · have e' : sgV x = false := by simpa using e
      cases hk with
      | str z =>
        have e2 : sgB z = false := e'
        have q' : Q (.bl (sgB z && decide ((0 : Int) < (z.length : Int)))) H := q
        rw [e2, Bool.false_and] at q'
        exact q'
      | non => exact q
      | bl b => exact q
      | int i => exact q
      | lst e2 => exact q
      | tup e2 => exact q
      | dic e2 => exact q
abbrev sPSigns : Stmt := topS 9
theorem scPSigns : FnScope ["thing"] ["thing"] (defScope sPSigns) := ⟨rfl, rfl, rfl, by decide +kernel, rfl, by decide +kernel, by decide +kernel⟩
theorem ok_PSigns {f : Addr} {fd : FuncData} (F : Fun K "is_signs" "is_signs" sPSigns f fd)  (T : Glob mg) : FnOk P w K mg base CX0 1 f fd ["thing"] spSg := by
  refine F.ok scPSigns (fun vs H Q E h => ?_) (fun cdv A outer s H vs Q E hr h => ?_)
  · obtain ⟨x, k, rfl, _⟩ := h
    rfl
  · refine ⟨_, (pss_one (ps_ret (pe_and (pe_callB call_isi (by rfl) T.isinstance PyProof.Rows.boot_isinstance (pa_cons (pv 0) (pa_cons (pe_bltn (v := .ty "str") (by rfl) T.str (by decide +kernel) rfl) pa_nil))) (pe_and (pe_bm0 PySem.F.plainAttrs_str PySem.F.slot_str_isascii PySem.F.type_str_isascii mt_isascii (pv 0)) (pe_one (pe_bm0 PySem.F.plainAttrs_str PySem.F.slot_str_isprintable PySem.F.type_str_isprintable mt_isprintable (pv 0))))))), ?_⟩
    obtain ⟨x, k, rfl, hk, hz, q⟩ := h
    refine ⟨x, rfl, x, .ty "str", .type (Kn.name k), .type "str", kitB k .str, rfl, .ty _, Kd.tyx hk, kit_kn k .str, _, rfl, ?_⟩
    cases hk with
    | str z =>
      refine iteT ⟨.str z, rfl, rfl, z, rfl, rfl, trivial, _, rfl, ite2 (fun e => ⟨.str z, rfl, rfl, z, rfl, rfl, trivial, ?_⟩) (fun e => ?_)⟩
      · have q' : Q (.bl (sgB z)) H := q
        rw [← sgB_of, e, Bool.true_and] at q'
        exact q'
      · have e' : Txt.isascii z = false := by simpa using e
        have q' : Q (.bl (sgB z)) H := q
        rw [← sgB_of, e', Bool.false_and] at q'
        exact q'
    | non => exact iteF q
    | bl b => exact iteF q
    | int i => exact iteF q
    | lst e => exact iteF q
    | tup e => exact iteF q
    | dic e => exact iteF q
abbrev sPWord : Stmt := topS 10
theorem scPWord : FnScope ["thing"] ["thing"] (defScope sPWord) := ⟨rfl, rfl, rfl, by decide +kernel, rfl, by decide +kernel, by decide +kernel⟩
theorem ok_PWord {f : Addr} {fd : FuncData} (F : Fun K "is_word" "is_word" sPWord f fd) {fPSigns : Addr} {fdPSigns : FuncData} (DPSigns : Dk P w K mg base "is_signs" sPSigns ["thing"] 1 spSg fPSigns fdPSigns) (T : Glob mg) : FnOk P w K mg base CX0 2 f fd ["thing"] spWd := by
  refine F.ok scPWord (fun vs H Q E h => ?_) (fun cdv A outer s H vs Q E hr h => ?_)
  · obtain ⟨x, k, rfl, _⟩ := h
    rfl
  · refine ⟨_, (pss_one (ps_ret (pe_and (pe_call DPSigns.ok (hr.mono (by decide)) (by rfl) DPSigns.g DPSigns.F.kp DPSigns.b .nil pass0 (pa_cons (pv 0) pa_nil)) (pe_one (pe_cmpR op_gt (pe_callB call_lenZ (by rfl) T.len PySem.boot_len (pa_cons (pv 0) pa_nil)) pe_int (nomark _)))))), ?_⟩
    obtain ⟨x, k, rfl, hk, hz, q⟩ := h
    refine ⟨x, rfl, x, k, rfl, hk, hz, _, rfl, ite2 (fun e => ?_) (fun e => ?_)⟩
    · cases hk with
      | str z =>
        refine ⟨.str z, rfl, z, rfl, len5 (hz z rfl), _, _, rfl, rfl, ?_⟩
        have e' : sgB z = true := e
        have q' : Q (.bl (sgB z && decide ((0 : Int) < (z.length : Int)))) H := q
        rw [e', Bool.true_and] at q'
        exact q'
      | non => exact Bool.noConfusion e
      | bl b => exact Bool.noConfusion e
      | int i => exact Bool.noConfusion e
      | lst e2 => exact Bool.noConfusion e
      | tup e2 => exact Bool.noConfusion e
      | dic e2 => exact Bool.noConfusion e
    · have e' : sgV x = false := by simpa using e
      cases hk with
      | str z =>
        have e2 : sgB z = false := e'
        have q' : Q (.bl (sgB z && decide ((0 : Int) < (z.length : Int)))) H := q
        rw [e2, Bool.false_and] at q'
        exact q'
      | non => exact q
      | bl b => exact q
      | int i => exact q
      | lst e2 => exact q
      | tup e2 => exact q
      | dic e2 => exact q
abbrev sIsInteger : Stmt := topS 46
theorem scIsInteger : FnScope ["thing"] ["thing"] (defScope sIsInteger) := ⟨rfl, rfl, rfl, by decide +kernel, rfl, by decide +kernel, by decide +kernel⟩
theorem ok_IsInteger {f : Addr} {fd : FuncData} (F : Fun K "_law_is_integer" "_law_is_integer" sIsInteger f fd)  (T : Glob mg) : FnOk P w K mg base CX0 1 f fd ["thing"] spInt := by
  refine F.ok scIsInteger (fun vs H Q E h => ?_) (fun cdv A outer s H vs Q E hr h => ?_)
  · obtain ⟨x, k, rfl, _⟩ := h
    rfl
  · refine ⟨_, (pss_one (ps_ret (pe_and (pe_callB call_isi (by rfl) T.isinstance PyProof.Rows.boot_isinstance (pa_cons (pv 0) (pa_cons (pe_bltn (v := .ty "int") (by rfl) T.int (by decide +kernel) rfl) pa_nil))) (pe_one (pe_not (pe_callB call_isi (by rfl) T.isinstance PyProof.Rows.boot_isinstance (pa_cons (pv 0) (pa_cons (pe_bltn (v := .ty "bool") (by rfl) T.bool (by decide +kernel) rfl) pa_nil)))))))), ?_⟩
    obtain ⟨x, k, rfl, hk, q⟩ := h
    refine ⟨x, rfl, x, .ty "int", .type (Kn.name k), .type "int", kitB k .int, rfl, .ty _, Kd.tyx hk, kit_kn k .int, _, rfl, ?_⟩
    cases hk with
    | int i => exact iteT ⟨.int i, rfl, .int i, .ty "bool", .type (Kn.name .int), .type "bool", kitB .int .bl, rfl, .ty _, Kd.tyx (.int i), kit_kn .int .bl, _, rfl, q⟩
    | bl b => exact iteT ⟨.bl b, rfl, .bl b, .ty "bool", .type (Kn.name .bl), .type "bool", kitB .bl .bl, rfl, .ty _, Kd.tyx (.bl b), kit_kn .bl .bl, _, rfl, q⟩
    | str z => exact iteF q
    | non => exact iteF q
    | lst e => exact iteF q
    | tup e => exact iteF q
    | dic e => exact iteF q
abbrev sPNumber : Stmt := topS 8
theorem scPNumber : FnScope ["thing"] ["thing"] (defScope sPNumber) := ⟨rfl, rfl, rfl, by decide +kernel, rfl, by decide +kernel, by decide +kernel⟩
theorem ok_PNumber {f : Addr} {fd : FuncData} (F : Fun K "is_number" "is_number" sPNumber f fd)  (T : Glob mg) : FnOk P w K mg base CX0 1 f fd ["thing"] spNum := by
  refine F.ok scPNumber (fun vs H Q E h => ?_) (fun cdv A outer s H vs Q E hr h => ?_)
  · obtain ⟨x, k, rfl, _⟩ := h
    rfl
  · refine ⟨_, (pss_one (ps_ret (pe_and (pe_callB call_isi (by rfl) T.isinstance PyProof.Rows.boot_isinstance (pa_cons (pv 0) (pa_cons (pe_bltn (v := .ty "int") (by rfl) T.int (by decide +kernel) rfl) pa_nil))) (pe_and (pe_not (pe_callB call_isi (by rfl) T.isinstance PyProof.Rows.boot_isinstance (pa_cons (pv 0) (pa_cons (pe_bltn (v := .ty "bool") (by rfl) T.bool (by decide +kernel) rfl) pa_nil)))) (pe_one (pe_cmpR op_ge (pv 0) pe_int (nomark _))))))), ?_⟩
    obtain ⟨x, k, rfl, hk, q⟩ := h
    refine ⟨x, rfl, x, .ty "int", .type (Kn.name k), .type "int", kitB k .int, rfl, .ty _, Kd.tyx hk, kit_kn k .int, _, rfl, ?_⟩
    cases hk with
    | int i => exact iteT ⟨.int i, rfl, .int i, .ty "bool", .type (Kn.name .int), .type "bool", kitB .int .bl, rfl, .ty _, Kd.tyx (.int i), kit_kn .int .bl, _, rfl, _, rfl, iteT ⟨.int i, rfl, _, _, rfl, rfl, q⟩⟩
    | bl b => exact iteT ⟨.bl b, rfl, .bl b, .ty "bool", .type (Kn.name .bl), .type "bool", kitB .bl .bl, rfl, .ty _, Kd.tyx (.bl b), kit_kn .bl .bl, _, rfl, _, rfl, iteF q⟩
    | str z => exact iteF q
    | non => exact iteF q
    | lst e => exact iteF q
    | tup e => exact iteF q
    | dic e => exact iteF q
abbrev sIsWithin : Stmt := topS 47
theorem scIsWithin : FnScope ["thing", "least", "most"] ["thing", "least", "most"] (defScope sIsWithin) := ⟨rfl, rfl, rfl, by decide +kernel, rfl, by decide +kernel, by decide +kernel⟩
theorem ok_IsWithin {f : Addr} {fd : FuncData} (F : Fun K "_law_is_within" "_law_is_within" sIsWithin f fd) {fIsInteger : Addr} {fdIsInteger : FuncData} (DIsInteger : Dk P w K mg base "_law_is_integer" sIsInteger ["thing"] 1 spInt fIsInteger fdIsInteger) (T : Glob mg) : FnOk P w K mg base CX0 2 f fd ["thing", "least", "most"] spIn := by
  refine F.ok scIsWithin (fun vs H Q E h => ?_) (fun cdv A outer s H vs Q E hr h => ?_)
  · obtain ⟨x, k, a, b, rfl, _⟩ := h
    rfl
  · refine ⟨_, (pss_one (ps_ret (pe_and (pe_call DIsInteger.ok (hr.mono (by decide)) (by rfl) DIsInteger.g DIsInteger.F.kp DIsInteger.b .nil pass0 (pa_cons (pv 0) pa_nil)) (pe_and (pe_cmpR op_le (pv 1) (pv 0) (nomark _)) (pe_one (pe_cmpR op_le (pv 0) (pv 2) (nomark _))))))), ?_⟩
    obtain ⟨x, k, a, b, rfl, hk, q⟩ := h
    refine ⟨x, rfl, x, k, rfl, hk, _, rfl, ?_⟩
    cases hk with
    | int i =>
      refine iteT ⟨.int a, rfl, .int i, rfl, _, _, rfl, rfl, _, rfl, ite2 (fun e => ?_) (fun e => ?_)⟩
      · have q' : Q (.bl (decide (a ≤ i) && decide (i ≤ b))) H := q
        rw [e, Bool.true_and] at q'
        exact ⟨.int i, rfl, .int b, rfl, _, _, rfl, rfl, q'⟩
      · have e' : decide (a ≤ i) = false := by simpa using e
        have q' : Q (.bl (decide (a ≤ i) && decide (i ≤ b))) H := q
        rw [e', Bool.false_and] at q'
        exact q'
    | bl b => exact iteF q
    | str z => exact iteF q
    | non => exact iteF q
    | lst e => exact iteF q
    | tup e => exact iteF q
    | dic e => exact iteF q
end
end LawK
set_option maxHeartbeats 4000000
namespace Ev
open PySem PySem.Spec PyProof.Rows L2
theorem joinL1 : ∀ cs : List Nat, TL.joinL [] (cs.map fun c => [c]) = cs
  | [] => rfl
  | [c] => rfl
  | c :: d :: r => by
    have e := joinL1 (d :: r)
    show [c] ++ ([] ++ TL.joinL [] ((d :: r).map fun c => [c])) = c :: d :: r
    rw [e]
    rfl
theorem join1 (cs : List Nat) : Txt.join (Str.ofString "") (cs.map fun c => SX.S [c]) = SX.S cs := by
  have e := SX.join_S [] (cs.map fun c => [c])
  rw [List.map_map, joinL1] at e
  exact e
theorem sgB_S (cs : List Nat) : sgB (SX.S cs) = cs.all sgC := rfl
theorem S_eta (z : Str) : SX.S z.cps.toList = z := SX.S_tl z
theorem len_S (z : Str) : z.length = z.cps.toList.length := by simp [Str.length]
theorem sgB_mem {z : Str} (h : sgB z = true) {c : Nat} (hc : c ∈ z.cps.toList) : sgC c = true := List.all_eq_true.mp h c hc
theorem sgB_of_mem {z : Str} (h : ∀ c ∈ z.cps.toList, sgC c = true) : sgB z = true := List.all_eq_true.mpr h
theorem sgB_cut {z : Str} (h : sgB z = true) (lo hi : Option Int) : sgB (cutS z lo hi) = true := by
  refine sgB_of_mem fun c hc => sgB_mem h ?_
  have hc' : c ∈ (z.cps.toList.drop (HT.sIx z.length 0 lo)).take (HT.sIx z.length z.length hi - HT.sIx z.length 0 lo) := by
    simpa [cutS] using hc
  exact List.mem_of_mem_drop (List.mem_of_mem_take hc')
theorem cut_len {z : Str} (lo hi : Option Int) : (cutS z lo hi).length ≤ z.length := by
  rw [len_S, len_S]
  have e : (cutS z lo hi).cps.toList = (z.cps.toList.drop (HT.sIx z.length 0 lo)).take (HT.sIx z.length z.length hi - HT.sIx z.length 0 lo) := by simp [cutS]
  rw [e, List.length_take, List.length_drop]
  omega
theorem cut_len2 {z : Str} (lo hi : Option Int) : (cutS z lo hi).length ≤ HT.sIx z.length z.length hi - HT.sIx z.length 0 lo := by
  rw [len_S]
  have e : (cutS z lo hi).cps.toList = (z.cps.toList.drop (HT.sIx z.length 0 lo)).take (HT.sIx z.length z.length hi - HT.sIx z.length 0 lo) := by simp [cutS]
  rw [e, List.length_take]
  omega
theorem sgB_app {a b : Str} (h1 : sgB a = true) (h2 : sgB b = true) : sgB (a ++ b) = true := by
  refine sgB_of_mem fun c hc => ?_
  have e : (a ++ b).cps.toList = a.cps.toList ++ b.cps.toList := TL.tl_append a b
  rw [e] at hc
  rcases List.mem_append.mp hc with h | h
  · exact sgB_mem h1 h
  · exact sgB_mem h2 h
theorem app_len (a b : Str) : (a ++ b).length = a.length + b.length := by
  have e : (a ++ b).cps.toList = a.cps.toList ++ b.cps.toList := TL.tl_append a b
  rw [len_S, e, List.length_append, ← len_S, ← len_S]
theorem rep_all (x : Array Nat) : ∀ (n : Nat) (acc : Array Nat), ((List.replicate n x).foldl (· ++ ·) acc).size = acc.size + n * x.size ∧ ∀ c ∈ ((List.replicate n x).foldl (· ++ ·) acc).toList, c ∈ acc.toList ∨ c ∈ x.toList
  | 0, acc => ⟨by simp, fun c h => .inl h⟩
  | n + 1, acc => by
    obtain ⟨h1, h2⟩ := rep_all x n (acc ++ x)
    rw [List.replicate_succ, List.foldl_cons]
    refine ⟨by rw [h1, Array.size_append, Nat.succ_mul]; omega, fun c hc => ?_⟩
    rcases h2 c hc with h | h
    · rw [Array.toList_append] at h
      exact List.mem_append.mp h
    · exact .inr h
theorem mul_facts (z : Str) (n : Int) : (Txt.mul z n).length ≤ z.length * n.toNat ∧ (sgB z = true → sgB (Txt.mul z n) = true) := by
  unfold Txt.mul
  by_cases h1 : n < 1
  · rw [if_pos h1]
    exact ⟨Nat.zero_le _, fun _ => rfl⟩
  · rw [if_neg h1]
    by_cases h2 : (n == 1 || z.length == 0) = true
    · rw [if_pos h2]
      exact ⟨Nat.le_mul_of_pos_right _ (by omega), fun h => h⟩
    · rw [if_neg h2]
      obtain ⟨r1, r2⟩ := rep_all z.cps n.toNat #[]
      refine ⟨?_, fun h => sgB_of_mem fun c hc => ?_⟩
      · show Array.size _ ≤ _
        rw [r1, Nat.mul_comm]
        show 0 + _ ≤ _
        rw [Nat.zero_add]
        exact Nat.le_refl _
      · rcases r2 c hc with q | q
        · cases q
        · exact sgB_mem h q
theorem cut_hi {z : Str} {lo : Option Int} {u : Int} (h : 0 ≤ u) : ((cutS z lo (some u)).length : Int) ≤ u := by
  have e := cut_len2 (z := z) lo (some u)
  have e2 : HT.sIx z.length z.length (some u) ≤ u.toNat := by
    show (if u < 0 then (u + (z.length : Int)).toNat else min u.toNat z.length) ≤ u.toNat
    rw [if_neg (by omega)]
    exact Nat.min_le_left _ _
  omega
theorem cut_lohi {z : Str} {b e : Int} (h : 0 ≤ b) (h2 : b ≤ e) : ((cutS z (some b) (some e)).length : Int) ≤ e - b := by
  have q := cut_len2 (z := z) (some b) (some e)
  have e1 : HT.sIx z.length z.length (some e) = min e.toNat z.length := by
    show (if e < 0 then (e + (z.length : Int)).toNat else min e.toNat z.length) = _
    rw [if_neg (by omega)]
  have e2 : HT.sIx z.length 0 (some b) = min b.toNat z.length := by
    show (if b < 0 then (b + (z.length : Int)).toNat else min b.toNat z.length) = _
    rw [if_neg (by omega)]
  rw [e1, e2] at q
  omega
end Ev
set_option maxHeartbeats 4000000
namespace LawK
open PySem PySem.Spec PyProof.Rows L2 Ev
def spPick (K : PySem.W.Frag) : Sp := fun vs H Q _ => ∃ (p a : Addr) (xs : List V), vs = [.ref p, .ref a] ∧ SqL K H a xs ∧ a ≠ p ∧ 0 < xs.length ∧ xs.length < 1000000 ∧ ∃ l, HandL H p l ∧ ∀ x H', x ∈ xs → HandL H' p l → But p H H' → Q x H'
def spAlpha : Sp := fun vs H Q _ => ∃ (p : Addr), vs = [.ref p] ∧ ∃ l, HandL H p l ∧ ∀ z H', sgB z = true → 0 < z.length → z.length ≤ 100 → HandL H' p l → But p H H' → Q (.str z) H'
def spWord : Sp := fun vs H Q _ => ∃ (p : Addr) (z : Str) (a b : Int), vs = [.ref p, .str z, .int a, .int b] ∧ sgB z = true ∧ 0 < z.length ∧ z.length ≤ 100 ∧ 0 ≤ a ∧ a ≤ b ∧ b ≤ 1000 ∧ ∃ l, HandL H p l ∧
  ∀ y H', sgB y = true → a ≤ (y.length : Int) → (y.length : Int) ≤ b → HandL H' p l → But p H H' → Q (.str y) H'
def spText : Sp := fun vs H Q _ => ∃ (p : Addr) (z : Str) (m : Int), vs = [.ref p, .str z, .int m] ∧ sgB z = true ∧ 0 < z.length ∧ z.length ≤ 100 ∧ 1 ≤ m ∧ m ≤ 100 ∧ ∃ l, HandL H p l ∧
  ∀ y H', sgB y = true → (y.length : Int) ≤ m → HandL H' p l → But p H H' → Q (.str y) H'
def spNear : Sp := fun vs H Q _ => ∃ (p : Addr) (z t : Str) (m : Int), vs = [.ref p, .str z, .str t, .int m] ∧ sgB z = true ∧ 0 < z.length ∧ z.length ≤ 100 ∧ sgB t = true ∧ t.length ≤ 1000 ∧ 1 ≤ m ∧ m ≤ 100 ∧ ∃ l, HandL H p l ∧
  ∀ y H', sgB y = true → (y.length : Int) ≤ m → HandL H' p l → But p H H' → Q (.str y) H'
theorem len6 {z : Str} {n : Nat} (h : z.length ≤ n) (hn : n ≤ 5000 := by decide) : z.length ≤ sizeLine := len5 (Nat.le_trans h hn)
theorem sg_at {z : Str} {v : Int} (hz : sgB z = true) (h0 : 0 ≤ v) (h1 : v < (z.length : Int)) : ∃ c, atI z.cps.toList v = some c ∧ sgC c = true := by
  obtain ⟨c, e, hm⟩ := atI_in (xs := z.cps.toList) h0 (by rw [← len_S]; exact h1)
  exact ⟨c, e, sgB_mem hz hm⟩
section
variable {P : Program} {w : World} {K : PySem.W.Frag} {mg : Str → Option Value} {base : Heap}
abbrev sPick : Stmt := topS 45
theorem scPick : FnScope ["hand", "things"] ["hand", "things"] (defScope sPick) := ⟨rfl, rfl, rfl, by decide +kernel, rfl, by decide +kernel, by decide +kernel⟩
theorem ok_Pick {f : Addr} {fd : FuncData} (F : Fun K "_law_pick" "_law_pick" sPick f fd) {fTake : Addr} {fdTake : FuncData} (DTake : Dk P w K mg base "_law_take" sTake ["hand", "many"] 1 spTake fTake fdTake) (T : Glob mg) : FnOk P w K mg base CX0 2 f fd ["hand", "things"] (spPick K) := by
  refine F.ok scPick (fun vs H Q E h => ?_) (fun cdv A outer s H vs Q E hr h => ?_)
  · obtain ⟨p, a, xs, rfl, _⟩ := h
    rfl
  · refine ⟨_, (pss_one (ps_ret (pe_ix ix_list (pv 1) (pe_call DTake.ok (hr.mono (by decide)) (by rfl) DTake.g DTake.F.kp DTake.b .nil pass0 (pa_cons (pv 0) (pa_cons (pe_callB call_len_seq (by rfl) T.len PySem.boot_len (pa_cons (pv 1) pa_nil)) pa_nil))) (fun _ _ => rfl)))), ?_⟩
    obtain ⟨p, a, xs, rfl, ha, nap, h0, h1, lh, hH, q⟩ := h
    refine ⟨.ref a, rfl, .ref p, rfl, .ref a, rfl, a, xs, rfl, .inl ha, p, (xs.length : Int), rfl, by omega, by omega, lh, hH, fun v H1 v0 v1 h2 b2 => ?_⟩
    obtain ⟨x, e, hm⟩ := atI_in v0 v1
    exact ⟨a, xs, v, x, rfl, rfl, sqBut ha nap b2, e, q x H1 hm h2 b2⟩
abbrev sAlphabet : Stmt := topS 50
theorem scAlphabet : FnScope ["hand", "way", "signs"] ["hand"] (defScope sAlphabet) := ⟨rfl, rfl, rfl, by decide +kernel, rfl, by decide +kernel, by decide +kernel⟩
theorem ok_Alphabet {f : Addr} {fd : FuncData} (F : Fun K "_law_alphabet" "_law_alphabet" sAlphabet f fd) {fTake : Addr} {fdTake : FuncData} (DTake : Dk P w K mg base "_law_take" sTake ["hand", "many"] 1 spTake fTake fdTake) (T : Glob mg) : FnOk P w K mg base CX0 2 f fd ["hand"] spAlpha := by
  refine F.ok scAlphabet (fun vs H Q E h => ?_) (fun cdv A outer s H vs Q E hr h => ?_)
  · obtain ⟨p, rfl, _⟩ := h
    rfl
  · refine ⟨_, (pss_cons (ps_set (i := 1) scAlphabet.nd rfl (.inl rfl) (pe_call DTake.ok (hr.mono (by decide)) (by rfl) DTake.g DTake.F.kp DTake.b .nil pass0 (pa_cons (pv 0) (pa_cons pe_int pa_nil))))
      (pss_cons (ps_if (pt_cmpR op_lt (pv 1) pe_int (nomark _))
      (pss_one (ps_ret (pe_ix ix_list (pe_lst (pa_cons pe_str (pa_cons pe_str (pa_cons pe_str (pa_cons pe_str (pa_cons pe_str pa_nil)))))) (pv 1) (fun _ _ => rfl))))
      pss_nil)
      (pss_cons (ps_if (pt_cmpR op_lt (pv 1) pe_int (nomark _))
      (pss_one (ps_ret pe_str))
      pss_nil)
      (pss_cons (ps_set (i := 2) scAlphabet.nd rfl (.inl rfl) pe_str)
      (pss_one (ps_ret (pe_op op_add_str (pv 2) pe_str))))))), ?_⟩
    obtain ⟨p, rfl, lh, hH, q⟩ := h
    refine ⟨.ref p, rfl, p, 8, rfl, by decide, by decide, lh, hH, fun v H1 v0 v1 h1 b1 => ?_⟩
    refine ⟨.int v, rfl, _, _, rfl, rfl, _, rfl, ite2 (fun e => ?_) (fun e => ?_)⟩
    · have e' : v < 5 := of_decide_eq_true e
      refine ⟨by show 5 ≤ sizeLine; decide, fun o no => ?_⟩
      have k : ∀ {z : Str} {u : HO}, sgB z = true ∧ 0 < z.length ∧ z.length ≤ 100 → Q (.str z) (upd H1 o u) := fun {z u} hz => q z _ hz.1 hz.2.1 hz.2.2 (h1.same (Same.new no)) (b1.and (Same.new no))
      obtain rfl | rfl | rfl | rfl | rfl : v = 0 ∨ v = 1 ∨ v = 2 ∨ v = 3 ∨ v = 4 := by omega
      · exact ⟨_, rfl, o, _, _, _, rfl, rfl, sq_of upd_same, rfl, k ⟨by decide +kernel, by decide +kernel, by decide +kernel⟩⟩
      · exact ⟨_, rfl, o, _, _, _, rfl, rfl, sq_of upd_same, rfl, k ⟨by decide +kernel, by decide +kernel, by decide +kernel⟩⟩
      · exact ⟨_, rfl, o, _, _, _, rfl, rfl, sq_of upd_same, rfl, k ⟨by decide +kernel, by decide +kernel, by decide +kernel⟩⟩
      · exact ⟨_, rfl, o, _, _, _, rfl, rfl, sq_of upd_same, rfl, k ⟨by decide +kernel, by decide +kernel, by decide +kernel⟩⟩
      · exact ⟨_, rfl, o, _, _, _, rfl, rfl, sq_of upd_same, rfl, k ⟨by decide +kernel, by decide +kernel, by decide +kernel⟩⟩
    
    refine ⟨.int v, rfl, _, _, rfl, rfl, _, rfl, ite2 (fun e2 => ?_) (fun e2 => ?_)⟩
    · exact q _ _ (by decide +kernel) (by decide +kernel) (by decide +kernel) h1 b1
    · exact ⟨_, rfl, _, _, rfl, rfl, by decide +kernel, q _ _ (by decide +kernel) (by decide +kernel) (by decide +kernel) h1 b1⟩
abbrev sWord : Stmt := topS 51
theorem scWord : FnScope ["hand", "signs", "least", "most", "many", "k"] ["hand", "signs", "least", "most"] (defScope sWord) := ⟨rfl, rfl, rfl, by decide +kernel, rfl, by decide +kernel, by decide +kernel⟩
theorem ok_Word {f : Addr} {fd : FuncData} (F : Fun K "_law_word" "_law_word" sWord f fd) {fTake : Addr} {fdTake : FuncData} (DTake : Dk P w K mg base "_law_take" sTake ["hand", "many"] 1 spTake fTake fdTake) (T : Glob mg) : FnOk P w K mg base CX0 2 f fd ["hand", "signs", "least", "most"] spWord := by
  refine F.ok scWord (fun vs H Q E h => ?_) (fun cdv A outer s H vs Q E hr h => ?_)
  · obtain ⟨p, z, a, b, rfl, _⟩ := h
    rfl
  · refine ⟨_, (pss_cons (ps_set (i := 4) scWord.nd rfl (.inl rfl) (pe_op op_add (pv 2) (pe_call DTake.ok (hr.mono (by decide)) (by rfl) DTake.g DTake.F.kp DTake.b .nil pass0 (pa_cons (pv 0) (pa_cons (pe_op op_add (pe_op op_sub (pv 3) (pv 2)) pe_int) pa_nil)))))
      (pss_one (ps_ret (pe_join pe_str (pe_lc (own := [("k", 5)]) (g := gName 5) (by rfl) scWord.nd (pi_range1 (by rfl) T.range (pa_cons (pv 4) pa_nil)) (blkOk_by (N := ["hand", "signs", "least", "most", "many", "k"]) (sc := defScope sWord) (by decide +kernel)) (fun _ _ _ _ _ => pg_name (i := 5) scWord.nd rfl (.inl rfl)) (fun _ _ _ _ _ => pts_nil) (fun _ _ _ _ _ => (pe_ix ix_str (pv 1) (pe_call DTake.ok (hr.mono (by decide)) (by rfl) DTake.g DTake.F.kp DTake.b .nil pass0 (pa_cons (pv 0) (pa_cons (pe_callB call_lenZ (by rfl) T.len PySem.boot_len (pa_cons (pv 1) pa_nil)) pa_nil))) (fun _ _ => rfl)))))))), ?_⟩
    obtain ⟨p, z, a, b, rfl, hz, z0, z1, ha, hab, hb, lh, hH, q⟩ := h
    refine ⟨.int a, rfl, .ref p, rfl, .int b, rfl, .int a, rfl, _, _, rfl, rfl, _, _, rfl, rfl, p, b - a + 1, rfl, by omega, by omega, lh, hH, fun v H1 v0 v1 h1 b1 => ?_⟩
    refine ⟨_, _, rfl, rfl, ⟨_, rfl⟩, .int (a + v), rfl, a + v, rfl, by omega, by omega, fun D nD => lc_range (fun i H' => ∃ cs : List Nat, H' D = some (.lst (cs.map fun c => V.str (SX.S [c]))) ∧ cs.length = i ∧ (∀ c ∈ cs, sgC c = true) ∧ Hn p lh H1 H') ⟨[], upd_same, rfl, fun c hc => absurd hc (by simp), (Hn.refl h1).new nD⟩ ?_ ?_⟩
    · rintro i H' hi ⟨cs, hD, hl, hs, hn⟩
      refine ⟨rfl, .str z, rfl, .ref p, rfl, .str z, rfl, z, rfl, len6 z1, p, (z.length : Int), rfl, by omega, by omega, lh, hn.at_, fun u H2 u0 u1 h2 b2 => ?_⟩
      obtain ⟨c, ec, hc⟩ := sg_at hz u0 u1
      have nDp := (h1.ne nD).1
      refine ⟨z, u, c, rfl, rfl, len6 z1, ec, _, b2 _ _ nDp hD, ?_, cs ++ [c], ?_, ?_, ?_, (hn.go h2 b2).at h1 nD⟩
      · rw [List.length_map, hl]
        have h3 : sizeLine = 16777216 := sizeLine_eq
        omega
      · rw [upd_same, List.map_append]
        rfl
      · rw [List.length_append, hl]
        rfl
      · intro d hd
        rcases List.mem_append.mp hd with g | g
        · exact hs d g
        · rw [List.mem_singleton.mp g]
          exact hc
    · rintro H' ⟨cs, hD, hl, hs, hn⟩
      have e1 : (cs.map fun c => V.str (SX.S [c])) = (cs.map fun c => SX.S [c]).map V.str := by rw [List.map_map]; rfl
      have hln : (cs.length : Int) = a + v := by omega
      have hsum : ((cs.map fun c => SX.S [c]).map (·.length)).sum ≤ cs.length := by
        clear hD hl hs e1 hln
        induction cs with
        | nil => exact Nat.le_refl _
        | cons c cs ih =>
          simp only [List.map_cons, List.sum_cons, List.length_cons]
          have : (SX.S [c]).length = 1 := rfl
          omega
      refine ⟨_, D, cs.map (fun c => SX.S [c]), rfl, rfl, .inl (sq_of (e1 ▸ hD)), ?_, ?_⟩
      · rw [List.length_map]
        have : (Str.ofString "").length = 0 := by decide +kernel
        rw [this]
        omega
      · rw [join1]
        have e2 : (SX.S cs).length = cs.length := SX.S_len cs
        exact q _ H' (List.all_eq_true.mpr hs) (by rw [e2]; omega) (by rw [e2]; omega) hn.at_ (b1.trans hn.but)
end
end LawK
set_option maxHeartbeats 4000000
namespace LawK
open PySem PySem.Spec PyProof.Rows L2 Ev
section
variable {P : Program} {w : World} {K : PySem.W.Frag} {mg : Str → Option Value} {base : Heap}
abbrev sText : Stmt := topS 52
theorem scText : FnScope ["hand", "signs", "most", "way", "one", "other", "found", "k"] ["hand", "signs", "most"] (defScope sText) := ⟨rfl, rfl, rfl, by decide +kernel, rfl, by decide +kernel, by decide +kernel⟩
theorem ok_Text {f : Addr} {fd : FuncData} (F : Fun K "_law_text" "_law_text" sText f fd) {fTake : Addr} {fdTake : FuncData} (DTake : Dk P w K mg base "_law_take" sTake ["hand", "many"] 1 spTake fTake fdTake) {fWord : Addr} {fdWord : FuncData} (DWord : Dk P w K mg base "_law_word" sWord ["hand", "signs", "least", "most"] 2 spWord fWord fdWord) (T : Glob mg) : FnOk P w K mg base CX0 3 f fd ["hand", "signs", "most"] spText := by
  refine F.ok scText (fun vs H Q E h => ?_) (fun cdv A outer s H vs Q E hr h => ?_)
  · obtain ⟨p, z, m, rfl, _⟩ := h
    rfl
  · refine ⟨_, (pss_cons (ps_set (i := 3) scText.nd rfl (.inl rfl) (pe_call DTake.ok (hr.mono (by decide)) (by rfl) DTake.g DTake.F.kp DTake.b .nil pass0 (pa_cons (pv 0) (pa_cons pe_int pa_nil))))
      (pss_cons (ps_if (pt_cmpR op_eq (pv 3) pe_int (nomark _))
      (pss_one (ps_ret (pe_slice sl_str (pe_op op_mulS (pe_call DWord.ok (hr.mono (by decide)) (by rfl) DWord.g DWord.F.kp DWord.b .nil pass0 (pa_cons (pv 0) (pa_cons (pv 1) (pa_cons pe_int (pa_cons pe_int pa_nil))))) (pv 2)) po_none (po_some (pe_call DTake.ok (hr.mono (by decide)) (by rfl) DTake.g DTake.F.kp DTake.b .nil pass0 (pa_cons (pv 0) (pa_cons (pe_op op_add (pv 2) pe_int) pa_nil)))))))
      pss_nil)
      (pss_cons (ps_if (pt_cmpR op_eq (pv 3) pe_int (nomark _))
      (pss_cons (ps_set (i := 4) scText.nd rfl (.inl rfl) (pe_call DWord.ok (hr.mono (by decide)) (by rfl) DWord.g DWord.F.kp DWord.b .nil pass0 (pa_cons (pv 0) (pa_cons (pv 1) (pa_cons pe_int (pa_cons pe_int pa_nil))))))
        (pss_cons (ps_set (i := 5) scText.nd rfl (.inl rfl) (pe_call DWord.ok (hr.mono (by decide)) (by rfl) DWord.g DWord.F.kp DWord.b .nil pass0 (pa_cons (pv 0) (pa_cons (pv 1) (pa_cons pe_int (pa_cons pe_int pa_nil))))))
        (pss_cons (ps_set (i := 6) scText.nd rfl (.inl rfl) pe_str)
        (pss_cons (ps_for PassesOwn.never rfl (pi_range1 (by rfl) T.range (pa_cons (pe_op op_fdiv (pv 2) pe_int) pa_nil)) (pg_name (i := 7) scText.nd rfl (.inl rfl))
        (pss_one (ps_set (i := 6) scText.nd rfl (.inl rfl) (pe_op op_add_str (pv 6) (pe_ix ix_list (pe_lst (pa_cons (pv 4) (pa_cons (pv 5) pa_nil))) (pe_call DTake.ok (hr.mono (by decide)) (by rfl) DTake.g DTake.F.kp DTake.b .nil pass0 (pa_cons (pv 0) (pa_cons pe_int pa_nil))) (fun _ _ => rfl))))))
        (pss_one (ps_ret (pe_slice sl_str (pv 6) po_none (po_some (pv 2)))))))))
      pss_nil)
      (pss_one (ps_ret (pe_call DWord.ok (hr.mono (by decide)) (by rfl) DWord.g DWord.F.kp DWord.b .nil pass0 (pa_cons (pv 0) (pa_cons (pv 1) (pa_cons pe_int (pa_cons (pv 2) pa_nil)))))))))), ?_⟩
    obtain ⟨p, z, m, rfl, hz, z0, z1, m0, m1, lh, hH, q⟩ := h
    refine ⟨.ref p, rfl, p, 5, rfl, by decide, by decide, lh, hH, fun v H1 v0 v1 h1 b1 => ?_⟩
    refine ⟨.int v, rfl, rfl, _, rfl, ite2 (fun _ => ?_) (fun _ => ?_)⟩
    · refine ⟨.ref p, rfl, .str z, rfl, p, z, 1, 3, rfl, hz, z0, z1, by decide, by decide, by decide, lh, h1, fun y H2 sy y1 y3 h2 b2 => ?_⟩
      refine ⟨.int m, rfl, y, m, rfl, rfl, by omega, by omega, by omega, .ref p, rfl, .int m, rfl, _, _, rfl, rfl, p, m + 1, rfl, by omega, by omega, lh, h2, fun u H3 u0 u1 h3 b3 => ?_⟩
      obtain ⟨f1, f2⟩ := mul_facts y m
      have f3 : y.length * m.toNat ≤ 3 * 100 := Nat.mul_le_mul (by omega) (by omega)
      have f4 : (Txt.mul y m).length ≤ 300 := by omega
      refine ⟨u, rfl, Txt.mul y m, rfl, len6 f4, ?_⟩
      have c1 := cut_hi (z := Txt.mul y m) (lo := none) u0
      exact q _ H3 (sgB_cut (f2 sy) _ _) (by omega) h3 ((b1.trans b2).trans b3)
    refine ⟨.int v, rfl, rfl, _, rfl, ite2 (fun _ => ?_) (fun _ => ?_)⟩
    · refine ⟨.ref p, rfl, .str z, rfl, p, z, 1, 2, rfl, hz, z0, z1, by decide, by decide, by decide, lh, h1, fun y1 H2 sy1 g1 g2 h2 b2 => ?_⟩
      refine ⟨.ref p, rfl, .str z, rfl, p, z, 1, 3, rfl, hz, z0, z1, by decide, by decide, by decide, lh, h2, fun y2 H3 sy2 g3 g4 h3 b3 => ?_⟩
      have b13 := (b1.trans b2).trans b3
      have sel : ∀ {o : Addr} {H4 H5 : Hp} {u : Int}, HandL H4 p lh → H4 o = none → But p (upd H4 o (.lst [.str y1, .str y2])) H5 → 0 ≤ u → u < 2 → ∃ w, SqL K H5 o [.str y1, .str y2] ∧ atI [V.str y1, V.str y2] u = some (.str w) ∧ sgB w = true ∧ w.length ≤ 3 := fun {o H4 H5 u} h4 no b5 u0 u1 => by
        have ho : H5 o = some (.lst [.str y1, .str y2]) := b5 o _ (h4.ne no).1 upd_same
        obtain rfl | rfl : u = 0 ∨ u = 1 := by omega
        · exact ⟨y1, sq_of ho, rfl, sy1, by omega⟩
        · exact ⟨y2, sq_of ho, rfl, sy2, by omega⟩
      refine ⟨.int m, rfl, _, _, rfl, rfl, ⟨by decide, by decide⟩, _, rfl, by omega, by omega, for_range (fun i σ H' => ∃ (y : Str) (x : Option V), σ = [some (.ref p), some (.str z), some (.int m), some (.int v), some (.str y1), some (.str y2), some (.str y), x] ∧ sgB y = true ∧ y.length ≤ 3 * i ∧ Hn p lh H3 H') ⟨_, none, rfl, rfl, Nat.zero_le _, Hn.refl h3⟩ ?_ ?_⟩
      · rintro i σ H' hi ⟨y, x, rfl, sy, ly, hn⟩
        have hi2 : i < 60 := by omega
        refine ⟨.str y, rfl, .str y1, rfl, .str y2, rfl, by show 2 ≤ sizeLine; decide, fun o no => ?_⟩
        refine ⟨.ref p, rfl, p, 2, rfl, by decide, by decide, lh, (hn.new no).at_, fun u H4 u0 u1 h4 b4 => ?_⟩
        obtain ⟨w, hw, ew, sw, lw⟩ := sel hn.at_ no b4 u0 u1
        refine ⟨o, _, u, .str w, rfl, rfl, hw, ew, y, w, rfl, rfl, ?_, _, _, rfl, sgB_app sy sw, ?_, (hn.new no).go h4 b4⟩
        · have h3 : sizeLine = 16777216 := sizeLine_eq
          omega
        · rw [app_len]
          omega
      · rintro σ H' ⟨y, x, rfl, sy, ly, hn⟩
        have c1 := cut_hi (z := y) (lo := none) (u := m) (by omega)
        exact ⟨.str y, rfl, .int m, rfl, m, rfl, y, rfl, len5 (by omega), q _ H' (sgB_cut sy _ _) (by omega) hn.at_ (b13.trans hn.but)⟩
    exact ⟨.ref p, rfl, .str z, rfl, .int m, rfl, p, z, 0, m, rfl, hz, z0, z1, by decide, by omega, by omega, lh, h1, fun y H2 sy y1 y3 h2 b2 => q y H2 sy y3 h2 (b1.trans b2)⟩
abbrev sNear : Stmt := topS 53
theorem scNear : FnScope ["hand", "signs", "text", "most", "begin", "part", "at"] ["hand", "signs", "text", "most"] (defScope sNear) := ⟨rfl, rfl, rfl, by decide +kernel, rfl, by decide +kernel, by decide +kernel⟩
theorem ok_Near {f : Addr} {fd : FuncData} (F : Fun K "_law_near" "_law_near" sNear f fd) {fTake : Addr} {fdTake : FuncData} (DTake : Dk P w K mg base "_law_take" sTake ["hand", "many"] 1 spTake fTake fdTake) {fWord : Addr} {fdWord : FuncData} (DWord : Dk P w K mg base "_law_word" sWord ["hand", "signs", "least", "most"] 2 spWord fWord fdWord) (T : Glob mg) : FnOk P w K mg base CX0 3 f fd ["hand", "signs", "text", "most"] spNear := by
  refine F.ok scNear (fun vs H Q E h => ?_) (fun cdv A outer s H vs Q E hr h => ?_)
  · obtain ⟨p, z, t, m, rfl, _⟩ := h
    rfl
  · refine ⟨_, (pss_cons (ps_set (i := 4) scNear.nd rfl (.inl rfl) (pe_call DTake.ok (hr.mono (by decide)) (by rfl) DTake.g DTake.F.kp DTake.b .nil pass0 (pa_cons (pv 0) (pa_cons (pe_op op_add (pe_callB call_lenZ (by rfl) T.len PySem.boot_len (pa_cons (pv 2) pa_nil)) pe_int) pa_nil))))
      (pss_cons (ps_set (i := 5) scNear.nd rfl (.inl rfl) (pe_slice sl_str (pv 2) (po_some (pv 4)) (po_some (pe_op op_add (pv 4) (pe_call DTake.ok (hr.mono (by decide)) (by rfl) DTake.g DTake.F.kp DTake.b .nil pass0 (pa_cons (pv 0) (pa_cons (pe_op op_add (pv 3) pe_int) pa_nil)))))))
      (pss_cons (ps_if (pt_cmpR op_eq (pe_call DTake.ok (hr.mono (by decide)) (by rfl) DTake.g DTake.F.kp DTake.b .nil pass0 (pa_cons (pv 0) (pa_cons pe_int pa_nil))) pe_int (nomark _))
      (pss_one (ps_ret (pv 5)))
      pss_nil)
      (pss_cons (ps_set (i := 6) scNear.nd rfl (.inl rfl) (pe_call DTake.ok (hr.mono (by decide)) (by rfl) DTake.g DTake.F.kp DTake.b .nil pass0 (pa_cons (pv 0) (pa_cons (pe_op op_add (pe_callB call_lenZ (by rfl) T.len PySem.boot_len (pa_cons (pv 5) pa_nil)) pe_int) pa_nil))))
      (pss_one (ps_ret (pe_slice sl_str (pe_op op_add_str (pe_op op_add_str (pe_slice sl_str (pv 5) po_none (po_some (pv 6))) (pe_call DWord.ok (hr.mono (by decide)) (by rfl) DWord.g DWord.F.kp DWord.b .nil pass0 (pa_cons (pv 0) (pa_cons (pv 1) (pa_cons pe_int (pa_cons pe_int pa_nil)))))) (pe_slice sl_str (pv 5) (po_some (pv 6)) po_none)) po_none (po_some (pv 3))))))))), ?_⟩
    obtain ⟨p, z, t, m, rfl, hz, z0, z1, ht, lt, m0, m1, lh, hH, q⟩ := h
    refine ⟨.ref p, rfl, .str t, rfl, t, rfl, len6 lt, _, _, rfl, rfl, p, (t.length : Int) + 1, rfl, by omega, by omega, lh, hH, fun b H1 v0 v1 h1 b1 => ?_⟩
    refine ⟨.str t, rfl, .int b, rfl, b, rfl, .int b, rfl, .ref p, rfl, .int m, rfl, _, _, rfl, rfl, p, m + 1, rfl, by omega, by omega, lh, h1, fun u H2 u0 u1 h2 b2 => ?_⟩
    refine ⟨_, _, rfl, rfl, b + u, rfl, t, rfl, len6 lt, ?_⟩
    have c1 := cut_lohi (z := t) v0 (show b ≤ b + u by omega)
    have s1 := sgB_cut ht (some b) (some (b + u))
    have l1 := Nat.le_trans (cut_len (z := t) (some b) (some (b + u))) lt
    generalize cutS t (some b) (some (b + u)) = y at c1 s1 l1 ⊢
    refine ⟨.ref p, rfl, p, 2, rfl, by decide, by decide, lh, h2, fun w H3 w0 w1 h3 b3 => ⟨rfl, _, rfl, ite2 (fun _ => ?_) (fun _ => ?_)⟩⟩
    · exact ⟨.str y, rfl, q y H3 s1 (by omega) h3 ((b1.trans b2).trans b3)⟩
    refine ⟨.ref p, rfl, .str y, rfl, y, rfl, len6 l1, _, _, rfl, rfl, p, (y.length : Int) + 1, rfl, by omega, by omega, lh, h3, fun a H4 a0 a1 h4 b4 => ?_⟩
    refine ⟨.str y, rfl, .int a, rfl, a, rfl, y, rfl, len6 l1, .ref p, rfl, .str z, rfl, p, z, 0, 2, rfl, hz, z0, z1, by decide, by decide, by decide, lh, h4, fun x H5 sx x0 x2 h5 b5 => ?_⟩
    have k1 := cut_len (z := y) none (some a)
    have k2 := cut_len (z := y) (some a) none
    have s2 := sgB_cut s1 none (some a)
    have s3 := sgB_cut s1 (some a) none
    generalize cutS y none (some a) = y1 at k1 s2 ⊢
    have h6 : sizeLine = 16777216 := sizeLine_eq
    refine ⟨_, _, rfl, rfl, by omega, .str y, rfl, .int a, rfl, a, rfl, y, rfl, len6 l1, ?_⟩
    generalize cutS y (some a) none = y2 at k2 s3 ⊢
    have k3 := app_len y1 x
    refine ⟨_, _, rfl, rfl, by omega, .int m, rfl, m, rfl, _, rfl, ?_, ?_⟩
    · rw [app_len, app_len]
      omega
    · have c2 := cut_hi (z := y1 ++ x ++ y2) (lo := none) (u := m) (by omega)
      exact q _ H5 (sgB_cut (sgB_app (sgB_app s2 sx) s3) _ _) (by omega) h5 ((((b1.trans b2).trans b3).trans b4).trans b5)
end
end LawK
set_option maxHeartbeats 4000000
namespace LawK
open PySem PySem.Spec PyProof.Rows L2 Ev
/-- texts of a law -/
structure Ts (ts : List Str) : Prop where
  few : ts.length ≤ 8
  sg : ∀ t ∈ ts, sgB t = true
  len : ∀ t ∈ ts, t.length ≤ 100
def spTexts : Sp := fun vs H Q _ => ∃ (p : Addr) (m : Int), vs = [.ref p, .int m] ∧ 1 ≤ m ∧ m ≤ 100 ∧ ∃ l, HandL H p l ∧ ∀ a ts H', H a = none → H' a = some (.tup (ts.map V.str)) → Ts ts → (8 ≤ m → ((ts.map V.str).map slen).sum ≤ m.toNat) → HandL H' p l → But p H H' → Q (.ref a) H'
theorem Hn.free {p l a : Addr} {H H' : Hp} (h : Hn p l H H') (n : H' a = none) : H a = none := by
  cases e : H a with
  | none => rfl
  | some o =>
    by_cases z : a = p
    · obtain ⟨cells, i, r, s, m, h1, _⟩ := h.at_
      rw [z, h1] at n
      cases n
    · rw [h.but a o z e] at n
      cases n
section
variable {P : Program} {w : World} {K : PySem.W.Frag} {mg : Str → Option Value} {base : Heap}
abbrev sTexts : Stmt := topS 54
theorem scTexts : FnScope ["hand", "most", "signs", "many", "found", "k", "room"] ["hand", "most"] (defScope sTexts) := ⟨rfl, rfl, rfl, by decide +kernel, rfl, by decide +kernel, by decide +kernel⟩
theorem ok_Texts {f : Addr} {fd : FuncData} (F : Fun K "_law_texts" "_law_texts" sTexts f fd) {fTake : Addr} {fdTake : FuncData} (DTake : Dk P w K mg base "_law_take" sTake ["hand", "many"] 1 spTake fTake fdTake) {fPick : Addr} {fdPick : FuncData} (DPick : Dk P w K mg base "_law_pick" sPick ["hand", "things"] 2 (spPick K) fPick fdPick) {fAlphabet : Addr} {fdAlphabet : FuncData} (DAlphabet : Dk P w K mg base "_law_alphabet" sAlphabet ["hand"] 2 spAlpha fAlphabet fdAlphabet) {fText : Addr} {fdText : FuncData} (DText : Dk P w K mg base "_law_text" sText ["hand", "signs", "most"] 3 spText fText fdText) {fNear : Addr} {fdNear : FuncData} (DNear : Dk P w K mg base "_law_near" sNear ["hand", "signs", "text", "most"] 3 spNear fNear fdNear) (T : Glob mg) : FnOk P w K mg base CX0 4 f fd ["hand", "most"] spTexts := by
  refine F.ok scTexts (fun vs H Q E h => ?_) (fun cdv A outer s H vs Q E hr h => ?_)
  · obtain ⟨p, m, rfl, _⟩ := h
    rfl
  · refine ⟨_, (pss_cons (ps_set (i := 2) scTexts.nd rfl (.inl rfl) (pe_call DAlphabet.ok (hr.mono (by decide)) (by rfl) DAlphabet.g DAlphabet.F.kp DAlphabet.b .nil pass0 (pa_cons (pv 0) pa_nil)))
      (pss_cons (ps_set (i := 3) scTexts.nd rfl (.inl rfl) (pe_call DPick.ok (hr.mono (by decide)) (by rfl) DPick.g DPick.F.kp DPick.b .nil pass0 (pa_cons (pv 0) (pa_cons (pe_lst (pa_cons pe_int (pa_cons pe_int (pa_cons pe_int (pa_cons pe_int (pa_cons pe_int (pa_cons pe_int (pa_cons pe_int (pa_cons pe_int (pa_cons pe_int (pa_cons pe_int pa_nil))))))))))) pa_nil))))
      (pss_cons (ps_set (i := 4) scTexts.nd rfl (.inl rfl) (pe_lst pa_nil))
      (pss_cons (ps_for PassesOwn.never rfl (pi_range1 (by rfl) T.range (pa_cons (pv 3) pa_nil)) (pg_name (i := 5) scTexts.nd rfl (.inl rfl))
      (pss_cons (ps_set (i := 6) scTexts.nd rfl (.inl rfl) (pe_callB (call_max2 rfl) (by rfl) T.max (by decide +kernel) (pa_cons pe_int (pa_cons (pe_op op_fdiv (pv 1) (pv 3)) pa_nil))))
        (pss_one (ps_if (PW.pt (pw_and (pt_cmpR op_gt (pv 5) pe_int (nomark _)) (pw_and1 (pt_cmpR op_eq (pe_call DTake.ok (hr.mono (by decide)) (by rfl) DTake.g DTake.F.kp DTake.b .nil pass0 (pa_cons (pv 0) (pa_cons pe_int pa_nil))) pe_int (nomark _)))))
        (pss_one (ps_expr (pe_bm PySem.F.plainAttrs_list PySem.F.slot_list_append PySem.F.type_list_append mt_append (pv 4) (pa_cons (pe_call DNear.ok (hr.mono (by decide)) (by rfl) DNear.g DNear.F.kp DNear.b .nil pass0 (pa_cons (pv 0) (pa_cons (pv 2) (pa_cons (pe_call DPick.ok (hr.mono (by decide)) (by rfl) DPick.g DPick.F.kp DPick.b .nil pass0 (pa_cons (pv 0) (pa_cons (pv 4) pa_nil))) (pa_cons (pv 6) pa_nil))))) pa_nil))))
        (pss_one (ps_expr (pe_bm PySem.F.plainAttrs_list PySem.F.slot_list_append PySem.F.type_list_append mt_append (pv 4) (pa_cons (pe_call DText.ok (hr.mono (by decide)) (by rfl) DText.g DText.F.kp DText.b .nil pass0 (pa_cons (pv 0) (pa_cons (pv 2) (pa_cons (pv 6) pa_nil)))) pa_nil))))))))
      (pss_one (ps_ret (pe_callTy call_tuple_of (by rfl) T.tuple (by decide +kernel) (pa_cons (pv 4) pa_nil)))))))), ?_⟩
    obtain ⟨p, m, rfl, m0, m1, lh, hH, q⟩ := h
    refine ⟨.ref p, rfl, p, rfl, lh, hH, fun z H1 hz z0 z1 h1 b1 => ?_⟩
    refine ⟨.ref p, rfl, by show 10 ≤ sizeLine; decide, fun o no => ⟨p, o, _, rfl, sq_of upd_same, (h1.ne no).1, by simp, by show 10 < 1000000; decide, lh, h1.same (Same.new no), fun x H2 hx h2 b2 => ?_⟩⟩
    have b12 : But p H H2 := (b1.and (Same.new no)).trans b2
    obtain ⟨n, rfl, hn8⟩ : ∃ n : Nat, x = .int (n : Int) ∧ n ≤ 8 := by
      simp only [List.mem_cons, List.not_mem_nil, or_false] at hx
      obtain rfl | rfl | rfl | rfl | rfl | rfl | rfl | rfl | rfl | rfl := hx
      · exact ⟨0, rfl, by decide⟩
      · exact ⟨1, rfl, by decide⟩
      · exact ⟨1, rfl, by decide⟩
      · exact ⟨1, rfl, by decide⟩
      · exact ⟨2, rfl, by decide⟩
      · exact ⟨2, rfl, by decide⟩
      · exact ⟨3, rfl, by decide⟩
      · exact ⟨3, rfl, by decide⟩
      · exact ⟨4, rfl, by decide⟩
      · exact ⟨8, rfl, by decide⟩
    
    refine ⟨by show 0 ≤ sizeLine; decide, fun f nf => ?_⟩
    have nfp := (h2.ne nf).1
    refine ⟨.int (n : Int), rfl, _, rfl, by omega, by omega, for_range (fun i σ H' => ∃ (x y : Option V) (ts : List Str), σ = [some (.ref p), some (.int m), some (.str z), some (.int (n : Int)), some (.ref f), x, y] ∧ H' f = some (.lst (ts.map V.str)) ∧ ts.length = i ∧ (∀ t ∈ ts, sgB t = true ∧ t.length ≤ 100) ∧ (8 ≤ m → ((ts.map V.str).map slen).sum ≤ i * (m / (n : Int)).toNat) ∧ Hn p lh H2 H') ⟨none, none, [], rfl, upd_same, rfl, fun t ht => absurd ht (by simp), fun _ => by simp, (Hn.refl h2).new nf⟩ ?_ ?_⟩
    · rintro i σ H' hi ⟨x, y, ts, rfl, hf, hl, ht, hs, hn⟩
      have hi2 : i < n := by omega
      have rq : 8 ≤ m → (if m / (n : Int) > 1 then m / (n : Int) else 1) = ((m / (n : Int)).toNat : Int) := fun m8 => by
        have g : 1 ≤ m / (n : Int) := (Int.le_ediv_iff_mul_le (by omega)).mpr (by omega)
        by_cases e : m / (n : Int) > 1
        · rw [if_pos e]; omega
        · rw [if_neg e]; omega
      have room : 1 ≤ (if m / (n : Int) > 1 then m / (n : Int) else 1) ∧ (if m / (n : Int) > 1 then m / (n : Int) else 1) ≤ 100 := by
        have g : m / (n : Int) ≤ m := Int.ediv_le_self _ (by omega)
        by_cases e : m / (n : Int) > 1
        · rw [if_pos e]
          omega
        · rw [if_neg e]
          omega
      refine ⟨.int m, rfl, .int (n : Int), rfl, _, _, rfl, rfl, ⟨by omega, by omega⟩, _, _, rfl, ?_⟩
      dsimp only
      generalize (if m / (n : Int) > 1 then m / (n : Int) else 1) = r at room rq ⊢
      obtain ⟨r0, r1⟩ := room
      have put : ∀ {H4 : Hp} {y : Str}, Hn p lh H2 H4 → H4 f = some (.lst (ts.map V.str)) → sgB y = true → (y.length : Int) ≤ r → Hn p lh H2 (upd H4 f (.lst (ts.map V.str ++ [V.str y]))) ∧ upd H4 f (.lst (ts.map V.str ++ [V.str y])) f = some (.lst ((ts ++ [y]).map V.str)) ∧ (ts ++ [y]).length = i + 1 ∧ (∀ t ∈ ts ++ [y], sgB t = true ∧ t.length ≤ 100) ∧ (8 ≤ m → (((ts ++ [y]).map V.str).map slen).sum ≤ (i + 1) * (m / (n : Int)).toNat) := fun {H4 y} g1 g2 g3 g4 => by
        refine ⟨g1.at h2 nf, by rw [upd_same, List.map_append]; rfl, by rw [List.length_append, hl]; rfl, fun t hm => ?_, fun m8 => ?_⟩
        · rcases List.mem_append.mp hm with e | e
          · exact ht t e
          · rw [List.mem_singleton.mp e]
            exact ⟨g3, by omega⟩
        · have e1 := hs m8
          have e2 := rq m8
          rw [List.map_append, List.map_append, List.sum_append, Nat.add_mul, Nat.one_mul]
          have e3 : (([y].map V.str).map slen).sum = y.length := by simp [slen]
          omega
      have lts : (ts.map V.str).length < sizeLine := by
        rw [List.length_map, hl]
        have h3 : sizeLine = 16777216 := sizeLine_eq
        omega
      refine ⟨.int (0 + (i : Int)), rfl, _, _, rfl, rfl, _, rfl, ite2 (fun e => ?_) (fun e => ?_)⟩
      · have i0 : 0 < (0 + (i : Int)) := of_decide_eq_true e
        refine ⟨.ref p, rfl, p, 3, rfl, by decide, by decide, lh, hn.at_, fun w H3 w0 w1 h3 b3 => ⟨rfl, _, rfl, ite2 (fun _ => ?_) (fun _ => ?_)⟩⟩
        · have hf3 := b3 _ _ nfp hf
          refine ⟨.ref f, rfl, .inl ⟨rfl, _, sq_of hf3⟩, .ref p, rfl, .str z, rfl, .ref p, rfl, .ref f, rfl, p, f, _, rfl, sq_of hf3, nfp, by rw [List.length_map]; omega, by rw [List.length_map]; omega, lh, h3, fun x4 H4 hx4 h4 b4 => ?_⟩
          obtain ⟨t, htm, rfl⟩ := List.mem_map.mp hx4
          refine ⟨.int r, rfl, p, z, t, r, rfl, hz, z0, z1, (ht t htm).1, by have := (ht t htm).2; omega, r0, r1, lh, h4, fun u H5 su lu h5 b5 => ?_⟩
          have hf5 := b5 _ _ nfp (b4 _ _ nfp hf3)
          obtain ⟨g1, g2, g3, g4, g5⟩ := put (y := u) (((hn.go h3 b3).go h4 b4).go h5 b5) hf5 su (by omega)
          exact ⟨f, _, _, rfl, rfl, hf5, lts, _, _, _, rfl, g2, g3, g4, g5, g1⟩
        · have hf3 := b3 _ _ nfp hf
          refine ⟨.ref f, rfl, .inl ⟨rfl, _, sq_of hf3⟩, .ref p, rfl, .str z, rfl, .int r, rfl, p, z, r, rfl, hz, z0, z1, r0, r1, lh, h3, fun u H5 su lu h5 b5 => ?_⟩
          have hf5 := b5 _ _ nfp hf3
          obtain ⟨g1, g2, g3, g4, g5⟩ := put (y := u) ((hn.go h3 b3).go h5 b5) hf5 su (by omega)
          exact ⟨f, _, _, rfl, rfl, hf5, lts, _, _, _, rfl, g2, g3, g4, g5, g1⟩
      · refine iteF ⟨.ref f, rfl, .inl ⟨rfl, _, sq_of hf⟩, .ref p, rfl, .str z, rfl, .int r, rfl, p, z, r, rfl, hz, z0, z1, r0, r1, lh, hn.at_, fun u H5 su lu h5 b5 => ?_⟩
        have hf5 := b5 _ _ nfp hf
        obtain ⟨g1, g2, g3, g4, g5⟩ := put (y := u) (hn.go h5 b5) hf5 su (by omega)
        exact ⟨f, _, _, rfl, rfl, hf5, lts, _, _, _, rfl, g2, g3, g4, g5, g1⟩
    · rintro σ H' ⟨x, y, ts, rfl, hf, hl, ht, hs, hn⟩
      refine ⟨.ref f, rfl, f, _, rfl, .inl ⟨sq_of hf, fun a na => ?_⟩⟩
      have hl2 : ts.length ≤ 8 := by omega
      have hnn : Hn p lh H H' := ⟨hn.at_, b12.trans hn.but⟩
      refine q a ts _ (hnn.free na) upd_same ⟨hl2, fun t hm => (ht t hm).1, fun t hm => (ht t hm).2⟩ (fun m8 => ?_) (hn.at_.same (Same.new na)) ((b12.trans hn.but).and (Same.new na))
      have e1 := hs m8
      by_cases n0 : (n : Int) = 0
      · have : n = 0 := by omega
        rw [this] at e1
        have : (((0 : Nat) : Int)).toNat * (m / (((0 : Nat) : Int))).toNat = 0 := Nat.zero_mul _
        omega
      · have e2 : (n : Int) * (m / (n : Int)) ≤ m := Int.mul_ediv_self_le n0
        have e4 : 0 ≤ m / (n : Int) := Int.ediv_nonneg (by omega) (by omega)
        have e3 : ((((n : Int).toNat * (m / (n : Int)).toNat : Nat)) : Int) ≤ m := by
          rw [Int.natCast_mul, Int.toNat_of_nonneg e4]
          exact e2
        omega
end
end LawK
set_option maxHeartbeats 4000000
namespace Ev
open PySem PySem.Spec PyProof.Rows L2
theorem bad1 {xs : List V} (h : xs.length > 8) : badOf (some xs) = .int (-1) := if_pos h
theorem bad2 {xs : List V} {i : Nat} {y : V} (h : ¬ xs.length > 8) (hy : xs[i]? = some y) (b : sgV y = false) (g : ∀ (j : Nat) c, j < i → xs[j]? = some c → sgV c = true) : badOf (some xs) = .int (i : Int) := by
  obtain ⟨hi, ey⟩ := List.getElem?_eq_some_iff.mp hy
  have e : xs.findIdx? (fun y => !sgV y) = some i := by
    rw [List.findIdx?_eq_some_iff_getElem]
    refine ⟨hi, by rw [ey, b]; rfl, fun j hj => ?_⟩
    rw [g j xs[j] hj (List.getElem?_eq_getElem (by omega))]
    simp
  show (if xs.length > 8 then V.int (-1) else match xs.findIdx? (fun y => !sgV y) with
    | some k => V.int (k : Int)
    | none => if (xs.map slen).sum > 2000 then V.str (Str.ofString "long") else V.non) = _
  rw [if_neg h, e]
theorem good_none {xs : List V} (g : ∀ c ∈ xs, sgV c = true) : xs.findIdx? (fun y => !sgV y) = none := by
  rw [List.findIdx?_eq_none_iff]
  intro c hc
  rw [g c hc]
  rfl
theorem bad3 {xs : List V} (h : ¬ xs.length > 8) (g : ∀ c ∈ xs, sgV c = true) (s : (xs.map slen).sum > 2000) : badOf (some xs) = .str (Str.ofString "long") := by
  show (if xs.length > 8 then V.int (-1) else match xs.findIdx? (fun y => !sgV y) with
    | some k => V.int (k : Int)
    | none => if (xs.map slen).sum > 2000 then V.str (Str.ofString "long") else V.non) = _
  rw [if_neg h, good_none g]
  exact if_pos s
theorem bad4 {xs : List V} (h : ¬ xs.length > 8) (g : ∀ c ∈ xs, sgV c = true) (s : ¬ (xs.map slen).sum > 2000) : badOf (some xs) = .non := by
  show (if xs.length > 8 then V.int (-1) else match xs.findIdx? (fun y => !sgV y) with
    | some k => V.int (k : Int)
    | none => if (xs.map slen).sum > 2000 then V.str (Str.ofString "long") else V.non) = _
  rw [if_neg h, good_none g]
  exact if_neg s
/-- what is right: at most eight texts of signs -/
theorem bad_non {o : Option (List V)} (h : badOf o = .non) : ∃ xs, o = some xs ∧ xs.length ≤ 8 ∧ (∀ c ∈ xs, sgV c = true) ∧ (xs.map slen).sum ≤ 2000 := by
  cases o with
  | none => cases h
  | some xs =>
    by_cases h1 : xs.length > 8
    · rw [bad1 h1] at h
      cases h
    · cases e : xs.findIdx? (fun y => !sgV y) with
      | some k =>
        have h' : (if xs.length > 8 then V.int (-1) else match xs.findIdx? (fun y => !sgV y) with
          | some k => V.int (k : Int)
          | none => if (xs.map slen).sum > 2000 then V.str (Str.ofString "long") else V.non) = V.non := h
        rw [if_neg h1, e] at h'
        cases h'
      | none =>
        have g : ∀ c ∈ xs, sgV c = true := fun c hc => by
          have := List.findIdx?_eq_none_iff.mp e c hc
          simpa using this
        refine ⟨xs, rfl, by omega, g, ?_⟩
        by_cases s : (xs.map slen).sum > 2000
        · rw [bad3 h1 g s] at h
          cases h
        · omega
theorem sg_str {y : V} (h : sgV y = true) : ∃ z, y = .str z := by
  cases y with
  | str z => exact ⟨z, rfl⟩
  | non => cases h
  | bl b => cases h
  | int i => cases h
  | byt b => cases h
  | flt b => cases h
  | ref a => cases h
  | ty n => cases h
theorem bad_strs {xs : List V} (g : ∀ c ∈ xs, sgV c = true) : ∃ ts : List Str, xs = ts.map V.str ∧ ∀ t ∈ ts, sgB t = true := by
  induction xs with
  | nil => exact ⟨[], rfl, fun t h => absurd h (by simp)⟩
  | cons y xs ih =>
    obtain ⟨z, rfl⟩ := sg_str (g y (by simp))
    obtain ⟨ts, rfl, h⟩ := ih fun c hc => g c (List.mem_cons_of_mem _ hc)
    refine ⟨z :: ts, rfl, fun t ht => ?_⟩
    rcases List.mem_cons.mp ht with e | e
    · rw [e]
      exact g (.str z) (by simp)
    · exact h t e
theorem sum_cast (ns : List Nat) : (ns.map fun n : Nat => (n : Int)).sum = ((ns.sum : Nat) : Int) := by
  induction ns with
  | nil => rfl
  | cons n ns ih =>
    rw [List.map_cons, List.sum_cons, List.sum_cons, ih]
    simp
/-- the lengths of the texts of a tuple -/
theorem lc_lens {K : PySem.W.Frag} {a : Addr} {ts : List Str} {i : Nat} {σ : L2.St} {H1 : Hp} {D : Addr} {Qd : Hp → Prop} (hi : i < σ.length) (ha : H1 a = some (.tup (ts.map V.str))) (nD : H1 D = none) (hlen : ∀ t ∈ ts, t.length ≤ 5000) (hn : ts.length ≤ 1000)
    (hd : ∀ H, H D = some (.lst ((ts.map fun t => (t.length : Int)).map V.int)) → Same H1 H → Qd H) :
    ∃ W : Nat → Nat → Hp → Prop, (∃ m, W 0 m (upd H1 D (.lst []))) ∧ ∀ j m H, W j m H →
      ((Itt K a).stop j H ∧ Qd H) ∨ ((Itt K a).go j H ∧ ∃ Nx : Hp → Prop, (∀ H', Nx H' → ∃ m', m' < m ∧ W (j + 1) m' H') ∧ ∀ x H', (Itt K a).yld j H x H' → gName i x (wipe σ [i]) H' fun σ2 H2 => wipe σ2 [i] = wipe σ [i] ∧ tYes σ2 H2 fun b H3 =>
        if b = true then tCB rLenZ (tCons (tVar i) tNil) σ2 H3 fun y H4 => ∃ acc, H4 D = some (.lst acc) ∧ acc.length < sizeLine ∧ Nx (upd H4 D (.lst (acc ++ [y]))) else Nx H3) := by
  have sAt : ∀ {H' : Hp} {o : HO}, Same H1 H' → Same H1 (upd H' D o) := fun {H' o} k b u e => by
    rw [upd_ne (ne_of_none e nD)]
    exact k b u e
  refine lc_tup (K := K) (xs := ts.map V.str) (fun j H => H D = some (.lst (((ts.take j).map fun t => (t.length : Int)).map V.int)) ∧ Same H1 H) ⟨upd_same, sAt (Same.refl _)⟩ (fun j H _ p => SqT.of (p.2 _ _ ha)) (fun j x H hx p => ?_) (fun H p => ?_)
  · rw [List.getElem?_map] at hx
    cases e : ts[j]? with
    | none => rw [e] at hx; cases hx
    | some t =>
      rw [e] at hx
      obtain rfl : V.str t = x := Option.some.inj hx
      have hm := List.mem_of_getElem? e
      obtain ⟨hD, hs⟩ := p
      have hw : ((wipe σ [i]).set i (some (V.str t)))[i]? = some (some (V.str t)) := by
        rw [List.getElem?_set_self]
        show i < (σ.set i none).length
        rw [List.length_set]
        exact hi
      refine ⟨?_, .str t, hw, t, rfl, len5 (hlen t hm), _, hD, ?_, ?_, sAt hs⟩
      · show ((σ.set i none).set i (some (V.str t))).set i none = σ.set i none
        rw [List.set_set, List.set_set]
      · have h3 : sizeLine = 16777216 := sizeLine_eq
        rw [List.length_map, List.length_map, List.length_take]
        omega
      · rw [upd_same]
        have et : ts.take (j + 1) = ts.take j ++ [t] := by
          rw [List.take_add_one, e]
          rfl
        rw [et, List.map_append, List.map_append]
        rfl
  · obtain ⟨hD, hs⟩ := p
    rw [List.length_map, List.take_length] at hD
    exact hd H hD hs
theorem lens_sum (ts : List Str) : (ts.map fun t => (t.length : Int)).sum = ((((ts.map V.str).map slen).sum : Nat) : Int) := by
  rw [List.map_map, ← sum_cast, List.map_map]
  rfl
end Ev
set_option maxHeartbeats 4000000
namespace LawK
open PySem PySem.Spec PyProof.Rows L2 Ev
def spBad : Sp := fun vs H Q _ => ∃ x o, vs = [x] ∧ Tg H x o ∧ ∀ H', Same H H' → Q (badOf o) H'
def spPlace : Sp := fun vs H Q _ => ∃ (a : Addr) (ts : List Str) (x : V) (o : Option (List V)), vs = [.ref a, x] ∧ H a = some (.tup (ts.map V.str)) ∧ ts.length ≤ 1000 ∧ (∀ t ∈ ts, t.length ≤ 5000) ∧ Tg H x o ∧ Q (.bl (placeV ts o)) H
theorem kit_no {K : PySem.W.Frag} {k : Kn} (n : k ≠ .tup) : PySem.W.kitOne K (.type k.name) (.type "tuple") = some false := by
  have e : kitB k .tup = false := by cases k <;> first | rfl | exact absurd rfl n
  have z := kit_kn (K := K) k .tup
  rw [e] at z
  exact z
section
variable {P : Program} {w : World} {K : PySem.W.Frag} {mg : Str → Option Value} {base : Heap}
abbrev sBadTexts : Stmt := topS 57
theorem scBadTexts : FnScope ["thing", "k", "text"] ["thing"] (defScope sBadTexts) := ⟨rfl, rfl, rfl, by decide +kernel, rfl, by decide +kernel, by decide +kernel⟩
theorem ok_BadTexts {f : Addr} {fd : FuncData} (F : Fun K "_law_bad_texts" "_law_bad_texts" sBadTexts f fd) {fAreSigns : Addr} {fdAreSigns : FuncData} (DAreSigns : Dk P w K mg base "_law_are_signs" sAreSigns ["thing"] 1 spSg fAreSigns fdAreSigns) (T : Glob mg) : FnOk P w K mg base CX0 2 f fd ["thing"] spBad := by
  refine F.ok scBadTexts (fun vs H Q E h => ?_) (fun cdv A outer s H vs Q E hr h => ?_)
  · obtain ⟨x, o, rfl, _⟩ := h
    rfl
  · refine ⟨_, (pss_cons (ps_if (PW.pt (pw_or (pt_not (pt_val (pe_callB call_isi (by rfl) T.isinstance PyProof.Rows.boot_isinstance (pa_cons (pv 0) (pa_cons (pe_bltn (v := .ty "tuple") (by rfl) T.tuple (by decide +kernel) rfl) pa_nil))))) (pw_or1 (pt_cmpR op_gt (pe_callB call_len_seq (by rfl) T.len PySem.boot_len (pa_cons (pv 0) pa_nil)) pe_int (nomark _)))))
      (pss_one (ps_ret (pe_un un_neg pe_int)))
      pss_nil)
      (pss_cons (ps_for PassesOwn.never rfl (pi_range1 (by rfl) T.range (pa_cons (pe_callB call_len_seq (by rfl) T.len PySem.boot_len (pa_cons (pv 0) pa_nil)) pa_nil)) (pg_name (i := 1) scBadTexts.nd rfl (.inl rfl))
      (pss_one (ps_if (pt_not (pt_val (pe_call DAreSigns.ok (hr.mono (by decide)) (by rfl) DAreSigns.g DAreSigns.F.kp DAreSigns.b .nil pass0 (pa_cons (pe_ix ix_tup (pv 0) (pv 1) (fun _ _ => rfl)) pa_nil))))
        (pss_one (ps_ret (pv 1)))
        pss_nil)))
      (pss_cons (ps_if (pt_cmpR op_gt (pe_callB (cr_sum rfl) (by rfl) T.sum (by decide +kernel) (pa_cons (pe_lc (own := [("text", 2)]) (g := gName 2) (by rfl) scBadTexts.nd (pi_tup (pv 0)) (blkOk_by (N := ["thing", "k", "text"]) (sc := defScope sBadTexts) (by decide +kernel)) (fun _ _ _ _ _ => pg_name (i := 2) scBadTexts.nd rfl (.inl rfl)) (fun _ _ _ _ _ => pts_nil) (fun _ _ _ _ _ => (pe_callB call_lenZ (by rfl) T.len PySem.boot_len (pa_cons (pv 2) pa_nil)))) pa_nil)) pe_int (nomark _))
      (pss_one (ps_ret pe_str))
      pss_nil)
      (pss_one (ps_ret pe_non))))), ?_⟩
    obtain ⟨x, o, rfl, hT, q⟩ := h
    cases hT with
    | @no _ k hk n s =>
      exact ⟨x, rfl, x, .ty "tuple", .type (Kn.name k), .type "tuple", false, rfl, .ty _, Kd.tyx hk, kit_no n, _, rfl, iteT ⟨_, rfl, q H (Same.refl H)⟩⟩
    | @tup a xs e n hy =>
      refine ⟨.ref a, rfl, .ref a, .ty "tuple", .type (Kn.name .tup), .type "tuple", kitB .tup .tup, rfl, .ty _, Kd.tyx (.tup e), kit_kn .tup .tup, _, rfl, iteF ?_⟩
      refine ⟨.ref a, rfl, a, xs, rfl, .inr (SqT.of e), _, _, rfl, rfl, _, rfl, ite2 (fun g => ?_) (fun g => ?_)⟩
      · have g' : (8 : Int) < (xs.length : Int) := of_decide_eq_true g
        have q' := q H (Same.refl H)
        rw [bad1 (by omega)] at q'
        exact ⟨_, rfl, q'⟩
      have g' : ¬ xs.length > 8 := fun z => g (decide_eq_true (show (8 : Int) < (xs.length : Int) by omega))
      refine ⟨.ref a, rfl, a, xs, rfl, .inr (SqT.of e), _, rfl, by omega, by omega, for_range (fun i σ H' => (∃ y z, σ = [some (.ref a), y, z]) ∧ H' = H ∧ ∀ (j : Nat) c, j < i → xs[j]? = some c → sgV c = true) ⟨⟨_, _, rfl⟩, rfl, fun j c hj => absurd hj (by omega)⟩ ?_ ?_⟩
      · rintro i σ H' hi ⟨⟨y, z, rfl⟩, rfl, hg⟩
        have hi2 : i < xs.length := by omega
        have hxi : xs[i]? = some xs[i] := List.getElem?_eq_getElem hi2
        have hm : xs[i] ∈ xs := List.getElem_mem hi2
        obtain ⟨⟨k, hk⟩, hv⟩ := hy _ hm
        generalize xs[i] = c at hxi hk hv
        refine ⟨.ref a, rfl, .int (0 + (i : Int)), rfl, a, xs, _, c, rfl, rfl, SqT.of e, (by rw [Int.zero_add]; exact atI_nat hxi), c, k, rfl, hk, hv, _, rfl, ite2 (fun b => ?_) (fun b => ?_)⟩
        · have b' : sgV c = false := by simpa using b
          have q' := q H' (Same.refl H')
          rw [bad2 g' hxi b' hg, ← Int.zero_add (i : Int)] at q'
          exact ⟨_, rfl, q'⟩
        · have b' : sgV c = true := by simpa using b
          refine ⟨⟨_, _, rfl⟩, rfl, fun j d hj hd => ?_⟩
          by_cases ej : j = i
          · rw [ej, hxi] at hd
            cases hd
            exact b'
          · exact hg j d (by omega) hd
      · rintro σ H' ⟨⟨y, z, rfl⟩, rfl, hg⟩
        have hall : ∀ c ∈ xs, sgV c = true := fun c hc => by
          obtain ⟨j, hj, ej⟩ := List.mem_iff_getElem.mp hc
          exact hg j c (by omega) (by rw [List.getElem?_eq_getElem hj, ej])
        obtain ⟨ts, rfl, hts⟩ := bad_strs hall
        refine ⟨.ref a, rfl, a, rfl, ⟨_, SqT.of e⟩, fun D nD => lc_lens (i := 2) (show 2 < 3 by decide) e nD (fun t ht => (hy (.str t) (List.mem_map.mpr ⟨t, ht, rfl⟩)).2 t rfl) (by rw [List.length_map] at n; omega) fun H2 hD hs => ?_⟩
        refine ⟨D, _, rfl, sq_of hD, _, _, rfl, rfl, _, rfl, ite2 (fun b => ?_) (fun b => ?_)⟩
        · have b' := of_decide_eq_true b
          rw [lens_sum] at b'
          have q' := q H2 hs
          rw [bad3 g' hall (by omega)] at q'
          exact q'
        · have b' : ¬ (2000 : Int) < (ts.map fun t => (t.length : Int)).sum := fun z => b (decide_eq_true z)
          rw [lens_sum] at b'
          have q' := q H2 hs
          rw [bad4 g' hall (by omega)] at q'
          exact q'
end
end LawK
set_option maxHeartbeats 4000000
/-! Tuples put together and cut, the heap only growing. -/
namespace Ev
open PySem PySem.Spec PyProof.Rows L2
def rCatM : R2 := fun x y H Q => ∃ a b xs ys, x = .ref a ∧ y = .ref b ∧ H a = some (.tup xs) ∧ H b = some (.tup ys) ∧ xs.length + ys.length ≤ 1000 ∧ ∀ p H', Same H H' → H' p = some (.tup (xs ++ ys)) → Q (.ref p) H'
theorem sameNew {H : Hp} {q : Addr} {o : HO} (h : H q = none) : Same H (upd H q o) := fun b u e => by
  rw [upd_ne (ne_of_none e h)]
  exact e
theorem op_catM {X : Cx} : OpR X (binaryOp .Add) rCatM := fun pins s σ H x y v u Q I rx ry h =>
  op_catA pins s σ H x y v u Q I rx ry (by
    obtain ⟨a, b, xs, ys, ex, ey, ha, hb, hz, q⟩ := h
    refine ⟨a, b, xs, ys, ex, ey, SqT.of ha, SqT.of hb, ?_, fun e => ?_, fun _ e => ?_, fun _ _ p np => ?_⟩
    · have h3 : sizeLine = 16777216 := sizeLine_eq
      omega
    · refine q b H (Same.refl H) ?_
      rw [e, List.nil_append]
      exact hb
    · refine q a H (Same.refl H) ?_
      rw [e, List.append_nil]
      exact ha
    · exact q p _ (sameNew np) upd_same)
def rSlM : V → Option Int → Option Int → Hp → VK → Prop := fun x lo hi H Q => ∃ a xs, x = .ref a ∧ H a = some (.tup xs) ∧ ∀ p H', Same H H' → H' p = some (.tup (cutV xs lo hi)) → Q (.ref p) H'
theorem sl_tupM {X : Cx} : SlR X rSlM := fun pins s σ H x v vl vu lo hi sl Q I rx hs pl pu h =>
  sl_tupA pins s σ H x v vl vu lo hi sl Q I rx hs pl pu (by
    obtain ⟨a, xs, ex, ha, q⟩ := h
    refine ⟨a, xs, ex, SqT.of ha, fun e => ?_, fun _ p np => q p _ (sameNew np) upd_same⟩
    refine q a H (Same.refl H) ?_
    have ec : cutV xs lo hi = xs := by
      unfold cutV
      rw [e.1, e.2, List.drop_zero, Nat.sub_zero, List.take_length]
    rw [ec]
    exact ha)
theorem cutV_mem {xs : List V} {lo hi : Option Int} {y : V} (h : y ∈ cutV xs lo hi) : y ∈ xs := List.mem_of_mem_drop (List.mem_of_mem_take h)
/-- the place that is one -/
theorem place_true {ts : List Str} {o : Option (List V)} (h : placeV ts o = true) : ∃ (i j : Int), o = some [.int i, .int j] ∧ 0 ≤ i ∧ i < ts.length ∧ 0 ≤ j ∧ j < ((ts.getD i.toNat Str.empty).length : Int) := by
  unfold placeV at h
  split at h
  · rename_i x y
    obtain ⟨h1, h2⟩ := Bool.and_eq_true_iff.mp h
    cases x with
    | int i =>
      obtain ⟨a1, a2⟩ := Bool.and_eq_true_iff.mp (show (decide (0 ≤ i) && decide (i ≤ (ts.length : Int) - 1)) = true from h1)
      have a1 := of_decide_eq_true a1
      have a2 := of_decide_eq_true a2
      cases y with
      | int j =>
        obtain ⟨b1, b2⟩ := Bool.and_eq_true_iff.mp (show (decide (0 ≤ j) && decide (j ≤ ((ts.getD i.toNat Str.empty).length : Int) - 1)) = true from h2)
        have b1 := of_decide_eq_true b1
        have b2 := of_decide_eq_true b2
        exact ⟨i, j, rfl, a1, by omega, b1, by omega⟩
      | non => cases h2
      | bl b => cases h2
      | str b => cases h2
      | byt b => cases h2
      | flt b => cases h2
      | ref b => cases h2
      | ty b => cases h2
    | non => cases h1
    | bl b => cases h1
    | str b => cases h1
    | byt b => cases h1
    | flt b => cases h1
    | ref b => cases h1
    | ty b => cases h1
  · cases h
theorem text_at {ts : List Str} {i : Int} (h0 : 0 ≤ i) (h1 : i < ts.length) : atI (ts.map V.str) i = some (.str (ts.getD i.toNat Str.empty)) ∧ ts.getD i.toNat Str.empty ∈ ts := by
  have hi : i.toNat < ts.length := by omega
  constructor
  · have e1 : i = ((i.toNat : Nat) : Int) := by omega
    rw [e1]
    refine atI_nat ?_
    rw [List.getElem?_map, List.getD_eq_getElem?_getD, Int.toNat_natCast, List.getElem?_eq_getElem hi]
    rfl
  · rw [List.getD_eq_getElem?_getD, List.getElem?_eq_getElem hi]
    exact List.getElem_mem hi
end Ev
set_option maxHeartbeats 4000000
namespace LawK
open PySem PySem.Spec PyProof.Rows L2 Ev
def Pl (H : Hp) (y : V) : Prop := ∃ b i j, y = .ref b ∧ H b = some (.tup [.int i, .int j])
theorem Pl.same {H H' : Hp} (k : Same H H') {y : V} (h : Pl H y) : Pl H' y := by
  obtain ⟨b, i, j, e, h⟩ := h
  exact ⟨b, i, j, e, k _ _ h⟩
theorem Pl.at {H : Hp} {D : Addr} {xs ys : List V} (hD : H D = some (.lst xs)) {y : V} (h : Pl H y) : Pl (upd H D (.lst ys)) y := by
  obtain ⟨b, i, j, e, h⟩ := h
  refine ⟨b, i, j, e, ?_⟩
  rw [upd_ne fun z => by
    rw [z, hD] at h
    cases h]
  exact h
theorem str_ok {ts : List Str} (hts : Ts ts) {H : Hp} {y : V} (h : y ∈ ts.map V.str) : (∃ k, Kd H y k) ∧ Vs y := by
  obtain ⟨z, hz, rfl⟩ := List.mem_map.mp h
  refine ⟨⟨_, .str z⟩, fun w e => ?_⟩
  cases e
  exact Nat.le_trans (hts.len z hz) (by decide)
theorem lit_ok {z : Str} (h : z.length ≤ 5000) {H : Hp} : (∃ k, Kd H (.str z) k) ∧ Vs (.str z) := ⟨⟨_, .str z⟩, fun w e => by
  cases e
  exact h⟩
theorem int_ok {i : Int} {H : Hp} : (∃ k, Kd H (.int i) k) ∧ Vs (.int i) := ⟨⟨_, .int i⟩, fun w e => by cases e⟩
theorem tup_ne {H : Hp} {p l a : Addr} {xs : List V} (h : HandL H p l) (e : H a = some (.tup xs)) : a ≠ p := hand_ne h e fun _ _ _ _ _ z => by cases z
def spAllP : Sp := fun vs H Q _ => ∃ (a : Addr) (ts : List Str), vs = [.ref a] ∧ H a = some (.tup (ts.map V.str)) ∧ Ts ts ∧ ∀ o ps H', H o = none → H' o = some (.lst ps) → ps.length ≤ 1000 → (∀ y ∈ ps, Pl H' y) → Same H H' → Q (.ref o) H'
def spThing : Sp := fun vs H Q _ => ∃ (p a : Addr) (ts : List Str), vs = [.ref p, .ref a] ∧ H a = some (.tup (ts.map V.str)) ∧ Ts ts ∧ ∃ l, HandL H p l ∧ ∀ x o H', Tg H' x o → HandL H' p l → But p H H' → Q x H'
def spSomeW : Sp := fun vs H Q _ => ∃ (p a : Addr) (ts : List Str) (x : V) (o : Option (List V)), vs = [.ref p, .ref a, x] ∧ H a = some (.tup (ts.map V.str)) ∧ Ts ts ∧ Tg H x o ∧ ∃ l, HandL H p l ∧ ∀ y k H', Kd H' y k → Vs y → HandL H' p l → But p H H' → Q y H'
section
variable {P : Program} {w : World} {K : PySem.W.Frag} {mg : Str → Option Value} {base : Heap}
end
end LawK
set_option maxHeartbeats 4000000
namespace LawK
open PySem PySem.Spec PyProof.Rows L2 Ev
theorem Kd.but {H H' : Hp} {p l : Addr} {x : V} {k : Kn} (h : Kd H x k) (h0 : HandL H p l) (h1 : HandL H' p l) (b : But p H H') : Kd H' x k := by
  cases h with
  | non => exact .non
  | bl b => exact .bl b
  | int i => exact .int i
  | str z => exact .str z
  | @lst a xs e =>
    by_cases z : a = p
    · obtain ⟨cells, i, r, s, m, h2, _⟩ := h1
      rw [z]
      exact .lst h2
    · exact .lst (b _ _ z e)
  | tup e => exact .tup (b _ _ (tup_ne h0 e) e)
  | dic e => exact .dic (b _ _ (hand_ne h0 e fun _ _ _ _ _ z => by cases z) e)
theorem Tg.but {H H' : Hp} {p l : Addr} {x : V} {o : Option (List V)} (h : Tg H x o) (h0 : HandL H p l) (h1 : HandL H' p l) (b : But p H H') : Tg H' x o := by
  cases h with
  | no h n s => exact .no (Kd.but h h0 h1 b) n s
  | tup e n h => exact .tup (b _ _ (tup_ne h0 e) e) n fun y hy => ⟨let ⟨k, q⟩ := (h y hy).1; ⟨k, Kd.but q h0 h1 b⟩, (h y hy).2⟩
section
variable {P : Program} {w : World} {K : PySem.W.Frag} {mg : Str → Option Value} {base : Heap}
end
end LawK
set_option maxHeartbeats 4000000
namespace Ev
open PySem PySem.Spec PyProof.Rows L2
/-- x is True, x is False, x any value of a kind -/
def rIsT : R2 := fun x y H Q => ∃ (b : Bool) (k : Kn), y = .bl b ∧ Kd H x k ∧ Q (.bl (decide (x = .bl b))) H
theorem op_isT {X : Cx} : OpR X (compareOp .Is) rIsT := by
  intro pins s σ H x y v u Q I rx ry h
  obtain ⟨b, k, rfl, hk, q⟩ := h
  cases (show u = Value.bool b from ry)
  cases hk with
  | bl a =>
    refine op_isBl pins s σ H _ (.bl b) v _ Q I rx rfl ⟨a, b, rfl, rfl, ?_⟩
    have e : decide (V.bl a = V.bl b) = decide (a = b) := by
      by_cases z : a = b
      · subst z
        simp
      · rw [decide_eq_false z, decide_eq_false fun w => z (V.bl.inj w)]
    rw [e] at q
    exact q
  | non =>
    cases rx
    exact wpAny_is_other rfl (fun z => by cases z) ⟨.bl false, H, I, rfl, by simpa using q⟩
  | int i =>
    obtain ⟨t, rfl⟩ := rx
    exact wpAny_is_other rfl (fun z => by cases z) ⟨.bl false, H, I, rfl, by simpa using q⟩
  | str i =>
    obtain ⟨t, rfl⟩ := rx
    exact wpAny_is_other rfl (fun z => by cases z) ⟨.bl false, H, I, rfl, by simpa using q⟩
  | lst e =>
    cases rx
    exact wpAny_is_other rfl (fun z => by cases z) ⟨.bl false, H, I, rfl, by simpa using q⟩
  | tup e =>
    cases rx
    exact wpAny_is_other rfl (fun z => by cases z) ⟨.bl false, H, I, rfl, by simpa using q⟩
  | dic e =>
    cases rx
    exact wpAny_is_other rfl (fun z => by cases z) ⟨.bl false, H, I, rfl, by simpa using q⟩
end Ev
set_option maxHeartbeats 4000000
namespace LawK
open PySem PySem.Spec PyProof.Rows L2 Ev
/-- alike, one step deeper than S -/
inductive SameX (S : Hp → V → V → Prop) (H : Hp) : V → V → Prop
  | non : SameX S H .non .non
  | bl (b : Bool) : SameX S H (.bl b) (.bl b)
  | int (i : Int) : SameX S H (.int i) (.int i)
  | str (z : Str) : SameX S H (.str z) (.str z)
  | tup {a b : Addr} {xs ys : List V} (ha : H a = some (.tup xs)) (hb : H b = some (.tup ys)) (hl : xs.length = ys.length) (hn : xs.length ≤ 1000) (h : ∀ (i : Nat) x y, xs[i]? = some x → ys[i]? = some y → S H x y) : SameX S H (.ref a) (.ref b)
def spSame (S : Hp → V → V → Prop) : Sp := fun vs H Q _ => ∃ x y, vs = [x, y] ∧ S H x y ∧ ∀ H', Same H H' → Q (.bl true) H'
abbrev sSame : Stmt := topS 48
theorem scSame : FnScope ["actual", "due", "one", "other"] ["actual", "due"] (defScope sSame) := ⟨rfl, rfl, rfl, by decide +kernel, rfl, by decide +kernel, by decide +kernel⟩
section
variable {P : Program} {w : World} {K : PySem.W.Frag} {mg : Str → Option Value} {base : Heap}
theorem ok_same_step {S : Hp → V → V → Prop} (hm : ∀ H H' x y, Same H H' → S H x y → S H' x y) {k : Nat} {f : Addr} {fd : FuncData} (F : Fun K "_law_same" "_law_same" sSame f fd) (bS : Binds K fd ["actual", "due"] []) (gS : mg "_law_same" = some (.ref f)) (hk : 1 ≤ k) (G : FnOk P w K mg base CX0 k f fd ["actual", "due"] (spSame S))
    {fIsInteger : Addr} {fdIsInteger : FuncData} (DIsInteger : Dk P w K mg base "_law_is_integer" sIsInteger ["thing"] 1 spInt fIsInteger fdIsInteger) (T : Glob mg) : FnOk P w K mg base CX0 (k + 1) f fd ["actual", "due"] (spSame (SameX S)) := by
  refine F.ok scSame (fun vs H Q E h => ?_) (fun cdv A outer s H vs Q E hr h => ?_)
  · obtain ⟨x, y, rfl, _⟩ := h
    rfl
  · obtain ⟨x, y, rfl, hS, q⟩ := h
    refine ⟨_, (pss_cons (ps_if (pt_cmpR op_isN (pv 1) pe_non (nomark _))
      (pss_one (ps_ret (pe_cmpR op_isN (pv 0) pe_non (nomark _))))
      pss_nil)
      (pss_cons (ps_if (pt_cmpR op_isT (pv 1) pe_bl (nomark _))
      (pss_one (ps_ret (pe_cmpR op_isT (pv 0) pe_bl (nomark _))))
      pss_nil)
      (pss_cons (ps_if (pt_cmpR op_isT (pv 1) pe_bl (nomark _))
      (pss_one (ps_ret (pe_cmpR op_isT (pv 0) pe_bl (nomark _))))
      pss_nil)
      (pss_cons (ps_if (pt_val (pe_callB call_isi (by rfl) T.isinstance PyProof.Rows.boot_isinstance (pa_cons (pv 1) (pa_cons (pe_bltn (v := .ty "int") (by rfl) T.int (by decide +kernel) rfl) pa_nil))))
      (pss_one (ps_ret (pe_and (pe_call DIsInteger.ok (hr.mono (by omega)) (by rfl) DIsInteger.g DIsInteger.F.kp DIsInteger.b .nil pass0 (pa_cons (pv 0) pa_nil)) (pe_one (pe_cmpR op_eq (pv 0) (pv 1) (nomark _))))))
      pss_nil)
      (pss_cons (ps_if (pt_val (pe_callB call_isi (by rfl) T.isinstance PyProof.Rows.boot_isinstance (pa_cons (pv 1) (pa_cons (pe_bltn (v := .ty "str") (by rfl) T.str (by decide +kernel) rfl) pa_nil))))
      (pss_one (ps_ret (pe_and (pe_callB call_isi (by rfl) T.isinstance PyProof.Rows.boot_isinstance (pa_cons (pv 0) (pa_cons (pe_bltn (v := .ty "str") (by rfl) T.str (by decide +kernel) rfl) pa_nil))) (pe_one (pe_cmpR op_eq (pv 0) (pv 1) (nomark _))))))
      pss_nil)
      (pss_cons (ps_if (PW.pt (pw_or (pt_cmpR op_ne (pe_callB call_isi (by rfl) T.isinstance PyProof.Rows.boot_isinstance (pa_cons (pv 1) (pa_cons (pe_bltn (v := .ty "tuple") (by rfl) T.tuple (by decide +kernel) rfl) pa_nil))) (pe_callB call_isi (by rfl) T.isinstance PyProof.Rows.boot_isinstance (pa_cons (pv 0) (pa_cons (pe_bltn (v := .ty "tuple") (by rfl) T.tuple (by decide +kernel) rfl) pa_nil))) (nomark _)) (pw_or1 (pt_cmpR op_ne (pe_callB call_isi (by rfl) T.isinstance PyProof.Rows.boot_isinstance (pa_cons (pv 1) (pa_cons (pe_bltn (v := .ty "list") (by rfl) T.list (by decide +kernel) rfl) pa_nil))) (pe_callB call_isi (by rfl) T.isinstance PyProof.Rows.boot_isinstance (pa_cons (pv 0) (pa_cons (pe_bltn (v := .ty "list") (by rfl) T.list (by decide +kernel) rfl) pa_nil))) (nomark _)))))
      (pss_one (ps_ret pe_bl))
      pss_nil)
      (pss_cons (ps_if (pt_cmpR op_ne (pe_callB call_len_seq (by rfl) T.len PySem.boot_len (pa_cons (pv 0) pa_nil)) (pe_callB call_len_seq (by rfl) T.len PySem.boot_len (pa_cons (pv 1) pa_nil)) (nomark _))
      (pss_one (ps_ret pe_bl))
      pss_nil)
      (pss_cons (ps_for PassesOwn.never rfl (RZ.pi_zipA (by rfl) T.zip (pa_cons (pv 0) (pa_cons (pv 1) pa_nil))) (pg_tup (by rfl) (pgs_cons (pg_name (i := 2) scSame.nd rfl (.inl rfl)) (pgs_cons (pg_name (i := 3) scSame.nd rfl (.inl rfl)) pgs_nil)))
      (pss_one (ps_if (pt_not (pt_val (pe_call G (hr.mono (Nat.le_refl _)) (by rfl) gS F.kp bS .nil pass0 (pa_cons (pv 2) (pa_cons (pv 3) pa_nil)))))
        (pss_one (ps_ret pe_bl))
        pss_nil)))
      (pss_one (ps_ret pe_bl)))))))))), ?_⟩
    cases hS with
    | non => exact ⟨.non, rfl, rfl, _, rfl, iteT ⟨.non, rfl, rfl, q H (Same.refl H)⟩⟩
    | bl b =>
      refine ⟨.bl b, rfl, rfl, _, rfl, iteF ⟨.bl b, rfl, true, .bl, rfl, .bl b, _, rfl, ?_⟩⟩
      cases b with
      | true => exact iteT ⟨.bl true, rfl, true, .bl, rfl, .bl true, q H (Same.refl H)⟩
      | false => exact iteF ⟨.bl false, rfl, false, .bl, rfl, .bl false, _, rfl, iteT ⟨.bl false, rfl, false, .bl, rfl, .bl false, q H (Same.refl H)⟩⟩
    | int i =>
      refine ⟨.int i, rfl, rfl, _, rfl, iteF ⟨.int i, rfl, true, .int, rfl, .int i, _, rfl, iteF ⟨.int i, rfl, false, .int, rfl, .int i, _, rfl, iteF ?_⟩⟩⟩
      refine ⟨.int i, rfl, .int i, .ty "int", .type (Kn.name .int), .type "int", kitB .int .int, rfl, .ty _, Kd.tyx (.int i), kit_kn .int .int, _, rfl, iteT ⟨.int i, rfl, .int i, .int, rfl, .int i, _, rfl, iteT ⟨.int i, rfl, .int i, rfl, rfl, ?_⟩⟩⟩
      rw [decide_eq_true rfl]
      exact q H (Same.refl H)
    | str z =>
      refine ⟨.str z, rfl, rfl, _, rfl, iteF ⟨.str z, rfl, true, .str, rfl, .str z, _, rfl, iteF ⟨.str z, rfl, false, .str, rfl, .str z, _, rfl, iteF ?_⟩⟩⟩
      refine ⟨.str z, rfl, .str z, .ty "int", .type (Kn.name .str), .type "int", kitB .str .int, rfl, .ty _, Kd.tyx (.str z), kit_kn .str .int, _, rfl, iteF ⟨.str z, rfl, .str z, .ty "str", .type (Kn.name .str), .type "str", kitB .str .str, rfl, .ty _, Kd.tyx (.str z), kit_kn .str .str, _, rfl, iteT ⟨.str z, rfl, .str z, .ty "str", .type (Kn.name .str), .type "str", kitB .str .str, rfl, .ty _, Kd.tyx (.str z), kit_kn .str .str, _, rfl, iteT ⟨.str z, rfl, .str z, rfl, rfl, ?_⟩⟩⟩⟩
      rw [decide_eq_true rfl]
      exact q H (Same.refl H)
    | @tup a b xs ys ha hb hl hn hp =>
      refine ⟨.ref b, rfl, rfl, _, rfl, iteF ⟨.ref b, rfl, true, .tup, rfl, .tup hb, _, rfl, iteF ⟨.ref b, rfl, false, .tup, rfl, .tup hb, _, rfl, iteF ?_⟩⟩⟩
      refine ⟨.ref b, rfl, .ref b, .ty "int", .type (Kn.name .tup), .type "int", kitB .tup .int, rfl, .ty _, Kd.tyx (.tup hb), kit_kn .tup .int, _, rfl, iteF ⟨.ref b, rfl, .ref b, .ty "str", .type (Kn.name .tup), .type "str", kitB .tup .str, rfl, .ty _, Kd.tyx (.tup hb), kit_kn .tup .str, _, rfl, iteF ?_⟩⟩
      refine ⟨.ref b, rfl, .ref b, .ty "tuple", .type (Kn.name .tup), .type "tuple", kitB .tup .tup, rfl, .ty _, Kd.tyx (.tup hb), kit_kn .tup .tup, .ref a, rfl, .ref a, .ty "tuple", .type (Kn.name .tup), .type "tuple", kitB .tup .tup, rfl, .ty _, Kd.tyx (.tup ha), kit_kn .tup .tup, rfl, _, rfl, iteF ?_⟩
      refine ⟨.ref b, rfl, .ref b, .ty "list", .type (Kn.name .tup), .type "list", kitB .tup .lst, rfl, .ty _, Kd.tyx (.tup hb), kit_kn .tup .lst, .ref a, rfl, .ref a, .ty "list", .type (Kn.name .tup), .type "list", kitB .tup .lst, rfl, .ty _, Kd.tyx (.tup ha), kit_kn .tup .lst, rfl, _, rfl, iteF ?_⟩
      refine ⟨.ref a, rfl, a, xs, rfl, .inr (SqT.of ha), .ref b, rfl, b, ys, rfl, .inr (SqT.of hb), rfl, _, rfl, ?_⟩
      rw [hl, decide_eq_true rfl]
      refine iteF ⟨.ref a, rfl, .ref b, rfl, a, b, xs, ys, rfl, .inr ⟨SqT.of ha, SqT.of hb, RZ.for_zipT hl (fun _ σ H' => (∃ u v, σ = [some (.ref a), some (.ref b), u, v]) ∧ Same H H') ⟨⟨_, _, rfl⟩, Same.refl H⟩ (fun i σ H' p => ⟨SqT.of (p.2 _ _ ha), SqT.of (p.2 _ _ hb)⟩) ?_ ?_⟩⟩
      · rintro i x y t σ H' hx hy ⟨⟨u, v, rfl⟩, k⟩ nt
        refine ⟨t, [x, y], rfl, SqT.of upd_same, rfl, x, [y], rfl, y, [], rfl, rfl, ?_⟩
        refine ⟨x, rfl, y, rfl, x, y, rfl, hm _ _ _ _ (k.trans (Same.new nt)) (hp i x y hx hy), fun H3 k3 => ⟨_, rfl, iteF ⟨⟨_, _, rfl⟩, (k.trans (Same.new nt)).trans k3⟩⟩⟩
      · rintro σ H' ⟨⟨u, v, rfl⟩, k⟩
        exact q H' k
theorem SameX.mono {S : Hp → V → V → Prop} (hm : ∀ H H' x y, Same H H' → S H x y → S H' x y) : ∀ H H' x y, Same H H' → SameX S H x y → SameX S H' x y := fun H H' x y k h => by
  cases h with
  | non => exact .non
  | bl b => exact .bl b
  | int i => exact .int i
  | str z => exact .str z
  | tup ha hb hl hn hp => exact .tup (k _ _ ha) (k _ _ hb) hl hn fun i x y hx hy => hm _ _ _ _ k (hp i x y hx hy)
end
end LawK
set_option maxHeartbeats 4000000
/-! A text read from its end. -/
namespace Ev
open PySem PySem.Spec PyProof.Rows L2
def revC (z : Str) : List Nat := (List.range z.length).map fun k => z.cps.getD (z.length - 1 - k) 0
def revZ (z : Str) : Str := SX.S (revC z)
theorem rev_pick (z : Str) : (Builtin.Str.strSliceIndices none none (-1) z.length).filterMap (z.cps[·]?) = revC z := by
  rw [picked_rev, filterMap_get, List.map_map]
  · rfl
  · intro i hi
    obtain ⟨k, hk, rfl⟩ := List.mem_map.mp hi
    have hk' := List.mem_range.mp hk
    show z.length - 1 - k < z.length
    omega
theorem revC_len (z : Str) : (revC z).length = z.length := by
  unfold revC
  rw [List.length_map, List.length_range]
theorem revZ_len (z : Str) : (revZ z).length = z.length := (SX.S_len _).trans (revC_len z)
theorem revC_mem {z : Str} {c : Nat} (h : c ∈ revC z) : c ∈ z.cps.toList := by
  obtain ⟨k, hk, rfl⟩ := List.mem_map.mp h
  have hk' := List.mem_range.mp hk
  have hi : z.length - 1 - k < z.cps.size := by
    show z.length - 1 - k < z.length
    omega
  have e : z.cps.getD (z.length - 1 - k) 0 = z.cps[z.length - 1 - k] := by simp [Array.getD, hi]
  rw [e]
  exact Array.getElem_mem_toList hi
theorem sgB_rev {z : Str} (h : sgB z = true) : sgB (revZ z) = true := List.all_eq_true.mpr fun c hc => sgB_mem h (revC_mem hc)
def tRevS (te : TE) : TE := fun σ H Q => te σ H fun x H1 => ∃ z : Str, x = .str z ∧ z.length ≤ sizeLine ∧ Q (.str (revZ z)) H1
theorem pe_revS {X : Cx} {e : Expr} {te : TE} {k : Nat} {p1 p2 p3 pos : Pos} (he : PE X e te) :
    PE X (.Subscript e (.Slice none none (some (.UnaryOp .USub (.Constant (.int 1) k p1) p2)) p3) pos) (tRevS te) := by
  constructor
  intro pins s σ H Q I h
  apply Subscript_
  refine thn (he.run pins s σ H _ I h) ?_
  rintro v s1 ⟨x, H1, I1, r1, z, rfl, hz, q⟩
  obtain ⟨t, rfl⟩ := r1
  have hst : PO X (some (.UnaryOp .USub (.Constant (.int 1) k p1) p2)) _ := po_some (pe_un un_neg pe_int)
  apply wpAny_Slice
  refine thn (po_none.run pins s1 σ H1 (fun o H2 => o = none ∧ H2 = H1) I1 ⟨rfl, rfl⟩) ?_
  rintro vl s2 ⟨l, H2, I2, pl, rfl, rfl⟩
  refine thn (po_none.run pins s2 σ _ (fun o H3 => o = none ∧ H3 = H2) I2 ⟨rfl, rfl⟩) ?_
  rintro vu s3 ⟨u, H3, I3, pu, rfl, rfl⟩
  refine thn (hst.run pins s3 σ _ (fun o H4 => o = some (-1) ∧ H4 = H3) I3 ⟨1, rfl, -1, rfl, rfl, rfl⟩) ?_
  rintro vs s4 ⟨o, H4, I4, pz, rfl, rfl⟩
  have I5 := I4.kept (t' := s4.toks) (h' := s4.heap.push { cls := .type "slice", data := .fields #[vl, vu, vs] }) fun b ob g => Heap.get?_push_of_some _ g
  obtain ⟨l', rfl, el⟩ := IsPart.raw pl
  obtain ⟨u', rfl, eu⟩ := IsPart.raw pu
  obtain ⟨w', rfl, ew⟩ := IsPart.raw pz
  refine tail_any (ops := [.str z t, .ref s4.heap.objs.size]) (typeIs_str _ _ _) F.slot_str_getitem.lookup ?_ (by with_unfolding_all rfl)
  have e1 : ((w'.map (·.1)).getD 1 == 1) = false := by rw [ew]; rfl
  have e0 : ((w'.map (·.1)).getD 1 == 0) = false := by rw [ew]; rfl
  refine wpAny_getItem_str_slice (l := l') (u := u') (st := w') (Heap.IsSliceOf.new ..) e0 ?_
  have em : sliceMade z t l' u' w' = Made.str (revZ z) := by
    unfold sliceMade
    rw [e1, Bool.false_and, if_neg (by decide)]
    have e2 : slicePicked z l' u' w' = Builtin.Str.strSliceIndices none none (-1) z.length := by
      unfold slicePicked
      rw [el, eu, ew]
      rfl
    rw [e2, rev_pick]
    rfl
  rw [em]
  refine ⟨?_, .str (revZ z), H4, I5.tok _, ⟨_, rfl⟩, q⟩
  rw [revZ_len]
  exact hz
end Ev
set_option maxHeartbeats 4000000
/-! Objects of an own class, made where the making may raise; == by an own __eq__, with anything. -/
namespace Ev
open PySem PySem.Spec PyProof.Rows L2
section
variable {X : Cx} {CX : CXT} {k : Nat} {f C : Addr} {fd : FuncData} {ps : List Str} {sp : Sp} {x : Str} {p pos : Pos} {e : Expr} {es : List Expr} {t : TA}
theorem run_mkAt {pins : List (Addr × Obj)} {σ : L2.St} {H : Hp} {s : Shared} {Q : VK} {us : List Value} {vs : List V} {E : XK} (M : Mk X.K C f) (F : FnOk X.prog X.w X.K X.mg X.base CX k f fd ps sp) (hr : Room (k + 1) X.A) (hb : Binds X.K fd ps []) (hx : PassesAt CX X σ E) (I : Inv X pins σ H s) (r : Vals vs us)
    (h : ∀ a dx, H a = none → H dx = none → dx ≠ a → sp (.ref a :: vs) (upd (upd H dx (.own a)) a (.ins C dx [])) (fun v H2 => v = .non ∧ Q (.ref a) H2) E) :
    wpAny (model X.prog X.w) X.A (call (.ref C) us) (EP X pins σ Q) X.xe s := by
  have q := h (s.heap.objs.size + 1) s.heap.objs.size (I.hok.fresh (Nat.le_succ _)) (I.hok.fresh (Nat.le_refl _)) (Nat.ne_of_lt (Nat.lt_succ_self _))
  have J := Inv.made (C := C) I
  have rv : Vals (V.ref (s.heap.objs.size + 1) :: vs) (Value.ref (s.heap.objs.size + 1) :: us) := .cons rfl r
  have len := F.len _ _ _ _ q
  have lu : (Value.ref (s.heap.objs.size + 1) :: us ++ []).length = ps.length := by
    rw [List.append_nil, ← rv.length]
    exact len
  have bnd := hb _ (Value.ref (s.heap.objs.size + 1) :: us) J.kIn lu
  rw [List.append_nil] at bnd
  have go := F.run _ X.stack _ _ ⟨Value.ref (s.heap.objs.size + 1) :: us, []⟩ (Value.ref (s.heap.objs.size + 1) :: us) _ _ E (hr.make C us []) (J.env0.make C us []) bnd rv q
  refine wpAny_call (make_map (f := f) I.kIn M.makes M.init (beq_iff_eq.mp M.fn) (codeAny_mono go ?_))
  intro res s' got
  match res, got with
  | .error er, got => exact hx pins _ _ er s' J got
  | .ok (.ret u), got =>
    obtain ⟨v, H', I3, ru, rfl, q3⟩ := J.after got
    exact ⟨ru, ⟨V.ref (s.heap.objs.size + 1), H', I3, rfl, q3⟩⟩
  | .ok .next, got => exact got.elim
  | .ok .brk, got => exact got.elim
  | .ok .cont, got => exact got.elim
def tMkS (C : Addr) (sp : Sp) (E : L2.St → XK) (t : TA) : TE := fun σ H Q => t σ H fun vs H1 => ∀ a dx, H1 a = none → H1 dx = none → dx ≠ a →
  sp (.ref a :: vs) (upd (upd H1 dx (.own a)) a (.ins C dx [])) (fun v H2 => v = .non ∧ Q (.ref a) H2) (E σ)
theorem pe_mkS {E : L2.St → XK} (M : Mk X.K C f) (F : FnOk X.prog X.w X.K X.mg X.base CX k f fd ps sp) (hr : Room (k + 1) X.A) (hg : Gl X x) (hm : X.mg x = some (.ref C)) (hb : Binds X.K fd ps []) (hx : ∀ σ, PassesAt CX X σ (E σ)) (ha : PA X (e :: es) t)
    (hdb : (x == ("__debug__" : Str)) = false := by decide) (he : starEach (e :: es) X.env = (false, eval e X.env) :: starEach es X.env := by rfl) (hpl : (backTo pos (starEach es X.env)).any (·.1) = false := by rfl) :
    PE X (.Call (.Name x p) (e :: es) [] pos) (tMkS C sp E t) := by
  constructor
  intro pins s σ H Q I h
  refine wpAny_Call_Name_kw (ld_glob I hg hm ?_ hdb)
  refine PySem.W.callWith_K (h₀ := X.base) I.ok.mod.kin M.kp (thn (ha.run pos pins s σ H _ I h) ?_) he hpl
  rintro us s1 ⟨vs, H1, I1, r, q⟩
  exact ⟨I1.kIn, run_mkAt M F hr hb (hx σ) I1 r q⟩
theorem passL_at (σ : L2.St) : PassesAt (L2.CX X.prog X.w) X σ E0 := fun pins H s e s' I h => passL pins σ H s e s' I h
/-- x == y, x an object of the class at C -/
def rEqO (C : Addr) (K : PySem.W.Frag) (sp : Sp) (E : XK) : R2 := fun x y H Q => ∃ a dx fs t, x = .ref a ∧ H a = some (.ins C dx fs) ∧ TyX K H y t ∧ PySem.W.notFirst K C t = true ∧ sp [x, y] H (fun v H' => (∃ b, v = .bl b) ∧ Q v H') E
theorem op_eqO {E : XK} (F : FnOk X.prog X.w X.K X.mg X.base CX k f fd ps sp) (hs : PySem.W.findIn X.K (.ref C) "__eq__" = some (some (.ref f))) (hf : PySem.W.isFn X.K (.ref f) = true) (hb : Binds X.K fd ps []) (hx : Passes CX X E) (hr : Room k X.A) : OpR X (compareOp .Eq) (rEqO C X.K sp E) := by
  intro pins s σ H x y v u Q I rx ry h
  obtain ⟨a, dx, fs, t, rfl, ha, ty, nf, q⟩ := h
  cases rx
  obtain ⟨mA, J, _⟩ := ins_get I.hok ha
  obtain ⟨od, J, _⟩ := J.look
  obtain ⟨m, hF⟩ := I.fr
  obtain ⟨P, Z, hp, _⟩ := kit_of I ry ty
  show wpAny (model X.prog X.w) X.A (richCompare .Eq _ u) (EP X pins σ Q) X.xe s
  refine PySem.W.cmp_K (op := .Eq) (tb := t) hr.units0 hF I.ok.mod.kin J (Z.ty _ _ I.kIn hp) nf hs hf ?_
  have len := F.len _ _ _ _ q
  have rv : Vals [V.ref a, y] [Value.ref a, u] := .cons rfl (.cons ry .nil)
  have bnd := hb s [Value.ref a, u] I.kIn (by simpa using len)
  have go := F.run X.A X.stack s H ⟨[Value.ref a, u], []⟩ [Value.ref a, u] [V.ref a, y] _ E hr I.env0 (by simpa using bnd) rv q
  refine wpAny_call (codeAny_mono go ?_)
  intro res s' got
  match res, got with
  | .error er, got => exact hx pins σ H s er s' I got
  | .ok (.ret w), got =>
    obtain ⟨z, H', I', rz, ⟨b, rfl⟩, q'⟩ := I.after got
    cases rz
    exact ⟨.bl b, H', I', rfl, q'⟩
  | .ok .next, got => exact got.elim
  | .ok .brk, got => exact got.elim
  | .ok .cont, got => exact got.elim
end
end Ev
set_option maxHeartbeats 4000000
/-! Tuples of texts as data. -/
namespace Ev
open PySem PySem.Spec PyProof.Rows L2
theorem dp_strs {K : PySem.W.Frag} {H : Hp} : ∀ ts : List Str, DpAll K H (ts.map V.str) (ts.map PyData.str)
  | [] => .nil
  | t :: ts => .cons (.str t) (dp_strs ts)
theorem eqv_strs : ∀ ts us : List Str, PyData.eqvAll (ts.map PyData.str) (us.map PyData.str) = decide (ts = us)
  | [], [] => by rw [decide_eq_true rfl]; rfl
  | [], u :: us => by rw [decide_eq_false (by simp)]; rfl
  | t :: ts, [] => by rw [decide_eq_false (by simp)]; rfl
  | t :: ts, u :: us => by
    show (PyData.eqv (.str t) (.str u) && PyData.eqvAll (ts.map PyData.str) (us.map PyData.str)) = _
    rw [eqv_strs ts us]
    show ((t == u) && _) = _
    by_cases e : t = u
    · subst e
      by_cases e2 : ts = us
      · subst e2
        simp
      · simp [e2]
    · have : (t == u) = false := by simpa using e
      rw [this, Bool.false_and, decide_eq_false fun z => e (by injection z)]
theorem strOk_sg {t : Str} (h : sgB t = true) : PyData.strOk t = true := by
  have g : ∀ c ∈ t.cps.toList, c ≤ 126 := fun c hc => by
    have := sgB_mem h hc
    unfold sgC at this
    exact of_decide_eq_true (Bool.and_eq_true_iff.mp this).2
  show t.cps.all (· < 0x110000) = true
  rw [← Array.all_toList, List.all_eq_true]
  intro c hc
  have := g c hc
  exact decide_eq_true (by omega)
theorem shaped_strs {ts : List Str} (h : ∀ t ∈ ts, sgB t = true) : SeqAt.shaped (.tuple (ts.map PyData.str)) = true := by
  have h1 : ∀ us : List Str, (∀ t ∈ us, sgB t = true) → PyData.canLayAll0 (us.map PyData.str) = true := fun us hu => by
    induction us with
    | nil => rfl
    | cons u us ih =>
      show (PyData.strOk u && PyData.canLayAll0 (us.map PyData.str)) = true
      rw [strOk_sg (hu u (by simp)), ih fun t ht => hu t (List.mem_cons_of_mem _ ht)]
      rfl
  have h2 : ∀ us : List Str, PyData.depthAll (us.map PyData.str) ≤ 1 := fun us => by
    induction us with
    | nil => exact Nat.zero_le _
    | cons u us ih =>
      simp only [List.map_cons, PyData.depthAll, PyData.depth]
      omega
  unfold SeqAt.shaped
  have a : (PyData.tuple (ts.map PyData.str)).canLay0 = true := h1 ts h
  have b : (PyData.tuple (ts.map PyData.str)).depth ≤ 64 := by
    have := h2 ts
    simp only [PyData.depth]
    omega
  rw [a, decide_eq_true b]
  rfl
end Ev
set_option maxHeartbeats 4000000
/-! Own errors whose __init__ says super().__init__() and nothing else. -/
namespace Ev
open PySem PySem.W PySem.Calls PyProof.Rows L2

abbrev supArgs (p : Pos) : Arguments := { posonlyargs := [], args := [{ arg := "self", annotation := none, pos := p }], vararg := none, kwonlyargs := [], kw_defaults := [], kwarg := none, defaults := [] }
abbrev supBody (p0 p1 p2 p3 p4 : Pos) : List Stmt := [.Expr (.Call (.Attribute (.Call (.Name "super" p0) [] [] p1) "__init__" p2) [] [] p3) p4]

abbrev supScope : Scope := { kind := .function, names := [(PySem.Str.ofString "self", .local), (PySem.Str.ofString "__class__", .free), (PySem.Str.ofString "super", .globalImplicit)], isGenerator := false, isCoroutine := false, more := [] }
theorem sup_l1 : supScope.names.lookup ("self" : Str) = some .local := by decide +kernel
theorem sup_l2 : supScope.names.lookup ("super" : Str) = some .globalImplicit := by decide +kernel
theorem sup_l3 : supScope.names.lookup ("__class__" : Str) = some .free := by decide +kernel
/-- what the written part tells of such a class at C, whose __init__ stands at fI -/
structure SupC (P : Program) (K : Frag) (mg : Str → Option Value) (C fI : Addr) : Prop where
  oex : OexC K C
  ini : findIn K (.ref C) "__init__" = some (some (.ref fI))
  tyI : typeIn K (.ref fI) = some (.type "function")
  fn : ∃ (oc : Value) (od : Option Addr) (qual : Str) (kV doc pm ct : Value) (an : Option Addr) (cda cc : Addr) (osl : Array (Option Value)) (p p0 p1 p2 p3 p4 : Pos) (ccl : Value) (cdd : Option Addr) (vs : Array Value) (ccs : Array (Option Value)) (file : Str) (tf : Tok) (cl : Value) (cld : Option Addr) (csl : Array (Option Value)),
    K.lookup fI = some ⟨oc, od, .func (ksFn "__init__" qual (supArgs p) (supBody p0 p1 p2 p3 p4) supScope .none kV doc pm an (.ref cda) ct cc), osl⟩ ∧ codeIn K (.ref cda) qual = true ∧
    K.lookup cda = some ⟨ccl, cdd, .fields vs, ccs⟩ ∧ vs[2]? = some (.str file tf) ∧ ((P.main.file : Str) == file) = true ∧ K.lookup cc = some ⟨cl, cld, .cell (some (.ref C)), csl⟩ ∧
    (p2.endLine == p3.line) = true
  gs : mg "super" = none
  top : (P.main.scope.names.lookup ("super" : Str)).isSome = false
  third : nsIn K cStatics "thirdparty.any" = some none
  sup : ks_superIn K C C "__init__" = some (some (.builtin "ValueError.__init__"))
  ve : subIn K (.ref C) (.type "ValueError") = some true
  me : mroIn K C (.ref C) = some true

theorem sup_eval {env : Env} {p0 p1 p2 p3 : Pos} (h : (p2.endLine == p3.line) = true) : eval (.Call (.Attribute (.Call (.Name "super" p0) [] [] p1) "__init__" p2) [] [] p3) env = (do
      let ov ← attributeBase (.Call (.Name "super" p0) [] [] p1) "__init__" env (eval (.Call (.Name "super" p0) [] [] p1) env)
      standAt p2.atName
      let (f, first) ← holding [ov] (getMethod ov "__init__" (do return (← importBound (.Call (.Name "super" p0) [] [] p1) env).getD true))
      callWith p3 f first (backTo p3 (starEach [] env)) []) := by
  have e : methodCallPos true (.Call (.Name "super" p0) [] [] p1) env p2 p3 = pure p3 := by
    unfold methodCallPos
    rw [h]
    rfl
  show (do
    let ov ← attributeBase (.Call (.Name "super" p0) [] [] p1) "__init__" env (eval (.Call (.Name "super" p0) [] [] p1) env)
    standAt p2.atName
    let (f, first) ← holding [ov] (getMethod ov "__init__" (do return (← importBound (.Call (.Name "super" p0) [] [] p1) env).getD true))
    let callPos ← methodCallPos true (.Call (.Name "super" p0) [] [] p1) env p2 p3
    callWith callPos f first (backTo p3 (starEach [] env)) []) = _
  rw [e]
  rfl
theorem boot_super : bootBuiltins "super" = some (.type "super") := by first | boot_by_name | rfl | kernel_rfl

section
variable {P : Program} {w : World} {A : Around} {E : Value → Shared → Prop} {K : Frag} {mg mb : Str → Option Value} {C fI x t0 : Addr} {h : Heap} {g : Array GenState} {d : Drawn} {tk : Nat} {os : OsState}

/-- the wrapper that super().__init__ gives, called: the args are laid anew -/
theorem bound_init {u : Addr} {Q : Value → Shared → Prop} (T : OexC K C) (X : K.In h) (hu : h.get? u = some (kxs_mw "ValueError.__init__" x)) (hx : h.get? x = some (PySem.HandSPX.excO C t0))
    (hq : ∀ h' t1, (∀ b o, b ≠ x → h.get? b = some o → h'.get? b = some o) → h'.get? x = some (PySem.HandSPX.excO C t1) → Q .none ⟨h', g, d, tk, os⟩) :
    wpAny (model P w) A (call (.ref u) []) Q E ⟨h, g, d, tk, os⟩ := by
  obtain ⟨nm, q, N, bs, bm, sn, sub, ab, col, dd, k0, k1, k2, k3, k5, hC, hbm⟩ := T.cls
  refine wpAny_call (codeAny_of_tree ?_)
  show wpAny _ A.in1 (callAny (.ref u) ⟨[], []⟩) _ _ _
  simp only [callAny]
  refine wpAny_bind (wpAny_load hu ?_)
  simp only [kxs_mw, show (Value.type "method-wrapper" == Value.type "method" || Value.type "method-wrapper" == Value.type "builtin_function_or_method" || Value.type "method-wrapper" == Value.type "method-wrapper") = true by decide, if_true]
  refine KFB.if_so (by decide) ?_
  refine wpAny_bind (check_bound_init F.excBase_ValueError.toExcCallFacts (X _ _ hC) hx rfl ?_)
  refine wpAny_bind (wpAny_pure (wpAny_pure ?_))
  refine ⟨plainId_quiet F.excBase_ValueError.init.plain _, codeAny_builtin F.excBase_ValueError.initEntry ?_⟩
  exact exc_init_tree (cls := .ref C) (t0 := t0) (dv := none) (c2 := .none) (c3 := .none) (b4 := .bool false) hx (by rw [sizeLine_eq]; exact Nat.zero_le _) fun h' k e _ => hq h' h.objs.size k e

theorem sup_init {R : Result → Shared → Prop} {s : Shared} (T : SupC P K mg C fI) (hroom : A.depth < recursionLimit) (X : K.In s.heap) (hlim : s.heap.NoLimit) (G : s.heap.Ns mainGlobals mg) (B : s.heap.Ns builtinsNs mb)
    (hbb : ∀ y : Str, y ≠ "__name__" → mb y = bootBuiltins y) (hx : s.heap.get? x = some (PySem.HandSPX.excO C t0))
    (hq : ∀ h' t' t1, (∀ b o, b ≠ x → s.heap.get? b = some o → h'.get? b = some o) → h'.get? x = some (PySem.HandSPX.excO C t1) → R (.ok (.ret .none)) { s with heap := h', toks := t' }) :
    codeAny (model P w) A (.call (.ref fI) ⟨[.ref x], []⟩) R s := by
  obtain ⟨oc, od, qual, kV, doc, pm, ct, an, cda, cc, osl, p, p0, p1, p2, p3, p4, ccl, cdd, vs, ccs, file, tf, cl, cld, csl, ho, hcd, hcode, hvs, hfile, hcell, hline⟩ := T.fn
  refine ks_codeAny_call_defAt (fd := ksFn "__init__" qual (supArgs p) (supBody p0 p1 p2 p3 p4) supScope .none kV doc pm an (.ref cda) ct cc) (body := supBody p0 p1 p2 p3 p4) (binds := [("self", .ref x)]) hroom (X _ _ ho) rfl hlim (codeRec_of X hcd) rfl
    (BindsTo.of_eq rfl) (by show ∀ y ∈ supScope.names, y.2 ≠ .cell; decide) (fun y hy => ?_) (fun h₁ hns k₁ => ?_)
  · obtain rfl : y = (("self" : Str), Value.ref x) := List.mem_singleton.mp hy
    exact sup_l1
  obtain ⟨hp, g, d, tk, os⟩ := s
  have X₁ : K.In h₁ := X.keeps k₁
  have hx₁ : h₁.get? x = some (PySem.HandSPX.excO C t0) := k₁ _ _ hx
  have G₁ : h₁.Ns mainGlobals mg := G.keeps k₁
  have B₁ : h₁.Ns builtinsNs mb := B.keeps k₁
  obtain ⟨nm, q, N, bs, bm, sn, sub, ab, col, dd, q0, q1, q2, q3, q5, hC, hbm⟩ := T.oex.cls
  show _root_.PySem.wpAt _ _ _ (execs (supBody p0 p1 p2 p3 p4) (ksEnv qual supScope hp.objs.size fI (.ref cda) cc)) _ _ _
  refine ks_wpAt_execs_cons (ks_wpAt_Expr_any (ks_wpAt_MethodCall ?_ (sup_eval hline)))
  refine ks_wpAt_super_base (env := ksEnv qual supScope hp.objs.size fI (.ref cda) cc) sup_l2 sup_l3 (by decide) rfl (X₁ _ _ ho) rfl rfl rfl (X₁ _ _ hcode) rfl hvs hfile T.top ?_
  refine ks_loadName_global rfl sup_l2 (loadGlobal_builtin (env := ksEnv qual supScope hp.objs.size fI (.ref cda) cc) G₁ T.gs B₁ ((hbb _ (by decide +kernel)).trans boot_super) ⟨rfl, ?_⟩)
  refine wpAny_loadName_free rfl sup_l3 rfl ⟨_, X₁ _ _ hcell, rfl⟩ ?_
  refine wpAny_loadName_local rfl sup_l1 hns (v := .ref x) (by show List.lookup ("self" : Str) [(("self" : Str), Value.ref x)] = some (Value.ref x); simp [List.lookup]) ?_
  refine ks_wpAny_isType_cls (X₁ _ _ hC) rfl ⟨rfl, ?_⟩
  have I : InstAt h₁ x (PySem.HandSPX.excO C t0) C none := ⟨hx₁, rfl, rfl, trivial⟩
  refine ks_wpAny_call_super (X₁ _ _ hC) rfl I.at_ I.cls (fun c e => by cases e) (looks_mroIn X₁ T.me) (fun h' e k => ?_)
  have X₂ : K.In h' := X₁.keeps k
  have hx₂ : h'.get? x = some (PySem.HandSPX.excO C t0) := k _ _ hx₁
  have I₂ : InstAt h' x (PySem.HandSPX.excO C t0) C none := ⟨hx₂, rfl, rfl, trivial⟩
  have hsu := T.sup
  unfold ks_superIn at hsu
  have hcl : clsIn K C = some { name := nm, bases := bs, mro := .ref C :: bm, ns := N, qualname := q, hasDict := true, slotNames := sn, subclasses := sub, abstract := ab, collection := col, hasDel := false } := by unfold clsIn; rw [hC] <;> rfl
  rw [hcl] at hsu
  refine kxs_getMethod kxs_ValueError e (looks_opaque X₂ T.third) (l₀ := .ref C :: bm) ?_ rfl X₂ hsu (I₂.type.andThen (looks_subIn X₂ T.ve)) (ks_ne X₂ I₂ hcl) (by decide) ?_
  · exact fun A Q E s k q => wpAny_bind ((looks_clsIn X₂ hcl) A _ E s k (wpAny_pure q))
  have hne : h'.objs.size ≠ x := Nat.ne_of_gt (Heap.lt_size hx₂)
  have k2 : ∀ b o, h'.get? b = some o → (h'.push (kxs_mw "ValueError.__init__" x)).get? b = some o := fun b o z => Heap.get?_push_of_some _ z
  have hmw : (h'.push (kxs_mw "ValueError.__init__" x)).get? h'.objs.size = some (kxs_mw "ValueError.__init__" x) := Heap.get?_push_at rfl rfl
  refine kxs_callWith (i := "ValueError.__init__") (x := x) rfl (evalArgs_empty ⟨hmw, ?_⟩)
  refine bound_init T.oex (X₂.keeps k2) hmw (k2 _ _ hx₂) fun h3 t1 k3 hx3 => ?_
  exact wpAt_of_wpAny (wpAny_execs_nil (hq h3 _ t1 (fun b o hb z => k3 b o hb (k2 b o (k b o (k₁ b o z)))) hx3))
end
end Ev
set_option maxHeartbeats 4000000
/-! Rules for own errors as values: made, asked by isinstance, their fields read. -/
namespace Ev
open PySem PySem.Spec PyProof.Rows L2

section
variable {X : Cx} {x : Str} {C fI : Addr} {p pos : Pos}
theorem make_room {k : Nat} {A : Around} (hr : Room k A) {us : List Value} : (A.under (.builtin "type.__call__" ⟨.ref C :: us, []⟩)).depth < recursionLimit := by
  rw [make_depth]
  have := hr.dp
  omega
/-- C() of a class whose __init__ is super().__init__(): what stands behind it -/
theorem run_exc0 {pins : List (Addr × Obj)} {s : Shared} {σ : L2.St} {H : Hp} {k : Nat} {Q : Value → Shared → Prop} (T : SupC X.prog X.K X.mg C fI) (hr : Room k X.A) (I : Inv X pins σ H s)
    (h : ∀ h' tk a t1, s.heap.objs.size ≤ a → (∀ b o, s.heap.get? b = some o → h'.get? b = some o) → h'.get? a = some (PySem.HandSPX.excO C t1) → Q (.ref a) { s with heap := h', toks := tk }) :
    wpAny (model X.prog X.w) X.A (call (.ref C) []) Q X.xe s := by
  obtain ⟨nm, q, N, bs, bm, sn, sub, ab, col, dd, k0, k1, k2, k3, k5, hC, hbm⟩ := T.oex.cls
  obtain ⟨mb, hb1, hb2⟩ := I.mod.blt
  have kX := I.kIn
  have lim := I.nolimit
  have g1 := I.mod.glob.keeps I.bk
  have b1 := hb1.keeps I.bk
  obtain ⟨hp, g, dr, tk, os⟩ := s
  have kk : ∀ b o, hp.get? b = some o → ((hp.push (PySem.W.kdv_tup [])).push (PySem.HandSPX.excO C hp.objs.size)).get? b = some o := fun b o e => Heap.get?_push_of_some _ (Heap.get?_push_of_some _ e)
  have hget : ((hp.push (PySem.W.kdv_tup [])).push (PySem.HandSPX.excO C hp.objs.size)).get? (hp.objs.size + 1) = some (PySem.HandSPX.excO C hp.objs.size) := by heap_get
  refine wpAny_call (PySem.HandSPX.call_own F.excBase_ValueError (fun Y => PySem.HandSPX.refsVE_contains Y bm hbm) (kX _ _ hC) (PySem.W.looks_findIn kX T.ini) (fun self => PySem.W.bind_fn kX self T.tyI) (by rw [sizeLine_eq]; exact Nat.zero_le _)
    (sup_init (s := ⟨(hp.push (PySem.W.kdv_tup [])).push (PySem.HandSPX.excO C hp.objs.size), g, dr, tk, os⟩) T (make_room hr) (kX.keeps kk) (lim.keeps kk) (g1.keeps kk) (b1.keeps kk) hb2 hget fun h' t' t1 k' hx => ⟨rfl, ?_⟩))
  exact h h' t' (hp.objs.size + 1) t1 (Nat.le_succ _) (fun b o e => k' b o (Nat.ne_of_lt (Nat.lt_succ_of_lt (Heap.lt_size e))) (kk b o e)) hx
def tExc0 (C : Addr) : TE := fun _ H Q => ∀ a, H a = none → Q (.ref a) (upd H a (exo a C none))
theorem pe_exc0 {k : Nat} (T : SupC X.prog X.K X.mg C fI) (hr : Room k X.A) (hg : Gl X x) (hm : X.mg x = some (.ref C)) (hdb : (x == ("__debug__" : Str)) = false := by decide) : PE X (.Call (.Name x p) [] [] pos) (tExc0 C) := by
  refine ⟨fun pins s σ H Q I h => ?_⟩
  refine wpAny_Call_Name_kw (ld_glob I hg hm ?_ hdb)
  refine PySem.W.callWith_K0 I.kIn T.oex.kC ?_
  show wpAny _ _ (call (.ref C) []) _ _ _
  refine run_exc0 T hr I fun h' tk a t1 ha k e => ?_
  exact ⟨.ref a, upd H a (exo a C none), I.laid k ha (exo_ok e), rfl, h a (I.hok.fresh ha)⟩
/-- raised at once -/
theorem pmk_exc0 {k : Nat} (T : SupC X.prog X.K X.mg C fI) (hr : Room k X.A) (hg : Gl X x) (hm : X.mg x = some (.ref C)) (hdb : (x == ("__debug__" : Str)) = false := by decide) : PMk X (.Call (.Name x p) [] [] pos) (fun _ H Q => Q (.ref C) none H) := by
  intro pins s σ H Q I h
  refine wpAny_Call_Name_kw (ld_glob I hg hm ?_ hdb)
  refine PySem.W.callWith_K0 I.kIn T.oex.kC ?_
  show wpAny _ _ (call (.ref C) []) _ _ _
  refine run_exc0 T hr I fun h' tk a t1 ha k e => ?_
  refine ⟨a, _, _, s, H, .ref C, none, rfl, I, k, ?_, e, ⟨rfl, rfl⟩, rfl, rfl, I.hok.fresh ha, rfl, I.bare, raises_own T.oex.exC T.oex.tyC, h⟩
  exact Heap.get?_none_of_le ha
end

/-! ### __init__(self, f): self.f = f -/
structure Ini1 (st : Stmt) (f : Str) : Prop where
  body : ∃ q1 q2 q3 q4, defBody st = [.Assign [.Attribute (.Name "self" q1) f q2] (.Name f q3) q4]
  sc : FnScope ["self", f] ["self", f] (defScope st)
  l0 : (defScope st).names.lookup ("self" : Str) = some .local
  l1 : (defScope st).names.lookup f = some .local
  d1 : (f == ("__debug__" : Str)) = false
  d2 : (f == ("__classdict__" : Str)) = false
def spIni1 (C : Addr) (f : Str) : Sp := fun vs H Q _ => ∃ (a : Addr) (v : V), vs = [.ref a, v] ∧ H a = some (exo a C none) ∧ ∀ dx, H dx = none → dx ≠ a → Q .non (upd (upd H dx (exd dx [(f, v)])) a (exo a C (some dx)))
section
variable {P : Program} {w : World} {K : PySem.W.Frag} {mg : Str → Option Value} {base : Heap} {C : Addr}
theorem ok_ini1 {qual f : Str} {st : Stmt} {fI : Addr} {fd : FuncData} (F : Fun K "__init__" qual st fI fd) (S : Ini1 st f) (T : OexC K C) (hno : PySem.W.findIn K (.ref C) f = some none) : FnOk P w K mg base CX0 1 fI fd ["self", f] (spIni1 C f) := by
  refine F.ok S.sc (fun vs H Q E h => ?_) (fun cdv A outer s H vs Q E hr h => ?_)
  · obtain ⟨a, v, rfl, _⟩ := h
    rfl
  · obtain ⟨a, v, rfl, ha, q⟩ := h
    obtain ⟨q1, q2, q3, q4, hb⟩ := S.body
    rw [hb]
    refine ⟨_, pss_one (ps_ost (pv 0 rfl (.inl S.l0)) (pv 1 rfl (.inl S.l1) S.d1 S.d2)), ?_⟩
    exact ⟨v, rfl, .ref a, rfl, a, C, rfl, T, hno, .inl ⟨ha, fun dx n ne => q dx n ne⟩⟩
end
theorem upd3 {H : Hp} {a d : Addr} {o1 o2 o3 : HO} (h : d ≠ a) : upd (upd (upd H a o1) d o2) a o3 = upd (upd H d o2) a o3 := by
  funext b
  by_cases e : b = a
  · rw [e, upd_same, upd_same]
  · rw [upd_ne e, upd_ne e]
    by_cases e2 : b = d
    · rw [e2, upd_same, upd_same]
    · rw [upd_ne e2, upd_ne e2, upd_ne e]
def tExc1 (C : Addr) (f : Str) (ta : TA) : TE := fun σ H Q => ta σ H fun vs H1 => ∃ v, vs = [v] ∧ ∀ a d, H1 a = none → H1 d = none → d ≠ a → Q (.ref a) (upd (upd H1 d (exd d [(f, v)])) a (exo a C (some d)))
section
variable {X : Cx} {x f : Str} {C fI : Addr} {p pos : Pos} {e : Expr} {ta : TA} {fd : FuncData}
theorem pe_exc1 {k : Nat} (T : OexC X.K C) (iC : PySem.W.findIn X.K (.ref C) "__init__" = some (some (.ref fI))) (tI : PySem.W.typeIn X.K (.ref fI) = some (.type "function")) (F1 : FnOk X.prog X.w X.K X.mg X.base CX0 1 fI fd ["self", f] (spIni1 C f)) (hr : Room (k + 2) X.A)
    (hb : Binds X.K fd ["self", f] []) (hg : Gl X x) (hm : X.mg x = some (.ref C)) (ha : PA X [e] ta) (hdb : (x == ("__debug__" : Str)) = false := by decide) (he : starEach (e :: []) X.env = (false, eval e X.env) :: starEach [] X.env := by rfl)
    (hpl : (backTo pos (starEach [] X.env)).any (·.1) = false := by rfl) : PE X (.Call (.Name x p) [e] [] pos) (tExc1 C f ta) := by
  refine ⟨fun pins s σ H Q I h => ?_⟩
  obtain ⟨nm, q, N, bs, bm, sn, sub, ab, col, dd, k0, k1, k2, k3, k5, hC, hbm⟩ := T.cls
  refine wpAny_Call_Name_kw (ld_glob I hg hm ?_ hdb)
  refine PySem.W.callWith_K (h₀ := X.base) I.ok.mod.kin T.kC (thn (ha.run pos pins s σ H _ I h) fun us s1 ⟨vs, H1, I1, r1, v, ev, q1⟩ => ⟨I1.kIn, ?_⟩) he hpl
  subst ev
  show wpAny _ _ (call (.ref C) us) _ _ _
  obtain ⟨hp, g, dr, tk, os⟩ := s1
  have hsz : hp.objs.size ≤ hp.objs.size + 1 := Nat.le_succ _
  have hn : H1 (hp.objs.size + 1) = none := I1.hok.fresh hsz
  have kk : ∀ b o, hp.get? b = some o → ((hp.push (PySem.W.kdv_tup us)).push (PySem.HandSPX.excO C hp.objs.size)).get? b = some o := fun b o e => Heap.get?_push_of_some _ (Heap.get?_push_of_some _ e)
  have hget : ((hp.push (PySem.W.kdv_tup us)).push (PySem.HandSPX.excO C hp.objs.size)).get? (hp.objs.size + 1) = some (PySem.HandSPX.excO C hp.objs.size) := by heap_get
  have I2 : Inv X pins σ (upd H1 (hp.objs.size + 1) (exo (hp.objs.size + 1) C none)) ⟨(hp.push (PySem.W.kdv_tup us)).push (PySem.HandSPX.excO C hp.objs.size), g, dr, tk, os⟩ :=
    I1.laid (t' := tk) (a := hp.objs.size + 1) (o := exo (hp.objs.size + 1) C none) (h' := (hp.push (PySem.W.kdv_tup us)).push (PySem.HandSPX.excO C hp.objs.size)) kk hsz (exo_ok hget)
  have r2 : Vals [V.ref (hp.objs.size + 1), v] (Value.ref (hp.objs.size + 1) :: us) := .cons rfl r1
  have hl1 : us.length = 1 := by rw [← Paired.length r1] <;> rfl
  have hl : (Value.ref (hp.objs.size + 1) :: us ++ []).length = (["self", f] : List Str).length := by
    rw [List.append_nil, List.length_cons, hl1] <;> rfl
  have hus : us.length ≤ sizeLine := by
    rw [hl1, sizeLine_eq]
    omega
  have b2 := hb _ (Value.ref (hp.objs.size + 1) :: us) I2.kIn hl
  rw [List.append_nil] at b2
  have hq : spIni1 C f [V.ref (hp.objs.size + 1), v] (upd H1 (hp.objs.size + 1) (exo (hp.objs.size + 1) C none)) (fun z H2 => z = .non ∧ Q (.ref (hp.objs.size + 1)) H2) E0 := by
    refine ⟨_, v, rfl, upd_same, fun dx n ne => ⟨rfl, ?_⟩⟩
    rw [upd_ne ne] at n
    rw [upd3 ne]
    exact q1 _ dx hn n ne
  refine wpAny_call (PySem.HandSPX.call_own F.excBase_ValueError (fun Y => PySem.HandSPX.refsVE_contains Y bm hbm) (I1.kIn _ _ hC) (PySem.W.looks_findIn I1.kIn iC) (fun self => PySem.W.bind_fn I1.kIn self tI) hus
    (codeAny_mono (F1.run _ X.stack _ _ ⟨Value.ref (hp.objs.size + 1) :: us, []⟩ (Value.ref (hp.objs.size + 1) :: us) _ _ E0 ((hr.mono (by omega : 1 + 1 ≤ k + 2)).make C us []) (I2.env0.make C us []) b2 r2 hq) fun r s' hq' => ?_))
  cases r with
  | error er => exact False.elim hq'
  | ok fl =>
    cases fl with
    | ret u =>
      obtain ⟨z, H', I3, rz, ez, q3⟩ := I2.after hq'
      subst ez
      exact ⟨rz, ⟨V.ref (hp.objs.size + 1), H', I3, rfl, q3⟩⟩
    | next => exact False.elim hq'
    | brk => exact False.elim hq'
    | cont => exact False.elim hq'
end

/-! ### isinstance -/
/-- at a stands an own error of the class at C -/
def ErrAt (H : Hp) (a C : Addr) : Prop := H a = some (exo a C none) ∨ ∃ d fs, H a = some (exo a C (some d)) ∧ H d = some (exd d fs)
theorem err_inst {X : Cx} {pins : List (Addr × Obj)} {σ : L2.St} {H : Hp} {s : Shared} {a C : Addr} (I : Inv X pins σ H s) (h : ErrAt H a C) : ∃ ox od, PySem.W.InstAt s.heap a ox C od := by
  rcases h with h | ⟨d, fs, h, hd⟩
  · obtain ⟨t1, e⟩ := exo_at I.hok h
    exact ⟨_, none, e, rfl, rfl, trivial⟩
  · obtain ⟨t1, e⟩ := exo_at I.hok h
    obtain ⟨mA, ⟨o, es, ep, ho, _⟩, _⟩ := exd_at I.hok hd
    exact ⟨_, some o, e, rfl, rfl, ho⟩
/-- isinstance(e, c), e an own error -/
def rIsX (K : PySem.W.Frag) : List V → Hp → VK → Prop := fun xs H Q => ∃ (a C : Addr) (c : V) (cv : Value) (b : Bool), xs = [.ref a, c] ∧ ErrAt H a C ∧ ExcC K C ∧ ClsV c cv ∧ PySem.W.kitOne K (.ref C) cv = some b ∧ Q (.bl b) H
theorem call_isX {X : Cx} : CallR X (.builtin "isinstance") (rIsX X.K) := by
  intro pins s σ H xs us Q I r h
  obtain ⟨a, C, c, cv, b, rfl, ea, T, k, e, q⟩ := h
  obtain ⟨u1, u2, rfl, r1, r2⟩ := vals2 r
  have e2 := k.eq r2
  subst e2
  obtain rfl : u1 = Value.ref a := r1
  obtain ⟨ox, od, J⟩ := err_inst I ea
  have hcl : (PySem.W.clsIn X.K C).isSome = true := by
    obtain ⟨cd, hc, _⟩ := PySem.W.any_some T.hd
    rw [hc]
    rfl
  exact PySem.W.kia_one (PySem.W.kitx_exc hcl T.hg T.hk T.hs T.ha T.hn T.ht T.hm) I.kIn J e (fun z => nomatch z) fun tk => ⟨.bl b, H, I.tok tk, rfl, q⟩
/-- e.n, e an own error -/
def tErrF (K : PySem.W.Frag) (n : Str) (te : TE) : TE := fun σ H Q => te σ H fun x H1 => ∃ (a C d : Addr) (fs : List (Str × V)) (v : V), x = .ref a ∧ H1 a = some (exo a C (some d)) ∧ H1 d = some (exd d fs) ∧ fs.lookup n = some v ∧ XfC K C ∧ PySem.W.findIn K (.ref C) n = some none ∧ Q v H1
theorem pe_errF {X : Cx} {e : Expr} {te : TE} {pos : Pos} {n : Str} (he : PE X e te) (hb : attributeBase e n X.env (eval e X.env) = eval e X.env := by rfl) : PE X (.Attribute e n pos) (tErrF X.K n te) := by
  refine ⟨fun pins s σ H Q I h => ?_⟩
  refine attr_of hb (thn (he.run pins s σ H _ I h) fun u s1 hh => ?_)
  obtain ⟨x, H1, I1, rx, a, C, d, fs, v, ex, ea, ed, l, T, hno, q⟩ := hh
  subst ex
  obtain rfl : u = Value.ref a := rx
  obtain ⟨t1, e1⟩ := exo_at I1.hok ea
  obtain ⟨mA, hns, hr⟩ := exd_at I1.hok ed
  obtain ⟨od, ho, hl⟩ := lookIn_ns hns
  obtain ⟨u, hu, ru⟩ := RelO.some_of (v := v) (o := mA n) (by rw [← l]; exact hr n)
  have J : PySem.W.InstAt s1.heap a _ C (some od) := ⟨e1, rfl, rfl, ho⟩
  exact HandSPX.exc_get I1.kIn J T.ga T.gg T.exC (PySem.W.findObj_own T.hdC hno rfl (by rw [hl, hu])) (handed_of ru) ⟨v, H1, I1.tok _, ru, q⟩
end Ev
set_option maxHeartbeats 4000000
/-! try with several clauses «except X as n», the name the same in all of them. -/
namespace Ev
open PySem PySem.Spec PyProof.Rows L2
/-- behind a suite the name's slot (i) is empty -/
def offS (i : Nat) (D : Ends) : Ends := { nx := fun σ' H' => D.nx (σ'.set i none) H', rt := D.rt, bk := fun σ' H' => D.bk (σ'.set i none) H', ct := fun σ' H' => D.ct (σ'.set i none) H' }
def wManyAs (K : PySem.W.Frag) (i : Nat) (Wout : WX) (D : Ends) : List (Value × (Addr → Value → Option Addr → TS)) → WX
  | [] => Wout
  | (c, ts) :: r => fun cls d σ H => ∃ b, PySem.W.exmOne K cls c = some b ∧ (b = true → ∀ a, H a = none → ts a cls d (offS i D) (σ.set i (some (.ref a))) H) ∧ (b = false → wManyAs K i Wout D r cls d σ H)
inductive HdsAs (X : Cx) (n : Str) : List ExceptHandler → List (Value × (Addr → Value → Option Addr → TS)) → Prop
  | nil : HdsAs X n [] []
  | cons {x : Str} {c : Value} {ts : Addr → Value → Option Addr → TS} {b₀ : Stmt} {suite : List Stmt} {np pos' : Pos} {hds : List ExceptHandler} {l : List (Value × (Addr → Value → Option Addr → TS))} (hc : Names X x c)
      (hsu : ∀ (a : Addr) (oe : Obj) (cls : Value) (d : Option Addr) (pn : List (Addr × Obj)), Zc cls d oe → (∃ vs, oe.data = .fields vs) → PSs (X.suite a ((a, oe) :: pn)) (b₀ :: suite) (ts a cls d)) (r : HdsAs X n hds l) :
      HdsAs X n (.ExceptHandler (some (.Name x np)) (some n) (b₀ :: suite) pos' :: hds) ((c, ts) :: l)
section
variable {X : Cx} {body : List Stmt} {h₀ : ExceptHandler} {hds : List ExceptHandler} {l : List (Value × (Addr → Value → Option Addr → TS))} {pos : Pos} {tb : WX → TS} {Wout : WX} {n : Str} {i : Nat}
theorem ps_try_manyAs (hs : X.stack = X.env :: X.outer) (hf : X.env.frame = some X.env.locals) (hN : X.N.Nodup) (hi : X.N[i]? = some n) (hln : X.env.kindOf n = some .local) (tk : Takes X Wout)
    (hb : ∀ (W : WX) (pn : List (Addr × Obj)) (xe : Value → Shared → Prop), Takes (X.tr pn xe) W → PassesOwn (model X.prog X.w) X.A X.env xe → PSs (X.tr pn xe) body (tb W))
    (hh : HdsAs X n (h₀ :: hds) l) : PS X (.Try body (h₀ :: hds) [] [] pos) (fun D σ H => tb (wManyAs X.K i Wout D l) D σ H) := by
  refine ⟨fun pins s σ H D I h => ?_⟩
  have ok := I.ok
  have hfr : X.A.frames = some (X.env :: X.outer) := by rw [ok.frames, hs]
  have hloc : Loc X.env.scope n := .inl hln
  refine wpAny_Try_except (wpAny_mono ((hb (wManyAs X.K i Wout D l) (X.pn ++ pins) (fun e s₁ => wpAny (model X.prog X.w) X.A (noteFrame e X.env) (fun _ s₂ => wpAny (model X.prog X.w) X.A (setFlight e none) (fun _ s₃ =>
    wpAny (model X.prog X.w) X.A (handleBy e X.env (h₀ :: hds)) (SP X pins D) X.xe s₃) X.xe s₂) X.xe s₁) (fun u s' xx => ?_) PassesOwn.looking).run [] s σ H D (I.toTry _) h) (fun f s1 hsp => ?_) (fun e s1 he => he))
  · obtain ⟨a, B, sI, pins', σ', H', cls, d, rfl, J', nb, up, sky, na, os, ag, w⟩ := xx
    have J : L2.Inv X pins σ' H' sI := J'.ofTry ok
    have sky' : Sky B (X.env :: X.outer) a (Zc cls d) X.env.locals s'.heap := by rw [← hs]; exact sky
    refine Sky.land Zc.steady hfr hf sky' fun h3 fl3 up3 => ?_
    have J3 : L2.Inv X pins σ' H' { s' with heap := h3 } := J.landed nb fl3.1 (up.trans up3) os ag
    obtain ⟨oe3, vs3, he3, hz3, hd3⟩ := fl3.there
    have nfr : a ∉ frs (X.env :: X.outer) := fun hm => by
      obtain ⟨_, o', e', hnf⟩ := fl3.2.2.1.mem hm
      rw [he3] at e'; cases e'
      exact hnf _ hd3
    have nL : a ≠ X.env.locals := fun z => nfr (List.mem_filterMap.mpr ⟨X.env, List.mem_cons_self, by rw [hf, z]⟩)
    have nF : a ∉ X.fs := fun hm => by
      obtain ⟨e, he, q⟩ := List.mem_filterMap.mp hm
      exact nfr (List.mem_filterMap.mpr ⟨e, List.mem_cons_of_mem _ he, q⟩)
    have S3 := J3.suite he3 hd3 na nL nF
    have LT : PySem.W.Looks (model X.prog X.w) h3 (typeOf (.ref a)) cls := fun A Q E s k q => wpAny_typeOf_ref (k _ _ he3) (by rw [hz3.1]; exact q)
    have go : ∀ {hds' : List ExceptHandler} {l' : List (Value × (Addr → Value → Option Addr → TS))}, HdsAs X n hds' l' → wManyAs X.K i Wout D l' cls d σ' H' →
        wpAny (model X.prog X.w) X.A (handleBy (.ref a) X.env hds') (SP X pins D) X.xe { s' with heap := h3 } := by
      intro hds' l' hk
      induction hk with
      | nil =>
        intro w
        refine wpAny_handleBy_nil ?_
        obtain ⟨k1, k2, k3, oe, vs, T, oT, ts', he, hz, hd, h1, hr⟩ := id fl3
        unfold PySem.passOn
        refine wpAny_bind (wpAny_field he hd h1 ?_)
        rw [if_neg (show ¬ ((Value.ref T == Value.none) = true) from by simp)]
        have fin : wpAny (model X.prog X.w) X.A (setFlight (.ref a) X.env.frame) (fun _ s4 => wpAny (model X.prog X.w) X.A (throw (.ref a) : Sem Flow) (SP X pins D) X.xe s4) X.xe { s' with heap := h3 } := by
          rw [hf]
          refine HandSPX.setFlight_upZ fl3 fun h4 hh4 up4 => wpAny_throw (tk _ _ ?_)
          exact ⟨a, B, sI, pins, σ', H', cls, d, rfl, J, nb, (up.trans up3).trans up4, .inr (.inr (by rw [hs]; exact hh4)), na, os, ag, w⟩
        first
          | exact wpAny_bind (wpAny_pure (wpAny_bind fin))
          | exact wpAny_bind fin
      | @cons x c ts b₀ suite np pos' hds2 l2 hc hsu r ih =>
        intro w
        obtain ⟨b, hb1, hyes, hno⟩ := w
        refine wpAny_handleBy_cons (codeAny_handlers_test ?_) (by intro q; cases q)
        have LM := PySem.W.exm_one (M := model X.prog X.w) (J3.kIn) LT hb1
        have test : ∀ {Q : Value → Shared → Prop} {E : Value → Shared → Prop}, Q c { s' with heap := h3 } → wpAny (model X.prog X.w) (X.A.mark (some (.ref a))) (eval (.Name x np) X.env) Q E { s' with heap := h3 } := fun {Q E} q => by
          obtain ⟨hg, hdbg, hm | ⟨hm, hv, hnn⟩⟩ := hc
          · exact ld_glob (X := X.suite a ((a, oe3) :: (X.pn ++ pins))) S3 hg hm q hdbg
          · exact ld_blt (X := X.suite a ((a, oe3) :: (X.pn ++ pins))) S3 hg hm hv q hnn hdbg
        refine test (LM.here ?_)
        cases b with
        | true =>
          refine codeAny_handlers_suite_as (HandSPX.lands_againZ fl3 fun h4 fl4 up4 => ?_)
          have J4 : L2.Inv X pins σ' H' { s' with heap := h4 } := J.landed nb fl4.1 ((up.trans up3).trans up4) os ag
          obtain ⟨oe4, vs4, he4, hz4, hd4⟩ := fl4.there
          refine store_ok (X := X.suite a ((a, oe4) :: (X.pn ++ pins))) (v := .ref a) (J4.suite he4 hd4 na nL nF) hN hi hloc rfl (fun s5 S5 => ?_) (.inr hln)
          refine wpAny_mono ((hsu a oe4 cls d (X.pn ++ pins) hz4 ⟨_, hd4⟩).run [] s5 _ H' _ S5 (hyes rfl a na)) (fun f s6 hsp => ?_) (fun _ _ z => False.elim z)
          cases f with
          | next =>
            obtain ⟨σ6, H6, S6, q6⟩ := hsp
            exact gone_ok (S6.unsuite ok) hN hi hln fun s7 J7 => ⟨_, _, J7, q6⟩
          | brk =>
            obtain ⟨σ6, H6, S6, q6⟩ := hsp
            exact gone_ok (S6.unsuite ok) hN hi hln fun s7 J7 => ⟨_, _, J7, q6⟩
          | cont =>
            obtain ⟨σ6, H6, S6, q6⟩ := hsp
            exact gone_ok (S6.unsuite ok) hN hi hln fun s7 J7 => ⟨_, _, J7, q6⟩
          | ret u =>
            obtain ⟨v6, σ6, H6, S6, r6, q6⟩ := hsp
            exact gone_ok (S6.unsuite ok) hN hi hln fun s7 J7 => ⟨_, _, _, J7, r6, q6⟩
        | false => exact ih (hno rfl)
    exact go hh w
  · cases f with
    | next =>
      obtain ⟨σ', H', J', q⟩ := hsp
      exact wpAny_execs_nil ⟨σ', H', J'.ofTry ok, q⟩
    | brk =>
      obtain ⟨σ', H', J', q⟩ := hsp
      exact ⟨σ', H', J'.ofTry ok, q⟩
    | cont =>
      obtain ⟨σ', H', J', q⟩ := hsp
      exact ⟨σ', H', J'.ofTry ok, q⟩
    | ret u =>
      obtain ⟨v, σ', H', J', r, q⟩ := hsp
      exact ⟨v, σ', H', J'.ofTry ok, r, q⟩
end
end Ev
set_option maxHeartbeats 8000000
namespace LawK
open PySem PySem.Spec PyProof.Rows L2 Ev
abbrev veT : List Value := [.type "ValueError", .type "Exception", .type "BaseException", .type "object"]
/-- an own error class at C, over the one at PE -/
structure ErC (K : PySem.W.Frag) (PE C : Addr) : Prop where
  oex : OexC K C
  isx : ExcC K C
  xf : XfC K C
  mro : ∃ cd, PySem.W.clsIn K C = some cd ∧ cd.mro = .ref C :: .ref PE :: veT
  isT : PySem.W.typeIn K (.ref C) = some (.type "type")
section
variable {K : PySem.W.Frag} {PE C D : Addr}
theorem ErC.sub (T : ErC K PE C) (b : Value) : PySem.W.subIn K (.ref C) b = some ((Value.ref C :: .ref PE :: veT).contains b) := by
  obtain ⟨cd, h1, h2⟩ := T.mro
  show (PySem.W.clsIn K C).bind _ = _
  rw [h1, Option.bind_some, h2]
  rfl
theorem kit_at (TD : ErC K PE D) (T : ErC K PE C) (n : D ≠ PE) : PySem.W.kitOne K (.ref C) (.ref D) = some (decide (C = D)) := by
  unfold PySem.W.kitOne
  by_cases e : C = D
  · subst e
    rw [if_pos (by simp), decide_eq_true rfl]
  · rw [if_neg (by simpa using e), decide_eq_false e]
    obtain ⟨cd, h1, h2⟩ := TD.mro
    show (if ((PySem.W.clsIn K D).isSome && PySem.W.typeIn K (.ref D) == some (.type "type")) = true then PySem.W.subIn K (.ref C) (.ref D) else none) = some false
    rw [if_pos (by rw [h1, TD.isT]; rfl), T.sub]
    have e2 : D ≠ C := fun z => e z.symm
    simp [veT, e2, n]
end
/-- an error class without a field -/
structure Cls0 (P : Program) (K : PySem.W.Frag) (mg : Str → Option Value) (PE : Addr) (x : Str) (C : Addr) : Prop where
  er : ErC K PE C
  ne : C ≠ PE
  sup : ∃ fI, SupC P K mg C fI
  g : mg x = some (.ref C)
/-- an error class with the field f -/
structure Cls1 (K : PySem.W.Frag) (mg : Str → Option Value) (PE : Addr) (x f : Str) (C : Addr) : Prop where
  er : ErC K PE C
  ne : C ≠ PE
  g : mg x = some (.ref C)
  ini : ∃ (fI : Addr) (fd : FuncData) (st : Stmt) (qual : Str), Fun K "__init__" qual st fI fd ∧ Ini1 st f ∧ Binds K fd ["self", f] [] ∧ PySem.W.findIn K (.ref C) "__init__" = some (some (.ref fI)) ∧ PySem.W.typeIn K (.ref fI) = some (.type "function")
  hno : PySem.W.findIn K (.ref C) f = some none
section
variable {X : Cx} {x f : Str} {PE C : Addr} {p pos : Pos} {e : Expr} {ta : TA} {k : Nat}
theorem pe_c0 (T : Cls0 X.prog X.K X.mg PE x C) (hr : Room k X.A) (hg : Gl X x := by rfl) (hdb : (x == ("__debug__" : Str)) = false := by decide) : L2.PE X (.Call (.Name x p) [] [] pos) (tExc0 C) := by
  obtain ⟨fI, S⟩ := T.sup
  exact pe_exc0 S hr hg T.g hdb
theorem pe_c1 (T : Cls1 X.K X.mg PE x f C) (hr : Room (k + 2) X.A) (ha : PA X [e] ta) (hg : Gl X x := by rfl) (hdb : (x == ("__debug__" : Str)) = false := by decide) (he : starEach (e :: []) X.env = (false, eval e X.env) :: starEach [] X.env := by rfl)
    (hpl : (backTo pos (starEach [] X.env)).any (·.1) = false := by rfl) : L2.PE X (.Call (.Name x p) [e] [] pos) (tExc1 C f ta) := by
  obtain ⟨fI, fd, st, qual, F1, S1, b1, iC, tI⟩ := T.ini
  exact pe_exc1 T.er.oex iC tI (ok_ini1 F1 S1 T.er.oex T.hno) hr b1 hg T.g ha hdb he hpl
def tMk1 (C : Addr) (f : Str) (ta : TA) : L2.St → Hp → XK → Prop := fun σ H Q => ta σ H fun vs H1 => ∃ v, vs = [v] ∧ ∀ d, H1 d = none → Q (.ref C) (some d) (upd H1 d (.xd [(f, v)]))
theorem del_upd {H : Hp} {a d : Addr} {o1 o2 o3 u : HO} (ha : H a = none) (hd : d ≠ a) : upd (del (upd (upd (upd H a o1) d o2) a o3) a) d u = upd H d u := by
  funext b
  by_cases e : b = d
  · rw [e, upd_same, upd_same]
  · rw [upd_ne e, upd_ne e]
    by_cases e2 : b = a
    · rw [e2, del_same, ha]
    · rw [del_ne e2, upd_ne e2, upd_ne e, upd_ne e2]
theorem pmk_c1 (T : Cls1 X.K X.mg PE x f C) (hr : Room (k + 2) X.A) (ha : PA X [e] ta) (hg : Gl X x := by rfl) (hdb : (x == ("__debug__" : Str)) = false := by decide) (he : starEach (e :: []) X.env = (false, eval e X.env) :: starEach [] X.env := by rfl)
    (hpl : (backTo pos (starEach [] X.env)).any (·.1) = false := by rfl) (hm : ∀ {σ : L2.St} {H : Hp} {Q1 Q2 : List V → Hp → Prop}, (∀ vs H1, Q1 vs H1 → Q2 vs H1) → ta σ H Q1 → ta σ H Q2) : PMk X (.Call (.Name x p) [e] [] pos) (tMk1 C f ta) := by
  obtain ⟨fI, fd, st, qual, F1, S1, b1, iC, tI⟩ := T.ini
  intro pins s σ H Q I h
  refine pmk_oex (CX := CX0) (k := 1) (sp := spIni1 C f) (ds := []) (dvs := []) T.er.oex iC tI (ok_ini1 F1 S1 T.er.oex T.hno) (hr.mono (by omega)) b1 .nil (fun _ _ _ _ _ _ _ z => z.elim) hg T.g ha hdb he hpl pins s σ H Q I (hm (fun vs H1 q => ?_) h)
  obtain ⟨v, rfl, q⟩ := q
  refine ⟨by show 1 ≤ 1000; decide, fun a na => ⟨a, v, rfl, upd_same, fun dx n ne => ⟨rfl, dx, _, upd_same, by rw [upd_ne ne, upd_same], ?_, ?_⟩⟩⟩
  · rw [upd_ne ne] at n
    exact n
  · rw [del_upd na ne]
    rw [upd_ne ne] at n
    exact q dx n
end
structure BaseX (K : PySem.W.Frag) (PE : Addr) : Prop where
  sub : PySem.W.subIn K (.ref PE) (.type "BaseException") = some true
  hd : PySem.W.hasDictIn K PE = true
  isT : PySem.W.typeIn K (.ref PE) = some (.type "type")
section
variable {K : PySem.W.Frag} {PE : Addr}
theorem exm_at {C D : Addr} (TD : ErC K PE D) (T : ErC K PE C) (n : D ≠ PE) : PySem.W.exmOne K (.ref C) (.ref D) = some (decide (C = D)) := by
  refine PySem.W.exm_ref TD.isx.hs TD.isx.hd TD.isT ?_
  rw [T.sub]
  by_cases e : C = D
  · subst e
    simp
  · have e2 : D ≠ C := fun z => e z.symm
    rw [decide_eq_false e]
    simp [veT, e2, n]
theorem exm_base {C : Addr} (B : BaseX K PE) (T : ErC K PE C) : PySem.W.exmOne K (.ref C) (.ref PE) = some true := by
  refine PySem.W.exm_ref B.sub B.hd B.isT ?_
  rw [T.sub]
  simp [veT]
theorem tCons1 {i j : Nat} {σ : L2.St} {H : Hp} {Q1 Q2 : List V → Hp → Prop} (h : ∀ vs H1, Q1 vs H1 → Q2 vs H1) : tCons (tVar i) tNil σ H Q1 → tCons (tVar i) tNil σ H Q2 := fun ⟨v, e, q⟩ => ⟨v, e, h _ _ q⟩
end
def chkE (K : PySem.W.Frag) (C : Addr) : Bool := xfB K C && (decide (PySem.W.typeIn K (.ref C) = some (.type "type")) && (PySem.W.keepIn K (.ref C) && (decide (PySem.W.findIn K (.ref C) "__class__" = some (some (.builtin "object.__class__"))) && decide (PySem.W.mroIn K C (.type "object") = some true))))
def chkC (K : PySem.W.Frag) (PE C : Addr) : Bool := chkE K C && (decide (PySem.W.findIn K (.ref C) "__setattr__" = some (some (.builtin "object.__setattr__"))) && decide (C ≠ PE))
structure Sh (K : PySem.W.Frag) : Prop where
  hn : PySem.W.specialIn K (.builtin "object.__class__") "__get__" = some (some (.builtin "getset_descriptor.__get__"))
  ht : PySem.W.takesIn K (.builtin "object.__class__") = some true
structure Sh0 (P : Program) (K : PySem.W.Frag) (mg : Str → Option Value) : Prop extends Sh K where
  gs : mg "super" = none
  top : (P.main.scope.names.lookup ("super" : Str)).isSome = false
  third : PySem.W.nsIn K cStatics "thirdparty.any" = some none
structure CkE (K : PySem.W.Frag) (C : Addr) : Prop where
  xf : XfC K C
  isT : PySem.W.typeIn K (.ref C) = some (.type "type")
  kp : PySem.W.keepIn K (.ref C) = true
  ha : PySem.W.findIn K (.ref C) "__class__" = some (some (.builtin "object.__class__"))
  hm : PySem.W.mroIn K C (.type "object") = some true
theorem chkE_ok {K : PySem.W.Frag} {C : Addr} (h : chkE K C = true) : CkE K C := by
  obtain ⟨h1, h⟩ := Bool.and_eq_true_iff.mp h
  obtain ⟨h2, h⟩ := Bool.and_eq_true_iff.mp h
  obtain ⟨h3, h⟩ := Bool.and_eq_true_iff.mp h
  obtain ⟨h4, h5⟩ := Bool.and_eq_true_iff.mp h
  exact ⟨xfB_ok h1, of_decide_eq_true h2, h3, of_decide_eq_true h4, of_decide_eq_true h5⟩
theorem CkE.isx {K : PySem.W.Frag} {C : Addr} (T : CkE K C) (S : Sh K) : ExcC K C := ⟨T.xf.ga, T.xf.gg, T.xf.exC, T.xf.hdC, T.ha, S.hn, S.ht, T.hm⟩
section
variable {P : Program} {w : World} {K : PySem.W.Frag} {mg : Str → Option Value} {h : Heap} {PE C fI : Addr} {x f qual : Str} {nm q : Str} {N : Addr} {bs : List Value} {sn : List Str} {sub : List Value} {ab : Bool} {col : Option Bool} {dd : Option Addr} {k0 k1 k2 k3 k5 : Option Value}
theorem mro_of {bm : List Value} {id : String} (lC : K.lookup C = some (excClassObj nm q C N bs bm true sn sub ab col dd k0 k1 k2 k3 k5 id)) : ∃ cd, PySem.W.clsIn K C = some cd ∧ cd.mro = .ref C :: bm := by
  have e : PySem.W.clsIn K C = some { name := nm, bases := bs, mro := .ref C :: bm, ns := N, qualname := q, hasDict := true, slotNames := sn, subclasses := sub, abstract := ab, collection := col, hasDel := false } := by
    unfold PySem.W.clsIn
    rw [lC]
  exact ⟨_, e, rfl⟩
theorem er_mk (S : Sh K) (lC : K.lookup C = some (excClassObj nm q C N bs (.ref PE :: veT) true sn sub ab col dd k0 k1 k2 k3 k5 "ValueError.__new__")) (ck : chkC K PE C = true) : ErC K PE C ∧ C ≠ PE := by
  obtain ⟨c1, c2⟩ := Bool.and_eq_true_iff.mp ck
  obtain ⟨c2, c3⟩ := Bool.and_eq_true_iff.mp c2
  have T := chkE_ok c1
  exact ⟨⟨⟨⟨nm, q, N, bs, _, sn, sub, ab, col, dd, k0, k1, k2, k3, k5, lC, (show PySem.HandSPX.refsVE veT = true by decide +kernel)⟩, of_decide_eq_true c2, T.xf.exC, T.isT, T.kp⟩, T.isx S, T.xf, mro_of lC, T.isT⟩, of_decide_eq_true c3⟩
theorem say {K : PySem.W.Frag} {h : Heap} (X : K.In h) (T : PySem.W.Frag → Prop) {g : Prop} (a : T K) (k : T K → g) : g := k a
def chk1 (K : PySem.W.Frag) (PE C fI : Addr) (f : Str) (cd : Value) (qual : Str) : Bool := chkC K PE C && (decide (PySem.W.typeIn K (.ref fI) = some (.type "function")) && (PySem.W.codeIn K cd qual && (PySem.W.keepIn K (.ref fI) && decide (PySem.W.findIn K (.ref C) f = some none))))
theorem cls1_mk {st : Stmt} {oc kV dc pm cd ct : Value} {od an : Option Addr} {sl : Array (Option Value)} (X : K.In h) (G : h.Ns mainGlobals mg) (S : Sh K)
    (i1 : Ini1 st f) (hb : ∀ (kV doc pm : Value) (an : Option Addr) (cdv ct : Value) (us : List Value), us.length = 2 → bindArgs (PySem.W.fnOf "__init__" qual (defArgs st) (defBody st) (defScope st) .none kV doc pm an cdv ct) ⟨us, []⟩ = pure ((["self", f] : List Str).zip us))
    (aC : PySem.W.nsIn K mainGlobals x = some (some (.ref C))) (lC : K.lookup C = some (excClassObj nm q C N bs (.ref PE :: veT) true sn sub ab col dd k0 k1 k2 k3 k5 "ValueError.__new__"))
    (iC : PySem.W.findIn K (.ref C) "__init__" = some (some (.ref fI))) (lI : K.lookup fI = some ⟨oc, od, .func (PySem.W.fnOf "__init__" qual (defArgs st) (defBody st) (defScope st) .none kV dc pm an cd ct), sl⟩)
    (ck : chk1 K PE C fI f cd qual = true) : Cls1 K mg PE x f C := by
  obtain ⟨c1, c2⟩ := Bool.and_eq_true_iff.mp ck
  obtain ⟨c2, c3⟩ := Bool.and_eq_true_iff.mp c2
  obtain ⟨c3, c4⟩ := Bool.and_eq_true_iff.mp c3
  obtain ⟨c4, c5⟩ := Bool.and_eq_true_iff.mp c4
  obtain ⟨e, n⟩ := er_mk S lC c1
  have F1 := fun_mk (st := st) lI c3 c4
  exact ⟨e, n, PySem.W.mg_of X G aC, ⟨fI, _, st, qual, F1, i1, F1.binds (ps := ["self", f]) hb, iC, of_decide_eq_true c2⟩, of_decide_eq_true c5⟩
def chk0 (K : PySem.W.Frag) (PE C fI : Addr) (cd : Value) (qual : Str) : Bool := chkC K PE C && (decide (PySem.W.typeIn K (.ref fI) = some (.type "function")) && (PySem.W.codeIn K cd qual && (decide (PySem.W.ks_superIn K C C "__init__" = some (some (.builtin "ValueError.__init__"))) && (decide (PySem.W.subIn K (.ref C) (.type "ValueError") = some true) && decide (PySem.W.mroIn K C (.ref C) = some true)))))
theorem cls0_mk {oc kV dc pm ct : Value} {od an : Option Addr} {cda cc : Addr} {osl : Array (Option Value)} {p p0 p1 p2 p3 p4 : Pos} {ccl : Value} {cdd : Option Addr} {vs : Array Value} {ccs : Array (Option Value)} {file : Str} {tf : Tok} {cl : Value} {cld : Option Addr} {csl : Array (Option Value)}
    (X : K.In h) (G : h.Ns mainGlobals mg) (S : Sh0 P K mg)
    (aC : PySem.W.nsIn K mainGlobals x = some (some (.ref C))) (lC : K.lookup C = some (excClassObj nm q C N bs (.ref PE :: veT) true sn sub ab col dd k0 k1 k2 k3 k5 "ValueError.__new__"))
    (iC : PySem.W.findIn K (.ref C) "__init__" = some (some (.ref fI)))
    (lI : K.lookup fI = some ⟨oc, od, .func (PySem.W.ksFn "__init__" qual (supArgs p) (supBody p0 p1 p2 p3 p4) supScope .none kV dc pm an (.ref cda) ct cc), osl⟩)
    (lD : K.lookup cda = some ⟨ccl, cdd, .fields vs, ccs⟩) (lc : K.lookup cc = some ⟨cl, cld, .cell (some (.ref C)), csl⟩)
    (v2 : vs[2]? = some (.str file tf)) (vf : ((P.main.file : Str) == file) = true) (pl : (p2.endLine == p3.line) = true)
    (ck : chk0 K PE C fI (.ref cda) qual = true) : Cls0 P K mg PE x C := by
  obtain ⟨c1, c2⟩ := Bool.and_eq_true_iff.mp ck
  obtain ⟨c2, c3⟩ := Bool.and_eq_true_iff.mp c2
  obtain ⟨c3, c4⟩ := Bool.and_eq_true_iff.mp c3
  obtain ⟨c4, c5⟩ := Bool.and_eq_true_iff.mp c4
  obtain ⟨c5, c6⟩ := Bool.and_eq_true_iff.mp c5
  obtain ⟨e, n⟩ := er_mk S.toSh lC c1
  exact ⟨e, n, ⟨fI, e.oex, iC, of_decide_eq_true c2, ⟨oc, od, qual, kV, dc, pm, ct, an, cda, cc, osl, p, p0, p1, p2, p3, p4, ccl, cdd, vs, ccs, file, tf, cl, cld, csl, lI, c3, lD, v2, vf, lc, pl⟩, S.gs, S.top, S.third, of_decide_eq_true c4, of_decide_eq_true c5, of_decide_eq_true c6⟩, PySem.W.mg_of X G aC⟩
theorem sh0_mk (X : K.In h) (G : h.Ns mainGlobals mg) (hn : PySem.W.specialIn K (.builtin "object.__class__") "__get__" = some (some (.builtin "getset_descriptor.__get__"))) (ht : PySem.W.takesIn K (.builtin "object.__class__") = some true)
    (gs : PySem.W.nsIn K mainGlobals "super" = some none) (top : (P.main.scope.names.lookup ("super" : Str)).isSome = false) (third : PySem.W.nsIn K cStatics "thirdparty.any" = some none) : Sh0 P K mg := ⟨⟨hn, ht⟩, PySem.W.mg_none_of X G gs, top, third⟩
end
end LawK
set_option maxHeartbeats 8000000
/-! enumerate over a tuple, as a walk. -/
namespace Ev
open PySem PySem.Spec PyProof.Rows L2
abbrev enObj (it : Addr) : Obj := { cls := .type "enumerate", data := .fields #[.none, .bool false, .ref it, rawInt 0, .none, .none] }
theorem enum_new1 {v : Value} {o : Obj} {Hh : Heap → Prop} (B : Begins v o Hh) :
    Meets (Builtin.«enumerate.__new__» ⟨[.type "enumerate", v], []⟩)
      (fun _ R s => Hh s.heap ∧ R (.ok (.ret (.ref (s.heap.push o).objs.size))) { s with heap := (s.heap.push o).push (enObj s.heap.objs.size) }) := by
  refine .of_wp fun prog w A R s hh => ?_
  obtain ⟨hp, g, d, tk, os⟩ := s
  obtain ⟨hv, hR⟩ := hh
  have hs := sub_enumerate
  have qi : ∀ {B' : Around} {E : Value → Shared → Prop} {Q : Value → Shared → Prop}, Q (.ref hp.objs.size) ⟨hp.push o, g, d, tk, os⟩ →
      wpAny (model prog w) B' (pyIter v) Q E ⟨hp, g, d, tk, os⟩ := fun q => B.iter prog w _ _ ⟨hp, g, d, tk, os⟩ _ hv q
  wp_walk using qi
  apply wpAny_stack_any
  intro st
  apply wpAny_pure
  split
  · rename_i c _ _ _ _ _
    cases (c == Value.type "enumerate") <;> (wp_walk using qi; exact ⟨_, rfl, hR⟩)
  · wp_walk using qi
    exact ⟨_, rfl, hR⟩
theorem enum_call {prog : Program} {w : World} {A : Around} {E : Value → Shared → Prop} {s : Shared} {v : Value} {o : Obj} {Hh : Heap → Prop} {Q : Value → Shared → Prop} (B : Begins v o Hh) (hv : Hh s.heap)
    (h : ∀ h', IsEnum h' (s.heap.objs.size + 1) s.heap.objs.size 0 .none → h'.get? s.heap.objs.size = some o → (∀ b u, s.heap.get? b = some u → h'.get? b = some u) →
      Q (.ref (s.heap.objs.size + 1)) { s with heap := h' }) : wpAny (model prog w) A (call (.type "enumerate") [v]) Q E s := by
  have m := enum_new1 B
  refine callType_new F.called_enumerate (by decide) (F.typeCall_enumerate_1 _) (F.newCall_enumerate_1 _) (fun obj => F.args_object_init_2 obj _) F.entry_enumerate_new m ⟨hv, ?_⟩
  have hsz : (s.heap.push o).objs.size = s.heap.objs.size + 1 := Heap.size_push ..
  show _ ∧ _
  rw [hsz]
  have hat : ((s.heap.push o).push (enObj s.heap.objs.size)).get? (s.heap.objs.size + 1) = some (enObj s.heap.objs.size) := by
    have z := Heap.get?_push_size (s.heap.push o) (o := enObj s.heap.objs.size) rfl
    rw [hsz] at z
    exact z
  exact ⟨⟨_, hat, rfl⟩, h _ hat (Heap.get?_push_of_some _ (Heap.get?_push_size _ B.free)) fun b u x => Heap.get?_push_of_some _ (Heap.get?_push_of_some _ x)⟩
/-- the tuple at a as it stands at each turn, each item in a new pair -/
def Iten (K : PySem.W.Frag) (a : Addr) : It :=
  ⟨fun i H => ∃ (xs : List V) (x : V), SqT K H a xs ∧ xs[i]? = some x,
   fun i H v H' => ∃ T x, v = .ref T ∧ H T = none ∧ H' = upd H T (.tup [.int (i : Nat), x]) ∧ ∀ xs, SqT K H a xs → xs[i]? = some x,
   fun i H => ∃ xs : List V, SqT K H a xs ∧ xs.length ≤ i⟩
theorem turn_en {P : Program} {w : World} {K : PySem.W.Frag} {elts : List Expr} {kk : Nat} {tpos : Pos} (a e it : Addr) :
    Turn P w K (.Tuple elts kk tpos) (Iten K a) [e, it] e (fun i h => (∃ old, IsEnum h e it ((i : Nat) : Int) old) ∧ h.IsTupleIter it a i ∧ e ≠ it ∧ a ≠ it ∧ a ≠ e) where
  mem := List.mem_cons_self
  obj := by
    rintro i h ⟨⟨old, he⟩, ⟨o, ho, hc, hd⟩, _⟩ b hb
    rcases List.mem_cons.mp hb with rfl | hb
    · exact ⟨_, he, fun v q => by cases q⟩
    · obtain rfl := List.mem_singleton.mp hb
      exact ⟨o, ho, fun v q => by rw [hd] at q; cases q⟩
  keep := by
    rintro i h h' ⟨⟨old, he⟩, hi, hn⟩ k
    exact ⟨⟨old, k e (by simp) _ he⟩, hi.at fun o q => k it (by simp) o q, hn⟩
  item := by
    intro X hP hw hK hc i pins s σ H E I hf st hg
    subst hP hw hK
    obtain ⟨⟨old, he⟩, hit, hne, hai, hae⟩ := st
    obtain ⟨xs, x, hq, hx⟩ := hg
    obtain ⟨its, rv, p, hz⟩ := I.tuple hq
    obtain ⟨u, hu, ru⟩ := rv.get hx
    have hel : e < s.heap.objs.size := Heap.lt_size he
    have hil : it < s.heap.objs.size := by
      obtain ⟨_, q, _⟩ := hit
      exact Heap.lt_size q
    have hlt : i < its.toArray.size := by
      rw [List.size_toArray]
      exact (List.getElem?_eq_some_iff.mp hu).1
    have D := Draws.tuple (prog := X.prog) (w := X.w) (A := X.A.in1) (I.ok.hd hc) it a hai its.toArray
    refine wpAny_pyNext_enum_itemD D he ⟨hit, (show s.heap.IsTuple a its.toArray from p)⟩ hlt hne (by simp [hne, Ne.symm hae]) fun y h' tk hy ho hst hT hsz hk => ?_
    have ey : y = u := by
      have z : its.toArray[i]? = some y := hy
      rw [List.getElem?_toArray, hu] at z
      exact (Option.some.inj z).symm
    subst ey
    refine ⟨_, rfl, ?_⟩
    refine wpAny_letOwnedTupleGo_enum (s := ⟨h', s.gens, s.drawn, tk + 1, s.os⟩) ho ?_
    intro h2 he2 sb
    have at2 : h2.get? s.heap.objs.size = some { cls := .type "tuple", data := .seq #[.int i tk, y] } := by
      rw [sb.2 _ (Nat.ne_of_gt hel)]
      exact hT
    have cell : ObjOk X.prog X.w (upd H s.heap.objs.size (.tup [.int (i : Nat), x])) h2 s.heap.objs.size (.tup [.int (i : Nat), x]) := by
      refine ⟨by show 2 ≤ sizeLine; decide, [.int i tk, y], .cons ⟨_, rfl⟩ (.cons ru .nil), ⟨_, at2, rfl, _, rfl⟩⟩
    have far : ∀ b ob, b ∉ [e, it] → s.heap.get? b = some ob → h2.get? b = some ob := fun b ob hb q => by
      have n1 : b ≠ e := fun z => hb (by simp [z])
      have n2 : b ≠ it := fun z => hb (by simp [z])
      rw [sb.2 b n1]
      exact hk b ob n1 n2 q
    have J := I.turnedNew (ch := [e, it]) (t' := tk + 1) far hf (Nat.le_refl _) cell
    refine ⟨.ref s.heap.objs.size, _, J, rfl, ⟨_, x, rfl, I.hok.fresh (Nat.le_refl _), rfl, fun ys hy => by rw [I.tuple_inj hy hq]; exact hx⟩, ⟨⟨y, ?_⟩, ?_, hne, hai, hae⟩, fun b hb => ?_⟩
    · have e1 : ((i + 1 : Nat) : Int) = (i : Int) + 1 := by omega
      rw [e1]
      exact he2
    · exact hst.1.at fun o q => by
        rw [sb.2 it (Ne.symm hne)]
        exact q
    · have lt : b < s.heap.objs.size := by
        rcases List.mem_cons.mp hb with rfl | hb
        · exact hel
        · obtain rfl := List.mem_singleton.mp hb
          exact hil
      rw [upd_ne (Nat.ne_of_lt lt)]
      exact (hf b hb).1
  done := by
    intro X hP hw hK hc i pins s σ H E I hf st hg
    subst hP hw hK
    obtain ⟨⟨old, he⟩, hit, hne, hai, hae⟩ := st
    obtain ⟨xs, hq, hx⟩ := hg
    obtain ⟨its, rv, p, hz⟩ := I.tuple hq
    obtain ⟨f0, f1, f2, f3, f4, f5⟩ := hf it (by simp)
    have hl := rv.length
    have none_i : its.toArray[i]? = none := by
      rw [List.getElem?_toArray, List.getElem?_eq_none_iff]
      omega
    have D : Draws X.prog X.w X.A.in1 it [it, a] i (fun j v => its.toArray[j]? = some v) (fun j h => (h.IsTupleIter it a j ∧ h.IsTuple a its.toArray) ∧ i ≤ j) :=
      { live := fun _ _ st => let ⟨o, ho, _⟩ := st.1.1; ⟨o, ho⟩
        frame := fun _ _ _ st hk => ⟨⟨st.1.1.at fun o e => hk it (by simp) o e, st.1.2.at fun o e => hk a (by simp) o e⟩, st.2⟩
        item := fun j _ _ _ hj st _ => absurd st.2 (by omega)
        done := fun s Q E st hE => wpAny_nextOf_tuple_end (I.ok.hd hc) st.1.1 st.1.2 none_i hE }
    refine wpAny_pyNext_enum_endD D he ⟨⟨hit, (show s.heap.IsTuple a its.toArray from p)⟩, Nat.le_refl _⟩ fun h' eb => ⟨rfl, ?_⟩
    exact I.turned (t' := s.toks) (fun b o hb q => eb b o hb q) f0 f1 f3 f4 f5
  self := fun A i s Q E st h => by
    obtain ⟨⟨_, he⟩, _⟩ := st
    exact wpAny_pyIter_enum he h
def iEnumT (K : PySem.W.Frag) (ta : TA) : TI := fun σ H R => ta σ H fun vs H1 => ∃ a xs, vs = [.ref a] ∧ SqT K H1 a xs ∧ R (Iten K a) H1
theorem pi_enumT {X : Cx} {e : Expr} {ta : TA} {p pos tpos : Pos} {elts : List Expr} {kk : Nat} (hg : Gl X "enumerate") (hm : X.mg "enumerate" = none) (ha : PA X [e] ta) (hs : starEach [e] X.env = [(false, eval e X.env)] := by rfl) :
    PI X (.Tuple elts kk tpos) (.Call (.Name "enumerate" p) [e] [] pos) (iEnumT X.K ta) := by
  constructor
  intro pins s σ H R I h
  refine Call_ (ld_blt I hg hm boot_enumerate (PyProof.Rows.callWith_type1 (thn (ha.run pos pins s σ H _ I h) ?_) hs rfl))
  rintro us s1 ⟨vs, H1, I1, r1, a, xs, rfl, hq, q⟩
  obtain ⟨u, rfl, ru⟩ := vals1 r1
  cases ru
  obtain ⟨its, rv, p', hz⟩ := I1.tuple hq
  have hal : a < s1.heap.objs.size := by
    obtain ⟨o, ho, _⟩ := p'
    exact Heap.lt_size ho
  refine enum_call (begins_tuple a its.toArray) (show s1.heap.IsTuple a its.toArray from p') fun h' he hit hk => wpAny_pyIter_enum he ?_
  have I2 : Inv X pins σ H1 { s1 with heap := h' } := I1.kept (t' := s1.toks) hk
  refine ⟨s1.heap.objs.size + 1, [s1.heap.objs.size + 1, s1.heap.objs.size], _, _, H1, rfl, I2, turn_en a (s1.heap.objs.size + 1) s1.heap.objs.size, ⟨⟨.none, he⟩, ⟨_, hit, rfl, rfl⟩, Nat.succ_ne_self _, Nat.ne_of_lt hal, Nat.ne_of_lt (Nat.lt_succ_of_lt hal)⟩, fun b hb => ?_, q⟩
  have hle : s1.heap.objs.size ≤ b := by
    rcases List.mem_cons.mp hb with rfl | hb
    · exact Nat.le_succ _
    · obtain rfl := List.mem_singleton.mp hb
      exact Nat.le_refl _
  exact I1.fpOk hle (I1.hok.fresh hle)
/-- for i, x in enumerate(t) -/
theorem for_enT {K : PySem.W.Frag} {a : Addr} {xs : List V} {g : TG} {tb : TS} {D : Ends} {σ : L2.St} {H : Hp} (Pv : Nat → L2.St → Hp → Prop) (h0 : Pv 0 σ H) (hl : ∀ i σ H, Pv i σ H → SqT K H a xs)
    (hs : ∀ (i : Nat) x σ H, xs[i]? = some x → Pv i σ H → ∀ T, H T = none → g (.ref T) σ (upd H T (.tup [.int (i : Nat), x])) fun σ2 H2 => tb { D with nx := Pv (i + 1), ct := Pv (i + 1), bk := D.nx } σ2 H2) (hd : ∀ σ H, Pv xs.length σ H → D.nx σ H) :
    ∃ W : Nat → Nat → L2.St → Hp → Prop, (∃ m, W 0 m σ H) ∧ ∀ i m σ H, W i m σ H →
      ((Iten K a).stop i H ∧ D.nx σ H) ∨ ((Iten K a).go i H ∧ ∃ N : L2.St → Hp → Prop, (∀ σ' H', N σ' H' → ∃ m', m' < m ∧ W (i + 1) m' σ' H') ∧ ∀ x H', (Iten K a).yld i H x H' → g x σ H' fun σ2 H2 => tb { D with nx := N, ct := N, bk := D.nx } σ2 H2) := by
  refine ⟨fun i m σ H => m = xs.length - i ∧ i ≤ xs.length ∧ Pv i σ H, ⟨xs.length, by simp, Nat.zero_le _, h0⟩, ?_⟩
  rintro i m σ H ⟨rfl, hi, p⟩
  have q := hl i σ H p
  by_cases hlt : i < xs.length
  · refine .inr ⟨⟨xs, xs[i], q, List.getElem?_eq_getElem hlt⟩, Pv (i + 1), fun σ' H' p' => ⟨xs.length - (i + 1), by omega, rfl, hlt, p'⟩, fun v H' y => ?_⟩
    obtain ⟨T, x, rfl, nT, rfl, hx⟩ := y
    exact hs i x σ H (hx xs q) p T nT
  · have e : i = xs.length := by omega
    subst e
    exact .inl ⟨⟨xs, q, Nat.le_refl _⟩, hd σ H p⟩
end Ev
set_option maxHeartbeats 4000000
namespace LawK
open PySem PySem.Spec PyProof.Rows L2 Ev
abbrev sLInit : Stmt := inClass (topS 14) 0
theorem scLInit : FnScope ["self", "texts", "part", "text"] ["self", "texts"] (defScope sLInit) := ⟨rfl, rfl, rfl, by decide +kernel, rfl, by decide +kernel, by decide +kernel⟩
abbrev sLEq : Stmt := inClass (topS 14) 1
theorem scLEq : FnScope ["self", "other"] ["self", "other"] (defScope sLEq) := ⟨rfl, rfl, rfl, by decide +kernel, rfl, by decide +kernel, by decide +kernel⟩
/-- the class of libraries, as it stands at C -/
structure LibC (K : PySem.W.Frag) (mg : Str → Option Value) (C fI fE : Addr) (fdI fdE : FuncData) : Prop where
  mak : Mk K C fI
  cl : Cls K C
  nt : NoAttr K C "texts"
  eq : PySem.W.findIn K (.ref C) "__eq__" = some (some (.ref fE))
  fnE : PySem.W.isFn K (.ref fE) = true
  ha : PySem.W.findIn K (.ref C) "__class__" = some (some (.builtin "object.__class__"))
  hn : PySem.W.specialIn K (.builtin "object.__class__") "__get__" = some (some (.builtin "getset_descriptor.__get__"))
  ht : PySem.W.takesIn K (.builtin "object.__class__") = some true
  hm : PySem.W.mroIn K C (.type "object") = some true
  kyes : PySem.W.kitOne K (.ref C) (.ref C) = some true
  kno : ∀ k : Kn, PySem.W.kitOne K (.type k.name) (.ref C) = some false
  nf : ∀ k : Kn, PySem.W.notFirst K C (.type k.name) = true
  nfo : PySem.W.notFirst K C (.ref C) = true
  FI : Fun K "__init__" "Library.__init__" sLInit fI fdI
  bI : Binds K fdI ["self", "texts"] []
  FE : Fun K "__eq__" "Library.__eq__" sLEq fE fdE
  bE : Binds K fdE ["self", "other"] []
  g : mg "Library" = some (.ref C)
/-- a library of these texts, at s -/
structure LibAt (H : Hp) (C s : Addr) (ts : List Str) : Prop where
  ex : ∃ dx a, H s = some (.ins C dx [("texts", .ref a)]) ∧ H a = some (.tup (ts.map V.str))
  few : ts.length ≤ 8
  sg : ∀ t ∈ ts, sgB t = true
  len : ∀ t ∈ ts, t.length ≤ 5000
  sum : ((ts.map V.str).map slen).sum ≤ 2000
theorem LibAt.same {H H' : Hp} {C s : Addr} {ts : List Str} (k : Same H H') (h : LibAt H C s ts) : LibAt H' C s ts := by
  obtain ⟨⟨dx, a, h1, h2⟩, h3, h4, h5, h6⟩ := h
  exact ⟨⟨dx, a, k _ _ h1, k _ _ h2⟩, h3, h4, h5, h6⟩
def spLEq (C : Addr) : Sp := fun vs H Q _ => ∃ (s : Addr) (ts : List Str) (y : V), vs = [.ref s, y] ∧ LibAt H C s ts ∧
  ((∃ k, Kd H y k) ∧ Q (.bl false) H ∨ ∃ b us, y = .ref b ∧ LibAt H C b us ∧ Q (.bl (decide (ts = us))) H)
def spSize (C : Addr) : Sp := fun vs H Q _ => ∃ (s : Addr) (ts : List Str), vs = [.ref s] ∧ LibAt H C s ts ∧ ∀ H', Same H H' → Q (.int (ts.map fun t => (t.length : Int)).sum) H'
def spPPlace (C : Addr) : Sp := fun vs H Q _ => ∃ (s : Addr) (ts : List Str) (x : V) (o : Option (List V)), vs = [.ref s, x] ∧ LibAt H C s ts ∧ Tg H x o ∧ Q (.bl (placeV ts o)) H
/-- nothing but the object at s has changed -/
def spLInit (C cB : Addr) : Sp := fun vs H Q E => ∃ (s dx : Addr) (x : V) (o : Option (List V)), vs = [.ref s, x] ∧ H s = some (.ins C dx []) ∧ Tg H x o ∧
  (badOf o = .non → ∀ H', H' s = some (.ins C dx [("texts", x)]) → (∀ b u, b ≠ s → H b = some u → H' b = some u) → Q .non H') ∧
  (badOf o ≠ .non → ∀ d H', Same H H' → H' d = none → E (.ref cB) (some d) (upd H' d (.xd [("part", badOf o)])))
theorem lk1 {a : V} : ([("texts", a)] : List (Str × V)).lookup ("texts" : Str) = some a := by simp [List.lookup]
section
variable {P : Program} {w : World} {K : PySem.W.Frag} {mg : Str → Option Value} {base : Heap}
variable {PE C fI fE cB : Addr} {fdI fdE : FuncData}
theorem ok_LEq (L : LibC K mg C fI fE fdI fdE) (T : Glob mg) : FnOk P w K mg base CX0 2 fE fdE ["self", "other"] (spLEq C) := by
  refine L.FE.ok scLEq (fun vs H Q E h => ?_) (fun cdv A outer s H vs Q E hr h => ?_)
  · obtain ⟨s, ts, y, rfl, _⟩ := h
    rfl
  · obtain ⟨p, ts, y, rfl, hl, q⟩ := h
    refine ⟨_, (pss_one (ps_ret (pe_and (pe_callB call_isi (by rfl) T.isinstance PyProof.Rows.boot_isinstance (pa_cons (pv 1) (pa_cons (pe_glob (v := .ref C) (by rfl) L.g rfl) pa_nil))) (pe_one (pe_cmpR (op_eqD hr.units) (pe_fld (pv 0) rfl) (pe_fld (pv 1) rfl) (nomark _)))))), ?_⟩
    rcases q with ⟨⟨k, hk⟩, q⟩ | ⟨b, us, rfl, hb, q⟩
    · exact ⟨y, rfl, y, .ref C, .type k.name, .ref C, false, rfl, .own C, hk.tyx, L.kno k, _, rfl, iteF q⟩
    · obtain ⟨⟨dx, a, h1, h2⟩, _, sg1, _, _⟩ := hl
      obtain ⟨⟨dy, a2, h3, h4⟩, _, sg2, _, _⟩ := hb
      refine ⟨.ref b, rfl, .ref b, .ref C, .ref C, .ref C, true, rfl, .own C, .base (.ins h3 L.cl L.ha L.hn L.ht L.hm), L.kyes, _, rfl, iteT ?_⟩
      refine ⟨.ref p, rfl, p, C, dx, _, .ref a, rfl, h1, L.cl, L.nt, lk1, .ref b, rfl, b, C, dy, _, .ref a2, rfl, h3, L.cl, L.nt, lk1, .tuple (ts.map PyData.str), .tuple (us.map PyData.str), .tup (SqT.of h2) (dp_strs ts), .tup (SqT.of h4) (dp_strs us), shaped_strs sg1, shaped_strs sg2, ?_⟩
      have e : PyData.eqv (.tuple (ts.map PyData.str)) (.tuple (us.map PyData.str)) = decide (ts = us) := eqv_strs ts us
      rw [e]
      exact q
end
end LawK
set_option maxHeartbeats 4000000
namespace LawK
open PySem PySem.Spec PyProof.Rows L2 Ev
section
variable {P : Program} {w : World} {K : PySem.W.Frag} {mg : Str → Option Value} {base : Heap}
variable {PE C fI fE cB : Addr} {fdI fdE : FuncData}
theorem ok_LInit (L : LibC K mg C fI fE fdI fdE) (B : Cls1 K mg PE "BadLibrary" "part" cB) {t8 t2000 : Tok} (g8 : mg "MOST_TEXTS" = some (.int 8 t8)) (g2000 : mg "MOST_SIGNS" = some (.int 2000 t2000))
    {fPSigns : Addr} {fdPSigns : FuncData} (DPSigns : Dk P w K mg base "is_signs" sPSigns ["thing"] 1 spSg fPSigns fdPSigns) (T : Glob mg) : FnOk P w K mg base (L2.CX P w) 4 fI fdI ["self", "texts"] (spLInit C cB) := by
  refine L.FI.okX scLInit (fun vs H Q E h => ?_) (fun cdv A outer s H vs Q E hr h => ?_)
  · obtain ⟨s, dx, x, o, rfl, _⟩ := h
    rfl
  · obtain ⟨p, dx, x, o, rfl, hp, hT, qok, qbad⟩ := h
    refine ⟨_, (pss_cons (ps_if (PW.pt (pw_or (pt_not (pt_val (pe_callB call_isi (by rfl) T.isinstance PyProof.Rows.boot_isinstance (pa_cons (pv 1) (pa_cons (pe_bltn (v := .ty "tuple") (by rfl) T.tuple (by decide +kernel) rfl) pa_nil))))) (pw_or1 (pt_cmpR op_gt (pe_callB call_len_seq (by rfl) T.len PySem.boot_len (pa_cons (pv 1) pa_nil)) (pe_glob (v := .int 8) (by rfl) g8 ⟨_, rfl⟩) (nomark _))))) (pss_one (ps_raise rfl (takes_of rfl rfl rfl rfl) (pmk_c1 B hr (pa_cons (pe_un un_neg pe_int) pa_nil) (hm := fun h ⟨i, e, q⟩ => ⟨i, e, h _ _ q⟩)))) pss_nil)
      (pss_cons (ps_for (passes_of rfl) rfl (pi_enumT (by rfl) T.enumerate (pa_cons (pv 1) pa_nil)) (pg_tup (by rfl) (pgs_cons (pg_name (i := 2) scLInit.nd rfl (.inl rfl)) (pgs_cons (pg_name (i := 3) scLInit.nd rfl (.inl rfl)) pgs_nil)))
        (pss_one (ps_if (pt_not (pt_val (pe_call DPSigns.ok (hr.mono (by decide)) (by rfl) DPSigns.g DPSigns.F.kp DPSigns.b .nil pass0 (pa_cons (pv 3) pa_nil)))) (pss_one (ps_raise rfl (takes_of rfl rfl rfl rfl) (pmk_c1 B hr (pa_cons (pv 2) pa_nil) (hm := tCons1 (j := 0))))) pss_nil)))
      (pss_cons (ps_if (pt_cmpR op_gt (pe_callB (cr_sum rfl) (by rfl) T.sum (by decide +kernel) (pa_cons (pe_lc (own := [("text", 3)]) (g := gName 3) (by rfl) scLInit.nd (pi_tup (pv 1)) (blkOk_by (N := ["self", "texts", "part", "text"]) (sc := defScope sLInit) (by decide +kernel)) (fun _ _ _ _ _ => pg_name (i := 3) scLInit.nd rfl (.inl rfl)) (fun _ _ _ _ _ => pts_nil) (fun _ _ _ _ _ => (pe_callB call_lenZ (by rfl) T.len PySem.boot_len (pa_cons (pv 3) pa_nil)))) pa_nil)) (pe_glob (v := .int 2000) (by rfl) g2000 ⟨_, rfl⟩) (nomark _)) (pss_one (ps_raise rfl (takes_of rfl rfl rfl rfl) (pmk_c1 B hr (pa_cons pe_str pa_nil) (hm := fun h q => h _ _ q)))) pss_nil)
      (pss_one (ps_fld (pv 0) (pv 1) rfl))))), ?_⟩
    cases hT with
    | @no _ k hk n s =>
      exact ⟨x, rfl, x, .ty "tuple", .type (Kn.name k), .type "tuple", false, rfl, .ty _, Kd.tyx hk, kit_no n, _, rfl, iteT ⟨_, rfl, _, rfl, fun d nd => qbad (by intro z; cases z) d H (Same.refl H) nd⟩⟩
    | @tup a xs e n hy =>
      refine ⟨.ref a, rfl, .ref a, .ty "tuple", .type (Kn.name .tup), .type "tuple", kitB .tup .tup, rfl, .ty _, Kd.tyx (.tup e), kit_kn .tup .tup, _, rfl, iteF ?_⟩
      refine ⟨.ref a, rfl, a, xs, rfl, .inr (SqT.of e), _, _, rfl, rfl, _, rfl, ite2 (fun g => ?_) (fun g => ?_)⟩
      · have g' : (8 : Int) < (xs.length : Int) := of_decide_eq_true g
        have e1 := bad1 (xs := xs) (by omega)
        rw [e1] at qbad
        exact ⟨_, rfl, _, rfl, fun d nd => qbad (by intro z; cases z) d H (Same.refl H) nd⟩
      have g' : ¬ xs.length > 8 := fun z => g (decide_eq_true (show (8 : Int) < (xs.length : Int) by omega))
      refine ⟨.ref a, rfl, a, xs, rfl, SqT.of e, for_enT (fun i σ H' => (∃ y z, σ = [some (.ref p), some (.ref a), y, z]) ∧ Same H H' ∧ ∀ (j : Nat) c, j < i → xs[j]? = some c → sgV c = true) ⟨⟨_, _, rfl⟩, Same.refl H, fun j c hj => absurd hj (by omega)⟩ (fun i σ H' q => SqT.of (q.2.1 _ _ e)) ?_ ?_⟩
      · rintro i c σ H' hxi ⟨⟨y, z, rfl⟩, kH, hg⟩ t nt
        obtain ⟨⟨k, hk⟩, hv⟩ := hy c (List.mem_of_getElem? hxi)
        have k2 := kH.trans (Same.new (o := .tup [.int (i : Nat), c]) nt)
        refine ⟨t, [.int (i : Nat), c], rfl, SqT.of upd_same, rfl, .int (i : Nat), [c], rfl, c, [], rfl, rfl, ?_⟩
        refine ⟨c, rfl, c, k, rfl, hk.same k2, hv, _, rfl, ite2 (fun b => ?_) (fun b => ?_)⟩
        · have b' : sgV c = false := by simpa using b
          have e2 := bad2 g' hxi b' hg
          rw [e2] at qbad
          exact ⟨_, rfl, _, rfl, fun d nd => qbad (by intro z; cases z) d _ k2 nd⟩
        · have b' : sgV c = true := by simpa using b
          refine ⟨⟨_, _, rfl⟩, k2, fun j d hj hd => ?_⟩
          by_cases ej : j = i
          · rw [ej, hxi] at hd
            cases hd
            exact b'
          · exact hg j d (by omega) hd
      · rintro σ H' ⟨⟨y, z, rfl⟩, kH, hg⟩
        have hall : ∀ c ∈ xs, sgV c = true := fun c hc => by
          obtain ⟨j, hj, ej⟩ := List.mem_iff_getElem.mp hc
          exact hg j c hj (by rw [List.getElem?_eq_getElem hj, ej])
        obtain ⟨ts, rfl, hts⟩ := bad_strs hall
        refine ⟨.ref a, rfl, a, rfl, ⟨_, SqT.of (kH _ _ e)⟩, fun D nD => lc_lens (i := 3) (show 3 < 4 by decide) (kH _ _ e) nD (fun t ht => (hy (.str t) (List.mem_map.mpr ⟨t, ht, rfl⟩)).2 t rfl) (by rw [List.length_map] at n; omega) fun H2 hD hs => ?_⟩
        refine ⟨D, _, rfl, sq_of hD, _, _, rfl, rfl, _, rfl, ite2 (fun b => ?_) (fun b => ?_)⟩
        · have b' := of_decide_eq_true b
          rw [lens_sum] at b'
          have e3 := bad3 g' hall (by omega)
          rw [e3] at qbad
          exact ⟨_, rfl, fun d nd => qbad (by intro z; cases z) d H2 (kH.trans hs) nd⟩
        · have b' : ¬ (2000 : Int) < (ts.map fun t => (t.length : Int)).sum := fun z => b (decide_eq_true z)
          rw [lens_sum] at b'
          have e4 := bad4 g' hall (by omega)
          have k2 := kH.trans hs
          refine ⟨.ref a, rfl, .ref p, rfl, p, C, dx, [], rfl, k2 _ _ hp, L.cl, L.nt, by decide, ?_⟩
          refine qok e4 _ upd_same fun b u nb hb => ?_
          rw [upd_ne nb]
          exact k2 _ _ hb
end
end LawK
set_option maxHeartbeats 4000000
/-! Slices by natural bounds. -/
namespace Ev
open PySem PySem.Spec PyProof.Rows L2
theorem sIx_int {n d : Nat} {i : Int} (h : 0 ≤ i) : HT.sIx n d (some i) = min i.toNat n := by
  show (if i < 0 then (i + (n : Int)).toNat else min i.toNat n) = _
  rw [if_neg (by omega)]
theorem cutV_to {xs : List V} {i : Int} (h : 0 ≤ i) : cutV xs none (some i) = xs.take i.toNat := by
  unfold cutV
  rw [sIx_int h]
  show (xs.drop 0).take (min i.toNat xs.length - 0) = _
  rw [List.drop_zero, Nat.sub_zero, ← List.take_eq_take_min]
theorem cutV_from {xs : List V} {i : Int} (h : 0 ≤ i) : cutV xs (some i) none = xs.drop i.toNat := by
  unfold cutV
  rw [sIx_int h]
  show (xs.drop (min i.toNat xs.length)).take (xs.length - min i.toNat xs.length) = _
  rw [List.take_of_length_le (by rw [List.length_drop]; exact Nat.le_refl _)]
  by_cases g : i.toNat ≤ xs.length
  · rw [Nat.min_eq_left g]
  · rw [Nat.min_eq_right (by omega), List.drop_length, List.drop_of_length_le (by omega)]
theorem cutV_set {xs : List V} {i : Int} {z : V} (h : 0 ≤ i) (h2 : i < xs.length) : cutV xs none (some i) ++ [z] ++ cutV xs (some (i + 1)) none = xs.set i.toNat z := by
  rw [cutV_to h, cutV_from (by omega)]
  have e : (i + 1).toNat = i.toNat + 1 := by omega
  rw [e, List.set_eq_take_append_cons_drop, if_pos (by omega)]
  simp
theorem cutS_to {z : Str} {i : Int} (h : 0 ≤ i) : (cutS z none (some i)).cps.toList = z.cps.toList.take i.toNat := by
  have e : (cutS z none (some i)).cps.toList = (z.cps.toList.drop 0).take (HT.sIx z.length z.length (some i) - 0) := by simp [cutS, HT.sIx]
  rw [e, sIx_int h, List.drop_zero, Nat.sub_zero, len_S, ← List.take_eq_take_min]
theorem cutS_from {z : Str} {i : Int} (h : 0 ≤ i) : (cutS z (some i) none).cps.toList = z.cps.toList.drop i.toNat := by
  have e : (cutS z (some i) none).cps.toList = (z.cps.toList.drop (HT.sIx z.length 0 (some i))).take (z.length - HT.sIx z.length 0 (some i)) := by simp [cutS, HT.sIx]
  rw [e, sIx_int h, len_S]
  rw [List.take_of_length_le (by rw [List.length_drop]; exact Nat.le_refl _)]
  by_cases g : i.toNat ≤ z.cps.toList.length
  · rw [Nat.min_eq_left g]
  · rw [Nat.min_eq_right (by omega), List.drop_length, List.drop_of_length_le (by omega)]
theorem cutS_of {z : Str} {i j : Int} (h : 0 ≤ i) (h2 : i ≤ j) : (cutS z (some i) (some j)).cps.toList = (z.cps.toList.drop i.toNat).take (j - i).toNat := by
  have e : (cutS z (some i) (some j)).cps.toList = (z.cps.toList.drop (HT.sIx z.length 0 (some i))).take (HT.sIx z.length z.length (some j) - HT.sIx z.length 0 (some i)) := by simp [cutS]
  rw [e, sIx_int h, sIx_int (by omega), len_S]
  apply List.ext_getElem?
  intro k
  rw [List.getElem?_take, List.getElem?_take, List.getElem?_drop, List.getElem?_drop]
  by_cases g : i.toNat ≤ z.cps.toList.length
  · rw [Nat.min_eq_left g]
    by_cases a : k < (j - i).toNat
    · rw [if_pos a]
      by_cases b : k < min j.toNat z.cps.toList.length - i.toNat
      · rw [if_pos b]
      · rw [if_neg b]
        exact (List.getElem?_eq_none (by omega)).symm
    · rw [if_neg a, if_neg (by omega)]
  · rw [List.getElem?_eq_none (show z.cps.toList.length ≤ i.toNat + k by omega), if_neg (by omega)]
    split <;> rfl
end Ev
set_option maxHeartbeats 4000000
namespace LawK
open PySem PySem.Spec PyProof.Rows L2 Ev
/-- the texts behind a put, a cut, a change: none where there is no room -/
def mText (ts : List Str) (i : Int) : Str := ts.getD i.toNat Str.empty
def mPut (ts : List Str) (t at_ : Int) (z : Str) : Option (List Str) := if t < ts.length ∧ at_ ≤ (mText ts t).length then some (ts.set t.toNat (cutS (mText ts t) none (some at_) ++ z ++ cutS (mText ts t) (some at_) none)) else none
def mCut (ts : List Str) (t at_ n : Int) : Option (List Str) := if t < ts.length ∧ at_ + n ≤ (mText ts t).length then some (ts.set t.toNat (cutS (mText ts t) none (some at_) ++ cutS (mText ts t) (some (at_ + n)) none)) else none
def mChange (ts : List Str) (t at_ : Int) (z : Str) : Option (List Str) := if t < ts.length ∧ at_ + (z.length : Int) ≤ (mText ts t).length then some (ts.set t.toNat (cutS (mText ts t) none (some at_) ++ z ++ cutS (mText ts t) (some (at_ + (z.length : Int))) none)) else none
/-- None, or a tuple of these texts -/
def told (H0 : Hp) (o : Option (List Str)) (Q : VK) : Prop := match o with
  | none => ∀ H', Same H0 H' → Q .non H'
  | some us => ∀ r H', Same H0 H' → H' r = some (.tup (us.map V.str)) → Q (.ref r) H'
def spWith : Sp := fun vs H Q _ => ∃ (a : Addr) (n : Int) (z : Str) (ts : List Str), vs = [.ref a, .int n, .str z] ∧ H a = some (.tup (ts.map V.str)) ∧ 0 ≤ n ∧ n < ts.length ∧ ts.length ≤ 100 ∧ ∀ r H', Same H H' → H' r = some (.tup ((ts.set n.toNat z).map V.str)) → Q (.ref r) H'
def spPut : Sp := fun vs H Q _ => ∃ (a e : Addr) (ts : List Str) (t at_ : Int) (w z : Str), vs = [.ref a, .ref e] ∧ H a = some (.tup (ts.map V.str)) ∧ H e = some (.tup [.str w, .int t, .int at_, .str z]) ∧ ts.length ≤ 100 ∧ (∀ t ∈ ts, t.length ≤ 5000) ∧ z.length ≤ 5000 ∧ 0 ≤ t ∧ 0 ≤ at_ ∧ told H (mPut ts t at_ z) Q
def spChange : Sp := fun vs H Q _ => ∃ (a e : Addr) (ts : List Str) (t at_ : Int) (w z : Str), vs = [.ref a, .ref e] ∧ H a = some (.tup (ts.map V.str)) ∧ H e = some (.tup [.str w, .int t, .int at_, .str z]) ∧ ts.length ≤ 100 ∧ (∀ t ∈ ts, t.length ≤ 5000) ∧ z.length ≤ 5000 ∧ 0 ≤ t ∧ 0 ≤ at_ ∧ told H (mChange ts t at_ z) Q
def spCut : Sp := fun vs H Q _ => ∃ (a e : Addr) (ts : List Str) (t at_ n : Int) (w : Str), vs = [.ref a, .ref e] ∧ H a = some (.tup (ts.map V.str)) ∧ H e = some (.tup [.str w, .int t, .int at_, .int n]) ∧ ts.length ≤ 100 ∧ (∀ t ∈ ts, t.length ≤ 5000) ∧ 0 ≤ t ∧ 0 ≤ at_ ∧ 0 ≤ n ∧ told H (mCut ts t at_ n) Q
section
variable {P : Program} {w : World} {K : PySem.W.Frag} {mg : Str → Option Value} {base : Heap}
abbrev sQWithText : Stmt := topS 21
theorem scQWithText : FnScope ["texts", "number", "text"] ["texts", "number", "text"] (defScope sQWithText) := ⟨rfl, rfl, rfl, by decide +kernel, rfl, by decide +kernel, by decide +kernel⟩
theorem ok_QWithText {f : Addr} {fd : FuncData} (F : Fun K "_with_text" "_with_text" sQWithText f fd)  (T : Glob mg) : FnOk P w K mg base CX0 1 f fd ["texts", "number", "text"] spWith := by
  refine F.ok scQWithText (fun vs H Q E h => ?_) (fun cdv A outer s H vs Q E hr h => ?_)
  · obtain ⟨a, n, z, ts, rfl, _⟩ := h
    rfl
  · refine ⟨_, (pss_one (ps_ret (pe_op op_catM (pe_op op_catM (pe_slice sl_tupM (pv 0) po_none (po_some (pv 1))) (pe_tup (pa_cons (pv 2) pa_nil))) (pe_slice sl_tupM (pv 0) (po_some (pe_op op_add (pv 1) pe_int)) po_none)))), ?_⟩
    obtain ⟨a, n, z, ts, rfl, ha, n0, n1, few, q⟩ := h
    refine ⟨.ref a, rfl, .int n, rfl, n, rfl, a, _, rfl, ha, fun c H1 k1 hc => ?_⟩
    refine ⟨.str z, rfl, by show 1 ≤ sizeLine; decide, fun t nt => ?_⟩
    have k2 := k1.trans (Same.new (o := .tup [.str z]) nt)
    have lc := cutV_length (ts.map V.str) none (some n)
    rw [List.length_map] at lc
    refine ⟨c, t, _, _, rfl, rfl, Same.new (o := .tup [.str z]) nt _ _ hc, upd_same, by show _ + 1 ≤ 1000; omega, fun e H3 k3 he => ?_⟩
    have k4 := k2.trans k3
    refine ⟨.ref a, rfl, .int n, rfl, _, _, rfl, rfl, n + 1, rfl, a, _, rfl, k4 _ _ ha, fun g H5 k5 hg => ?_⟩
    have lg := cutV_length (ts.map V.str) (some (n + 1)) none
    rw [List.length_map] at lg
    refine ⟨e, g, _, _, rfl, rfl, k5 _ _ he, hg, by rw [List.length_append]; show _ + 1 + _ ≤ 1000; omega, fun r H6 k6 hr => ?_⟩
    refine q r H6 (k4.trans (k5.trans k6)) ?_
    rw [hr, cutV_set n0 (by rw [List.length_map]; exact n1), List.map_set]
abbrev sQTextsPut : Stmt := topS 22
theorem scQTextsPut : FnScope ["texts", "edit", "_", "text", "at", "signs"] ["texts", "edit"] (defScope sQTextsPut) := ⟨rfl, rfl, rfl, by decide +kernel, rfl, by decide +kernel, by decide +kernel⟩
theorem ok_QTextsPut {f : Addr} {fd : FuncData} (F : Fun K "_texts_put" "_texts_put" sQTextsPut f fd) {fQWithText : Addr} {fdQWithText : FuncData} (DQWithText : Dk P w K mg base "_with_text" sQWithText ["texts", "number", "text"] 1 spWith fQWithText fdQWithText) (T : Glob mg) : FnOk P w K mg base CX0 2 f fd ["texts", "edit"] spPut := by
  refine F.ok scQTextsPut (fun vs H Q E h => ?_) (fun cdv A outer s H vs Q E hr h => ?_)
  · obtain ⟨a, e, ts, t, at_, w0, z, rfl, _⟩ := h
    rfl
  · refine ⟨_, (pss_cons (ps_asg (pv 1) (pg_tup (by rfl) (pgs_cons (pg_name (i := 2) scQTextsPut.nd rfl (.inl rfl)) (pgs_cons (pg_name (i := 3) scQTextsPut.nd rfl (.inl rfl)) (pgs_cons (pg_name (i := 4) scQTextsPut.nd rfl (.inl rfl)) (pgs_cons (pg_name (i := 5) scQTextsPut.nd rfl (.inl rfl)) pgs_nil))))))
      (pss_cons (ps_if (PW.pt (pw_or (pt_cmpR op_ge (pv 3) (pe_callB call_len_seq (by rfl) T.len PySem.boot_len (pa_cons (pv 0) pa_nil)) (nomark _)) (pw_or1 (pt_cmpR op_gt (pv 4) (pe_callB call_lenZ (by rfl) T.len PySem.boot_len (pa_cons (pe_ix ix_tup (pv 0) (pv 3) (fun _ _ => rfl)) pa_nil)) (nomark _)))))
      (pss_one (ps_ret pe_non))
      pss_nil)
      (pss_one (ps_ret (pe_call DQWithText.ok (hr.mono (by decide)) (by rfl) DQWithText.g DQWithText.F.kp DQWithText.b .nil pass0 (pa_cons (pv 0) (pa_cons (pv 3) (pa_cons (pe_op op_add_str (pe_op op_add_str (pe_slice sl_str (pe_ix ix_tup (pv 0) (pv 3) (fun _ _ => rfl)) po_none (po_some (pv 4))) (pv 5)) (pe_slice sl_str (pe_ix ix_tup (pv 0) (pv 3) (fun _ _ => rfl)) (po_some (pv 4)) po_none)) pa_nil)))))))), ?_⟩
    obtain ⟨a, e, ts, t, at_, w0, z, rfl, ha, he, few, lens, lz, t0, a0, q⟩ := h
    refine ⟨.ref e, rfl, e, _, rfl, SqT.of he, rfl, .str w0, _, rfl, .int t, _, rfl, .int at_, _, rfl, .str z, [], rfl, rfl, ?_⟩
    have h9 : sizeLine = 16777216 := sizeLine_eq
    
    refine ⟨.int t, rfl, .ref a, rfl, a, _, rfl, .inr (SqT.of ha), _, _, rfl, rfl, _, rfl, ?_⟩
    rw [List.length_map]
    refine ite2 (fun c => ?_) (fun c => ?_)
    · have c' : (ts.length : Int) ≤ t := of_decide_eq_true c
      unfold mPut at q
      rw [if_neg (by omega)] at q
      exact q H (Same.refl H)
    have c' : t < (ts.length : Int) := Int.not_le.mp fun z => c (decide_eq_true z)
    obtain ⟨et, hm⟩ := text_at t0 c'
    have lt := lens _ hm
    refine ⟨.int at_, rfl, .ref a, rfl, .int t, rfl, a, _, t, _, rfl, rfl, SqT.of ha, et, _, rfl, len5 lt, _, _, rfl, rfl, _, rfl, ite2 (fun d => ?_) (fun d => ?_)⟩
    · have d' : ((ts.getD t.toNat Str.empty).length : Int) < at_ := of_decide_eq_true d
      unfold mPut mText at q
      rw [if_neg (by omega)] at q
      exact q H (Same.refl H)
    have d' : at_ ≤ ((ts.getD t.toNat Str.empty).length : Int) := Int.not_lt.mp fun z => d (decide_eq_true z)
    unfold mPut mText at q
    rw [if_pos ⟨c', d'⟩] at q
    generalize ts.getD t.toNat Str.empty = y at et lt q
    have l1 := cut_len (z := y) none (some at_)
    have l2 := cut_len (z := y) (some at_) none
    refine ⟨.ref a, rfl, .int t, rfl, .ref a, rfl, .int t, rfl, a, _, t, _, rfl, rfl, SqT.of ha, et, .int at_, rfl, at_, rfl, y, rfl, len5 lt, .str z, rfl, _, _, rfl, rfl, by omega, ?_⟩
    have l3 := app_len (cutS y none (some at_)) z
    refine ⟨.ref a, rfl, .int t, rfl, a, _, t, _, rfl, rfl, SqT.of ha, et, .int at_, rfl, at_, rfl, y, rfl, len5 lt, _, _, rfl, rfl, by omega, ?_⟩
    exact ⟨a, t, _, ts, rfl, ha, t0, c', few, fun r H' k hr => q r H' k hr⟩
abbrev sQTextsCut : Stmt := topS 23
theorem scQTextsCut : FnScope ["texts", "edit", "_", "text", "at", "many"] ["texts", "edit"] (defScope sQTextsCut) := ⟨rfl, rfl, rfl, by decide +kernel, rfl, by decide +kernel, by decide +kernel⟩
theorem ok_QTextsCut {f : Addr} {fd : FuncData} (F : Fun K "_texts_cut" "_texts_cut" sQTextsCut f fd) {fQWithText : Addr} {fdQWithText : FuncData} (DQWithText : Dk P w K mg base "_with_text" sQWithText ["texts", "number", "text"] 1 spWith fQWithText fdQWithText) (T : Glob mg) : FnOk P w K mg base CX0 2 f fd ["texts", "edit"] spCut := by
  refine F.ok scQTextsCut (fun vs H Q E h => ?_) (fun cdv A outer s H vs Q E hr h => ?_)
  · obtain ⟨a, e, ts, t, at_, n, w0, rfl, _⟩ := h
    rfl
  · refine ⟨_, (pss_cons (ps_asg (pv 1) (pg_tup (by rfl) (pgs_cons (pg_name (i := 2) scQTextsCut.nd rfl (.inl rfl)) (pgs_cons (pg_name (i := 3) scQTextsCut.nd rfl (.inl rfl)) (pgs_cons (pg_name (i := 4) scQTextsCut.nd rfl (.inl rfl)) (pgs_cons (pg_name (i := 5) scQTextsCut.nd rfl (.inl rfl)) pgs_nil))))))
      (pss_cons (ps_if (PW.pt (pw_or (pt_cmpR op_ge (pv 3) (pe_callB call_len_seq (by rfl) T.len PySem.boot_len (pa_cons (pv 0) pa_nil)) (nomark _)) (pw_or1 (pt_cmpR op_gt (pe_op op_add (pv 4) (pv 5)) (pe_callB call_lenZ (by rfl) T.len PySem.boot_len (pa_cons (pe_ix ix_tup (pv 0) (pv 3) (fun _ _ => rfl)) pa_nil)) (nomark _)))))
      (pss_one (ps_ret pe_non))
      pss_nil)
      (pss_one (ps_ret (pe_call DQWithText.ok (hr.mono (by decide)) (by rfl) DQWithText.g DQWithText.F.kp DQWithText.b .nil pass0 (pa_cons (pv 0) (pa_cons (pv 3) (pa_cons (pe_op op_add_str (pe_slice sl_str (pe_ix ix_tup (pv 0) (pv 3) (fun _ _ => rfl)) po_none (po_some (pv 4))) (pe_slice sl_str (pe_ix ix_tup (pv 0) (pv 3) (fun _ _ => rfl)) (po_some (pe_op op_add (pv 4) (pv 5))) po_none)) pa_nil)))))))), ?_⟩
    obtain ⟨a, e, ts, t, at_, n, w0, rfl, ha, he, few, lens, t0, a0, n0, q⟩ := h
    refine ⟨.ref e, rfl, e, _, rfl, SqT.of he, rfl, .str w0, _, rfl, .int t, _, rfl, .int at_, _, rfl, .int n, [], rfl, rfl, ?_⟩
    have h9 : sizeLine = 16777216 := sizeLine_eq
    refine ⟨.int t, rfl, .ref a, rfl, a, _, rfl, .inr (SqT.of ha), _, _, rfl, rfl, _, rfl, ?_⟩
    rw [List.length_map]
    refine ite2 (fun c => ?_) (fun c => ?_)
    · have c' : (ts.length : Int) ≤ t := of_decide_eq_true c
      unfold mCut at q
      rw [if_neg (by omega)] at q
      exact q H (Same.refl H)
    have c' : t < (ts.length : Int) := Int.not_le.mp fun z => c (decide_eq_true z)
    obtain ⟨et, hm⟩ := text_at t0 c'
    have lt := lens _ hm
    refine ⟨.int at_, rfl, .int n, rfl, _, _, rfl, rfl, .ref a, rfl, .int t, rfl, a, _, t, _, rfl, rfl, SqT.of ha, et, _, rfl, len5 lt, _, _, rfl, rfl, _, rfl, ite2 (fun d => ?_) (fun d => ?_)⟩
    · have d' : ((ts.getD t.toNat Str.empty).length : Int) < at_ + n := of_decide_eq_true d
      unfold mCut mText at q
      rw [if_neg (by omega)] at q
      exact q H (Same.refl H)
    have d' : at_ + n ≤ ((ts.getD t.toNat Str.empty).length : Int) := Int.not_lt.mp fun z => d (decide_eq_true z)
    unfold mCut mText at q
    rw [if_pos ⟨c', d'⟩] at q
    generalize ts.getD t.toNat Str.empty = y at et lt q
    have l1 := cut_len (z := y) none (some at_)
    have l2 := cut_len (z := y) (some (at_ + n)) none
    refine ⟨.ref a, rfl, .int t, rfl, .ref a, rfl, .int t, rfl, a, _, t, _, rfl, rfl, SqT.of ha, et, .int at_, rfl, at_, rfl, y, rfl, len5 lt, ?_⟩
    refine ⟨.ref a, rfl, .int t, rfl, a, _, t, _, rfl, rfl, SqT.of ha, et, .int at_, rfl, .int n, rfl, _, _, rfl, rfl, at_ + n, rfl, y, rfl, len5 lt, _, _, rfl, rfl, by omega, ?_⟩
    exact ⟨a, t, _, ts, rfl, ha, t0, c', few, fun r H' k hr => q r H' k hr⟩
end
end LawK
set_option maxHeartbeats 4000000
namespace LawK
open PySem PySem.Spec PyProof.Rows L2 Ev
def mSplit (ts : List Str) (t at_ : Int) : Option (List Str) := if t < ts.length ∧ at_ ≤ (mText ts t).length then some (ts.set t.toNat (cutS (mText ts t) none (some at_)) ++ [cutS (mText ts t) (some at_) none]) else none
def mJoin (ts : List Str) (t u : Int) : Option (List Str) := if t < ts.length ∧ u < ts.length ∧ t ≠ u then some ((ts.set u.toNat (Str.ofString "")).set t.toNat (mText ts t ++ mText ts u)) else none
def mMove (ts : List Str) (t at_ n u p : Int) : Option (List Str) := (mCut ts t at_ n).bind fun us => mPut us u p (cutS (mText ts t) (some at_) (some (at_ + n)))
def spCome : Sp := fun vs H Q _ => ∃ (a e : Addr) (ts : List Str) (w z : Str), vs = [.ref a, .ref e] ∧ H a = some (.tup (ts.map V.str)) ∧ H e = some (.tup [.str w, .str z]) ∧ ts.length ≤ 100 ∧ told H (some (ts ++ [z])) Q
def spSplit : Sp := fun vs H Q _ => ∃ (a e : Addr) (ts : List Str) (t at_ : Int) (w : Str), vs = [.ref a, .ref e] ∧ H a = some (.tup (ts.map V.str)) ∧ H e = some (.tup [.str w, .int t, .int at_]) ∧ ts.length ≤ 100 ∧ (∀ t ∈ ts, t.length ≤ 5000) ∧ 0 ≤ t ∧ 0 ≤ at_ ∧ told H (mSplit ts t at_) Q
def spJoin : Sp := fun vs H Q _ => ∃ (a e : Addr) (ts : List Str) (t u : Int) (w : Str), vs = [.ref a, .ref e] ∧ H a = some (.tup (ts.map V.str)) ∧ H e = some (.tup [.str w, .int t, .int u]) ∧ ts.length ≤ 100 ∧ (∀ t ∈ ts, t.length ≤ 5000) ∧ 0 ≤ t ∧ 0 ≤ u ∧ told H (mJoin ts t u) Q
def spMove : Sp := fun vs H Q _ => ∃ (a e : Addr) (ts : List Str) (t at_ n u p : Int) (w : Str), vs = [.ref a, .ref e] ∧ H a = some (.tup (ts.map V.str)) ∧ H e = some (.tup [.str w, .int t, .int at_, .int n, .int u, .int p]) ∧ ts.length ≤ 100 ∧ (∀ t ∈ ts, t.length ≤ 5000) ∧ 0 ≤ t ∧ 0 ≤ at_ ∧ 0 ≤ n ∧ 0 ≤ u ∧ 0 ≤ p ∧ told H (mMove ts t at_ n u p) Q
theorem lenE : (Str.ofString "").length = 0 := by decide +kernel
section
variable {P : Program} {w : World} {K : PySem.W.Frag} {mg : Str → Option Value} {base : Heap}
abbrev sQTextsChanged : Stmt := topS 24
theorem scQTextsChanged : FnScope ["texts", "edit", "_", "text", "at", "signs", "behind"] ["texts", "edit"] (defScope sQTextsChanged) := ⟨rfl, rfl, rfl, by decide +kernel, rfl, by decide +kernel, by decide +kernel⟩
theorem ok_QTextsChanged {f : Addr} {fd : FuncData} (F : Fun K "_texts_changed" "_texts_changed" sQTextsChanged f fd) {fQWithText : Addr} {fdQWithText : FuncData} (DQWithText : Dk P w K mg base "_with_text" sQWithText ["texts", "number", "text"] 1 spWith fQWithText fdQWithText) (T : Glob mg) : FnOk P w K mg base CX0 2 f fd ["texts", "edit"] spChange := by
  refine F.ok scQTextsChanged (fun vs H Q E h => ?_) (fun cdv A outer s H vs Q E hr h => ?_)
  · obtain ⟨a, e, ts, t, at_, w0, z, rfl, _⟩ := h
    rfl
  · refine ⟨_, (pss_cons (ps_asg (pv 1) (pg_tup (by rfl) (pgs_cons (pg_name (i := 2) scQTextsChanged.nd rfl (.inl rfl)) (pgs_cons (pg_name (i := 3) scQTextsChanged.nd rfl (.inl rfl)) (pgs_cons (pg_name (i := 4) scQTextsChanged.nd rfl (.inl rfl)) (pgs_cons (pg_name (i := 5) scQTextsChanged.nd rfl (.inl rfl)) pgs_nil))))))
      (pss_cons (ps_set (i := 6) scQTextsChanged.nd rfl (.inl rfl) (pe_op op_add (pv 4) (pe_callB call_lenZ (by rfl) T.len PySem.boot_len (pa_cons (pv 5) pa_nil))))
      (pss_cons (ps_if (PW.pt (pw_or (pt_cmpR op_ge (pv 3) (pe_callB call_len_seq (by rfl) T.len PySem.boot_len (pa_cons (pv 0) pa_nil)) (nomark _)) (pw_or1 (pt_cmpR op_gt (pv 6) (pe_callB call_lenZ (by rfl) T.len PySem.boot_len (pa_cons (pe_ix ix_tup (pv 0) (pv 3) (fun _ _ => rfl)) pa_nil)) (nomark _)))))
      (pss_one (ps_ret pe_non))
      pss_nil)
      (pss_one (ps_ret (pe_call DQWithText.ok (hr.mono (by decide)) (by rfl) DQWithText.g DQWithText.F.kp DQWithText.b .nil pass0 (pa_cons (pv 0) (pa_cons (pv 3) (pa_cons (pe_op op_add_str (pe_op op_add_str (pe_slice sl_str (pe_ix ix_tup (pv 0) (pv 3) (fun _ _ => rfl)) po_none (po_some (pv 4))) (pv 5)) (pe_slice sl_str (pe_ix ix_tup (pv 0) (pv 3) (fun _ _ => rfl)) (po_some (pv 6)) po_none)) pa_nil))))))))), ?_⟩
    obtain ⟨a, e, ts, t, at_, w0, z, rfl, ha, he, few, lens, lz, t0, a0, q⟩ := h
    refine ⟨.ref e, rfl, e, _, rfl, SqT.of he, rfl, .str w0, _, rfl, .int t, _, rfl, .int at_, _, rfl, .str z, [], rfl, rfl, ?_⟩
    have h9 : sizeLine = 16777216 := sizeLine_eq
    
    refine ⟨.int at_, rfl, .str z, rfl, z, rfl, len5 lz, _, _, rfl, rfl, ?_⟩
    refine ⟨.int t, rfl, .ref a, rfl, a, _, rfl, .inr (SqT.of ha), _, _, rfl, rfl, _, rfl, ?_⟩
    rw [List.length_map]
    refine ite2 (fun c => ?_) (fun c => ?_)
    · have c' : (ts.length : Int) ≤ t := of_decide_eq_true c
      unfold mChange at q
      rw [if_neg (by omega)] at q
      exact q H (Same.refl H)
    have c' : t < (ts.length : Int) := Int.not_le.mp fun z => c (decide_eq_true z)
    obtain ⟨et, hm⟩ := text_at t0 c'
    have lt := lens _ hm
    refine ⟨.int (at_ + (z.length : Int)), rfl, .ref a, rfl, .int t, rfl, a, _, t, _, rfl, rfl, SqT.of ha, et, _, rfl, len5 lt, _, _, rfl, rfl, _, rfl, ite2 (fun d => ?_) (fun d => ?_)⟩
    · have d' : ((ts.getD t.toNat Str.empty).length : Int) < at_ + (z.length : Int) := of_decide_eq_true d
      unfold mChange mText at q
      rw [if_neg (by omega)] at q
      exact q H (Same.refl H)
    have d' : at_ + (z.length : Int) ≤ ((ts.getD t.toNat Str.empty).length : Int) := Int.not_lt.mp fun z => d (decide_eq_true z)
    unfold mChange mText at q
    rw [if_pos ⟨c', d'⟩] at q
    generalize ts.getD t.toNat Str.empty = y at et lt q
    have l1 := cut_len (z := y) none (some at_)
    have l2 := cut_len (z := y) (some (at_ + (z.length : Int))) none
    refine ⟨.ref a, rfl, .int t, rfl, .ref a, rfl, .int t, rfl, a, _, t, _, rfl, rfl, SqT.of ha, et, .int at_, rfl, at_, rfl, y, rfl, len5 lt, .str z, rfl, _, _, rfl, rfl, by omega, ?_⟩
    have l3 := app_len (cutS y none (some at_)) z
    refine ⟨.ref a, rfl, .int t, rfl, a, _, t, _, rfl, rfl, SqT.of ha, et, .int (at_ + (z.length : Int)), rfl, at_ + (z.length : Int), rfl, y, rfl, len5 lt, _, _, rfl, rfl, by omega, ?_⟩
    exact ⟨a, t, _, ts, rfl, ha, t0, c', few, fun r H' k hr => q r H' k hr⟩
abbrev sQTextsCome : Stmt := topS 25
theorem scQTextsCome : FnScope ["texts", "edit"] ["texts", "edit"] (defScope sQTextsCome) := ⟨rfl, rfl, rfl, by decide +kernel, rfl, by decide +kernel, by decide +kernel⟩
theorem ok_QTextsCome {f : Addr} {fd : FuncData} (F : Fun K "_texts_come" "_texts_come" sQTextsCome f fd)  (T : Glob mg) : FnOk P w K mg base CX0 1 f fd ["texts", "edit"] spCome := by
  refine F.ok scQTextsCome (fun vs H Q E h => ?_) (fun cdv A outer s H vs Q E hr h => ?_)
  · obtain ⟨a, e, ts, w0, z, rfl, _⟩ := h
    rfl
  · refine ⟨_, (pss_one (ps_ret (pe_op op_catM (pv 0) (pe_tup (pa_cons (pe_ix ix_tup (pv 1) pe_int (fun _ _ => rfl)) pa_nil))))), ?_⟩
    obtain ⟨a, e, ts, w0, z, rfl, ha, he, few, q⟩ := h
    refine ⟨.ref a, rfl, .ref e, rfl, e, _, 1, .str z, rfl, rfl, SqT.of he, rfl, by show 1 ≤ sizeLine; decide, fun t nt => ?_⟩
    have k1 := Same.new (o := .tup [.str z]) nt
    refine ⟨a, t, _, _, rfl, rfl, k1 _ _ ha, upd_same, by rw [List.length_map]; show _ + 1 ≤ 1000; omega, fun r H' k hr => ?_⟩
    refine q r H' (k1.trans k) ?_
    rw [hr, List.map_append]
    rfl
abbrev sQTextsSplit : Stmt := topS 27
theorem scQTextsSplit : FnScope ["texts", "edit", "_", "text", "at"] ["texts", "edit"] (defScope sQTextsSplit) := ⟨rfl, rfl, rfl, by decide +kernel, rfl, by decide +kernel, by decide +kernel⟩
theorem ok_QTextsSplit {f : Addr} {fd : FuncData} (F : Fun K "_texts_split" "_texts_split" sQTextsSplit f fd) {fQWithText : Addr} {fdQWithText : FuncData} (DQWithText : Dk P w K mg base "_with_text" sQWithText ["texts", "number", "text"] 1 spWith fQWithText fdQWithText) (T : Glob mg) : FnOk P w K mg base CX0 2 f fd ["texts", "edit"] spSplit := by
  refine F.ok scQTextsSplit (fun vs H Q E h => ?_) (fun cdv A outer s H vs Q E hr h => ?_)
  · obtain ⟨a, e, ts, t, at_, w0, rfl, _⟩ := h
    rfl
  · refine ⟨_, (pss_cons (ps_asg (pv 1) (pg_tup (by rfl) (pgs_cons (pg_name (i := 2) scQTextsSplit.nd rfl (.inl rfl)) (pgs_cons (pg_name (i := 3) scQTextsSplit.nd rfl (.inl rfl)) (pgs_cons (pg_name (i := 4) scQTextsSplit.nd rfl (.inl rfl)) pgs_nil)))))
      (pss_cons (ps_if (PW.pt (pw_or (pt_cmpR op_ge (pv 3) (pe_callB call_len_seq (by rfl) T.len PySem.boot_len (pa_cons (pv 0) pa_nil)) (nomark _)) (pw_or1 (pt_cmpR op_gt (pv 4) (pe_callB call_lenZ (by rfl) T.len PySem.boot_len (pa_cons (pe_ix ix_tup (pv 0) (pv 3) (fun _ _ => rfl)) pa_nil)) (nomark _)))))
      (pss_one (ps_ret pe_non))
      pss_nil)
      (pss_one (ps_ret (pe_op op_catM (pe_call DQWithText.ok (hr.mono (by decide)) (by rfl) DQWithText.g DQWithText.F.kp DQWithText.b .nil pass0 (pa_cons (pv 0) (pa_cons (pv 3) (pa_cons (pe_slice sl_str (pe_ix ix_tup (pv 0) (pv 3) (fun _ _ => rfl)) po_none (po_some (pv 4))) pa_nil)))) (pe_tup (pa_cons (pe_slice sl_str (pe_ix ix_tup (pv 0) (pv 3) (fun _ _ => rfl)) (po_some (pv 4)) po_none) pa_nil))))))), ?_⟩
    obtain ⟨a, e, ts, t, at_, w0, rfl, ha, he, few, lens, t0, a0, q⟩ := h
    refine ⟨.ref e, rfl, e, _, rfl, SqT.of he, rfl, .str w0, _, rfl, .int t, _, rfl, .int at_, [], rfl, rfl, ?_⟩
    refine ⟨.int t, rfl, .ref a, rfl, a, _, rfl, .inr (SqT.of ha), _, _, rfl, rfl, _, rfl, ?_⟩
    rw [List.length_map]
    refine ite2 (fun c => ?_) (fun c => ?_)
    · have c' : (ts.length : Int) ≤ t := of_decide_eq_true c
      unfold mSplit at q
      rw [if_neg (by omega)] at q
      exact q H (Same.refl H)
    have c' : t < (ts.length : Int) := Int.not_le.mp fun z => c (decide_eq_true z)
    obtain ⟨et, hm⟩ := text_at t0 c'
    have lt := lens _ hm
    refine ⟨.int at_, rfl, .ref a, rfl, .int t, rfl, a, _, t, _, rfl, rfl, SqT.of ha, et, _, rfl, len5 lt, _, _, rfl, rfl, _, rfl, ite2 (fun d => ?_) (fun d => ?_)⟩
    · have d' : ((ts.getD t.toNat Str.empty).length : Int) < at_ := of_decide_eq_true d
      unfold mSplit mText at q
      rw [if_neg (by omega)] at q
      exact q H (Same.refl H)
    have d' : at_ ≤ ((ts.getD t.toNat Str.empty).length : Int) := Int.not_lt.mp fun z => d (decide_eq_true z)
    unfold mSplit mText at q
    rw [if_pos ⟨c', d'⟩] at q
    generalize ts.getD t.toNat Str.empty = y at et lt q
    refine ⟨.ref a, rfl, .int t, rfl, .ref a, rfl, .int t, rfl, a, _, t, _, rfl, rfl, SqT.of ha, et, .int at_, rfl, at_, rfl, y, rfl, len5 lt, a, t, _, ts, rfl, ha, t0, c', few, fun r H1 k1 hr => ?_⟩
    refine ⟨.ref a, rfl, .int t, rfl, a, _, t, _, rfl, rfl, SqT.of (k1 _ _ ha), et, .int at_, rfl, at_, rfl, y, rfl, len5 lt, by show 1 ≤ sizeLine; decide, fun b nb => ?_⟩
    have k2 := Same.new (o := .tup [.str (cutS y (some at_) none)]) nb
    refine ⟨r, b, _, _, rfl, rfl, k2 _ _ hr, upd_same, by rw [List.length_map, List.length_set]; show _ + 1 ≤ 1000; omega, fun g H3 k3 hg => ?_⟩
    refine q g H3 (k1.trans (k2.trans k3)) ?_
    rw [hg, List.map_append]
    rfl
abbrev sQTextsMoved : Stmt := topS 29
theorem scQTextsMoved : FnScope ["texts", "edit", "_", "text", "at", "many", "other", "place", "left"] ["texts", "edit"] (defScope sQTextsMoved) := ⟨rfl, rfl, rfl, by decide +kernel, rfl, by decide +kernel, by decide +kernel⟩
theorem ok_QTextsMoved {f : Addr} {fd : FuncData} (F : Fun K "_texts_moved" "_texts_moved" sQTextsMoved f fd) {fQTextsPut : Addr} {fdQTextsPut : FuncData} (DQTextsPut : Dk P w K mg base "_texts_put" sQTextsPut ["texts", "edit"] 2 spPut fQTextsPut fdQTextsPut) {fQTextsCut : Addr} {fdQTextsCut : FuncData} (DQTextsCut : Dk P w K mg base "_texts_cut" sQTextsCut ["texts", "edit"] 2 spCut fQTextsCut fdQTextsCut) (T : Glob mg) : FnOk P w K mg base CX0 3 f fd ["texts", "edit"] spMove := by
  refine F.ok scQTextsMoved (fun vs H Q E h => ?_) (fun cdv A outer s H vs Q E hr h => ?_)
  · obtain ⟨a, e, ts, t, at_, n, u, p, w0, rfl, _⟩ := h
    rfl
  · refine ⟨_, (pss_cons (ps_asg (pv 1) (pg_tup (by rfl) (pgs_cons (pg_name (i := 2) scQTextsMoved.nd rfl (.inl rfl)) (pgs_cons (pg_name (i := 3) scQTextsMoved.nd rfl (.inl rfl)) (pgs_cons (pg_name (i := 4) scQTextsMoved.nd rfl (.inl rfl)) (pgs_cons (pg_name (i := 5) scQTextsMoved.nd rfl (.inl rfl)) (pgs_cons (pg_name (i := 6) scQTextsMoved.nd rfl (.inl rfl)) (pgs_cons (pg_name (i := 7) scQTextsMoved.nd rfl (.inl rfl)) pgs_nil))))))))
      (pss_cons (ps_set (i := 8) scQTextsMoved.nd rfl (.inl rfl) (pe_call DQTextsCut.ok (hr.mono (by decide)) (by rfl) DQTextsCut.g DQTextsCut.F.kp DQTextsCut.b .nil pass0 (pa_cons (pv 0) (pa_cons (pe_tup (pa_cons pe_str (pa_cons (pv 3) (pa_cons (pv 4) (pa_cons (pv 5) pa_nil))))) pa_nil))))
      (pss_cons (ps_if (pt_cmpR op_isN (pv 8) pe_non (nomark _))
      (pss_one (ps_ret pe_non))
      pss_nil)
      (pss_one (ps_ret (pe_call DQTextsPut.ok (hr.mono (by decide)) (by rfl) DQTextsPut.g DQTextsPut.F.kp DQTextsPut.b .nil pass0 (pa_cons (pv 8) (pa_cons (pe_tup (pa_cons pe_str (pa_cons (pv 6) (pa_cons (pv 7) (pa_cons (pe_slice sl_str (pe_ix ix_tup (pv 0) (pv 3) (fun _ _ => rfl)) (po_some (pv 4)) (po_some (pe_op op_add (pv 4) (pv 5)))) pa_nil))))) pa_nil)))))))), ?_⟩
    obtain ⟨a, e, ts, t, at_, n, u, p, w0, rfl, ha, he, few, lens, t0, a0, n0, u0, p0, q⟩ := h
    refine ⟨.ref e, rfl, e, _, rfl, SqT.of he, rfl, .str w0, _, rfl, .int t, _, rfl, .int at_, _, rfl, .int n, _, rfl, .int u, _, rfl, .int p, [], rfl, rfl, ?_⟩
    refine ⟨.ref a, rfl, .int t, rfl, .int at_, rfl, .int n, rfl, by show 4 ≤ sizeLine; decide, fun b nb => ?_⟩
    have k1 := Same.new (o := .tup [.str "cut", .int t, .int at_, .int n]) nb
    refine ⟨a, b, ts, t, at_, n, _, rfl, k1 _ _ ha, upd_same, few, lens, t0, a0, n0, ?_⟩
    unfold mMove at q
    cases ec : mCut ts t at_ n with
    | none =>
      rw [ec] at q
      exact fun H2 k2 => ⟨_, rfl, rfl, _, rfl, iteT (q H2 (k1.trans k2))⟩
    | some us =>
      rw [ec] at q
      intro r H2 k2 hr
      have kk := k1.trans k2
      have hc := ec
      unfold mCut at hc
      have cond : t < ts.length ∧ at_ + n ≤ (mText ts t).length := Classical.byContradiction fun z => by
        rw [if_neg z] at hc
        cases hc
      rw [if_pos cond] at hc
      obtain rfl := Option.some.inj hc
      obtain ⟨et, hm⟩ := text_at t0 cond.1
      have lt := lens _ hm
      refine ⟨_, rfl, rfl, _, rfl, iteF ?_⟩
      have lcut := cut_len (z := ts.getD t.toNat Str.empty) (some at_) (some (at_ + n))
      refine ⟨.ref r, rfl, .int u, rfl, .int p, rfl, .ref a, rfl, .int t, rfl, a, _, t, _, rfl, rfl, SqT.of (kk _ _ ha), et, .int at_, rfl, at_, rfl, .int at_, rfl, .int n, rfl, _, _, rfl, rfl, at_ + n, rfl, _, rfl, len5 lt, by show 4 ≤ sizeLine; decide, fun g ng => ?_⟩
      have k3 := Same.new (o := .tup [.str "put", .int u, .int p, .str (cutS (ts.getD t.toNat Str.empty) (some at_) (some (at_ + n)))]) ng
      refine ⟨r, g, _, u, p, _, _, rfl, k3 _ _ hr, upd_same, by rw [List.length_set]; exact few, fun y hy => ?_, by omega, u0, p0, ?_⟩
      · rcases List.mem_or_eq_of_mem_set hy with h1 | h1
        · exact lens y h1
        · rw [h1, app_len]
          have l1 := cut_len2 (z := mText ts t) none (some at_)
          have l2 := cut_len (z := mText ts t) none (some at_)
          have l3 : (cutS (mText ts t) (some (at_ + n)) none).length ≤ (mText ts t).length - (at_ + n).toNat := by
            rw [len_S, cutS_from (by omega), List.length_drop, ← len_S]
            exact Nat.le_refl _
          have l4 : (cutS (mText ts t) none (some at_)).length ≤ at_.toNat := by
            have := cut_hi (z := mText ts t) (lo := none) a0
            omega
          have lt' : (mText ts t).length ≤ 5000 := lt
          omega
      · have mono : ∀ (o : Option (List Str)), told H o Q → told (upd H2 g (.tup [.str "put", .int u, .int p, .str (cutS (ts.getD t.toNat Str.empty) (some at_) (some (at_ + n)))])) o Q := fun o z => by
          cases o with
          | none => exact fun H' k' => z H' ((kk.trans k3).trans k')
          | some us => exact fun r H' k' => z r H' ((kk.trans k3).trans k')
        exact mono _ q
end
end LawK
set_option maxHeartbeats 4000000
namespace LawK
open PySem PySem.Spec PyProof.Rows L2 Ev
def mGone (ts : List Str) : Option (List Str) := if ts.getLast? = some (Str.ofString "") then some ts.dropLast else none
def spGone : Sp := fun vs H Q _ => ∃ (a : Addr) (y : V) (ts : List Str), vs = [.ref a, y] ∧ H a = some (.tup (ts.map V.str)) ∧ ts.length ≤ 100 ∧ told H (mGone ts) Q
section
variable {P : Program} {w : World} {K : PySem.W.Frag} {mg : Str → Option Value} {base : Heap}
abbrev sQTextsJoined : Stmt := topS 28
theorem scQTextsJoined : FnScope ["texts", "edit", "_", "text", "other", "emptied"] ["texts", "edit"] (defScope sQTextsJoined) := ⟨rfl, rfl, rfl, by decide +kernel, rfl, by decide +kernel, by decide +kernel⟩
theorem ok_QTextsJoined {f : Addr} {fd : FuncData} (F : Fun K "_texts_joined" "_texts_joined" sQTextsJoined f fd) {fQWithText : Addr} {fdQWithText : FuncData} (DQWithText : Dk P w K mg base "_with_text" sQWithText ["texts", "number", "text"] 1 spWith fQWithText fdQWithText) (T : Glob mg) : FnOk P w K mg base CX0 2 f fd ["texts", "edit"] spJoin := by
  refine F.ok scQTextsJoined (fun vs H Q E h => ?_) (fun cdv A outer s H vs Q E hr h => ?_)
  · obtain ⟨a, e, ts, t, u, w0, rfl, _⟩ := h
    rfl
  · refine ⟨_, (pss_cons (ps_asg (pv 1) (pg_tup (by rfl) (pgs_cons (pg_name (i := 2) scQTextsJoined.nd rfl (.inl rfl)) (pgs_cons (pg_name (i := 3) scQTextsJoined.nd rfl (.inl rfl)) (pgs_cons (pg_name (i := 4) scQTextsJoined.nd rfl (.inl rfl)) pgs_nil)))))
      (pss_cons (ps_if (PW.pt (pw_or (pt_cmpR op_ge (pv 3) (pe_callB call_len_seq (by rfl) T.len PySem.boot_len (pa_cons (pv 0) pa_nil)) (nomark _)) (pw_or (pt_cmpR op_ge (pv 4) (pe_callB call_len_seq (by rfl) T.len PySem.boot_len (pa_cons (pv 0) pa_nil)) (nomark _)) (pw_or1 (pt_cmpR op_eq (pv 3) (pv 4) (nomark _))))))
      (pss_one (ps_ret pe_non))
      pss_nil)
      (pss_cons (ps_set (i := 5) scQTextsJoined.nd rfl (.inl rfl) (pe_call DQWithText.ok (hr.mono (by decide)) (by rfl) DQWithText.g DQWithText.F.kp DQWithText.b .nil pass0 (pa_cons (pv 0) (pa_cons (pv 4) (pa_cons pe_str pa_nil)))))
      (pss_one (ps_ret (pe_call DQWithText.ok (hr.mono (by decide)) (by rfl) DQWithText.g DQWithText.F.kp DQWithText.b .nil pass0 (pa_cons (pv 5) (pa_cons (pv 3) (pa_cons (pe_op op_add_str (pe_ix ix_tup (pv 0) (pv 3) (fun _ _ => rfl)) (pe_ix ix_tup (pv 0) (pv 4) (fun _ _ => rfl))) pa_nil))))))))), ?_⟩
    obtain ⟨a, e, ts, t, u, w0, rfl, ha, he, few, lens, t0, u0, q⟩ := h
    refine ⟨.ref e, rfl, e, _, rfl, SqT.of he, rfl, .str w0, _, rfl, .int t, _, rfl, .int u, [], rfl, rfl, ?_⟩
    have h9 : sizeLine = 16777216 := sizeLine_eq
    refine ⟨.int t, rfl, .ref a, rfl, a, _, rfl, .inr (SqT.of ha), _, _, rfl, rfl, _, rfl, ?_⟩
    rw [List.length_map]
    refine ite2 (fun c => ?_) (fun c => ?_)
    · have c' : (ts.length : Int) ≤ t := of_decide_eq_true c
      unfold mJoin at q
      rw [if_neg (by omega)] at q
      exact q H (Same.refl H)
    have c' : t < (ts.length : Int) := Int.not_le.mp fun z => c (decide_eq_true z)
    refine ⟨.int u, rfl, .ref a, rfl, a, _, rfl, .inr (SqT.of ha), _, _, rfl, rfl, _, rfl, ?_⟩
    rw [List.length_map]
    refine ite2 (fun d => ?_) (fun d => ?_)
    · have d' : (ts.length : Int) ≤ u := of_decide_eq_true d
      unfold mJoin at q
      rw [if_neg (by omega)] at q
      exact q H (Same.refl H)
    have d' : u < (ts.length : Int) := Int.not_le.mp fun z => d (decide_eq_true z)
    refine ⟨.int t, rfl, .int u, rfl, rfl, _, rfl, ite2 (fun g => ?_) (fun g => ?_)⟩
    · have g' : t = u := V.int.inj (of_decide_eq_true g)
      unfold mJoin at q
      rw [if_neg (fun z => z.2.2 g')] at q
      exact q H (Same.refl H)
    have g' : t ≠ u := fun z => g (decide_eq_true (congrArg V.int z))
    unfold mJoin mText at q
    rw [if_pos ⟨c', d', g'⟩] at q
    obtain ⟨et, hm⟩ := text_at t0 c'
    obtain ⟨eu, hu⟩ := text_at u0 d'
    have lt := lens _ hm
    have lu := lens _ hu
    refine ⟨.ref a, rfl, .int u, rfl, a, u, _, ts, rfl, ha, u0, d', few, fun r H1 k1 hr => ?_⟩
    refine ⟨.ref r, rfl, .int t, rfl, .ref a, rfl, .int t, rfl, a, _, t, _, rfl, rfl, SqT.of (k1 _ _ ha), et, .ref a, rfl, .int u, rfl, a, _, u, _, rfl, rfl, SqT.of (k1 _ _ ha), eu, _, _, rfl, rfl, by omega, ?_⟩
    exact ⟨r, t, _, _, rfl, hr, t0, by rw [List.length_set]; exact c', by rw [List.length_set]; exact few, fun g H2 k2 hg => q g H2 (k1.trans k2) hg⟩
abbrev sQTextsGone : Stmt := topS 26
theorem scQTextsGone : FnScope ["texts", "_"] ["texts", "_"] (defScope sQTextsGone) := ⟨rfl, rfl, rfl, by decide +kernel, rfl, by decide +kernel, by decide +kernel⟩
theorem ok_QTextsGone {f : Addr} {fd : FuncData} (F : Fun K "_texts_gone" "_texts_gone" sQTextsGone f fd)  (T : Glob mg) : FnOk P w K mg base CX0 1 f fd ["texts", "_"] spGone := by
  refine F.ok scQTextsGone (fun vs H Q E h => ?_) (fun cdv A outer s H vs Q E hr h => ?_)
  · obtain ⟨a, y, ts, rfl, _⟩ := h
    rfl
  · refine ⟨_, (pss_cons (ps_if (PW.pt (pw_or (pt_cmpR op_eq (pe_callB call_len_seq (by rfl) T.len PySem.boot_len (pa_cons (pv 0) pa_nil)) pe_int (nomark _)) (pw_or1 (pt_cmpR op_ne (pe_ix ix_tup (pv 0) (pe_un un_neg pe_int) (fun _ _ => rfl)) pe_str (nomark _)))))
      (pss_one (ps_ret pe_non))
      pss_nil)
      (pss_one (ps_ret (pe_slice sl_tupM (pv 0) po_none (po_some (pe_un un_neg pe_int)))))), ?_⟩
    obtain ⟨a, y, ts, rfl, ha, few, q⟩ := h
    refine ⟨.ref a, rfl, a, _, rfl, .inr (SqT.of ha), rfl, _, rfl, ite2 (fun c => ?_) (fun c => ?_)⟩
    · have c' : ts = [] := by
        have e := V.int.inj (of_decide_eq_true c)
        rw [List.length_map] at e
        exact List.eq_nil_of_length_eq_zero (by omega)
      subst c'
      exact q H (Same.refl H)
    have ne : ts ≠ [] := fun z => c (by rw [z]; rfl)
    have lp : 0 < ts.length := List.length_pos_iff.mpr ne
    have el : atI (ts.map V.str) (-1) = some (.str (ts.getLast ne)) := by
      have e1 : ixN (ts.map V.str).length (-1) = some (ts.length - 1) := by
        unfold ixN
        rw [if_neg (by decide), if_pos (by rw [List.length_map]; omega), List.length_map]
        congr 1
        omega
      unfold atI
      rw [e1, Option.bind_some, List.getElem?_map, List.getLast_eq_getElem, List.getElem?_eq_getElem (by omega)]
      rfl
    refine ⟨.ref a, rfl, _, rfl, a, _, _, _, rfl, rfl, SqT.of ha, el, rfl, _, rfl, ite2 (fun d => ?_) (fun d => ?_)⟩
    · have d' : ts.getLast ne ≠ Str.ofString "" := fun z => by
        rw [z, decide_eq_true rfl] at d
        exact absurd d (by decide)
      unfold mGone at q
      rw [if_neg (by rw [List.getLast?_eq_some_getLast ne]; exact fun z => d' (Option.some.inj z))] at q
      exact q H (Same.refl H)
    have d' : ts.getLast ne = Str.ofString "" := Classical.byContradiction fun z => d (by rw [decide_eq_false (fun w => z (V.str.inj w))]; rfl)
    unfold mGone at q
    rw [if_pos (by rw [List.getLast?_eq_some_getLast ne, d'])] at q
    refine ⟨.ref a, rfl, _, rfl, -1, rfl, a, _, rfl, ha, fun r H' k hr => q r H' k ?_⟩
    rw [hr]
    have es : cutV (ts.map V.str) none (some (-1)) = ts.dropLast.map V.str := by
      unfold cutV
      have e2 : HT.sIx (ts.map V.str).length (ts.map V.str).length (some (-1)) = ts.length - 1 := by
        show (if (-1 : Int) < 0 then ((-1 : Int) + ((ts.map V.str).length : Int)).toNat else min (-1 : Int).toNat (ts.map V.str).length) = _
        rw [if_pos (by decide), List.length_map]
        omega
      rw [e2]
      show (List.drop 0 (ts.map V.str)).take (ts.length - 1 - 0) = _
      rw [List.drop_zero, Nat.sub_zero, List.dropLast_eq_take, List.map_take]
    rw [es]
end
end LawK
set_option maxHeartbeats 4000000
namespace LawK
open PySem PySem.Spec PyProof.Rows L2 Ev
def posV : V → Bool
  | .int i => decide (0 < i)
  | _ => false
/-- whether a thing is a part of this kind -/
def partV (kd : Str) (x : V) : Bool := if kd = Str.ofString "number" then numV x else if kd = Str.ofString "many" then numV x && posV x else if kd = Str.ofString "word" then wordV x else sgV x
def spPart : Sp := fun vs H Q _ => ∃ (kd : Str) (x : V) (k : Kn), vs = [.str kd, x] ∧ Kd H x k ∧ Vs x ∧ Q (.bl (partV kd x)) H
def stretchV (ts : List Str) (t a m : V) : Bool := inV2 0 ((ts.length : Int) - 1) t && (match t with
  | .int i => inV2 0 ((mText ts i).length - 1) a && (match a with
    | .int j => inV2 1 ((mText ts i).length - j) m
    | _ => false)
  | _ => false)
def spStretch : Sp := fun vs H Q _ => ∃ (b : Addr) (ts : List Str) (t a m : V) (k1 k2 k3 : Kn), vs = [.ref b, t, a, m] ∧ H b = some (.tup (ts.map V.str)) ∧ ts.length ≤ 100 ∧ (∀ t ∈ ts, t.length ≤ 5000) ∧ Kd H t k1 ∧ Kd H a k2 ∧ Kd H m k3 ∧ Q (.bl (stretchV ts t a m)) H
theorem num_int {x : V} (h : numV x = true) : ∃ i, x = .int i ∧ 0 ≤ i := by
  cases x with
  | int i => exact ⟨i, rfl, of_decide_eq_true h⟩
  | non => cases h
  | bl b => cases h
  | str b => cases h
  | byt b => cases h
  | flt b => cases h
  | ref b => cases h
  | ty b => cases h
theorem in_int {x : V} {a b : Int} (h : inV2 a b x = true) : ∃ i, x = .int i ∧ a ≤ i ∧ i ≤ b := by
  cases x with
  | int i =>
    obtain ⟨h1, h2⟩ := Bool.and_eq_true_iff.mp (show (decide (a ≤ i) && decide (i ≤ b)) = true from h)
    exact ⟨i, rfl, of_decide_eq_true h1, of_decide_eq_true h2⟩
  | non => cases h
  | bl b => cases h
  | str b => cases h
  | byt b => cases h
  | flt b => cases h
  | ref b => cases h
  | ty b => cases h
section
variable {P : Program} {w : World} {K : PySem.W.Frag} {mg : Str → Option Value} {base : Heap}
abbrev sQIsPart : Stmt := topS 19
theorem scQIsPart : FnScope ["kind", "thing"] ["kind", "thing"] (defScope sQIsPart) := ⟨rfl, rfl, rfl, by decide +kernel, rfl, by decide +kernel, by decide +kernel⟩
theorem ok_QIsPart {f : Addr} {fd : FuncData} (F : Fun K "_is_part" "_is_part" sQIsPart f fd) {fPNumber : Addr} {fdPNumber : FuncData} (DPNumber : Dk P w K mg base "is_number" sPNumber ["thing"] 1 spNum fPNumber fdPNumber) {fPSigns : Addr} {fdPSigns : FuncData} (DPSigns : Dk P w K mg base "is_signs" sPSigns ["thing"] 1 spSg fPSigns fdPSigns) {fPWord : Addr} {fdPWord : FuncData} (DPWord : Dk P w K mg base "is_word" sPWord ["thing"] 2 spWd fPWord fdPWord) (T : Glob mg) : FnOk P w K mg base CX0 3 f fd ["kind", "thing"] spPart := by
  refine F.ok scQIsPart (fun vs H Q E h => ?_) (fun cdv A outer s H vs Q E hr h => ?_)
  · obtain ⟨kd, x, k, rfl, _⟩ := h
    rfl
  · refine ⟨_, (pss_cons (ps_if (pt_cmpR op_eq (pv 0) pe_str (nomark _))
      (pss_one (ps_ret (pe_call DPNumber.ok (hr.mono (by decide)) (by rfl) DPNumber.g DPNumber.F.kp DPNumber.b .nil pass0 (pa_cons (pv 1) pa_nil))))
      pss_nil)
      (pss_cons (ps_if (pt_cmpR op_eq (pv 0) pe_str (nomark _))
      (pss_one (ps_ret (pe_and (pe_call DPNumber.ok (hr.mono (by decide)) (by rfl) DPNumber.g DPNumber.F.kp DPNumber.b .nil pass0 (pa_cons (pv 1) pa_nil)) (pe_one (pe_cmpR op_gt (pv 1) pe_int (nomark _))))))
      pss_nil)
      (pss_cons (ps_if (pt_cmpR op_eq (pv 0) pe_str (nomark _))
      (pss_one (ps_ret (pe_call DPWord.ok (hr.mono (by decide)) (by rfl) DPWord.g DPWord.F.kp DPWord.b .nil pass0 (pa_cons (pv 1) pa_nil))))
      pss_nil)
      (pss_one (ps_ret (pe_call DPSigns.ok (hr.mono (by decide)) (by rfl) DPSigns.g DPSigns.F.kp DPSigns.b .nil pass0 (pa_cons (pv 1) pa_nil))))))), ?_⟩
    obtain ⟨kd, x, k, rfl, hk, hv, q⟩ := h
    have sne : ∀ {a b : Str}, ¬ decide (V.str a = V.str b) = true → a ≠ b := fun g z => g (decide_eq_true (congrArg V.str z))
    refine ⟨.str kd, rfl, rfl, _, rfl, ite2 (fun e => ?_) (fun e => ?_)⟩
    · have e' := V.str.inj (of_decide_eq_true e)
      unfold partV at q
      rw [if_pos e'] at q
      exact ⟨x, rfl, x, k, rfl, hk, q⟩
    have n1 := sne e
    refine ⟨.str kd, rfl, rfl, _, rfl, ite2 (fun e => ?_) (fun e => ?_)⟩
    · have e' := V.str.inj (of_decide_eq_true e)
      unfold partV at q
      rw [if_neg n1, if_pos e'] at q
      refine ⟨x, rfl, x, k, rfl, hk, _, rfl, ite2 (fun c => ?_) (fun c => ?_)⟩
      · rw [c, Bool.true_and] at q
        obtain ⟨i, rfl, _⟩ := num_int c
        exact ⟨.int i, rfl, _, _, rfl, rfl, q⟩
      · have c' : numV x = false := by simpa using c
        rw [c', Bool.false_and] at q
        exact q
    have n2 := sne e
    refine ⟨.str kd, rfl, rfl, _, rfl, ite2 (fun e => ?_) (fun e => ?_)⟩
    · have e' := V.str.inj (of_decide_eq_true e)
      unfold partV at q
      rw [if_neg n1, if_neg n2, if_pos e'] at q
      exact ⟨x, rfl, x, k, rfl, hk, hv, q⟩
    have n3 := sne e
    unfold partV at q
    rw [if_neg n1, if_neg n2, if_neg n3] at q
    exact ⟨x, rfl, x, k, rfl, hk, hv, q⟩
abbrev sIsStretch : Stmt := topS 63
theorem scIsStretch : FnScope ["texts", "text", "at", "many"] ["texts", "text", "at", "many"] (defScope sIsStretch) := ⟨rfl, rfl, rfl, by decide +kernel, rfl, by decide +kernel, by decide +kernel⟩
theorem ok_IsStretch {f : Addr} {fd : FuncData} (F : Fun K "_law_is_stretch" "_law_is_stretch" sIsStretch f fd) {fIsWithin : Addr} {fdIsWithin : FuncData} (DIsWithin : Dk P w K mg base "_law_is_within" sIsWithin ["thing", "least", "most"] 2 spIn fIsWithin fdIsWithin) (T : Glob mg) : FnOk P w K mg base CX0 3 f fd ["texts", "text", "at", "many"] spStretch := by
  refine F.ok scIsStretch (fun vs H Q E h => ?_) (fun cdv A outer s H vs Q E hr h => ?_)
  · obtain ⟨b, ts, t, a, m, k1, k2, k3, rfl, _⟩ := h
    rfl
  · refine ⟨_, (pss_cons (ps_if (PW.pt (pw_or (pt_not (pt_val (pe_call DIsWithin.ok (hr.mono (by decide)) (by rfl) DIsWithin.g DIsWithin.F.kp DIsWithin.b .nil pass0 (pa_cons (pv 1) (pa_cons pe_int (pa_cons (pe_op op_sub (pe_callB call_len_seq (by rfl) T.len PySem.boot_len (pa_cons (pv 0) pa_nil)) pe_int) pa_nil)))))) (pw_or1 (pt_not (pt_val (pe_call DIsWithin.ok (hr.mono (by decide)) (by rfl) DIsWithin.g DIsWithin.F.kp DIsWithin.b .nil pass0 (pa_cons (pv 2) (pa_cons pe_int (pa_cons (pe_op op_sub (pe_callB call_lenZ (by rfl) T.len PySem.boot_len (pa_cons (pe_ix ix_tup (pv 0) (pv 1) (fun _ _ => rfl)) pa_nil)) pe_int) pa_nil)))))))))
      (pss_one (ps_ret pe_bl))
      pss_nil)
      (pss_one (ps_ret (pe_call DIsWithin.ok (hr.mono (by decide)) (by rfl) DIsWithin.g DIsWithin.F.kp DIsWithin.b .nil pass0 (pa_cons (pv 3) (pa_cons pe_int (pa_cons (pe_op op_sub (pe_callB call_lenZ (by rfl) T.len PySem.boot_len (pa_cons (pe_ix ix_tup (pv 0) (pv 1) (fun _ _ => rfl)) pa_nil)) (pv 2)) pa_nil))))))), ?_⟩
    obtain ⟨b, ts, t, a, m, k1, k2, k3, rfl, hb, few, lens, h1, h2, h3, q⟩ := h
    refine ⟨t, rfl, .ref b, rfl, b, _, rfl, .inr (SqT.of hb), _, _, rfl, rfl, t, k1, 0, _, rfl, h1, _, rfl, ?_⟩
    rw [List.length_map]
    refine ite2 (fun c => ?_) (fun c => ?_)
    · have c' : inV2 0 ((ts.length : Int) - 1) t = false := by simpa using c
      unfold stretchV at q
      rw [c', Bool.false_and] at q
      exact q
    have c' : inV2 0 ((ts.length : Int) - 1) t = true := by simpa using c
    obtain ⟨i, rfl, i0, i1⟩ := in_int c'
    obtain ⟨et, hm⟩ := text_at i0 (show i < (ts.length : Int) by omega)
    have lt := lens _ hm
    unfold stretchV mText at q
    rw [c', Bool.true_and] at q
    dsimp only at q
    refine ⟨a, rfl, .ref b, rfl, .int i, rfl, b, _, i, _, rfl, rfl, SqT.of hb, et, _, rfl, len5 lt, _, _, rfl, rfl, a, k2, 0, _, rfl, h2, _, rfl, ite2 (fun d => ?_) (fun d => ?_)⟩
    · have d' : inV2 0 (((ts.getD i.toNat Str.empty).length : Int) - 1) a = false := by simpa using d
      rw [d', Bool.false_and] at q
      exact q
    have d' : inV2 0 (((ts.getD i.toNat Str.empty).length : Int) - 1) a = true := by simpa using d
    rw [d', Bool.true_and] at q
    obtain ⟨j, rfl, j0, j1⟩ := in_int d'
    exact ⟨m, rfl, .ref b, rfl, .int i, rfl, b, _, i, _, rfl, rfl, SqT.of hb, et, _, rfl, len5 lt, .int j, rfl, _, _, rfl, rfl, m, k3, 1, _, rfl, h3, q⟩
end
end LawK
set_option maxHeartbeats 4000000
namespace Ev
open PySem PySem.Spec PyProof.Rows L2
/-- the entries of a written dict with texts as keys -/
inductive Ents (P : Params) : List DictEntry → List (Str × V) → Prop
  | nil : Ents P [] []
  | cons {x : Str} {t : Tok} {u : Value} {v : V} {es : List DictEntry} {kvs : List (Str × V)} (r : RelV v u) (h : Ents P es kvs) : Ents P (⟨PyData.keyHash P x, .str x t, u⟩ :: es) ((x, v) :: kvs)
/-- a dict of the module at a -/
structure KD (K : PySem.W.Frag) (w : World) (a : Addr) (kvs : List (Str × V)) : Prop where
  lk : ∃ (es : List DictEntry) (n : Nat), K.lookup a = some ⟨.type "dict", none, .dict es.toArray n, #[]⟩ ∧ Ents w.params es kvs
  ne : (a == sysModules) = false
theorem Ents.lit {P : Params} {es : List DictEntry} {kvs : List (Str × V)} (h : Ents P es kvs) : PySem.W.KeysLit P es := by
  induction h with
  | nil => trivial
  | cons r h ih => exact ⟨⟨_, _, rfl, rfl⟩, ih⟩
theorem Ents.find {P : Params} {es : List DictEntry} {kvs : List (Str × V)} (h : Ents P es kvs) (z : Str) :
    (kvs.lookup z = none ∧ findBy Value.isStrOf es.toArray z = none) ∨ ∃ v u, kvs.lookup z = some v ∧ findBy Value.isStrOf es.toArray z = some u ∧ RelV v u := by
  induction h with
  | nil => exact .inl ⟨rfl, rfl⟩
  | @cons x t u v es kvs r h ih =>
    unfold findBy at ih ⊢
    rw [List.find?_toArray, List.find?_cons, List.lookup_cons]
    by_cases e : z = x
    · subst e
      have e1 : Value.isStrOf z (.str z t) = true := by simp [Value.isStrOf]
      rw [e1, beq_self_eq_true]
      exact .inr ⟨v, u, rfl, rfl, r⟩
    · have e1 : Value.isStrOf z (.str x t) = false := by
        cases q : Value.isStrOf z (.str x t) with
        | false => rfl
        | true =>
          obtain ⟨t', q⟩ := Value.isStrOf_shape q
          injection q with q1 _
          exact absurd q1.symm e
      rw [e1, beq_false_of_ne e]
      rw [List.find?_toArray] at ih
      exact ih
theorem kd_mk {K : PySem.W.Frag} {w : World} {a : Addr} {es : List DictEntry} {n : Nat} {kvs : List (Str × V)} (l : K.lookup a = some ⟨.type "dict", none, .dict es.toArray n, #[]⟩) (ne : (a == sysModules) = false) (h : Ents w.params es kvs) : KD K w a kvs := ⟨⟨es, n, l, h⟩, ne⟩
def rNotInKD (K : PySem.W.Frag) (w : World) : R2 := fun x y H Q => ∃ a z kvs, x = .str z ∧ y = .ref a ∧ KD K w a kvs ∧ Q (.bl (!(kvs.lookup z).isSome)) H
def rIxKD (K : PySem.W.Frag) (w : World) : R2 := fun x y H Q => ∃ a z kvs v, x = .ref a ∧ y = .str z ∧ KD K w a kvs ∧ kvs.lookup z = some v ∧ Q v H
section
variable {X : Cx}
theorem op_notInKD : OpR X (compareOp .NotIn) (rNotInKD X.K X.w) := by
  intro pins s σ H x y v u Q I rx ry h
  obtain ⟨a, z, kvs, rfl, rfl, ⟨⟨es, n, hl, en⟩, ne⟩, q⟩ := h
  obtain ⟨t, rfl⟩ := (show ∃ t, v = Value.str z t from rx)
  obtain rfl : u = Value.ref a := ry
  have hm := PySem.W.mapOf_K (prog := X.prog) (w := X.w) I.kIn hl en.lit
  refine wpAny_notIn_of (strKind_is X.prog X.w z t) ne hm ⟨.bl (!(findBy Value.isStrOf es.toArray z).isSome), H, I.tok _, rfl, ?_⟩
  rcases en.find z with ⟨e1, e2⟩ | ⟨v0, u0, e1, e2, _⟩
  · rw [e1] at q
    rw [e2]
    exact q
  · rw [e1] at q
    rw [e2]
    exact q
theorem ix_KD : IxR X (rIxKD X.K X.w) := by
  intro value slice pins s σ H x y v u Q I rx ry h hs
  obtain ⟨a, z, kvs, r, rfl, rfl, ⟨⟨es, n, hl, en⟩, ne⟩, e, q⟩ := h
  obtain rfl : v = Value.ref a := rx
  obtain ⟨t, rfl⟩ := ry
  have hm := PySem.W.mapOf_K (prog := X.prog) (w := X.w) I.kIn hl en.lit
  rcases en.find z with ⟨e1, e2⟩ | ⟨v0, u0, e1, e2, ru⟩
  · rw [e1] at e
    cases e
  · rw [e1] at e
    cases e
    exact tail_any hm.typeIs slot_dict_getitem.lookup (wpAny_getItem_of (strKind_is X.prog X.w z t) hm e2 ⟨r, H, I.tok _, ru, q⟩) hs
end
/-- a local name that holds one of several defs -/
def tCallR (i : Nat) (S : Addr → Sp → Prop) (t : TA) : TE := fun σ H Q => ∃ f sp, σ[i]? = some (some (.ref f)) ∧ S f sp ∧ t σ H fun vs H1 => sp vs H1 Q (fun _ _ _ => False)
theorem pe_callR {X : Cx} {k i : Nat} {x : Str} {p pos : Pos} {e : Expr} {es : List Expr} {t : TA} {S : Addr → Sp → Prop} (A : ∀ f sp, S f sp → Held X.prog X.w X.K X.mg X.base k f sp) (hr : Room k X.A) (hN : X.N[i]? = some x) (hv : Vis X.env.scope x) (ha : PA X (e :: es) t)
    (hdb : (x == ("__debug__" : Str)) = false := by decide) (hcd : (x == ("__classdict__" : Str)) = false := by decide)
    (he : starEach (e :: es) X.env = (false, eval e X.env) :: starEach es X.env := by rfl) (hpl : (backTo pos (starEach es X.env)).any (·.1) = false := by rfl) : PE X (.Call (.Name x p) (e :: es) [] pos) (tCallR i S t) := by
  refine ⟨fun pins s σ H Q I h => ?_⟩
  obtain ⟨f, sp, hs, hS, ht⟩ := h
  obtain ⟨fd, ps, F, hk, hb⟩ := (A f sp hS).ex
  refine (pe_callL (i := i) (f := f) (sp := sp) (dvs := []) (E := fun _ _ _ => False) F hr hN hv hk hb .nil (fun _ _ _ _ _ _ _ z => z.elim) ha hdb hcd he hpl).run pins s σ H Q I ⟨hs, ?_⟩
  have e0 : (fun (vs : List V) (H1 : Hp) => sp (vs ++ []) H1 Q (fun _ _ _ => False)) = fun vs H1 => sp vs H1 Q (fun _ _ _ => False) := by
    funext vs H1
    rw [List.append_nil]
  show t σ H (fun vs H1 => sp (vs ++ []) H1 Q (fun _ _ _ => False))
  rw [e0]
  exact ht
end Ev
set_option maxHeartbeats 4000000
namespace LawK
open PySem PySem.Spec PyProof.Rows L2 Ev
/-- the edits of the document -/
inductive Ed
  | put (t a : Int) (z : Str)
  | cut (t a n : Int)
  | change (t a : Int) (z : Str)
  | come (z : Str)
  | go
  | split (t a : Int)
  | join (t u : Int)
  | move (t a n u p : Int)
def Ed.vals : Ed → List V
  | .put t a z => [.str (Str.ofString "put"), .int t, .int a, .str z]
  | .cut t a n => [.str (Str.ofString "cut"), .int t, .int a, .int n]
  | .change t a z => [.str (Str.ofString "change"), .int t, .int a, .str z]
  | .come z => [.str (Str.ofString "come"), .str z]
  | .go => [.str (Str.ofString "go")]
  | .split t a => [.str (Str.ofString "split"), .int t, .int a]
  | .join t u => [.str (Str.ofString "join"), .int t, .int u]
  | .move t a n u p => [.str (Str.ofString "move"), .int t, .int a, .int n, .int u, .int p]
/-- numbers, words and signs in their places -/
def Ed.ok : Ed → Prop
  | .put t a z => 0 ≤ t ∧ 0 ≤ a ∧ wordV (.str z) = true
  | .cut t a n => 0 ≤ t ∧ 0 ≤ a ∧ 0 < n
  | .change t a z => 0 ≤ t ∧ 0 ≤ a ∧ wordV (.str z) = true
  | .come z => sgB z = true
  | .go => True
  | .split t a => 0 ≤ t ∧ 0 ≤ a
  | .join t u => 0 ≤ t ∧ 0 ≤ u
  | .move t a n u p => 0 ≤ t ∧ 0 ≤ a ∧ 0 < n ∧ 0 ≤ u ∧ 0 ≤ p
/-- the texts behind it, none where there is no room -/
def Ed.mk (ts : List Str) : Ed → Option (List Str)
  | .put t a z => mPut ts t a z
  | .cut t a n => mCut ts t a n
  | .change t a z => mChange ts t a z
  | .come z => some (ts ++ [z])
  | .go => mGone ts
  | .split t a => mSplit ts t a
  | .join t u => mJoin ts t u
  | .move t a n u p => mMove ts t a n u p
/-- the law's form -/
def Ed.fits (ts : List Str) : Ed → Prop
  | .put t a z => 0 ≤ t ∧ t < ts.length ∧ wordV (.str z) = true ∧ 0 ≤ a ∧ a ≤ (mText ts t).length
  | .cut t a n => 0 ≤ t ∧ t < ts.length ∧ 0 ≤ a ∧ 1 ≤ n ∧ a + n ≤ (mText ts t).length
  | .change t a z => wordV (.str z) = true ∧ 0 ≤ t ∧ t < ts.length ∧ 0 ≤ a ∧ a + (z.length : Int) ≤ (mText ts t).length
  | .come z => sgB z = true
  | .go => ts.getLast? = some (Str.ofString "")
  | .split t a => 0 ≤ t ∧ t < ts.length ∧ 0 ≤ a ∧ a ≤ (mText ts t).length
  | .join t u => 0 ≤ t ∧ t < ts.length ∧ 0 ≤ u ∧ u < ts.length ∧ t ≠ u
  | .move t a n u p => 0 ≤ t ∧ t < ts.length ∧ 0 ≤ a ∧ 1 ≤ n ∧ a + n ≤ (mText ts t).length ∧ 0 ≤ u ∧ u < ts.length ∧ 0 ≤ p ∧ p ≤ (mText ts u).length - n * (if u = t then 1 else 0)
def HasForm (o : Option (List V)) : Prop := ∃ e : Ed, o = some e.vals ∧ e.ok
def edOf : List V → Option Ed
  | [.str w, .int t, .int a, .str z] => if w = Str.ofString "put" then some (.put t a z) else if w = Str.ofString "change" then some (.change t a z) else none
  | [.str w, .int t, .int a, .int n] => if w = Str.ofString "cut" then some (.cut t a n) else none
  | [.str w, .str z] => if w = Str.ofString "come" then some (.come z) else none
  | [.str w] => if w = Str.ofString "go" then some .go else none
  | [.str w, .int t, .int a] => if w = Str.ofString "split" then some (.split t a) else if w = Str.ofString "join" then some (.join t a) else none
  | [.str w, .int t, .int a, .int n, .int u, .int p] => if w = Str.ofString "move" then some (.move t a n u p) else none
  | _ => none
theorem edOf_vals (e : Ed) : edOf e.vals = some e := by
  cases e with
  | put t a z => simp only [Ed.vals, edOf, if_true]
  | cut t a n => simp only [Ed.vals, edOf, if_true]
  | change t a z =>
    simp only [Ed.vals, edOf, if_true]
    exact if_neg (by decide +kernel)
  | come z => simp only [Ed.vals, edOf, if_true]
  | go => simp only [Ed.vals, edOf, if_true]
  | split t a => simp only [Ed.vals, edOf, if_true]
  | join t u =>
    simp only [Ed.vals, edOf, if_true]
    exact if_neg (by decide +kernel)
  | move t a n u p => simp only [Ed.vals, edOf, if_true]
theorem vals_inj {e e' : Ed} (h : e.vals = e'.vals) : e = e' := by
  have h1 := edOf_vals e
  rw [h, edOf_vals e'] at h1
  exact (Option.some.inj h1).symm
abbrev kNum : Str := Str.ofString "number"
abbrev kMany : Str := Str.ofString "many"
abbrev kWord : Str := Str.ofString "word"
abbrev kSigns : Str := Str.ofString "signs"
def kindsOf (z : Str) : Option (List Str) :=
  if z = Str.ofString "put" then some [kNum, kNum, kWord] else if z = Str.ofString "cut" then some [kNum, kNum, kMany] else if z = Str.ofString "change" then some [kNum, kNum, kWord] else
  if z = Str.ofString "come" then some [kSigns] else if z = Str.ofString "go" then some [] else if z = Str.ofString "split" then some [kNum, kNum] else if z = Str.ofString "join" then some [kNum, kNum] else
  if z = Str.ofString "move" then some [kNum, kNum, kMany, kNum, kNum] else none
theorem part_num (x : V) : partV kNum x = numV x := if_pos rfl
theorem part_many (x : V) : partV kMany x = (numV x && posV x) := (if_neg (by decide +kernel)).trans (if_pos rfl)
theorem part_word (x : V) : partV kWord x = wordV x := (if_neg (by decide +kernel)).trans ((if_neg (by decide +kernel)).trans (if_pos rfl))
theorem part_signs (x : V) : partV kSigns x = sgV x := (if_neg (by decide +kernel)).trans ((if_neg (by decide +kernel)).trans (if_neg (by decide +kernel)))
def allP (ks : List Str) (ps : List V) : Bool := (List.zipWith partV ks ps).all id
theorem word_str {x : V} (h : wordV x = true) : ∃ z, x = .str z := by
  cases x with
  | str z => exact ⟨z, rfl⟩
  | non => cases h
  | bl b => cases h
  | int b => cases h
  | byt b => cases h
  | flt b => cases h
  | ref b => cases h
  | ty b => cases h
theorem num_of {i : Int} : numV (.int i) = true ↔ 0 ≤ i := ⟨fun h => of_decide_eq_true h, fun h => decide_eq_true h⟩
theorem pos_of {i : Int} : posV (.int i) = true ↔ 0 < i := ⟨fun h => of_decide_eq_true h, fun h => decide_eq_true h⟩
theorem len2 {α : Type} {ps : List α} (h : ps.length = 2) : ∃ a b, ps = [a, b] := by
  match ps, h with
  | [a, b], _ => exact ⟨a, b, rfl⟩
theorem len3 {α : Type} {ps : List α} (h : ps.length = 3) : ∃ a b c, ps = [a, b, c] := by
  match ps, h with
  | [a, b, c], _ => exact ⟨a, b, c, rfl⟩
theorem len1 {α : Type} {ps : List α} (h : ps.length = 1) : ∃ a, ps = [a] := by
  match ps, h with
  | [a], _ => exact ⟨a, rfl⟩
theorem len5' {α : Type} {ps : List α} (h : ps.length = 5) : ∃ a b c d e, ps = [a, b, c, d, e] := by
  match ps, h with
  | [a, b, c, d, e], _ => exact ⟨a, b, c, d, e, rfl⟩
theorem form_of {z : Str} {ps : List V} {ks : List Str} (h : kindsOf z = some ks) (hl : ps.length = ks.length) (ha : allP ks ps = true) : HasForm (some (.str z :: ps)) := by
  unfold kindsOf at h
  by_cases c1 : z = Str.ofString "put"
  · rw [if_pos c1] at h
    cases h
    obtain ⟨a, b, c, rfl⟩ := len3 hl
    simp only [allP, List.zipWith_cons_cons, List.zipWith_nil_left, List.all_cons, List.all_nil, id, Bool.and_true, part_num, part_word, part_many, part_signs, Bool.and_eq_true] at ha
    obtain ⟨i, rfl, hi⟩ := num_int ha.1
    obtain ⟨j, rfl, hj⟩ := num_int ha.2.1
    obtain ⟨y, rfl⟩ := word_str ha.2.2
    exact ⟨.put i j y, by rw [c1]; rfl, hi, hj, ha.2.2⟩
  rw [if_neg c1] at h
  by_cases c2 : z = Str.ofString "cut"
  · rw [if_pos c2] at h
    cases h
    obtain ⟨a, b, c, rfl⟩ := len3 hl
    simp only [allP, List.zipWith_cons_cons, List.zipWith_nil_left, List.all_cons, List.all_nil, id, Bool.and_true, part_num, part_word, part_many, part_signs, Bool.and_eq_true] at ha
    obtain ⟨i, rfl, hi⟩ := num_int ha.1
    obtain ⟨j, rfl, hj⟩ := num_int ha.2.1
    obtain ⟨n, rfl, hn⟩ := num_int ha.2.2.1
    exact ⟨.cut i j n, by rw [c2]; rfl, hi, hj, pos_of.mp ha.2.2.2⟩
  rw [if_neg c2] at h
  by_cases c3 : z = Str.ofString "change"
  · rw [if_pos c3] at h
    cases h
    obtain ⟨a, b, c, rfl⟩ := len3 hl
    simp only [allP, List.zipWith_cons_cons, List.zipWith_nil_left, List.all_cons, List.all_nil, id, Bool.and_true, part_num, part_word, part_many, part_signs, Bool.and_eq_true] at ha
    obtain ⟨i, rfl, hi⟩ := num_int ha.1
    obtain ⟨j, rfl, hj⟩ := num_int ha.2.1
    obtain ⟨y, rfl⟩ := word_str ha.2.2
    exact ⟨.change i j y, by rw [c3]; rfl, hi, hj, ha.2.2⟩
  rw [if_neg c3] at h
  by_cases c4 : z = Str.ofString "come"
  · rw [if_pos c4] at h
    cases h
    obtain ⟨a, rfl⟩ := len1 hl
    simp only [allP, List.zipWith_cons_cons, List.zipWith_nil_left, List.all_cons, List.all_nil, id, Bool.and_true, part_num, part_word, part_many, part_signs, Bool.and_eq_true] at ha
    obtain ⟨y, rfl⟩ := sg_str ha
    exact ⟨.come y, by rw [c4]; rfl, ha⟩
  rw [if_neg c4] at h
  by_cases c5 : z = Str.ofString "go"
  · rw [if_pos c5] at h
    cases h
    obtain rfl := List.length_eq_zero_iff.mp hl
    exact ⟨.go, by rw [c5]; rfl, trivial⟩
  rw [if_neg c5] at h
  by_cases c6 : z = Str.ofString "split"
  · rw [if_pos c6] at h
    cases h
    obtain ⟨a, b, rfl⟩ := len2 hl
    simp only [allP, List.zipWith_cons_cons, List.zipWith_nil_left, List.all_cons, List.all_nil, id, Bool.and_true, part_num, part_word, part_many, part_signs, Bool.and_eq_true] at ha
    obtain ⟨i, rfl, hi⟩ := num_int ha.1
    obtain ⟨j, rfl, hj⟩ := num_int ha.2
    exact ⟨.split i j, by rw [c6]; rfl, hi, hj⟩
  rw [if_neg c6] at h
  by_cases c7 : z = Str.ofString "join"
  · rw [if_pos c7] at h
    cases h
    obtain ⟨a, b, rfl⟩ := len2 hl
    simp only [allP, List.zipWith_cons_cons, List.zipWith_nil_left, List.all_cons, List.all_nil, id, Bool.and_true, part_num, part_word, part_many, part_signs, Bool.and_eq_true] at ha
    obtain ⟨i, rfl, hi⟩ := num_int ha.1
    obtain ⟨j, rfl, hj⟩ := num_int ha.2
    exact ⟨.join i j, by rw [c7]; rfl, hi, hj⟩
  rw [if_neg c7] at h
  by_cases c8 : z = Str.ofString "move"
  · rw [if_pos c8] at h
    cases h
    obtain ⟨a, b, c, d, e, rfl⟩ := len5' hl
    simp only [allP, List.zipWith_cons_cons, List.zipWith_nil_left, List.all_cons, List.all_nil, id, Bool.and_true, part_num, part_word, part_many, part_signs, Bool.and_eq_true] at ha
    obtain ⟨i, rfl, hi⟩ := num_int ha.1
    obtain ⟨j, rfl, hj⟩ := num_int ha.2.1
    obtain ⟨n, rfl, hn⟩ := num_int ha.2.2.1.1
    obtain ⟨u, rfl, hu⟩ := num_int ha.2.2.2.1
    obtain ⟨p, rfl, hp⟩ := num_int ha.2.2.2.2
    exact ⟨.move i j n u p, by rw [c8]; rfl, hi, hj, pos_of.mp ha.2.2.1.2, hu, hp⟩
  rw [if_neg c8] at h
  cases h
theorem form_kinds {e : Ed} (h : e.ok) : ∃ z ps ks, e.vals = .str z :: ps ∧ kindsOf z = some ks ∧ ps.length = ks.length ∧ allP ks ps = true := by
  cases e with
  | put t a z => exact ⟨_, _, [kNum, kNum, kWord], rfl, by decide +kernel, rfl, by simp only [allP, List.zipWith_cons_cons, List.zipWith_nil_left, List.all_cons, List.all_nil, id, part_num, part_word, num_of.mpr h.1, num_of.mpr h.2.1, h.2.2]; rfl⟩
  | cut t a n => exact ⟨_, _, [kNum, kNum, kMany], rfl, by decide +kernel, rfl, by simp only [allP, List.zipWith_cons_cons, List.zipWith_nil_left, List.all_cons, List.all_nil, id, part_num, part_many, num_of.mpr h.1, num_of.mpr h.2.1, num_of.mpr (Int.le_of_lt h.2.2), pos_of.mpr h.2.2]; rfl⟩
  | change t a z => exact ⟨_, _, [kNum, kNum, kWord], rfl, by decide +kernel, rfl, by simp only [allP, List.zipWith_cons_cons, List.zipWith_nil_left, List.all_cons, List.all_nil, id, part_num, part_word, num_of.mpr h.1, num_of.mpr h.2.1, h.2.2]; rfl⟩
  | come z =>
    have h' : sgV (.str z) = true := h
    exact ⟨_, _, [kSigns], rfl, by decide +kernel, rfl, by simp only [allP, List.zipWith_cons_cons, List.zipWith_nil_left, List.all_cons, List.all_nil, id, part_signs, h']; rfl⟩
  | go => exact ⟨_, _, [], rfl, by decide +kernel, rfl, rfl⟩
  | split t a => exact ⟨_, _, [kNum, kNum], rfl, by decide +kernel, rfl, by simp only [allP, List.zipWith_cons_cons, List.zipWith_nil_left, List.all_cons, List.all_nil, id, part_num, num_of.mpr h.1, num_of.mpr h.2]; rfl⟩
  | join t u => exact ⟨_, _, [kNum, kNum], rfl, by decide +kernel, rfl, by simp only [allP, List.zipWith_cons_cons, List.zipWith_nil_left, List.all_cons, List.all_nil, id, part_num, num_of.mpr h.1, num_of.mpr h.2]; rfl⟩
  | move t a n u p => exact ⟨_, _, [kNum, kNum, kMany, kNum, kNum], rfl, by decide +kernel, rfl, by simp only [allP, List.zipWith_cons_cons, List.zipWith_nil_left, List.all_cons, List.all_nil, id, part_num, part_many, num_of.mpr h.1, num_of.mpr h.2.1, num_of.mpr (Int.le_of_lt h.2.2.1), pos_of.mpr h.2.2.1, num_of.mpr h.2.2.2.1, num_of.mpr h.2.2.2.2]; rfl⟩
theorem no_form_kinds {z : Str} {ps : List V} (h : kindsOf z = none) : ¬ HasForm (some (.str z :: ps)) := fun ⟨e, he, ho⟩ => by
  obtain ⟨z', ps', ks, e1, e2, _⟩ := form_kinds ho
  rw [e1] at he
  injection he with he
  injection he with h1 h2
  injection h1 with h1
  rw [h1, e2] at h
  cases h
theorem form_iff {z : Str} {ps : List V} {ks : List Str} (h : kindsOf z = some ks) : HasForm (some (.str z :: ps)) ↔ ps.length = ks.length ∧ allP ks ps = true := by
  constructor
  · rintro ⟨e, he, ho⟩
    obtain ⟨z', ps', ks', e1, e2, e3, e4⟩ := form_kinds ho
    rw [e1] at he
    injection he with he
    injection he with h1 h2
    injection h1 with h1
    rw [h1, e2] at h
    cases h
    rw [h2]
    exact ⟨e3, e4⟩
  · exact fun ⟨h1, h2⟩ => form_of h h1 h2
theorem form_str {x : V} {ps : List V} (h : HasForm (some (x :: ps))) : ∃ z, x = .str z := by
  obtain ⟨e, he, ho⟩ := h
  obtain ⟨z', ps', ks', e1, _⟩ := form_kinds ho
  rw [e1] at he
  injection he with he
  injection he with h1 h2
  exact ⟨z', h1⟩
theorem form_nil : ¬ HasForm (some []) := fun ⟨e, he, ho⟩ => by
  obtain ⟨z', ps', ks', e1, _⟩ := form_kinds ho
  rw [e1] at he
  cases he
theorem form_none : ¬ HasForm none := fun ⟨e, he, ho⟩ => by cases he
/-- the law's form and the program's -/
theorem fits_iff {ts : List Str} {e : Ed} : e.fits ts ↔ e.ok ∧ ∃ us, e.mk ts = some us := by
  cases e with
  | put t a z =>
    show (0 ≤ t ∧ t < ts.length ∧ wordV (.str z) = true ∧ 0 ≤ a ∧ a ≤ (mText ts t).length) ↔ (0 ≤ t ∧ 0 ≤ a ∧ wordV (.str z) = true) ∧ ∃ us, mPut ts t a z = some us
    unfold mPut
    by_cases c : t < ts.length ∧ a ≤ (mText ts t).length
    · rw [if_pos c]
      exact ⟨fun ⟨h1, h2, h3, h4, h5⟩ => ⟨⟨h1, h4, h3⟩, _, rfl⟩, fun ⟨⟨h1, h4, h3⟩, _⟩ => ⟨h1, c.1, h3, h4, c.2⟩⟩
    · rw [if_neg c]
      exact ⟨fun ⟨h1, h2, h3, h4, h5⟩ => absurd ⟨h2, h5⟩ c, fun ⟨_, us, h⟩ => by cases h⟩
  | cut t a n =>
    show (0 ≤ t ∧ t < ts.length ∧ 0 ≤ a ∧ 1 ≤ n ∧ a + n ≤ (mText ts t).length) ↔ (0 ≤ t ∧ 0 ≤ a ∧ 0 < n) ∧ ∃ us, mCut ts t a n = some us
    unfold mCut
    by_cases c : t < ts.length ∧ a + n ≤ (mText ts t).length
    · rw [if_pos c]
      exact ⟨fun ⟨h1, h2, h3, h4, h5⟩ => ⟨⟨h1, h3, h4⟩, _, rfl⟩, fun ⟨⟨h1, h4, h3⟩, _⟩ => ⟨h1, c.1, h4, h3, c.2⟩⟩
    · rw [if_neg c]
      exact ⟨fun ⟨h1, h2, h3, h4, h5⟩ => absurd ⟨h2, h5⟩ c, fun ⟨_, us, h⟩ => by cases h⟩
  | change t a z =>
    show (wordV (.str z) = true ∧ 0 ≤ t ∧ t < ts.length ∧ 0 ≤ a ∧ a + (z.length : Int) ≤ (mText ts t).length) ↔ (0 ≤ t ∧ 0 ≤ a ∧ wordV (.str z) = true) ∧ ∃ us, mChange ts t a z = some us
    unfold mChange
    by_cases c : t < ts.length ∧ a + (z.length : Int) ≤ (mText ts t).length
    · rw [if_pos c]
      exact ⟨fun ⟨h3, h1, h2, h4, h5⟩ => ⟨⟨h1, h4, h3⟩, _, rfl⟩, fun ⟨⟨h1, h4, h3⟩, _⟩ => ⟨h3, h1, c.1, h4, c.2⟩⟩
    · rw [if_neg c]
      exact ⟨fun ⟨h1, h2, h3, h4, h5⟩ => absurd ⟨h3, h5⟩ c, fun ⟨_, us, h⟩ => by cases h⟩
  | come z => exact ⟨fun h => ⟨h, _, rfl⟩, fun h => h.1⟩
  | go =>
    show ts.getLast? = some (Str.ofString "") ↔ True ∧ ∃ us, mGone ts = some us
    unfold mGone
    by_cases c : ts.getLast? = some (Str.ofString "")
    · rw [if_pos c]
      exact ⟨fun _ => ⟨trivial, _, rfl⟩, fun _ => c⟩
    · rw [if_neg c]
      exact ⟨fun h => absurd h c, fun ⟨_, us, h⟩ => by cases h⟩
  | split t a =>
    show (0 ≤ t ∧ t < ts.length ∧ 0 ≤ a ∧ a ≤ (mText ts t).length) ↔ (0 ≤ t ∧ 0 ≤ a) ∧ ∃ us, mSplit ts t a = some us
    unfold mSplit
    by_cases c : t < ts.length ∧ a ≤ (mText ts t).length
    · rw [if_pos c]
      exact ⟨fun ⟨h1, h2, h4, h5⟩ => ⟨⟨h1, h4⟩, _, rfl⟩, fun ⟨⟨h1, h4⟩, _⟩ => ⟨h1, c.1, h4, c.2⟩⟩
    · rw [if_neg c]
      exact ⟨fun ⟨h1, h2, h3, h5⟩ => absurd ⟨h2, h5⟩ c, fun ⟨_, us, h⟩ => by cases h⟩
  | join t u =>
    show (0 ≤ t ∧ t < ts.length ∧ 0 ≤ u ∧ u < ts.length ∧ t ≠ u) ↔ (0 ≤ t ∧ 0 ≤ u) ∧ ∃ us, mJoin ts t u = some us
    unfold mJoin
    by_cases c : t < ts.length ∧ u < ts.length ∧ t ≠ u
    · rw [if_pos c]
      exact ⟨fun ⟨h1, h2, h3, h4, h5⟩ => ⟨⟨h1, h3⟩, _, rfl⟩, fun ⟨⟨h1, h4⟩, _⟩ => ⟨h1, c.1, h4, c.2.1, c.2.2⟩⟩
    · rw [if_neg c]
      exact ⟨fun ⟨h1, h2, h3, h4, h5⟩ => absurd ⟨h2, h4, h5⟩ c, fun ⟨_, us, h⟩ => by cases h⟩
  | move t a n u p =>
    show (0 ≤ t ∧ t < ts.length ∧ 0 ≤ a ∧ 1 ≤ n ∧ a + n ≤ (mText ts t).length ∧ 0 ≤ u ∧ u < ts.length ∧ 0 ≤ p ∧ p ≤ (mText ts u).length - n * (if u = t then 1 else 0)) ↔ (0 ≤ t ∧ 0 ≤ a ∧ 0 < n ∧ 0 ≤ u ∧ 0 ≤ p) ∧ ∃ us, mMove ts t a n u p = some us
    unfold mMove mCut
    by_cases c : t < ts.length ∧ a + n ≤ (mText ts t).length
    · rw [if_pos c, Option.bind_some]
      unfold mPut
      rw [List.length_set]
      have key : 0 ≤ t → 0 ≤ a → 0 < n → 0 ≤ u → u < ts.length → ((mText (ts.set t.toNat (cutS (mText ts t) none (some a) ++ cutS (mText ts t) (some (a + n)) none)) u).length : Int) = (mText ts u).length - n * (if u = t then 1 else 0) := fun h1 h2 h3 h4 h5 => by
        by_cases e : u = t
        · subst e
          rw [if_pos rfl]
          have e1 : mText (ts.set u.toNat (cutS (mText ts u) none (some a) ++ cutS (mText ts u) (some (a + n)) none)) u = cutS (mText ts u) none (some a) ++ cutS (mText ts u) (some (a + n)) none := by
            show (ts.set u.toNat _).getD u.toNat _ = _
            rw [List.getD_eq_getElem?_getD, List.getElem?_set_self (by omega)]
            rfl
          rw [e1, app_len, len_S, len_S (cutS _ (some (a + n)) none), cutS_to h2, cutS_from (by omega), List.length_take, List.length_drop, ← len_S]
          have := c.2
          omega
        · rw [if_neg e]
          have e1 : mText (ts.set t.toNat (cutS (mText ts t) none (some a) ++ cutS (mText ts t) (some (a + n)) none)) u = mText ts u := by
            show (ts.set t.toNat _).getD u.toNat _ = ts.getD u.toNat _
            rw [List.getD_eq_getElem?_getD, List.getD_eq_getElem?_getD, List.getElem?_set_ne (by omega)]
          rw [e1]
          omega
      constructor
      · rintro ⟨h1, h2, h3, h4, h5, h6, h7, h8, h9⟩
        refine ⟨⟨h1, h3, h4, h6, h8⟩, ?_⟩
        rw [if_pos ⟨h7, by rw [key h1 h3 h4 h6 h7]; exact h9⟩]
        exact ⟨_, rfl⟩
      · rintro ⟨⟨h1, h3, h4, h6, h8⟩, us, h⟩
        by_cases d : u < ts.length ∧ p ≤ ((mText (ts.set t.toNat (cutS (mText ts t) none (some a) ++ cutS (mText ts t) (some (a + n)) none)) u).length : Int)
        · exact ⟨h1, c.1, h3, h4, c.2, h6, d.1, h8, by rw [← key h1 h3 h4 h6 d.1]; exact d.2⟩
        · rw [if_neg d] at h
          cases h
    · rw [if_neg c]
      exact ⟨fun ⟨h1, h2, h3, h4, h5, _⟩ => absurd ⟨h2, h5⟩ c, fun ⟨_, us, h⟩ => by cases h⟩
/-- texts of a library -/
structure Good (us : List Str) : Prop where
  few : us.length ≤ 8
  sg : ∀ t ∈ us, sgB t = true
  sum : ((us.map V.str).map slen).sum ≤ 2000
theorem Good.bad {us : List Str} (h : Good us) : badOf (some (us.map V.str)) = .non := bad4 (by rw [List.length_map]; have := h.few; omega) (fun c hc => by obtain ⟨t, ht, rfl⟩ := List.mem_map.mp hc; exact h.sg t ht) (by have := h.sum; omega)
theorem Good.of {us : List Str} (h : badOf (some (us.map V.str)) = .non) : Good us := by
  obtain ⟨xs, e, h1, h2, h3⟩ := bad_non h
  cases e
  exact ⟨by rw [List.length_map] at h1; exact h1, fun t ht => h2 (.str t) (List.mem_map.mpr ⟨t, ht, rfl⟩), h3⟩
theorem Good.len {us : List Str} (h : Good us) {t : Str} (ht : t ∈ us) : t.length ≤ 2000 := by
  have h1 := h.sum
  have : ∀ (ns : List Nat) (n : Nat), n ∈ ns → n ≤ ns.sum := fun ns n hn => by
    induction ns with
    | nil => simp at hn
    | cons m ns ih =>
      rw [List.sum_cons]
      rcases List.mem_cons.mp hn with e | e
      · omega
      · have := ih e
        omega
  exact Nat.le_trans (this _ _ (List.mem_map.mpr ⟨.str t, List.mem_map.mpr ⟨t, ht, rfl⟩, rfl⟩)) h1
/-- a thing is an edit, and leads to these texts -/
def Right (ts : List Str) (o : Option (List V)) (us : List Str) : Prop := ∃ e : Ed, o = some e.vals ∧ e.ok ∧ e.mk ts = some us ∧ Good us
theorem Right.uniq {ts us ws : List Str} {o : Option (List V)} (h : Right ts o us) (k : Right ts o ws) : us = ws := by
  obtain ⟨e, h1, _, h2, _⟩ := h
  obtain ⟨e', k1, _, k2, _⟩ := k
  rw [h1] at k1
  obtain rfl := vals_inj (Option.some.inj k1)
  rw [h2] at k2
  exact Option.some.inj k2
/-- what a thing's texts may be -/
def Shr (o : Option (List V)) : Prop := ∀ xs, o = some xs → ∀ z, V.str z ∈ xs → z.length ≤ 2500 ∧ PyData.strOk z = true
end LawK
set_option maxHeartbeats 4000000
namespace LawK
open PySem PySem.Spec PyProof.Rows L2 Ev
/-- the parts of each edit, in the dict at a -/
structure FormsC (K : PySem.W.Frag) (w : World) (mg : Str → Option Value) (a : Addr) (kvs : List (Str × V)) : Prop where
  kd : KD K w a kvs
  no : ∀ z, kindsOf z = none → kvs.lookup z = none
  yes : ∀ z ks, kindsOf z = some ks → ∃ k, kvs.lookup z = some (.ref k) ∧ ∀ H, SqT K H k (ks.map V.str)
  g : mg "FORMS" = some (.ref a)
theorem kinds_few {z : Str} {ks : List Str} (h : kindsOf z = some ks) : ks.length ≤ 5 := by
  unfold kindsOf at h
  repeat' split at h
  all_goals first | (cases h; decide) | cases h
theorem walk_zipT {K : PySem.W.Frag} {a b : Addr} {xs ys : List V} {n : Nat} (hn : n = min xs.length ys.length) : Walk (RZ.ItzT K a b) n (fun H => SqT K H a xs ∧ SqT K H b ys) (YPair (fun i => xs[i]?) (fun i => ys[i]?)) := by
  subst hn
  refine ⟨fun i _ hi q => ?_, fun _ q => ⟨xs, ys, q.1, q.2, by omega⟩, fun i H v H' _ q y => ?_⟩
  · have h1 : i < xs.length := by omega
    have h2 : i < ys.length := by omega
    exact ⟨xs, ys, xs[i], ys[i], q.1, q.2, by simp [h1], by simp [h2]⟩
  · obtain ⟨T, x, z, h1, h2, h3, h4, h5⟩ := y
    exact ⟨T, x, z, h1, h2, h3, h4 xs q.1, h5 ys q.2⟩
theorem zip_take {α β γ : Type} {f : α → β → γ} {xs : List α} {ys : List β} {i : Nat} {x : α} {y : β} (hx : xs[i]? = some x) (hy : ys[i]? = some y) : List.zipWith f (xs.take (i + 1)) (ys.take (i + 1)) = List.zipWith f (xs.take i) (ys.take i) ++ [f x y] := by
  have lx : i < xs.length := (List.getElem?_eq_some_iff.mp hx).1
  have ly : i < ys.length := (List.getElem?_eq_some_iff.mp hy).1
  rw [List.take_succ, List.take_succ, hx, hy, List.zipWith_append (by rw [List.length_take, List.length_take]; omega)]
  rfl
def spForm : Sp := fun vs H Q _ => ∃ (x : V) (o : Option (List V)), vs = [x] ∧ Tg H x o ∧ ∀ b H', (b = true ↔ HasForm o) → Same H H' → Q (.bl b) H'
section
variable {P : Program} {w : World} {K : PySem.W.Frag} {mg : Str → Option Value} {base : Heap}
abbrev sQHasForm : Stmt := topS 20
theorem scQHasForm : FnScope ["thing", "word", "kinds", "kind", "part"] ["thing"] (defScope sQHasForm) := ⟨rfl, rfl, rfl, by decide +kernel, rfl, by decide +kernel, by decide +kernel⟩
theorem ok_QHasForm {f : Addr} {fd : FuncData} (F : Fun K "has_form" "has_form" sQHasForm f fd) {fQIsPart : Addr} {fdQIsPart : FuncData} (DQIsPart : Dk P w K mg base "_is_part" sQIsPart ["kind", "thing"] 3 spPart fQIsPart fdQIsPart) {aF : Addr} {kvF : List (Str × V)} (FC : FormsC K w mg aF kvF) (T : Glob mg) : FnOk P w K mg base CX0 4 f fd ["thing"] spForm := by
  refine F.ok scQHasForm (fun vs H Q E h => ?_) (fun cdv A outer s H vs Q E hr h => ?_)
  · obtain ⟨x, o, rfl, _⟩ := h
    rfl
  · refine ⟨_, (pss_cons (ps_if (PW.pt (pw_or (pt_not (pt_val (pe_callB call_isi (by rfl) T.isinstance PyProof.Rows.boot_isinstance (pa_cons (pv 0) (pa_cons (pe_bltn (v := .ty "tuple") (by rfl) T.tuple (by decide +kernel) rfl) pa_nil))))) (pw_or1 (pt_cmpR op_eq (pe_callB call_len_seq (by rfl) T.len PySem.boot_len (pa_cons (pv 0) pa_nil)) pe_int (nomark _)))))
      (pss_one (ps_ret pe_bl))
      pss_nil)
      (pss_cons (ps_set (i := 1) scQHasForm.nd rfl (.inl rfl) (pe_ix ix_tup (pv 0) pe_int (fun _ _ => rfl)))
      (pss_cons (ps_if (PW.pt (pw_or (pt_not (pt_val (pe_callB call_isi (by rfl) T.isinstance PyProof.Rows.boot_isinstance (pa_cons (pv 1) (pa_cons (pe_bltn (v := .ty "str") (by rfl) T.str (by decide +kernel) rfl) pa_nil))))) (pw_or1 (pt_cmpR op_notInKD (pv 1) (pe_glob (v := .ref aF) (by rfl) FC.g rfl) rfl))))
      (pss_one (ps_ret pe_bl))
      pss_nil)
      (pss_cons (ps_set (i := 2) scQHasForm.nd rfl (.inl rfl) (pe_ix ix_KD (pe_glob (v := .ref aF) (by rfl) FC.g rfl) (pv 1) (fun _ _ => rfl)))
      (pss_cons (ps_if (pt_cmpR op_ne (pe_callB call_len_seq (by rfl) T.len PySem.boot_len (pa_cons (pv 0) pa_nil)) (pe_op op_add (pe_callB call_len_seq (by rfl) T.len PySem.boot_len (pa_cons (pv 2) pa_nil)) pe_int) (nomark _))
      (pss_one (ps_ret pe_bl))
      pss_nil)
      (pss_one (ps_ret (pe_callB (cr_all rfl) (by rfl) T.all (by decide +kernel) (pa_cons (pe_lc (own := [("kind", 3), ("part", 4)]) (g := (gTup K 2 (gCons (gName 3) (gCons (gName 4) gNil)))) (by rfl) scQHasForm.nd (RZ.pi_zipA (by rfl) T.zip (pa_cons (pv 2) (pa_cons (pe_slice sl_tupM (pv 0) (po_some pe_int) po_none) pa_nil))) (blkOk_by (N := ["thing", "word", "kinds", "kind", "part"]) (sc := defScope sQHasForm) (by decide +kernel)) (fun _ _ _ _ _ => pg_tup (by rfl) (pgs_cons (pg_name (i := 3) scQHasForm.nd rfl (.inl rfl)) (pgs_cons (pg_name (i := 4) scQHasForm.nd rfl (.inl rfl)) pgs_nil))) (fun _ _ _ _ _ => pts_nil) (fun _ _ _ _ _ => (pe_call DQIsPart.ok (hr.mono (by decide)) (by rfl) DQIsPart.g DQIsPart.F.kp DQIsPart.b .nil pass0 (pa_cons (pv 3) (pa_cons (pv 4) pa_nil))))) pa_nil))))))))), ?_⟩
    obtain ⟨x, o, rfl, hT, q⟩ := h
    cases hT with
    | @no _ k hk n s =>
      exact ⟨x, rfl, x, .ty "tuple", .type (Kn.name k), .type "tuple", false, rfl, .ty _, Kd.tyx hk, kit_no n, _, rfl, iteT (q false H (iff_of_false (by simp) form_none) (Same.refl H))⟩
    | @tup a xs e n hy =>
      refine ⟨.ref a, rfl, .ref a, .ty "tuple", .type (Kn.name .tup), .type "tuple", kitB .tup .tup, rfl, .ty _, Kd.tyx (.tup e), kit_kn .tup .tup, _, rfl, iteF ?_⟩
      refine ⟨.ref a, rfl, a, xs, rfl, .inr (SqT.of e), rfl, _, rfl, ite2 (fun c => ?_) (fun c => ?_)⟩
      · have c' : (xs.length : Int) = 0 := V.int.inj (of_decide_eq_true c)
        obtain rfl : xs = [] := List.length_eq_zero_iff.mp (by omega)
        exact q false H (iff_of_false (by simp) form_nil) (Same.refl H)
      cases xs with
      | nil => exact absurd rfl c
      | cons y ps =>
        obtain ⟨⟨k, hk⟩, hv⟩ := hy y List.mem_cons_self
        refine ⟨.ref a, rfl, a, _, 0, y, rfl, rfl, SqT.of e, atI_nat (j := 0) rfl, ?_⟩
        refine ⟨y, rfl, y, .ty "str", .type (Kn.name k), .type "str", kitB k .str, rfl, .ty _, Kd.tyx hk, kit_kn k .str, _, rfl, ?_⟩
        refine ite2 (fun d => ?_) (fun d => ?_)
        · refine q false H (iff_of_false (by simp) fun hf => ?_) (Same.refl H)
          obtain ⟨z, rfl⟩ := form_str hf
          cases hk
          exact absurd d (by decide)
        have ey : ∃ z, y = .str z := by
          cases hk with
          | str z => exact ⟨z, rfl⟩
          | non => exact absurd rfl d
          | bl b => exact absurd rfl d
          | int i => exact absurd rfl d
          | lst _ => exact absurd rfl d
          | tup _ => exact absurd rfl d
          | dic _ => exact absurd rfl d
        obtain ⟨z, rfl⟩ := ey
        cases hz : kindsOf z with
        | none =>
          refine ⟨.str z, rfl, aF, z, kvF, rfl, rfl, FC.kd, _, rfl, ?_⟩
          rw [FC.no z hz]
          exact q false H (iff_of_false (by simp) (no_form_kinds hz)) (Same.refl H)
        | some ks =>
          obtain ⟨kt, hkt, hS⟩ := FC.yes z ks hz
          have few := kinds_few hz
          have fi := form_iff (ps := ps) hz
          refine ⟨.str z, rfl, aF, z, kvF, rfl, rfl, FC.kd, _, rfl, ?_⟩
          rw [hkt]
          refine iteF ?_
          refine ⟨.str z, rfl, aF, z, kvF, .ref kt, rfl, rfl, FC.kd, hkt, ?_⟩
          refine ⟨.ref a, rfl, a, _, rfl, .inr (SqT.of e), .ref kt, rfl, kt, _, rfl, .inr (hS H), _, _, rfl, rfl, rfl, _, rfl, ite2 (fun c2 => ?_) (fun c2 => ?_)⟩
          · refine q false H (iff_of_false (by simp) fun hf => ?_) (Same.refl H)
            have hl := (fi.mp hf).1
            refine absurd c2 ?_
            rw [List.length_cons, List.length_map, hl]
            simp
          have hl : ps.length = ks.length := by
            rw [List.length_cons, List.length_map] at c2
            simp at c2
            omega
          refine ⟨.ref kt, rfl, .ref a, rfl, 1, rfl, a, _, rfl, e, fun b H1 k1 hb => ?_⟩
          have eps : cutV (V.str z :: ps) (some 1) none = ps := by
            rw [cutV_from (by decide)]
            rfl
          rw [eps] at hb
          refine ⟨kt, b, _, _, rfl, .inr ⟨hS H1, SqT.of hb, fun D nD => lc_it (walk_zipT (n := ks.length) (by rw [List.length_map]; omega)) (fun i H2 => Same H1 H2 ∧ H2 D = some (.lst ((List.zipWith partV (ks.take i) (ps.take i)).map V.bl))) ⟨Same.new nD, upd_same⟩ (fun i H2 hi g => ⟨hS H2, SqT.of (g.1 _ _ hb)⟩) ?_ ?_⟩⟩
          · rintro i v H2 H3 hi ⟨g1, g2⟩ ⟨t, x1, x2, rfl, nt, rfl, hx1, hx2⟩
            dsimp only at hx1 hx2
            rw [List.getElem?_map] at hx1
            obtain ⟨kd, hkd, rfl⟩ := Option.map_eq_some_iff.mp hx1
            have hm := List.mem_of_getElem? hx2
            obtain ⟨⟨kx, hkx⟩, hvx⟩ := hy x2 (List.mem_cons_of_mem _ hm)
            have g3 : Same H1 (upd H2 t (.tup [.str kd, x2])) := g1.trans (Same.new nt)
            refine ⟨t, _, rfl, SqT.of upd_same, rfl, .str kd, _, rfl, x2, [], rfl, rfl, ?_⟩
            refine ⟨rfl, .str kd, rfl, x2, rfl, kd, x2, kx, rfl, (hkx.same k1).same g3, hvx, _, (upd_ne (ne_of_none g2 nt)).trans g2, ?_, ?_, ?_⟩
            · rw [List.length_map, List.length_zipWith, List.length_take, List.length_take]
              show _ < 16777216
              omega
            · exact sameAt g3 nD
            · rw [upd_same, zip_take hkd hx2, List.map_append]
              rfl
          · rintro H2 ⟨g1, g2⟩
            rw [List.take_of_length_le (Nat.le_refl _), List.take_of_length_le (by omega)] at g2
            refine ⟨D, _, rfl, sq_of g2, ?_⟩
            exact q _ H2 ⟨fun h => fi.mpr ⟨hl, h⟩, fun h => (fi.mp h).2⟩ (k1.trans g1)
end
end LawK
set_option maxHeartbeats 4000000
namespace LawK
open PySem PySem.Spec PyProof.Rows L2 Ev
/-- the makers -/
def Ed.idx : Ed → Fin 8
  | .put .. => 0
  | .cut .. => 1
  | .change .. => 2
  | .come .. => 3
  | .go => 4
  | .split .. => 5
  | .join .. => 6
  | .move .. => 7
def Ed.word : Ed → Str
  | .put .. => Str.ofString "put"
  | .cut .. => Str.ofString "cut"
  | .change .. => Str.ofString "change"
  | .come .. => Str.ofString "come"
  | .go => Str.ofString "go"
  | .split .. => Str.ofString "split"
  | .join .. => Str.ofString "join"
  | .move .. => Str.ofString "move"
def Ed.rest (e : Ed) : List V := e.vals.tail
theorem Ed.vals_eq (e : Ed) : e.vals = .str e.word :: e.rest := by cases e <;> rfl
def spOf : Fin 8 → Sp
  | 0 => spPut
  | 1 => spCut
  | 2 => spChange
  | 3 => spCome
  | 4 => spGone
  | 5 => spSplit
  | 6 => spJoin
  | 7 => spMove
def MkAt (fs : Fin 8 → Addr) (f : Addr) (sp : Sp) : Prop := ∃ i, f = fs i ∧ sp = spOf i
/-- the makers, in the dict at a -/
structure MakersC (K : PySem.W.Frag) (w : World) (mg : Str → Option Value) (a : Addr) (kvs : List (Str × V)) (fs : Fin 8 → Addr) : Prop where
  kd : KD K w a kvs
  lk : ∀ e : Ed, kvs.lookup e.word = some (.ref (fs e.idx))
  g : mg "MAKERS" = some (.ref a)
def spBehind (C : Addr) : Sp := fun vs H Q _ => ∃ (s : Addr) (x : V) (o : Option (List V)) (ts : List Str), vs = [.ref s, x] ∧ LibAt H C s ts ∧ Tg H x o ∧ Shr o ∧
  (∀ us q H', Right ts o us → LibAt H' C q us → Same H H' → Q (.ref q) H') ∧ ((∀ us, ¬ Right ts o us) → ∀ H', Same H H' → Q .non H')
def spIsEdit (C : Addr) : Sp := fun vs H Q _ => ∃ (s : Addr) (x : V) (o : Option (List V)) (ts : List Str), vs = [.ref s, x] ∧ LibAt H C s ts ∧ Tg H x o ∧ Shr o ∧
  ∀ b H', (b = true ↔ ∃ us, Right ts o us) → Same H H' → Q (.bl b) H'
def spPEdited (C cN : Addr) : Sp := fun vs H Q E => ∃ (s : Addr) (x : V) (o : Option (List V)) (ts : List Str), vs = [.ref s, x] ∧ LibAt H C s ts ∧ Tg H x o ∧ Shr o ∧
  (∀ us q H', Right ts o us → LibAt H' C q us → Same H H' → Q (.ref q) H') ∧ ((∀ us, ¬ Right ts o us) → ∀ H', Same H H' → E (.ref cN) none H')
theorem cut_take {z : Str} {a : Int} (h : 0 ≤ a) : (cutS z none (some a)).length = min a.toNat z.length := by
  rw [len_S, cutS_to h, List.length_take, ← len_S]
theorem cut_drop {z : Str} {a : Int} (h : 0 ≤ a) : (cutS z (some a) none).length = z.length - a.toNat := by
  rw [len_S, cutS_from h, List.length_drop, ← len_S]
theorem mText_len {ts : List Str} {m : Nat} (h : ∀ y ∈ ts, y.length ≤ m) (t : Int) : (mText ts t).length ≤ m := by
  unfold mText
  rw [List.getD_eq_getElem?_getD]
  cases e : ts[t.toNat]? with
  | none => exact Nat.zero_le _
  | some y => exact h y (List.mem_of_getElem? e)
theorem put_len {ts us : List Str} {t a : Int} {z : Str} {m : Nat} (h : mPut ts t a z = some us) (a0 : 0 ≤ a) (hm : ∀ y ∈ ts, y.length ≤ m) : us.length = ts.length ∧ ∀ y ∈ us, y.length ≤ m + z.length := by
  unfold mPut at h
  by_cases c : t < ts.length ∧ a ≤ (mText ts t).length
  · rw [if_pos c] at h
    cases h
    refine ⟨List.length_set, fun y hy => ?_⟩
    rcases List.mem_or_eq_of_mem_set hy with h1 | h1
    · have := hm y h1
      omega
    · have l1 := mText_len hm t
      rw [h1, app_len, app_len, cut_take a0, cut_drop a0]
      omega
  · rw [if_neg c] at h
    cases h
theorem cut_lens {ts us : List Str} {t a n : Int} {m : Nat} (h : mCut ts t a n = some us) (a0 : 0 ≤ a) (n0 : 0 ≤ n) (hm : ∀ y ∈ ts, y.length ≤ m) : us.length = ts.length ∧ ∀ y ∈ us, y.length ≤ m := by
  unfold mCut at h
  by_cases c : t < ts.length ∧ a + n ≤ (mText ts t).length
  · rw [if_pos c] at h
    cases h
    refine ⟨List.length_set, fun y hy => ?_⟩
    rcases List.mem_or_eq_of_mem_set hy with h1 | h1
    · exact hm y h1
    · have l1 := mText_len hm t
      rw [h1, app_len, cut_take a0, cut_drop (by omega)]
      omega
  · rw [if_neg c] at h
    cases h
theorem mk_len {ts us : List Str} {e : Ed} (h : e.mk ts = some us) (k : e.ok) (hg : Good ts) (hs : Shr (some e.vals)) : us.length ≤ 30 ∧ ∀ t ∈ us, t.length ≤ 5000 := by
  have few := hg.few
  have hm : ∀ y ∈ ts, y.length ≤ 2000 := fun y hy => hg.len hy
  cases e with
  | put t a z =>
    obtain ⟨h1, h2⟩ := put_len (show mPut ts t a z = some us from h) k.2.1 hm
    have lz := (hs _ rfl z (by simp [Ed.vals])).1
    exact ⟨by omega, fun y hy => by have := h2 y hy; omega⟩
  | cut t a n =>
    obtain ⟨h1, h2⟩ := cut_lens (show mCut ts t a n = some us from h) k.2.1 (Int.le_of_lt k.2.2) hm
    exact ⟨by omega, fun y hy => by have := h2 y hy; omega⟩
  | change t a z =>
    have lz := (hs _ rfl z (by simp [Ed.vals])).1
    have h' : mChange ts t a z = some us := h
    unfold mChange at h'
    by_cases c : t < ts.length ∧ a + (z.length : Int) ≤ (mText ts t).length
    · rw [if_pos c] at h'
      cases h'
      refine ⟨by rw [List.length_set]; omega, fun y hy => ?_⟩
      rcases List.mem_or_eq_of_mem_set hy with h1 | h1
      · have := hm y h1
        omega
      · have l1 := mText_len hm t
        have a0 : 0 ≤ a := k.2.1
        rw [h1, app_len, app_len, cut_take a0, cut_drop (by omega)]
        omega
    · rw [if_neg c] at h'
      cases h'
  | come z =>
    have lz := (hs _ rfl z (by simp [Ed.vals])).1
    cases h
    refine ⟨by rw [List.length_append]; show _ + 1 ≤ 30; omega, fun y hy => ?_⟩
    rcases List.mem_append.mp hy with h1 | h1
    · have := hm y h1
      omega
    · rw [List.mem_singleton.mp h1]
      omega
  | go =>
    have h' : mGone ts = some us := h
    unfold mGone at h'
    by_cases c : ts.getLast? = some (Str.ofString "")
    · rw [if_pos c] at h'
      cases h'
      exact ⟨by rw [List.length_dropLast]; omega, fun y hy => by have := hm y (List.dropLast_subset _ hy); omega⟩
    · rw [if_neg c] at h'
      cases h'
  | split t a =>
    have h' : mSplit ts t a = some us := h
    unfold mSplit at h'
    by_cases c : t < ts.length ∧ a ≤ (mText ts t).length
    · rw [if_pos c] at h'
      cases h'
      have l1 := mText_len hm t
      have l2 := cut_len (z := mText ts t) none (some a)
      have l3 := cut_len (z := mText ts t) (some a) none
      refine ⟨by rw [List.length_append, List.length_set]; show _ + 1 ≤ 30; omega, fun y hy => ?_⟩
      rcases List.mem_append.mp hy with h1 | h1
      · rcases List.mem_or_eq_of_mem_set h1 with h1 | h1
        · have := hm y h1
          omega
        · rw [h1]
          omega
      · rw [List.mem_singleton.mp h1]
        omega
    · rw [if_neg c] at h'
      cases h'
  | join t u =>
    have h' : mJoin ts t u = some us := h
    unfold mJoin at h'
    by_cases c : t < ts.length ∧ u < ts.length ∧ t ≠ u
    · rw [if_pos c] at h'
      cases h'
      have l1 := mText_len hm t
      have l2 := mText_len hm u
      refine ⟨by rw [List.length_set, List.length_set]; omega, fun y hy => ?_⟩
      rcases List.mem_or_eq_of_mem_set hy with h1 | h1
      · rcases List.mem_or_eq_of_mem_set h1 with h1 | h1
        · have := hm y h1
          omega
        · rw [h1, lenE]
          omega
      · rw [h1, app_len]
        omega
    · rw [if_neg c] at h'
      cases h'
  | move t a n u p =>
    have h' : mMove ts t a n u p = some us := h
    unfold mMove at h'
    cases ec : mCut ts t a n with
    | none =>
      rw [ec] at h'
      cases h'
    | some vs =>
      rw [ec] at h'
      obtain ⟨h1, h2⟩ := cut_lens ec k.2.1 (Int.le_of_lt k.2.2.1) hm
      obtain ⟨h3, h4⟩ := put_len (show mPut vs u p _ = some us from h') k.2.2.2.2 h2
      have l1 := mText_len hm t
      have l2 := cut_len (z := mText ts t) (some a) (some (a + n))
      exact ⟨by omega, fun y hy => by have := h4 y hy; omega⟩
theorem spOf_told {H : Hp} {at_ a : Addr} {ts : List Str} {e : Ed} {Q : VK} {E : XK} (k : e.ok) (hg : Good ts) (hs : Shr (some e.vals)) (h1 : H at_ = some (.tup (ts.map V.str))) (h2 : H a = some (.tup e.vals)) (q : told H (e.mk ts) Q) : spOf e.idx [.ref at_, .ref a] H Q E := by
  have few := hg.few
  have few' : ts.length ≤ 100 := by omega
  have hm : ∀ y ∈ ts, y.length ≤ 5000 := fun y hy => by have := hg.len hy; omega
  cases e with
  | put t p z =>
    have lz := (hs _ rfl z (by simp [Ed.vals])).1
    exact ⟨at_, a, ts, t, p, _, z, rfl, h1, h2, few', hm, by omega, k.1, k.2.1, q⟩
  | cut t p n => exact ⟨at_, a, ts, t, p, n, _, rfl, h1, h2, few', hm, k.1, k.2.1, Int.le_of_lt k.2.2, q⟩
  | change t p z =>
    have lz := (hs _ rfl z (by simp [Ed.vals])).1
    exact ⟨at_, a, ts, t, p, _, z, rfl, h1, h2, few', hm, by omega, k.1, k.2.1, q⟩
  | come z => exact ⟨at_, a, ts, _, z, rfl, h1, h2, few', q⟩
  | go => exact ⟨at_, _, ts, rfl, h1, few', q⟩
  | split t p => exact ⟨at_, a, ts, t, p, _, rfl, h1, h2, few', hm, k.1, k.2, q⟩
  | join t u => exact ⟨at_, a, ts, t, u, _, rfl, h1, h2, few', hm, k.1, k.2, q⟩
  | move t p n u r => exact ⟨at_, a, ts, t, p, n, u, r, _, rfl, h1, h2, few', hm, k.1, k.2.1, Int.le_of_lt k.2.2.1, k.2.2.2.1, k.2.2.2.2, q⟩
theorem LibAt.good {H : Hp} {C s : Addr} {ts : List Str} (h : LibAt H C s ts) : Good ts := ⟨h.few, h.sg, h.sum⟩
theorem str_tg {H : Hp} {a : Addr} {us : List Str} (h : H a = some (.tup (us.map V.str))) (n : us.length ≤ 30) (l : ∀ t ∈ us, t.length ≤ 5000) : Tg H (.ref a) (some (us.map V.str)) := .tup h (by rw [List.length_map]; exact n) fun y hy => by
  obtain ⟨t, ht, rfl⟩ := List.mem_map.mp hy
  exact ⟨⟨_, .str t⟩, fun z e => by cases e; exact l t ht⟩
section
variable {P : Program} {w : World} {K : PySem.W.Frag} {mg : Str → Option Value} {base : Heap}
variable {PE C fI fE cB cN cE : Addr} {fdI fdE : FuncData}
abbrev sBehind : Stmt := topS 31
theorem scBehind : FnScope ["library", "thing", "maker", "texts"] ["library", "thing"] (defScope sBehind) := ⟨rfl, rfl, rfl, by decide +kernel, rfl, by decide +kernel, by decide +kernel⟩
theorem ok_Behind {f : Addr} {fd : FuncData} (F : Fun K "_library_behind" "_library_behind" sBehind f fd) (L : LibC K mg C fI fE fdI fdE) (B : Cls1 K mg PE "BadLibrary" "part" cB) (GI : FnOk P w K mg base (L2.CX P w) 4 fI fdI ["self", "texts"] (spLInit C cB))
    {fQHasForm : Addr} {fdQHasForm : FuncData} (DQHasForm : Dk P w K mg base "has_form" sQHasForm ["thing"] 4 spForm fQHasForm fdQHasForm) {fQTextsPut : Addr} {fdQTextsPut : FuncData} (DQTextsPut : Dk P w K mg base "_texts_put" sQTextsPut ["texts", "edit"] 2 spPut fQTextsPut fdQTextsPut) {fQTextsCut : Addr} {fdQTextsCut : FuncData} (DQTextsCut : Dk P w K mg base "_texts_cut" sQTextsCut ["texts", "edit"] 2 spCut fQTextsCut fdQTextsCut) {fQTextsChanged : Addr} {fdQTextsChanged : FuncData} (DQTextsChanged : Dk P w K mg base "_texts_changed" sQTextsChanged ["texts", "edit"] 2 spChange fQTextsChanged fdQTextsChanged) {fQTextsCome : Addr} {fdQTextsCome : FuncData} (DQTextsCome : Dk P w K mg base "_texts_come" sQTextsCome ["texts", "edit"] 1 spCome fQTextsCome fdQTextsCome) {fQTextsGone : Addr} {fdQTextsGone : FuncData} (DQTextsGone : Dk P w K mg base "_texts_gone" sQTextsGone ["texts", "_"] 1 spGone fQTextsGone fdQTextsGone) {fQTextsSplit : Addr} {fdQTextsSplit : FuncData} (DQTextsSplit : Dk P w K mg base "_texts_split" sQTextsSplit ["texts", "edit"] 2 spSplit fQTextsSplit fdQTextsSplit) {fQTextsJoined : Addr} {fdQTextsJoined : FuncData} (DQTextsJoined : Dk P w K mg base "_texts_joined" sQTextsJoined ["texts", "edit"] 2 spJoin fQTextsJoined fdQTextsJoined) {fQTextsMoved : Addr} {fdQTextsMoved : FuncData} (DQTextsMoved : Dk P w K mg base "_texts_moved" sQTextsMoved ["texts", "edit"] 3 spMove fQTextsMoved fdQTextsMoved) {fs : Fin 8 → Addr} (e0 : fs 0 = fQTextsPut) (e1 : fs 1 = fQTextsCut) (e2 : fs 2 = fQTextsChanged) (e3 : fs 3 = fQTextsCome) (e4 : fs 4 = fQTextsGone) (e5 : fs 5 = fQTextsSplit) (e6 : fs 6 = fQTextsJoined) (e7 : fs 7 = fQTextsMoved) {aM : Addr} {kvM : List (Str × V)} (MC : MakersC K w mg aM kvM fs) (T : Glob mg) :
    FnOk P w K mg base CX0 6 f fd ["library", "thing"] (spBehind C) := by
  have HM : ∀ f sp, MkAt fs f sp → Held P w K mg base 5 f sp := fun f sp h => by
    obtain ⟨i, rfl, rfl⟩ := h
    match i with
    | 0 => exact ⟨⟨_, _, by rw [e0]; exact DQTextsPut.ok.mono (by decide), by rw [e0]; exact DQTextsPut.F.kp, DQTextsPut.b⟩⟩
    | 1 => exact ⟨⟨_, _, by rw [e1]; exact DQTextsCut.ok.mono (by decide), by rw [e1]; exact DQTextsCut.F.kp, DQTextsCut.b⟩⟩
    | 2 => exact ⟨⟨_, _, by rw [e2]; exact DQTextsChanged.ok.mono (by decide), by rw [e2]; exact DQTextsChanged.F.kp, DQTextsChanged.b⟩⟩
    | 3 => exact ⟨⟨_, _, by rw [e3]; exact DQTextsCome.ok.mono (by decide), by rw [e3]; exact DQTextsCome.F.kp, DQTextsCome.b⟩⟩
    | 4 => exact ⟨⟨_, _, by rw [e4]; exact DQTextsGone.ok.mono (by decide), by rw [e4]; exact DQTextsGone.F.kp, DQTextsGone.b⟩⟩
    | 5 => exact ⟨⟨_, _, by rw [e5]; exact DQTextsSplit.ok.mono (by decide), by rw [e5]; exact DQTextsSplit.F.kp, DQTextsSplit.b⟩⟩
    | 6 => exact ⟨⟨_, _, by rw [e6]; exact DQTextsJoined.ok.mono (by decide), by rw [e6]; exact DQTextsJoined.F.kp, DQTextsJoined.b⟩⟩
    | 7 => exact ⟨⟨_, _, by rw [e7]; exact DQTextsMoved.ok.mono (by decide), by rw [e7]; exact DQTextsMoved.F.kp, DQTextsMoved.b⟩⟩
  refine F.ok scBehind (fun vs H Q E h => ?_) (fun cdv A outer s H vs Q E hr h => ?_)
  · obtain ⟨s, x, o, ts, rfl, _⟩ := h
    rfl
  · obtain ⟨s, x, o, ts, rfl, hl, hT, hS, q1, q2⟩ := h
    refine ⟨_, (pss_cons (ps_if (pt_not (pt_val (pe_call DQHasForm.ok (hr.mono (by decide)) (by rfl) DQHasForm.g DQHasForm.F.kp DQHasForm.b .nil pass0 (pa_cons (pv 1) pa_nil)))) (pss_one (ps_ret pe_non)) pss_nil)
      (pss_cons (ps_set (i := 2) scBehind.nd rfl (.inl rfl) (pe_ix ix_KD (pe_glob (v := .ref aM) (by rfl) MC.g rfl) (pe_ix ix_tup (pv 1) pe_int (fun _ _ => rfl)) (fun _ _ => rfl)))
      (pss_cons (ps_set (i := 3) scBehind.nd rfl (.inl rfl) (pe_callR (i := 2) (S := MkAt fs) HM (hr.mono (by decide)) (by rfl) (.inl rfl) (pa_cons (pe_fld (pv 0) rfl) (pa_cons (pv 1) pa_nil))))
      (pss_cons (ps_if (pt_cmpR op_isN (pv 3) pe_non (nomark _)) (pss_one (ps_ret pe_non)) pss_nil)
      (pss_one (ps_try_many (Wout := fun _ _ _ _ => False) rfl rfl takes0
        (fun W pn xe tk _ => pss_one (ps_ret (pe_mkS (E := fun σ => WE W σ) L.mak GI hr (by rfl) L.g L.bI (fun σ => passAt tk σ) (pa_cons (pv 3) pa_nil))))
        (HdsOk.cons ⟨rfl, by decide, .inl B.g⟩ (fun a oe cls d pn hz hf => pss_one (ps_ret pe_non)) HdsOk.nil))))))), ?_⟩
    refine ⟨x, rfl, x, o, rfl, hT, fun b H1 hb k1 => ⟨_, rfl, ?_⟩⟩
    cases b with
    | false =>
      refine iteT (q2 (fun us hR => ?_) H1 k1)
      obtain ⟨e, e1, e2, _⟩ := hR
      exact absurd (hb.mpr ⟨e, e1, e2⟩) (by simp)
    | true =>
      obtain ⟨e, rfl, ho⟩ := hb.mp rfl
      have hl1 := hl.same k1
      obtain ⟨⟨dx, at_, h1, h2⟩, _⟩ := hl1
      cases hT.same k1 with
      | @tup a _ ea n hy =>
        have ea' := ea
        rw [e.vals_eq] at ea'
        refine iteF ⟨.ref a, rfl, a, _, 0, .str e.word, rfl, rfl, SqT.of ea', atI_nat (j := 0) rfl, aM, e.word, kvM, .ref (fs e.idx), rfl, rfl, MC.kd, MC.lk e, ?_⟩
        refine ⟨fs e.idx, spOf e.idx, rfl, ⟨e.idx, rfl, rfl⟩, .ref s, rfl, s, C, dx, _, .ref at_, rfl, h1, L.cl, L.nt, lk1, .ref a, rfl, ?_⟩
        refine spOf_told ho hl.good hS h2 ea ?_
        cases em : e.mk ts with
        | none =>
          intro H2 k2
          refine ⟨_, rfl, rfl, _, rfl, iteT (q2 (fun us hR => ?_) H2 (k1.trans k2))⟩
          obtain ⟨e', e1, e2, e3, _⟩ := hR
          obtain rfl := vals_inj (Option.some.inj e1)
          rw [em] at e3
          cases e3
        | some us =>
          intro r H2 k2 hr2
          obtain ⟨ln, ll⟩ := mk_len em ho hl.good hS
          refine ⟨_, rfl, rfl, _, rfl, iteF ⟨.ref r, rfl, fun q dq nq ndq ndn => ?_⟩⟩
          have ka := Same.new (o := .own q) ndq
          have nq' : upd H2 dq (.own q) q = none := by
            rw [upd_ne (Ne.symm ndn)]
            exact nq
          have kb := ka.trans (Same.new (o := .ins C dq []) nq')
          refine ⟨q, dq, .ref r, _, rfl, upd_same, (str_tg hr2 ln ll).same kb, fun bn H' ha' hoo => ⟨rfl, ?_⟩, fun bn d H' k' nd => ?_⟩
          · have kk : Same H2 H' := fun c u hc => hoo c u (ne_of_none (ka _ _ hc) nq') (kb _ _ hc)
            have hg := Good.of bn
            exact q1 us q H' ⟨e, rfl, ho, em, hg⟩ ⟨⟨dq, r, ha', kk _ _ hr2⟩, hg.few, hg.sg, fun t ht => by have := hg.len ht; omega, hg.sum⟩ ((k1.trans k2).trans kk)
          · refine ⟨true, (exm_at B.er B.er B.ne).trans (congrArg some (decide_eq_true rfl)), (fun _ a1 na1 => ?_), fun z => Bool.noConfusion z⟩
            refine q2 (fun ws hR => ?_) _ ((((k1.trans k2).trans kb).trans k').trans (Same.new nd))
            obtain ⟨e', e1, e2, e3, e4⟩ := hR
            obtain rfl := vals_inj (Option.some.inj e1)
            rw [em] at e3
            cases e3
            exact bn e4.bad
end
end LawK
set_option maxHeartbeats 4000000
namespace Ev
open PySem PySem.Spec PyProof.Rows L2
/-- either way to walk -/
theorem PI.or {X : Cx} {tg e : Expr} {u v : TI} (h : PI X tg e u) (k : PI X tg e v) : PI X tg e (fun σ H R => u σ H R ∨ v σ H R) :=
  ⟨fun pins s σ H R I q => q.elim (fun z => h.run pins s σ H R I z) (fun z => k.run pins s σ H R I z)⟩
theorem for_enL {K : PySem.W.Frag} {a : Addr} {xs : List V} {g : TG} {tb : TS} {D : Ends} {σ : L2.St} {H : Hp} (Pv : Nat → L2.St → Hp → Prop) (h0 : Pv 0 σ H) (hl : ∀ i σ H, Pv i σ H → SqL K H a xs)
    (hs : ∀ (i : Nat) x σ H, xs[i]? = some x → Pv i σ H → ∀ T, H T = none → g (.ref T) σ (upd H T (.tup [.int (i : Nat), x])) fun σ2 H2 => tb { D with nx := Pv (i + 1), ct := Pv (i + 1), bk := D.nx } σ2 H2) (hd : ∀ σ H, Pv xs.length σ H → D.nx σ H) :
    ∃ W : Nat → Nat → L2.St → Hp → Prop, (∃ m, W 0 m σ H) ∧ ∀ i m σ H, W i m σ H →
      ((Ite K a).stop i H ∧ D.nx σ H) ∨ ((Ite K a).go i H ∧ ∃ N : L2.St → Hp → Prop, (∀ σ' H', N σ' H' → ∃ m', m' < m ∧ W (i + 1) m' σ' H') ∧ ∀ x H', (Ite K a).yld i H x H' → g x σ H' fun σ2 H2 => tb { D with nx := N, ct := N, bk := D.nx } σ2 H2) :=
  for_it walk_enum Pv h0 (fun i σ H _ p => hl i σ H p) (fun i x σ H H' _ p y => by
    obtain ⟨T, x1, x2, rfl, nT, rfl, e1, e2⟩ := y
    cases e1
    exact hs i x2 σ H e2 p T nT) hd
theorem kit_seq {K : PySem.W.Frag} (k : Kn) : PySem.W.kitAny K (.type k.name) [.type "list", .type "tuple"] = some (decide (k = .lst) || decide (k = .tup)) := by
  cases k <;> rfl
end Ev
set_option maxHeartbeats 4000000
namespace LawK
open PySem PySem.Spec PyProof.Rows L2 Ev
theorem libat_good {H : Hp} {C s : Addr} {ts : List Str} (h : LibAt H C s ts) : Good ts := h.good
/-- edits one behind the other -/
inductive Leads : List Str → List (Option (List V)) → List Str → Prop
  | nil {ts : List Str} : Leads ts [] ts
  | cons {ts us ws : List Str} {o : Option (List V)} {os : List (Option (List V))} (r : Right ts o us) (h : Leads us os ws) : Leads ts (o :: os) ws
theorem Leads.snoc {ts us ws : List Str} {o : Option (List V)} {os : List (Option (List V))} (h : Leads ts os us) (r : Right us o ws) : Leads ts (os ++ [o]) ws := by
  induction h with
  | nil => exact .cons r .nil
  | cons r1 h ih => exact .cons r1 (ih r)
theorem Leads.uniq {ts us ws : List Str} {os : List (Option (List V))} (h : Leads ts os us) (k : Leads ts os ws) : us = ws := by
  induction h with
  | nil => cases k; rfl
  | cons r h ih =>
    cases k with
    | cons r' h' =>
      obtain rfl := r.uniq r'
      exact ih h'
theorem Leads.take {ts us : List Str} {o : Option (List V)} {os qs : List (Option (List V))} (h : Leads ts (os ++ o :: qs) us) : ∃ vs, Leads ts os vs ∧ ∃ ws, Right vs o ws := by
  induction os generalizing ts with
  | nil =>
    cases h with
    | cons r h => exact ⟨_, .nil, _, r⟩
  | cons p os ih =>
    cases h with
    | cons r h =>
      obtain ⟨vs, h1, h2⟩ := ih h
      exact ⟨vs, .cons r h1, h2⟩
/-- a thing as edits: none for no list or tuple -/
inductive Eds (H : Hp) : V → Option (List (Option (List V))) → Prop
  | no {x : V} {k : Kn} (h : Kd H x k) (n1 : k ≠ .tup) (n2 : k ≠ .lst) : Eds H x none
  | lst {a : Addr} {xs : List V} {os : List (Option (List V))} (e : H a = some (.lst xs)) (n : os.length = xs.length) (l : xs.length ≤ 1000) (h : ∀ (i : Nat) x o, xs[i]? = some x → os[i]? = some o → Tg H x o ∧ Shr o) : Eds H (.ref a) (some os)
  | tup {a : Addr} {xs : List V} {os : List (Option (List V))} (e : H a = some (.tup xs)) (n : os.length = xs.length) (l : xs.length ≤ 1000) (h : ∀ (i : Nat) x o, xs[i]? = some x → os[i]? = some o → Tg H x o ∧ Shr o) : Eds H (.ref a) (some os)
/-- the first that is none then -/
def BadAt (ts : List Str) (os : List (Option (List V))) (i : Nat) : Prop := ∃ vs o, Leads ts (os.take i) vs ∧ os[i]? = some o ∧ ∀ us, ¬ Right vs o us
def spPLed (C cE : Addr) : Sp := fun vs H Q E => ∃ (s : Addr) (x : V) (o : Option (List (Option (List V)))) (ts : List Str), vs = [.ref s, x] ∧ LibAt H C s ts ∧ Eds H x o ∧
  (∀ os us q H', o = some os → Leads ts os us → LibAt H' C q us → Same H H' → Q (.ref q) H') ∧
  (∀ os (i : Nat) d H', o = some os → BadAt ts os i → Same H H' → H' d = none → E (.ref cE) (some d) (upd H' d (.xd [("index", .int i)]))) ∧
  (o = none → ∀ d H', Same H H' → H' d = none → E (.ref cE) (some d) (upd H' d (.xd [("index", .int (-1))])))
section
variable {P : Program} {w : World} {K : PySem.W.Frag} {mg : Str → Option Value} {base : Heap}
variable {PE C fI fE cB cN cE : Addr} {fdI fdE : FuncData}
abbrev sIsEdit : Stmt := topS 32
theorem scIsEdit : FnScope ["library", "thing"] ["library", "thing"] (defScope sIsEdit) := ⟨rfl, rfl, rfl, by decide +kernel, rfl, by decide +kernel, by decide +kernel⟩
theorem ok_IsEdit {f : Addr} {fd : FuncData} (F : Fun K "is_edit" "is_edit" sIsEdit f fd) {fBehind : Addr} {fdBehind : FuncData} (DBehind : Dk P w K mg base "_library_behind" sBehind ["library", "thing"] 6 (spBehind C) fBehind fdBehind) (T : Glob mg) : FnOk P w K mg base CX0 7 f fd ["library", "thing"] (spIsEdit C) := by
  refine F.ok scIsEdit (fun vs H Q E h => ?_) (fun cdv A outer s H vs Q E hr h => ?_)
  · obtain ⟨s, x, o, ts, rfl, _⟩ := h
    rfl
  · obtain ⟨s, x, o, ts, rfl, hl, hT, hS, q⟩ := h
    refine ⟨_, (pss_one (ps_ret (pe_cmpR op_notN (pe_call DBehind.ok (hr.mono (by decide)) (by rfl) DBehind.g DBehind.F.kp DBehind.b .nil pass0 (pa_cons (pv 0) (pa_cons (pv 1) pa_nil))) pe_non (nomark _)))), ?_⟩
    refine ⟨.ref s, rfl, x, rfl, s, x, o, ts, rfl, hl, hT, hS, fun us r H' hR hl2 k => ⟨rfl, q _ H' ⟨fun _ => ⟨us, hR⟩, fun _ => rfl⟩ k⟩, fun hn H' k => ⟨rfl, q _ H' ⟨fun z => absurd z (by decide), fun ⟨us, h⟩ => absurd h (hn us)⟩ k⟩⟩
abbrev sPEdited : Stmt := topS 33
theorem scPEdited : FnScope ["library", "edit", "behind"] ["library", "edit"] (defScope sPEdited) := ⟨rfl, rfl, rfl, by decide +kernel, rfl, by decide +kernel, by decide +kernel⟩
theorem ok_PEdited {f : Addr} {fd : FuncData} (F : Fun K "edited" "edited" sPEdited f fd) (EN : Cls0 P K mg PE "NoEdit" cN) {fBehind : Addr} {fdBehind : FuncData} (DBehind : Dk P w K mg base "_library_behind" sBehind ["library", "thing"] 6 (spBehind C) fBehind fdBehind) (T : Glob mg) : FnOk P w K mg base (L2.CX P w) 7 f fd ["library", "edit"] (spPEdited C cN) := by
  obtain ⟨fN, SN⟩ := EN.sup
  refine F.okX scPEdited (fun vs H Q E h => ?_) (fun cdv A outer s H vs Q E hr h => ?_)
  · obtain ⟨s, x, o, ts, rfl, _⟩ := h
    rfl
  · obtain ⟨s, x, o, ts, rfl, hl, hT, hS, q1, q2⟩ := h
    refine ⟨_, (pss_cons (ps_set (i := 2) scPEdited.nd rfl (.inl rfl) (pe_call DBehind.ok (hr.mono (by decide)) (by rfl) DBehind.g DBehind.F.kp DBehind.b .nil pass0 (pa_cons (pv 0) (pa_cons (pv 1) pa_nil))))
      (pss_cons (ps_if (pt_cmpR op_isN (pv 2) pe_non (nomark _)) (pss_one (ps_raise rfl (takes_of rfl rfl rfl rfl) (pmk_exc0 SN hr (by rfl) EN.g))) pss_nil)
      (pss_one (ps_ret (pv 2))))), ?_⟩
    refine ⟨.ref s, rfl, x, rfl, s, x, o, ts, rfl, hl, hT, hS, fun us r H' hR hl2 k => ⟨_, rfl, rfl, _, rfl, iteF ⟨_, rfl, q1 us r H' hR hl2 k⟩⟩, fun hn H' k => ⟨_, rfl, rfl, _, rfl, iteT (q2 hn H' k)⟩⟩
abbrev sPLed : Stmt := topS 34
theorem scPLed : FnScope ["library", "edits", "behind", "index", "edit"] ["library", "edits"] (defScope sPLed) := ⟨rfl, rfl, rfl, by decide +kernel, rfl, by decide +kernel, by decide +kernel⟩
theorem ok_PLed {f : Addr} {fd : FuncData} (F : Fun K "led" "led" sPLed f fd) (EE : Cls1 K mg PE "BadEdits" "index" cE) {fBehind : Addr} {fdBehind : FuncData} (DBehind : Dk P w K mg base "_library_behind" sBehind ["library", "thing"] 6 (spBehind C) fBehind fdBehind) (T : Glob mg) : FnOk P w K mg base (L2.CX P w) 7 f fd ["library", "edits"] (spPLed C cE) := by
  refine F.okX scPLed (fun vs H Q E h => ?_) (fun cdv A outer s H vs Q E hr h => ?_)
  · obtain ⟨s, x, o, ts, rfl, _⟩ := h
    rfl
  · obtain ⟨s, x, o, ts, rfl, hl, hE, q1, q2, q3⟩ := h
    refine ⟨_, (pss_cons (ps_if (pt_not (pt_val (pe_callB call_isiT (by rfl) T.isinstance PyProof.Rows.boot_isinstance (pa_cons (pv 1) (pa_cons (pe_tup (pa_cons (pe_bltn (v := .ty "list") (by rfl) T.list (by decide +kernel) rfl) (pa_cons (pe_bltn (v := .ty "tuple") (by rfl) T.tuple (by decide +kernel) rfl) pa_nil))) pa_nil))))) (pss_one (ps_raise rfl (takes_of rfl rfl rfl rfl) (pmk_c1 EE hr (pa_cons (pe_un un_neg pe_int) pa_nil) (hm := fun h ⟨i, e, q⟩ => ⟨i, e, h _ _ q⟩)))) pss_nil)
      (pss_cons (ps_set (i := 2) scPLed.nd rfl (.inl rfl) (pv 0))
      (pss_cons (ps_for (passes_of rfl) rfl (PI.or (pi_enum (by rfl) T.enumerate (pa_cons (pv 1) pa_nil)) (pi_enumT (by rfl) T.enumerate (pa_cons (pv 1) pa_nil))) (pg_tup (by rfl) (pgs_cons (pg_name (i := 3) scPLed.nd rfl (.inl rfl)) (pgs_cons (pg_name (i := 4) scPLed.nd rfl (.inl rfl)) pgs_nil)))
        (pss_cons (ps_set (i := 2) scPLed.nd rfl (.inl rfl) (pe_call DBehind.ok (hr.mono (by decide)) (by rfl) DBehind.g DBehind.F.kp DBehind.b .nil pass0 (pa_cons (pv 2) (pa_cons (pv 4) pa_nil))))
        (pss_one (ps_if (pt_cmpR op_isN (pv 2) pe_non (nomark _)) (pss_one (ps_raise rfl (takes_of rfl rfl rfl rfl) (pmk_c1 EE hr (pa_cons (pv 3) pa_nil) (hm := tCons1 (j := 0))))) pss_nil))))
      (pss_one (ps_ret (pv 2)))))), ?_⟩
    have pc : Paired ClsV [V.ty "list", V.ty "tuple"] [.type "list", .type "tuple"] := .cons (.ty _) (.cons (.ty _) .nil)
    cases hE with
    | @no _ k hk n1 n2 =>
      refine ⟨x, rfl, by show 2 ≤ sizeLine; decide, fun c nc => ⟨x, c, _, _, _, _, rfl, upd_same, pc, Kd.tyx (hk.same (Same.new nc)), kit_seq k, _, rfl, ?_⟩⟩
      rw [decide_eq_false n1, decide_eq_false n2]
      exact iteT ⟨_, rfl, _, rfl, fun d nd => q3 rfl d _ (Same.new nc) nd⟩
    | @lst a xs os e0 n l hh0 =>
      refine ⟨.ref a, rfl, by show 2 ≤ sizeLine; decide, fun c nc => ⟨.ref a, c, _, _, _, _, rfl, upd_same, pc, Kd.tyx (Kd.same (Same.new nc) (.lst e0)), kit_seq .lst, _, rfl, iteF ⟨.ref s, rfl, .inl ?_⟩⟩⟩
      have k0 := Same.new (o := .tup [V.ty "list", V.ty "tuple"]) nc
      have e := k0 _ _ e0
      have hh := hh0
      · refine ⟨.ref a, rfl, a, _, rfl, sq_of e, for_enL (xs := xs) (fun i σ H' => ∃ (b : Addr) (us : List Str) (y z : Option V), σ = [some (.ref s), some (.ref a), some (.ref b), y, z] ∧ Same H H' ∧ LibAt H' C b us ∧ Leads ts (os.take i) us) ⟨s, ts, none, none, rfl, k0, hl.same k0, .nil⟩ (fun i σ H' p => by obtain ⟨b, us, y, z, _, kk, _⟩ := p; exact sq_of (kk _ _ e0)) ?_ ?_⟩
        · rintro i x1 σ H' hx ⟨b, us, y, z, rfl, kH, hb, hld⟩ t nt
          have hio : i < os.length := by rw [n]; exact (List.getElem?_eq_some_iff.mp hx).1
          obtain ⟨o1, ho1⟩ : ∃ o1, os[i]? = some o1 := ⟨_, List.getElem?_eq_getElem hio⟩
          obtain ⟨hT, hS⟩ := hh i x1 o1 hx ho1
          have k2 := kH.trans (Same.new (o := .tup [.int (i : Nat), x1]) nt)
          refine ⟨t, [.int (i : Nat), x1], rfl, SqT.of upd_same, rfl, .int (i : Nat), [x1], rfl, x1, [], rfl, rfl, ?_⟩
          have kb := Same.new (o := .tup [.int (i : Nat), x1]) nt
          refine ⟨.ref b, rfl, x1, rfl, b, x1, o1, us, rfl, hb.same kb, hT.same k2, hS, fun ws r H2 hR hl2 k3 => ?_, fun hno H2 k3 => ?_⟩
          · refine ⟨_, rfl, rfl, _, rfl, iteF ⟨r, ws, _, _, rfl, k2.trans k3, hl2, ?_⟩⟩
            rw [List.take_succ, ho1]
            exact hld.snoc hR
          · refine ⟨_, rfl, rfl, _, rfl, iteT ⟨_, rfl, _, rfl, fun d nd => ?_⟩⟩
            exact q2 os i d H2 rfl ⟨us, o1, hld, ho1, hno⟩ (k2.trans k3) nd
        · rintro σ H' ⟨b, us, y, z, rfl, kH, hb, hld⟩
          rw [← n, List.take_length] at hld
          exact ⟨_, rfl, q1 os us b H' rfl hld hb kH⟩
    | @tup a xs os e0 n l hh0 =>
      refine ⟨.ref a, rfl, by show 2 ≤ sizeLine; decide, fun c nc => ⟨.ref a, c, _, _, _, _, rfl, upd_same, pc, Kd.tyx (Kd.same (Same.new nc) (.tup e0)), kit_seq .tup, _, rfl, iteF ⟨.ref s, rfl, .inr ?_⟩⟩⟩
      have k0 := Same.new (o := .tup [V.ty "list", V.ty "tuple"]) nc
      have e := k0 _ _ e0
      have hh := hh0
      · refine ⟨.ref a, rfl, a, _, rfl, SqT.of e, for_enT (xs := xs) (fun i σ H' => ∃ (b : Addr) (us : List Str) (y z : Option V), σ = [some (.ref s), some (.ref a), some (.ref b), y, z] ∧ Same H H' ∧ LibAt H' C b us ∧ Leads ts (os.take i) us) ⟨s, ts, none, none, rfl, k0, hl.same k0, .nil⟩ (fun i σ H' p => by obtain ⟨b, us, y, z, _, kk, _⟩ := p; exact SqT.of (kk _ _ e0)) ?_ ?_⟩
        · rintro i x1 σ H' hx ⟨b, us, y, z, rfl, kH, hb, hld⟩ t nt
          have hio : i < os.length := by rw [n]; exact (List.getElem?_eq_some_iff.mp hx).1
          obtain ⟨o1, ho1⟩ : ∃ o1, os[i]? = some o1 := ⟨_, List.getElem?_eq_getElem hio⟩
          obtain ⟨hT, hS⟩ := hh i x1 o1 hx ho1
          have k2 := kH.trans (Same.new (o := .tup [.int (i : Nat), x1]) nt)
          refine ⟨t, [.int (i : Nat), x1], rfl, SqT.of upd_same, rfl, .int (i : Nat), [x1], rfl, x1, [], rfl, rfl, ?_⟩
          have kb := Same.new (o := .tup [.int (i : Nat), x1]) nt
          refine ⟨.ref b, rfl, x1, rfl, b, x1, o1, us, rfl, hb.same kb, hT.same k2, hS, fun ws r H2 hR hl2 k3 => ?_, fun hno H2 k3 => ?_⟩
          · refine ⟨_, rfl, rfl, _, rfl, iteF ⟨r, ws, _, _, rfl, k2.trans k3, hl2, ?_⟩⟩
            rw [List.take_succ, ho1]
            exact hld.snoc hR
          · refine ⟨_, rfl, rfl, _, rfl, iteT ⟨_, rfl, _, rfl, fun d nd => ?_⟩⟩
            exact q2 os i d H2 rfl ⟨us, o1, hld, ho1, hno⟩ (k2.trans k3) nd
        · rintro σ H' ⟨b, us, y, z, rfl, kH, hb, hld⟩
          rw [← n, List.take_length] at hld
          exact ⟨_, rfl, q1 os us b H' rfl hld hb kH⟩
end
end LawK
set_option maxHeartbeats 4000000
namespace Ev
open PySem PySem.Spec PyProof.Rows L2
/-- a text's signs, one by one -/
def chars (z : Str) : List V := z.cps.toList.map fun c => V.str ⟨#[c]⟩
theorem chars_length (z : Str) : (chars z).length = z.length := by simp [chars, Str.length]
theorem paired_of {α β : Type} {R : α → β → Prop} : ∀ (xs : List α) (ys : List β), xs.length = ys.length → (∀ (i : Nat) x y, xs[i]? = some x → ys[i]? = some y → R x y) → Paired R xs ys
  | [], [], _, _ => .nil
  | x :: xs, y :: ys, h, f => .cons (f 0 x y rfl rfl) (paired_of xs ys (by simpa using h) fun i a b ha hb => f (i + 1) a b (by simpa using ha) (by simpa using hb))
  | [], _ :: _, h, _ => absurd h (by simp)
  | _ :: _, [], h, _ => absurd h (by simp)
theorem call_list_S {X : Cx} (hc : X.calm = true) : CallR X (.type "list") (fun xs H Q => ∃ z, xs = [.str z] ∧ z.length ≤ sizeLine ∧ ∀ l, H l = none → Q (.ref l) (upd H l (.lst (chars z)))) := by
  intro pins s σ H xs us Q I r h
  obtain ⟨z, rfl, hz, q⟩ := h
  obtain ⟨u, rfl, rx⟩ := vals1 r
  obtain ⟨t, rfl⟩ := (show ∃ t, u = Value.str z t from rx)
  refine call_list_str (hn := hz) (I.ok.hd hc) z t fun h' tk acc' c' kp e hacc => ?_
  have r' : Vals (chars z) acc'.toList := paired_of _ _ (by
      rw [chars_length, Array.length_toList, hacc.1]
      rfl) fun i x v hx hv => by
    obtain ⟨c, u, hc1, rfl⟩ := hacc.2 i v (by simpa using hv)
    unfold chars at hx
    rw [List.getElem?_map] at hx
    obtain ⟨c', hc', rfl⟩ := Option.map_eq_some_iff.mp hx
    have : c = c' := by
      have h2 : z.cps[i]? = some c' := by simpa using hc'
      rw [hc1] at h2
      exact Option.some.inj h2
    rw [this]
    exact ⟨u, rfl⟩
  refine ⟨.ref s.heap.objs.size, _, I.laid (t' := tk) kp (Nat.le_refl _) (show ObjOk X.prog X.w _ h' _ (.lst (chars z)) from ⟨by rw [chars_length]; exact hz, acc'.toList, c', r', by simpa using e⟩), rfl, q _ (I.hok.fresh (Nat.le_refl _))⟩
end Ev
set_option maxHeartbeats 4000000
namespace LawK
open PySem PySem.Spec PyProof.Rows L2 Ev
theorem chars_app (a b : Str) : chars (a ++ b) = chars a ++ chars b := by
  unfold chars
  rw [← List.map_append]
  congr 1
  show (a.cps ++ b.cps).toList = _
  rw [Array.toList_append]
theorem chars_to {z : Str} {a : Int} (h : 0 ≤ a) : chars (cutS z none (some a)) = (chars z).take a.toNat := by
  unfold chars
  rw [cutS_to h, List.map_take]
theorem chars_from {z : Str} {a : Int} (h : 0 ≤ a) : chars (cutS z (some a) none) = (chars z).drop a.toNat := by
  unfold chars
  rw [cutS_from h, List.map_drop]
theorem chars_empty : chars (Str.ofString "") = [] := by
  have h : (chars (Str.ofString "")).length = 0 := by rw [chars_length, lenE]
  exact List.length_eq_zero_iff.mp h
theorem cutV_of {xs : List V} {a b : Int} (h : 0 ≤ a) (h2 : a ≤ b) : cutV xs (some a) (some b) = (xs.drop a.toNat).take (b - a).toNat := by
  unfold cutV
  rw [sIx_int h, sIx_int (by omega)]
  by_cases c : a.toNat ≤ xs.length
  · rw [Nat.min_eq_left c]
    by_cases d : b.toNat ≤ xs.length
    · rw [Nat.min_eq_left d]
      congr 1
      omega
    · rw [Nat.min_eq_right (by omega), List.take_of_length_le (by rw [List.length_drop]; omega), List.take_of_length_le (by rw [List.length_drop]; omega)]
  · rw [List.drop_of_length_le (by omega), List.drop_of_length_le (by omega)]
    simp
theorem chars_of {z : Str} {a b : Int} (h : 0 ≤ a) (h2 : a ≤ b) : chars (cutS z (some a) (some b)) = cutV (chars z) (some a) (some b) := by
  unfold chars
  rw [cutS_of h h2, List.map_take, List.map_drop, cutV_of h h2]
theorem chars_to' {z : Str} {a : Int} (h : 0 ≤ a) : chars (cutS z none (some a)) = cutV (chars z) none (some a) := by
  rw [chars_to h, cutV_to h]
theorem chars_from' {z : Str} {a : Int} (h : 0 ≤ a) : chars (cutS z (some a) none) = cutV (chars z) (some a) none := by
  rw [chars_from h, cutV_from h]
structure RowsOf (H : Hp) (D : Addr) (rs : List Addr) (us : List Str) : Prop where
  len : rs.length = us.length
  at_ : ∀ (i : Nat) r u, rs[i]? = some r → us[i]? = some u → r ≠ D ∧ H r = some (.lst (chars u))
theorem RowsOf.same {H H' : Hp} {D : Addr} {rs : List Addr} {us : List Str} (h : RowsOf H D rs us) (k : ∀ b o, b ≠ D → H b = some o → H' b = some o) : RowsOf H' D rs us :=
  ⟨h.len, fun i r u hr hu => ⟨(h.at_ i r u hr hu).1, k _ _ (h.at_ i r u hr hu).1 (h.at_ i r u hr hu).2⟩⟩
theorem RowsOf.set {H : Hp} {D r' : Addr} {rs : List Addr} {us : List Str} {z : Str} (h : RowsOf H D rs us) (n : r' ≠ D) (hr : H r' = some (.lst (chars z))) (t : Nat) : RowsOf H D (rs.set t r') (us.set t z) := by
  refine ⟨by rw [List.length_set, List.length_set]; exact h.len, fun i r u h1 h2 => ?_⟩
  rw [List.getElem?_set] at h1 h2
  by_cases e : t = i
  · rw [if_pos e] at h1 h2
    split at h1
    · split at h2
      · cases h1
        cases h2
        exact ⟨n, hr⟩
      · cases h2
    · cases h1
  · rw [if_neg e] at h1 h2
    exact h.at_ i r u h1 h2
theorem RowsOf.snoc {H : Hp} {D r' : Addr} {rs : List Addr} {us : List Str} {z : Str} (h : RowsOf H D rs us) (n : r' ≠ D) (hr : H r' = some (.lst (chars z))) : RowsOf H D (rs ++ [r']) (us ++ [z]) := by
  refine ⟨by rw [List.length_append, List.length_append, h.len]; rfl, fun i r u h1 h2 => ?_⟩
  by_cases e : i < rs.length
  · rw [List.getElem?_append_left e] at h1
    rw [List.getElem?_append_left (by rw [← h.len]; exact e)] at h2
    exact h.at_ i r u h1 h2
  · rw [List.getElem?_append_right (by omega)] at h1
    rw [List.getElem?_append_right (by rw [← h.len]; omega)] at h2
    have e1 : i - rs.length = 0 := by
      cases q : i - rs.length with
      | zero => rfl
      | succ n => rw [q] at h1; simp at h1
    have e2 : i - us.length = 0 := by
      rw [← h.len]
      exact e1
    rw [e1] at h1
    rw [e2] at h2
    cases h1
    cases h2
    exact ⟨n, hr⟩
theorem RowsOf.pop {H : Hp} {D : Addr} {rs : List Addr} {us : List Str} (h : RowsOf H D rs us) : RowsOf H D rs.dropLast us.dropLast := by
  refine ⟨by rw [List.length_dropLast, List.length_dropLast, h.len], fun i r u h1 h2 => ?_⟩
  rw [List.getElem?_dropLast] at h1 h2
  split at h1
  · split at h2
    · exact h.at_ i r u h1 h2
    · cases h2
  · cases h1
theorem ixN_in {n : Nat} {t : Int} (h0 : 0 ≤ t) (h1 : t < n) : ixN n t = some t.toNat := by
  unfold ixN
  rw [if_pos h0, if_pos h1]
theorem RowsOf.get {H : Hp} {D : Addr} {rs : List Addr} {us : List Str} (h : RowsOf H D rs us) {t : Int} (h0 : 0 ≤ t) (h1 : t < us.length) : ∃ r, atI (rs.map V.ref) t = some (.ref r) ∧ r ≠ D ∧ H r = some (.lst (chars (mText us t))) ∧ ixN (rs.map V.ref).length t = some t.toNat := by
  have l : t.toNat < rs.length := by rw [h.len]; omega
  have l2 : t.toNat < us.length := by omega
  have e1 : ixN (rs.map V.ref).length t = some t.toNat := ixN_in h0 (by rw [List.length_map, h.len]; exact h1)
  refine ⟨rs[t.toNat], ?_, ?_, ?_, e1⟩
  · unfold atI
    rw [e1]
    show (rs.map V.ref)[t.toNat]? = _
    rw [List.getElem?_map, List.getElem?_eq_getElem l]
    rfl
  · exact (h.at_ t.toNat _ _ (List.getElem?_eq_getElem l) (List.getElem?_eq_getElem l2)).1
  · have := (h.at_ t.toNat _ _ (List.getElem?_eq_getElem l) (List.getElem?_eq_getElem l2)).2
    rw [this]
    unfold mText
    rw [List.getD_eq_getElem?_getD, List.getElem?_eq_getElem l2]
    rfl
theorem sne {a b : Str} (h : a ≠ b) {A B : Prop} (k : B) : if decide (V.str a = V.str b) = true then A else B := by
  rw [decide_eq_false (fun z => h (V.str.inj z))]
  exact iteF k
theorem seq {a : Str} {A B : Prop} (k : A) : if decide (V.str a = V.str a) = true then A else B := by
  rw [decide_eq_true rfl]
  exact iteT k
/-- a list of texts, each as the list of its signs -/
def RowsAt (H : Hp) (o : Addr) (us : List Str) : Prop := ∃ rs : List Addr, H o = some (.lst (rs.map V.ref)) ∧ RowsOf H o rs us
def Ed.fresh : Ed → Str
  | .put _ _ z => z
  | .change _ _ z => z
  | .come z => z
  | _ => Str.ofString ""
def spAfter : Sp := fun vs H Q _ => ∃ (a e : Addr) (ts us : List Str) (ed : Ed), vs = [.ref a, .ref e, .str ed.fresh] ∧ H a = some (.tup (ts.map V.str)) ∧ H e = some (.tup ed.vals) ∧ Good ts ∧ Shr (some ed.vals) ∧ ed.fits ts ∧ ed.mk ts = some us ∧
  ∀ o H', H o = none → RowsAt H' o us → Same H H' → Q (.ref o) H'
section
variable {P : Program} {w : World} {K : PySem.W.Frag} {mg : Str → Option Value} {base : Heap}
abbrev sAfter : Stmt := topS 60
theorem scAfter : FnScope ["rows", "edit", "fresh", "found", "word", "taken", "row"] ["rows", "edit", "fresh"] (defScope sAfter) := ⟨rfl, rfl, rfl, by decide +kernel, rfl, by decide +kernel, by decide +kernel⟩
theorem ok_After {f : Addr} {fd : FuncData} (F : Fun K "_law_after" "_law_after" sAfter f fd)  (T : Glob mg) : FnOk P w K mg base CX0 1 f fd ["rows", "edit", "fresh"] spAfter := by
  refine F.ok scAfter (fun vs H Q E h => ?_) (fun cdv A outer s H vs Q E hr h => ?_)
  · obtain ⟨a, e, ts, us, ed, rfl, _⟩ := h
    rfl
  · refine ⟨_, (pss_cons (ps_setLc (i := 3) (own := [("row", 6)]) (g := gName 6) (by rfl) scAfter.nd rfl rfl (sw_true rfl rfl rfl (by decide +kernel)) (pi_tup (pv 0)) (blkOk_by (N := ["rows", "edit", "fresh", "found", "word", "taken", "row"]) (sc := defScope sAfter) (by decide +kernel)) (fun _ _ _ _ _ => pg_name (i := 6) scAfter.nd rfl (.inl rfl)) (fun _ _ _ _ _ => pts_nil) (fun _ _ _ _ _ => (pe_callTy (call_list_S rfl) (by rfl) T.list (by decide +kernel) (pa_cons (pv 6) pa_nil))))
      (pss_cons (ps_set (i := 4) scAfter.nd rfl (.inl rfl) (pe_ix ix_tup (pv 1) pe_int (fun _ _ => rfl)))
      (pss_cons (ps_if (pt_cmpR op_eq (pv 4) pe_str (nomark _))
      (pss_one (ps_expr (pe_bm PySem.F.plainAttrs_list PySem.F.slot_list_append PySem.F.type_list_append mt_append (pv 3) (pa_cons (pe_callTy (call_list_S rfl) (by rfl) T.list (by decide +kernel) (pa_cons (pv 2) pa_nil)) pa_nil))))
      (pss_one (ps_if (pt_cmpR op_eq (pv 4) pe_str (nomark _))
        (pss_one (ps_expr (pe_bm0 PySem.F.plainAttrs_list PySem.F.slot_list_pop PySem.F.type_list_pop mt_pop (pv 3))))
        (pss_one (ps_if (pt_cmpR op_eq (pv 4) pe_str (nomark _))
          (pss_one (ps_asg (pe_op op_cat (pe_op op_cat (pe_slice sl_list (pe_ix ix_list (pv 3) (pe_ix ix_tup (pv 1) pe_int (fun _ _ => rfl)) (fun _ _ => rfl)) po_none (po_some (pe_ix ix_tup (pv 1) pe_int (fun _ _ => rfl)))) (pe_callTy (call_list_S rfl) (by rfl) T.list (by decide +kernel) (pa_cons (pv 2) pa_nil))) (pe_slice sl_list (pe_ix ix_list (pv 3) (pe_ix ix_tup (pv 1) pe_int (fun _ _ => rfl)) (fun _ _ => rfl)) (po_some (pe_ix ix_tup (pv 1) pe_int (fun _ _ => rfl))) po_none)) (pg_sub (pv 3) (pe_ix ix_tup (pv 1) pe_int (fun _ _ => rfl)) set_list)))
          (pss_one (ps_if (pt_cmpR op_eq (pv 4) pe_str (nomark _))
            (pss_one (ps_asg (pe_op op_cat (pe_slice sl_list (pe_ix ix_list (pv 3) (pe_ix ix_tup (pv 1) pe_int (fun _ _ => rfl)) (fun _ _ => rfl)) po_none (po_some (pe_ix ix_tup (pv 1) pe_int (fun _ _ => rfl)))) (pe_slice sl_list (pe_ix ix_list (pv 3) (pe_ix ix_tup (pv 1) pe_int (fun _ _ => rfl)) (fun _ _ => rfl)) (po_some (pe_op op_add (pe_ix ix_tup (pv 1) pe_int (fun _ _ => rfl)) (pe_ix ix_tup (pv 1) pe_int (fun _ _ => rfl)))) po_none)) (pg_sub (pv 3) (pe_ix ix_tup (pv 1) pe_int (fun _ _ => rfl)) set_list)))
            (pss_one (ps_if (pt_cmpR op_eq (pv 4) pe_str (nomark _))
              (pss_one (ps_asg (pe_op op_cat (pe_op op_cat (pe_slice sl_list (pe_ix ix_list (pv 3) (pe_ix ix_tup (pv 1) pe_int (fun _ _ => rfl)) (fun _ _ => rfl)) po_none (po_some (pe_ix ix_tup (pv 1) pe_int (fun _ _ => rfl)))) (pe_callTy (call_list_S rfl) (by rfl) T.list (by decide +kernel) (pa_cons (pv 2) pa_nil))) (pe_slice sl_list (pe_ix ix_list (pv 3) (pe_ix ix_tup (pv 1) pe_int (fun _ _ => rfl)) (fun _ _ => rfl)) (po_some (pe_op op_add (pe_ix ix_tup (pv 1) pe_int (fun _ _ => rfl)) (pe_callB call_lenZ (by rfl) T.len PySem.boot_len (pa_cons (pv 2) pa_nil)))) po_none)) (pg_sub (pv 3) (pe_ix ix_tup (pv 1) pe_int (fun _ _ => rfl)) set_list)))
              (pss_one (ps_if (pt_cmpR op_eq (pv 4) pe_str (nomark _))
                (pss_cons (ps_expr (pe_bm PySem.F.plainAttrs_list PySem.F.slot_list_append PySem.F.type_list_append mt_append (pv 3) (pa_cons (pe_slice sl_list (pe_ix ix_list (pv 3) (pe_ix ix_tup (pv 1) pe_int (fun _ _ => rfl)) (fun _ _ => rfl)) (po_some (pe_ix ix_tup (pv 1) pe_int (fun _ _ => rfl))) po_none) pa_nil)))
                  (pss_one (ps_asg (pe_slice sl_list (pe_ix ix_list (pv 3) (pe_ix ix_tup (pv 1) pe_int (fun _ _ => rfl)) (fun _ _ => rfl)) po_none (po_some (pe_ix ix_tup (pv 1) pe_int (fun _ _ => rfl)))) (pg_sub (pv 3) (pe_ix ix_tup (pv 1) pe_int (fun _ _ => rfl)) set_list))))
                (pss_one (ps_if (pt_cmpR op_eq (pv 4) pe_str (nomark _))
                  (pss_cons (ps_asg (pe_op op_cat (pe_ix ix_list (pv 3) (pe_ix ix_tup (pv 1) pe_int (fun _ _ => rfl)) (fun _ _ => rfl)) (pe_ix ix_list (pv 3) (pe_ix ix_tup (pv 1) pe_int (fun _ _ => rfl)) (fun _ _ => rfl))) (pg_sub (pv 3) (pe_ix ix_tup (pv 1) pe_int (fun _ _ => rfl)) set_list))
                    (pss_one (ps_asg (pe_lst pa_nil) (pg_sub (pv 3) (pe_ix ix_tup (pv 1) pe_int (fun _ _ => rfl)) set_list))))
                  (pss_cons (ps_set (i := 5) scAfter.nd rfl (.inl rfl) (pe_slice sl_list (pe_ix ix_list (pv 3) (pe_ix ix_tup (pv 1) pe_int (fun _ _ => rfl)) (fun _ _ => rfl)) (po_some (pe_ix ix_tup (pv 1) pe_int (fun _ _ => rfl))) (po_some (pe_op op_add (pe_ix ix_tup (pv 1) pe_int (fun _ _ => rfl)) (pe_ix ix_tup (pv 1) pe_int (fun _ _ => rfl))))))
                    (pss_cons (ps_asg (pe_op op_cat (pe_slice sl_list (pe_ix ix_list (pv 3) (pe_ix ix_tup (pv 1) pe_int (fun _ _ => rfl)) (fun _ _ => rfl)) po_none (po_some (pe_ix ix_tup (pv 1) pe_int (fun _ _ => rfl)))) (pe_slice sl_list (pe_ix ix_list (pv 3) (pe_ix ix_tup (pv 1) pe_int (fun _ _ => rfl)) (fun _ _ => rfl)) (po_some (pe_op op_add (pe_ix ix_tup (pv 1) pe_int (fun _ _ => rfl)) (pe_ix ix_tup (pv 1) pe_int (fun _ _ => rfl)))) po_none)) (pg_sub (pv 3) (pe_ix ix_tup (pv 1) pe_int (fun _ _ => rfl)) set_list))
                    (pss_one (ps_asg (pe_op op_cat (pe_op op_cat (pe_slice sl_list (pe_ix ix_list (pv 3) (pe_ix ix_tup (pv 1) pe_int (fun _ _ => rfl)) (fun _ _ => rfl)) po_none (po_some (pe_ix ix_tup (pv 1) pe_int (fun _ _ => rfl)))) (pv 5)) (pe_slice sl_list (pe_ix ix_list (pv 3) (pe_ix ix_tup (pv 1) pe_int (fun _ _ => rfl)) (fun _ _ => rfl)) (po_some (pe_ix ix_tup (pv 1) pe_int (fun _ _ => rfl))) po_none)) (pg_sub (pv 3) (pe_ix ix_tup (pv 1) pe_int (fun _ _ => rfl)) set_list))))))))))))))))))
      (pss_one (ps_ret (pv 3)))))), ?_⟩
    obtain ⟨a, e, ts, us, ed, rfl, ha, he, hg, hS, hf, hm, q⟩ := h
    refine ⟨.ref a, rfl, a, rfl, ⟨_, SqT.of ha⟩, fun D nD0 => lc_tup (xs := ts.map V.str) (fun i H2 => Same H H2 ∧ ∃ rs : List Addr, H2 D = some (.lst (rs.map V.ref)) ∧ RowsOf H2 D rs (ts.take i)) ⟨Same.new nD0, [], upd_same, rfl, fun i r u h1 => by simp at h1⟩ (fun i H2 hi g => SqT.of (g.1 _ _ ha)) ?_ ?_⟩
    · rintro i x H2 hx ⟨k, rs, hD, hrs⟩
      rw [List.getElem?_map] at hx
      obtain ⟨y, hy, rfl⟩ := Option.map_eq_some_iff.mp hx
      have ly := hg.len (List.mem_of_getElem? hy)
      have hi : i < ts.length := (List.getElem?_eq_some_iff.mp hy).1
      refine ⟨rfl, .str y, rfl, y, rfl, len5 (by omega), fun l nl => ?_⟩
      have k2 := Same.new (o := .lst (chars y)) nl
      have nlD : l ≠ D := fun w => by rw [w, hD] at nl; cases nl
      have few := hg.few
      refine ⟨_, k2 _ _ hD, by rw [List.length_map, hrs.len, List.length_take]; show _ < 16777216; omega, sameAt (k.trans k2) nD0, rs ++ [l], by rw [upd_same, List.map_append]; rfl, ?_⟩
      rw [List.take_succ, hy]
      exact ((hrs.same fun b o nb hb => k2 b o hb).snoc nlD upd_same).same fun b o nb hb => by rw [upd_ne nb]; exact hb
    rintro H1 ⟨k0, rs, hD, hrs⟩
    rw [List.length_map, List.take_length] at hrs
    have he1 := k0 _ _ he
    have few := hg.few
    cases ed with
    | put t p z =>
      refine ⟨.ref e, rfl, e, _, 0, .str _, rfl, rfl, SqT.of he1, rfl, ?_⟩
      refine ⟨_, rfl, rfl, _, rfl, sne (by decide +kernel) ?_⟩
      refine ⟨_, rfl, rfl, _, rfl, sne (by decide +kernel) ?_⟩
      refine ⟨_, rfl, rfl, _, rfl, seq ?_⟩
      obtain ⟨t0, t1, wz, p0, p1⟩ := hf
      have lz := (hS _ rfl z (by simp [Ed.vals])).1
      obtain ⟨r, hat, nr, hr, hix⟩ := hrs.get t0 t1
      have K1 := Same.refl H1
      have hm' : mPut ts t p z = some us := hm
      unfold mPut at hm'
      rw [if_pos ⟨t1, p1⟩] at hm'
      cases hm'
      refine ⟨.ref D, rfl, .ref e, rfl, e, _, 1, .int t, rfl, rfl, SqT.of (K1 _ _ he1), rfl, D, _, t, .ref r, rfl, rfl, sq_of (hD), hat, .ref e, rfl, e, _, 2, .int p, rfl, rfl, SqT.of (K1 _ _ he1), rfl, p, rfl, r, _, rfl, sq_of hr, fun p1' np1 => ?_⟩
      have k1 := Same.new (o := .lst (cutV (chars (mText ts t)) none (some p))) np1
      refine ⟨.str z, rfl, z, rfl, len5 (by omega), fun p2 np2 => ?_⟩
      have k2 := k1.trans (Same.new (o := .lst (chars z)) np2)
      have c1 := cutV_length (chars (mText ts t)) none (some p)
      have c2 := cutV_length (chars (mText ts t)) (some p) none
      rw [chars_length] at c1 c2
      have ltt := mText_len (fun y hy => hg.len hy) t
      refine ⟨p1', p2, _, _, rfl, rfl, (Same.new np2) _ _ upd_same, upd_same, by rw [chars_length]; show _ ≤ 16777216; omega, fun p3 np3 => ?_⟩
      have k3 := k2.trans (Same.new (o := .lst (cutV (chars (mText ts t)) none (some p) ++ chars z)) np3)
      refine ⟨.ref D, rfl, .ref e, rfl, e, _, 1, .int t, rfl, rfl, SqT.of (k3 _ _ he1), rfl, D, _, t, .ref r, rfl, rfl, sq_of (k3 _ _ hD), hat, .ref e, rfl, e, _, 2, .int p, rfl, rfl, SqT.of (k3 _ _ he1), rfl, p, rfl, r, _, rfl, sq_of (k3 _ _ hr), fun p4 np4 => ?_⟩
      have k4 := k3.trans (Same.new (o := .lst (cutV (chars (mText ts t)) (some p) none)) np4)
      refine ⟨p3, p4, _, _, rfl, rfl, (Same.new np4) _ _ upd_same, upd_same, by rw [List.length_append, chars_length]; show _ ≤ 16777216; omega, fun p5 np5 => ?_⟩
      have k5 := k4.trans (Same.new (o := .lst (cutV (chars (mText ts t)) none (some p) ++ chars z ++ cutV (chars (mText ts t)) (some p) none)) np5)
      refine ⟨.ref D, rfl, .ref e, rfl, e, _, 1, .int t, rfl, rfl, SqT.of (k5 _ _ he1), rfl, D, _, t, t.toNat, rfl, rfl, k5 _ _ hD, hix, ?_⟩
      refine ⟨_, rfl, ?_⟩
      have n5 : p5 ≠ D := fun w => by rw [w] at np5; rw [k4 _ _ hD] at np5; cases np5
      rw [← List.map_set]
      refine q D _ nD0 ⟨_, upd_same, ((hrs.same fun b o nb hb => k5 b o hb).set n5 (z := cutS (mText ts t) none (some p) ++ z ++ cutS (mText ts t) (some p) none) (by rw [upd_same, chars_app, chars_app, chars_to' p0, chars_from' p0]) t.toNat).same fun b o nb hb => by rw [upd_ne nb]; exact hb⟩ (sameAt (k0.trans k5) nD0)
    | cut t p n =>
      refine ⟨.ref e, rfl, e, _, 0, .str _, rfl, rfl, SqT.of he1, rfl, ?_⟩
      refine ⟨_, rfl, rfl, _, rfl, sne (by decide +kernel) ?_⟩
      refine ⟨_, rfl, rfl, _, rfl, sne (by decide +kernel) ?_⟩
      refine ⟨_, rfl, rfl, _, rfl, sne (by decide +kernel) ?_⟩
      refine ⟨_, rfl, rfl, _, rfl, seq ?_⟩
      obtain ⟨t0, t1, p0, n0, p1⟩ := hf
      obtain ⟨r, hat, nr, hr, hix⟩ := hrs.get t0 t1
      have K1 := Same.refl H1
      have hm' : mCut ts t p n = some us := hm
      unfold mCut at hm'
      rw [if_pos ⟨t1, p1⟩] at hm'
      cases hm'
      refine ⟨.ref D, rfl, .ref e, rfl, e, _, 1, .int t, rfl, rfl, SqT.of (K1 _ _ he1), rfl, D, _, t, .ref r, rfl, rfl, sq_of (hD), hat, .ref e, rfl, e, _, 2, .int p, rfl, rfl, SqT.of (K1 _ _ he1), rfl, p, rfl, r, _, rfl, sq_of hr, fun p1' np1 => ?_⟩
      have k1 := Same.new (o := .lst (cutV (chars (mText ts t)) none (some p))) np1
      have c1 := cutV_length (chars (mText ts t)) none (some p)
      have c2 := cutV_length (chars (mText ts t)) (some (p + n)) none
      rw [chars_length] at c1 c2
      have ltt := mText_len (fun y hy => hg.len hy) t
      refine ⟨.ref D, rfl, .ref e, rfl, e, _, 1, .int t, rfl, rfl, SqT.of (k1 _ _ he1), rfl, D, _, t, .ref r, rfl, rfl, sq_of (k1 _ _ hD), hat, .ref e, rfl, e, _, 2, .int p, rfl, rfl, SqT.of (k1 _ _ he1), rfl, .ref e, rfl, e, _, 3, .int n, rfl, rfl, SqT.of (k1 _ _ he1), rfl, _, _, rfl, rfl, p + n, rfl, r, _, rfl, sq_of (k1 _ _ hr), fun p4 np4 => ?_⟩
      have k4 := k1.trans (Same.new (o := .lst (cutV (chars (mText ts t)) (some (p + n)) none)) np4)
      refine ⟨p1', p4, _, _, rfl, rfl, (Same.new np4) _ _ upd_same, upd_same, by show _ ≤ 16777216; omega, fun p5 np5 => ?_⟩
      have k5 := k4.trans (Same.new (o := .lst (cutV (chars (mText ts t)) none (some p) ++ cutV (chars (mText ts t)) (some (p + n)) none)) np5)
      refine ⟨.ref D, rfl, .ref e, rfl, e, _, 1, .int t, rfl, rfl, SqT.of (k5 _ _ he1), rfl, D, _, t, t.toNat, rfl, rfl, k5 _ _ hD, hix, ?_⟩
      refine ⟨_, rfl, ?_⟩
      have n5 : p5 ≠ D := fun w => by rw [w] at np5; rw [k4 _ _ hD] at np5; cases np5
      rw [← List.map_set]
      refine q D _ nD0 ⟨_, upd_same, ((hrs.same fun b o nb hb => k5 b o hb).set n5 (z := cutS (mText ts t) none (some p) ++ cutS (mText ts t) (some (p + n)) none) (by rw [upd_same, chars_app, chars_to' p0, chars_from' (by omega)]) t.toNat).same fun b o nb hb => by rw [upd_ne nb]; exact hb⟩ (sameAt (k0.trans k5) nD0)
    | change t p z =>
      refine ⟨.ref e, rfl, e, _, 0, .str _, rfl, rfl, SqT.of he1, rfl, ?_⟩
      refine ⟨_, rfl, rfl, _, rfl, sne (by decide +kernel) ?_⟩
      refine ⟨_, rfl, rfl, _, rfl, sne (by decide +kernel) ?_⟩
      refine ⟨_, rfl, rfl, _, rfl, sne (by decide +kernel) ?_⟩
      refine ⟨_, rfl, rfl, _, rfl, sne (by decide +kernel) ?_⟩
      refine ⟨_, rfl, rfl, _, rfl, seq ?_⟩
      obtain ⟨wz, t0, t1, p0, p1⟩ := hf
      have lz := (hS _ rfl z (by simp [Ed.vals])).1
      obtain ⟨r, hat, nr, hr, hix⟩ := hrs.get t0 t1
      have K1 := Same.refl H1
      have hm' : mChange ts t p z = some us := hm
      unfold mChange at hm'
      rw [if_pos ⟨t1, p1⟩] at hm'
      cases hm'
      refine ⟨.ref D, rfl, .ref e, rfl, e, _, 1, .int t, rfl, rfl, SqT.of (K1 _ _ he1), rfl, D, _, t, .ref r, rfl, rfl, sq_of (hD), hat, .ref e, rfl, e, _, 2, .int p, rfl, rfl, SqT.of (K1 _ _ he1), rfl, p, rfl, r, _, rfl, sq_of hr, fun p1' np1 => ?_⟩
      have k1 := Same.new (o := .lst (cutV (chars (mText ts t)) none (some p))) np1
      refine ⟨.str z, rfl, z, rfl, len5 (by omega), fun p2 np2 => ?_⟩
      have k2 := k1.trans (Same.new (o := .lst (chars z)) np2)
      have c1 := cutV_length (chars (mText ts t)) none (some p)
      have c2 := cutV_length (chars (mText ts t)) (some (p + (z.length : Int))) none
      rw [chars_length] at c1 c2
      have ltt := mText_len (fun y hy => hg.len hy) t
      refine ⟨p1', p2, _, _, rfl, rfl, (Same.new np2) _ _ upd_same, upd_same, by rw [chars_length]; show _ ≤ 16777216; omega, fun p3 np3 => ?_⟩
      have k3 := k2.trans (Same.new (o := .lst (cutV (chars (mText ts t)) none (some p) ++ chars z)) np3)
      refine ⟨.ref D, rfl, .ref e, rfl, e, _, 1, .int t, rfl, rfl, SqT.of (k3 _ _ he1), rfl, D, _, t, .ref r, rfl, rfl, sq_of (k3 _ _ hD), hat, .ref e, rfl, e, _, 2, .int p, rfl, rfl, SqT.of (k3 _ _ he1), rfl, .str z, rfl, z, rfl, len5 (by omega), _, _, rfl, rfl, p + (z.length : Int), rfl, r, _, rfl, sq_of (k3 _ _ hr), fun p4 np4 => ?_⟩
      have k4 := k3.trans (Same.new (o := .lst (cutV (chars (mText ts t)) (some (p + (z.length : Int))) none)) np4)
      refine ⟨p3, p4, _, _, rfl, rfl, (Same.new np4) _ _ upd_same, upd_same, by rw [List.length_append, chars_length]; show _ ≤ 16777216; omega, fun p5 np5 => ?_⟩
      have k5 := k4.trans (Same.new (o := .lst (cutV (chars (mText ts t)) none (some p) ++ chars z ++ cutV (chars (mText ts t)) (some (p + (z.length : Int))) none)) np5)
      refine ⟨.ref D, rfl, .ref e, rfl, e, _, 1, .int t, rfl, rfl, SqT.of (k5 _ _ he1), rfl, D, _, t, t.toNat, rfl, rfl, k5 _ _ hD, hix, ?_⟩
      refine ⟨_, rfl, ?_⟩
      have n5 : p5 ≠ D := fun w => by rw [w] at np5; rw [k4 _ _ hD] at np5; cases np5
      rw [← List.map_set]
      refine q D _ nD0 ⟨_, upd_same, ((hrs.same fun b o nb hb => k5 b o hb).set n5 (z := cutS (mText ts t) none (some p) ++ z ++ cutS (mText ts t) (some (p + (z.length : Int))) none) (by rw [upd_same, chars_app, chars_app, chars_to' p0, chars_from' (by omega)]) t.toNat).same fun b o nb hb => by rw [upd_ne nb]; exact hb⟩ (sameAt (k0.trans k5) nD0)
    | come z =>
      refine ⟨.ref e, rfl, e, _, 0, .str _, rfl, rfl, SqT.of he1, rfl, ?_⟩
      refine ⟨_, rfl, rfl, _, rfl, seq ?_⟩
      have lz := (hS _ rfl z (by simp [Ed.vals])).1
      cases hm
      refine ⟨.ref D, rfl, .inl ⟨rfl, _, sq_of hD⟩, .str z, rfl, z, rfl, len5 (by omega), fun p2 np2 => ?_⟩
      have k2 := Same.new (o := .lst (chars z)) np2
      refine ⟨D, _, _, rfl, rfl, k2 _ _ hD, by rw [List.length_map, hrs.len]; show _ < 16777216; omega, ?_⟩
      refine ⟨_, rfl, ?_⟩
      have n2 : p2 ≠ D := fun w => by rw [w, hD] at np2; cases np2
      refine q D _ nD0 ⟨rs ++ [p2], by rw [upd_same, List.map_append]; rfl, ((hrs.same fun b o nb hb => k2 b o hb).snoc n2 upd_same).same fun b o nb hb => by rw [upd_ne nb]; exact hb⟩ (sameAt (k0.trans k2) nD0)
    | go =>
      refine ⟨.ref e, rfl, e, _, 0, .str _, rfl, rfl, SqT.of he1, rfl, ?_⟩
      refine ⟨_, rfl, rfl, _, rfl, sne (by decide +kernel) ?_⟩
      refine ⟨_, rfl, rfl, _, rfl, seq ?_⟩
      have hf' : ts.getLast? = some (Str.ofString "") := hf
      have hm' : mGone ts = some us := hm
      unfold mGone at hm'
      rw [if_pos hf'] at hm'
      cases hm'
      have ne : rs.length ≠ 0 := fun w => by
        rw [hrs.len] at w
        rw [List.length_eq_zero_iff.mp w] at hf'
        cases hf'
      refine ⟨.ref D, rfl, .inl ⟨rfl, _, sq_of hD⟩, D, _, .ref rs[rs.length - 1], rfl, rfl, hD, by rw [List.length_map, List.getElem?_map, List.getElem?_eq_getElem (by omega)]; rfl, ?_⟩
      refine ⟨_, rfl, ?_⟩
      rw [← List.map_dropLast]
      refine q D _ nD0 ⟨_, upd_same, hrs.pop.same fun b o nb hb => by rw [upd_ne nb]; exact hb⟩ (sameAt k0 nD0)
    | split t p =>
      refine ⟨.ref e, rfl, e, _, 0, .str _, rfl, rfl, SqT.of he1, rfl, ?_⟩
      refine ⟨_, rfl, rfl, _, rfl, sne (by decide +kernel) ?_⟩
      refine ⟨_, rfl, rfl, _, rfl, sne (by decide +kernel) ?_⟩
      refine ⟨_, rfl, rfl, _, rfl, sne (by decide +kernel) ?_⟩
      refine ⟨_, rfl, rfl, _, rfl, sne (by decide +kernel) ?_⟩
      refine ⟨_, rfl, rfl, _, rfl, sne (by decide +kernel) ?_⟩
      refine ⟨_, rfl, rfl, _, rfl, seq ?_⟩
      obtain ⟨t0, t1, p0, p1⟩ := hf
      obtain ⟨r, hat, nr, hr, hix⟩ := hrs.get t0 t1
      have K1 := Same.refl H1
      have hm' : mSplit ts t p = some us := hm
      unfold mSplit at hm'
      rw [if_pos ⟨t1, p1⟩] at hm'
      cases hm'
      refine ⟨.ref D, rfl, .inl ⟨rfl, _, sq_of hD⟩, .ref D, rfl, .ref e, rfl, e, _, 1, .int t, rfl, rfl, SqT.of (K1 _ _ he1), rfl, D, _, t, .ref r, rfl, rfl, sq_of (hD), hat, .ref e, rfl, e, _, 2, .int p, rfl, rfl, SqT.of (K1 _ _ he1), rfl, p, rfl, r, _, rfl, sq_of hr, fun p1' np1 => ?_⟩
      have k1 := Same.new (o := .lst (cutV (chars (mText ts t)) (some p) none)) np1
      have n1 : p1' ≠ D := fun w => by rw [w, hD] at np1; cases np1
      refine ⟨D, _, _, rfl, rfl, k1 _ _ hD, by rw [List.length_map, hrs.len]; show _ < 16777216; omega, ?_⟩
      have hr2 := (upd_ne (o := .lst (rs.map V.ref ++ [V.ref p1'])) nr).trans (k1 _ _ hr)
      have heD : e ≠ D := fun w => by rw [w, nD0] at he; cases he
      have he2 := (upd_ne (o := .lst (rs.map V.ref ++ [V.ref p1'])) heD).trans (k1 _ _ he1)
      have R2 : RowsOf (upd (upd H1 p1' (.lst (cutV (chars (mText ts t)) (some p) none))) D (.lst (rs.map V.ref ++ [V.ref p1']))) D (rs ++ [p1']) (ts ++ [cutS (mText ts t) (some p) none]) := ((hrs.same fun b o nb hb => k1 b o hb).snoc n1 (by rw [upd_same, chars_from' p0])).same fun b o nb hb => by rw [upd_ne nb]; exact hb
      have hD2 : upd (upd H1 p1' (.lst (cutV (chars (mText ts t)) (some p) none))) D (.lst (rs.map V.ref ++ [V.ref p1'])) D = some (.lst ((rs ++ [p1']).map V.ref)) := by rw [upd_same, List.map_append]; rfl
      obtain ⟨r2, hat2, nr2, hr3, hix2⟩ := R2.get t0 (show t < ((ts ++ [cutS (mText ts t) (some p) none]).length : Int) by rw [List.length_append]; show t < ((ts.length + 1 : Nat) : Int); omega)
      have em : mText (ts ++ [cutS (mText ts t) (some p) none]) t = mText ts t := by
        show (ts ++ _).getD t.toNat _ = ts.getD t.toNat _
        rw [List.getD_eq_getElem?_getD, List.getD_eq_getElem?_getD, List.getElem?_append_left (by omega)]
      rw [em] at hr3
      have kH : Same H (upd (upd H1 p1' (.lst (cutV (chars (mText ts t)) (some p) none))) D (.lst (rs.map V.ref ++ [V.ref p1']))) := sameAt (k0.trans k1) nD0
      generalize upd (upd H1 p1' (.lst (cutV (chars (mText ts t)) (some p) none))) D (.lst (rs.map V.ref ++ [V.ref p1'])) = H2 at hr2 he2 R2 hD2 hr3 kH ⊢
      refine ⟨.ref D, rfl, .ref e, rfl, e, _, 1, .int t, rfl, rfl, SqT.of he2, rfl, D, _, t, .ref r2, rfl, rfl, sq_of hD2, hat2, .ref e, rfl, e, _, 2, .int p, rfl, rfl, SqT.of he2, rfl, p, rfl, r2, _, rfl, sq_of hr3, fun p4 np4 => ?_⟩
      have k4 := Same.new (o := .lst (cutV (chars (mText ts t)) none (some p))) np4
      refine ⟨.ref D, rfl, .ref e, rfl, e, _, 1, .int t, rfl, rfl, SqT.of (k4 _ _ he2), rfl, D, _, t, t.toNat, rfl, rfl, k4 _ _ hD2, hix2, ?_⟩
      refine ⟨_, rfl, ?_⟩
      have n4 : p4 ≠ D := fun w => by rw [w, hD2] at np4; cases np4
      rw [← List.map_set]
      have eus : (ts ++ [cutS (mText ts t) (some p) none]).set t.toNat (cutS (mText ts t) none (some p)) = ts.set t.toNat (cutS (mText ts t) none (some p)) ++ [cutS (mText ts t) (some p) none] := List.set_append_left _ _ (by omega)
      refine q D _ nD0 ⟨_, upd_same, ?_⟩ (sameAt (kH.trans k4) nD0)
      rw [← eus]
      exact ((R2.same fun b o nb hb => k4 b o hb).set n4 (by rw [upd_same, chars_to' p0]) t.toNat).same fun b o nb hb => by rw [upd_ne nb]; exact hb
    | join t u =>
      refine ⟨.ref e, rfl, e, _, 0, .str _, rfl, rfl, SqT.of he1, rfl, ?_⟩
      refine ⟨_, rfl, rfl, _, rfl, sne (by decide +kernel) ?_⟩
      refine ⟨_, rfl, rfl, _, rfl, sne (by decide +kernel) ?_⟩
      refine ⟨_, rfl, rfl, _, rfl, sne (by decide +kernel) ?_⟩
      refine ⟨_, rfl, rfl, _, rfl, sne (by decide +kernel) ?_⟩
      refine ⟨_, rfl, rfl, _, rfl, sne (by decide +kernel) ?_⟩
      refine ⟨_, rfl, rfl, _, rfl, sne (by decide +kernel) ?_⟩
      refine ⟨_, rfl, rfl, _, rfl, seq ?_⟩
      obtain ⟨t0, t1, u0, u1, tu⟩ := hf
      obtain ⟨r, hat, nr, hr, hix⟩ := hrs.get t0 t1
      obtain ⟨r', hat', nr', hr', hix'⟩ := hrs.get u0 u1
      have K1 := Same.refl H1
      have hm' : mJoin ts t u = some us := hm
      unfold mJoin at hm'
      rw [if_pos ⟨t1, u1, tu⟩] at hm'
      cases hm'
      have l1 := mText_len (fun y hy => hg.len hy) t
      have l2 := mText_len (fun y hy => hg.len hy) u
      refine ⟨.ref D, rfl, .ref e, rfl, e, _, 1, .int t, rfl, rfl, SqT.of (K1 _ _ he1), rfl, D, _, t, .ref r, rfl, rfl, sq_of (hD), hat, .ref D, rfl, .ref e, rfl, e, _, 2, .int u, rfl, rfl, SqT.of (K1 _ _ he1), rfl, D, _, u, .ref r', rfl, rfl, sq_of (hD), hat', r, r', _, _, rfl, rfl, hr, hr', by rw [chars_length, chars_length]; show _ ≤ 16777216; omega, fun p1' np1 => ?_⟩
      have k1 := Same.new (o := .lst (chars (mText ts t) ++ chars (mText ts u))) np1
      have n1 : p1' ≠ D := fun w => by rw [w, hD] at np1; cases np1
      refine ⟨.ref D, rfl, .ref e, rfl, e, _, 1, .int t, rfl, rfl, SqT.of (k1 _ _ he1), rfl, D, _, t, t.toNat, rfl, rfl, k1 _ _ hD, hix, ?_⟩
      have heD : e ≠ D := fun w => by rw [w, nD0] at he; cases he
      have he2 := (upd_ne (o := .lst ((rs.map V.ref).set t.toNat (V.ref p1'))) heD).trans (k1 _ _ he1)
      have R2 : RowsOf (upd (upd H1 p1' (.lst (chars (mText ts t) ++ chars (mText ts u)))) D (.lst ((rs.map V.ref).set t.toNat (V.ref p1')))) D (rs.set t.toNat p1') (ts.set t.toNat (mText ts t ++ mText ts u)) := ((hrs.same fun b o nb hb => k1 b o hb).set n1 (by rw [upd_same, chars_app]) t.toNat).same fun b o nb hb => by rw [upd_ne nb]; exact hb
      have hD2 : upd (upd H1 p1' (.lst (chars (mText ts t) ++ chars (mText ts u)))) D (.lst ((rs.map V.ref).set t.toNat (V.ref p1'))) D = some (.lst ((rs.set t.toNat p1').map V.ref)) := by rw [upd_same, List.map_set]
      have kH : Same H (upd (upd H1 p1' (.lst (chars (mText ts t) ++ chars (mText ts u)))) D (.lst ((rs.map V.ref).set t.toNat (V.ref p1')))) := sameAt (k0.trans k1) nD0
      obtain ⟨r2, hat2, nr2, hr3, hix2⟩ := R2.get u0 (show u < ((ts.set t.toNat (mText ts t ++ mText ts u)).length : Int) by rw [List.length_set]; exact u1)
      generalize upd (upd H1 p1' (.lst (chars (mText ts t) ++ chars (mText ts u)))) D (.lst ((rs.map V.ref).set t.toNat (V.ref p1'))) = H2 at he2 R2 hD2 hr3 kH ⊢
      refine ⟨by show 0 ≤ sizeLine; decide, fun p4 np4 => ?_⟩
      have k4 := Same.new (o := .lst []) np4
      refine ⟨.ref D, rfl, .ref e, rfl, e, _, 2, .int u, rfl, rfl, SqT.of (k4 _ _ he2), rfl, D, _, u, u.toNat, rfl, rfl, k4 _ _ hD2, hix2, ?_⟩
      refine ⟨_, rfl, ?_⟩
      have n4 : p4 ≠ D := fun w => by rw [w, hD2] at np4; cases np4
      rw [← List.map_set]
      refine q D _ nD0 ⟨_, upd_same, ?_⟩ (sameAt (kH.trans k4) nD0)
      rw [List.set_comm _ _ (show u.toNat ≠ t.toNat by omega)]
      exact ((R2.same fun b o nb hb => k4 b o hb).set n4 (by rw [upd_same, chars_empty]) u.toNat).same fun b o nb hb => by rw [upd_ne nb]; exact hb
    | move t p n u v =>
      refine ⟨.ref e, rfl, e, _, 0, .str _, rfl, rfl, SqT.of he1, rfl, ?_⟩
      refine ⟨_, rfl, rfl, _, rfl, sne (by decide +kernel) ?_⟩
      refine ⟨_, rfl, rfl, _, rfl, sne (by decide +kernel) ?_⟩
      refine ⟨_, rfl, rfl, _, rfl, sne (by decide +kernel) ?_⟩
      refine ⟨_, rfl, rfl, _, rfl, sne (by decide +kernel) ?_⟩
      refine ⟨_, rfl, rfl, _, rfl, sne (by decide +kernel) ?_⟩
      refine ⟨_, rfl, rfl, _, rfl, sne (by decide +kernel) ?_⟩
      refine ⟨_, rfl, rfl, _, rfl, sne (by decide +kernel) ?_⟩
      obtain ⟨t0, t1, p0, n0, p1, u0, u1, v0, v1⟩ := hf
      obtain ⟨r, hat, nr, hr, hix⟩ := hrs.get t0 t1
      have K1 := Same.refl H1
      have hm' : mMove ts t p n u v = some us := hm
      unfold mMove mCut at hm'
      rw [if_pos ⟨t1, p1⟩, Option.bind_some] at hm'
      have l1 := mText_len (fun y hy => hg.len hy) t
      refine ⟨.ref D, rfl, .ref e, rfl, e, _, 1, .int t, rfl, rfl, SqT.of (K1 _ _ he1), rfl, D, _, t, .ref r, rfl, rfl, sq_of (hD), hat, .ref e, rfl, e, _, 2, .int p, rfl, rfl, SqT.of (K1 _ _ he1), rfl, p, rfl, .ref e, rfl, e, _, 2, .int p, rfl, rfl, SqT.of (K1 _ _ he1), rfl, .ref e, rfl, e, _, 3, .int n, rfl, rfl, SqT.of (K1 _ _ he1), rfl, _, _, rfl, rfl, p + n, rfl, r, _, rfl, sq_of hr, fun pt npt => ?_⟩
      have kt := Same.new (o := .lst (cutV (chars (mText ts t)) (some p) (some (p + n)))) npt
      have ct := cutV_length (chars (mText ts t)) (some p) (some (p + n))
      rw [chars_length] at ct
      refine ⟨.ref D, rfl, .ref e, rfl, e, _, 1, .int t, rfl, rfl, SqT.of (kt _ _ he1), rfl, D, _, t, .ref r, rfl, rfl, sq_of (kt _ _ hD), hat, .ref e, rfl, e, _, 2, .int p, rfl, rfl, SqT.of (kt _ _ he1), rfl, p, rfl, r, _, rfl, sq_of (kt _ _ hr), fun p1' np1 => ?_⟩
      have k1 := kt.trans (Same.new (o := .lst (cutV (chars (mText ts t)) none (some p))) np1)
      have c1 := cutV_length (chars (mText ts t)) none (some p)
      have c2 := cutV_length (chars (mText ts t)) (some (p + n)) none
      rw [chars_length] at c1 c2
      refine ⟨.ref D, rfl, .ref e, rfl, e, _, 1, .int t, rfl, rfl, SqT.of (k1 _ _ he1), rfl, D, _, t, .ref r, rfl, rfl, sq_of (k1 _ _ hD), hat, .ref e, rfl, e, _, 2, .int p, rfl, rfl, SqT.of (k1 _ _ he1), rfl, .ref e, rfl, e, _, 3, .int n, rfl, rfl, SqT.of (k1 _ _ he1), rfl, _, _, rfl, rfl, p + n, rfl, r, _, rfl, sq_of (k1 _ _ hr), fun p4 np4 => ?_⟩
      have k4 := k1.trans (Same.new (o := .lst (cutV (chars (mText ts t)) (some (p + n)) none)) np4)
      refine ⟨p1', p4, _, _, rfl, rfl, (Same.new np4) _ _ upd_same, upd_same, by show _ ≤ 16777216; omega, fun p5 np5 => ?_⟩
      have k5 := k4.trans (Same.new (o := .lst (cutV (chars (mText ts t)) none (some p) ++ cutV (chars (mText ts t)) (some (p + n)) none)) np5)
      refine ⟨.ref D, rfl, .ref e, rfl, e, _, 1, .int t, rfl, rfl, SqT.of (k5 _ _ he1), rfl, D, _, t, t.toNat, rfl, rfl, k5 _ _ hD, hix, ?_⟩
      have n5 : p5 ≠ D := fun w => by rw [w] at np5; rw [k4 _ _ hD] at np5; cases np5
      have ntD : pt ≠ D := fun w => by rw [w, hD] at npt; cases npt
      have hpt : upd H1 pt (.lst (cutV (chars (mText ts t)) (some p) (some (p + n)))) pt = some (.lst (cutV (chars (mText ts t)) (some p) (some (p + n)))) := upd_same
      have k5t : Same (upd H1 pt (.lst (cutV (chars (mText ts t)) (some p) (some (p + n))))) _ := ((Same.new (o := .lst (cutV (chars (mText ts t)) none (some p))) np1).trans (Same.new (o := .lst (cutV (chars (mText ts t)) (some (p + n)) none)) np4)).trans (Same.new (o := .lst (cutV (chars (mText ts t)) none (some p) ++ cutV (chars (mText ts t)) (some (p + n)) none)) np5)
      have hpt5 := k5t _ _ hpt
      have heD : e ≠ D := fun w => by rw [w, nD0] at he; cases he
      have he5 := k5 _ _ he1
      have hD5 := k5 _ _ hD
      have R5 := (hrs.same fun b o nb hb => k5 b o hb).set n5 (z := cutS (mText ts t) none (some p) ++ cutS (mText ts t) (some (p + n)) none) (by rw [upd_same, chars_app, chars_to' p0, chars_from' (by omega)]) t.toNat
      have kH5 := k0.trans k5
      generalize upd (upd (upd (upd H1 pt (.lst (cutV (chars (mText ts t)) (some p) (some (p + n))))) p1' (.lst (cutV (chars (mText ts t)) none (some p)))) p4 (.lst (cutV (chars (mText ts t)) (some (p + n)) none))) p5 (.lst (cutV (chars (mText ts t)) none (some p) ++ cutV (chars (mText ts t)) (some (p + n)) none)) = H5 at hpt5 he5 hD5 R5 kH5 ⊢
      have he2 := (upd_ne (o := .lst ((rs.map V.ref).set t.toNat (V.ref p5))) heD).trans he5
      have hpt2 := (upd_ne (o := .lst ((rs.map V.ref).set t.toNat (V.ref p5))) ntD).trans hpt5
      have R2 : RowsOf (upd H5 D (.lst ((rs.map V.ref).set t.toNat (V.ref p5)))) D (rs.set t.toNat p5) (ts.set t.toNat (cutS (mText ts t) none (some p) ++ cutS (mText ts t) (some (p + n)) none)) := R5.same fun b o nb hb => by rw [upd_ne nb]; exact hb
      have hD2 : upd H5 D (.lst ((rs.map V.ref).set t.toNat (V.ref p5))) D = some (.lst ((rs.set t.toNat p5).map V.ref)) := by rw [upd_same, List.map_set]
      have kH : Same H (upd H5 D (.lst ((rs.map V.ref).set t.toNat (V.ref p5)))) := sameAt kH5 nD0
      generalize upd H5 D (.lst ((rs.map V.ref).set t.toNat (V.ref p5))) = H2 at he2 hpt2 R2 hD2 kH ⊢
      have lw : ∀ y ∈ ts.set t.toNat (cutS (mText ts t) none (some p) ++ cutS (mText ts t) (some (p + n)) none), y.length ≤ 4000 := fun y hy => by
        rcases List.mem_or_eq_of_mem_set hy with h1 | h1
        · have := hg.len h1
          omega
        · have q1 := cut_len (z := mText ts t) none (some p)
          have q2 := cut_len (z := mText ts t) (some (p + n)) none
          rw [h1, app_len]
          omega
      have lws : (ts.set t.toNat (cutS (mText ts t) none (some p) ++ cutS (mText ts t) (some (p + n)) none)).length = ts.length := List.length_set
      generalize ts.set t.toNat (cutS (mText ts t) none (some p) ++ cutS (mText ts t) (some (p + n)) none) = ws at R2 hm' lw lws
      unfold mPut at hm'
      by_cases cc : u < ws.length ∧ v ≤ (mText ws u).length
      · rw [if_pos cc] at hm'
        cases hm'
        obtain ⟨r2, hat2, nr2, hr2, hix2⟩ := R2.get u0 cc.1
        have lu := mText_len lw u
        refine ⟨.ref D, rfl, .ref e, rfl, e, _, 4, .int u, rfl, rfl, SqT.of he2, rfl, D, _, u, .ref r2, rfl, rfl, sq_of hD2, hat2, .ref e, rfl, e, _, 5, .int v, rfl, rfl, SqT.of he2, rfl, v, rfl, r2, _, rfl, sq_of hr2, fun a1 na1 => ?_⟩
        have j1 := Same.new (o := .lst (cutV (chars (mText ws u)) none (some v))) na1
        have d1 := cutV_length (chars (mText ws u)) none (some v)
        have d2 := cutV_length (chars (mText ws u)) (some v) none
        rw [chars_length] at d1 d2
        refine ⟨.ref pt, rfl, a1, pt, _, _, rfl, rfl, upd_same, j1 _ _ hpt2, by show _ ≤ 16777216; omega, fun a2 na2 => ?_⟩
        have j2 := j1.trans (Same.new (o := .lst (cutV (chars (mText ws u)) none (some v) ++ cutV (chars (mText ts t)) (some p) (some (p + n)))) na2)
        refine ⟨.ref D, rfl, .ref e, rfl, e, _, 4, .int u, rfl, rfl, SqT.of (j2 _ _ he2), rfl, D, _, u, .ref r2, rfl, rfl, sq_of (j2 _ _ hD2), hat2, .ref e, rfl, e, _, 5, .int v, rfl, rfl, SqT.of (j2 _ _ he2), rfl, v, rfl, r2, _, rfl, sq_of (j2 _ _ hr2), fun a3 na3 => ?_⟩
        have j3 := j2.trans (Same.new (o := .lst (cutV (chars (mText ws u)) (some v) none)) na3)
        refine ⟨a2, a3, _, _, rfl, rfl, (Same.new na3) _ _ upd_same, upd_same, by rw [List.length_append]; show _ ≤ 16777216; omega, fun a4 na4 => ?_⟩
        have j4 := j3.trans (Same.new (o := .lst (cutV (chars (mText ws u)) none (some v) ++ cutV (chars (mText ts t)) (some p) (some (p + n)) ++ cutV (chars (mText ws u)) (some v) none)) na4)
        refine ⟨.ref D, rfl, .ref e, rfl, e, _, 4, .int u, rfl, rfl, SqT.of (j4 _ _ he2), rfl, D, _, u, u.toNat, rfl, rfl, j4 _ _ hD2, hix2, ?_⟩
        refine ⟨_, rfl, ?_⟩
        have n4 : a4 ≠ D := fun w => by rw [w] at na4; rw [j3 _ _ hD2] at na4; cases na4
        rw [← List.map_set]
        refine q D _ nD0 ⟨_, upd_same, ?_⟩ (sameAt (kH.trans j4) nD0)
        exact ((R2.same fun b o nb hb => j4 b o hb).set n4 (by rw [upd_same, chars_app, chars_app, chars_to' v0, chars_from' v0, chars_of p0 (by omega)]) u.toNat).same fun b o nb hb => by rw [upd_ne nb]; exact hb
      · rw [if_neg cc] at hm'
        cases hm'
end
end LawK
set_option maxHeartbeats 4000000
namespace LawK
open PySem PySem.Spec PyProof.Rows L2 Ev
def spFresh : Sp := fun vs H Q _ => ∃ (e : Addr) (ed : Ed), vs = [.ref e] ∧ H e = some (.tup ed.vals) ∧ Q (.str ed.fresh) H
def spEdited : Sp := fun vs H Q _ => ∃ (a e : Addr) (ts us : List Str) (ed : Ed), vs = [.ref a, .ref e] ∧ H a = some (.tup (ts.map V.str)) ∧ H e = some (.tup ed.vals) ∧ Good ts ∧ Shr (some ed.vals) ∧ ed.fits ts ∧ ed.mk ts = some us ∧
  ∀ o H', H o = none → H' o = some (.tup (us.map V.str)) → Same H H' → Q (.ref o) H'
def tJn (K : PySem.W.Frag) (to te : TE) : TE := tM1 (fun x xs H Q => ∃ a p, ∃ ys : List Str, x = .str a ∧ xs = [.ref p] ∧ (SqL K H p (ys.map V.str) ∨ SqT K H p (ys.map V.str)) ∧ (ys.map (·.length)).sum + ys.length * a.length ≤ 16777216 ∧ Q (.str (Txt.join a ys)) H) to te
theorem join_chars (z : Str) : Txt.join (Str.ofString "") (z.cps.toList.map fun c => (⟨#[c]⟩ : Str)) = z := (join1 z.cps.toList).trans (S_eta z)
theorem sum_ones (l : List Nat) : ((l.map fun c => (⟨#[c]⟩ : Str)).map (·.length)).sum = l.length := by
  induction l with
  | nil => rfl
  | cons c l ih =>
    rw [List.map_cons, List.map_cons, List.sum_cons, ih, List.length_cons]
    show 1 + _ = _
    omega
section
variable {P : Program} {w : World} {K : PySem.W.Frag} {mg : Str → Option Value} {base : Heap}
abbrev sFresh : Stmt := topS 61
theorem scFresh : FnScope ["edit"] ["edit"] (defScope sFresh) := ⟨rfl, rfl, rfl, by decide +kernel, rfl, by decide +kernel, by decide +kernel⟩
theorem ok_Fresh {f : Addr} {fd : FuncData} (F : Fun K "_law_fresh" "_law_fresh" sFresh f fd)  (T : Glob mg) : FnOk P w K mg base CX0 1 f fd ["edit"] spFresh := by
  refine F.ok scFresh (fun vs H Q E h => ?_) (fun cdv A outer s H vs Q E hr h => ?_)
  · obtain ⟨e, ed, rfl, _⟩ := h
    rfl
  · refine ⟨_, (pss_cons (ps_if (PW.pt (pw_or (pt_cmpR op_eq (pe_ix ix_tup (pv 0) pe_int (fun _ _ => rfl)) pe_str (nomark _)) (pw_or1 (pt_cmpR op_eq (pe_ix ix_tup (pv 0) pe_int (fun _ _ => rfl)) pe_str (nomark _)))))
      (pss_one (ps_ret (pe_ix ix_tup (pv 0) pe_int (fun _ _ => rfl))))
      pss_nil)
      (pss_cons (ps_if (pt_cmpR op_eq (pe_ix ix_tup (pv 0) pe_int (fun _ _ => rfl)) pe_str (nomark _))
      (pss_one (ps_ret (pe_ix ix_tup (pv 0) pe_int (fun _ _ => rfl))))
      pss_nil)
      (pss_one (ps_ret pe_str)))), ?_⟩
    obtain ⟨e, ed, rfl, he, q⟩ := h
    cases ed with
    | put t a z =>
      refine ⟨.ref e, rfl, e, _, 0, .str _, rfl, rfl, SqT.of he, rfl, rfl, _, rfl, seq ?_⟩
      exact ⟨.ref e, rfl, e, _, 3, .str z, rfl, rfl, SqT.of he, rfl, q⟩
    | cut t a n =>
      refine ⟨.ref e, rfl, e, _, 0, .str _, rfl, rfl, SqT.of he, rfl, rfl, _, rfl, sne (by decide +kernel) ?_⟩
      refine ⟨.ref e, rfl, e, _, 0, .str _, rfl, rfl, SqT.of he, rfl, rfl, _, rfl, sne (by decide +kernel) ?_⟩
      refine ⟨.ref e, rfl, e, _, 0, .str _, rfl, rfl, SqT.of he, rfl, rfl, _, rfl, sne (by decide +kernel) ?_⟩
      exact q
    | change t a z =>
      refine ⟨.ref e, rfl, e, _, 0, .str _, rfl, rfl, SqT.of he, rfl, rfl, _, rfl, sne (by decide +kernel) ?_⟩
      refine ⟨.ref e, rfl, e, _, 0, .str _, rfl, rfl, SqT.of he, rfl, rfl, _, rfl, seq ?_⟩
      exact ⟨.ref e, rfl, e, _, 3, .str z, rfl, rfl, SqT.of he, rfl, q⟩
    | come z =>
      refine ⟨.ref e, rfl, e, _, 0, .str _, rfl, rfl, SqT.of he, rfl, rfl, _, rfl, sne (by decide +kernel) ?_⟩
      refine ⟨.ref e, rfl, e, _, 0, .str _, rfl, rfl, SqT.of he, rfl, rfl, _, rfl, sne (by decide +kernel) ?_⟩
      refine ⟨.ref e, rfl, e, _, 0, .str _, rfl, rfl, SqT.of he, rfl, rfl, _, rfl, seq ?_⟩
      exact ⟨.ref e, rfl, e, _, 1, .str z, rfl, rfl, SqT.of he, rfl, q⟩
    | go =>
      refine ⟨.ref e, rfl, e, _, 0, .str _, rfl, rfl, SqT.of he, rfl, rfl, _, rfl, sne (by decide +kernel) ?_⟩
      refine ⟨.ref e, rfl, e, _, 0, .str _, rfl, rfl, SqT.of he, rfl, rfl, _, rfl, sne (by decide +kernel) ?_⟩
      refine ⟨.ref e, rfl, e, _, 0, .str _, rfl, rfl, SqT.of he, rfl, rfl, _, rfl, sne (by decide +kernel) ?_⟩
      exact q
    | split t a =>
      refine ⟨.ref e, rfl, e, _, 0, .str _, rfl, rfl, SqT.of he, rfl, rfl, _, rfl, sne (by decide +kernel) ?_⟩
      refine ⟨.ref e, rfl, e, _, 0, .str _, rfl, rfl, SqT.of he, rfl, rfl, _, rfl, sne (by decide +kernel) ?_⟩
      refine ⟨.ref e, rfl, e, _, 0, .str _, rfl, rfl, SqT.of he, rfl, rfl, _, rfl, sne (by decide +kernel) ?_⟩
      exact q
    | join t u =>
      refine ⟨.ref e, rfl, e, _, 0, .str _, rfl, rfl, SqT.of he, rfl, rfl, _, rfl, sne (by decide +kernel) ?_⟩
      refine ⟨.ref e, rfl, e, _, 0, .str _, rfl, rfl, SqT.of he, rfl, rfl, _, rfl, sne (by decide +kernel) ?_⟩
      refine ⟨.ref e, rfl, e, _, 0, .str _, rfl, rfl, SqT.of he, rfl, rfl, _, rfl, sne (by decide +kernel) ?_⟩
      exact q
    | move t a n u p =>
      refine ⟨.ref e, rfl, e, _, 0, .str _, rfl, rfl, SqT.of he, rfl, rfl, _, rfl, sne (by decide +kernel) ?_⟩
      refine ⟨.ref e, rfl, e, _, 0, .str _, rfl, rfl, SqT.of he, rfl, rfl, _, rfl, sne (by decide +kernel) ?_⟩
      refine ⟨.ref e, rfl, e, _, 0, .str _, rfl, rfl, SqT.of he, rfl, rfl, _, rfl, sne (by decide +kernel) ?_⟩
      exact q
abbrev sEdited : Stmt := topS 62
theorem scEdited : FnScope ["texts", "edit", "row"] ["texts", "edit"] (defScope sEdited) := ⟨rfl, rfl, rfl, by decide +kernel, rfl, by decide +kernel, by decide +kernel⟩
theorem ok_Edited {f : Addr} {fd : FuncData} (F : Fun K "_law_edited" "_law_edited" sEdited f fd) {fAfter : Addr} {fdAfter : FuncData} (DAfter : Dk P w K mg base "_law_after" sAfter ["rows", "edit", "fresh"] 1 spAfter fAfter fdAfter) {fFresh : Addr} {fdFresh : FuncData} (DFresh : Dk P w K mg base "_law_fresh" sFresh ["edit"] 1 spFresh fFresh fdFresh) (T : Glob mg) : FnOk P w K mg base CX0 2 f fd ["texts", "edit"] spEdited := by
  refine F.ok scEdited (fun vs H Q E h => ?_) (fun cdv A outer s H vs Q E hr h => ?_)
  · obtain ⟨a, e, ts, us, ed, rfl, _⟩ := h
    rfl
  · refine ⟨_, (pss_one (ps_ret (pe_callTy call_tuple_of (by rfl) T.tuple (by decide +kernel) (pa_cons (pe_lc (own := [("row", 2)]) (g := gName 2) (te := tJn K (tC (.str (Str.ofString ""))) (tVar 2)) (by rfl) scEdited.nd (pi_list (pe_call DAfter.ok (hr.mono (by decide)) (by rfl) DAfter.g DAfter.F.kp DAfter.b .nil pass0 (pa_cons (pv 0) (pa_cons (pv 1) (pa_cons (pe_call DFresh.ok (hr.mono (by decide)) (by rfl) DFresh.g DFresh.F.kp DFresh.b .nil pass0 (pa_cons (pv 1) pa_nil)) pa_nil))))) (blkOk_by (N := ["texts", "edit", "row"]) (sc := defScope sEdited) (by decide +kernel)) (fun _ _ _ _ _ => pg_name (i := 2) scEdited.nd rfl (.inl rfl)) (fun _ _ _ _ _ => pts_nil) (fun _ _ _ _ _ => (pe_join pe_str (pv 2)))) pa_nil)))), ?_⟩
    obtain ⟨a, e, ts, us, ed, rfl, ha, he, hg, hS, hf, hm, q⟩ := h
    refine ⟨.ref a, rfl, .ref e, rfl, .ref e, rfl, e, ed, rfl, he, a, e, ts, us, ed, rfl, ha, he, hg, hS, hf, hm, fun o H1 no ⟨rs, hD, hrs⟩ k1 => ?_⟩
    have ho := (fits_iff.mp hf).1
    obtain ⟨ln, ll⟩ := mk_len hm ho hg hS
    have nrs : rs.length ≤ 30 := by rw [hrs.len]; exact ln
    refine ⟨o, rfl, ⟨_, sq_of hD⟩, fun D nD => lc_list (xs := rs.map V.ref) (fun i H2 => Same H1 H2 ∧ H2 D = some (.lst ((us.take i).map V.str))) ⟨Same.new nD, upd_same⟩ (fun i H2 hi g => sq_of (g.1 _ _ hD)) ?_ ?_⟩
    · rintro i x H2 hx ⟨k2, h2⟩
      rw [List.getElem?_map] at hx
      obtain ⟨r, hr, rfl⟩ := Option.map_eq_some_iff.mp hx
      have li : i < us.length := by rw [← hrs.len]; exact (List.getElem?_eq_some_iff.mp hr).1
      have hu := List.getElem?_eq_getElem li
      obtain ⟨nr, hc⟩ := hrs.at_ i r _ hr hu
      have lu := ll _ (List.getElem_mem li)
      generalize us[i] = u at hu hc lu
      refine ⟨rfl, ⟨_, rfl⟩, .ref r, rfl, _, r, u.cps.toList.map fun c => (⟨#[c]⟩ : Str), rfl, rfl, .inl (sq_of (by rw [List.map_map]; exact k2 _ _ hc)), ?_, ?_⟩
      · rw [sum_ones, lenE, ← len_S]
        omega
      · rw [join_chars]
        refine ⟨_, h2, by rw [List.length_map, List.length_take]; show _ < 16777216; omega, sameAt k2 nD, ?_⟩
        rw [upd_same, List.take_succ, hu, List.map_append]
        rfl
    · rintro H2 ⟨k2, h2⟩
      rw [List.length_map, hrs.len, List.take_length] at h2
      refine ⟨D, _, rfl, .inl ⟨sq_of h2, fun p np => ?_⟩⟩
      refine q p _ ?_ upd_same ((k1.trans k2).trans (Same.new np))
      cases z : H p with
      | none => rfl
      | some ob => rw [(k1.trans k2) _ _ z] at np; cases np
end
end LawK
set_option maxHeartbeats 4000000
namespace LawK
open PySem PySem.Spec PyProof.Rows L2 Ev
def FitsO (ts : List Str) (o : Option (List V)) : Prop := ∃ e : Ed, o = some e.vals ∧ e.fits ts
theorem FitsO.form {ts : List Str} {o : Option (List V)} (h : FitsO ts o) : HasForm o := let ⟨e, h1, h2⟩ := h; ⟨e, h1, (fits_iff.mp h2).1⟩
theorem is_put {e : Ed} (h : e.word = Str.ofString "put") : ∃ (t a : Int) (z : Str), e = .put t a z := by
  cases e <;> dsimp only [Ed.word] at h <;> first | exact ⟨_, _, _, rfl⟩ | exact absurd h (by decide +kernel)
theorem fo_put {ts : List Str} {ps : List V} (h : FitsO ts (some (.str (Str.ofString "put") :: ps))) : ∃ (t a : Int) (z : Str), ps = [.int t, .int a, .str z] ∧ (Ed.put t a z).fits ts := by
  obtain ⟨e, he, hf⟩ := h
  rw [e.vals_eq] at he
  injection he with he
  injection he with h1 h2
  injection h1 with h1
  obtain ⟨t, a, z, rfl⟩ := is_put h1.symm
  exact ⟨_, _, _, h2, hf⟩
theorem is_cut {e : Ed} (h : e.word = Str.ofString "cut") : ∃ (t a n : Int), e = .cut t a n := by
  cases e <;> dsimp only [Ed.word] at h <;> first | exact ⟨_, _, _, rfl⟩ | exact absurd h (by decide +kernel)
theorem fo_cut {ts : List Str} {ps : List V} (h : FitsO ts (some (.str (Str.ofString "cut") :: ps))) : ∃ (t a n : Int), ps = [.int t, .int a, .int n] ∧ (Ed.cut t a n).fits ts := by
  obtain ⟨e, he, hf⟩ := h
  rw [e.vals_eq] at he
  injection he with he
  injection he with h1 h2
  injection h1 with h1
  obtain ⟨t, a, n, rfl⟩ := is_cut h1.symm
  exact ⟨_, _, _, h2, hf⟩
theorem is_change {e : Ed} (h : e.word = Str.ofString "change") : ∃ (t a : Int) (z : Str), e = .change t a z := by
  cases e <;> dsimp only [Ed.word] at h <;> first | exact ⟨_, _, _, rfl⟩ | exact absurd h (by decide +kernel)
theorem fo_change {ts : List Str} {ps : List V} (h : FitsO ts (some (.str (Str.ofString "change") :: ps))) : ∃ (t a : Int) (z : Str), ps = [.int t, .int a, .str z] ∧ (Ed.change t a z).fits ts := by
  obtain ⟨e, he, hf⟩ := h
  rw [e.vals_eq] at he
  injection he with he
  injection he with h1 h2
  injection h1 with h1
  obtain ⟨t, a, z, rfl⟩ := is_change h1.symm
  exact ⟨_, _, _, h2, hf⟩
theorem is_come {e : Ed} (h : e.word = Str.ofString "come") : ∃ (z : Str), e = .come z := by
  cases e <;> dsimp only [Ed.word] at h <;> first | exact ⟨_, rfl⟩ | exact absurd h (by decide +kernel)
theorem fo_come {ts : List Str} {ps : List V} (h : FitsO ts (some (.str (Str.ofString "come") :: ps))) : ∃ (z : Str), ps = [.str z] ∧ (Ed.come z).fits ts := by
  obtain ⟨e, he, hf⟩ := h
  rw [e.vals_eq] at he
  injection he with he
  injection he with h1 h2
  injection h1 with h1
  obtain ⟨z, rfl⟩ := is_come h1.symm
  exact ⟨_, h2, hf⟩
theorem is_go {e : Ed} (h : e.word = Str.ofString "go") : e = .go := by
  cases e <;> dsimp only [Ed.word] at h <;> first | exact rfl | exact absurd h (by decide +kernel)
theorem fo_go {ts : List Str} {ps : List V} (h : FitsO ts (some (.str (Str.ofString "go") :: ps))) : ps = [] ∧ (Ed.go).fits ts := by
  obtain ⟨e, he, hf⟩ := h
  rw [e.vals_eq] at he
  injection he with he
  injection he with h1 h2
  injection h1 with h1
  obtain rfl := is_go h1.symm
  exact ⟨h2, hf⟩
theorem is_split {e : Ed} (h : e.word = Str.ofString "split") : ∃ (t a : Int), e = .split t a := by
  cases e <;> dsimp only [Ed.word] at h <;> first | exact ⟨_, _, rfl⟩ | exact absurd h (by decide +kernel)
theorem fo_split {ts : List Str} {ps : List V} (h : FitsO ts (some (.str (Str.ofString "split") :: ps))) : ∃ (t a : Int), ps = [.int t, .int a] ∧ (Ed.split t a).fits ts := by
  obtain ⟨e, he, hf⟩ := h
  rw [e.vals_eq] at he
  injection he with he
  injection he with h1 h2
  injection h1 with h1
  obtain ⟨t, a, rfl⟩ := is_split h1.symm
  exact ⟨_, _, h2, hf⟩
theorem is_join {e : Ed} (h : e.word = Str.ofString "join") : ∃ (t u : Int), e = .join t u := by
  cases e <;> dsimp only [Ed.word] at h <;> first | exact ⟨_, _, rfl⟩ | exact absurd h (by decide +kernel)
theorem fo_join {ts : List Str} {ps : List V} (h : FitsO ts (some (.str (Str.ofString "join") :: ps))) : ∃ (t u : Int), ps = [.int t, .int u] ∧ (Ed.join t u).fits ts := by
  obtain ⟨e, he, hf⟩ := h
  rw [e.vals_eq] at he
  injection he with he
  injection he with h1 h2
  injection h1 with h1
  obtain ⟨t, u, rfl⟩ := is_join h1.symm
  exact ⟨_, _, h2, hf⟩
theorem is_move {e : Ed} (h : e.word = Str.ofString "move") : ∃ (t a n u p : Int), e = .move t a n u p := by
  cases e <;> dsimp only [Ed.word] at h <;> first | exact ⟨_, _, _, _, _, rfl⟩ | exact absurd h (by decide +kernel)
theorem fo_move {ts : List Str} {ps : List V} (h : FitsO ts (some (.str (Str.ofString "move") :: ps))) : ∃ (t a n u p : Int), ps = [.int t, .int a, .int n, .int u, .int p] ∧ (Ed.move t a n u p).fits ts := by
  obtain ⟨e, he, hf⟩ := h
  rw [e.vals_eq] at he
  injection he with he
  injection he with h1 h2
  injection h1 with h1
  obtain ⟨t, a, n, u, p, rfl⟩ := is_move h1.symm
  exact ⟨_, _, _, _, _, h2, hf⟩
theorem inV_int {a b i : Int} : inV2 a b (.int i) = true ↔ a ≤ i ∧ i ≤ b := by
  show (decide (a ≤ i) && decide (i ≤ b)) = true ↔ _
  rw [Bool.and_eq_true, decide_eq_true_iff, decide_eq_true_iff]
theorem stretch_iff {ts : List Str} {A B M : V} : stretchV ts A B M = true ↔ ∃ t a n : Int, A = .int t ∧ B = .int a ∧ M = .int n ∧ 0 ≤ t ∧ t < ts.length ∧ 0 ≤ a ∧ 1 ≤ n ∧ a + n ≤ (mText ts t).length := by
  constructor
  · intro h
    unfold stretchV at h
    obtain ⟨h1, h2⟩ := Bool.and_eq_true_iff.mp h
    obtain ⟨t, rfl, t0, t1⟩ := in_int h1
    obtain ⟨h3, h4⟩ := Bool.and_eq_true_iff.mp h2
    obtain ⟨a, rfl, a0, a1⟩ := in_int h3
    obtain ⟨n, rfl, n0, n1⟩ := in_int h4
    exact ⟨t, a, n, rfl, rfl, rfl, t0, by omega, a0, n0, by omega⟩
  · rintro ⟨t, a, n, rfl, rfl, rfl, t0, t1, a0, n0, n1⟩
    unfold stretchV
    rw [inV_int.mpr ⟨t0, by omega⟩, Bool.true_and]
    show (inV2 0 ((mText ts t).length - 1) (.int a) && inV2 1 ((mText ts t).length - a) (.int n)) = true
    rw [inV_int.mpr ⟨a0, by omega⟩, inV_int.mpr ⟨n0, by omega⟩]
    rfl
def spEditForm : Sp := fun vs H Q _ => ∃ (b : Addr) (x : V) (o : Option (List V)) (ts : List Str), vs = [.ref b, x] ∧ H b = some (.tup (ts.map V.str)) ∧ Good ts ∧ Tg H x o ∧ Shr o ∧ ∀ c H', (c = true ↔ FitsO ts o) → Same H H' → Q (.bl c) H'
def spEditRight : Sp := fun vs H Q _ => ∃ (b : Addr) (x : V) (o : Option (List V)) (ts : List Str), vs = [.ref b, x] ∧ H b = some (.tup (ts.map V.str)) ∧ Good ts ∧ Tg H x o ∧ Shr o ∧ ∀ c H', (c = true ↔ ∃ us, Right ts o us) → Same H H' → Q (.bl c) H'
theorem eqv_yes {z v : Str} {n m : Int} (h : z = v ∧ n = m) {A B : Prop} (k : A) : if PyData.eqv (.tuple [.str z, .int n]) (.tuple [.str v, .int m]) = true then A else B := by
  have e : PyData.eqv (.tuple [.str z, .int n]) (.tuple [.str v, .int m]) = (z == v && (n == m && true)) := rfl
  rw [e, h.1, h.2, beq_self_eq_true, beq_self_eq_true]
  exact iteT k
theorem eqv_false {z v : Str} {n m : Int} (h : ¬ (z = v ∧ n = m)) : PyData.eqv (.tuple [.str z, .int n]) (.tuple [.str v, .int m]) = false := by
  have e : PyData.eqv (.tuple [.str z, .int n]) (.tuple [.str v, .int m]) = (z == v && (n == m && true)) := rfl
  rw [e]
  cases q : (z == v && (n == m && true)) with
  | false => rfl
  | true =>
    obtain ⟨q1, q2⟩ := Bool.and_eq_true_iff.mp q
    rw [Bool.and_true] at q2
    exact absurd ⟨eq_of_beq q1, eq_of_beq q2⟩ h
theorem eqv_no {z v : Str} {n m : Int} (h : ¬ (z = v ∧ n = m)) {A B : Prop} (k : B) : if PyData.eqv (.tuple [.str z, .int n]) (.tuple [.str v, .int m]) = true then A else B := by
  rw [eqv_false h]
  exact iteF k
theorem sh_pair {z : Str} {n : Int} (h : PyData.strOk z = true) : SeqAt.shaped (.tuple [.str z, .int n]) = true := by
  show ((PyData.strOk z && (true && true)) && decide (PyData.depth (.tuple [.str z, .int n]) ≤ 64)) = true
  rw [h]
  rfl
theorem dp_pair {K : PySem.W.Frag} {H : Hp} {z : Str} {n : Int} : DpAll K H [.str z, .int n] [.str z, .int n] := .cons (.str z) (.cons (.int n) .nil)
section
variable {P : Program} {w : World} {K : PySem.W.Frag} {mg : Str → Option Value} {base : Heap}
abbrev sEditForm : Stmt := topS 64
theorem scEditForm : FnScope ["texts", "thing", "form"] ["texts", "thing"] (defScope sEditForm) := ⟨rfl, rfl, rfl, by decide +kernel, rfl, by decide +kernel, by decide +kernel⟩
theorem ok_EditForm {f : Addr} {fd : FuncData} (F : Fun K "_law_edit_form" "_law_edit_form" sEditForm f fd) {fIsWithin : Addr} {fdIsWithin : FuncData} (DIsWithin : Dk P w K mg base "_law_is_within" sIsWithin ["thing", "least", "most"] 2 spIn fIsWithin fdIsWithin) {fAreSigns : Addr} {fdAreSigns : FuncData} (DAreSigns : Dk P w K mg base "_law_are_signs" sAreSigns ["thing"] 1 spSg fAreSigns fdAreSigns) {fIsWord : Addr} {fdIsWord : FuncData} (DIsWord : Dk P w K mg base "_law_is_word" sIsWord ["thing"] 2 spWd fIsWord fdIsWord) {fIsStretch : Addr} {fdIsStretch : FuncData} (DIsStretch : Dk P w K mg base "_law_is_stretch" sIsStretch ["texts", "text", "at", "many"] 3 spStretch fIsStretch fdIsStretch) (T : Glob mg) : FnOk P w K mg base CX0 4 f fd ["texts", "thing"] spEditForm := by
  refine F.ok scEditForm (fun vs H Q E h => ?_) (fun cdv A outer s H vs Q E hr h => ?_)
  · obtain ⟨b, x, o, ts, rfl, _⟩ := h
    rfl
  · refine ⟨_, (pss_cons (ps_if (PW.pt (pw_or (pt_not (pt_val (pe_callB call_isi (by rfl) T.isinstance PyProof.Rows.boot_isinstance (pa_cons (pv 1) (pa_cons (pe_bltn (v := .ty "tuple") (by rfl) T.tuple (by decide +kernel) rfl) pa_nil))))) (pw_or (pt_cmpR op_eq (pe_callB call_len_seq (by rfl) T.len PySem.boot_len (pa_cons (pv 1) pa_nil)) pe_int (nomark _)) (pw_or1 (pt_not (pt_val (pe_callB call_isi (by rfl) T.isinstance PyProof.Rows.boot_isinstance (pa_cons (pe_ix ix_tup (pv 1) pe_int (fun _ _ => rfl)) (pa_cons (pe_bltn (v := .ty "str") (by rfl) T.str (by decide +kernel) rfl) pa_nil)))))))))
      (pss_one (ps_ret pe_bl))
      pss_nil)
      (pss_cons (ps_set (i := 2) scEditForm.nd rfl (.inl rfl) (pe_tup (pa_cons (pe_ix ix_tup (pv 1) pe_int (fun _ _ => rfl)) (pa_cons (pe_callB call_len_seq (by rfl) T.len PySem.boot_len (pa_cons (pv 1) pa_nil)) pa_nil))))
      (pss_cons (ps_if (pt_cmpR (op_eqD hr.units) (pv 2) (pe_tup (pa_cons pe_str (pa_cons pe_int pa_nil))) (nomark _))
      (pss_cons (ps_if (PW.pt (pw_or (pt_not (pt_val (pe_call DIsWithin.ok (hr.mono (by decide)) (by rfl) DIsWithin.g DIsWithin.F.kp DIsWithin.b .nil pass0 (pa_cons (pe_ix ix_tup (pv 1) pe_int (fun _ _ => rfl)) (pa_cons pe_int (pa_cons (pe_op op_sub (pe_callB call_len_seq (by rfl) T.len PySem.boot_len (pa_cons (pv 0) pa_nil)) pe_int) pa_nil)))))) (pw_or1 (pt_not (pt_val (pe_call DIsWord.ok (hr.mono (by decide)) (by rfl) DIsWord.g DIsWord.F.kp DIsWord.b .nil pass0 (pa_cons (pe_ix ix_tup (pv 1) pe_int (fun _ _ => rfl)) pa_nil)))))))
        (pss_one (ps_ret pe_bl))
        pss_nil)
        (pss_one (ps_ret (pe_call DIsWithin.ok (hr.mono (by decide)) (by rfl) DIsWithin.g DIsWithin.F.kp DIsWithin.b .nil pass0 (pa_cons (pe_ix ix_tup (pv 1) pe_int (fun _ _ => rfl)) (pa_cons pe_int (pa_cons (pe_callB call_lenZ (by rfl) T.len PySem.boot_len (pa_cons (pe_ix ix_tup (pv 0) (pe_ix ix_tup (pv 1) pe_int (fun _ _ => rfl)) (fun _ _ => rfl)) pa_nil)) pa_nil)))))))
      pss_nil)
      (pss_cons (ps_if (pt_cmpR (op_eqD hr.units) (pv 2) (pe_tup (pa_cons pe_str (pa_cons pe_int pa_nil))) (nomark _))
      (pss_one (ps_ret (pe_call DIsStretch.ok (hr.mono (by decide)) (by rfl) DIsStretch.g DIsStretch.F.kp DIsStretch.b .nil pass0 (pa_cons (pv 0) (pa_cons (pe_ix ix_tup (pv 1) pe_int (fun _ _ => rfl)) (pa_cons (pe_ix ix_tup (pv 1) pe_int (fun _ _ => rfl)) (pa_cons (pe_ix ix_tup (pv 1) pe_int (fun _ _ => rfl)) pa_nil)))))))
      pss_nil)
      (pss_cons (ps_if (pt_cmpR (op_eqD hr.units) (pv 2) (pe_tup (pa_cons pe_str (pa_cons pe_int pa_nil))) (nomark _))
      (pss_one (ps_ret (pe_and (pe_call DIsWord.ok (hr.mono (by decide)) (by rfl) DIsWord.g DIsWord.F.kp DIsWord.b .nil pass0 (pa_cons (pe_ix ix_tup (pv 1) pe_int (fun _ _ => rfl)) pa_nil)) (pe_one (pe_call DIsStretch.ok (hr.mono (by decide)) (by rfl) DIsStretch.g DIsStretch.F.kp DIsStretch.b .nil pass0 (pa_cons (pv 0) (pa_cons (pe_ix ix_tup (pv 1) pe_int (fun _ _ => rfl)) (pa_cons (pe_ix ix_tup (pv 1) pe_int (fun _ _ => rfl)) (pa_cons (pe_callB call_lenZ (by rfl) T.len PySem.boot_len (pa_cons (pe_ix ix_tup (pv 1) pe_int (fun _ _ => rfl)) pa_nil)) pa_nil)))))))))
      pss_nil)
      (pss_cons (ps_if (pt_cmpR (op_eqD hr.units) (pv 2) (pe_tup (pa_cons pe_str (pa_cons pe_int pa_nil))) (nomark _))
      (pss_one (ps_ret (pe_call DAreSigns.ok (hr.mono (by decide)) (by rfl) DAreSigns.g DAreSigns.F.kp DAreSigns.b .nil pass0 (pa_cons (pe_ix ix_tup (pv 1) pe_int (fun _ _ => rfl)) pa_nil))))
      pss_nil)
      (pss_cons (ps_if (pt_cmpR (op_eqD hr.units) (pv 2) (pe_tup (pa_cons pe_str (pa_cons pe_int pa_nil))) (nomark _))
      (pss_one (ps_ret (pe_and (pe_cmpR op_gt (pe_callB call_len_seq (by rfl) T.len PySem.boot_len (pa_cons (pv 0) pa_nil)) pe_int (nomark _)) (pe_one (pe_cmpR op_eq (pe_ix ix_tup (pv 0) (pe_un un_neg pe_int) (fun _ _ => rfl)) pe_str (nomark _))))))
      pss_nil)
      (pss_cons (ps_if (pt_cmpR (op_eqD hr.units) (pv 2) (pe_tup (pa_cons pe_str (pa_cons pe_int pa_nil))) (nomark _))
      (pss_cons (ps_if (pt_not (pt_val (pe_call DIsWithin.ok (hr.mono (by decide)) (by rfl) DIsWithin.g DIsWithin.F.kp DIsWithin.b .nil pass0 (pa_cons (pe_ix ix_tup (pv 1) pe_int (fun _ _ => rfl)) (pa_cons pe_int (pa_cons (pe_op op_sub (pe_callB call_len_seq (by rfl) T.len PySem.boot_len (pa_cons (pv 0) pa_nil)) pe_int) pa_nil))))))
        (pss_one (ps_ret pe_bl))
        pss_nil)
        (pss_one (ps_ret (pe_call DIsWithin.ok (hr.mono (by decide)) (by rfl) DIsWithin.g DIsWithin.F.kp DIsWithin.b .nil pass0 (pa_cons (pe_ix ix_tup (pv 1) pe_int (fun _ _ => rfl)) (pa_cons pe_int (pa_cons (pe_callB call_lenZ (by rfl) T.len PySem.boot_len (pa_cons (pe_ix ix_tup (pv 0) (pe_ix ix_tup (pv 1) pe_int (fun _ _ => rfl)) (fun _ _ => rfl)) pa_nil)) pa_nil)))))))
      pss_nil)
      (pss_cons (ps_if (pt_cmpR (op_eqD hr.units) (pv 2) (pe_tup (pa_cons pe_str (pa_cons pe_int pa_nil))) (nomark _))
      (pss_cons (ps_if (PW.pt (pw_or (pt_not (pt_val (pe_call DIsWithin.ok (hr.mono (by decide)) (by rfl) DIsWithin.g DIsWithin.F.kp DIsWithin.b .nil pass0 (pa_cons (pe_ix ix_tup (pv 1) pe_int (fun _ _ => rfl)) (pa_cons pe_int (pa_cons (pe_op op_sub (pe_callB call_len_seq (by rfl) T.len PySem.boot_len (pa_cons (pv 0) pa_nil)) pe_int) pa_nil)))))) (pw_or1 (pt_not (pt_val (pe_call DIsWithin.ok (hr.mono (by decide)) (by rfl) DIsWithin.g DIsWithin.F.kp DIsWithin.b .nil pass0 (pa_cons (pe_ix ix_tup (pv 1) pe_int (fun _ _ => rfl)) (pa_cons pe_int (pa_cons (pe_op op_sub (pe_callB call_len_seq (by rfl) T.len PySem.boot_len (pa_cons (pv 0) pa_nil)) pe_int) pa_nil)))))))))
        (pss_one (ps_ret pe_bl))
        pss_nil)
        (pss_one (ps_ret (pe_cmpR op_ne (pe_ix ix_tup (pv 1) pe_int (fun _ _ => rfl)) (pe_ix ix_tup (pv 1) pe_int (fun _ _ => rfl)) (nomark _)))))
      pss_nil)
      (pss_cons (ps_if (PW.pt (pw_or (pt_cmpR (op_neD hr.units) (pv 2) (pe_tup (pa_cons pe_str (pa_cons pe_int pa_nil))) (nomark _)) (pw_or1 (pt_not (pt_val (pe_call DIsStretch.ok (hr.mono (by decide)) (by rfl) DIsStretch.g DIsStretch.F.kp DIsStretch.b .nil pass0 (pa_cons (pv 0) (pa_cons (pe_ix ix_tup (pv 1) pe_int (fun _ _ => rfl)) (pa_cons (pe_ix ix_tup (pv 1) pe_int (fun _ _ => rfl)) (pa_cons (pe_ix ix_tup (pv 1) pe_int (fun _ _ => rfl)) pa_nil))))))))))
      (pss_one (ps_ret pe_bl))
      pss_nil)
      (pss_cons (ps_if (pt_not (pt_val (pe_call DIsWithin.ok (hr.mono (by decide)) (by rfl) DIsWithin.g DIsWithin.F.kp DIsWithin.b .nil pass0 (pa_cons (pe_ix ix_tup (pv 1) pe_int (fun _ _ => rfl)) (pa_cons pe_int (pa_cons (pe_op op_sub (pe_callB call_len_seq (by rfl) T.len PySem.boot_len (pa_cons (pv 0) pa_nil)) pe_int) pa_nil))))))
      (pss_one (ps_ret pe_bl))
      pss_nil)
      (pss_one (ps_ret (pe_call DIsWithin.ok (hr.mono (by decide)) (by rfl) DIsWithin.g DIsWithin.F.kp DIsWithin.b .nil pass0 (pa_cons (pe_ix ix_tup (pv 1) pe_int (fun _ _ => rfl)) (pa_cons pe_int (pa_cons (pe_op op_sub (pe_callB call_lenZ (by rfl) T.len PySem.boot_len (pa_cons (pe_ix ix_tup (pv 0) (pe_ix ix_tup (pv 1) pe_int (fun _ _ => rfl)) (fun _ _ => rfl)) pa_nil)) (pe_op op_mul (pe_ix ix_tup (pv 1) pe_int (fun _ _ => rfl)) (pe_callTy call_int1 (by rfl) T.int (by decide +kernel) (pa_cons (pe_cmpR op_eq (pe_ix ix_tup (pv 1) pe_int (fun _ _ => rfl)) (pe_ix ix_tup (pv 1) pe_int (fun _ _ => rfl)) (nomark _)) pa_nil)))) pa_nil))))))))))))))))), ?_⟩
    obtain ⟨b, x, o, ts, rfl, hb, hg, hT, hS, q⟩ := h
    cases hT with
    | @no _ k hk n s =>
      exact ⟨x, rfl, x, .ty "tuple", .type (Kn.name k), .type "tuple", false, rfl, .ty _, Kd.tyx hk, kit_no n, _, rfl, iteT (q false H (iff_of_false (by simp) fun h => form_none h.form) (Same.refl H))⟩
    | @tup a xs e nlen hy =>
      refine ⟨.ref a, rfl, .ref a, .ty "tuple", .type (Kn.name .tup), .type "tuple", kitB .tup .tup, rfl, .ty _, Kd.tyx (.tup e), kit_kn .tup .tup, _, rfl, iteF ?_⟩
      refine ⟨.ref a, rfl, a, xs, rfl, .inr (SqT.of e), rfl, _, rfl, ite2 (fun c => ?_) (fun c => ?_)⟩
      · have c' : (xs.length : Int) = 0 := V.int.inj (of_decide_eq_true c)
        obtain rfl : xs = [] := List.length_eq_zero_iff.mp (by omega)
        exact q false H (iff_of_false (by simp) fun h => form_nil h.form) (Same.refl H)
      cases xs with
      | nil => exact absurd rfl c
      | cons y ps =>
        obtain ⟨⟨k, hk⟩, hv⟩ := hy y List.mem_cons_self
        refine ⟨.ref a, rfl, a, _, 0, y, rfl, rfl, SqT.of e, atI_nat (j := 0) rfl, ?_⟩
        refine ⟨y, .ty "str", .type (Kn.name k), .type "str", kitB k .str, rfl, .ty _, Kd.tyx hk, kit_kn k .str, _, rfl, ?_⟩
        refine ite2 (fun d => ?_) (fun d => ?_)
        · refine q false H (iff_of_false (by simp) fun hf => ?_) (Same.refl H)
          obtain ⟨z, rfl⟩ := form_str hf.form
          cases hk
          exact absurd d (by decide)
        have ey : ∃ z, y = .str z := by
          cases hk with
          | str z => exact ⟨z, rfl⟩
          | non => exact absurd rfl d
          | bl b => exact absurd rfl d
          | int i => exact absurd rfl d
          | lst _ => exact absurd rfl d
          | tup _ => exact absurd rfl d
          | dic _ => exact absurd rfl d
        obtain ⟨z, rfl⟩ := ey
        have zk := (hS _ rfl z List.mem_cons_self).2
        refine ⟨.ref a, rfl, a, _, 0, .str z, rfl, rfl, SqT.of e, atI_nat (j := 0) rfl, .ref a, rfl, a, _, rfl, .inr (SqT.of e), by show 2 ≤ sizeLine; decide, fun g ng => ?_⟩
        have k0 := Same.new (o := .tup [V.str z, V.int ((V.str z :: ps).length : Nat)]) ng
        have hgg : upd H g (.tup [V.str z, V.int ((V.str z :: ps).length : Nat)]) g = _ := upd_same
        generalize upd H g (.tup [V.str z, V.int ((V.str z :: ps).length : Nat)]) = H0 at k0 hgg ⊢
        have nl : ((V.str z :: ps).length : Int) = (ps.length : Int) + 1 := by rw [List.length_cons]; rfl
        generalize ((V.str z :: ps).length : Int) = nn at hgg nl ⊢
        refine ⟨.ref g, rfl, by show 2 ≤ sizeLine; decide, fun p1 np1 => ?_⟩
        have k1 := Same.new (o := .tup [V.str (Str.ofString "put"), V.int 4]) np1
        refine ⟨_, _, .tup (SqT.of (k1 _ _ hgg)) dp_pair, .tup (SqT.of upd_same) dp_pair, sh_pair zk, sh_pair (by decide +kernel), _, rfl, ?_⟩
        replace hgg := k1 _ _ hgg
        replace k0 := k0.trans k1
        by_cases c1 : z = Str.ofString "put" ∧ nn = 4
        · refine eqv_yes c1 ?_
          obtain ⟨rfl, hn⟩ := c1
          have kk := k0
          obtain ⟨A, B, C, rfl⟩ := len3 (show ps.length = 3 by omega)
          obtain ⟨⟨kA, hA⟩, vA⟩ := hy A (by simp)
          obtain ⟨⟨kB, hB⟩, vB⟩ := hy B (by simp)
          obtain ⟨⟨kC, hC⟩, vC⟩ := hy C (by simp)
          refine ⟨.ref a, rfl, a, _, 1, A, rfl, rfl, SqT.of (kk _ _ e), rfl, .ref b, rfl, b, _, rfl, .inr (SqT.of (kk _ _ hb)), _, _, rfl, rfl, A, kA, 0, _, rfl, hA.same kk, _, rfl, ?_⟩
          rw [List.length_map]
          refine ite2 (fun d => ?_) (fun d => ?_)
          · have d' : inV2 0 ((ts.length : Int) - 1) A = false := by simpa using d
            refine q false _ (iff_of_false (by simp) fun hF => ?_) kk
            obtain ⟨t, p, z', e1, t0, t1, _⟩ := fo_put hF
            cases e1
            rw [inV_int.mpr ⟨t0, by omega⟩] at d'
            cases d'
          have d' : inV2 0 ((ts.length : Int) - 1) A = true := by simpa using d
          obtain ⟨t, rfl, t0, t1⟩ := in_int d'
          refine ⟨.ref a, rfl, a, _, 3, C, rfl, rfl, SqT.of (kk _ _ e), rfl, C, kC, rfl, hC.same kk, vC, _, rfl, ite2 (fun g1 => ?_) (fun g1 => ?_)⟩
          · have g' : wordV C = false := by simpa using g1
            refine q false _ (iff_of_false (by simp) fun hF => ?_) kk
            obtain ⟨t', p, z', e1, _, _, w0, _⟩ := fo_put hF
            cases e1
            rw [w0] at g'
            cases g'
          have g' : wordV C = true := by simpa using g1
          obtain ⟨z', rfl⟩ := word_str g'
          obtain ⟨et, hm⟩ := text_at t0 (show t < (ts.length : Int) by omega)
          have lt := hg.len hm
          refine ⟨.ref a, rfl, a, _, 2, B, rfl, rfl, SqT.of (kk _ _ e), rfl, .ref b, rfl, .ref a, rfl, a, _, 1, .int t, rfl, rfl, SqT.of (kk _ _ e), rfl, b, _, t, _, rfl, rfl, SqT.of (kk _ _ hb), et, _, rfl, len5 (by omega), B, kB, 0, _, rfl, hB.same kk, ?_⟩
          refine q _ _ ⟨fun hh => ?_, fun hF => ?_⟩ kk
          · obtain ⟨p, rfl, p0, p1⟩ := in_int hh
            exact ⟨.put t p z', rfl, t0, by omega, g', p0, p1⟩
          · obtain ⟨t', p, z'', e1, _, _, _, p0, p1⟩ := fo_put hF
            cases e1
            exact inV_int.mpr ⟨p0, p1⟩
        refine eqv_no c1 ?_
        refine ⟨.ref g, rfl, by show 2 ≤ sizeLine; decide, fun p2 np2 => ?_⟩
        have k2 := Same.new (o := .tup [V.str (Str.ofString "cut"), V.int 4]) np2
        refine ⟨_, _, .tup (SqT.of (k2 _ _ hgg)) dp_pair, .tup (SqT.of upd_same) dp_pair, sh_pair zk, sh_pair (by decide +kernel), _, rfl, ?_⟩
        replace hgg := k2 _ _ hgg
        replace k0 := k0.trans k2
        by_cases c2 : z = Str.ofString "cut" ∧ nn = 4
        · refine eqv_yes c2 ?_
          obtain ⟨rfl, hn⟩ := c2
          have kk := k0
          obtain ⟨A, B, C, rfl⟩ := len3 (show ps.length = 3 by omega)
          obtain ⟨⟨kA, hA⟩, vA⟩ := hy A (by simp)
          obtain ⟨⟨kB, hB⟩, vB⟩ := hy B (by simp)
          obtain ⟨⟨kC, hC⟩, vC⟩ := hy C (by simp)
          refine ⟨.ref b, rfl, .ref a, rfl, a, _, 1, A, rfl, rfl, SqT.of (kk _ _ e), rfl, .ref a, rfl, a, _, 2, B, rfl, rfl, SqT.of (kk _ _ e), rfl, .ref a, rfl, a, _, 3, C, rfl, rfl, SqT.of (kk _ _ e), rfl, b, ts, A, B, C, kA, kB, kC, rfl, kk _ _ hb, by have := hg.few; omega, fun y hy => by have := hg.len hy; omega, hA.same kk, hB.same kk, hC.same kk, ?_⟩
          refine q _ _ (stretch_iff.trans ⟨?_, fun hF => ?_⟩) kk
          · rintro ⟨t, p, n, rfl, rfl, rfl, t0, t1, p0, n0, n1⟩
            exact ⟨.cut t p n, rfl, t0, t1, p0, n0, n1⟩
          · obtain ⟨t, p, n, e1, t0, t1, p0, n0, n1⟩ := fo_cut hF
            cases e1
            exact ⟨t, p, n, rfl, rfl, rfl, t0, t1, p0, n0, n1⟩
        refine eqv_no c2 ?_
        refine ⟨.ref g, rfl, by show 2 ≤ sizeLine; decide, fun p3 np3 => ?_⟩
        have k3 := Same.new (o := .tup [V.str (Str.ofString "change"), V.int 4]) np3
        refine ⟨_, _, .tup (SqT.of (k3 _ _ hgg)) dp_pair, .tup (SqT.of upd_same) dp_pair, sh_pair zk, sh_pair (by decide +kernel), _, rfl, ?_⟩
        replace hgg := k3 _ _ hgg
        replace k0 := k0.trans k3
        by_cases c3 : z = Str.ofString "change" ∧ nn = 4
        · refine eqv_yes c3 ?_
          obtain ⟨rfl, hn⟩ := c3
          have kk := k0
          obtain ⟨A, B, C, rfl⟩ := len3 (show ps.length = 3 by omega)
          obtain ⟨⟨kA, hA⟩, vA⟩ := hy A (by simp)
          obtain ⟨⟨kB, hB⟩, vB⟩ := hy B (by simp)
          obtain ⟨⟨kC, hC⟩, vC⟩ := hy C (by simp)
          refine ⟨.ref a, rfl, a, _, 3, C, rfl, rfl, SqT.of (kk _ _ e), rfl, C, kC, rfl, hC.same kk, vC, _, rfl, ite2 (fun g1 => ?_) (fun g1 => ?_)⟩
          · obtain ⟨z', rfl⟩ := word_str g1
            have lz := vC z' rfl
            refine ⟨.ref b, rfl, .ref a, rfl, a, _, 1, A, rfl, rfl, SqT.of (kk _ _ e), rfl, .ref a, rfl, a, _, 2, B, rfl, rfl, SqT.of (kk _ _ e), rfl, .ref a, rfl, a, _, 3, .str z', rfl, rfl, SqT.of (kk _ _ e), rfl, z', rfl, len5 lz, b, ts, A, B, .int z'.length, kA, kB, .int, rfl, kk _ _ hb, by have := hg.few; omega, fun y hy => by have := hg.len hy; omega, hA.same kk, hB.same kk, .int _, ?_⟩
            refine q _ _ (stretch_iff.trans ⟨?_, fun hF => ?_⟩) kk
            · rintro ⟨t, p, n, rfl, rfl, e3, t0, t1, p0, n0, n1⟩
              cases e3
              exact ⟨.change t p z', rfl, g1, t0, t1, p0, n1⟩
            · obtain ⟨t, p, z'', e1, w0, t0, t1, p0, n1⟩ := fo_change hF
              cases e1
              have w1 := (Bool.and_eq_true_iff.mp (show (sgB z' && decide ((0 : Int) < (z'.length : Int))) = true from g1)).2
              have w2 := of_decide_eq_true w1
              exact ⟨t, p, z'.length, rfl, rfl, rfl, t0, t1, p0, by omega, n1⟩
          · refine q false _ (iff_of_false (by simp) fun hF => ?_) kk
            obtain ⟨t, p, z'', e1, w0, _⟩ := fo_change hF
            cases e1
            exact g1 w0
        refine eqv_no c3 ?_
        refine ⟨.ref g, rfl, by show 2 ≤ sizeLine; decide, fun p4 np4 => ?_⟩
        have k4 := Same.new (o := .tup [V.str (Str.ofString "come"), V.int 2]) np4
        refine ⟨_, _, .tup (SqT.of (k4 _ _ hgg)) dp_pair, .tup (SqT.of upd_same) dp_pair, sh_pair zk, sh_pair (by decide +kernel), _, rfl, ?_⟩
        replace hgg := k4 _ _ hgg
        replace k0 := k0.trans k4
        by_cases c4 : z = Str.ofString "come" ∧ nn = 2
        · refine eqv_yes c4 ?_
          obtain ⟨rfl, hn⟩ := c4
          have kk := k0
          obtain ⟨C, rfl⟩ := len1 (show ps.length = 1 by omega)
          obtain ⟨⟨kC, hC⟩, vC⟩ := hy C (by simp)
          refine ⟨.ref a, rfl, a, _, 1, C, rfl, rfl, SqT.of (kk _ _ e), rfl, C, kC, rfl, hC.same kk, vC, q _ _ ⟨fun hh => ?_, fun hF => ?_⟩ kk⟩
          · obtain ⟨z', rfl⟩ := sg_str hh
            exact ⟨.come z', rfl, hh⟩
          · obtain ⟨z', e1, h1⟩ := fo_come hF
            cases e1
            exact h1
        refine eqv_no c4 ?_
        refine ⟨.ref g, rfl, by show 2 ≤ sizeLine; decide, fun p5 np5 => ?_⟩
        have k5 := Same.new (o := .tup [V.str (Str.ofString "go"), V.int 1]) np5
        refine ⟨_, _, .tup (SqT.of (k5 _ _ hgg)) dp_pair, .tup (SqT.of upd_same) dp_pair, sh_pair zk, sh_pair (by decide +kernel), _, rfl, ?_⟩
        replace hgg := k5 _ _ hgg
        replace k0 := k0.trans k5
        by_cases c5 : z = Str.ofString "go" ∧ nn = 1
        · refine eqv_yes c5 ?_
          obtain ⟨rfl, hn⟩ := c5
          have kk := k0
          obtain rfl := List.length_eq_zero_iff.mp (show ps.length = 0 by omega)
          have tail : ∀ x, ts.getLast? = some x → (FitsO ts (some [.str (Str.ofString "go")]) ↔ x = Str.ofString "") := fun x hx => by
            constructor
            · intro hF
              have h1 : ts.getLast? = some (Str.ofString "") := (fo_go hF).2
              rw [hx] at h1
              exact Option.some.inj h1
            · rintro rfl
              exact ⟨.go, rfl, hx⟩
          refine ⟨.ref b, rfl, b, _, rfl, .inr (SqT.of (kk _ _ hb)), _, _, rfl, rfl, _, rfl, ?_⟩
          rw [List.length_map]
          refine ite2 (fun d => ?_) (fun d => ?_)
          · have d' : 0 < ts.length := by
              have := of_decide_eq_true d
              omega
            obtain ⟨x, hx⟩ : ∃ x, ts.getLast? = some x := ⟨_, List.getLast?_eq_some_getLast (List.ne_nil_of_length_pos d')⟩
            have hix : atI (ts.map V.str) (-1) = some (.str x) := by
              have e1 : ts = ts.dropLast ++ [x] := by
                have h2 := List.dropLast_concat_getLast (List.ne_nil_of_length_pos d')
                rw [List.getLast?_eq_some_getLast (List.ne_nil_of_length_pos d')] at hx
                rw [Option.some.inj hx] at h2
                exact h2.symm
              rw [e1, List.map_append]
              exact atI_last _ _
            refine ⟨.ref b, rfl, 1, rfl, b, _, -1, _, rfl, rfl, SqT.of (kk _ _ hb), hix, rfl, q _ _ (⟨fun hh => (tail x hx).mpr (V.str.inj (of_decide_eq_true hh)), fun hF => decide_eq_true (congrArg V.str ((tail x hx).mp hF))⟩) kk⟩
          · refine q false _ (iff_of_false (by simp) fun hF => ?_) kk
            have h1 : ts.getLast? = some (Str.ofString "") := (fo_go hF).2
            have d' : ts.length = 0 := by
              by_cases h0 : ts.length = 0
              · exact h0
              · exact absurd (decide_eq_true (show (0 : Int) < (ts.length : Int) by omega)) d
            rw [List.length_eq_zero_iff.mp d'] at h1
            cases h1
        refine eqv_no c5 ?_
        refine ⟨.ref g, rfl, by show 2 ≤ sizeLine; decide, fun p6 np6 => ?_⟩
        have k6 := Same.new (o := .tup [V.str (Str.ofString "split"), V.int 3]) np6
        refine ⟨_, _, .tup (SqT.of (k6 _ _ hgg)) dp_pair, .tup (SqT.of upd_same) dp_pair, sh_pair zk, sh_pair (by decide +kernel), _, rfl, ?_⟩
        replace hgg := k6 _ _ hgg
        replace k0 := k0.trans k6
        by_cases c6 : z = Str.ofString "split" ∧ nn = 3
        · refine eqv_yes c6 ?_
          obtain ⟨rfl, hn⟩ := c6
          have kk := k0
          obtain ⟨A, B, rfl⟩ := len2 (show ps.length = 2 by omega)
          obtain ⟨⟨kA, hA⟩, vA⟩ := hy A (by simp)
          obtain ⟨⟨kB, hB⟩, vB⟩ := hy B (by simp)
          refine ⟨.ref a, rfl, a, _, 1, A, rfl, rfl, SqT.of (kk _ _ e), rfl, .ref b, rfl, b, _, rfl, .inr (SqT.of (kk _ _ hb)), _, _, rfl, rfl, A, kA, 0, _, rfl, hA.same kk, _, rfl, ?_⟩
          rw [List.length_map]
          refine ite2 (fun d => ?_) (fun d => ?_)
          · have d' : inV2 0 ((ts.length : Int) - 1) A = false := by simpa using d
            refine q false _ (iff_of_false (by simp) fun hF => ?_) kk
            obtain ⟨t, p, e1, t0, t1, _⟩ := fo_split hF
            cases e1
            rw [inV_int.mpr ⟨t0, by omega⟩] at d'
            cases d'
          have d' : inV2 0 ((ts.length : Int) - 1) A = true := by simpa using d
          obtain ⟨t, rfl, t0, t1⟩ := in_int d'
          obtain ⟨et, hm⟩ := text_at t0 (show t < (ts.length : Int) by omega)
          have lt := hg.len hm
          refine ⟨.ref a, rfl, a, _, 2, B, rfl, rfl, SqT.of (kk _ _ e), rfl, .ref b, rfl, .ref a, rfl, a, _, 1, .int t, rfl, rfl, SqT.of (kk _ _ e), rfl, b, _, t, _, rfl, rfl, SqT.of (kk _ _ hb), et, _, rfl, len5 (by omega), B, kB, 0, _, rfl, hB.same kk, ?_⟩
          refine q _ _ ⟨fun hh => ?_, fun hF => ?_⟩ kk
          · obtain ⟨p, rfl, p0, p1⟩ := in_int hh
            exact ⟨.split t p, rfl, t0, by omega, p0, p1⟩
          · obtain ⟨t', p, e1, _, _, p0, p1⟩ := fo_split hF
            cases e1
            exact inV_int.mpr ⟨p0, p1⟩
        refine eqv_no c6 ?_
        refine ⟨.ref g, rfl, by show 2 ≤ sizeLine; decide, fun p7 np7 => ?_⟩
        have k7 := Same.new (o := .tup [V.str (Str.ofString "join"), V.int 3]) np7
        refine ⟨_, _, .tup (SqT.of (k7 _ _ hgg)) dp_pair, .tup (SqT.of upd_same) dp_pair, sh_pair zk, sh_pair (by decide +kernel), _, rfl, ?_⟩
        replace hgg := k7 _ _ hgg
        replace k0 := k0.trans k7
        by_cases c7 : z = Str.ofString "join" ∧ nn = 3
        · refine eqv_yes c7 ?_
          obtain ⟨rfl, hn⟩ := c7
          have kk := k0
          obtain ⟨A, B, rfl⟩ := len2 (show ps.length = 2 by omega)
          obtain ⟨⟨kA, hA⟩, vA⟩ := hy A (by simp)
          obtain ⟨⟨kB, hB⟩, vB⟩ := hy B (by simp)
          refine ⟨.ref a, rfl, a, _, 1, A, rfl, rfl, SqT.of (kk _ _ e), rfl, .ref b, rfl, b, _, rfl, .inr (SqT.of (kk _ _ hb)), _, _, rfl, rfl, A, kA, 0, _, rfl, hA.same kk, _, rfl, ?_⟩
          rw [List.length_map]
          refine ite2 (fun d => ?_) (fun d => ?_)
          · have d' : inV2 0 ((ts.length : Int) - 1) A = false := by simpa using d
            refine q false _ (iff_of_false (by simp) fun hF => ?_) kk
            obtain ⟨t, p, e1, t0, t1, _⟩ := fo_join hF
            cases e1
            rw [inV_int.mpr ⟨t0, by omega⟩] at d'
            cases d'
          have d' : inV2 0 ((ts.length : Int) - 1) A = true := by simpa using d
          obtain ⟨t, rfl, t0, t1⟩ := in_int d'
          refine ⟨.ref a, rfl, a, _, 2, B, rfl, rfl, SqT.of (kk _ _ e), rfl, .ref b, rfl, b, _, rfl, .inr (SqT.of (kk _ _ hb)), _, _, rfl, rfl, B, kB, 0, _, rfl, hB.same kk, _, rfl, ?_⟩
          rw [List.length_map]
          refine ite2 (fun d2 => ?_) (fun d2 => ?_)
          · have d3 : inV2 0 ((ts.length : Int) - 1) B = false := by simpa using d2
            refine q false _ (iff_of_false (by simp) fun hF => ?_) kk
            obtain ⟨t', p, e1, _, _, u0, u1, _⟩ := fo_join hF
            cases e1
            rw [inV_int.mpr ⟨u0, by omega⟩] at d3
            cases d3
          have d3 : inV2 0 ((ts.length : Int) - 1) B = true := by simpa using d2
          obtain ⟨u, rfl, u0, u1⟩ := in_int d3
          refine ⟨.ref a, rfl, a, _, 1, .int t, rfl, rfl, SqT.of (kk _ _ e), rfl, .ref a, rfl, a, _, 2, .int u, rfl, rfl, SqT.of (kk _ _ e), rfl, rfl, q _ _ ⟨fun hh => ?_, fun hF => ?_⟩ kk⟩
          · refine ⟨.join t u, rfl, t0, by omega, u0, by omega, fun z => ?_⟩
            rw [z] at hh
            simp at hh
          · obtain ⟨t', p, e1, _, _, _, _, ne⟩ := fo_join hF
            cases e1
            rw [decide_eq_false (fun z => ne (V.int.inj z))]
            rfl
        refine eqv_no c7 ?_
        refine ⟨.ref g, rfl, by show 2 ≤ sizeLine; decide, fun p8 np8 => ?_⟩
        have k8 := Same.new (o := .tup [V.str (Str.ofString "move"), V.int 6]) np8
        refine ⟨_, _, .tup (SqT.of (k8 _ _ hgg)) dp_pair, .tup (SqT.of upd_same) dp_pair, sh_pair zk, sh_pair (by decide +kernel), _, rfl, ?_⟩
        replace k0 := k0.trans k8
        have kk := k0
        by_cases c8 : z = Str.ofString "move" ∧ nn = 6
        · have ee : PyData.eqv (.tuple [.str z, .int nn]) (.tuple [.str (Str.ofString "move"), .int 6]) = true := by
            have e : PyData.eqv (.tuple [.str z, .int nn]) (.tuple [.str (Str.ofString "move"), .int 6]) = (z == Str.ofString "move" && (nn == 6 && true)) := rfl
            rw [e, c8.1, c8.2, beq_self_eq_true, beq_self_eq_true]
            rfl
          rw [ee]
          refine iteF ?_
          obtain ⟨rfl, hn⟩ := c8
          obtain ⟨A, B, C, D, E', rfl⟩ := len5' (show ps.length = 5 by omega)
          obtain ⟨⟨kA, hA⟩, vA⟩ := hy A (by simp)
          obtain ⟨⟨kB, hB⟩, vB⟩ := hy B (by simp)
          obtain ⟨⟨kC, hC⟩, vC⟩ := hy C (by simp)
          obtain ⟨⟨kD, hD⟩, vD⟩ := hy D (by simp)
          obtain ⟨⟨kE, hE⟩, vE⟩ := hy E' (by simp)
          refine ⟨.ref b, rfl, .ref a, rfl, a, _, 1, A, rfl, rfl, SqT.of (kk _ _ e), rfl, .ref a, rfl, a, _, 2, B, rfl, rfl, SqT.of (kk _ _ e), rfl, .ref a, rfl, a, _, 3, C, rfl, rfl, SqT.of (kk _ _ e), rfl, b, ts, A, B, C, kA, kB, kC, rfl, kk _ _ hb, by have := hg.few; omega, fun y hy => by have := hg.len hy; omega, hA.same kk, hB.same kk, hC.same kk, _, rfl, ite2 (fun d => ?_) (fun d => ?_)⟩
          · have d' : stretchV ts A B C = false := by simpa using d
            refine q false _ (iff_of_false (by simp) fun hF => ?_) kk
            obtain ⟨t, p, n, u, v, e1, t0, t1, p0, n0, n1, _⟩ := fo_move hF
            cases e1
            rw [stretch_iff.mpr ⟨t, p, n, rfl, rfl, rfl, t0, t1, p0, n0, n1⟩] at d'
            cases d'
          have d' : stretchV ts A B C = true := by simpa using d
          obtain ⟨t, p, n, rfl, rfl, rfl, t0, t1, p0, n0, n1⟩ := stretch_iff.mp d'
          refine ⟨.ref a, rfl, a, _, 4, D, rfl, rfl, SqT.of (kk _ _ e), rfl, .ref b, rfl, b, _, rfl, .inr (SqT.of (kk _ _ hb)), _, _, rfl, rfl, D, kD, 0, _, rfl, hD.same kk, _, rfl, ?_⟩
          rw [List.length_map]
          refine ite2 (fun d2 => ?_) (fun d2 => ?_)
          · have d3 : inV2 0 ((ts.length : Int) - 1) D = false := by simpa using d2
            refine q false _ (iff_of_false (by simp) fun hF => ?_) kk
            obtain ⟨t', p', n', u, v, e1, _, _, _, _, _, u0, u1, _⟩ := fo_move hF
            cases e1
            rw [inV_int.mpr ⟨u0, by omega⟩] at d3
            cases d3
          have d3 : inV2 0 ((ts.length : Int) - 1) D = true := by simpa using d2
          obtain ⟨u, rfl, u0, u1⟩ := in_int d3
          obtain ⟨et, hm⟩ := text_at u0 (show u < (ts.length : Int) by omega)
          have lt := hg.len hm
          refine ⟨.ref a, rfl, a, _, 5, E', rfl, rfl, SqT.of (kk _ _ e), rfl, .ref b, rfl, .ref a, rfl, a, _, 4, .int u, rfl, rfl, SqT.of (kk _ _ e), rfl, b, _, u, _, rfl, rfl, SqT.of (kk _ _ hb), et, _, rfl, len5 (by omega), .ref a, rfl, a, _, 3, .int n, rfl, rfl, SqT.of (kk _ _ e), rfl, .ref a, rfl, a, _, 4, .int u, rfl, rfl, SqT.of (kk _ _ e), rfl, .ref a, rfl, a, _, 1, .int t, rfl, rfl, SqT.of (kk _ _ e), rfl, rfl, .inr ⟨_, rfl, ?_⟩⟩
          have key : (if decide (V.int u = V.int t) = true then (1 : Int) else 0) = if u = t then 1 else 0 := by
            by_cases z : u = t
            · rw [if_pos z, decide_eq_true (congrArg V.int z), if_pos rfl]
            · rw [if_neg z, decide_eq_false (fun w => z (V.int.inj w))]
              rfl
          rw [key]
          have rg : -(2 ^ 64) < (if u = t then (1 : Int) else 0) ∧ (if u = t then (1 : Int) else 0) < 2 ^ 64 := by
            split <;> decide
          refine ⟨_, _, rfl, rfl, .inr rg, _, _, rfl, rfl, E', kE, 0, _, rfl, hE.same kk, ?_⟩
          refine q _ _ ⟨fun hh => ?_, fun hF => ?_⟩ kk
          · obtain ⟨v, rfl, v0, v1⟩ := in_int hh
            exact ⟨.move t p n u v, rfl, t0, t1, p0, n0, n1, u0, by omega, v0, v1⟩
          · obtain ⟨t', p', n', u', v, e1, _, _, _, _, _, _, _, v0, v1⟩ := fo_move hF
            cases e1
            exact inV_int.mpr ⟨v0, v1⟩
        rw [eqv_false c8]
        refine iteT (q false _ (iff_of_false (by simp) fun hF => ?_) kk)
        obtain ⟨ed, he, hf⟩ := hF
        have he' := Option.some.inj he
        have hlen : (ps.length : Int) + 1 = (ed.vals.length : Int) := by rw [← he', List.length_cons]; rfl
        rw [ed.vals_eq] at he'
        injection he' with h1 _
        injection h1 with h1
        cases ed with
        | put t a z' => exact c1 ⟨h1, by rw [nl, hlen]; rfl⟩
        | cut t a n => exact c2 ⟨h1, by rw [nl, hlen]; rfl⟩
        | change t a z' => exact c3 ⟨h1, by rw [nl, hlen]; rfl⟩
        | come z' => exact c4 ⟨h1, by rw [nl, hlen]; rfl⟩
        | go => exact c5 ⟨h1, by rw [nl, hlen]; rfl⟩
        | split t a => exact c6 ⟨h1, by rw [nl, hlen]; rfl⟩
        | join t u => exact c7 ⟨h1, by rw [nl, hlen]; rfl⟩
        | move t a n u p => exact c8 ⟨h1, by rw [nl, hlen]; rfl⟩
end
end LawK
set_option maxHeartbeats 4000000
namespace LawK
open PySem PySem.Spec PyProof.Rows L2 Ev
/-- an edit, drawn -/
def spEdit : Sp := fun vs H Q _ => ∃ (p a : Addr) (ts : List Str) (z : Str), vs = [.ref p, .ref a, .str z] ∧ H a = some (.tup (ts.map V.str)) ∧ Good ts ∧ sgB z = true ∧ 0 < z.length ∧ z.length ≤ 100 ∧ ∃ l, HandL H p l ∧
  ∀ e xs H', H' e = some (.tup xs) → 1 ≤ xs.length → xs.length ≤ 6 → Tg H' (.ref e) (some xs) → Shr (some xs) → HandL H' p l → But p H H' → Q (.ref e) H'
def spSpoilt : Sp := fun vs H Q _ => ∃ (p e : Addr) (xs : List V), vs = [.ref p, .ref e] ∧ H e = some (.tup xs) ∧ 1 ≤ xs.length ∧ xs.length ≤ 6 ∧ Tg H (.ref e) (some xs) ∧ Shr (some xs) ∧ ∃ l, HandL H p l ∧
  ∀ x o H', Tg H' x o → Shr o → HandL H' p l → But p H H' → Q x H'
/-- a number, or a text that is no longer than such may be -/
def Ok1 (x : V) : Prop := (∃ i, x = .int i) ∨ ∃ z, x = .str z ∧ z.length ≤ 2500 ∧ PyData.strOk z = true
theorem tg_new {H : Hp} {xs : List V} {q : Addr} (hq : H q = some (.tup xs)) (n : xs.length ≤ 30) (h : ∀ x ∈ xs, Ok1 x) : Tg H (.ref q) (some xs) ∧ Shr (some xs) := by
  refine ⟨.tup hq n fun y hy => ?_, fun ys e z hz => ?_⟩
  · rcases h y hy with ⟨i, rfl⟩ | ⟨z, rfl, l, _⟩
    · exact ⟨⟨_, .int i⟩, fun z e => by cases e⟩
    · exact ⟨⟨_, .str z⟩, fun w e => by cases e; omega⟩
  · cases e
    rcases h _ hz with ⟨i, e⟩ | ⟨w, e, l, k⟩
    · cases e
    · cases e
      exact ⟨l, k⟩
/-- what may stand in a tuple -/
structure El (H : Hp) (x : V) : Prop where
  kd : ∃ k, Kd H x k
  vs : Vs x
  sh : ∀ z, x = .str z → z.length ≤ 2500 ∧ PyData.strOk z = true
theorem El.but {H H' : Hp} {p l : Addr} {x : V} (h : El H x) (h0 : HandL H p l) (h1 : HandL H' p l) (b : But p H H') : El H' x := ⟨let ⟨k, q⟩ := h.kd; ⟨k, Kd.but q h0 h1 b⟩, h.vs, h.sh⟩
theorem El.same {H H' : Hp} {x : V} (h : El H x) (k : Same H H') : El H' x := ⟨let ⟨j, q⟩ := h.kd; ⟨j, q.same k⟩, h.vs, h.sh⟩
theorem el_int {H : Hp} (i : Int) : El H (.int i) := ⟨⟨_, .int i⟩, (fun z e => by cases e), (fun z e => by cases e)⟩
theorem el_bl {H : Hp} (i : Bool) : El H (.bl i) := ⟨⟨_, .bl i⟩, (fun z e => by cases e), (fun z e => by cases e)⟩
theorem el_non {H : Hp} : El H .non := ⟨⟨_, .non⟩, (fun z e => by cases e), (fun z e => by cases e)⟩
theorem el_dt {H : Hp} {v : V} {d : PyData} (h : Dt H v d) (s : dsm d = true) : El H v := by
  refine ⟨h.kd, fun z e => ?_, fun z e => ?_⟩
  · subst e
    cases h
    have := of_decide_eq_true (Bool.and_eq_true_iff.mp s).1
    omega
  · subst e
    cases h
    have := of_decide_eq_true (Bool.and_eq_true_iff.mp s).1
    exact ⟨by omega, (Bool.and_eq_true_iff.mp s).2⟩
theorem el_dt0 {H : Hp} {v : V} {d : PyData} (h : Dt H v d) (s : dsm0 d = true) : El H v := by
  refine ⟨h.kd, h.vs s, fun z e => ?_⟩
  subst e
  cases h
  have := of_decide_eq_true (Bool.and_eq_true_iff.mp s).1
  exact ⟨by omega, (Bool.and_eq_true_iff.mp s).2⟩
theorem tg_els {H : Hp} {xs : List V} {q : Addr} (hq : H q = some (.tup xs)) (n : xs.length ≤ 30) (h : ∀ x ∈ xs, El H x) : Tg H (.ref q) (some xs) ∧ Shr (some xs) :=
  ⟨.tup hq n fun y hy => ⟨(h y hy).kd, (h y hy).vs⟩, fun ys e z hz => by cases e; exact (h _ hz).sh z rfl⟩
theorem els_tg {H : Hp} {xs : List V} {q : Addr} (h : Tg H (.ref q) (some xs)) (s : Shr (some xs)) : H q = some (.tup xs) ∧ xs.length ≤ 30 ∧ ∀ x ∈ xs, El H x := by
  cases h with
  | tup e n hy => exact ⟨e, n, fun x hx => ⟨(hy x hx).1, (hy x hx).2, fun z ez => s _ rfl z (by rw [← ez]; exact hx)⟩⟩
theorem dt_tg {H : Hp} {v : V} {d : PyData} (h : Dt H v d) (s : dsm d = true) : ∃ o, Tg H v o ∧ Shr o := by
  cases h with
  | non => exact ⟨_, .no .non (by decide) (fun z e => by cases e), (fun _ e => by cases e)⟩
  | bl b => exact ⟨_, .no (.bl b) (by decide) (fun z e => by cases e), (fun _ e => by cases e)⟩
  | int i => exact ⟨_, .no (.int i) (by decide) (fun z e => by cases e), (fun _ e => by cases e)⟩
  | str x => exact ⟨_, .no (.str x) (by decide) (Dt.vs (.str (H := H) x) s), fun _ e => by cases e⟩
  | dic e => exact ⟨_, .no (.dic e) (by decide) (fun z e => by cases e), (fun _ e => by cases e)⟩
  | l0 e n => exact ⟨_, .no (.lst e) (by decide) (fun z e => by cases e), (fun _ e => by cases e)⟩
  | l1 e n _ => exact ⟨_, .no (.lst e) (by decide) (fun z e => by cases e), (fun _ e => by cases e)⟩
  | l2 e n _ _ => exact ⟨_, .no (.lst e) (by decide) (fun z e => by cases e), (fun _ e => by cases e)⟩
  | t0 e =>
    obtain ⟨g1, g2⟩ := tg_els e (by decide) (fun x hx => absurd hx (by simp))
    exact ⟨_, g1, g2⟩
  | @t1 a x d e hx =>
    obtain ⟨g1, g2⟩ := tg_els e (by simp) (fun y hy => by
      rw [List.mem_singleton.mp hy]
      exact el_dt0 hx (List.all_eq_true.mp s d (by simp)))
    exact ⟨_, g1, g2⟩
  | @t2 a x z d1 d2 e hx hz =>
    obtain ⟨g1, g2⟩ := tg_els e (by simp) (fun y hy => by
      rcases List.mem_cons.mp hy with q | q
      · rw [q]
        exact el_dt0 hx (List.all_eq_true.mp s d1 (by simp))
      · rw [List.mem_singleton.mp q]
        exact el_dt0 hz (List.all_eq_true.mp s d2 (by simp)))
    exact ⟨_, g1, g2⟩
theorem ok_i (i : Int) : Ok1 (.int i) := .inl ⟨i, rfl⟩
theorem ok_s {z : Str} (h : sgB z = true) (l : z.length ≤ 2500) : Ok1 (.str z) := .inr ⟨z, rfl, l, strOk_sg h⟩
theorem all1 {a : V} (h : Ok1 a) : ∀ x ∈ [a], Ok1 x := fun x hx => by rw [List.mem_singleton.mp hx]; exact h
theorem allC {a : V} {xs : List V} (h : Ok1 a) (k : ∀ x ∈ xs, Ok1 x) : ∀ x ∈ a :: xs, Ok1 x := fun x hx => by
  rcases List.mem_cons.mp hx with e | e
  · rw [e]; exact h
  · exact k x e
section
variable {P : Program} {w : World} {K : PySem.W.Frag} {mg : Str → Option Value} {base : Heap}
abbrev sEditRight : Stmt := topS 65
theorem scEditRight : FnScope ["texts", "thing"] ["texts", "thing"] (defScope sEditRight) := ⟨rfl, rfl, rfl, by decide +kernel, rfl, by decide +kernel, by decide +kernel⟩
theorem ok_EditRight {f : Addr} {fd : FuncData} (F : Fun K "_law_edit_right" "_law_edit_right" sEditRight f fd) {fBadTexts : Addr} {fdBadTexts : FuncData} (DBadTexts : Dk P w K mg base "_law_bad_texts" sBadTexts ["thing"] 2 spBad fBadTexts fdBadTexts) {fEdited : Addr} {fdEdited : FuncData} (DEdited : Dk P w K mg base "_law_edited" sEdited ["texts", "edit"] 2 spEdited fEdited fdEdited) {fEditForm : Addr} {fdEditForm : FuncData} (DEditForm : Dk P w K mg base "_law_edit_form" sEditForm ["texts", "thing"] 4 spEditForm fEditForm fdEditForm) (T : Glob mg) : FnOk P w K mg base CX0 5 f fd ["texts", "thing"] spEditRight := by
  refine F.ok scEditRight (fun vs H Q E h => ?_) (fun cdv A outer s H vs Q E hr h => ?_)
  · obtain ⟨b, x, o, ts, rfl, _⟩ := h
    rfl
  · refine ⟨_, (pss_one (ps_ret (pe_and (pe_call DEditForm.ok (hr.mono (by decide)) (by rfl) DEditForm.g DEditForm.F.kp DEditForm.b .nil pass0 (pa_cons (pv 0) (pa_cons (pv 1) pa_nil))) (pe_one (pe_cmpR op_isN (pe_call DBadTexts.ok (hr.mono (by decide)) (by rfl) DBadTexts.g DBadTexts.F.kp DBadTexts.b .nil pass0 (pa_cons (pe_call DEdited.ok (hr.mono (by decide)) (by rfl) DEdited.g DEdited.F.kp DEdited.b .nil pass0 (pa_cons (pv 0) (pa_cons (pv 1) pa_nil))) pa_nil)) pe_non (nomark _)))))), ?_⟩
    obtain ⟨b, x, o, ts, rfl, hb, hg, hT, hS, q⟩ := h
    refine ⟨.ref b, rfl, x, rfl, b, x, o, ts, rfl, hb, hg, hT, hS, fun c H1 hc k1 => ⟨c, rfl, ite2 (fun d => ?_) (fun d => ?_)⟩⟩
    · obtain ⟨ed, rfl, hf⟩ := hc.mp d
      obtain ⟨ho, us, hm⟩ := fits_iff.mp hf
      obtain ⟨ln, ll⟩ := mk_len hm ho hg hS
      cases hT.same k1 with
      | @tup a _ ea nlen hy =>
        refine ⟨.ref b, rfl, .ref a, rfl, b, a, ts, us, ed, rfl, k1 _ _ hb, ea, hg, hS, hf, hm, fun r H2 nr hr2 k2 => ?_⟩
        refine ⟨.ref r, some (us.map V.str), rfl, str_tg hr2 ln ll, fun H3 k3 => ⟨rfl, q _ H3 ⟨fun z => ?_, fun z => ?_⟩ ((k1.trans k2).trans k3)⟩⟩
        · exact ⟨us, ed, rfl, ho, hm, Good.of (of_decide_eq_true z)⟩
        · obtain ⟨ws, ed', e1, _, e3, e4⟩ := z
          obtain rfl := vals_inj (Option.some.inj e1)
          rw [hm] at e3
          cases e3
          exact decide_eq_true e4.bad
    · refine q false H1 (iff_of_false (by simp) fun z => d (hc.mpr ?_)) k1
      obtain ⟨us, ed, e1, e2, e3, _⟩ := z
      exact ⟨ed, e1, fits_iff.mpr ⟨e2, us, e3⟩⟩
abbrev sEdit : Stmt := topS 66
theorem scEdit : FnScope ["hand", "texts", "signs", "way", "text", "long", "at", "many", "other", "left"] ["hand", "texts", "signs"] (defScope sEdit) := ⟨rfl, rfl, rfl, by decide +kernel, rfl, by decide +kernel, by decide +kernel⟩
theorem ok_Edit {f : Addr} {fd : FuncData} (F : Fun K "_law_edit" "_law_edit" sEdit f fd) {fTake : Addr} {fdTake : FuncData} (DTake : Dk P w K mg base "_law_take" sTake ["hand", "many"] 1 spTake fTake fdTake) {fWord : Addr} {fdWord : FuncData} (DWord : Dk P w K mg base "_law_word" sWord ["hand", "signs", "least", "most"] 2 spWord fWord fdWord) (T : Glob mg) : FnOk P w K mg base CX0 3 f fd ["hand", "texts", "signs"] spEdit := by
  refine F.ok scEdit (fun vs H Q E h => ?_) (fun cdv A outer s H vs Q E hr h => ?_)
  · obtain ⟨p, a, ts, z, rfl, _⟩ := h
    rfl
  · refine ⟨_, (pss_cons (ps_set (i := 3) scEdit.nd rfl (.inl rfl) (pe_call DTake.ok (hr.mono (by decide)) (by rfl) DTake.g DTake.F.kp DTake.b .nil pass0 (pa_cons (pv 0) (pa_cons pe_int pa_nil))))
      (pss_cons (ps_if (pt_cmpR op_eq (pe_callB call_len_seq (by rfl) T.len PySem.boot_len (pa_cons (pv 1) pa_nil)) pe_int (nomark _))
      (pss_one (ps_ret (pe_tup (pa_cons pe_str (pa_cons (pe_call DWord.ok (hr.mono (by decide)) (by rfl) DWord.g DWord.F.kp DWord.b .nil pass0 (pa_cons (pv 0) (pa_cons (pv 2) (pa_cons pe_int (pa_cons pe_int pa_nil))))) pa_nil)))))
      pss_nil)
      (pss_cons (ps_set (i := 4) scEdit.nd rfl (.inl rfl) (pe_call DTake.ok (hr.mono (by decide)) (by rfl) DTake.g DTake.F.kp DTake.b .nil pass0 (pa_cons (pv 0) (pa_cons (pe_callB call_len_seq (by rfl) T.len PySem.boot_len (pa_cons (pv 1) pa_nil)) pa_nil))))
      (pss_cons (ps_set (i := 5) scEdit.nd rfl (.inl rfl) (pe_callB call_lenZ (by rfl) T.len PySem.boot_len (pa_cons (pe_ix ix_tup (pv 1) (pv 4) (fun _ _ => rfl)) pa_nil)))
      (pss_cons (ps_set (i := 6) scEdit.nd rfl (.inl rfl) (pe_call DTake.ok (hr.mono (by decide)) (by rfl) DTake.g DTake.F.kp DTake.b .nil pass0 (pa_cons (pv 0) (pa_cons (pe_op op_add (pv 5) pe_int) pa_nil))))
      (pss_cons (ps_set (i := 7) scEdit.nd rfl (.inl rfl) (pe_op op_add pe_int (pe_call DTake.ok (hr.mono (by decide)) (by rfl) DTake.g DTake.F.kp DTake.b .nil pass0 (pa_cons (pv 0) (pa_cons (pe_callB (call_max2 rfl) (by rfl) T.max (by decide +kernel) (pa_cons pe_int (pa_cons (pe_callB (call_min2 rfl) (by rfl) T.min (by decide +kernel) (pa_cons pe_int (pa_cons (pe_op op_sub (pv 5) (pv 6)) pa_nil))) pa_nil))) pa_nil)))))
      (pss_cons (ps_set (i := 8) scEdit.nd rfl (.inl rfl) (pe_call DTake.ok (hr.mono (by decide)) (by rfl) DTake.g DTake.F.kp DTake.b .nil pass0 (pa_cons (pv 0) (pa_cons (pe_callB call_len_seq (by rfl) T.len PySem.boot_len (pa_cons (pv 1) pa_nil)) pa_nil))))
      (pss_cons (ps_if (pt_cmpR op_lt (pv 3) pe_int (nomark _))
      (pss_one (ps_ret (pe_tup (pa_cons pe_str (pa_cons (pv 4) (pa_cons (pv 6) (pa_cons (pe_call DWord.ok (hr.mono (by decide)) (by rfl) DWord.g DWord.F.kp DWord.b .nil pass0 (pa_cons (pv 0) (pa_cons (pv 2) (pa_cons pe_int (pa_cons pe_int pa_nil))))) pa_nil)))))))
      pss_nil)
      (pss_cons (ps_if (pt_cmpR op_lt (pv 3) pe_int (nomark _))
      (pss_one (ps_ret (pe_tup (pa_cons pe_str (pa_cons (pv 4) (pa_cons (pv 6) (pa_cons (pv 7) pa_nil)))))))
      pss_nil)
      (pss_cons (ps_if (pt_cmpR op_lt (pv 3) pe_int (nomark _))
      (pss_one (ps_ret (pe_tup (pa_cons pe_str (pa_cons (pv 4) (pa_cons (pv 6) (pa_cons (pe_call DWord.ok (hr.mono (by decide)) (by rfl) DWord.g DWord.F.kp DWord.b .nil pass0 (pa_cons (pv 0) (pa_cons (pv 2) (pa_cons (pv 7) (pa_cons (pv 7) pa_nil))))) pa_nil)))))))
      pss_nil)
      (pss_cons (ps_if (pt_cmpR op_eq (pv 3) pe_int (nomark _))
      (pss_one (ps_ret (pe_tup (pa_cons pe_str (pa_cons (pe_call DWord.ok (hr.mono (by decide)) (by rfl) DWord.g DWord.F.kp DWord.b .nil pass0 (pa_cons (pv 0) (pa_cons (pv 2) (pa_cons pe_int (pa_cons pe_int pa_nil))))) pa_nil)))))
      pss_nil)
      (pss_cons (ps_if (pt_cmpR op_eq (pv 3) pe_int (nomark _))
      (pss_one (ps_ret (pe_tup (pa_cons pe_str pa_nil))))
      pss_nil)
      (pss_cons (ps_if (pt_cmpR op_eq (pv 3) pe_int (nomark _))
      (pss_one (ps_ret (pe_tup (pa_cons pe_str (pa_cons (pv 4) (pa_cons (pv 6) pa_nil))))))
      pss_nil)
      (pss_cons (ps_if (pt_cmpR op_eq (pv 3) pe_int (nomark _))
      (pss_one (ps_ret (pe_tup (pa_cons pe_str (pa_cons (pv 4) (pa_cons (pv 8) pa_nil))))))
      pss_nil)
      (pss_cons (ps_set (i := 9) scEdit.nd rfl (.inl rfl) (pe_op op_sub (pe_callB call_lenZ (by rfl) T.len PySem.boot_len (pa_cons (pe_ix ix_tup (pv 1) (pv 8) (fun _ _ => rfl)) pa_nil)) (pe_op op_mul (pv 7) (pe_callTy call_int1 (by rfl) T.int (by decide +kernel) (pa_cons (pe_cmpR op_eq (pv 8) (pv 4) (nomark _)) pa_nil)))))
      (pss_one (ps_ret (pe_tup (pa_cons pe_str (pa_cons (pv 4) (pa_cons (pv 6) (pa_cons (pv 7) (pa_cons (pv 8) (pa_cons (pe_call DTake.ok (hr.mono (by decide)) (by rfl) DTake.g DTake.F.kp DTake.b .nil pass0 (pa_cons (pv 0) (pa_cons (pe_callB (call_max2 rfl) (by rfl) T.max (by decide +kernel) (pa_cons pe_int (pa_cons (pe_op op_add (pv 9) pe_int) pa_nil))) pa_nil))) pa_nil)))))))))))))))))))))))), ?_⟩
    obtain ⟨p, a, ts, z, rfl, ha, hg, hz, z0, z1, l, hH, q⟩ := h
    have fin : ∀ (xs : List V) (H1 : Hp) (q0 : Addr), H1 q0 = none → 1 ≤ xs.length → xs.length ≤ 6 → HandL H1 p l → But p H H1 → (∀ x ∈ xs, Ok1 x) → Q (.ref q0) (upd H1 q0 (.tup xs)) := fun xs H1 q0 nq n1 n6 h1 b1 ho => by
      obtain ⟨g1, g2⟩ := tg_new (H := upd H1 q0 (.tup xs)) upd_same (by omega) ho
      exact q q0 xs _ upd_same n1 n6 g1 g2 (h1.same (Same.new nq)) (b1.and (Same.new nq))
    have W := fun (w : String) (h : sgB (Str.ofString w) = true) (l : (Str.ofString w).length ≤ 2500) => ok_s h l
    refine ⟨.ref p, rfl, p, 14, rfl, by decide, by decide, l, hH, fun way H1 w0 w1 h1 b1 => ?_⟩
    have a1 := b1 _ _ (tup_ne hH ha) ha
    refine ⟨.ref a, rfl, a, _, rfl, .inr (SqT.of a1), rfl, _, rfl, ite2 (fun c => ?_) (fun c => ?_)⟩
    · refine ⟨.ref p, rfl, .str z, rfl, p, z, 0, 5, rfl, hz, z0, z1, by decide, by decide, by decide, l, h1, fun y H2 hy y0 y1 h2 b2 => ?_⟩
      refine ⟨by show 2 ≤ sizeLine; decide, fun q0 nq => fin _ H2 q0 nq (by simp) (by simp) h2 (b1.trans b2) (allC (W "come" (by decide +kernel) (by decide +kernel)) (all1 (ok_s hy (by omega))))⟩
    have few := hg.few
    have tpos : 0 < ts.length := by
      by_cases h0 : ts.length = 0
      · exact absurd (decide_eq_true (by rw [List.length_map, h0]; rfl)) c
      · omega
    refine ⟨.ref p, rfl, .ref a, rfl, a, _, rfl, .inr (SqT.of a1), p, _, rfl, by rw [List.length_map]; omega, by rw [List.length_map]; omega, l, h1, fun t H2 t0 t1 h2 b2 => ?_⟩
    rw [List.length_map] at t1
    have a2 := b2 _ _ (tup_ne h1 a1) a1
    obtain ⟨et, hm⟩ := text_at t0 t1
    have lt := hg.len hm
    generalize ts.getD t.toNat Str.empty = y at et lt
    refine ⟨.ref a, rfl, .int t, rfl, a, _, t, _, rfl, rfl, SqT.of a2, et, _, rfl, len5 (by omega), ?_⟩
    refine ⟨.ref p, rfl, .int y.length, rfl, _, _, rfl, rfl, p, _, rfl, by omega, by omega, l, h2, fun at_ H3 at0 at1 h3 b3 => ?_⟩
    have a3 := b3 _ _ (tup_ne h2 a2) a2
    refine ⟨.ref p, rfl, .int y.length, rfl, .int at_, rfl, _, _, rfl, rfl, _, _, rfl, _, _, rfl, p, _, rfl, by repeat' split; all_goals omega, by repeat' split; all_goals omega, l, h3, fun m H4 m0 m1 h4 b4 => ⟨_, _, rfl, rfl, ?_⟩⟩
    have m6 : m < 7 := by
      refine Int.lt_of_lt_of_le m1 ?_
      repeat' split
      all_goals omega
    have a4 := b4 _ _ (tup_ne h3 a3) a3
    refine ⟨.ref p, rfl, .ref a, rfl, a, _, rfl, .inr (SqT.of a4), p, _, rfl, by rw [List.length_map]; omega, by rw [List.length_map]; omega, l, h4, fun u H5 u0 u1 h5 b5 => ?_⟩
    rw [List.length_map] at u1
    have a5 := b5 _ _ (tup_ne h4 a4) a4
    have b15 := (((b1.trans b2).trans b3).trans b4).trans b5
    refine ⟨.int way, rfl, _, _, rfl, rfl, _, rfl, ite2 (fun _ => ?_) (fun _ => ?_)⟩
    · refine ⟨.int t, rfl, .int at_, rfl, .ref p, rfl, .str z, rfl, p, z, 1, 4, rfl, hz, z0, z1, by decide, by decide, by decide, l, h5, fun y H6 hy y0 y1 h6 b6 => ?_⟩
      exact ⟨by show 4 ≤ sizeLine; decide, fun q0 nq => fin _ H6 q0 nq (by simp) (by simp) h6 (b15.trans b6) (allC (W "put" (by decide +kernel) (by decide +kernel)) (allC (ok_i _) (allC (ok_i _) (all1 (ok_s hy (by omega))))))⟩
    refine ⟨.int way, rfl, _, _, rfl, rfl, _, rfl, ite2 (fun _ => ?_) (fun _ => ?_)⟩
    · refine ⟨.int t, rfl, .int at_, rfl, .int (1 + m), rfl, by show 4 ≤ sizeLine; decide, fun q0 nq => fin _ H5 q0 nq (by simp) (by simp) h5 b15 (allC (W "cut" (by decide +kernel) (by decide +kernel)) (allC (ok_i _) (allC (ok_i _) (all1 (ok_i _)))))⟩
    refine ⟨.int way, rfl, _, _, rfl, rfl, _, rfl, ite2 (fun _ => ?_) (fun _ => ?_)⟩
    · refine ⟨.int t, rfl, .int at_, rfl, .ref p, rfl, .str z, rfl, .int (1 + m), rfl, .int (1 + m), rfl, p, z, 1 + m, 1 + m, rfl, hz, z0, z1, by omega, by omega, by omega, l, h5, fun y H6 hy y0 y1 h6 b6 => ?_⟩
      exact ⟨by show 4 ≤ sizeLine; decide, fun q0 nq => fin _ H6 q0 nq (by simp) (by simp) h6 (b15.trans b6) (allC (W "change" (by decide +kernel) (by decide +kernel)) (allC (ok_i _) (allC (ok_i _) (all1 (ok_s hy (by omega))))))⟩
    refine ⟨.int way, rfl, rfl, _, rfl, ite2 (fun _ => ?_) (fun _ => ?_)⟩
    · refine ⟨.ref p, rfl, .str z, rfl, p, z, 0, 5, rfl, hz, z0, z1, by decide, by decide, by decide, l, h5, fun y H6 hy y0 y1 h6 b6 => ?_⟩
      exact ⟨by show 2 ≤ sizeLine; decide, fun q0 nq => fin _ H6 q0 nq (by simp) (by simp) h6 (b15.trans b6) (allC (W "come" (by decide +kernel) (by decide +kernel)) (all1 (ok_s hy (by omega))))⟩
    refine ⟨.int way, rfl, rfl, _, rfl, ite2 (fun _ => ?_) (fun _ => ?_)⟩
    · exact ⟨by show 1 ≤ sizeLine; decide, fun q0 nq => fin _ H5 q0 nq (by simp) (by simp) h5 b15 (all1 (W "go" (by decide +kernel) (by decide +kernel)))⟩
    refine ⟨.int way, rfl, rfl, _, rfl, ite2 (fun _ => ?_) (fun _ => ?_)⟩
    · exact ⟨.int t, rfl, .int at_, rfl, by show 3 ≤ sizeLine; decide, fun q0 nq => fin _ H5 q0 nq (by simp) (by simp) h5 b15 (allC (W "split" (by decide +kernel) (by decide +kernel)) (allC (ok_i _) (all1 (ok_i _))))⟩
    refine ⟨.int way, rfl, rfl, _, rfl, ite2 (fun _ => ?_) (fun _ => ?_)⟩
    · exact ⟨.int t, rfl, .int u, rfl, by show 3 ≤ sizeLine; decide, fun q0 nq => fin _ H5 q0 nq (by simp) (by simp) h5 b15 (allC (W "join" (by decide +kernel) (by decide +kernel)) (allC (ok_i _) (all1 (ok_i _))))⟩
    obtain ⟨eu, hmu⟩ := text_at u0 u1
    have lu := hg.len hmu
    generalize ts.getD u.toNat Str.empty = yu at eu lu
    refine ⟨.ref a, rfl, .int u, rfl, a, _, u, _, rfl, rfl, SqT.of a5, eu, _, rfl, len5 (by omega), .int (1 + m), rfl, .int u, rfl, .int t, rfl, rfl, .inr ⟨_, rfl, ?_⟩⟩
    have rg : 0 ≤ (if decide (V.int u = V.int t) = true then (1 : Int) else 0) ∧ (if decide (V.int u = V.int t) = true then (1 : Int) else 0) ≤ 1 := by
      split <;> decide
    generalize (if decide (V.int u = V.int t) = true then (1 : Int) else 0) = ind at rg ⊢
    have pr : 0 ≤ (1 + m) * ind := Int.mul_nonneg (by omega) rg.1
    refine ⟨_, _, rfl, rfl, .inl ⟨by omega, by omega⟩, _, _, rfl, rfl, ?_⟩
    generalize (1 + m) * ind = pm at pr ⊢
    refine ⟨.int t, rfl, .int at_, rfl, .int (1 + m), rfl, .int u, rfl, .ref p, rfl, .int (yu.length - pm), rfl, _, _, rfl, rfl, _, _, rfl, p, _, rfl, by split <;> omega, by split <;> omega, l, h5, fun v H6 v0 v1 h6 b6 => ?_⟩
    exact ⟨by show 6 ≤ sizeLine; decide, fun q0 nq => fin _ H6 q0 nq (by simp) (by simp) h6 (b15.trans b6) (allC (W "move" (by decide +kernel) (by decide +kernel)) (allC (ok_i _) (allC (ok_i _) (allC (ok_i _) (allC (ok_i _) (all1 (ok_i _)))))))⟩
abbrev sSpoiltEdit : Stmt := topS 67
theorem scSpoiltEdit : FnScope ["hand", "edit", "at", "way", "other"] ["hand", "edit"] (defScope sSpoiltEdit) := ⟨rfl, rfl, rfl, by decide +kernel, rfl, by decide +kernel, by decide +kernel⟩
theorem ok_SpoiltEdit {f : Addr} {fd : FuncData} (F : Fun K "_law_spoilt_edit" "_law_spoilt_edit" sSpoiltEdit f fd) {fTake : Addr} {fdTake : FuncData} (DTake : Dk P w K mg base "_law_take" sTake ["hand", "many"] 1 spTake fTake fdTake) {fPick : Addr} {fdPick : FuncData} (DPick : Dk P w K mg base "_law_pick" sPick ["hand", "things"] 2 (spPick K) fPick fdPick) {fIsInteger : Addr} {fdIsInteger : FuncData} (DIsInteger : Dk P w K mg base "_law_is_integer" sIsInteger ["thing"] 1 spInt fIsInteger fdIsInteger) {fOdd : Addr} {fdOdd : FuncData} (DOdd : Dk P w K mg base "_law_odd" sOdd ["hand"] 2 spOdd fOdd fdOdd) (T : Glob mg) : FnOk P w K mg base CX0 3 f fd ["hand", "edit"] spSpoilt := by
  refine F.ok scSpoiltEdit (fun vs H Q E h => ?_) (fun cdv A outer s H vs Q E hr h => ?_)
  · obtain ⟨p, e, xs, rfl, _⟩ := h
    rfl
  · refine ⟨_, (pss_cons (ps_set (i := 2) scSpoiltEdit.nd rfl (.inl rfl) (pe_call DTake.ok (hr.mono (by decide)) (by rfl) DTake.g DTake.F.kp DTake.b .nil pass0 (pa_cons (pv 0) (pa_cons (pe_callB call_len_seq (by rfl) T.len PySem.boot_len (pa_cons (pv 1) pa_nil)) pa_nil))))
      (pss_cons (ps_set (i := 3) scSpoiltEdit.nd rfl (.inl rfl) (pe_call DTake.ok (hr.mono (by decide)) (by rfl) DTake.g DTake.F.kp DTake.b .nil pass0 (pa_cons (pv 0) (pa_cons pe_int pa_nil))))
      (pss_cons (ps_set (i := 4) scSpoiltEdit.nd rfl (.inl rfl) (pe_ix ix_tup (pv 1) (pv 2) (fun _ _ => rfl)))
      (pss_cons (ps_if (pt_cmpR op_eq (pv 3) pe_int (nomark _))
      (pss_one (ps_ret (pe_op op_catM (pe_slice sl_tupM (pv 1) po_none (po_some (pv 2))) (pe_slice sl_tupM (pv 1) (po_some (pe_op op_add (pv 2) pe_int)) po_none))))
      pss_nil)
      (pss_cons (ps_if (pt_cmpR op_eq (pv 3) pe_int (nomark _))
      (pss_one (ps_ret (pe_op op_catM (pv 1) (pe_tup (pa_cons (pe_call DOdd.ok (hr.mono (by decide)) (by rfl) DOdd.g DOdd.F.kp DOdd.b .nil pass0 (pa_cons (pv 0) pa_nil)) pa_nil)))))
      pss_nil)
      (pss_cons (ps_if (pt_cmpR op_eq (pv 3) pe_int (nomark _))
      (pss_one (ps_ret (pe_call DPick.ok (hr.mono (by decide)) (by rfl) DPick.g DPick.F.kp DPick.b .nil pass0 (pa_cons (pv 0) (pa_cons (pe_lst (pa_cons (pe_callTy call_list_of (by rfl) T.list (by decide +kernel) (pa_cons (pv 1) pa_nil)) (pa_cons (pe_call DOdd.ok (hr.mono (by decide)) (by rfl) DOdd.g DOdd.F.kp DOdd.b .nil pass0 (pa_cons (pv 0) pa_nil)) pa_nil))) pa_nil)))))
      pss_nil)
      (pss_cons (ps_if (PW.pt (pw_and (pt_cmpR op_eq (pv 3) pe_int (nomark _)) (pw_and1 (pt_val (pe_call DIsInteger.ok (hr.mono (by decide)) (by rfl) DIsInteger.g DIsInteger.F.kp DIsInteger.b .nil pass0 (pa_cons (pv 4) pa_nil))))))
      (pss_one (ps_ret (pe_op op_catM (pe_op op_catM (pe_slice sl_tupM (pv 1) po_none (po_some (pv 2))) (pe_tup (pa_cons (pe_call DPick.ok (hr.mono (by decide)) (by rfl) DPick.g DPick.F.kp DPick.b .nil pass0 (pa_cons (pv 0) (pa_cons (pe_lst (pa_cons (pe_op op_add (pv 4) pe_int) (pa_cons (pe_op op_sub (pv 4) pe_int) (pa_cons (pe_un un_neg pe_int) (pa_cons pe_bl (pa_cons pe_int (pa_cons pe_non pa_nil))))))) pa_nil))) pa_nil))) (pe_slice sl_tupM (pv 1) (po_some (pe_op op_add (pv 2) pe_int)) po_none))))
      pss_nil)
      (pss_one (ps_ret (pe_op op_catM (pe_op op_catM (pe_slice sl_tupM (pv 1) po_none (po_some (pv 2))) (pe_tup (pa_cons (pe_call DOdd.ok (hr.mono (by decide)) (by rfl) DOdd.g DOdd.F.kp DOdd.b .nil pass0 (pa_cons (pv 0) pa_nil)) pa_nil))) (pe_slice sl_tupM (pv 1) (po_some (pe_op op_add (pv 2) pe_int)) po_none))))))))))), ?_⟩
    obtain ⟨p, e, xs, rfl, he, l1, l2, hT, hS, l, hH, q⟩ := h
    have E0 := (els_tg hT hS).2.2
    have fin : ∀ (zs : List V) (H1 : Hp) (q0 : Addr), H1 q0 = some (.tup zs) → zs.length ≤ 30 → (∀ x ∈ zs, El H1 x) → HandL H1 p l → But p H H1 → Q (.ref q0) H1 := fun zs H1 q0 h0 n ho h1 b1 => by
      obtain ⟨g1, g2⟩ := tg_els h0 n ho
      exact q _ _ H1 g1 g2 h1 b1
    have cl := fun lo hi => cutV_length xs lo hi
    refine ⟨.ref p, rfl, .ref e, rfl, e, _, rfl, .inr (SqT.of he), p, _, rfl, by omega, by omega, l, hH, fun at_ H1 a0 a1 h1 b1 => ?_⟩
    have e1 := b1 _ _ (tup_ne hH he) he
    refine ⟨.ref p, rfl, p, 5, rfl, by decide, by decide, l, h1, fun way H2 w0 w1 h2 b2 => ?_⟩
    have e2 := b2 _ _ (tup_ne h1 e1) e1
    have b12 := b1.trans b2
    have E2 : ∀ x ∈ xs, El H2 x := fun x hx => (E0 x hx).but hH h2 b12
    obtain ⟨y, hy, hym⟩ := atI_in a0 a1
    have cut2 : ∀ (lo hi : Option Int) (H3 : Hp), Same H2 H3 → ∀ x ∈ cutV xs lo hi, El H3 x := fun lo hi H3 k x hx => (E2 x (cutV_mem hx)).same k
    refine ⟨.ref e, rfl, .int at_, rfl, e, _, at_, y, rfl, rfl, SqT.of e2, hy, ?_⟩
    refine ⟨.int way, rfl, rfl, _, rfl, ite2 (fun _ => ?_) (fun _ => ?_)⟩
    · refine ⟨.ref e, rfl, .int at_, rfl, at_, rfl, e, _, rfl, e2, fun c H3 k3 hc => ?_⟩
      refine ⟨.ref e, rfl, .int at_, rfl, _, _, rfl, rfl, at_ + 1, rfl, e, _, rfl, k3 _ _ e2, fun c2 H4 k4 hc2 => ?_⟩
      refine ⟨c, c2, _, _, rfl, rfl, k4 _ _ hc, hc2, by have := cl none (some at_); have := cl (some (at_ + 1)) none; omega, fun r H5 k5 hr5 => ?_⟩
      have kk := (k3.trans k4).trans k5
      refine fin _ H5 r hr5 (by rw [List.length_append]; have := cl none (some at_); have := cl (some (at_ + 1)) none; omega) (fun x hx => ?_) (h2.same kk) (b12.and kk)
      rcases List.mem_append.mp hx with h | h
      · exact cut2 _ _ H5 kk x h
      · exact cut2 _ _ H5 kk x h
    refine ⟨.int way, rfl, rfl, _, rfl, ite2 (fun _ => ?_) (fun _ => ?_)⟩
    · refine ⟨.ref e, rfl, .ref p, rfl, p, rfl, l, h2, fun v d H3 hd sd h3 b3 => ?_⟩
      refine ⟨by show 1 ≤ sizeLine; decide, fun c nc => ?_⟩
      have k3 := Same.new (o := .tup [v]) nc
      have e3 := k3 _ _ (b3 _ _ (tup_ne h2 e2) e2)
      refine ⟨e, c, _, _, rfl, rfl, e3, upd_same, by show _ + 1 ≤ 1000; omega, fun r H5 k5 hr5 => ?_⟩
      have kk := k3.trans k5
      refine fin _ H5 r hr5 (by rw [List.length_append]; show _ + 1 ≤ 30; omega) (fun x hx => ?_) (h3.same kk) ((b12.trans b3).and kk)
      rcases List.mem_append.mp hx with h | h
      · exact ((E2 x h).but h2 h3 b3).same kk
      · rw [List.mem_singleton.mp h]
        exact (el_dt hd sd).same kk
    refine ⟨.int way, rfl, rfl, _, rfl, ite2 (fun _ => ?_) (fun _ => ?_)⟩
    · refine ⟨.ref p, rfl, .ref e, rfl, e, _, rfl, .inr (SqT.of e2), fun m nm => ?_⟩
      have km := Same.new (o := .lst xs) nm
      have hm : upd H2 m (.lst xs) m = some (.lst xs) := upd_same
      have nmp : m ≠ p := (h2.ne nm).1
      refine ⟨.ref p, rfl, p, rfl, l, h2.same km, fun v d H3 hd sd h3 b3 => ?_⟩
      have hm3 := b3 _ _ nmp hm
      refine ⟨by show 2 ≤ sizeLine; decide, fun c nc => ?_⟩
      have kc := Same.new (o := .lst [.ref m, v]) nc
      refine ⟨p, c, _, rfl, sq_of upd_same, (h3.ne nc).1, by simp, by show 2 < 1000000; decide, l, h3.same kc, fun x H4 hx h4 b4 => ?_⟩
      have bb : But p H H4 := (((b12.and km).trans b3).and kc).trans b4
      rcases List.mem_cons.mp hx with h | h
      · rw [h]
        exact q _ none H4 (.no (.lst (b4 _ _ nmp (kc _ _ hm3))) (by decide) fun z ez => by cases ez) (fun _ ez => by cases ez) h4 bb
      · rw [List.mem_singleton.mp h]
        obtain ⟨o, g1, g2⟩ := dt_tg hd sd
        exact q _ o H4 (LawK.Tg.but (g1.same kc) (h3.same kc) h4 b4) g2 h4 bb
    have last : ∀ (v : V) (c : Addr) (H3 H4 : Hp) (Z : VK), But p H2 H3 → HandL H3 p l → El H3 v → H3 c = some (.tup (cutV xs none (some at_))) → Same H3 H4 → (∀ r H5, Same H4 H5 → H5 r = some (.tup (cutV xs none (some at_) ++ [v] ++ cutV xs (some (at_ + 1)) none)) → Q (.ref r) H5) := fun v c H3 H4 Z b3 h3 hv hc k4 r H5 k5 hr5 => by
      have kk := k4.trans k5
      refine fin _ H5 r hr5 (by rw [List.length_append, List.length_append]; have := cl none (some at_); have := cl (some (at_ + 1)) none; show _ + 1 + _ ≤ 30; omega) (fun x hx => ?_) (h3.same kk) ((b12.trans b3).and kk)
      rcases List.mem_append.mp hx with h | h
      · rcases List.mem_append.mp h with h | h
        · exact ((E2 x (cutV_mem h)).but h2 h3 b3).same kk
        · rw [List.mem_singleton.mp h]
          exact hv.same kk
      · exact ((E2 x (cutV_mem h)).but h2 h3 b3).same kk
    refine ⟨.int way, rfl, rfl, _, rfl, ite2 (fun _ => ?_) (fun _ => ?_)⟩
    · obtain ⟨ky, hky⟩ := (E2 y hym).kd
      refine ⟨y, rfl, y, ky, rfl, hky, _, rfl, ite2 (fun g1 => ?_) (fun g1 => ?_)⟩
      · have ei : ∃ i, y = .int i := by
          have g2 := of_decide_eq_true g1
          subst g2
          cases hky with
          | int i => exact ⟨i, rfl⟩
        obtain ⟨i, rfl⟩ := ei
        refine ⟨.ref e, rfl, .int at_, rfl, at_, rfl, e, _, rfl, e2, fun c H3 k3 hc => ?_⟩
        have h3 := h2.same k3
        refine ⟨.ref p, rfl, .int i, rfl, _, _, rfl, rfl, .int i, rfl, _, _, rfl, rfl, 1, rfl, by show 6 ≤ sizeLine; decide, fun m nm => ?_⟩
        have km := Same.new (o := .lst [.int (i + 1), .int (i - 1), .int (-1), .bl true, .int 2000, .non]) nm
        refine ⟨p, m, _, rfl, sq_of upd_same, (h3.ne nm).1, by simp, by show 6 < 1000000; decide, l, h3.same km, fun x H4 hx h4 b4 => ?_⟩
        have ex : El H4 x := by
          simp only [List.mem_cons, List.not_mem_nil, or_false] at hx
          rcases hx with rfl | rfl | rfl | rfl | rfl | rfl
          · exact el_int _
          · exact el_int _
          · exact el_int _
          · exact el_bl _
          · exact el_int _
          · exact el_non
        have hc4 := b4 _ _ (tup_ne (h3.same km) (km _ _ hc)) (km _ _ hc)
        have b24 : But p H2 H4 := (((But.refl p H2).and k3).and km).trans b4
        refine ⟨by show 1 ≤ sizeLine; decide, fun n nn => ?_⟩
        have kn := Same.new (o := .tup [x]) nn
        refine ⟨c, n, _, _, rfl, rfl, kn _ _ hc4, upd_same, by have := cl none (some at_); show _ + 1 ≤ 1000; omega, fun f H5 k5 hf => ?_⟩
        have e5 := (kn.trans k5) _ _ (b24 _ _ (tup_ne h2 e2) e2)
        refine ⟨.ref e, rfl, .int at_, rfl, _, _, rfl, rfl, at_ + 1, rfl, e, _, rfl, e5, fun g H6 k6 hg => ?_⟩
        refine ⟨f, g, _, _, rfl, rfl, k6 _ _ hf, hg, by rw [List.length_append]; have := cl none (some at_); have := cl (some (at_ + 1)) none; show _ + 1 + _ ≤ 1000; omega, last x c H4 H6 Q b24 h4 ex hc4 ((kn.trans k5).trans k6)⟩
      · refine ⟨.ref e, rfl, .int at_, rfl, at_, rfl, e, _, rfl, e2, fun c H3 k3 hc => ?_⟩
        have h3 := h2.same k3
        refine ⟨.ref p, rfl, p, rfl, l, h3, fun x d H4 hd sd h4 b4 => ?_⟩
        have hc4 := b4 _ _ (tup_ne h3 hc) hc
        have b24 : But p H2 H4 := ((But.refl p H2).and k3).trans b4
        refine ⟨by show 1 ≤ sizeLine; decide, fun n nn => ?_⟩
        have kn := Same.new (o := .tup [x]) nn
        refine ⟨c, n, _, _, rfl, rfl, kn _ _ hc4, upd_same, by have := cl none (some at_); show _ + 1 ≤ 1000; omega, fun f H5 k5 hf => ?_⟩
        have e5 := (kn.trans k5) _ _ (b24 _ _ (tup_ne h2 e2) e2)
        refine ⟨.ref e, rfl, .int at_, rfl, _, _, rfl, rfl, at_ + 1, rfl, e, _, rfl, e5, fun g H6 k6 hg => ?_⟩
        exact ⟨f, g, _, _, rfl, rfl, k6 _ _ hf, hg, by rw [List.length_append]; have := cl none (some at_); have := cl (some (at_ + 1)) none; show _ + 1 + _ ≤ 1000; omega, last x c H4 H6 Q b24 h4 (el_dt hd sd) hc4 ((kn.trans k5).trans k6)⟩
    · refine ⟨.ref e, rfl, .int at_, rfl, at_, rfl, e, _, rfl, e2, fun c H3 k3 hc => ?_⟩
      have h3 := h2.same k3
      refine ⟨.ref p, rfl, p, rfl, l, h3, fun x d H4 hd sd h4 b4 => ?_⟩
      have hc4 := b4 _ _ (tup_ne h3 hc) hc
      have b24 : But p H2 H4 := ((But.refl p H2).and k3).trans b4
      refine ⟨by show 1 ≤ sizeLine; decide, fun n nn => ?_⟩
      have kn := Same.new (o := .tup [x]) nn
      refine ⟨c, n, _, _, rfl, rfl, kn _ _ hc4, upd_same, by have := cl none (some at_); show _ + 1 ≤ 1000; omega, fun f H5 k5 hf => ?_⟩
      have e5 := (kn.trans k5) _ _ (b24 _ _ (tup_ne h2 e2) e2)
      refine ⟨.ref e, rfl, .int at_, rfl, _, _, rfl, rfl, at_ + 1, rfl, e, _, rfl, e5, fun g H6 k6 hg => ?_⟩
      exact ⟨f, g, _, _, rfl, rfl, k6 _ _ hf, hg, by rw [List.length_append]; have := cl none (some at_); have := cl (some (at_ + 1)) none; show _ + 1 + _ ≤ 1000; omega, last x c H4 H6 Q b24 h4 (el_dt hd sd) hc4 ((kn.trans k5).trans k6)⟩
end
end LawK
set_option maxHeartbeats 4000000
namespace LawK
open PySem PySem.Spec PyProof.Rows L2 Ev
/-- each of the one to each of the other -/
inductive All2 {α β : Type} (R : α → β → Prop) : List α → List β → Prop
  | nil : All2 R [] []
  | cons {x : α} {y : β} {xs : List α} {ys : List β} (h : R x y) (t : All2 R xs ys) : All2 R (x :: xs) (y :: ys)
theorem All2.imp {α β : Type} {R S : α → β → Prop} {xs : List α} {ys : List β} (f : ∀ x y, R x y → S x y) (h : All2 R xs ys) : All2 S xs ys := by
  induction h with
  | nil => exact .nil
  | cons h _ ih => exact .cons (f _ _ h) ih
theorem All2.len {α β : Type} {R : α → β → Prop} {xs : List α} {ys : List β} (h : All2 R xs ys) : xs.length = ys.length := by
  induction h with
  | nil => rfl
  | cons _ _ ih => exact congrArg (· + 1) ih
theorem All2.at {α β : Type} {R : α → β → Prop} {xs : List α} {ys : List β} (h : All2 R xs ys) : ∀ {i : Nat} {x : α}, xs[i]? = some x → ∃ y, ys[i]? = some y ∧ R x y := by
  induction h with
  | nil => intro i x e; simp at e
  | cons r _ ih =>
    intro i x e
    cases i with
    | zero => cases e; exact ⟨_, rfl, r⟩
    | succ i => exact ih e
theorem All2.snoc {α β : Type} {R : α → β → Prop} {xs : List α} {ys : List β} {x : α} {y : β} (h : All2 R xs ys) (r : R x y) : All2 R (xs ++ [x]) (ys ++ [y]) := by
  induction h with
  | nil => exact .cons r .nil
  | cons r1 _ ih => exact .cons r1 ih
/-- a pair of numbers, or none -/
inductive PrAt (H : Hp) : V → Option (Int × Int) → Prop
  | non : PrAt H .non none
  | pr {b : Addr} {i j : Int} (e : H b = some (.tup [.int i, .int j])) : PrAt H (.ref b) (some (i, j))
theorem PrAt.same {H H' : Hp} (k : Same H H') {v : V} {o : Option (Int × Int)} (h : PrAt H v o) : PrAt H' v o := by
  cases h with
  | non => exact .non
  | pr e => exact .pr (k _ _ e)
/-- many signs, from where, to where -/
structure Step where
  m : Int
  s : Option (Int × Int)
  t : Option (Int × Int)
def StepAt (H : Hp) (v : V) (p : Step) : Prop := ∃ b x y, v = .ref b ∧ H b = some (.tup [.int p.m, x, y]) ∧ PrAt H x p.s ∧ PrAt H y p.t
theorem StepAt.same {H H' : Hp} (k : Same H H') {v : V} {p : Step} (h : StepAt H v p) : StepAt H' v p := by
  obtain ⟨b, x, y, e, h, h1, h2⟩ := h
  exact ⟨b, x, y, e, k _ _ h, h1.same k, h2.same k⟩
def mSteps (ts : List Str) : Ed → List Step
  | .put t a z => [⟨z.length, none, some (t, a)⟩]
  | .cut t a n => [⟨n, some (t, a), none⟩]
  | .change t a z => [⟨z.length, some (t, a), none⟩, ⟨z.length, none, some (t, a)⟩]
  | .come z => [⟨z.length, none, some (ts.length, 0)⟩]
  | .go => []
  | .split t a => [⟨(mText ts t).length - a, some (t, a), some (ts.length, 0)⟩]
  | .join t u => [⟨(mText ts u).length, some (u, 0), some (t, (mText ts t).length)⟩]
  | .move t a n u p => [⟨n, some (t, a), some (u, p)⟩]
def mStepBack (ts : List Str) (p : Step) : Ed := match p.s, p.t with
  | none, none => .go
  | none, some (t, a) => .cut t a p.m
  | some (t, a), none => .put t a (cutS (mText ts t) (some a) (some (a + p.m)))
  | some (t, a), some (u, b) => .move u b p.m t a
def mBack (ts : List Str) : Ed → List Ed
  | .change t a z => [.change t a (cutS (mText ts t) (some a) (some (a + (z.length : Int))))]
  | .go => [.come (Str.ofString "")]
  | ed => ((mSteps ts ed).filter fun p => decide (0 < p.m)).map (mStepBack ts) ++ (match ed with
    | .come _ => [.go]
    | .split _ _ => [.go]
    | _ => [])
def EdAt (H : Hp) (v : V) (e : Ed) : Prop := ∃ b, v = .ref b ∧ H b = some (.tup e.vals)
theorem EdAt.same {H H' : Hp} (k : Same H H') {v : V} {e : Ed} (h : EdAt H v e) : EdAt H' v e := by
  obtain ⟨b, e1, e2⟩ := h
  exact ⟨b, e1, k _ _ e2⟩
def spSteps : Sp := fun vs H Q _ => ∃ (a e : Addr) (ts us : List Str) (ed : Ed), vs = [.ref a, .ref e] ∧ H a = some (.tup (ts.map V.str)) ∧ H e = some (.tup ed.vals) ∧ ts.length ≤ 100 ∧ (∀ t ∈ ts, t.length ≤ 5000) ∧ Shr (some ed.vals) ∧ ed.ok ∧ ed.mk ts = some us ∧
  ∀ l xs H', H l = none → H' l = some (.lst xs) → All2 (StepAt H') xs (mSteps ts ed) → Same H H' → Q (.ref l) H'
/-- a step back has its texts -/
def Step.good (ts : List Str) (p : Step) : Prop := match p.s with
  | none => p.t ≠ none
  | some (t, _) => 0 ≤ t ∧ t < ts.length
def spStepBack : Sp := fun vs H Q _ => ∃ (a : Addr) (ts : List Str) (v : V) (p : Step), vs = [.ref a, v] ∧ H a = some (.tup (ts.map V.str)) ∧ ts.length ≤ 100 ∧ (∀ t ∈ ts, t.length ≤ 5000) ∧ StepAt H v p ∧ p.good ts ∧
  ∀ r H', H' r = some (.tup (mStepBack ts p).vals) → Same H H' → Q (.ref r) H'
theorem mText_at {ts : List Str} {i : Int} (h0 : 0 ≤ i) (h1 : i < ts.length) : atI (ts.map V.str) i = some (.str (mText ts i)) ∧ mText ts i ∈ ts := text_at h0 h1
section
variable {P : Program} {w : World} {K : PySem.W.Frag} {mg : Str → Option Value} {base : Heap}
abbrev sQSteps : Stmt := topS 35
theorem scQSteps : FnScope ["texts", "edit", "word", "_", "text", "other", "place", "at", "many"] ["texts", "edit"] (defScope sQSteps) := ⟨rfl, rfl, rfl, by decide +kernel, rfl, by decide +kernel, by decide +kernel⟩
theorem none_of {H H' : Hp} {a : Addr} (k : Same H H') (n : H' a = none) : H a = none := by
  cases e : H a with
  | none => rfl
  | some u => rw [k _ _ e] at n; cases n
theorem ok_QSteps {f : Addr} {fd : FuncData} (F : Fun K "_steps" "_steps" sQSteps f fd)   (T : Glob mg) : FnOk P w K mg base CX0 1 f fd ["texts", "edit"] spSteps := by
  refine F.ok scQSteps (fun vs H Q E h => ?_) (fun cdv A outer s H vs Q E hr h => ?_)
  · obtain ⟨a, e, ts, us, ed, rfl, _⟩ := h
    rfl
  · refine ⟨_, (pss_cons (ps_set (i := 2) scQSteps.nd rfl (.inl rfl) (pe_ix ix_tup (pv 1) pe_int (fun _ _ => rfl)))
      (pss_cons (ps_if (pt_cmpR op_eq (pv 2) pe_str (nomark _))
      (pss_one (ps_ret (pe_lst pa_nil)))
      pss_nil)
      (pss_cons (ps_if (pt_cmpR op_eq (pv 2) pe_str (nomark _))
      (pss_one (ps_ret (pe_lst (pa_cons (pe_tup (pa_cons (pe_callB call_lenZ (by rfl) T.len PySem.boot_len (pa_cons (pe_ix ix_tup (pv 1) pe_int (fun _ _ => rfl)) pa_nil)) (pa_cons pe_non (pa_cons (pe_tup (pa_cons (pe_callB call_len_seq (by rfl) T.len PySem.boot_len (pa_cons (pv 0) pa_nil)) (pa_cons pe_int pa_nil))) pa_nil)))) pa_nil))))
      pss_nil)
      (pss_cons (ps_if (pt_cmpR op_eq (pv 2) pe_str (nomark _))
      (pss_cons (ps_asg (pv 1) (pg_tup (by rfl) (pgs_cons (pg_name (i := 3) scQSteps.nd rfl (.inl rfl)) (pgs_cons (pg_name (i := 4) scQSteps.nd rfl (.inl rfl)) (pgs_cons (pg_name (i := 5) scQSteps.nd rfl (.inl rfl)) pgs_nil)))))
        (pss_one (ps_ret (pe_lst (pa_cons (pe_tup (pa_cons (pe_callB call_lenZ (by rfl) T.len PySem.boot_len (pa_cons (pe_ix ix_tup (pv 0) (pv 5) (fun _ _ => rfl)) pa_nil)) (pa_cons (pe_tup (pa_cons (pv 5) (pa_cons pe_int pa_nil))) (pa_cons (pe_tup (pa_cons (pv 4) (pa_cons (pe_callB call_lenZ (by rfl) T.len PySem.boot_len (pa_cons (pe_ix ix_tup (pv 0) (pv 4) (fun _ _ => rfl)) pa_nil)) pa_nil))) pa_nil)))) pa_nil)))))
      pss_nil)
      (pss_cons (ps_set (i := 6) scQSteps.nd rfl (.inl rfl) (pe_slice sl_tupM (pv 1) (po_some pe_int) (po_some pe_int)))
      (pss_cons (ps_if (pt_cmpR op_eq (pv 2) pe_str (nomark _))
      (pss_cons (ps_asg (pv 6) (pg_tup (by rfl) (pgs_cons (pg_name (i := 4) scQSteps.nd rfl (.inl rfl)) (pgs_cons (pg_name (i := 7) scQSteps.nd rfl (.inl rfl)) pgs_nil))))
        (pss_one (ps_ret (pe_lst (pa_cons (pe_tup (pa_cons (pe_op op_sub (pe_callB call_lenZ (by rfl) T.len PySem.boot_len (pa_cons (pe_ix ix_tup (pv 0) (pv 4) (fun _ _ => rfl)) pa_nil)) (pv 7)) (pa_cons (pv 6) (pa_cons (pe_tup (pa_cons (pe_callB call_len_seq (by rfl) T.len PySem.boot_len (pa_cons (pv 0) pa_nil)) (pa_cons pe_int pa_nil))) pa_nil)))) pa_nil)))))
      pss_nil)
      (pss_cons (ps_if (pt_cmpR op_eq (pv 2) pe_str (nomark _))
      (pss_one (ps_ret (pe_lst (pa_cons (pe_tup (pa_cons (pe_ix ix_tup (pv 1) pe_int (fun _ _ => rfl)) (pa_cons (pv 6) (pa_cons (pe_slice sl_tupM (pv 1) (po_some pe_int) (po_some pe_int)) pa_nil)))) pa_nil))))
      pss_nil)
      (pss_cons (ps_if (pt_cmpR op_eq (pv 2) pe_str (nomark _))
      (pss_one (ps_ret (pe_lst (pa_cons (pe_tup (pa_cons (pe_ix ix_tup (pv 1) pe_int (fun _ _ => rfl)) (pa_cons (pv 6) (pa_cons pe_non pa_nil)))) pa_nil))))
      pss_nil)
      (pss_cons (ps_if (pt_cmpR op_eq (pv 2) pe_str (nomark _))
      (pss_one (ps_ret (pe_lst (pa_cons (pe_tup (pa_cons (pe_callB call_lenZ (by rfl) T.len PySem.boot_len (pa_cons (pe_ix ix_tup (pv 1) pe_int (fun _ _ => rfl)) pa_nil)) (pa_cons pe_non (pa_cons (pv 6) pa_nil)))) pa_nil))))
      pss_nil)
      (pss_cons (ps_set (i := 8) scQSteps.nd rfl (.inl rfl) (pe_callB call_lenZ (by rfl) T.len PySem.boot_len (pa_cons (pe_ix ix_tup (pv 1) pe_int (fun _ _ => rfl)) pa_nil)))
      (pss_one (ps_ret (pe_lst (pa_cons (pe_tup (pa_cons (pv 8) (pa_cons (pv 6) (pa_cons pe_non pa_nil)))) (pa_cons (pe_tup (pa_cons (pv 8) (pa_cons pe_non (pa_cons (pv 6) pa_nil)))) pa_nil))))))))))))))), ?_⟩
    obtain ⟨a, e, ts, us, ed, rfl, ha, he, few, lens, hS, hok, hm, q⟩ := h
    have s3 : (3 : Nat) ≤ sizeLine := by decide
    have s2 : (2 : Nat) ≤ sizeLine := by decide
    have s1 : (1 : Nat) ≤ sizeLine := by decide
    cases ed with
    | go =>
      refine ⟨.ref e, rfl, e, _, 0, .str _, rfl, rfl, SqT.of he, rfl, ?_⟩
      refine ⟨_, rfl, rfl, _, rfl, seq ?_⟩
      exact ⟨Nat.zero_le _, fun l nl => q l [] _ nl upd_same .nil (Same.new nl)⟩
    | come z =>
      have lz := (hS _ rfl z (by simp [Ed.vals])).1
      refine ⟨.ref e, rfl, e, _, 0, .str _, rfl, rfl, SqT.of he, rfl, ?_⟩
      refine ⟨_, rfl, rfl, _, rfl, sne (by decide +kernel) ?_⟩
      refine ⟨_, rfl, rfl, _, rfl, seq ?_⟩
      refine ⟨.ref e, rfl, e, _, 1, .str z, rfl, rfl, SqT.of he, rfl, z, rfl, len5 (by omega), .ref a, rfl, a, _, rfl, .inr (SqT.of ha), s2, fun b nb => ?_⟩
      have k1 := Same.new (o := .tup [.int ((ts.map V.str).length : Nat), .int 0]) nb
      have hb : upd H b (.tup [.int ((ts.map V.str).length : Nat), .int 0]) b = _ := upd_same
      generalize upd H b (.tup [.int ((ts.map V.str).length : Nat), .int 0]) = H1 at k1 hb ⊢
      rw [List.length_map] at hb
      refine ⟨s3, fun c nc => ?_⟩
      have k2 := Same.new (o := .tup [.int (z.length : Nat), .non, .ref b]) nc
      refine ⟨s1, fun l nl => ?_⟩
      have k3 := Same.new (o := .lst [.ref c]) nl
      exact q l _ _ (none_of ((k1.trans k2)) nl) upd_same (.cons ⟨c, _, _, rfl, k3 _ _ upd_same, .non, .pr (k3 _ _ (k2 _ _ hb))⟩ .nil) ((k1.trans k2).trans k3)
    | join t u =>
      have hm' : mJoin ts t u = some us := hm
      unfold mJoin at hm'
      obtain ⟨t0, u0⟩ := hok
      by_cases c : t < ts.length ∧ u < ts.length ∧ t ≠ u
      case neg => rw [if_neg c] at hm'; cases hm'
      obtain ⟨et, mt⟩ := mText_at t0 c.1
      obtain ⟨eu, mu⟩ := mText_at u0 c.2.1
      have lt := lens _ mt
      have lu := lens _ mu
      refine ⟨.ref e, rfl, e, _, 0, .str _, rfl, rfl, SqT.of he, rfl, ?_⟩
      refine ⟨_, rfl, rfl, _, rfl, sne (by decide +kernel) ?_⟩
      refine ⟨_, rfl, rfl, _, rfl, sne (by decide +kernel) ?_⟩
      refine ⟨_, rfl, rfl, _, rfl, seq ?_⟩
      refine ⟨.ref e, rfl, e, _, rfl, SqT.of he, rfl, .str _, _, rfl, .int t, _, rfl, .int u, [], rfl, rfl, ?_⟩
      refine ⟨.ref a, rfl, .int u, rfl, a, _, u, _, rfl, rfl, SqT.of ha, eu, _, rfl, len5 lu, .int u, rfl, s2, fun b nb => ?_⟩
      have k1 := Same.new (o := .tup [.int u, .int 0]) nb
      refine ⟨.int t, rfl, .ref a, rfl, .int t, rfl, a, _, t, _, rfl, rfl, SqT.of (k1 _ _ ha), et, _, rfl, len5 lt, s2, fun d nd => ?_⟩
      have k2 := Same.new (o := .tup [.int t, .int ((mText ts t).length : Nat)]) nd
      refine ⟨s3, fun c nc => ?_⟩
      have k3 := Same.new (o := .tup [.int ((mText ts u).length : Nat), .ref b, .ref d]) nc
      refine ⟨s1, fun l nl => ?_⟩
      have k4 := Same.new (o := .lst [.ref c]) nl
      exact q l _ _ (none_of ((k1.trans k2).trans k3) nl) upd_same (.cons ⟨c, _, _, rfl, k4 _ _ upd_same, .pr (k4 _ _ (k3 _ _ (k2 _ _ upd_same))), .pr (k4 _ _ (k3 _ _ upd_same))⟩ .nil) (((k1.trans k2).trans k3).trans k4)
    | split t p =>
      have hm' : mSplit ts t p = some us := hm
      unfold mSplit at hm'
      obtain ⟨t0, p0⟩ := hok
      by_cases c : t < ts.length ∧ p ≤ (mText ts t).length
      case neg => rw [if_neg c] at hm'; cases hm'
      obtain ⟨et, mt⟩ := mText_at t0 c.1
      have lt := lens _ mt
      refine ⟨.ref e, rfl, e, _, 0, .str _, rfl, rfl, SqT.of he, rfl, ?_⟩
      refine ⟨_, rfl, rfl, _, rfl, sne (by decide +kernel) ?_⟩
      refine ⟨_, rfl, rfl, _, rfl, sne (by decide +kernel) ?_⟩
      refine ⟨_, rfl, rfl, _, rfl, sne (by decide +kernel) ?_⟩
      refine ⟨.ref e, rfl, 1, rfl, 3, rfl, e, _, rfl, he, fun b H1 k1 hb => ?_⟩
      have hb' : H1 b = some (.tup [.int t, .int p]) := hb
      refine ⟨_, rfl, rfl, _, rfl, seq ?_⟩
      refine ⟨.ref b, rfl, b, _, rfl, SqT.of hb', rfl, .int t, _, rfl, .int p, [], rfl, rfl, ?_⟩
      refine ⟨.ref a, rfl, .int t, rfl, a, _, t, _, rfl, rfl, SqT.of (k1 _ _ ha), et, _, rfl, len5 lt, .int p, rfl, _, _, rfl, rfl, .ref b, rfl, .ref a, rfl, a, _, rfl, .inr (SqT.of (k1 _ _ ha)), s2, fun d nd => ?_⟩
      have k2 := Same.new (o := .tup [.int ((ts.map V.str).length : Nat), .int 0]) nd
      have hd : upd H1 d (.tup [.int ((ts.map V.str).length : Nat), .int 0]) d = _ := upd_same
      generalize upd H1 d (.tup [.int ((ts.map V.str).length : Nat), .int 0]) = H2 at k2 hd ⊢
      rw [List.length_map] at hd
      refine ⟨s3, fun c nc => ?_⟩
      have k3 := Same.new (o := .tup [.int (((mText ts t).length : Nat) - p), .ref b, .ref d]) nc
      refine ⟨s1, fun l nl => ?_⟩
      have k4 := Same.new (o := .lst [.ref c]) nl
      exact q l _ _ (none_of ((k1.trans k2).trans k3) nl) upd_same (.cons ⟨c, _, _, rfl, k4 _ _ upd_same, .pr (k4 _ _ (k3 _ _ (k2 _ _ hb'))), .pr (k4 _ _ (k3 _ _ hd))⟩ .nil) (((k1.trans k2).trans k3).trans k4)
    | move t p n u r =>
      refine ⟨.ref e, rfl, e, _, 0, .str _, rfl, rfl, SqT.of he, rfl, ?_⟩
      refine ⟨_, rfl, rfl, _, rfl, sne (by decide +kernel) ?_⟩
      refine ⟨_, rfl, rfl, _, rfl, sne (by decide +kernel) ?_⟩
      refine ⟨_, rfl, rfl, _, rfl, sne (by decide +kernel) ?_⟩
      refine ⟨.ref e, rfl, 1, rfl, 3, rfl, e, _, rfl, he, fun b H1 k1 hb => ?_⟩
      have hb' : H1 b = some (.tup [.int t, .int p]) := hb
      refine ⟨_, rfl, rfl, _, rfl, sne (by decide +kernel) ?_⟩
      refine ⟨_, rfl, rfl, _, rfl, seq ?_⟩
      refine ⟨.ref e, rfl, e, _, 3, .int n, rfl, rfl, SqT.of (k1 _ _ he), rfl, .ref b, rfl, .ref e, rfl, 4, rfl, 6, rfl, e, _, rfl, k1 _ _ he, fun d H2 k2 hd => ?_⟩
      have hd' : H2 d = some (.tup [.int u, .int r]) := hd
      refine ⟨s3, fun c nc => ?_⟩
      have k3 := Same.new (o := .tup [.int n, .ref b, .ref d]) nc
      refine ⟨s1, fun l nl => ?_⟩
      have k4 := Same.new (o := .lst [.ref c]) nl
      exact q l _ _ (none_of ((k1.trans k2).trans k3) nl) upd_same (.cons ⟨c, _, _, rfl, k4 _ _ upd_same, .pr (k4 _ _ (k3 _ _ (k2 _ _ hb'))), .pr (k4 _ _ (k3 _ _ hd'))⟩ .nil) (((k1.trans k2).trans k3).trans k4)
    | cut t p n =>
      refine ⟨.ref e, rfl, e, _, 0, .str _, rfl, rfl, SqT.of he, rfl, ?_⟩
      refine ⟨_, rfl, rfl, _, rfl, sne (by decide +kernel) ?_⟩
      refine ⟨_, rfl, rfl, _, rfl, sne (by decide +kernel) ?_⟩
      refine ⟨_, rfl, rfl, _, rfl, sne (by decide +kernel) ?_⟩
      refine ⟨.ref e, rfl, 1, rfl, 3, rfl, e, _, rfl, he, fun b H1 k1 hb => ?_⟩
      have hb' : H1 b = some (.tup [.int t, .int p]) := hb
      refine ⟨_, rfl, rfl, _, rfl, sne (by decide +kernel) ?_⟩
      refine ⟨_, rfl, rfl, _, rfl, sne (by decide +kernel) ?_⟩
      refine ⟨_, rfl, rfl, _, rfl, seq ?_⟩
      refine ⟨.ref e, rfl, e, _, 3, .int n, rfl, rfl, SqT.of (k1 _ _ he), rfl, .ref b, rfl, s3, fun c nc => ?_⟩
      have k3 := Same.new (o := .tup [.int n, .ref b, .non]) nc
      refine ⟨s1, fun l nl => ?_⟩
      have k4 := Same.new (o := .lst [.ref c]) nl
      exact q l _ _ (none_of (k1.trans k3) nl) upd_same (.cons ⟨c, _, _, rfl, k4 _ _ upd_same, .pr (k4 _ _ (k3 _ _ hb')), .non⟩ .nil) ((k1.trans k3).trans k4)
    | put t p z =>
      have lz := (hS _ rfl z (by simp [Ed.vals])).1
      refine ⟨.ref e, rfl, e, _, 0, .str _, rfl, rfl, SqT.of he, rfl, ?_⟩
      refine ⟨_, rfl, rfl, _, rfl, sne (by decide +kernel) ?_⟩
      refine ⟨_, rfl, rfl, _, rfl, sne (by decide +kernel) ?_⟩
      refine ⟨_, rfl, rfl, _, rfl, sne (by decide +kernel) ?_⟩
      refine ⟨.ref e, rfl, 1, rfl, 3, rfl, e, _, rfl, he, fun b H1 k1 hb => ?_⟩
      have hb' : H1 b = some (.tup [.int t, .int p]) := hb
      refine ⟨_, rfl, rfl, _, rfl, sne (by decide +kernel) ?_⟩
      refine ⟨_, rfl, rfl, _, rfl, sne (by decide +kernel) ?_⟩
      refine ⟨_, rfl, rfl, _, rfl, sne (by decide +kernel) ?_⟩
      refine ⟨_, rfl, rfl, _, rfl, seq ?_⟩
      refine ⟨.ref e, rfl, e, _, 3, .str z, rfl, rfl, SqT.of (k1 _ _ he), rfl, z, rfl, len5 (by omega), .ref b, rfl, s3, fun c nc => ?_⟩
      have k3 := Same.new (o := .tup [.int (z.length : Nat), .non, .ref b]) nc
      refine ⟨s1, fun l nl => ?_⟩
      have k4 := Same.new (o := .lst [.ref c]) nl
      exact q l _ _ (none_of (k1.trans k3) nl) upd_same (.cons ⟨c, _, _, rfl, k4 _ _ upd_same, .non, .pr (k4 _ _ (k3 _ _ hb'))⟩ .nil) ((k1.trans k3).trans k4)
    | change t p z =>
      have lz := (hS _ rfl z (by simp [Ed.vals])).1
      refine ⟨.ref e, rfl, e, _, 0, .str _, rfl, rfl, SqT.of he, rfl, ?_⟩
      refine ⟨_, rfl, rfl, _, rfl, sne (by decide +kernel) ?_⟩
      refine ⟨_, rfl, rfl, _, rfl, sne (by decide +kernel) ?_⟩
      refine ⟨_, rfl, rfl, _, rfl, sne (by decide +kernel) ?_⟩
      refine ⟨.ref e, rfl, 1, rfl, 3, rfl, e, _, rfl, he, fun b H1 k1 hb => ?_⟩
      have hb' : H1 b = some (.tup [.int t, .int p]) := hb
      refine ⟨_, rfl, rfl, _, rfl, sne (by decide +kernel) ?_⟩
      refine ⟨_, rfl, rfl, _, rfl, sne (by decide +kernel) ?_⟩
      refine ⟨_, rfl, rfl, _, rfl, sne (by decide +kernel) ?_⟩
      refine ⟨_, rfl, rfl, _, rfl, sne (by decide +kernel) ?_⟩
      refine ⟨.ref e, rfl, e, _, 3, .str z, rfl, rfl, SqT.of (k1 _ _ he), rfl, z, rfl, len5 (by omega), ?_⟩
      refine ⟨_, rfl, .ref b, rfl, s3, fun c nc => ?_⟩
      have k3 := Same.new (o := .tup [.int (z.length : Nat), .ref b, .non]) nc
      refine ⟨_, rfl, .ref b, rfl, s3, fun d nd => ?_⟩
      have k4 := Same.new (o := .tup [.int (z.length : Nat), .non, .ref b]) nd
      refine ⟨s2, fun l nl => ?_⟩
      have k5 := Same.new (o := .lst [.ref c, .ref d]) nl
      have hb5 := k5 _ _ (k4 _ _ (k3 _ _ hb'))
      exact q l _ _ (none_of ((k1.trans k3).trans k4) nl) upd_same (.cons ⟨c, _, _, rfl, k5 _ _ (k4 _ _ upd_same), .pr hb5, .non⟩ (.cons ⟨d, _, _, rfl, k5 _ _ upd_same, .non, .pr hb5⟩ .nil)) (((k1.trans k3).trans k4).trans k5)
end
end LawK
set_option maxHeartbeats 4000000
namespace LawK
open PySem PySem.Spec PyProof.Rows L2 Ev
theorem EdAt.at {H : Hp} {D : Addr} {xs ys : List V} (hD : H D = some (.lst xs)) {v : V} {e : Ed} (h : EdAt H v e) : EdAt (upd H D (.lst ys)) v e := by
  obtain ⟨b, e1, e2⟩ := h
  refine ⟨b, e1, ?_⟩
  rw [upd_ne fun z => by rw [z, hD] at e2; cases e2]
  exact e2
/-- a tuple of an edit comes into a new list -/
theorem eds_snoc {H H3 : Hp} {D g : Addr} {ys : List V} {es : List Ed} {e : Ed} (nD : H D = none) (k : Same H H3) (hD : H3 D = some (.lst ys)) (h : All2 (EdAt H3) ys es) (hg : H3 g = some (.tup e.vals)) :
    upd H3 D (.lst (ys ++ [.ref g])) D = some (.lst (ys ++ [.ref g])) ∧ All2 (EdAt (upd H3 D (.lst (ys ++ [.ref g])))) (ys ++ [.ref g]) (es ++ [e]) ∧ Same H (upd H3 D (.lst (ys ++ [.ref g]))) :=
  ⟨upd_same, (h.imp fun _ _ => EdAt.at hD).snoc (EdAt.at hD ⟨g, rfl, hg⟩), sameAt k nD⟩
theorem mSteps_len (ts : List Str) (ed : Ed) : (mSteps ts ed).length ≤ 2 := by cases ed <;> simp [mSteps]
theorem mSteps_good {ts us : List Str} {ed : Ed} (hok : ed.ok) (hm : ed.mk ts = some us) : ∀ p ∈ mSteps ts ed, p.good ts := by
  have few : ∀ {t : Int} {c : Prop} [Decidable c] {z : List Str}, (if t < (ts.length : Int) ∧ c then some z else none) = some us → t < ts.length := fun {t c _ z} h => by
    by_cases k : t < (ts.length : Int) ∧ c
    · exact k.1
    · rw [if_neg k] at h
      cases h
  intro p hp
  cases ed with
  | put t a z => rw [List.mem_singleton.mp hp]; exact fun h => by cases h
  | come z => rw [List.mem_singleton.mp hp]; exact fun h => by cases h
  | go => cases hp
  | cut t a n =>
    rw [List.mem_singleton.mp hp]
    exact ⟨hok.1, few (show mCut ts t a n = some us from hm)⟩
  | change t a z =>
    rcases List.mem_cons.mp hp with e | e
    · rw [e]
      exact ⟨hok.1, few (show mChange ts t a z = some us from hm)⟩
    · rw [List.mem_singleton.mp e]
      exact fun h => by cases h
  | split t a =>
    rw [List.mem_singleton.mp hp]
    exact ⟨hok.1, few (show mSplit ts t a = some us from hm)⟩
  | join t u =>
    rw [List.mem_singleton.mp hp]
    have h' : mJoin ts t u = some us := hm
    unfold mJoin at h'
    by_cases k : t < ts.length ∧ u < ts.length ∧ t ≠ u
    · exact ⟨hok.2, k.2.1⟩
    · rw [if_neg k] at h'
      cases h'
  | move t a n u r =>
    rw [List.mem_singleton.mp hp]
    have h' : mMove ts t a n u r = some us := hm
    unfold mMove at h'
    cases e : mCut ts t a n with
    | none => rw [e] at h'; cases h'
    | some ws =>
      unfold mCut at e
      refine ⟨hok.1, ?_⟩
      show t < (ts.length : Int)
      by_cases k : t < (ts.length : Int) ∧ a + n ≤ (mText ts t).length
      · exact k.1
      · rw [if_neg k] at e
        cases e
def spBack (C cN : Addr) : Sp := fun vs H Q E => ∃ (s : Addr) (x : V) (o : Option (List V)) (ts : List Str), vs = [.ref s, x] ∧ LibAt H C s ts ∧ Tg H x o ∧ Shr o ∧
  (∀ (ed : Ed) us r xs H', o = some ed.vals → ed.ok → ed.mk ts = some us → Good us → H' r = some (.tup xs) → All2 (EdAt H') xs (mBack ts ed) → Same H H' → Q (.ref r) H') ∧ ((∀ us, ¬ Right ts o us) → ∀ H', Same H H' → E (.ref cN) none H')
section
variable {P : Program} {w : World} {K : PySem.W.Frag} {mg : Str → Option Value} {base : Heap}
variable {PE C fI fE cB cN cE : Addr} {fdI fdE : FuncData}
abbrev sQStepBack : Stmt := topS 36
theorem scQStepBack : FnScope ["texts", "step", "many", "source", "target", "text", "at"] ["texts", "step"] (defScope sQStepBack) := ⟨rfl, rfl, rfl, by decide +kernel, rfl, by decide +kernel, by decide +kernel⟩
theorem ok_QStepBack {f : Addr} {fd : FuncData} (F : Fun K "_step_back" "_step_back" sQStepBack f fd)   (T : Glob mg) : FnOk P w K mg base CX0 1 f fd ["texts", "step"] spStepBack := by
  refine F.ok scQStepBack (fun vs H Q E h => ?_) (fun cdv A outer s H vs Q E hr h => ?_)
  · obtain ⟨a, ts, v, p, rfl, _⟩ := h
    rfl
  · refine ⟨_, (pss_cons (ps_asg (pv 1) (pg_tup (by rfl) (pgs_cons (pg_name (i := 2) scQStepBack.nd rfl (.inl rfl)) (pgs_cons (pg_name (i := 3) scQStepBack.nd rfl (.inl rfl)) (pgs_cons (pg_name (i := 4) scQStepBack.nd rfl (.inl rfl)) pgs_nil)))))
      (pss_cons (ps_if (pt_cmpR op_isN (pv 3) pe_non (nomark _))
      (pss_one (ps_ret (pe_tup (pa_cons pe_str (pa_cons (pe_ix ix_tup (pv 4) pe_int (fun _ _ => rfl)) (pa_cons (pe_ix ix_tup (pv 4) pe_int (fun _ _ => rfl)) (pa_cons (pv 2) pa_nil)))))))
      pss_nil)
      (pss_cons (ps_asg (pv 3) (pg_tup (by rfl) (pgs_cons (pg_name (i := 5) scQStepBack.nd rfl (.inl rfl)) (pgs_cons (pg_name (i := 6) scQStepBack.nd rfl (.inl rfl)) pgs_nil))))
      (pss_cons (ps_if (pt_cmpR op_isN (pv 4) pe_non (nomark _))
      (pss_one (ps_ret (pe_tup (pa_cons pe_str (pa_cons (pv 5) (pa_cons (pv 6) (pa_cons (pe_slice sl_str (pe_ix ix_tup (pv 0) (pv 5) (fun _ _ => rfl)) (po_some (pv 6)) (po_some (pe_op op_add (pv 6) (pv 2)))) pa_nil)))))))
      pss_nil)
      (pss_one (ps_ret (pe_tup (pa_cons pe_str (pa_cons (pe_ix ix_tup (pv 4) pe_int (fun _ _ => rfl)) (pa_cons (pe_ix ix_tup (pv 4) pe_int (fun _ _ => rfl)) (pa_cons (pv 2) (pa_cons (pv 5) (pa_cons (pv 6) pa_nil))))))))))))), ?_⟩
    obtain ⟨a, ts, v, p, rfl, ha, few, lens, ⟨b, x, y, rfl, hb, hx, hy⟩, hgd, q⟩ := h
    refine ⟨.ref b, rfl, b, _, rfl, SqT.of hb, rfl, .int p.m, _, rfl, x, _, rfl, y, [], rfl, rfl, ?_⟩
    obtain ⟨m, sp, tp⟩ := p
    have s4 : (4 : Nat) ≤ sizeLine := by decide
    have s6 : (6 : Nat) ≤ sizeLine := by decide
    cases hx with
    | non =>
      refine ⟨_, rfl, rfl, _, rfl, iteT ?_⟩
      cases hy with
      | non => exact absurd rfl hgd
      | @pr d i j hd =>
        refine ⟨.ref d, rfl, d, _, 0, .int i, rfl, rfl, SqT.of hd, rfl, .ref d, rfl, d, _, 1, .int j, rfl, rfl, SqT.of hd, rfl, .int m, rfl, s4, fun r nr => q r _ upd_same (Same.new nr)⟩
    | @pr c t i hc =>
      refine ⟨_, rfl, rfl, _, rfl, iteF ?_⟩
      refine ⟨.ref c, rfl, c, _, rfl, SqT.of hc, rfl, .int t, _, rfl, .int i, [], rfl, rfl, ?_⟩
      cases hy with
      | non =>
        refine ⟨_, rfl, rfl, _, rfl, iteT ?_⟩
        obtain ⟨et, mt⟩ := mText_at hgd.1 hgd.2
        have lt := lens _ mt
        refine ⟨.int t, rfl, .int i, rfl, .ref a, rfl, .int t, rfl, a, _, t, _, rfl, rfl, SqT.of ha, et, .int i, rfl, i, rfl, .int i, rfl, .int m, rfl, _, _, rfl, rfl, i + m, rfl, mText ts t, rfl, len5 lt, s4, fun r nr => q r _ upd_same (Same.new nr)⟩
      | @pr d u j hd =>
        refine ⟨_, rfl, rfl, _, rfl, iteF ?_⟩
        refine ⟨.ref d, rfl, d, _, 0, .int u, rfl, rfl, SqT.of hd, rfl, .ref d, rfl, d, _, 1, .int j, rfl, rfl, SqT.of hd, rfl, .int m, rfl, .int t, rfl, .int i, rfl, s6, fun r nr => q r _ upd_same (Same.new nr)⟩
abbrev sLeadingBack : Stmt := topS 37
theorem scLeadingBack : FnScope ["library", "edit", "texts", "word", "_", "text", "at", "signs", "back", "step"] ["library", "edit"] (defScope sLeadingBack) := ⟨rfl, rfl, rfl, by decide +kernel, rfl, by decide +kernel, by decide +kernel⟩
theorem ok_LeadingBack {f : Addr} {fd : FuncData} (F : Fun K "leading_back" "leading_back" sLeadingBack f fd) (L : LibC K mg C fI fE fdI fdE) (ENoEdit : Cls0 P K mg PE "NoEdit" cN) {fIsEdit : Addr} {fdIsEdit : FuncData} (DIsEdit : Dk P w K mg base "is_edit" sIsEdit ["library", "thing"] 7 (spIsEdit C) fIsEdit fdIsEdit) {fQSteps : Addr} {fdQSteps : FuncData} (DQSteps : Dk P w K mg base "_steps" sQSteps ["texts", "edit"] 1 spSteps fQSteps fdQSteps) {fQStepBack : Addr} {fdQStepBack : FuncData} (DQStepBack : Dk P w K mg base "_step_back" sQStepBack ["texts", "step"] 1 spStepBack fQStepBack fdQStepBack) (T : Glob mg) : FnOk P w K mg base (L2.CX P w) 8 f fd ["library", "edit"] (spBack C cN) := by
  obtain ⟨fN, SNoEdit⟩ := ENoEdit.sup
  refine F.okX scLeadingBack (fun vs H Q E h => ?_) (fun cdv A outer s H vs Q E hr h => ?_)
  · obtain ⟨s, x, o, ts, rfl, _⟩ := h
    rfl
  · refine ⟨_, (pss_cons (ps_if (pt_not (pt_val (pe_call DIsEdit.ok (hr.mono (by decide)) (by rfl) DIsEdit.g DIsEdit.F.kp DIsEdit.b .nil pass0 (pa_cons (pv 0) (pa_cons (pv 1) pa_nil)))))
      (pss_one (ps_raise rfl (takes_of rfl rfl rfl rfl) (pmk_exc0 SNoEdit hr (by rfl) ENoEdit.g)))
      pss_nil)
      (pss_cons (ps_set (i := 2) scLeadingBack.nd rfl (.inr rfl) (pe_fld (pv 0) rfl))
      (pss_cons (ps_set (i := 3) scLeadingBack.nd rfl (.inl rfl) (pe_ix ix_tup (pv 1) pe_int (fun _ _ => rfl)))
      (pss_cons (ps_if (pt_cmpR op_eq (pv 3) pe_str (nomark _))
      (pss_cons (ps_asg (pv 1) (pg_tup (by rfl) (pgs_cons (pg_name (i := 4) scLeadingBack.nd rfl (.inl rfl)) (pgs_cons (pg_name (i := 5) scLeadingBack.nd rfl (.inl rfl)) (pgs_cons (pg_name (i := 6) scLeadingBack.nd rfl (.inl rfl)) (pgs_cons (pg_name (i := 7) scLeadingBack.nd rfl (.inl rfl)) pgs_nil))))))
        (pss_one (ps_ret (pe_tup (pa_cons (pe_tup (pa_cons pe_str (pa_cons (pv 5) (pa_cons (pv 6) (pa_cons (pe_slice sl_str (pe_ix ix_tup (pv 2) (pv 5) (fun _ _ => rfl)) (po_some (pv 6)) (po_some (pe_op op_add (pv 6) (pe_callB call_lenZ (by rfl) T.len PySem.boot_len (pa_cons (pv 7) pa_nil))))) pa_nil))))) pa_nil)))))
      pss_nil)
      (pss_cons (ps_setLc (i := 8) (own := [("step", 9)]) (g := gName 9) (by rfl) scLeadingBack.nd rfl rfl (sw_true rfl rfl rfl (by decide +kernel)) (pi_list (pe_call DQSteps.ok (hr.mono (by decide)) (by rfl) DQSteps.g DQSteps.F.kp DQSteps.b .nil pass0 (pa_cons (pv 2) (pa_cons (pv 1) pa_nil)))) (blkOk_by (N := ["library", "edit", "texts", "word", "_", "text", "at", "signs", "back", "step"]) (sc := defScope sLeadingBack) (by decide +kernel)) (fun _ _ _ _ _ => pg_name (i := 9) scLeadingBack.nd rfl (.inl rfl)) (fun _ _ _ _ _ => (pts_one (pt_cmpR op_gt (pe_ix (r := rIxT K) ix_tup (pv 9) pe_int (fun _ _ => rfl)) pe_int (nomark _)))) (fun _ _ _ _ _ => (pe_call DQStepBack.ok (hr.mono (by decide)) (by rfl) DQStepBack.g DQStepBack.F.kp DQStepBack.b .nil pass0 (pa_cons (pv 2) (pa_cons (pv 9) pa_nil)))))
      (pss_cons (ps_if (pt_cmpR op_eq (pv 3) pe_str (nomark _))
      (pss_one (ps_expr (pe_bm PySem.F.plainAttrs_list PySem.F.slot_list_append PySem.F.type_list_append mt_append (pv 8) (pa_cons (pe_tup (pa_cons pe_str (pa_cons pe_str pa_nil))) pa_nil))))
      pss_nil)
      (pss_cons (ps_if (PW.pt (pw_or (pt_cmpR op_eq (pv 3) pe_str (nomark _)) (pw_or1 (pt_cmpR op_eq (pv 3) pe_str (nomark _)))))
      (pss_one (ps_expr (pe_bm PySem.F.plainAttrs_list PySem.F.slot_list_append PySem.F.type_list_append mt_append (pv 8) (pa_cons (pe_tup (pa_cons pe_str pa_nil)) pa_nil))))
      pss_nil)
      (pss_one (ps_ret (pe_callTy call_tuple_of (by rfl) T.tuple (by decide +kernel) (pa_cons (pv 8) pa_nil))))))))))), ?_⟩
    obtain ⟨s, x, o, ts, rfl, hl, hT, hS, q1, q2⟩ := h
    refine ⟨.ref s, rfl, x, rfl, s, x, o, ts, rfl, hl, hT, hS, fun b H1 hb k1 => ⟨_, rfl, ?_⟩⟩
    cases b with
    | false => exact iteT (q2 (fun us hR => absurd (hb.mpr ⟨us, hR⟩) (by simp)) H1 k1)
    | true =>
    obtain ⟨us, ed, rfl, hok, hmk, hgu⟩ := hb.mp rfl
    refine iteF ?_
    have hl1 := hl.same k1
    have hg := hl1.good
    obtain ⟨⟨dx, a, h1, h2⟩, _⟩ := hl1
    have few := hg.few
    have lens : ∀ t ∈ ts, t.length ≤ 5000 := fun t ht => by have := hg.len ht; omega
    cases hT.same k1 with
    | @tup e _ he nlen hy =>
    refine ⟨.ref s, rfl, s, C, dx, _, .ref a, rfl, h1, L.cl, L.nt, lk1, ?_⟩
    have he' := he
    rw [ed.vals_eq] at he'
    refine ⟨.ref e, rfl, e, _, 0, .str ed.word, rfl, rfl, SqT.of he', atI_nat (j := 0) rfl, ?_⟩
    by_cases hw : ∃ t p z, ed = .change t p z
    · obtain ⟨t, p, z, rfl⟩ := hw
      have hm' : mChange ts t p z = some us := hmk
      unfold mChange at hm'
      by_cases c : t < ts.length ∧ p + (z.length : Int) ≤ (mText ts t).length
      case neg => rw [if_neg c] at hm'; cases hm'
      obtain ⟨et, mt⟩ := mText_at hok.1 c.1
      have lt := lens _ mt
      have lz := (hS _ rfl z (by simp [Ed.vals])).1
      refine ⟨_, rfl, rfl, _, rfl, seq ?_⟩
      refine ⟨.ref e, rfl, e, _, rfl, SqT.of he, rfl, .str _, _, rfl, .int t, _, rfl, .int p, _, rfl, .str z, [], rfl, rfl, ?_⟩
      refine ⟨.int t, rfl, .int p, rfl, .ref a, rfl, .int t, rfl, a, _, t, _, rfl, rfl, SqT.of h2, et, .int p, rfl, p, rfl, .int p, rfl, .str z, rfl, z, rfl, len5 (by omega), _, _, rfl, rfl, _, rfl, mText ts t, rfl, len5 lt, by show 4 ≤ sizeLine; decide, fun g ng => ⟨by show 1 ≤ sizeLine; decide, fun r nr => ?_⟩⟩
      exact q1 (.change t p z) us r _ _ rfl hok hmk hgu upd_same (.cons ⟨g, rfl, Same.new nr _ _ upd_same⟩ .nil) ((k1.trans (Same.new ng)).trans (Same.new nr))
    have hne : ed.word ≠ Str.ofString "change" := by
      cases ed with
      | change t p z => exact absurd ⟨t, p, z, rfl⟩ hw
      | put t p z => exact show Str.ofString "put" ≠ _ by decide +kernel
      | cut t p n => exact show Str.ofString "cut" ≠ _ by decide +kernel
      | come z => exact show Str.ofString "come" ≠ _ by decide +kernel
      | go => exact show Str.ofString "go" ≠ _ by decide +kernel
      | split t p => exact show Str.ofString "split" ≠ _ by decide +kernel
      | join t u => exact show Str.ofString "join" ≠ _ by decide +kernel
      | move t p n u r => exact show Str.ofString "move" ≠ _ by decide +kernel
    refine ⟨_, rfl, rfl, _, rfl, sne hne ?_⟩
    refine ⟨.ref a, rfl, .ref e, rfl, a, e, ts, us, ed, rfl, h2, he, by omega, lens, hS, hok, hmk, fun l xs H2 nl hl2 hall k2 => ?_⟩
    refine ⟨l, rfl, ⟨_, sq_of hl2⟩, fun D nD => lc_list (xs := xs) (fun i H3 => Same H2 H3 ∧ ∃ ys, H3 D = some (.lst ys) ∧ All2 (EdAt H3) ys ((((mSteps ts ed).take i).filter fun p => decide (0 < p.m)).map (mStepBack ts))) ⟨Same.new nD, [], upd_same, .nil⟩ (fun i H3 hi g => sq_of (g.1 _ _ hl2)) ?_ ?_⟩
    · rintro i v H3 hv ⟨k3, ys, hD, hys⟩
      obtain ⟨p, hp, hst⟩ := hall.at hv
      have hst3 := hst.same k3
      obtain ⟨b, x0, y0, rfl, hb3, _, _⟩ := id hst3
      have etake : (mSteps ts ed).take (i + 1) = (mSteps ts ed).take i ++ [p] := by
        rw [List.take_succ, hp]
        rfl
      refine ⟨rfl, .ref b, rfl, b, _, 0, .int p.m, rfl, rfl, SqT.of hb3, rfl, _, _, rfl, rfl, _, rfl, ite2 (fun c => ?_) (fun c => ?_)⟩
      · have c' : decide (0 < p.m) = true := c
        refine ⟨.ref a, rfl, .ref b, rfl, a, ts, .ref b, p, rfl, k3 _ _ (k2 _ _ h2), by omega, lens, hst3, mSteps_good hok hmk p (List.mem_of_getElem? hp), fun r H4 hr k4 => ?_⟩
        have hD4 := k4 _ _ hD
        have nl5 : ys.length ≤ 2 := by
          rw [hys.len, List.length_map]
          have z1 := List.length_filter_le (fun p : Step => decide (0 < p.m)) ((mSteps ts ed).take i)
          have z2 := List.length_take_le i (mSteps ts ed)
          have z3 := mSteps_len ts ed
          have z4 : ((mSteps ts ed).take i).length ≤ (mSteps ts ed).length := by rw [List.length_take]; omega
          omega
        obtain ⟨g1, g2, g3⟩ := eds_snoc (e := mStepBack ts p) nD (k3.trans k4) hD4 (hys.imp fun _ _ => EdAt.same k4) hr
        refine ⟨ys, hD4, by show _ < 16777216; omega, g3, _, g1, ?_⟩
        rw [etake, List.filter_append, List.filter_cons, if_pos c', List.filter_nil, List.map_append]
        exact g2
      · have c' : ¬ decide (0 < p.m) = true := c
        refine ⟨k3, ys, hD, ?_⟩
        rw [etake, List.filter_append, List.filter_cons, if_neg c', List.filter_nil, List.append_nil]
        exact hys
    rintro H3 ⟨k3, ys, hD, hys⟩
    rw [hall.len, List.take_length] at hys
    have kk := (k1.trans k2).trans k3
    have nDH : H D = none := none_of (k1.trans k2) nD
    have he3 := k3 _ _ (k2 _ _ he)
    have nl5 : ys.length ≤ 2 := by
      rw [hys.len, List.length_map]
      have z1 := List.length_filter_le (fun p : Step => decide (0 < p.m)) (mSteps ts ed)
      have z3 := mSteps_len ts ed
      omega
    have s2 : (2 : Nat) ≤ sizeLine := by decide
    have s1 : (1 : Nat) ≤ sizeLine := by decide
    have fin : ∀ H4 zs, H4 D = some (.lst zs) → All2 (EdAt H4) zs (mBack ts ed) → Same H H4 → ∀ r, H4 r = none → Q (.ref r) (upd H4 r (.tup zs)) := fun H4 zs hD4 hz k4 r nr =>
      q1 ed us r zs _ rfl hok hmk hgu upd_same (hz.imp fun _ _ => EdAt.same (Same.new nr)) (k4.trans (Same.new nr))
    cases ed with
    | change t p z => exact absurd ⟨t, p, z, rfl⟩ hw
    | go =>
      refine ⟨_, rfl, rfl, _, rfl, seq ?_⟩
      refine ⟨.ref D, rfl, .inl ⟨rfl, _, sq_of hD⟩, s2, fun g ng => ?_⟩
      have kg := Same.new (o := .tup [.str (Str.ofString "come"), .str (Str.ofString "")]) ng
      obtain ⟨g1, g2, g3⟩ := eds_snoc (e := .come (Str.ofString "")) nDH (kk.trans kg) (kg _ _ hD) (hys.imp fun _ _ => EdAt.same kg) upd_same
      refine ⟨D, _, _, rfl, rfl, kg _ _ hD, by show _ < 16777216; omega, ?_⟩
      refine ⟨_, rfl, rfl, _, rfl, sne (by dsimp only [Ed.word]; decide +kernel) ⟨_, rfl, rfl, _, rfl, sne (by dsimp only [Ed.word]; decide +kernel) ?_⟩⟩
      exact ⟨.ref D, rfl, D, _, rfl, .inl ⟨sq_of g1, fun r nr => fin _ _ g1 g2 g3 r nr⟩⟩
    | come z =>
      refine ⟨_, rfl, rfl, _, rfl, sne (by dsimp only [Ed.word]; decide +kernel) ?_⟩
      refine ⟨_, rfl, rfl, _, rfl, seq ?_⟩
      refine ⟨.ref D, rfl, .inl ⟨rfl, _, sq_of hD⟩, s1, fun g ng => ?_⟩
      have kg := Same.new (o := .tup [.str (Str.ofString "go")]) ng
      obtain ⟨g1, g2, g3⟩ := eds_snoc (e := .go) nDH (kk.trans kg) (kg _ _ hD) (hys.imp fun _ _ => EdAt.same kg) upd_same
      refine ⟨D, _, _, rfl, rfl, kg _ _ hD, by show _ < 16777216; omega, ?_⟩
      exact ⟨.ref D, rfl, D, _, rfl, .inl ⟨sq_of g1, fun r nr => fin _ _ g1 g2 g3 r nr⟩⟩
    | split t p =>
      refine ⟨_, rfl, rfl, _, rfl, sne (by dsimp only [Ed.word]; decide +kernel) ?_⟩
      refine ⟨_, rfl, rfl, _, rfl, sne (by dsimp only [Ed.word]; decide +kernel) ⟨_, rfl, rfl, _, rfl, seq ?_⟩⟩
      refine ⟨.ref D, rfl, .inl ⟨rfl, _, sq_of hD⟩, s1, fun g ng => ?_⟩
      have kg := Same.new (o := .tup [.str (Str.ofString "go")]) ng
      obtain ⟨g1, g2, g3⟩ := eds_snoc (e := .go) nDH (kk.trans kg) (kg _ _ hD) (hys.imp fun _ _ => EdAt.same kg) upd_same
      refine ⟨D, _, _, rfl, rfl, kg _ _ hD, by show _ < 16777216; omega, ?_⟩
      exact ⟨.ref D, rfl, D, _, rfl, .inl ⟨sq_of g1, fun r nr => fin _ _ g1 g2 g3 r nr⟩⟩
    | put t p z =>
      refine ⟨_, rfl, rfl, _, rfl, sne (by dsimp only [Ed.word]; decide +kernel) ?_⟩
      refine ⟨_, rfl, rfl, _, rfl, sne (by dsimp only [Ed.word]; decide +kernel) ⟨_, rfl, rfl, _, rfl, sne (by dsimp only [Ed.word]; decide +kernel) ?_⟩⟩
      refine ⟨.ref D, rfl, D, _, rfl, .inl ⟨sq_of hD, fun r nr => fin _ _ hD ?_ kk r nr⟩⟩
      show All2 _ _ (_ ++ [])
      rw [List.append_nil]
      exact hys
    | cut t p n =>
      refine ⟨_, rfl, rfl, _, rfl, sne (by dsimp only [Ed.word]; decide +kernel) ?_⟩
      refine ⟨_, rfl, rfl, _, rfl, sne (by dsimp only [Ed.word]; decide +kernel) ⟨_, rfl, rfl, _, rfl, sne (by dsimp only [Ed.word]; decide +kernel) ?_⟩⟩
      refine ⟨.ref D, rfl, D, _, rfl, .inl ⟨sq_of hD, fun r nr => fin _ _ hD ?_ kk r nr⟩⟩
      show All2 _ _ (_ ++ [])
      rw [List.append_nil]
      exact hys
    | join t u =>
      refine ⟨_, rfl, rfl, _, rfl, sne (by dsimp only [Ed.word]; decide +kernel) ?_⟩
      refine ⟨_, rfl, rfl, _, rfl, sne (by dsimp only [Ed.word]; decide +kernel) ⟨_, rfl, rfl, _, rfl, sne (by dsimp only [Ed.word]; decide +kernel) ?_⟩⟩
      refine ⟨.ref D, rfl, D, _, rfl, .inl ⟨sq_of hD, fun r nr => fin _ _ hD ?_ kk r nr⟩⟩
      show All2 _ _ (_ ++ [])
      rw [List.append_nil]
      exact hys
    | move t p n u r =>
      refine ⟨_, rfl, rfl, _, rfl, sne (by dsimp only [Ed.word]; decide +kernel) ?_⟩
      refine ⟨_, rfl, rfl, _, rfl, sne (by dsimp only [Ed.word]; decide +kernel) ⟨_, rfl, rfl, _, rfl, sne (by dsimp only [Ed.word]; decide +kernel) ?_⟩⟩
      refine ⟨.ref D, rfl, D, _, rfl, .inl ⟨sq_of hD, fun r nr => fin _ _ hD ?_ kk r nr⟩⟩
      show All2 _ _ (_ ++ [])
      rw [List.append_nil]
      exact hys
end
end LawK
set_option maxHeartbeats 4000000
namespace LawK
open PySem PySem.Spec PyProof.Rows L2 Ev
def standsV (ts : List Str) : V → Option (List V) → Bool
  | .str z, some [.int i, .int j] => decide (V.str (cutS (ts.getD i.toNat Str.empty) (some j) (some (j + (z.length : Int)))) = V.str z)
  | _, _ => false
def spStands (C cW cP : Addr) : Sp := fun vs H Q E => ∃ (s : Addr) (ts : List Str) (y x : V) (k : Kn) (o : Option (List V)), vs = [.ref s, y, x] ∧ LibAt H C s ts ∧ Kd H y k ∧ Vs y ∧ Tg H x o ∧
  (wordV y = false → E (.ref cW) none H) ∧ (wordV y = true → placeV ts o = false → E (.ref cP) none H) ∧ (wordV y = true → placeV ts o = true → Q (.bl (standsV ts y o)) H)
def mTail (m : Int) (t : Option (Int × Int)) (x a : Int) : Option (Int × Int) := match t with
  | some (u, c) => if x = u ∧ c ≤ a then some (x, a + m) else some (x, a)
  | none => some (x, a)
/-- where a step takes a sign: none if it is gone -/
def mTakenBy (p : Step) (q : Int × Int) : Option (Int × Int) := match p.s with
  | none => mTail p.m p.t q.1 q.2
  | some (t, b) => if q.1 = t ∧ b ≤ q.2 then (if q.2 - b < p.m then p.t.map (fun r => (r.1, r.2 + (q.2 - b))) else mTail p.m p.t q.1 (q.2 - p.m)) else mTail p.m p.t q.1 q.2
def spTakenBy : Sp := fun vs H Q _ => ∃ (v : V) (p : Step) (b : Addr) (x a : Int), vs = [v, .ref b] ∧ StepAt H v p ∧ H b = some (.tup [.int x, .int a]) ∧
  ∀ y H', PrAt H' y (mTakenBy p (x, a)) → Same H H' → Q y H'
def mTakenOn : List Step → Int × Int → Option (Int × Int)
  | [], q => some q
  | p :: ps, q => (mTakenBy p q).bind (mTakenOn ps)
def spTakenOn : Sp := fun vs H Q _ => ∃ (l : Addr) (xs : List V) (ps : List Step) (b : Addr) (x a : Int), vs = [.ref l, .ref b] ∧ H l = some (.lst xs) ∧ All2 (StepAt H) xs ps ∧ H b = some (.tup [.int x, .int a]) ∧
  ∀ y H', PrAt H' y (mTakenOn ps (x, a)) → Same H H' → Q y H'
section
variable {P : Program} {w : World} {K : PySem.W.Frag} {mg : Str → Option Value} {base : Heap}
variable {PE C fI fE cB cN cE cW cP : Addr} {fdI fdE : FuncData}
abbrev sIsPlace : Stmt := topS 58
theorem scIsPlace : FnScope ["texts", "thing"] ["texts", "thing"] (defScope sIsPlace) := ⟨rfl, rfl, rfl, by decide +kernel, rfl, by decide +kernel, by decide +kernel⟩
theorem ok_IsPlace {f : Addr} {fd : FuncData} (F : Fun K "_law_is_place" "_law_is_place" sIsPlace f fd) {fIsWithin : Addr} {fdIsWithin : FuncData} (DIsWithin : Dk P w K mg base "_law_is_within" sIsWithin ["thing", "least", "most"] 2 spIn fIsWithin fdIsWithin) (T : Glob mg) : FnOk P w K mg base CX0 3 f fd ["texts", "thing"] spPlace := by
  refine F.ok scIsPlace (fun vs H Q E h => ?_) (fun cdv A outer s H vs Q E hr h => ?_)
  · obtain ⟨a, ts, x, o, rfl, _⟩ := h
    rfl
  · refine ⟨_, (pss_cons (ps_if (PW.pt (pw_or (pt_not (pt_val (pe_callB call_isi (by rfl) T.isinstance PyProof.Rows.boot_isinstance (pa_cons (pv 1) (pa_cons (pe_bltn (v := .ty "tuple") (by rfl) T.tuple (by decide +kernel) rfl) pa_nil))))) (pw_or (pt_cmpR op_ne (pe_callB call_len_seq (by rfl) T.len PySem.boot_len (pa_cons (pv 1) pa_nil)) pe_int (nomark _)) (pw_or1 (pt_not (pt_val (pe_call DIsWithin.ok (hr.mono (by decide)) (by rfl) DIsWithin.g DIsWithin.F.kp DIsWithin.b .nil pass0 (pa_cons (pe_ix ix_tup (pv 1) pe_int (fun _ _ => rfl)) (pa_cons pe_int (pa_cons (pe_op op_sub (pe_callB call_len_seq (by rfl) T.len PySem.boot_len (pa_cons (pv 0) pa_nil)) pe_int) pa_nil))))))))))
      (pss_one (ps_ret pe_bl))
      pss_nil)
      (pss_one (ps_ret (pe_call DIsWithin.ok (hr.mono (by decide)) (by rfl) DIsWithin.g DIsWithin.F.kp DIsWithin.b .nil pass0 (pa_cons (pe_ix ix_tup (pv 1) pe_int (fun _ _ => rfl)) (pa_cons pe_int (pa_cons (pe_op op_sub (pe_callB call_lenZ (by rfl) T.len PySem.boot_len (pa_cons (pe_ix ix_tup (pv 0) (pe_ix ix_tup (pv 1) pe_int (fun _ _ => rfl)) (fun _ _ => rfl)) pa_nil)) pe_int) pa_nil))))))), ?_⟩
    obtain ⟨a, ts, x, o, rfl, ha, hn, hlen, hT, q⟩ := h
    cases hT with
    | @no _ k hk n s =>
      exact ⟨x, rfl, x, .ty "tuple", .type (Kn.name k), .type "tuple", false, rfl, .ty _, Kd.tyx hk, kit_no n, _, rfl, iteT q⟩
    | @tup b xs e n hy =>
      refine ⟨.ref b, rfl, .ref b, .ty "tuple", .type (Kn.name .tup), .type "tuple", kitB .tup .tup, rfl, .ty _, Kd.tyx (.tup e), kit_kn .tup .tup, _, rfl, iteF ?_⟩
      refine ⟨.ref b, rfl, b, xs, rfl, .inr (SqT.of e), rfl, _, rfl, ite2 (fun g => ?_) (fun g => ?_)⟩
      · have g' : ¬ xs.length = 2 := fun z => by
          rw [z] at g
          exact absurd g (by decide)
        have ez : placeV ts (some xs) = false := by
          cases xs with
          | nil => rfl
          | cons x r => cases r with
            | nil => rfl
            | cons y r => cases r with
              | nil => exact absurd rfl g'
              | cons z r => rfl
        rw [ez] at q
        exact q
      have g' : xs.length = 2 := Classical.byContradiction fun z => g (by
        have : ¬ V.int (xs.length : Int) = V.int 2 := fun e => z (by
          have := V.int.inj e
          omega)
        rw [decide_eq_false this]
        rfl)
      obtain ⟨x, y, rfl⟩ : ∃ x y, xs = [x, y] := by
        cases xs with
        | nil => cases g'
        | cons x r => cases r with
          | nil => cases g'
          | cons y r => cases r with
            | nil => exact ⟨x, y, rfl⟩
            | cons z r => simp at g'
      obtain ⟨⟨k1, hk1⟩, hv1⟩ := hy x (by simp)
      obtain ⟨⟨k2, hk2⟩, hv2⟩ := hy y (by simp)
      refine ⟨.ref b, rfl, b, _, 0, x, rfl, rfl, SqT.of e, rfl, .ref a, rfl, a, _, rfl, .inr (SqT.of ha), _, _, rfl, rfl, x, k1, 0, _, rfl, hk1, _, rfl, ?_⟩
      rw [List.length_map]
      refine ite2 (fun c => ?_) (fun c => ?_)
      · have c' : inV2 0 ((ts.length : Int) - 1) x = false := by simpa using c
        have ez : placeV ts (some [x, y]) = false := by
          show (inV2 0 ((ts.length : Int) - 1) x && _) = false
          rw [c', Bool.false_and]
        rw [ez] at q
        exact q
      have c' : inV2 0 ((ts.length : Int) - 1) x = true := by simpa using c
      cases x with
      | int i =>
        have c2 : (decide (0 ≤ i) && decide (i ≤ (ts.length : Int) - 1)) = true := c'
        obtain ⟨d1, d2⟩ := Bool.and_eq_true_iff.mp c2
        have d1 := of_decide_eq_true d1
        have d2 := of_decide_eq_true d2
        have hi : i.toNat < ts.length := by omega
        have et : atI (ts.map V.str) i = some (.str (ts.getD i.toNat Str.empty)) := by
          have e1 : i = ((i.toNat : Nat) : Int) := by omega
          rw [e1]
          refine atI_nat ?_
          rw [List.getElem?_map, List.getD_eq_getElem?_getD, Int.toNat_natCast, List.getElem?_eq_getElem hi]
          rfl
        have hm : ts.getD i.toNat Str.empty ∈ ts := by
          rw [List.getD_eq_getElem?_getD, List.getElem?_eq_getElem hi]
          exact List.getElem_mem hi
        refine ⟨.ref b, rfl, b, _, 1, y, rfl, rfl, SqT.of e, rfl, .ref a, rfl, .ref b, rfl, b, _, 0, .int i, rfl, rfl, SqT.of e, rfl, a, _, i, _, rfl, rfl, SqT.of ha, et, _, rfl, len5 (hlen _ hm), _, _, rfl, rfl, y, k2, 0, _, rfl, hk2, ?_⟩
        have ez : placeV ts (some [.int i, y]) = inV2 0 (((ts.getD i.toNat Str.empty).length : Int) - 1) y := by
          show (inV2 0 ((ts.length : Int) - 1) (.int i) && inV2 0 (((ts.getD i.toNat Str.empty).length : Int) - 1) y) = _
          rw [c', Bool.true_and]
        rw [ez] at q
        exact q
      | non => cases c'
      | bl b => cases c'
      | str b => cases c'
      | byt b => cases c'
      | flt b => cases c'
      | ref b => cases c'
      | ty b => cases c'
abbrev sAllPlaces : Stmt := topS 59
theorem scAllPlaces : FnScope ["texts", "found", "text", "at"] ["texts"] (defScope sAllPlaces) := ⟨rfl, rfl, rfl, by decide +kernel, rfl, by decide +kernel, by decide +kernel⟩
theorem ok_AllPlaces {f : Addr} {fd : FuncData} (F : Fun K "_law_all_places" "_law_all_places" sAllPlaces f fd)  (T : Glob mg) : FnOk P w K mg base CX0 1 f fd ["texts"] spAllP := by
  refine F.ok scAllPlaces (fun vs H Q E h => ?_) (fun cdv A outer s H vs Q E hr h => ?_)
  · obtain ⟨a, ts, rfl, _⟩ := h
    rfl
  · refine ⟨_, (pss_cons (ps_set (i := 1) scAllPlaces.nd rfl (.inl rfl) (pe_lst pa_nil))
      (pss_cons (ps_for PassesOwn.never rfl (pi_range1 (by rfl) T.range (pa_cons (pe_callB call_len_seq (by rfl) T.len PySem.boot_len (pa_cons (pv 0) pa_nil)) pa_nil)) (pg_name (i := 2) scAllPlaces.nd rfl (.inr rfl))
      (pss_one (ps_set (i := 1) scAllPlaces.nd rfl (.inl rfl) (pe_op op_cat (pv 1) (pe_lc (own := [("at", 3)]) (g := gName 3) (by rfl) scAllPlaces.nd (pi_range1 (by rfl) T.range (pa_cons (pe_callB call_len (by rfl) T.len PySem.boot_len (pa_cons (pe_ix ix_tup (pv 0) (pv 2) (fun _ _ => rfl)) pa_nil)) pa_nil)) (blkOk_by (N := ["texts", "found", "text", "at"]) (sc := defScope sAllPlaces) (by decide +kernel)) (fun _ _ _ _ _ => pg_name (i := 3) scAllPlaces.nd rfl (.inl rfl)) (fun _ _ _ _ _ => pts_nil) (fun _ _ _ _ _ => (pe_tup (pa_cons (pv 2) (pa_cons (pv 3) pa_nil)))))))))
      (pss_one (ps_ret (pv 1))))), ?_⟩
    obtain ⟨a, ts, rfl, ha, hts, q⟩ := h
    refine ⟨by show 0 ≤ sizeLine; decide, fun f nf => ?_⟩
    have hfew := hts.few
    refine ⟨.ref a, rfl, a, _, rfl, .inr (SqT.of (Same.new nf _ _ ha)), _, rfl, by rw [List.length_map]; omega, by rw [List.length_map]; omega, for_range (fun i σ H' => ∃ f x y ps, σ = [some (.ref a), some (.ref f), x, y] ∧ H' f = some (.lst ps) ∧ H f = none ∧ ps.length ≤ 100 * i ∧ (∀ y ∈ ps, Pl H' y) ∧ Same H H') ⟨f, none, none, [], rfl, upd_same, nf, Nat.zero_le _, fun y hy => absurd hy (by simp), Same.new nf⟩ ?_ ?_⟩
    · rintro i σ H' hi ⟨f, x, y, ps, rfl, hf, nf0, lp, hp, k⟩
      rw [List.length_map] at hi
      have hi2 : i < ts.length := by omega
      have ha' := k _ _ ha
      obtain ⟨e1, e2⟩ := text_at (ts := ts) (i := 0 + (i : Int)) (by omega) (by omega)
      have hlen := hts.len _ e2
      generalize ts.getD (0 + (i : Int)).toNat Str.empty = t at e1 e2 hlen
      refine ⟨.ref f, rfl, .ref a, rfl, .int (0 + (i : Int)), rfl, a, _, _, _, rfl, rfl, SqT.of ha', e1, .str t, t.length, rfl, ⟨len6 hlen, rfl⟩, _, rfl, by omega, by omega, fun D nD => lc_range (fun j H2 => ∃ qs, H2 D = some (.lst qs) ∧ qs.length = j ∧ (∀ y ∈ qs, Pl H2 y) ∧ Same H' H2) ⟨[], upd_same, rfl, fun y hy => absurd hy (by simp), Same.new nD⟩ ?_ ?_⟩
      · rintro j H2 hj ⟨qs, hD, hl, hq, k2⟩
        refine ⟨rfl, .int (0 + (i : Int)), rfl, .int (0 + (j : Int)), rfl, by show 2 ≤ sizeLine; decide, fun b nb => ?_⟩
        have hD2 := Same.new (o := .tup [.int (0 + (i : Int)), .int (0 + (j : Int))]) nb _ _ hD
        refine ⟨_, hD2, ?_, qs ++ [.ref b], upd_same, by rw [List.length_append, hl]; rfl, fun y hy => ?_, sameAt (k2.trans (Same.new nb)) nD⟩
        · have h3 : sizeLine = 16777216 := sizeLine_eq
          omega
        · refine Pl.at hD2 ?_
          rcases List.mem_append.mp hy with g | g
          · exact (hq y g).same (Same.new nb)
          · rw [List.mem_singleton.mp g]
            exact ⟨b, _, _, rfl, upd_same⟩
      · rintro H2 ⟨qs, hD, hl, hq, k2⟩
        have hf2 := k2 _ _ hf
        have hql : qs.length ≤ 100 := by omega
        refine ⟨f, D, _, _, rfl, rfl, hf2, hD, ?_, fun r nr => ?_⟩
        · have h3 : sizeLine = 16777216 := sizeLine_eq
          omega
        · refine ⟨r, _, _, ps ++ qs, rfl, upd_same, ?_, by rw [List.length_append]; omega, fun y hy => ?_, (k.trans k2).trans (Same.new nr)⟩
          · cases e : H r with
            | none => rfl
            | some u =>
              rw [(k.trans k2) _ _ e] at nr
              cases nr
          · rcases List.mem_append.mp hy with g | g
            · exact ((hp y g).same k2).same (Same.new nr)
            · exact (hq y g).same (Same.new nr)
    · rintro σ H' ⟨f, x, y, ps, rfl, hf, nf0, lp, hp, k⟩
      rw [List.length_map] at lp
      exact ⟨_, rfl, q f ps H' nf0 hf (by omega) hp k⟩
abbrev sPPlace : Stmt := topS 15
theorem scPPlace : FnScope ["library", "thing", "text", "at"] ["library", "thing"] (defScope sPPlace) := ⟨rfl, rfl, rfl, by decide +kernel, rfl, by decide +kernel, by decide +kernel⟩
theorem ok_PPlace {f : Addr} {fd : FuncData} (F : Fun K "is_place" "is_place" sPPlace f fd) {fPNumber : Addr} {fdPNumber : FuncData} (DPNumber : Dk P w K mg base "is_number" sPNumber ["thing"] 1 spNum fPNumber fdPNumber) (L : LibC K mg C fI fE fdI fdE) (T : Glob mg) : FnOk P w K mg base CX0 2 f fd ["library", "thing"] (spPPlace C) := by
  refine F.ok scPPlace (fun vs H Q E h => ?_) (fun cdv A outer s H vs Q E hr h => ?_)
  · obtain ⟨s, ts, x, o, rfl, _⟩ := h
    rfl
  · obtain ⟨p, ts, x, o, rfl, ⟨⟨dx, a, h1, h2⟩, few, sg1, len1, _⟩, hT, q⟩ := h
    refine ⟨_, (pss_cons (ps_if (PW.pt (pw_or (pt_not (pt_val (pe_callB call_isi (by rfl) T.isinstance PyProof.Rows.boot_isinstance (pa_cons (pv 1) (pa_cons (pe_bltn (v := .ty "tuple") (by rfl) T.tuple (by decide +kernel) rfl) pa_nil))))) (pw_or1 (pt_cmpR op_ne (pe_callB call_len_seq (by rfl) T.len PySem.boot_len (pa_cons (pv 1) pa_nil)) pe_int (nomark _)))))
      (pss_one (ps_ret pe_bl))
      pss_nil)
      (pss_cons (ps_asg (pv 1) (pg_tup (by rfl) (pgs_cons (pg_name (i := 2) scPPlace.nd rfl (.inl rfl)) (pgs_cons (pg_name (i := 3) scPPlace.nd rfl (.inl rfl)) pgs_nil))))
      (pss_cons (ps_if (PW.pt (pw_or (pt_not (pt_val (pe_call DPNumber.ok (hr.mono (by decide)) (by rfl) DPNumber.g DPNumber.F.kp DPNumber.b .nil pass0 (pa_cons (pv 2) pa_nil)))) (pw_or1 (pt_not (pt_val (pe_call DPNumber.ok (hr.mono (by decide)) (by rfl) DPNumber.g DPNumber.F.kp DPNumber.b .nil pass0 (pa_cons (pv 3) pa_nil)))))))
      (pss_one (ps_ret pe_bl))
      pss_nil)
      (pss_one (ps_ret (pe_and (pe_cmpR op_lt (pv 2) (pe_callB call_len_seq (by rfl) T.len PySem.boot_len (pa_cons (pe_fld (pv 0) rfl) pa_nil)) (nomark _)) (pe_one (pe_cmpR op_lt (pv 3) (pe_callB call_lenZ (by rfl) T.len PySem.boot_len (pa_cons (pe_ix ix_tup (pe_fld (pv 0) rfl) (pv 2) (fun _ _ => rfl)) pa_nil)) (nomark _))))))))), ?_⟩
    cases hT with
    | @no _ k hk n s =>
      exact ⟨x, rfl, x, .ty "tuple", .type (Kn.name k), .type "tuple", false, rfl, .ty _, Kd.tyx hk, kit_no n, _, rfl, iteT q⟩
    | @tup b xs e n hy =>
      refine ⟨.ref b, rfl, .ref b, .ty "tuple", .type (Kn.name .tup), .type "tuple", kitB .tup .tup, rfl, .ty _, Kd.tyx (.tup e), kit_kn .tup .tup, _, rfl, iteF ?_⟩
      refine ⟨.ref b, rfl, b, xs, rfl, .inr (SqT.of e), rfl, _, rfl, ite2 (fun g => ?_) (fun g => ?_)⟩
      · have g' : ¬ xs.length = 2 := fun z => by
          rw [z] at g
          exact absurd g (by decide)
        have ez : placeV ts (some xs) = false := by
          match xs, g' with
          | [], _ => rfl
          | [x], _ => rfl
          | [x, y], g' => exact absurd rfl g'
          | x :: y :: z :: r, _ => rfl
        rw [ez] at q
        exact q
      have g' : xs.length = 2 := Classical.byContradiction fun z => g (by
        have : ¬ V.int (xs.length : Int) = V.int 2 := fun e => z (by
          have := V.int.inj e
          omega)
        rw [decide_eq_false this]
        rfl)
      obtain ⟨x, y, rfl⟩ : ∃ x y, xs = [x, y] := by
        match xs, g' with
        | [], g' => cases g'
        | [x], g' => cases g'
        | [x, y], _ => exact ⟨x, y, rfl⟩
        | x :: y :: z :: r, g' => simp at g'
      obtain ⟨⟨k1, hk1⟩, hv1⟩ := hy x (by simp)
      obtain ⟨⟨k2, hk2⟩, hv2⟩ := hy y (by simp)
      refine ⟨.ref b, rfl, b, [x, y], rfl, SqT.of e, rfl, x, [y], rfl, y, [], rfl, rfl, ?_⟩
      refine ⟨x, rfl, x, k1, rfl, hk1, _, rfl, ite2 (fun c => ?_) (fun c => ?_)⟩
      · have c' : numV x = false := by simpa using c
        have ez : placeV ts (some [x, y]) = false := by
          cases x with
          | int i =>
            have c2 : decide (0 ≤ i) = false := c'
            show (decide (0 ≤ i) && _ && _) = false
            rw [c2, Bool.false_and, Bool.false_and]
          | non => rfl
          | bl b => rfl
          | str b => rfl
          | byt b => rfl
          | flt b => rfl
          | ref b => rfl
          | ty b => rfl
        rw [ez] at q
        exact q
      have c' : numV x = true := by simpa using c
      refine ⟨y, rfl, y, k2, rfl, hk2, _, rfl, ite2 (fun d => ?_) (fun d => ?_)⟩
      · have d' : numV y = false := by simpa using d
        have ez : placeV ts (some [x, y]) = false := by
          have e2 : ∀ m : Int, inV2 0 m y = false := fun m => by
            cases y with
            | int j =>
              have c2 : decide (0 ≤ j) = false := d'
              show (decide (0 ≤ j) && _) = false
              rw [c2, Bool.false_and]
            | non => rfl
            | bl b => rfl
            | str b => rfl
            | byt b => rfl
            | flt b => rfl
            | ref b => rfl
            | ty b => rfl
          cases x with
          | int i =>
            show (inV2 0 ((ts.length : Int) - 1) (.int i) && inV2 0 (((ts.getD i.toNat Str.empty).length : Int) - 1) y) = false
            rw [e2, Bool.and_false]
          | non => cases c'
          | bl b => cases c'
          | str b => cases c'
          | byt b => cases c'
          | flt b => cases c'
          | ref b => cases c'
          | ty b => cases c'
        rw [ez] at q
        exact q
      have d' : numV y = true := by simpa using d
      obtain ⟨i, rfl, hi⟩ : ∃ i, x = .int i ∧ 0 ≤ i := by
        cases x with
        | int i => exact ⟨i, rfl, of_decide_eq_true c'⟩
        | non => cases c'
        | bl b => cases c'
        | str b => cases c'
        | byt b => cases c'
        | flt b => cases c'
        | ref b => cases c'
        | ty b => cases c'
      obtain ⟨j, rfl, hj⟩ : ∃ j, y = .int j ∧ 0 ≤ j := by
        cases y with
        | int i => exact ⟨i, rfl, of_decide_eq_true d'⟩
        | non => cases d'
        | bl b => cases d'
        | str b => cases d'
        | byt b => cases d'
        | flt b => cases d'
        | ref b => cases d'
        | ty b => cases d'
      have ez : placeV ts (some [.int i, .int j]) = (decide (i < (ts.length : Int)) && decide (j < ((ts.getD i.toNat Str.empty).length : Int))) := by
        show ((decide (0 ≤ i) && decide (i ≤ (ts.length : Int) - 1)) && (decide (0 ≤ j) && decide (j ≤ ((ts.getD i.toNat Str.empty).length : Int) - 1))) = _
        rw [decide_eq_true hi, decide_eq_true hj, Bool.true_and, Bool.true_and]
        congr 1
        · exact decide_eq_decide.mpr (by omega)
        · exact decide_eq_decide.mpr (by omega)
      rw [ez] at q
      refine ⟨.int i, rfl, .ref p, rfl, p, C, dx, _, .ref a, rfl, h1, L.cl, L.nt, lk1, a, _, rfl, .inr (SqT.of h2), _, _, rfl, rfl, _, rfl, ?_⟩
      rw [List.length_map]
      refine ite2 (fun c => ?_) (fun c => ?_)
      · have hi2 : i < (ts.length : Int) := of_decide_eq_true c
        obtain ⟨et, hm⟩ := text_at hi hi2
        rw [c, Bool.true_and] at q
        exact ⟨.int j, rfl, .ref p, rfl, p, C, dx, _, .ref a, rfl, h1, L.cl, L.nt, lk1, .int i, rfl, a, _, i, _, rfl, rfl, SqT.of h2, et, _, rfl, len5 (len1 _ hm), _, _, rfl, rfl, q⟩
      · have c2 : decide (i < (ts.length : Int)) = false := by simpa using c
        rw [c2, Bool.false_and] at q
        exact q
abbrev sPStands : Stmt := topS 16
theorem scPStands : FnScope ["library", "word", "place", "text", "at"] ["library", "word", "place"] (defScope sPStands) := ⟨rfl, rfl, rfl, by decide +kernel, rfl, by decide +kernel, by decide +kernel⟩
theorem ok_PStands {f : Addr} {fd : FuncData} (F : Fun K "stands" "stands" sPStands f fd) (L : LibC K mg C fI fE fdI fdE) (EW : Cls0 P K mg PE "NoWord" cW) (EP : Cls0 P K mg PE "NoPlace" cP)
    {fPWord : Addr} {fdPWord : FuncData} (DPWord : Dk P w K mg base "is_word" sPWord ["thing"] 2 spWd fPWord fdPWord) {fPPlace : Addr} {fdPPlace : FuncData} (DPPlace : Dk P w K mg base "is_place" sPPlace ["library", "thing"] 2 (spPPlace C) fPPlace fdPPlace) (T : Glob mg) :
    FnOk P w K mg base (L2.CX P w) 3 f fd ["library", "word", "place"] (spStands C cW cP) := by
  obtain ⟨fW, SW⟩ := EW.sup
  obtain ⟨fP, SP⟩ := EP.sup
  refine F.okX scPStands (fun vs H Q E h => ?_) (fun cdv A outer s H vs Q E hr h => ?_)
  · obtain ⟨s, ts, y, x, k, o, rfl, _⟩ := h
    rfl
  · obtain ⟨p, ts, y, x, k, o, rfl, hl, hk, hv, hT, q1, q2, q3⟩ := h
    have hl0 := hl
    obtain ⟨⟨dx, a, h1, h2⟩, few, sg1, len1, sum1⟩ := hl
    refine ⟨_, (pss_cons (ps_if (pt_not (pt_val (pe_call DPWord.ok (hr.mono (by decide)) (by rfl) DPWord.g DPWord.F.kp DPWord.b .nil pass0 (pa_cons (pv 1) pa_nil)))) (pss_one (ps_raise rfl (takes_of rfl rfl rfl rfl) (pmk_exc0 SW hr (by rfl) EW.g))) pss_nil)
      (pss_cons (ps_if (pt_not (pt_val (pe_call DPPlace.ok (hr.mono (by decide)) (by rfl) DPPlace.g DPPlace.F.kp DPPlace.b .nil pass0 (pa_cons (pv 0) (pa_cons (pv 2) pa_nil))))) (pss_one (ps_raise rfl (takes_of rfl rfl rfl rfl) (pmk_exc0 SP hr (by rfl) EP.g))) pss_nil)
      (pss_cons (ps_asg (pv 2) (pg_tup (by rfl) (pgs_cons (pg_name (i := 3) scPStands.nd rfl (.inl rfl)) (pgs_cons (pg_name (i := 4) scPStands.nd rfl (.inl rfl)) pgs_nil))))
      (pss_one (ps_ret (pe_cmpR op_eq (pe_slice sl_str (pe_ix ix_tup (pe_fld (pv 0) rfl) (pv 3) (fun _ _ => rfl)) (po_some (pv 4)) (po_some (pe_op op_add (pv 4) (pe_callB call_lenZ (by rfl) T.len PySem.boot_len (pa_cons (pv 1) pa_nil))))) (pv 1) (nomark _))))))), ?_⟩
    refine ⟨y, rfl, y, k, rfl, hk, hv, _, rfl, ite2 (fun c => ?_) (fun c => ?_)⟩
    · exact q1 (by simpa using c)
    have c' : wordV y = true := by simpa using c
    refine ⟨.ref p, rfl, x, rfl, p, ts, x, o, rfl, hl0, hT, _, rfl, ite2 (fun d => ?_) (fun d => ?_)⟩
    · exact q2 c' (by simpa using d)
    have d' : placeV ts o = true := by simpa using d
    have q := q3 c' d'
    obtain ⟨i, j, rfl, i0, i1, j0, j1⟩ := place_true d'
    obtain ⟨z, rfl⟩ := word_str c'
    obtain ⟨et, hm⟩ := text_at i0 i1
    have hlen := len1 _ hm
    cases hT with
    | @tup b _ e n hy =>
      refine ⟨.ref b, rfl, b, _, rfl, SqT.of e, rfl, .int i, [.int j], rfl, .int j, [], rfl, rfl, ?_⟩
      exact ⟨.ref p, rfl, p, C, dx, _, .ref a, rfl, h1, L.cl, L.nt, lk1, .int i, rfl, a, _, i, _, rfl, rfl, SqT.of h2, et, .int j, rfl, j, rfl, .int j, rfl, .str z, rfl, z, rfl, len5 (hv z rfl), _, _, rfl, rfl, j + (z.length : Int), rfl, _, rfl, len5 hlen, .str z, rfl, rfl, q⟩
abbrev sQTakenBy : Stmt := topS 38
theorem scQTakenBy : FnScope ["step", "place", "many", "source", "target", "text", "at", "within"] ["step", "place"] (defScope sQTakenBy) := ⟨rfl, rfl, rfl, by decide +kernel, rfl, by decide +kernel, by decide +kernel⟩
theorem ok_QTakenBy {f : Addr} {fd : FuncData} (F : Fun K "_taken_by" "_taken_by" sQTakenBy f fd)   (T : Glob mg) : FnOk P w K mg base CX0 1 f fd ["step", "place"] spTakenBy := by
  refine F.ok scQTakenBy (fun vs H Q E h => ?_) (fun cdv A outer s H vs Q E hr h => ?_)
  · obtain ⟨v, p, b, x, a, rfl, _⟩ := h
    rfl
  · refine ⟨_, (pss_cons (ps_asg (pv 0) (pg_tup (by rfl) (pgs_cons (pg_name (i := 2) scQTakenBy.nd rfl (.inl rfl)) (pgs_cons (pg_name (i := 3) scQTakenBy.nd rfl (.inl rfl)) (pgs_cons (pg_name (i := 4) scQTakenBy.nd rfl (.inl rfl)) pgs_nil)))))
      (pss_cons (ps_asg (pv 1) (pg_tup (by rfl) (pgs_cons (pg_name (i := 5) scQTakenBy.nd rfl (.inl rfl)) (pgs_cons (pg_name (i := 6) scQTakenBy.nd rfl (.inl rfl)) pgs_nil))))
      (pss_cons (ps_if (PW.pt (pw_and (pt_cmpR op_notN (pv 3) pe_non (nomark _)) (pw_and (pt_cmpR op_eq (pv 5) (pe_ix ix_tup (pv 3) pe_int (fun _ _ => rfl)) (nomark _)) (pw_and1 (pt_cmpR op_ge (pv 6) (pe_ix ix_tup (pv 3) pe_int (fun _ _ => rfl)) (nomark _))))))
      (pss_cons (ps_set (i := 7) scQTakenBy.nd rfl (.inl rfl) (pe_op op_sub (pv 6) (pe_ix ix_tup (pv 3) pe_int (fun _ _ => rfl))))
        (pss_cons (ps_if (pt_cmpR op_lt (pv 7) (pv 2) (nomark _))
        (pss_one (ps_ret (pe_ifExp (pt_cmpR op_isN (pv 4) pe_non (nomark _)) pe_non (pe_tup (pa_cons (pe_ix ix_tup (pv 4) pe_int (fun _ _ => rfl)) (pa_cons (pe_op op_add (pe_ix ix_tup (pv 4) pe_int (fun _ _ => rfl)) (pv 7)) pa_nil))))))
        pss_nil)
        (pss_one (ps_aug (i := 6) scQTakenBy.nd rfl (.inl rfl) (pv 2) ip_sub))))
      pss_nil)
      (pss_cons (ps_if (PW.pt (pw_and (pt_cmpR op_notN (pv 4) pe_non (nomark _)) (pw_and (pt_cmpR op_eq (pv 5) (pe_ix ix_tup (pv 4) pe_int (fun _ _ => rfl)) (nomark _)) (pw_and1 (pt_cmpR op_ge (pv 6) (pe_ix ix_tup (pv 4) pe_int (fun _ _ => rfl)) (nomark _))))))
      (pss_one (ps_aug (i := 6) scQTakenBy.nd rfl (.inl rfl) (pv 2) ip_add))
      pss_nil)
      (pss_one (ps_ret (pe_tup (pa_cons (pv 5) (pa_cons (pv 6) pa_nil))))))))), ?_⟩
    obtain ⟨v, p, b, x, a, rfl, ⟨b0, xv, yv, rfl, hb0, hx, hy⟩, hb, q⟩ := h
    obtain ⟨m, sp, tp⟩ := p
    have s2 : (2 : Nat) ≤ sizeLine := by decide
    refine ⟨.ref b0, rfl, b0, _, rfl, SqT.of hb0, rfl, .int m, _, rfl, xv, _, rfl, yv, [], rfl, rfl, ?_⟩
    refine ⟨.ref b, rfl, b, _, rfl, SqT.of hb, rfl, .int x, _, rfl, .int a, [], rfl, rfl, ?_⟩
    dsimp only at hx hy q
    cases hx with
    | non =>
      have eq0 : mTakenBy ⟨m, none, tp⟩ (x, a) = mTail m tp x a := rfl
      refine ⟨_, rfl, rfl, _, rfl, iteF ?_⟩
      cases hy with
      | non =>
        refine ⟨_, rfl, rfl, _, rfl, iteF ?_⟩
        exact ⟨.int x, rfl, .int (a), rfl, s2, fun r nr => q _ _ (by rw [eq0]; exact .pr upd_same) (Same.new nr)⟩
      | @pr d u c hd =>
        refine ⟨_, rfl, rfl, _, rfl, iteT ?_⟩
        refine ⟨.int x, rfl, .ref d, rfl, d, _, 0, .int u, rfl, rfl, SqT.of hd, rfl, rfl, _, rfl, ite2 (fun c1 => ?_) (fun c1 => ?_)⟩
        · have e1 : x = u := V.int.inj (of_decide_eq_true c1)
          refine ⟨.int (a), rfl, .ref d, rfl, d, _, 1, .int c, rfl, rfl, SqT.of hd, rfl, _, _, rfl, rfl, _, rfl, ite2 (fun c2 => ?_) (fun c2 => ?_)⟩
          · have e2 : c ≤ (a) := of_decide_eq_true c2
            refine ⟨.int (a), rfl, .int m, rfl, (a), m, rfl, rfl, ?_⟩
            exact ⟨.int x, rfl, .int ((a) + m), rfl, s2, fun r nr => q _ _ (by rw [eq0]; show PrAt _ _ (if _ then _ else _); rw [if_pos ⟨e1, e2⟩]; exact .pr upd_same) (Same.new nr)⟩
          · have e2 : ¬ c ≤ (a) := fun z => c2 (decide_eq_true z)
            exact ⟨.int x, rfl, .int (a), rfl, s2, fun r nr => q _ _ (by rw [eq0]; show PrAt _ _ (if _ then _ else _); rw [if_neg (fun z => e2 z.2)]; exact .pr upd_same) (Same.new nr)⟩
        · have e1 : ¬ x = u := fun z => c1 (decide_eq_true (congrArg V.int z))
          exact ⟨.int x, rfl, .int (a), rfl, s2, fun r nr => q _ _ (by rw [eq0]; show PrAt _ _ (if _ then _ else _); rw [if_neg (fun z => e1 z.1)]; exact .pr upd_same) (Same.new nr)⟩
    | @pr c0 t b1 hc =>
      have eq0 : mTakenBy ⟨m, some (t, b1), tp⟩ (x, a) = if x = t ∧ b1 ≤ a then (if a - b1 < m then tp.map (fun r => (r.1, r.2 + (a - b1))) else mTail m tp x (a - m)) else mTail m tp x a := rfl
      refine ⟨_, rfl, rfl, _, rfl, iteT ?_⟩
      refine ⟨.int x, rfl, .ref c0, rfl, c0, _, 0, .int t, rfl, rfl, SqT.of hc, rfl, rfl, _, rfl, ite2 (fun d1 => ?_) (fun d1 => ?_)⟩
      · have f1 : x = t := V.int.inj (of_decide_eq_true d1)
        refine ⟨.int a, rfl, .ref c0, rfl, c0, _, 1, .int b1, rfl, rfl, SqT.of hc, rfl, _, _, rfl, rfl, _, rfl, ite2 (fun d2 => ?_) (fun d2 => ?_)⟩
        · have f2 : b1 ≤ a := of_decide_eq_true d2
          rw [if_pos ⟨f1, f2⟩] at eq0
          refine ⟨.int a, rfl, .ref c0, rfl, c0, _, 1, .int b1, rfl, rfl, SqT.of hc, rfl, _, _, rfl, rfl, ?_⟩
          refine ⟨.int (a - b1), rfl, .int m, rfl, _, _, rfl, rfl, _, rfl, ite2 (fun d3 => ?_) (fun d3 => ?_)⟩
          · have f3 : a - b1 < m := of_decide_eq_true d3
            rw [if_pos f3] at eq0
            cases hy with
            | non => exact ⟨_, rfl, rfl, _, rfl, iteT (q _ _ (by rw [eq0]; exact .non) (Same.refl _))⟩
            | @pr d u c hd =>
              refine ⟨_, rfl, rfl, _, rfl, iteF ?_⟩
              exact ⟨.ref d, rfl, d, _, 0, .int u, rfl, rfl, SqT.of hd, rfl, .ref d, rfl, d, _, 1, .int c, rfl, rfl, SqT.of hd, rfl, .int (a - b1), rfl, _, _, rfl, rfl, s2, fun r nr => q _ _ (by rw [eq0]; exact .pr upd_same) (Same.new nr)⟩
          · have f3 : ¬ a - b1 < m := fun z => d3 (decide_eq_true z)
            rw [if_neg f3] at eq0
            refine ⟨.int a, rfl, .int m, rfl, a, m, rfl, rfl, ?_⟩
            cases hy with
            | non =>
              refine ⟨_, rfl, rfl, _, rfl, iteF ?_⟩
              exact ⟨.int x, rfl, .int (a - m), rfl, s2, fun r nr => q _ _ (by rw [eq0]; exact .pr upd_same) (Same.new nr)⟩
            | @pr d u c hd =>
              refine ⟨_, rfl, rfl, _, rfl, iteT ?_⟩
              refine ⟨.int x, rfl, .ref d, rfl, d, _, 0, .int u, rfl, rfl, SqT.of hd, rfl, rfl, _, rfl, ite2 (fun c1 => ?_) (fun c1 => ?_)⟩
              · have e1 : x = u := V.int.inj (of_decide_eq_true c1)
                refine ⟨.int (a - m), rfl, .ref d, rfl, d, _, 1, .int c, rfl, rfl, SqT.of hd, rfl, _, _, rfl, rfl, _, rfl, ite2 (fun c2 => ?_) (fun c2 => ?_)⟩
                · have e2 : c ≤ (a - m) := of_decide_eq_true c2
                  refine ⟨.int (a - m), rfl, .int m, rfl, (a - m), m, rfl, rfl, ?_⟩
                  exact ⟨.int x, rfl, .int ((a - m) + m), rfl, s2, fun r nr => q _ _ (by rw [eq0]; show PrAt _ _ (if _ then _ else _); rw [if_pos ⟨e1, e2⟩]; exact .pr upd_same) (Same.new nr)⟩
                · have e2 : ¬ c ≤ (a - m) := fun z => c2 (decide_eq_true z)
                  exact ⟨.int x, rfl, .int (a - m), rfl, s2, fun r nr => q _ _ (by rw [eq0]; show PrAt _ _ (if _ then _ else _); rw [if_neg (fun z => e2 z.2)]; exact .pr upd_same) (Same.new nr)⟩
              · have e1 : ¬ x = u := fun z => c1 (decide_eq_true (congrArg V.int z))
                exact ⟨.int x, rfl, .int (a - m), rfl, s2, fun r nr => q _ _ (by rw [eq0]; show PrAt _ _ (if _ then _ else _); rw [if_neg (fun z => e1 z.1)]; exact .pr upd_same) (Same.new nr)⟩
        · have f2 : ¬ b1 ≤ a := fun z => d2 (decide_eq_true z)
          rw [if_neg (fun z => f2 z.2)] at eq0
          cases hy with
          | non =>
            refine ⟨_, rfl, rfl, _, rfl, iteF ?_⟩
            exact ⟨.int x, rfl, .int (a), rfl, s2, fun r nr => q _ _ (by rw [eq0]; exact .pr upd_same) (Same.new nr)⟩
          | @pr d u c hd =>
            refine ⟨_, rfl, rfl, _, rfl, iteT ?_⟩
            refine ⟨.int x, rfl, .ref d, rfl, d, _, 0, .int u, rfl, rfl, SqT.of hd, rfl, rfl, _, rfl, ite2 (fun c1 => ?_) (fun c1 => ?_)⟩
            · have e1 : x = u := V.int.inj (of_decide_eq_true c1)
              refine ⟨.int (a), rfl, .ref d, rfl, d, _, 1, .int c, rfl, rfl, SqT.of hd, rfl, _, _, rfl, rfl, _, rfl, ite2 (fun c2 => ?_) (fun c2 => ?_)⟩
              · have e2 : c ≤ (a) := of_decide_eq_true c2
                refine ⟨.int (a), rfl, .int m, rfl, (a), m, rfl, rfl, ?_⟩
                exact ⟨.int x, rfl, .int ((a) + m), rfl, s2, fun r nr => q _ _ (by rw [eq0]; show PrAt _ _ (if _ then _ else _); rw [if_pos ⟨e1, e2⟩]; exact .pr upd_same) (Same.new nr)⟩
              · have e2 : ¬ c ≤ (a) := fun z => c2 (decide_eq_true z)
                exact ⟨.int x, rfl, .int (a), rfl, s2, fun r nr => q _ _ (by rw [eq0]; show PrAt _ _ (if _ then _ else _); rw [if_neg (fun z => e2 z.2)]; exact .pr upd_same) (Same.new nr)⟩
            · have e1 : ¬ x = u := fun z => c1 (decide_eq_true (congrArg V.int z))
              exact ⟨.int x, rfl, .int (a), rfl, s2, fun r nr => q _ _ (by rw [eq0]; show PrAt _ _ (if _ then _ else _); rw [if_neg (fun z => e1 z.1)]; exact .pr upd_same) (Same.new nr)⟩
      · have f1 : ¬ x = t := fun z => d1 (decide_eq_true (congrArg V.int z))
        rw [if_neg (fun z => f1 z.1)] at eq0
        cases hy with
        | non =>
          refine ⟨_, rfl, rfl, _, rfl, iteF ?_⟩
          exact ⟨.int x, rfl, .int (a), rfl, s2, fun r nr => q _ _ (by rw [eq0]; exact .pr upd_same) (Same.new nr)⟩
        | @pr d u c hd =>
          refine ⟨_, rfl, rfl, _, rfl, iteT ?_⟩
          refine ⟨.int x, rfl, .ref d, rfl, d, _, 0, .int u, rfl, rfl, SqT.of hd, rfl, rfl, _, rfl, ite2 (fun c1 => ?_) (fun c1 => ?_)⟩
          · have e1 : x = u := V.int.inj (of_decide_eq_true c1)
            refine ⟨.int (a), rfl, .ref d, rfl, d, _, 1, .int c, rfl, rfl, SqT.of hd, rfl, _, _, rfl, rfl, _, rfl, ite2 (fun c2 => ?_) (fun c2 => ?_)⟩
            · have e2 : c ≤ (a) := of_decide_eq_true c2
              refine ⟨.int (a), rfl, .int m, rfl, (a), m, rfl, rfl, ?_⟩
              exact ⟨.int x, rfl, .int ((a) + m), rfl, s2, fun r nr => q _ _ (by rw [eq0]; show PrAt _ _ (if _ then _ else _); rw [if_pos ⟨e1, e2⟩]; exact .pr upd_same) (Same.new nr)⟩
            · have e2 : ¬ c ≤ (a) := fun z => c2 (decide_eq_true z)
              exact ⟨.int x, rfl, .int (a), rfl, s2, fun r nr => q _ _ (by rw [eq0]; show PrAt _ _ (if _ then _ else _); rw [if_neg (fun z => e2 z.2)]; exact .pr upd_same) (Same.new nr)⟩
          · have e1 : ¬ x = u := fun z => c1 (decide_eq_true (congrArg V.int z))
            exact ⟨.int x, rfl, .int (a), rfl, s2, fun r nr => q _ _ (by rw [eq0]; show PrAt _ _ (if _ then _ else _); rw [if_neg (fun z => e1 z.1)]; exact .pr upd_same) (Same.new nr)⟩
abbrev sQTakenOn : Stmt := topS 39
theorem scQTakenOn : FnScope ["steps", "place", "step"] ["steps", "place"] (defScope sQTakenOn) := ⟨rfl, rfl, rfl, by decide +kernel, rfl, by decide +kernel, by decide +kernel⟩
theorem ok_QTakenOn {f : Addr} {fd : FuncData} (F : Fun K "_taken_on" "_taken_on" sQTakenOn f fd)  {fQTakenBy : Addr} {fdQTakenBy : FuncData} (DQTakenBy : Dk P w K mg base "_taken_by" sQTakenBy ["step", "place"] 1 spTakenBy fQTakenBy fdQTakenBy) (T : Glob mg) : FnOk P w K mg base CX0 2 f fd ["steps", "place"] spTakenOn := by
  refine F.ok scQTakenOn (fun vs H Q E h => ?_) (fun cdv A outer s H vs Q E hr h => ?_)
  · obtain ⟨l, xs, ps, b, x, a, rfl, _⟩ := h
    rfl
  · refine ⟨_, (pss_cons (ps_for PassesOwn.never rfl (pi_list (pv 0)) (pg_name (i := 2) scQTakenOn.nd rfl (.inl rfl))
      (pss_cons (ps_set (i := 1) scQTakenOn.nd rfl (.inl rfl) (pe_call DQTakenBy.ok (hr.mono (by decide)) (by rfl) DQTakenBy.g DQTakenBy.F.kp DQTakenBy.b .nil pass0 (pa_cons (pv 2) (pa_cons (pv 1) pa_nil))))
        (pss_one (ps_if (pt_cmpR op_isN (pv 1) pe_non (nomark _))
        (pss_one (ps_ret pe_non))
        pss_nil))))
      (pss_one (ps_ret (pv 1)))), ?_⟩
    obtain ⟨l, xs, ps, b, x, a, rfl, hl, hall, hb, q⟩ := h
    refine ⟨.ref l, rfl, l, rfl, ⟨_, sq_of hl⟩, for_list (xs := xs) (fun i σ H' => ∃ (c : Addr) (x1 a1 : Int) (y : Option V), σ = [some (.ref l), some (.ref c), y] ∧ Same H H' ∧ H' c = some (.tup [.int x1, .int a1]) ∧ mTakenOn ps (x, a) = mTakenOn (ps.drop i) (x1, a1)) ⟨b, x, a, none, rfl, Same.refl H, hb, rfl⟩ (fun i σ H' _ pv => by obtain ⟨c, x1, a1, y, _, k, _⟩ := pv; exact sq_of (k _ _ hl)) ?_ ?_⟩
    · rintro i v σ H' hv ⟨c, x1, a1, y, rfl, k, hc, em⟩
      obtain ⟨p, hp, hst⟩ := hall.at hv
      have ed : ps.drop i = p :: ps.drop (i + 1) := by
        have hi := (List.getElem?_eq_some_iff.mp hp)
        rw [List.drop_eq_getElem_cons hi.1, hi.2]
      rw [ed] at em
      refine ⟨v, rfl, .ref c, rfl, v, p, c, x1, a1, rfl, hst.same k, hc, fun y1 H2 hy1 k2 => ?_⟩
      have em' : mTakenOn ps (x, a) = (mTakenBy p (x1, a1)).bind (mTakenOn (ps.drop (i + 1))) := em
      generalize mTakenBy p (x1, a1) = r at hy1 em'
      cases hy1 with
      | non =>
        refine ⟨_, rfl, rfl, _, rfl, iteT (q _ _ (by rw [em']; exact .non) (k.trans k2))⟩
      | @pr d u1 c1 hd =>
        refine ⟨_, rfl, rfl, _, rfl, iteF ⟨d, u1, c1, _, rfl, k.trans k2, hd, em'⟩⟩
    · rintro σ H' ⟨c, x1, a1, y, rfl, k, hc, em⟩
      have e0 : ps.drop xs.length = [] := List.drop_of_length_le (by rw [hall.len]; exact Nat.le_refl _)
      rw [e0] at em
      exact ⟨_, rfl, q _ _ (by rw [em]; exact .pr hc) k⟩
end
end LawK
set_option maxHeartbeats 4000000
namespace LawK
open PySem PySem.Spec PyProof.Rows L2 Ev
def Step.turn (p : Step) : Step := ⟨p.m, p.t, p.s⟩
theorem StepAt.at {H : Hp} {D : Addr} {xs ys : List V} (hD : H D = some (.lst xs)) {v : V} {p : Step} (h : StepAt H v p) : StepAt (upd H D (.lst ys)) v p := by
  obtain ⟨b, x, y, e, h, h1, h2⟩ := h
  have pr : ∀ {v o}, PrAt H v o → PrAt (upd H D (.lst ys)) v o := fun {v o} h => by
    cases h with
    | non => exact .non
    | pr e => exact .pr (by rw [upd_ne fun z => by rw [z, hD] at e; cases e]; exact e)
  exact ⟨b, x, y, e, by rw [upd_ne fun z => by rw [z, hD] at h; cases h]; exact h, pr h1, pr h2⟩
def mAhead (ts : List Str) (ed : Ed) : List Step := (mSteps ts ed).reverse.map Step.turn
def spPBehind (C cN cP : Addr) : Sp := fun vs H Q E => ∃ (s : Addr) (x : V) (o : Option (List V)) (ts : List Str) (y : V) (oy : Option (List V)), vs = [.ref s, x, y] ∧ LibAt H C s ts ∧ Tg H x o ∧ Shr o ∧ Tg H y oy ∧
  (∀ (ed : Ed) us i j v H', o = some ed.vals → ed.ok → ed.mk ts = some us → Good us → oy = some [.int i, .int j] → placeV ts oy = true → PrAt H' v (mTakenOn (mSteps ts ed) (i, j)) → Same H H' → Q v H') ∧
  ((∀ us, ¬ Right ts o us) → ∀ H', Same H H' → E (.ref cN) none H') ∧
  (∀ us, Right ts o us → placeV ts oy = false → ∀ H', Same H H' → E (.ref cP) none H')
def spPAhead (C cN cP : Addr) : Sp := fun vs H Q E => ∃ (s : Addr) (x : V) (o : Option (List V)) (ts : List Str) (y : V) (oy : Option (List V)), vs = [.ref s, x, y] ∧ LibAt H C s ts ∧ Tg H x o ∧ Shr o ∧ Tg H y oy ∧
  (∀ (ed : Ed) us i j v H', o = some ed.vals → ed.ok → ed.mk ts = some us → Good us → oy = some [.int i, .int j] → placeV us oy = true → PrAt H' v (mTakenOn (mAhead ts ed) (i, j)) → Same H H' → Q v H') ∧
  ((∀ us, ¬ Right ts o us) → ∀ H', Same H H' → E (.ref cN) none H') ∧
  (∀ us, Right ts o us → placeV us oy = false → ∀ H', Same H H' → E (.ref cP) none H')
section
variable {P : Program} {w : World} {K : PySem.W.Frag} {mg : Str → Option Value} {base : Heap}
variable {PE C fI fE cB cN cE cW cP : Addr} {fdI fdE : FuncData}
abbrev sPBehind : Stmt := topS 40
theorem scPBehind : FnScope ["library", "edit", "place"] ["library", "edit", "place"] (defScope sPBehind) := ⟨rfl, rfl, rfl, by decide +kernel, rfl, by decide +kernel, by decide +kernel⟩
theorem ok_PBehind {f : Addr} {fd : FuncData} (F : Fun K "place_behind" "place_behind" sPBehind f fd) (L : LibC K mg C fI fE fdI fdE) (ENoEdit : Cls0 P K mg PE "NoEdit" cN) (ENoPlace : Cls0 P K mg PE "NoPlace" cP) {fPPlace : Addr} {fdPPlace : FuncData} (DPPlace : Dk P w K mg base "is_place" sPPlace ["library", "thing"] 2 (spPPlace C) fPPlace fdPPlace) {fIsEdit : Addr} {fdIsEdit : FuncData} (DIsEdit : Dk P w K mg base "is_edit" sIsEdit ["library", "thing"] 7 (spIsEdit C) fIsEdit fdIsEdit) {fQSteps : Addr} {fdQSteps : FuncData} (DQSteps : Dk P w K mg base "_steps" sQSteps ["texts", "edit"] 1 spSteps fQSteps fdQSteps) {fQTakenOn : Addr} {fdQTakenOn : FuncData} (DQTakenOn : Dk P w K mg base "_taken_on" sQTakenOn ["steps", "place"] 2 spTakenOn fQTakenOn fdQTakenOn) (T : Glob mg) : FnOk P w K mg base (L2.CX P w) 8 f fd ["library", "edit", "place"] (spPBehind C cN cP) := by
  obtain ⟨fN, SNoEdit⟩ := ENoEdit.sup
  obtain ⟨fP, SNoPlace⟩ := ENoPlace.sup
  refine F.okX scPBehind (fun vs H Q E h => ?_) (fun cdv A outer s H vs Q E hr h => ?_)
  · obtain ⟨s, x, o, ts, y, oy, rfl, _⟩ := h
    rfl
  · refine ⟨_, (pss_cons (ps_if (pt_not (pt_val (pe_call DIsEdit.ok (hr.mono (by decide)) (by rfl) DIsEdit.g DIsEdit.F.kp DIsEdit.b .nil pass0 (pa_cons (pv 0) (pa_cons (pv 1) pa_nil)))))
      (pss_one (ps_raise rfl (takes_of rfl rfl rfl rfl) (pmk_exc0 SNoEdit hr (by rfl) ENoEdit.g)))
      pss_nil)
      (pss_cons (ps_if (pt_not (pt_val (pe_call DPPlace.ok (hr.mono (by decide)) (by rfl) DPPlace.g DPPlace.F.kp DPPlace.b .nil pass0 (pa_cons (pv 0) (pa_cons (pv 2) pa_nil)))))
      (pss_one (ps_raise rfl (takes_of rfl rfl rfl rfl) (pmk_exc0 SNoPlace hr (by rfl) ENoPlace.g)))
      pss_nil)
      (pss_one (ps_ret (pe_call DQTakenOn.ok (hr.mono (by decide)) (by rfl) DQTakenOn.g DQTakenOn.F.kp DQTakenOn.b .nil pass0 (pa_cons (pe_call DQSteps.ok (hr.mono (by decide)) (by rfl) DQSteps.g DQSteps.F.kp DQSteps.b .nil pass0 (pa_cons (pe_fld (pv 0) rfl) (pa_cons (pv 1) pa_nil))) (pa_cons (pv 2) pa_nil))))))), ?_⟩
    obtain ⟨s, x, o, ts, y, oy, rfl, hl, hT, hS, hY, q1, q2, q3⟩ := h
    refine ⟨.ref s, rfl, x, rfl, s, x, o, ts, rfl, hl, hT, hS, fun b H1 hb k1 => ⟨_, rfl, ?_⟩⟩
    cases b with
    | false => exact iteT (q2 (fun us hR => absurd (hb.mpr ⟨us, hR⟩) (by simp)) H1 k1)
    | true =>
    have hl1 := hl.same k1
    have hY1 := hY.same k1
    obtain ⟨us, hR⟩ := hb.mp rfl
    refine iteF ⟨.ref s, rfl, y, rfl, s, ts, y, oy, rfl, hl1, hY1, _, rfl, ?_⟩
    refine ite2 (fun d => ?_) (fun d => ?_)
    · exact q3 us hR (by simpa using d) H1 k1
    have d' : placeV ts oy = true := by simpa using d
    obtain ⟨ed, rfl, hok, hmk, hgu⟩ := hR
    obtain ⟨i, j, rfl, i0, i1, j0, j1⟩ := place_true d'
    have hg := hl1.good
    obtain ⟨⟨dx, a, h1, h2⟩, _⟩ := hl1
    have few := hg.few
    have lens : ∀ t ∈ ts, t.length ≤ 5000 := fun t ht => by have := hg.len ht; omega
    cases hT.same k1 with
    | @tup e _ he nlen hy =>
    cases hY1 with
    | @tup b _ hb1 _ _ =>
    refine ⟨.ref s, rfl, s, C, dx, _, .ref a, rfl, h1, L.cl, L.nt, lk1, .ref e, rfl, a, e, ts, us, ed, rfl, h2, he, by omega, lens, hS, hok, hmk, fun l xs H2 nl hl2 hall k2 => ?_⟩
    exact ⟨.ref b, rfl, l, xs, _, b, i, j, rfl, hl2, hall, k2 _ _ hb1, fun v H3 hv k3 => q1 ed us i j v H3 rfl hok hmk hgu rfl d' hv ((k1.trans k2).trans k3)⟩
abbrev sPAhead : Stmt := topS 41
theorem scPAhead : FnScope ["library", "edit", "place", "steps", "turned", "many", "source", "target"] ["library", "edit", "place"] (defScope sPAhead) := ⟨rfl, rfl, rfl, by decide +kernel, rfl, by decide +kernel, by decide +kernel⟩
theorem ok_PAhead {f : Addr} {fd : FuncData} (F : Fun K "place_ahead" "place_ahead" sPAhead f fd) (L : LibC K mg C fI fE fdI fdE) (ENoEdit : Cls0 P K mg PE "NoEdit" cN) (ENoPlace : Cls0 P K mg PE "NoPlace" cP) {fPPlace : Addr} {fdPPlace : FuncData} (DPPlace : Dk P w K mg base "is_place" sPPlace ["library", "thing"] 2 (spPPlace C) fPPlace fdPPlace) {fPEdited : Addr} {fdPEdited : FuncData} (FEd : Fun K "edited" "edited" sPEdited fPEdited fdPEdited) (bEd : Binds K fdPEdited ["library", "edit"] []) (gEd : mg "edited" = some (.ref fPEdited)) (GEd : FnOk P w K mg base (L2.CX P w) 7 fPEdited fdPEdited ["library", "edit"] (spPEdited C cN)) {fQSteps : Addr} {fdQSteps : FuncData} (DQSteps : Dk P w K mg base "_steps" sQSteps ["texts", "edit"] 1 spSteps fQSteps fdQSteps) {fQTakenOn : Addr} {fdQTakenOn : FuncData} (DQTakenOn : Dk P w K mg base "_taken_on" sQTakenOn ["steps", "place"] 2 spTakenOn fQTakenOn fdQTakenOn) (T : Glob mg) : FnOk P w K mg base (L2.CX P w) 8 f fd ["library", "edit", "place"] (spPAhead C cN cP) := by
  obtain ⟨fN, SNoEdit⟩ := ENoEdit.sup
  obtain ⟨fP, SNoPlace⟩ := ENoPlace.sup
  refine F.okX scPAhead (fun vs H Q E h => ?_) (fun cdv A outer s H vs Q E hr h => ?_)
  · obtain ⟨s, x, o, ts, y, oy, rfl, _⟩ := h
    rfl
  · refine ⟨_, (pss_cons (ps_if (pt_not (pt_val (pe_call DPPlace.ok (hr.mono (by decide)) (by rfl) DPPlace.g DPPlace.F.kp DPPlace.b .nil pass0 (pa_cons (pe_callS GEd (hr.mono (by decide)) rfl gEd FEd.kp bEd (fun σ => passAt (takes_of rfl rfl rfl rfl) σ) (pa_cons (pv 0) (pa_cons (pv 1) pa_nil))) (pa_cons (pv 2) pa_nil)))))
      (pss_one (ps_raise rfl (takes_of rfl rfl rfl rfl) (pmk_exc0 SNoPlace hr (by rfl) ENoPlace.g)))
      pss_nil)
      (pss_cons (ps_set (i := 3) scPAhead.nd rfl (.inl rfl) (pe_call DQSteps.ok (hr.mono (by decide)) (by rfl) DQSteps.g DQSteps.F.kp DQSteps.b .nil pass0 (pa_cons (pe_fld (pv 0) rfl) (pa_cons (pv 1) pa_nil))))
      (pss_cons (ps_setLc (i := 4) (own := [("many", 5), ("source", 6), ("target", 7)]) (g := (gTup K 3 (gCons (gName 5) (gCons (gName 6) (gCons (gName 7) gNil))))) (by rfl) scPAhead.nd rfl rfl (sw_true rfl rfl rfl (by decide +kernel)) (RT.pi_revA (by rfl) T.reversed (pv 3)) (blkOk_by (N := ["library", "edit", "place", "steps", "turned", "many", "source", "target"]) (sc := defScope sPAhead) (by decide +kernel)) (fun _ _ _ _ _ => pg_tup (by rfl) (pgs_cons (pg_name (i := 5) scPAhead.nd rfl (.inl rfl)) (pgs_cons (pg_name (i := 6) scPAhead.nd rfl (.inl rfl)) (pgs_cons (pg_name (i := 7) scPAhead.nd rfl (.inl rfl)) pgs_nil)))) (fun _ _ _ _ _ => pts_nil) (fun _ _ _ _ _ => (pe_tup (pa_cons (pv 5) (pa_cons (pv 7) (pa_cons (pv 6) pa_nil))))))
      (pss_one (ps_ret (pe_call DQTakenOn.ok (hr.mono (by decide)) (by rfl) DQTakenOn.g DQTakenOn.F.kp DQTakenOn.b .nil pass0 (pa_cons (pv 4) (pa_cons (pv 2) pa_nil)))))))), ?_⟩
    obtain ⟨s, x, o, ts, y, oy, rfl, hl, hT, hS, hY, q1, q2, q3⟩ := h
    refine ⟨.ref s, rfl, x, rfl, s, x, o, ts, rfl, hl, hT, hS, fun us r H1 hR hlr k1 => ?_, fun hno H1 k1 => q2 hno H1 k1⟩
    have hl1 := hl.same k1
    have hY1 := hY.same k1
    refine ⟨y, rfl, r, us, y, oy, rfl, hlr, hY1, _, rfl, ?_⟩
    refine ite2 (fun d => ?_) (fun d => ?_)
    · exact q3 us hR (by simpa using d) H1 k1
    have d' : placeV us oy = true := by simpa using d
    obtain ⟨ed, rfl, hok, hmk, hgu⟩ := hR
    obtain ⟨i, j, rfl, i0, i1, j0, j1⟩ := place_true d'
    have hg := hl1.good
    obtain ⟨⟨dx, a, h1, h2⟩, _⟩ := hl1
    have few := hg.few
    have lens : ∀ t ∈ ts, t.length ≤ 5000 := fun t ht => by have := hg.len ht; omega
    cases hT.same k1 with
    | @tup e _ he nlen hy =>
    cases hY1 with
    | @tup b _ hb1 _ _ =>
    refine ⟨.ref s, rfl, s, C, dx, _, .ref a, rfl, h1, L.cl, L.nt, lk1, .ref e, rfl, a, e, ts, us, ed, rfl, h2, he, by omega, lens, hS, hok, hmk, fun l xs H2 nl hl2 hall k2 => ?_⟩
    have hlen := hall.len
    have hle := mSteps_len ts ed
    have s3 : (3 : Nat) ≤ sizeLine := by decide
    refine ⟨.ref l, rfl, l, xs, rfl, .inl ⟨sq_of hl2, fun D nD => lc_it (walk_rev (K := K) (a := l) (xs := xs)) (fun n H3 => Same H2 H3 ∧ ∃ zs, H3 D = some (.lst zs) ∧ All2 (StepAt H3) zs (((mSteps ts ed).reverse.take n).map Step.turn)) ⟨Same.new nD, [], upd_same, .nil⟩ (fun n H3 _ g => sq_of (g.1 _ _ hl2)) ?_ ?_⟩⟩
    · rintro n v H3 H3' hn ⟨k3, zs, hD, hz⟩ ⟨rfl, hv⟩
      obtain ⟨p, hp, hst⟩ := hall.at hv
      rw [hlen, ← List.getElem?_reverse (by omega)] at hp
      obtain ⟨b3, sv, tv, rfl, hb3, hsv, htv⟩ := hst.same k3
      refine ⟨b3, _, rfl, SqT.of hb3, rfl, .int p.m, _, rfl, sv, _, rfl, tv, [], rfl, rfl, ?_⟩
      refine ⟨rfl, .int p.m, rfl, tv, rfl, sv, rfl, s3, fun c nc => ?_⟩
      have kc := Same.new (o := .tup [.int p.m, tv, sv]) nc
      have hD4 := kc _ _ hD
      refine ⟨zs, hD4, by rw [hz.len, List.length_map, List.length_take, List.length_reverse]; show _ < 16777216; omega, sameAt (k3.trans kc) nD, _, upd_same, ?_⟩
      rw [List.take_succ, hp, List.map_append]
      exact ((hz.imp fun _ _ => StepAt.same kc).imp fun _ _ => StepAt.at hD4).snoc (StepAt.at hD4 ⟨c, _, _, rfl, upd_same, htv.same kc, hsv.same kc⟩)
    · rintro H3 ⟨k3, zs, hD, hz⟩
      rw [hlen, ← List.length_reverse, List.take_length] at hz
      exact ⟨.ref D, rfl, .ref b, rfl, D, zs, _, b, i, j, rfl, hD, hz, k3 _ _ (k2 _ _ hb1), fun v H4 hv k4 => q1 ed us i j v H4 rfl hok hmk hgu rfl d' hv (((k1.trans k2).trans k3).trans k4)⟩
end
end LawK
set_option maxHeartbeats 4000000
/-! repr of data of any shape. -/
namespace Ev
open PySem PySem.Spec PyProof.Rows L2
mutual
/-- the datum d is told by v: lists and tuples of any length -/
inductive Dg (H : Hp) : V → PyData → Prop
  | non : Dg H .non .none
  | bl (b : Bool) : Dg H (.bl b) (.bool b)
  | int (i : Int) : Dg H (.int i) (.int i)
  | str (x : Str) : Dg H (.str x) (.str x)
  | lst {a : Addr} {vs : List V} {es : List PyData} (e : H a = some (.lst vs)) (n : a ≠ sysModules) (h : Dgs H vs es) : Dg H (.ref a) (.list es)
  | tup {a : Addr} {vs : List V} {es : List PyData} (e : H a = some (.tup vs)) (h : Dgs H vs es) : Dg H (.ref a) (.tuple es)
inductive Dgs (H : Hp) : List V → List PyData → Prop
  | nil : Dgs H [] []
  | cons {v : V} {vs : List V} {d : PyData} {es : List PyData} (h : Dg H v d) (t : Dgs H vs es) : Dgs H (v :: vs) (d :: es)
end
section
variable {X : Cx} {pins : List (Addr × Obj)} {σ : L2.St} {H : Hp} {s : Shared}
mutual
theorem Dg.reads (I : L2.Inv X pins σ H s) {v : V} {d : PyData} (h : Dg H v d) {u : Value} (r : RelV v u) : ∃ as, Reads s.heap u d as ∧ sysModules ∉ as := by
  cases h with
  | non => cases r; exact ⟨_, .none, by simp⟩
  | bl b => cases r; exact ⟨_, .bool b, by simp⟩
  | int i => obtain ⟨t, rfl⟩ := r; exact ⟨_, .int i t, by simp⟩
  | str x => obtain ⟨t, rfl⟩ := r; exact ⟨_, .str x t, by simp⟩
  | lst e n h =>
    cases r
    obtain ⟨its, m, rv, ho⟩ := lst_at I e
    obtain ⟨as, q, nq⟩ := Dgs.reads I h rv
    exact ⟨_, .list ho rfl rfl q, by simp [Ne.symm n, nq]⟩
  | tup e h =>
    cases r
    obtain ⟨its, o, m, rv, ho, hc, hd⟩ := tup_at I e
    obtain ⟨as, q, nq⟩ := Dgs.reads I h rv
    exact ⟨_, .tuple ho hc hd q, nq⟩
theorem Dgs.reads (I : L2.Inv X pins σ H s) {vs : List V} {es : List PyData} (h : Dgs H vs es) {us : List Value} (r : Vals vs us) : ∃ as, ReadsAll s.heap us es as ∧ sysModules ∉ as := by
  cases h with
  | nil => cases r; exact ⟨_, .nil, by simp⟩
  | cons h t =>
    cases r with
    | cons r1 rr =>
      obtain ⟨as, q, nq⟩ := Dg.reads I h r1
      obtain ⟨bs, q2, nq2⟩ := Dgs.reads I t rr
      exact ⟨_, .cons q q2, by simp [nq, nq2]⟩
end
end
/-- repr(x), x a list or tuple of data -/
def rReprG : List V → Hp → VK → Prop := fun xs H Q => ∃ (a : Addr) (d : PyData), xs = [.ref a] ∧ Dg H (.ref a) d ∧ d.showable = true ∧ d.depth ≤ 100 ∧ d.shown.length ≤ 1000000 ∧ Q (.str d.shown) H
theorem call_reprG {X : Cx} {k : Nat} (hg : X.A.guards = some []) (hr : Room k X.A) : CallR X (.builtin "repr") rReprG := by
  intro pins s σ H xs us Q I r h
  obtain ⟨a, d, rfl, hd, hs, hdp, hz, q⟩ := h
  obtain ⟨u, rfl, ru⟩ := vals1 r
  cases ru
  obtain ⟨as, rd, ns⟩ := hd.reads I rfl
  have deep : X.A.units + (d.depth + 1) < cLine := by have := hr.un; omega
  exact repr_of_reads' rd hs (fun _ => ns) hg deep (fun _ _ e => e) (fun h' u tk k => ⟨.str d.shown, H, I.kept k, ⟨_, rfl⟩, q⟩) (Nat.le_trans hz (by decide))
/-- what may be shown: no number of more than twelve figures -/
theorem show_int {i : Int} (h1 : -999999999999 ≤ i) (h2 : i ≤ 999999999999) : (PyData.int i).showable = true ∧ (PyData.int i).leavesShort 13 = true := by
  refine ⟨?_, ?_⟩
  · have := Nat.log2_lt (n := i.natAbs) (k := 1920)
    simp only [PyData.showable, decide_eq_true_eq]
    by_cases h0 : i.natAbs = 0
    · rw [h0]; decide
    · refine (Nat.log2_lt h0).mpr (Nat.lt_of_lt_of_le (show i.natAbs < 2 ^ 40 from ?_) (Nat.pow_le_pow_right (by decide) (by decide)))
      have : (2 : Nat) ^ 40 = 1099511627776 := by decide
      omega
  · simp only [PyData.leavesShort, decide_eq_true_eq]
    exact PyData.shown_int_le2 h1 h2
end Ev
set_option maxHeartbeats 4000000
namespace LawK
open PySem PySem.Spec PyProof.Rows L2 Ev
/-- what a try tells -/
inductive Tr
  | noE
  | noP
  | texts (us : List Str)
  | pl (o : Option (Int × Int))
def TrAt (H : Hp) (v : V) : Tr → Prop
  | .noE => ∃ b, v = .ref b ∧ H b = some (.tup [.str (Str.ofString "NoEdit")])
  | .noP => ∃ b, v = .ref b ∧ H b = some (.tup [.str (Str.ofString "NoPlace")])
  | .texts us => ∃ b c, v = .ref b ∧ H b = some (.tup [.str (Str.ofString "told"), .ref c]) ∧ H c = some (.tup (us.map V.str))
  | .pl o => ∃ b y, v = .ref b ∧ H b = some (.tup [.str (Str.ofString "told"), y]) ∧ PrAt H y o
/-- no tuple changes -/
def TupSame (H H' : Hp) : Prop := ∀ b us, H b = some (.tup us) → H' b = some (.tup us)
theorem TupSame.of {H H' : Hp} (k : Same H H') : TupSame H H' := fun b us e => k _ _ e
theorem TupSame.lst {H : Hp} {D : Addr} {xs ys : List V} (hD : H D = some (.lst xs)) : TupSame H (upd H D (.lst ys)) := fun b us e => by
  rw [upd_ne fun z => by rw [z, hD] at e; cases e]
  exact e
theorem TrAt.keep {H H' : Hp} (k : TupSame H H') {v : V} {t : Tr} (h : TrAt H v t) : TrAt H' v t := by
  cases t with
  | noE => obtain ⟨b, e, h⟩ := h; exact ⟨b, e, k _ _ h⟩
  | noP => obtain ⟨b, e, h⟩ := h; exact ⟨b, e, k _ _ h⟩
  | texts us => obtain ⟨b, c, e, h, h2⟩ := h; exact ⟨b, c, e, k _ _ h, k _ _ h2⟩
  | pl o =>
    obtain ⟨b, y, e, h, h2⟩ := h
    refine ⟨b, y, e, k _ _ h, ?_⟩
    cases h2 with
    | non => exact .non
    | pr e => exact .pr (k _ _ e)
def prD : Option (Int × Int) → PyData
  | none => .none
  | some (i, j) => .tuple [.int i, .int j]
def Tr.data : Tr → PyData
  | .noE => .tuple [.str (Str.ofString "NoEdit")]
  | .noP => .tuple [.str (Str.ofString "NoPlace")]
  | .texts us => .tuple [.str (Str.ofString "told"), .tuple (us.map PyData.str)]
  | .pl o => .tuple [.str (Str.ofString "told"), prD o]
theorem dgs_strs {H : Hp} : ∀ us : List Str, Dgs H (us.map V.str) (us.map PyData.str)
  | [] => .nil
  | u :: us => .cons (.str u) (dgs_strs us)
theorem TrAt.dg {H : Hp} {v : V} {t : Tr} (h : TrAt H v t) : Dg H v t.data := by
  cases t with
  | noE => obtain ⟨b, rfl, h⟩ := h; exact .tup h (.cons (.str _) .nil)
  | noP => obtain ⟨b, rfl, h⟩ := h; exact .tup h (.cons (.str _) .nil)
  | texts us => obtain ⟨b, c, rfl, h, h2⟩ := h; exact .tup h (.cons (.str _) (.cons (.tup h2 (dgs_strs us)) .nil))
  | pl o =>
    obtain ⟨b, y, rfl, h, h2⟩ := h
    refine .tup h (.cons (.str _) (.cons ?_ .nil))
    cases h2 with
    | non => exact .non
    | pr e => exact .tup e (.cons (.int _) (.cons (.int _) .nil))
theorem trs_dgs {H : Hp} {xs : List V} {ts : List Tr} (h : All2 (TrAt H) xs ts) : Dgs H xs (ts.map Tr.data) := by
  induction h with
  | nil => exact .nil
  | cons h _ ih => exact .cons h.dg ih
theorem tr_snoc {H H3 : Hp} {D : Addr} {ys : List V} {es : List Tr} {v : V} {e : Tr} (nD : H D = none) (k : Same H H3) (hD : H3 D = some (.lst ys)) (h : All2 (TrAt H3) ys es) (hv : TrAt H3 v e) :
    upd H3 D (.lst (ys ++ [v])) D = some (.lst (ys ++ [v])) ∧ All2 (TrAt (upd H3 D (.lst (ys ++ [v])))) (ys ++ [v]) (es ++ [e]) ∧ Same H (upd H3 D (.lst (ys ++ [v]))) :=
  ⟨upd_same, (h.imp fun _ _ => TrAt.keep (.lst hD)).snoc (hv.keep (.lst hD)), sameAt k nD⟩
/-- the place behind an edit, ahead of it -/
def behTr (ts : List Str) (ed : Ed) (oy : Option (List V)) : Tr := if placeV ts oy = true then (match oy with
  | some [.int i, .int j] => .pl (mTakenOn (mSteps ts ed) (i, j))
  | _ => .noP) else .noP
def aheTr (ts us : List Str) (ed : Ed) (oy : Option (List V)) : Tr := if placeV us oy = true then (match oy with
  | some [.int i, .int j] => .pl (mTakenOn (mAhead ts ed) (i, j))
  | _ => .noP) else .noP
inductive Tried (ts : List Str) (o oy : Option (List V)) : List Tr → Prop
  | no (h : ∀ us, ¬ Right ts o us) : Tried ts o oy [.noE, .noE, .noE, .noE]
  | yes {ed : Ed} {us : List Str} (e : o = some ed.vals) (k : ed.ok) (m : ed.mk ts = some us) (g : Good us) : Tried ts o oy [.texts us, .texts ts, behTr ts ed oy, aheTr ts us ed oy]
theorem Tried.uniq {ts : List Str} {o oy : Option (List V)} {a b : List Tr} (h : Tried ts o oy a) (h' : Tried ts o oy b) : a = b := by
  cases h with
  | no h =>
    cases h' with
    | no _ => rfl
    | yes e k m g => exact absurd ⟨_, e, k, m, g⟩ (h _)
  | yes e k m g =>
    cases h' with
    | no h => exact absurd ⟨_, e, k, m, g⟩ (h _)
    | yes e' k' m' g' =>
      subst e
      obtain rfl := vals_inj (Option.some.inj e')
      rw [m] at m'
      cases m'
      rfl
def spTries (C : Addr) : Sp := fun vs H Q _ => ∃ (s : Addr) (x : V) (o : Option (List V)) (ts : List Str) (y : V) (oy : Option (List V)), vs = [.ref s, x, y] ∧ LibAt H C s ts ∧ Tg H x o ∧ Shr o ∧ Tg H y oy ∧
  ∀ r xs trs H', H r = none → r ≠ sysModules → H' r = some (.lst xs) → All2 (TrAt H') xs trs → Tried ts o oy trs → Same H H' → Q (.ref r) H'
section
variable {P : Program} {w : World} {K : PySem.W.Frag} {mg : Str → Option Value} {base : Heap}
variable {PE C fI fE cB cN cE cW cP : Addr} {fdI fdE : FuncData}
abbrev sTries : Stmt := topS 68
theorem scTries : FnScope ["library", "edit", "place", "found"] ["library", "edit", "place"] (defScope sTries) := ⟨rfl, rfl, rfl, by decide +kernel, rfl, by decide +kernel, by decide +kernel⟩
theorem ok_Tries {f : Addr} {fd : FuncData} (F : Fun K "_law_tries" "_law_tries" sTries f fd) (L : LibC K mg C fI fE fdI fdE) (EN : Cls0 P K mg PE "NoEdit" cN) (EP : Cls0 P K mg PE "NoPlace" cP) (ne : cN ≠ cP)
    {fEd : Addr} {fdEd : FuncData} (FEd : Fun K "edited" "edited" sPEdited fEd fdEd) (bEd : Binds K fdEd ["library", "edit"] []) (gEd : mg "edited" = some (.ref fEd)) (GEd : FnOk P w K mg base (L2.CX P w) 7 fEd fdEd ["library", "edit"] (spPEdited C cN)) {fLd : Addr} {fdLd : FuncData} (FLd : Fun K "led" "led" sPLed fLd fdLd) (bLd : Binds K fdLd ["library", "edits"] []) (gLd : mg "led" = some (.ref fLd)) (GLd : FnOk P w K mg base (L2.CX P w) 7 fLd fdLd ["library", "edits"] (spPLed C cE)) {fBk : Addr} {fdBk : FuncData} (FBk : Fun K "leading_back" "leading_back" sLeadingBack fBk fdBk) (bBk : Binds K fdBk ["library", "edit"] []) (gBk : mg "leading_back" = some (.ref fBk)) (GBk : FnOk P w K mg base (L2.CX P w) 8 fBk fdBk ["library", "edit"] (spBack C cN)) {fPb : Addr} {fdPb : FuncData} (FPb : Fun K "place_behind" "place_behind" sPBehind fPb fdPb) (bPb : Binds K fdPb ["library", "edit", "place"] []) (gPb : mg "place_behind" = some (.ref fPb)) (GPb : FnOk P w K mg base (L2.CX P w) 8 fPb fdPb ["library", "edit", "place"] (spPBehind C cN cP)) {fPa : Addr} {fdPa : FuncData} (FPa : Fun K "place_ahead" "place_ahead" sPAhead fPa fdPa) (bPa : Binds K fdPa ["library", "edit", "place"] []) (gPa : mg "place_ahead" = some (.ref fPa)) (GPa : FnOk P w K mg base (L2.CX P w) 8 fPa fdPa ["library", "edit", "place"] (spPAhead C cN cP)) (T : Glob mg) : FnOk P w K mg base CX0 9 f fd ["library", "edit", "place"] (spTries C) := by
  refine F.ok scTries (fun vs H Q E h => ?_) (fun cdv A outer s H vs Q E hr h => ?_)
  · obtain ⟨s, x, o, ts, y, oy, rfl, _⟩ := h
    rfl
  · refine ⟨_, (pss_cons (ps_set (i := 3) scTries.nd rfl (.inl rfl) (pe_lstN pa_nil))
      (pss_cons (ps_try_many (tb := fun W => tDrop (tBM K "list" rAppend (tVar 3) (tCons (tTup (tCons (tC (.str "told")) (tCons (tFld K (tCallS (spPEdited C cN) (fun σ => WE W σ) (tCons (tVar 0) (tCons (tVar 1) tNil))) "texts") tNil))) tNil))) (Wout := fun _ _ _ _ => False) rfl rfl takes0
        (fun W pn xe tk _ => pss_one (ps_expr (pe_bm PySem.F.plainAttrs_list PySem.F.slot_list_append PySem.F.type_list_append mt_append (pv 3) (pa_cons (pe_tup (pa_cons pe_str (pa_cons (pe_fld (pe_callS (E := fun σ => WE W σ) GEd (hr.mono (by decide)) (by rfl) gEd FEd.kp bEd (fun σ => passAt tk σ) (pa_cons (pv 0) (pa_cons (pv 1) pa_nil))) rfl) pa_nil))) pa_nil))))
        (HdsOk.cons (ts := fun _ _ _ => tDrop (tBM K "list" rAppend (tVar 3) (tCons (tTup (tCons (tC (.str "NoEdit")) tNil)) tNil))) ⟨rfl, by decide, .inl EN.g⟩ (fun a oe cls d pn hz hf => pss_one (ps_expr (pe_bm PySem.F.plainAttrs_list PySem.F.slot_list_append PySem.F.type_list_append mt_append (pv 3) (pa_cons (pe_tup (pa_cons pe_str pa_nil)) pa_nil)))) HdsOk.nil))
      (pss_cons (ps_try_many (tb := fun W => tDrop (tBM K "list" rAppend (tVar 3) (tCons (tTup (tCons (tC (.str "told")) (tCons (tFld K (tCallS (spPLed C cE) (fun σ => WE W σ) (tCons (tVar 0) (tCons (tSl rSlM (tCallS (spBack C cN) (fun σ => WE W σ) (tCons (tVar 0) (tCons (tVar 1) tNil))) tNoPart (tPart (tC (.int 0)))) tNil))) "texts") tNil))) tNil))) (Wout := fun _ _ _ _ => False) rfl rfl takes0
        (fun W pn xe tk _ => pss_one (ps_expr (pe_bm PySem.F.plainAttrs_list PySem.F.slot_list_append PySem.F.type_list_append mt_append (pv 3) (pa_cons (pe_tup (pa_cons pe_str (pa_cons (pe_fld (pe_callS (E := fun σ => WE W σ) GLd (hr.mono (by decide)) (by rfl) gLd FLd.kp bLd (fun σ => passAt tk σ) (pa_cons (pv 0) (pa_cons (pe_slice sl_tupM (pe_callS (E := fun σ => WE W σ) GBk (hr.mono (by decide)) (by rfl) gBk FBk.kp bBk (fun σ => passAt tk σ) (pa_cons (pv 0) (pa_cons (pv 1) pa_nil))) po_none (po_some pe_int)) pa_nil))) rfl) pa_nil))) pa_nil))))
        (HdsOk.cons (ts := fun _ _ _ => tDrop (tBM K "list" rAppend (tVar 3) (tCons (tTup (tCons (tC (.str "NoEdit")) tNil)) tNil))) ⟨rfl, by decide, .inl EN.g⟩ (fun a oe cls d pn hz hf => pss_one (ps_expr (pe_bm PySem.F.plainAttrs_list PySem.F.slot_list_append PySem.F.type_list_append mt_append (pv 3) (pa_cons (pe_tup (pa_cons pe_str pa_nil)) pa_nil)))) HdsOk.nil))
      (pss_cons (ps_try_many (tb := fun W => tDrop (tBM K "list" rAppend (tVar 3) (tCons (tTup (tCons (tC (.str "told")) (tCons (tCallS (spPBehind C cN cP) (fun σ => WE W σ) (tCons (tVar 0) (tCons (tVar 1) (tCons (tVar 2) tNil)))) tNil))) tNil))) (Wout := fun _ _ _ _ => False) rfl rfl takes0
        (fun W pn xe tk _ => pss_one (ps_expr (pe_bm PySem.F.plainAttrs_list PySem.F.slot_list_append PySem.F.type_list_append mt_append (pv 3) (pa_cons (pe_tup (pa_cons pe_str (pa_cons (pe_callS (E := fun σ => WE W σ) GPb (hr.mono (by decide)) (by rfl) gPb FPb.kp bPb (fun σ => passAt tk σ) (pa_cons (pv 0) (pa_cons (pv 1) (pa_cons (pv 2) pa_nil)))) pa_nil))) pa_nil))))
        (HdsOk.cons (ts := fun _ _ _ => tDrop (tBM K "list" rAppend (tVar 3) (tCons (tTup (tCons (tC (.str "NoEdit")) tNil)) tNil))) ⟨rfl, by decide, .inl EN.g⟩ (fun a oe cls d pn hz hf => pss_one (ps_expr (pe_bm PySem.F.plainAttrs_list PySem.F.slot_list_append PySem.F.type_list_append mt_append (pv 3) (pa_cons (pe_tup (pa_cons pe_str pa_nil)) pa_nil)))) (HdsOk.cons (ts := fun _ _ _ => tDrop (tBM K "list" rAppend (tVar 3) (tCons (tTup (tCons (tC (.str "NoPlace")) tNil)) tNil))) ⟨rfl, by decide, .inl EP.g⟩ (fun a oe cls d pn hz hf => pss_one (ps_expr (pe_bm PySem.F.plainAttrs_list PySem.F.slot_list_append PySem.F.type_list_append mt_append (pv 3) (pa_cons (pe_tup (pa_cons pe_str pa_nil)) pa_nil)))) HdsOk.nil)))
      (pss_cons (ps_try_many (tb := fun W => tDrop (tBM K "list" rAppend (tVar 3) (tCons (tTup (tCons (tC (.str "told")) (tCons (tCallS (spPAhead C cN cP) (fun σ => WE W σ) (tCons (tVar 0) (tCons (tVar 1) (tCons (tVar 2) tNil)))) tNil))) tNil))) (Wout := fun _ _ _ _ => False) rfl rfl takes0
        (fun W pn xe tk _ => pss_one (ps_expr (pe_bm PySem.F.plainAttrs_list PySem.F.slot_list_append PySem.F.type_list_append mt_append (pv 3) (pa_cons (pe_tup (pa_cons pe_str (pa_cons (pe_callS (E := fun σ => WE W σ) GPa (hr.mono (by decide)) (by rfl) gPa FPa.kp bPa (fun σ => passAt tk σ) (pa_cons (pv 0) (pa_cons (pv 1) (pa_cons (pv 2) pa_nil)))) pa_nil))) pa_nil))))
        (HdsOk.cons (ts := fun _ _ _ => tDrop (tBM K "list" rAppend (tVar 3) (tCons (tTup (tCons (tC (.str "NoEdit")) tNil)) tNil))) ⟨rfl, by decide, .inl EN.g⟩ (fun a oe cls d pn hz hf => pss_one (ps_expr (pe_bm PySem.F.plainAttrs_list PySem.F.slot_list_append PySem.F.type_list_append mt_append (pv 3) (pa_cons (pe_tup (pa_cons pe_str pa_nil)) pa_nil)))) (HdsOk.cons (ts := fun _ _ _ => tDrop (tBM K "list" rAppend (tVar 3) (tCons (tTup (tCons (tC (.str "NoPlace")) tNil)) tNil))) ⟨rfl, by decide, .inl EP.g⟩ (fun a oe cls d pn hz hf => pss_one (ps_expr (pe_bm PySem.F.plainAttrs_list PySem.F.slot_list_append PySem.F.type_list_append mt_append (pv 3) (pa_cons (pe_tup (pa_cons pe_str pa_nil)) pa_nil)))) HdsOk.nil)))
      (pss_one (ps_ret (pv 3)))))))) , ?_⟩

    obtain ⟨s, x, o, ts, y, oy, rfl, hl, hT, hS, hY, q⟩ := h
    have s2 : (2 : Nat) ≤ sizeLine := by decide
    have s1 : (1 : Nat) ≤ sizeLine := by decide
    refine ⟨Nat.zero_le _, fun D nD nS => ?_⟩
    have hD0 : upd H D (.lst []) D = some (.lst []) := upd_same
    have hA0 : All2 (TrAt (upd H D (.lst []))) [] [] := .nil
    have kk0 : Same H (upd H D (.lst [])) := Same.new nD
    revert hD0 hA0 kk0
    generalize upd H D (.lst []) = H0
    intro hD0 hA0 kk0
    by_cases hR : ∃ us, Right ts o us
    · obtain ⟨us, hRt⟩ := hR
      obtain ⟨ed, rfl, hok, hmk, hgu⟩ := id hRt
      refine ⟨.ref D, rfl, .inl ⟨rfl, _, sq_of hD0⟩, .ref s, rfl, x, rfl, s, x, _, ts, rfl, hl.same kk0, hT.same kk0, hS, fun us' q' H' hR' hl' k' => ?_, fun hno H' k' => absurd hRt (hno us)⟩
      obtain rfl : us' = us := hR'.uniq hRt
      obtain ⟨⟨dx, a, i1, i2⟩, _⟩ := hl'
      refine ⟨q', C, dx, _, .ref a, rfl, i1, L.cl, L.nt, lk1, ?_⟩
      refine ⟨s2, fun c nc => ?_⟩
      have kc := Same.new (o := .tup [.str (Str.ofString "told"), .ref a]) nc
      have kx := (k').trans kc
      have hDx := kx _ _ hD0
      refine ⟨D, _, _, rfl, rfl, hDx, by rw [hA0.len]; show _ < 16777216; simp, ?_⟩
      obtain ⟨hD1, hA1, kk1⟩ := tr_snoc (e := .texts us') nD (kk0.trans kx) hDx (hA0.imp fun _ _ => TrAt.keep (.of kx)) ⟨c, a, rfl, upd_same, kc _ _ i2⟩
      revert hD1 hA1 kk1
      generalize upd _ D _ = H1
      intro hD1 hA1 kk1

      refine ⟨.ref D, rfl, .inl ⟨rfl, _, sq_of hD1⟩, .ref s, rfl, .ref s, rfl, x, rfl, s, x, _, ts, rfl, hl.same kk1, hT.same kk1, hS, fun ed' us2 r xs H' e1 e2 e3 e4 hr hx k' => ?_, fun hno H' k' => absurd hRt (hno us')⟩
      refine ⟨0, rfl, r, xs, rfl, hr, fun p H2 k2 hp => ?_⟩
      have hp' : H2 p = some (.tup []) := by rw [hp, cutV_to (by decide)]; rfl
      have kz := k'.trans k2
      refine ⟨s, .ref p, some [], ts, rfl, hl.same (kk1.trans kz), .tup hp' rfl (by simp) (fun i x o h => by simp at h), fun os us3 q3 H3 ho hLd hl3 k3 => ?_, fun os i d H3 ho hB k3 nd => ?_, fun ho => by cases ho⟩
      case refine_2 =>
        cases ho
        obtain ⟨vs, o1, _, e2, _⟩ := hB
        simp at e2
      cases ho
      cases hLd
      obtain ⟨⟨dx, a, i1, i2⟩, _⟩ := hl3
      refine ⟨q3, C, dx, _, .ref a, rfl, i1, L.cl, L.nt, lk1, ?_⟩
      refine ⟨s2, fun c nc => ?_⟩
      have kc := Same.new (o := .tup [.str (Str.ofString "told"), .ref a]) nc
      have kx := (kz.trans k3).trans kc
      have hDx := kx _ _ hD1
      refine ⟨D, _, _, rfl, rfl, hDx, by rw [hA1.len]; show _ < 16777216; simp, ?_⟩
      obtain ⟨hD2, hA2, kk2⟩ := tr_snoc (e := .texts ts) nD (kk1.trans kx) hDx (hA1.imp fun _ _ => TrAt.keep (.of kx)) ⟨c, a, rfl, upd_same, kc _ _ i2⟩
      revert hD2 hA2 kk2
      generalize upd _ D _ = H2
      intro hD2 hA2 kk2

      refine ⟨.ref D, rfl, .inl ⟨rfl, _, sq_of hD2⟩, .ref s, rfl, x, rfl, y, rfl, s, x, _, ts, y, oy, rfl, hl.same kk2, hT.same kk2, hS, hY.same kk2, fun ed' us2 i j v H' e1 e2 e3 e4 e5 e6 hv k' => ?_, fun hno H' k' => absurd hRt (hno us'), fun us2 hR2 ef H' k' => ?_⟩
      · obtain rfl := vals_inj (Option.some.inj e1)
        have e9 : behTr ts ed oy = .pl (mTakenOn (mSteps ts ed) (i, j)) := by
          subst e5
          unfold behTr
          rw [if_pos e6]
        refine ⟨s2, fun c nc => ?_⟩
        have kc := Same.new (o := .tup [.str (Str.ofString "told"), v]) nc
        have kx := (k').trans kc
        have hDx := kx _ _ hD2
        refine ⟨D, _, _, rfl, rfl, hDx, by rw [hA2.len]; show _ < 16777216; simp, ?_⟩
        obtain ⟨hD3, hA3, kk3⟩ := tr_snoc (e := behTr ts ed oy) nD (kk2.trans kx) hDx (hA2.imp fun _ _ => TrAt.keep (.of kx)) (by rw [e9]; exact ⟨c, v, rfl, upd_same, PrAt.same kc hv⟩)
        revert hD3 hA3 kk3
        generalize upd _ D _ = H3
        intro hD3 hA3 kk3

        refine ⟨.ref D, rfl, .inl ⟨rfl, _, sq_of hD3⟩, .ref s, rfl, x, rfl, y, rfl, s, x, _, ts, y, oy, rfl, hl.same kk3, hT.same kk3, hS, hY.same kk3, fun ed' us4 i j v H' e1 e2 e3 e4 e5 e6 hv k' => ?_, fun hno H' k' => absurd hRt (hno us'), fun us4 hR' ef H' k' => ?_⟩
        · obtain rfl := vals_inj (Option.some.inj e1)
          rw [hmk] at e3
          cases e3
          have e9 : aheTr ts us' ed oy = .pl (mTakenOn (mAhead ts ed) (i, j)) := by
            subst e5
            unfold aheTr
            rw [if_pos e6]
          refine ⟨s2, fun c nc => ?_⟩
          have kc := Same.new (o := .tup [.str (Str.ofString "told"), v]) nc
          have kx := (k').trans kc
          have hDx := kx _ _ hD3
          refine ⟨D, _, _, rfl, rfl, hDx, by rw [hA3.len]; show _ < 16777216; simp, ?_⟩
          obtain ⟨hD4, hA4, kk4⟩ := tr_snoc (e := aheTr ts us' ed oy) nD (kk3.trans kx) hDx (hA3.imp fun _ _ => TrAt.keep (.of kx)) (by rw [e9]; exact ⟨c, v, rfl, upd_same, PrAt.same kc hv⟩)
          revert hD4 hA4 kk4
          generalize upd _ D _ = H4
          intro hD4 hA4 kk4
          exact ⟨.ref D, rfl, q D _ _ _ nD nS hD4 hA4 (.yes rfl hok hmk hgu) kk4⟩
        · have eu : us4 = us' := hR'.uniq hRt
          subst eu
          have e9 : aheTr ts us4 ed oy = .noP := by
            unfold aheTr
            rw [if_neg (by rw [ef]; decide)]
          refine ⟨false, (exm_at EN.er EP.er EN.ne).trans (congrArg some (decide_eq_false (Ne.symm ne))), (fun z => Bool.noConfusion z), fun _ => ⟨true, (exm_at EP.er EP.er EP.ne).trans (congrArg some (decide_eq_true rfl)), (fun _ a na => ?_), fun z => Bool.noConfusion z⟩⟩
          refine ⟨.ref D, rfl, .inl ⟨rfl, _, sq_of ((k') _ _ hD3)⟩, ?_⟩
          refine ⟨s1, fun c nc => ?_⟩
          have kc := Same.new (o := .tup [.str (Str.ofString "NoPlace")]) nc
          have kx := (k').trans kc
          have hDx := kx _ _ hD3
          refine ⟨D, _, _, rfl, rfl, hDx, by rw [hA3.len]; show _ < 16777216; simp, ?_⟩
          obtain ⟨hD4, hA4, kk4⟩ := tr_snoc (e := aheTr ts us4 ed oy) nD (kk3.trans kx) hDx (hA3.imp fun _ _ => TrAt.keep (.of kx)) (by rw [e9]; exact ⟨c, rfl, upd_same⟩)
          revert hD4 hA4 kk4
          generalize upd _ D _ = H4
          intro hD4 hA4 kk4
          exact ⟨.ref D, rfl, q D _ _ _ nD nS hD4 hA4 (.yes rfl hok hmk hgu) kk4⟩

      · have e9 : behTr ts ed oy = .noP := by
          unfold behTr
          rw [if_neg (by rw [ef]; decide)]
        refine ⟨false, (exm_at EN.er EP.er EN.ne).trans (congrArg some (decide_eq_false (Ne.symm ne))), (fun z => Bool.noConfusion z), fun _ => ⟨true, (exm_at EP.er EP.er EP.ne).trans (congrArg some (decide_eq_true rfl)), (fun _ a na => ?_), fun z => Bool.noConfusion z⟩⟩
        refine ⟨.ref D, rfl, .inl ⟨rfl, _, sq_of ((k') _ _ hD2)⟩, ?_⟩
        refine ⟨s1, fun c nc => ?_⟩
        have kc := Same.new (o := .tup [.str (Str.ofString "NoPlace")]) nc
        have kx := (k').trans kc
        have hDx := kx _ _ hD2
        refine ⟨D, _, _, rfl, rfl, hDx, by rw [hA2.len]; show _ < 16777216; simp, ?_⟩
        obtain ⟨hD3, hA3, kk3⟩ := tr_snoc (e := behTr ts ed oy) nD (kk2.trans kx) hDx (hA2.imp fun _ _ => TrAt.keep (.of kx)) (by rw [e9]; exact ⟨c, rfl, upd_same⟩)
        revert hD3 hA3 kk3
        generalize upd _ D _ = H3
        intro hD3 hA3 kk3

        refine ⟨.ref D, rfl, .inl ⟨rfl, _, sq_of hD3⟩, .ref s, rfl, x, rfl, y, rfl, s, x, _, ts, y, oy, rfl, hl.same kk3, hT.same kk3, hS, hY.same kk3, fun ed' us4 i j v H' e1 e2 e3 e4 e5 e6 hv k' => ?_, fun hno H' k' => absurd hRt (hno us'), fun us4 hR' ef H' k' => ?_⟩
        · obtain rfl := vals_inj (Option.some.inj e1)
          rw [hmk] at e3
          cases e3
          have e9 : aheTr ts us' ed oy = .pl (mTakenOn (mAhead ts ed) (i, j)) := by
            subst e5
            unfold aheTr
            rw [if_pos e6]
          refine ⟨s2, fun c nc => ?_⟩
          have kc := Same.new (o := .tup [.str (Str.ofString "told"), v]) nc
          have kx := (k').trans kc
          have hDx := kx _ _ hD3
          refine ⟨D, _, _, rfl, rfl, hDx, by rw [hA3.len]; show _ < 16777216; simp, ?_⟩
          obtain ⟨hD4, hA4, kk4⟩ := tr_snoc (e := aheTr ts us' ed oy) nD (kk3.trans kx) hDx (hA3.imp fun _ _ => TrAt.keep (.of kx)) (by rw [e9]; exact ⟨c, v, rfl, upd_same, PrAt.same kc hv⟩)
          revert hD4 hA4 kk4
          generalize upd _ D _ = H4
          intro hD4 hA4 kk4
          exact ⟨.ref D, rfl, q D _ _ _ nD nS hD4 hA4 (.yes rfl hok hmk hgu) kk4⟩
        · have eu : us4 = us' := hR'.uniq hRt
          subst eu
          have e9 : aheTr ts us4 ed oy = .noP := by
            unfold aheTr
            rw [if_neg (by rw [ef]; decide)]
          refine ⟨false, (exm_at EN.er EP.er EN.ne).trans (congrArg some (decide_eq_false (Ne.symm ne))), (fun z => Bool.noConfusion z), fun _ => ⟨true, (exm_at EP.er EP.er EP.ne).trans (congrArg some (decide_eq_true rfl)), (fun _ a na => ?_), fun z => Bool.noConfusion z⟩⟩
          refine ⟨.ref D, rfl, .inl ⟨rfl, _, sq_of ((k') _ _ hD3)⟩, ?_⟩
          refine ⟨s1, fun c nc => ?_⟩
          have kc := Same.new (o := .tup [.str (Str.ofString "NoPlace")]) nc
          have kx := (k').trans kc
          have hDx := kx _ _ hD3
          refine ⟨D, _, _, rfl, rfl, hDx, by rw [hA3.len]; show _ < 16777216; simp, ?_⟩
          obtain ⟨hD4, hA4, kk4⟩ := tr_snoc (e := aheTr ts us4 ed oy) nD (kk3.trans kx) hDx (hA3.imp fun _ _ => TrAt.keep (.of kx)) (by rw [e9]; exact ⟨c, rfl, upd_same⟩)
          revert hD4 hA4 kk4
          generalize upd _ D _ = H4
          intro hD4 hA4 kk4
          exact ⟨.ref D, rfl, q D _ _ _ nD nS hD4 hA4 (.yes rfl hok hmk hgu) kk4⟩

    · have hno : ∀ us, ¬ Right ts o us := fun us h => hR ⟨us, h⟩
      refine ⟨.ref D, rfl, .inl ⟨rfl, _, sq_of hD0⟩, .ref s, rfl, x, rfl, s, x, _, ts, rfl, hl.same kk0, hT.same kk0, hS, fun us' q' H' hR' hl' k' => absurd hR' (hno _), fun _ H' k' => ?_⟩
      refine ⟨true, (exm_at EN.er EN.er EN.ne).trans (congrArg some (decide_eq_true rfl)), (fun _ a na => ?_), fun z => Bool.noConfusion z⟩
      refine ⟨.ref D, rfl, .inl ⟨rfl, _, sq_of ((k') _ _ hD0)⟩, ?_⟩
      refine ⟨s1, fun c nc => ?_⟩
      have kc := Same.new (o := .tup [.str (Str.ofString "NoEdit")]) nc
      have kx := (k').trans kc
      have hDx := kx _ _ hD0
      refine ⟨D, _, _, rfl, rfl, hDx, by rw [hA0.len]; show _ < 16777216; simp, ?_⟩
      obtain ⟨hD1, hA1, kk1⟩ := tr_snoc (e := .noE) nD (kk0.trans kx) hDx (hA0.imp fun _ _ => TrAt.keep (.of kx)) ⟨c, rfl, upd_same⟩
      revert hD1 hA1 kk1
      generalize upd _ D _ = H1
      intro hD1 hA1 kk1

      refine ⟨.ref D, rfl, .inl ⟨rfl, _, sq_of hD1⟩, .ref s, rfl, .ref s, rfl, x, rfl, s, x, _, ts, rfl, hl.same kk1, hT.same kk1, hS, fun ed' us2 r xs H' e1 e2 e3 e4 hr hx k' => absurd ⟨ed', e1, e2, e3, e4⟩ (hno us2), fun _ H' k' => ?_⟩
      refine ⟨true, (exm_at EN.er EN.er EN.ne).trans (congrArg some (decide_eq_true rfl)), (fun _ a na => ?_), fun z => Bool.noConfusion z⟩
      refine ⟨.ref D, rfl, .inl ⟨rfl, _, sq_of ((k') _ _ hD1)⟩, ?_⟩
      refine ⟨s1, fun c nc => ?_⟩
      have kc := Same.new (o := .tup [.str (Str.ofString "NoEdit")]) nc
      have kx := (k').trans kc
      have hDx := kx _ _ hD1
      refine ⟨D, _, _, rfl, rfl, hDx, by rw [hA1.len]; show _ < 16777216; simp, ?_⟩
      obtain ⟨hD2, hA2, kk2⟩ := tr_snoc (e := .noE) nD (kk1.trans kx) hDx (hA1.imp fun _ _ => TrAt.keep (.of kx)) ⟨c, rfl, upd_same⟩
      revert hD2 hA2 kk2
      generalize upd _ D _ = H2
      intro hD2 hA2 kk2

      refine ⟨.ref D, rfl, .inl ⟨rfl, _, sq_of hD2⟩, .ref s, rfl, x, rfl, y, rfl, s, x, _, ts, y, oy, rfl, hl.same kk2, hT.same kk2, hS, hY.same kk2, fun ed' us2 i j v H' e1 e2 e3 e4 e5 e6 hv k' => absurd ⟨ed', e1, e2, e3, e4⟩ (hno us2), fun _ H' k' => ?_, fun us2 hR2 ef H' k' => absurd hR2 (hno _)⟩
      refine ⟨true, (exm_at EN.er EN.er EN.ne).trans (congrArg some (decide_eq_true rfl)), (fun _ a na => ?_), fun z => Bool.noConfusion z⟩
      refine ⟨.ref D, rfl, .inl ⟨rfl, _, sq_of ((k') _ _ hD2)⟩, ?_⟩
      refine ⟨s1, fun c nc => ?_⟩
      have kc := Same.new (o := .tup [.str (Str.ofString "NoEdit")]) nc
      have kx := (k').trans kc
      have hDx := kx _ _ hD2
      refine ⟨D, _, _, rfl, rfl, hDx, by rw [hA2.len]; show _ < 16777216; simp, ?_⟩
      obtain ⟨hD3, hA3, kk3⟩ := tr_snoc (e := .noE) nD (kk2.trans kx) hDx (hA2.imp fun _ _ => TrAt.keep (.of kx)) ⟨c, rfl, upd_same⟩
      revert hD3 hA3 kk3
      generalize upd _ D _ = H3
      intro hD3 hA3 kk3

      refine ⟨.ref D, rfl, .inl ⟨rfl, _, sq_of hD3⟩, .ref s, rfl, x, rfl, y, rfl, s, x, _, ts, y, oy, rfl, hl.same kk3, hT.same kk3, hS, hY.same kk3, fun ed' us2 i j v H' e1 e2 e3 e4 e5 e6 hv k' => absurd ⟨ed', e1, e2, e3, e4⟩ (hno us2), fun _ H' k' => ?_, fun us2 hR2 ef H' k' => absurd hR2 (hno _)⟩
      refine ⟨true, (exm_at EN.er EN.er EN.ne).trans (congrArg some (decide_eq_true rfl)), (fun _ a na => ?_), fun z => Bool.noConfusion z⟩
      refine ⟨.ref D, rfl, .inl ⟨rfl, _, sq_of ((k') _ _ hD3)⟩, ?_⟩
      refine ⟨s1, fun c nc => ?_⟩
      have kc := Same.new (o := .tup [.str (Str.ofString "NoEdit")]) nc
      have kx := (k').trans kc
      have hDx := kx _ _ hD3
      refine ⟨D, _, _, rfl, rfl, hDx, by rw [hA3.len]; show _ < 16777216; simp, ?_⟩
      obtain ⟨hD4, hA4, kk4⟩ := tr_snoc (e := .noE) nD (kk3.trans kx) hDx (hA3.imp fun _ _ => TrAt.keep (.of kx)) ⟨c, rfl, upd_same⟩
      revert hD4 hA4 kk4
      generalize upd _ D _ = H4
      intro hD4 hA4 kk4

      exact ⟨.ref D, rfl, q D _ _ _ nD nS hD4 hA4 (.no hno) kk4⟩
end
end LawK
set_option maxHeartbeats 4000000
namespace LawK
open PySem PySem.Spec PyProof.Rows L2 Ev
def R0 : Hp → V → V → Prop := fun _ _ _ => False
def R1 := SameX R0
def R2 := SameX R1
def R3 := SameX R2
theorem R0.mono : ∀ H H' x y, Same H H' → R0 H x y → R0 H' x y := fun _ _ _ _ _ h => h.elim
theorem R1.mono : ∀ H H' x y, Same H H' → R1 H x y → R1 H' x y := SameX.mono R0.mono
theorem R2.mono : ∀ H H' x y, Same H H' → R2 H x y → R2 H' x y := SameX.mono R1.mono
theorem strs_at {ts : List Str} {i : Nat} {x y : V} (hx : (ts.map V.str)[i]? = some x) (hy : (ts.map V.str)[i]? = some y) : ∃ z, x = .str z ∧ y = .str z := by
  rw [hx] at hy
  cases hy
  rw [List.getElem?_map] at hx
  cases e : ts[i]? with
  | none => rw [e] at hx; cases hx
  | some t =>
    rw [e] at hx
    exact ⟨t, (Option.some.inj hx).symm, (Option.some.inj hx).symm⟩
theorem sx_strs {S : Hp → V → V → Prop} {H : Hp} {a b : Addr} {ts : List Str} (hs : ∀ z, S H (.str z) (.str z)) (ha : H a = some (.tup (ts.map V.str))) (hb : H b = some (.tup (ts.map V.str))) (n : ts.length ≤ 1000) : SameX S H (.ref a) (.ref b) :=
  .tup ha hb rfl (by rw [List.length_map]; exact n) fun i x y hx hy => by
    obtain ⟨z, rfl, rfl⟩ := strs_at hx hy
    exact hs z
theorem r3_told {H : Hp} {a b c d : Addr} {w : Str} {ts : List Str} (ha : H a = some (.tup [.str w, .ref c])) (hb : H b = some (.tup [.str w, .ref d])) (hc : H c = some (.tup (ts.map V.str))) (hd : H d = some (.tup (ts.map V.str))) (n : ts.length ≤ 1000) : R3 H (.ref a) (.ref b) :=
  .tup ha hb rfl (by simp) fun i x y hx hy => by
    match i with
    | 0 => cases hx; cases hy; exact .str w
    | 1 => cases hx; cases hy; exact sx_strs (fun z => .str z) hc hd n
    | i + 2 => simp at hx
theorem TrAt.dp {K : PySem.W.Frag} {H : Hp} {v : V} {t : Tr} (h : TrAt H v t) : Dp K H v t.data := by
  cases t with
  | noE => obtain ⟨b, rfl, h⟩ := h; exact .tup (SqT.of h) (.cons (.str _) .nil)
  | noP => obtain ⟨b, rfl, h⟩ := h; exact .tup (SqT.of h) (.cons (.str _) .nil)
  | texts us => obtain ⟨b, c, rfl, h, h2⟩ := h; exact .tup (SqT.of h) (.cons (.str _) (.cons (.tup (SqT.of h2) (dp_strs us)) .nil))
  | pl o =>
    obtain ⟨b, y, rfl, h, h2⟩ := h
    refine .tup (SqT.of h) (.cons (.str _) (.cons ?_ .nil))
    cases h2 with
    | non => exact .non
    | pr e => exact .tup (SqT.of e) (.cons (.int _) (.cons (.int _) .nil))
theorem trs_dp {K : PySem.W.Frag} {H : Hp} {xs : List V} {ts : List Tr} (h : All2 (TrAt H) xs ts) : DpAll K H xs (ts.map Tr.data) := by
  induction h with
  | nil => exact .nil
  | cons h _ ih => exact .cons h.dp ih
def wPl (b : Bool) : Str := if b = true then Str.ofString "told" else Str.ofString "NoPlace"
theorem at_w (b : Bool) : atI [V.str (Str.ofString "NoPlace"), V.str (Str.ofString "told")] (if b = true then 1 else 0) = some (.str (wPl b)) := by cases b <;> rfl
theorem pl_head {H : Hp} {v : V} {b : Bool} {t : Tr} (h : TrAt H v t) (e : if b = true then ∃ o, t = .pl o else t = .noP) : ∃ a r, v = .ref a ∧ H a = some (.tup (.str (wPl b) :: r)) := by
  cases b with
  | false =>
    obtain rfl : t = .noP := e
    obtain ⟨a, e1, e2⟩ := h
    exact ⟨a, [], e1, e2⟩
  | true =>
    obtain ⟨o, rfl⟩ : ∃ o, t = .pl o := e
    obtain ⟨a, y, e1, e2, _⟩ := h
    exact ⟨a, [y], e1, e2⟩
theorem beh_if {ts : List Str} {ed : Ed} {oy : Option (List V)} : if placeV ts oy = true then ∃ o, behTr ts ed oy = .pl o else behTr ts ed oy = .noP := by
  unfold behTr
  cases h : placeV ts oy with
  | false => rfl
  | true =>
    obtain ⟨i, j, rfl, _⟩ := place_true h
    exact ⟨_, rfl⟩
theorem ahe_if {ts us : List Str} {ed : Ed} {oy : Option (List V)} : if placeV us oy = true then ∃ o, aheTr ts us ed oy = .pl o else aheTr ts us ed oy = .noP := by
  unfold aheTr
  cases h : placeV us oy with
  | false => rfl
  | true =>
    obtain ⟨i, j, rfl, _⟩ := place_true h
    exact ⟨_, rfl⟩
def spWords (C : Addr) : Sp := fun vs H Q _ => ∃ (s b : Addr) (x : V) (o : Option (List V)) (ts : List Str) (y : V) (oy : Option (List V)), vs = [.ref s, .ref b, x, y] ∧ LibAt H C s ts ∧ H b = some (.tup (ts.map V.str)) ∧ Tg H x o ∧ Shr o ∧ Tg H y oy ∧ ∀ H', Same H H' → Q (.bl true) H'
def stoodW (ts : List Str) (y : V) (o : Option (List V)) : Str := if wordV y = true then wPl (placeV ts o) else Str.ofString "NoWord"
def spStood (C : Addr) : Sp := fun vs H Q _ => ∃ (s : Addr) (ts : List Str) (y x : V) (k : Kn) (o : Option (List V)), vs = [.ref s, y, x] ∧ LibAt H C s ts ∧ Kd H y k ∧ Vs y ∧ Tg H x o ∧ ∀ H', Same H H' → Q (.str (stoodW ts y o)) H'
section
variable {P : Program} {w : World} {K : PySem.W.Frag} {mg : Str → Option Value} {base : Heap}
variable {PE C fI fE cB cN cE cW cP : Addr} {fdI fdE : FuncData}
abbrev sWords : Stmt := topS 69
theorem scWords : FnScope ["library", "texts", "edit", "place", "told", "later"] ["library", "texts", "edit", "place"] (defScope sWords) := ⟨rfl, rfl, rfl, by decide +kernel, rfl, by decide +kernel, by decide +kernel⟩
theorem ok_Words {f : Addr} {fd : FuncData} (F : Fun K "_law_words" "_law_words" sWords f fd)  {fSame : Addr} {fdSame : FuncData} (DSame : Dk P w K mg base "_law_same" sSame ["actual", "due"] 4 (spSame R3) fSame fdSame) {fIsPlace : Addr} {fdIsPlace : FuncData} (DIsPlace : Dk P w K mg base "_law_is_place" sIsPlace ["texts", "thing"] 3 spPlace fIsPlace fdIsPlace) {fEdited : Addr} {fdEdited : FuncData} (DEdited : Dk P w K mg base "_law_edited" sEdited ["texts", "edit"] 2 spEdited fEdited fdEdited) {fEditRight : Addr} {fdEditRight : FuncData} (DEditRight : Dk P w K mg base "_law_edit_right" sEditRight ["texts", "thing"] 5 spEditRight fEditRight fdEditRight) {fTries : Addr} {fdTries : FuncData} (DTries : Dk P w K mg base "_law_tries" sTries ["library", "edit", "place"] 9 (spTries C) fTries fdTries) (T : Glob mg) : FnOk P w K mg base CX0 10 f fd ["library", "texts", "edit", "place"] (spWords C) := by
  refine F.ok scWords (fun vs H Q E h => ?_) (fun cdv A outer s H vs Q E hr h => ?_)
  · obtain ⟨s, b, x, o, ts, y, oy, rfl, _⟩ := h
    rfl
  · refine ⟨_, (pss_cons (ps_set (i := 4) scWords.nd rfl (.inl rfl) (pe_call DTries.ok (hr.mono (by decide)) (by rfl) DTries.g DTries.F.kp DTries.b .nil pass0 (pa_cons (pv 0) (pa_cons (pv 2) (pa_cons (pv 3) pa_nil)))))
      (pss_cons (ps_if (pt_not (pt_val (pe_call DEditRight.ok (hr.mono (by decide)) (by rfl) DEditRight.g DEditRight.F.kp DEditRight.b .nil pass0 (pa_cons (pv 1) (pa_cons (pv 2) pa_nil)))))
      (pss_one (ps_ret (pe_cmpR (op_eqD hr.units) (pv 4) (pe_op op_rep (pe_lst (pa_cons (pe_tup (pa_cons pe_str pa_nil)) pa_nil)) pe_int) (nomark _))))
      pss_nil)
      (pss_cons (ps_set (i := 5) scWords.nd rfl (.inl rfl) (pe_call DEdited.ok (hr.mono (by decide)) (by rfl) DEdited.g DEdited.F.kp DEdited.b .nil pass0 (pa_cons (pv 1) (pa_cons (pv 2) pa_nil))))
      (pss_cons (ps_if (PW.pt (pw_or (pt_not (pt_val (pe_call DSame.ok (hr.mono (by decide)) (by rfl) DSame.g DSame.F.kp DSame.b .nil pass0 (pa_cons (pe_ix ix_list (pv 4) pe_int (fun _ _ => rfl)) (pa_cons (pe_tup (pa_cons pe_str (pa_cons (pv 5) pa_nil))) pa_nil))))) (pw_or1 (pt_not (pt_val (pe_call DSame.ok (hr.mono (by decide)) (by rfl) DSame.g DSame.F.kp DSame.b .nil pass0 (pa_cons (pe_ix ix_list (pv 4) pe_int (fun _ _ => rfl)) (pa_cons (pe_tup (pa_cons pe_str (pa_cons (pv 1) pa_nil))) pa_nil))))))))
      (pss_one (ps_ret pe_bl))
      pss_nil)
      (pss_cons (ps_if (pt_cmpR op_ne (pe_ix ix_tup (pe_ix ix_list (pv 4) pe_int (fun _ _ => rfl)) pe_int (fun _ _ => rfl)) (pe_ix ix_list (pe_lst (pa_cons pe_str (pa_cons pe_str pa_nil))) (pe_callTy call_int1 (by rfl) T.int (by decide +kernel) (pa_cons (pe_call DIsPlace.ok (hr.mono (by decide)) (by rfl) DIsPlace.g DIsPlace.F.kp DIsPlace.b .nil pass0 (pa_cons (pv 1) (pa_cons (pv 3) pa_nil))) pa_nil)) (fun _ _ => rfl)) (nomark _))
      (pss_one (ps_ret pe_bl))
      pss_nil)
      (pss_one (ps_ret (pe_cmpR op_eq (pe_ix ix_tup (pe_ix ix_list (pv 4) pe_int (fun _ _ => rfl)) pe_int (fun _ _ => rfl)) (pe_ix ix_list (pe_lst (pa_cons pe_str (pa_cons pe_str pa_nil))) (pe_callTy call_int1 (by rfl) T.int (by decide +kernel) (pa_cons (pe_call DIsPlace.ok (hr.mono (by decide)) (by rfl) DIsPlace.g DIsPlace.F.kp DIsPlace.b .nil pass0 (pa_cons (pv 5) (pa_cons (pv 3) pa_nil))) pa_nil)) (fun _ _ => rfl)) (nomark _))))))))), ?_⟩
    obtain ⟨s, b, x, o, ts, y, oy, rfl, hl, hb, hT, hS, hY, q⟩ := h
    have hg := hl.good
    have few := hg.few
    have lens : ∀ t ∈ ts, t.length ≤ 5000 := fun t ht => by have := hg.len ht; omega
    have s2 : (2 : Nat) ≤ sizeLine := by decide
    have s1 : (1 : Nat) ≤ sizeLine := by decide
    refine ⟨.ref s, rfl, x, rfl, y, rfl, s, x, o, ts, y, oy, rfl, hl, hT, hS, hY, fun r xs trs H1 nr hrs hr1 hA hTr k1 => ?_⟩
    refine ⟨.ref b, rfl, x, rfl, b, x, o, ts, rfl, k1 _ _ hb, hg, hT.same k1, hS, fun c H2 hc k2 => ⟨_, rfl, ?_⟩⟩
    have kk := k1.trans k2
    have hA2 := hA.imp fun _ _ => TrAt.keep (.of k2)
    have hr2 := k2 _ _ hr1
    cases c with
    | false =>
      refine iteT ?_
      cases hTr with
      | yes e1 e2 e3 e4 => exact absurd (hc.mpr ⟨_, _, e1, e2, e3, e4⟩) (by decide)
      | no hno =>
      refine ⟨.ref r, rfl, s1, fun c nc => ⟨s1, fun l nl => ⟨l, 4, [.ref c], rfl, rfl, upd_same, by decide, by decide, by show 4 ≤ sizeLine; decide, fun p np => ?_⟩⟩⟩
      have ka := Same.new (o := .tup [.str (Str.ofString "NoEdit")]) nc
      have kb := Same.new (o := .lst [.ref c]) nl
      have kp := Same.new (o := .lst (List.replicate (4 : Int).toNat [V.ref c]).flatten) np
      have k3 := (ka.trans kb).trans kp
      have hc3 : TrAt (upd (upd (upd H2 c (.tup [.str (Str.ofString "NoEdit")])) l (.lst [.ref c])) p (.lst (List.replicate (4 : Int).toNat [V.ref c]).flatten)) (.ref c) .noE := ⟨c, rfl, kp _ _ (kb _ _ upd_same)⟩
      have d1 := trs_dp (K := K) (hA2.imp fun _ _ => TrAt.keep (.of k3))
      have d2 := trs_dp (K := K) (All2.cons hc3 (All2.cons hc3 (All2.cons hc3 (All2.cons hc3 All2.nil))))
      refine ⟨_, _, .lst (sq_of (k3 _ _ hr2)) d1, .lst (sq_of upd_same) d2, by decide +kernel, by decide +kernel, ?_⟩
      exact q _ (kk.trans k3)
    | true =>
      refine iteF ?_
      cases hTr with
      | no hno => exact absurd (hc.mp rfl) (fun ⟨us, h⟩ => hno us h)
      | @yes ed us e1 hok hmk hgu =>
      subst e1
      have fewu := hgu.few
      have lensu : ∀ t ∈ us, t.length ≤ 5000 := fun t ht => by have := hgu.len ht; omega
      cases hT.same kk with
      | @tup e _ he nlen hy =>
      cases hA2 with
      | @cons v0 _ _ _ t0 hA2 =>
      cases hA2 with
      | @cons v1 _ _ _ t1 hA2 =>
      cases hA2 with
      | @cons v2 _ _ _ t2 hA2 =>
      cases hA2 with
      | @cons v3 _ _ _ t3 hA2 =>
      cases hA2
      refine ⟨.ref b, rfl, .ref e, rfl, b, e, ts, us, ed, rfl, kk _ _ hb, he, hg, hS, fits_iff.mpr ⟨hok, us, hmk⟩, hmk, fun o1 H3 no1 ho1 k3 => ?_⟩
      obtain ⟨b0, c0, rfl, h0, g0⟩ := t0
      obtain ⟨b1, c1, rfl, h1, g1⟩ := t1
      obtain ⟨b2, r2, rfl, h2⟩ := pl_head t2 beh_if
      obtain ⟨b3, r3, rfl, h3⟩ := pl_head t3 ahe_if
      have kb := kk.trans k3
      refine ⟨.ref r, rfl, r, _, 0, .ref b0, rfl, rfl, sq_of (k3 _ _ hr2), rfl, .ref o1, rfl, s2, fun q1 nq1 => ?_⟩
      have kq := Same.new (o := .tup [.str (Str.ofString "told"), .ref o1]) nq1
      refine ⟨.ref b0, .ref q1, rfl, r3_told (kq _ _ (k3 _ _ h0)) upd_same (kq _ _ (k3 _ _ g0)) (kq _ _ ho1) (by omega), fun H4 k4 => ⟨_, rfl, iteF ?_⟩⟩
      have k34 := (k3.trans kq).trans k4
      refine ⟨.ref r, rfl, r, _, 1, .ref b1, rfl, rfl, sq_of (k34 _ _ hr2), rfl, .ref b, rfl, s2, fun q2 nq2 => ?_⟩
      have kq2 := Same.new (o := .tup [.str (Str.ofString "told"), .ref b]) nq2
      refine ⟨.ref b1, .ref q2, rfl, r3_told (kq2 _ _ (k34 _ _ h1)) upd_same (kq2 _ _ (k34 _ _ g1)) (kq2 _ _ ((kk.trans k34) _ _ hb)) (by omega), fun H5 k5 => ⟨_, rfl, iteF ?_⟩⟩
      have k35 := (k34.trans kq2).trans k5
      refine ⟨.ref r, rfl, r, _, 2, .ref b2, rfl, rfl, sq_of (k35 _ _ hr2), rfl, b2, _, 0, .str _, rfl, rfl, SqT.of (k35 _ _ h2), atI_nat (j := 0) rfl, s2, fun l nl => ?_⟩
      have kl := Same.new (o := .lst [.str (Str.ofString "NoPlace"), .str (Str.ofString "told")]) nl
      have k36 := k35.trans kl
      refine ⟨.ref b, rfl, y, rfl, b, ts, y, oy, rfl, (kk.trans k36) _ _ hb, by omega, lens, hY.same (kk.trans k36), .inr ⟨placeV ts oy, rfl, l, _, _, .str _, rfl, rfl, sq_of upd_same, at_w _, rfl, _, rfl, iteNS rfl ?_⟩⟩
      refine ⟨.ref r, rfl, r, _, 3, .ref b3, rfl, rfl, sq_of (k36 _ _ hr2), rfl, b3, _, 0, .str _, rfl, rfl, SqT.of (k36 _ _ h3), atI_nat (j := 0) rfl, s2, fun l2 nl2 => ?_⟩
      have kl2 := Same.new (o := .lst [.str (Str.ofString "NoPlace"), .str (Str.ofString "told")]) nl2
      have k37 := k36.trans kl2
      have ho17 := kl2 _ _ (kl _ _ (((kq.trans k4).trans (kq2.trans k5)) _ _ ho1))
      refine ⟨.ref o1, rfl, y, rfl, o1, us, y, oy, rfl, ho17, by omega, lensu, hY.same (kk.trans k37), .inr ⟨placeV us oy, rfl, l2, _, _, .str _, rfl, rfl, sq_of upd_same, at_w _, rfl, ?_⟩⟩
      have q' := q _ (kk.trans k37)
      rw [← decide_eq_true (p := V.str (wPl (placeV us oy)) = V.str (wPl (placeV us oy))) rfl] at q'
      exact q'
abbrev sStood : Stmt := topS 70
theorem scStood : FnScope ["library", "word", "place"] ["library", "word", "place"] (defScope sStood) := ⟨rfl, rfl, rfl, by decide +kernel, rfl, by decide +kernel, by decide +kernel⟩
theorem ok_Stood {f fS : Addr} {fd fdS : FuncData} (F : Fun K "_law_stood" "_law_stood" sStood f fd) (L : LibC K mg C fI fE fdI fdE) (EW : Cls0 P K mg PE "NoWord" cW) (EP : Cls0 P K mg PE "NoPlace" cP) (ne : cW ≠ cP)
    (FS : Fun K "stands" "stands" sPStands fS fdS) (bS : Binds K fdS ["library", "word", "place"] []) (gS : mg "stands" = some (.ref fS)) (GS : FnOk P w K mg base (L2.CX P w) 3 fS fdS ["library", "word", "place"] (spStands C cW cP)) (T : Glob mg) :
    FnOk P w K mg base CX0 4 f fd ["library", "word", "place"] (spStood C) := by
  refine F.ok scStood (fun vs H Q E h => ?_) (fun cdv A outer s H vs Q E hr h => ?_)
  · obtain ⟨s, ts, y, x, k, o, rfl, _⟩ := h
    rfl
  · obtain ⟨p, ts, y, x, k, o, rfl, hl, hk, hv, hT, q⟩ := h
    refine ⟨_, pss_one (ps_try_many (tb := fun W => tSeq (tDrop (tCallS (spStands C cW cP) (fun σ => WE W σ) (tCons (tVar 0) (tCons (tVar 1) (tCons (tVar 2) tNil))))) (tRet (tC (.str "told")))) (Wout := fun _ _ _ _ => False) rfl rfl takes0
        (fun W pn xe tk _ => pss_cons (ps_expr (pe_callS (E := fun σ => WE W σ) GS hr (by rfl) gS FS.kp bS (fun σ => passAt tk σ) (pa_cons (pv 0) (pa_cons (pv 1) (pa_cons (pv 2) pa_nil))))) (pss_one (ps_ret pe_str)))
        (HdsOk.cons ⟨rfl, by decide, .inl EW.g⟩ (fun a oe cls d pn hz hf => pss_one (ps_ret pe_str)) (HdsOk.cons ⟨rfl, by decide, .inl EP.g⟩ (fun a oe cls d pn hz hf => pss_one (ps_ret pe_str)) HdsOk.nil))), ?_⟩
    have q' := q H (Same.refl H)
    refine ⟨.ref p, rfl, y, rfl, x, rfl, p, ts, y, x, k, o, rfl, hl, hk, hv, hT, fun e1 => ?_, fun e1 e2 => ?_, fun e1 e2 => ?_⟩
    · refine ⟨true, (exm_at EW.er EW.er EW.ne).trans (congrArg some (decide_eq_true rfl)), (fun _ a na => ?_), fun z => Bool.noConfusion z⟩
      unfold stoodW at q'
      rw [if_neg (by rw [e1]; decide)] at q'
      exact q'
    · refine ⟨false, (exm_at EW.er EP.er EW.ne).trans (congrArg some (decide_eq_false (Ne.symm ne))), (fun z => Bool.noConfusion z), fun _ => ⟨true, (exm_at EP.er EP.er EP.ne).trans (congrArg some (decide_eq_true rfl)), (fun _ a na => ?_), fun z => Bool.noConfusion z⟩⟩
      unfold stoodW at q'
      rw [if_pos e1, e2] at q'
      exact q'
    · unfold stoodW at q'
      rw [if_pos e1, e2] at q'
      exact q'
end
end LawK
set_option maxHeartbeats 4000000
namespace LawK
open PySem PySem.Spec PyProof.Rows L2 Ev
/-- numbers that are not far from 0 -/
def bdP (B : Int) : Option (Int × Int) → Prop
  | none => True
  | some (i, j) => -B ≤ i ∧ i ≤ B ∧ -B ≤ j ∧ j ≤ B
def Step.bd (p : Step) : Prop := -10000 ≤ p.m ∧ p.m ≤ 10000 ∧ bdP 10000 p.s ∧ bdP 10000 p.t
theorem Step.bd.turn {p : Step} (h : p.bd) : p.turn.bd := ⟨h.1, h.2.1, h.2.2.2, h.2.2.1⟩
theorem mText_le {ts : List Str} (hg : Good ts) (t : Int) : (mText ts t).length ≤ 2000 := by
  unfold mText
  by_cases h : t.toNat < ts.length
  · have e : ts.getD t.toNat Str.empty = ts[t.toNat] := by simp [List.getD_eq_getElem?_getD, h]
    rw [e]
    exact hg.len (List.getElem_mem h)
  · have e : ts.getD t.toNat Str.empty = Str.empty := by simp [List.getD_eq_getElem?_getD, h]
    rw [e]
    exact Nat.zero_le _
theorem mSteps_bd {ts : List Str} {ed : Ed} (hg : Good ts) (hs : Shr (some ed.vals)) (hf : ed.fits ts) : ∀ p ∈ mSteps ts ed, p.bd := by
  have few := hg.few
  have m := mText_le hg
  intro p hp
  cases ed with
  | put t a z =>
    have lz := (hs _ rfl z (by simp [Ed.vals])).1
    obtain ⟨t0, t1, _, a0, a1⟩ := hf
    have := m t
    rw [List.mem_singleton.mp hp]
    exact ⟨by show _ ≤ ((z.length : Nat) : Int); omega, by show ((z.length : Nat) : Int) ≤ _; omega, trivial, by omega, by omega, by omega, by omega⟩
  | cut t a n =>
    obtain ⟨t0, t1, a0, n0, a1⟩ := hf
    have := m t
    rw [List.mem_singleton.mp hp]
    exact ⟨by show _ ≤ n; omega, by show n ≤ _; omega, ⟨by omega, by omega, by omega, by omega⟩, trivial⟩
  | change t a z =>
    have lz := (hs _ rfl z (by simp [Ed.vals])).1
    obtain ⟨_, t0, t1, a0, a1⟩ := hf
    have := m t
    rcases List.mem_cons.mp hp with e | e
    · rw [e]
      exact ⟨by show _ ≤ ((z.length : Nat) : Int); omega, by show ((z.length : Nat) : Int) ≤ _; omega, ⟨by omega, by omega, by omega, by omega⟩, trivial⟩
    · rw [List.mem_singleton.mp e]
      exact ⟨by show _ ≤ ((z.length : Nat) : Int); omega, by show ((z.length : Nat) : Int) ≤ _; omega, trivial, by omega, by omega, by omega, by omega⟩
  | come z =>
    have lz := (hs _ rfl z (by simp [Ed.vals])).1
    rw [List.mem_singleton.mp hp]
    exact ⟨by show _ ≤ ((z.length : Nat) : Int); omega, by show ((z.length : Nat) : Int) ≤ _; omega, trivial, by omega, by omega, by omega, by omega⟩
  | go => cases hp
  | split t a =>
    obtain ⟨t0, t1, a0, a1⟩ := hf
    have := m t
    rw [List.mem_singleton.mp hp]
    exact ⟨by show _ ≤ ((mText ts t).length : Int) - a; omega, by show ((mText ts t).length : Int) - a ≤ _; omega, ⟨by omega, by omega, by omega, by omega⟩, by omega, by omega, by omega, by omega⟩
  | join t u =>
    obtain ⟨t0, t1, u0, u1, _⟩ := hf
    have := m t
    have := m u
    rw [List.mem_singleton.mp hp]
    exact ⟨by show _ ≤ ((mText ts u).length : Int); omega, by show ((mText ts u).length : Int) ≤ _; omega, ⟨by omega, by omega, by omega, by omega⟩, by omega, by omega, by omega, by omega⟩
  | move t a n u r =>
    obtain ⟨t0, t1, a0, n0, a1, u0, u1, p0, p1⟩ := hf
    have := m t
    have := m u
    have hn : 0 ≤ n * (if u = t then 1 else 0) := by split <;> omega
    rw [List.mem_singleton.mp hp]
    exact ⟨by show _ ≤ n; omega, by show n ≤ _; omega, ⟨by omega, by omega, by omega, by omega⟩, by omega, by omega, by omega, by omega⟩
theorem tail_bd {m B x a : Int} {t : Option (Int × Int)} (h1 : -10000 ≤ m) (h2 : m ≤ 10000) (h : bdP B (some (x, a))) : bdP (B + 10000) (mTail m t x a) := by
  obtain ⟨x0, x1, a0, a1⟩ := h
  unfold mTail
  cases t with
  | none => exact ⟨by omega, by omega, by omega, by omega⟩
  | some r =>
    obtain ⟨u, c⟩ := r
    dsimp only
    split <;> exact ⟨by omega, by omega, by omega, by omega⟩
theorem bdP.mono {B B' : Int} {o : Option (Int × Int)} (h : bdP B o) (k : B ≤ B') : bdP B' o := by
  cases o with
  | none => trivial
  | some r =>
    obtain ⟨i, j⟩ := r
    obtain ⟨h1, h2, h3, h4⟩ := h
    exact ⟨by omega, by omega, by omega, by omega⟩
theorem by_bd {p : Step} {B : Int} {q : Int × Int} (hp : p.bd) (B0 : 0 ≤ B) (h : bdP B (some q)) : bdP (B + 20000) (mTakenBy p q) := by
  obtain ⟨m, s, t⟩ := p
  obtain ⟨x, a⟩ := q
  obtain ⟨m0, m1, hs, ht⟩ := hp
  have h' := h
  obtain ⟨x0, x1, a0, a1⟩ := h'
  unfold mTakenBy
  cases s with
  | none => exact (tail_bd m0 m1 h).mono (by omega)
  | some r =>
    obtain ⟨c, b⟩ := r
    obtain ⟨c0, c1, b0, b1⟩ := hs
    dsimp only at m0 m1 ht ⊢
    split
    · split
      · cases t with
        | none => trivial
        | some r =>
          obtain ⟨u, d⟩ := r
          obtain ⟨u0, u1, d0, d1⟩ := ht
          exact ⟨by dsimp only; omega, by dsimp only; omega, by dsimp only; omega, by dsimp only; omega⟩
      · exact (tail_bd (B := B + 10000) m0 m1 ⟨by omega, by omega, by omega, by omega⟩).mono (by omega)
    · exact (tail_bd m0 m1 h).mono (by omega)
theorem on_bd : ∀ (ps : List Step) (q : Int × Int) (B : Int), (∀ p ∈ ps, p.bd) → 0 ≤ B → bdP B (some q) → bdP (B + 20000 * (ps.length : Int)) (mTakenOn ps q)
  | [], q, B, _, _, h => h.mono (by simp)
  | p :: ps, q, B, hp, B0, h => by
    have h1 := by_bd (hp p List.mem_cons_self) B0 h
    show bdP _ ((mTakenBy p q).bind (mTakenOn ps))
    cases e : mTakenBy p q with
    | none => trivial
    | some r =>
      rw [e] at h1
      have h2 := on_bd ps r (B + 20000) (fun x hx => hp x (List.mem_cons_of_mem _ hx)) (by omega) h1
      refine h2.mono ?_
      rw [List.length_cons]
      omega
def Tr.small : Tr → Prop
  | .noE => True
  | .noP => True
  | .texts us => Good us
  | .pl o => bdP 100000 o
theorem place_bd {ts : List Str} {oy : Option (List V)} (hg : Good ts) (h : placeV ts oy = true) : ∃ i j, oy = some [.int i, .int j] ∧ bdP 3000 (some (i, j)) := by
  obtain ⟨i, j, rfl, i0, i1, j0, j1⟩ := place_true h
  have few := hg.few
  have l := mText_le hg i
  have j1' : j < ((mText ts i).length : Int) := j1
  exact ⟨i, j, rfl, by omega, by omega, by omega, by omega⟩
theorem tried_small {ts : List Str} {o oy : Option (List V)} {trs : List Tr} (h : Tried ts o oy trs) (hg : Good ts) (hs : Shr o) : ∀ t ∈ trs, t.small := by
  cases h with
  | no _ =>
    intro t ht
    simp only [List.mem_cons, List.not_mem_nil, or_false] at ht
    rcases ht with rfl | rfl | rfl | rfl <;> trivial
  | @yes ed us e k m g =>
    subst e
    have hb := mSteps_bd hg hs (fits_iff.mpr ⟨k, us, m⟩)
    have hl := mSteps_len ts ed
    intro t ht
    simp only [List.mem_cons, List.not_mem_nil, or_false] at ht
    rcases ht with rfl | rfl | rfl | rfl
    · exact g
    · exact hg
    · unfold behTr
      split
      · rename_i hp
        obtain ⟨i, j, rfl, b⟩ := place_bd hg hp
        exact (on_bd _ (i, j) 3000 hb (by decide) b).mono (by omega)
      · trivial
    · unfold aheTr
      split
      · rename_i hp
        obtain ⟨i, j, rfl, b⟩ := place_bd g hp
        have hb2 : ∀ p ∈ mAhead ts ed, p.bd := fun p hp => by
          obtain ⟨p', h1, rfl⟩ := List.mem_map.mp hp
          exact (hb p' (List.mem_reverse.mp h1)).turn
        have hl2 : (mAhead ts ed).length ≤ 2 := by
          unfold mAhead
          rw [List.length_map, List.length_reverse]
          exact hl
        exact (on_bd _ (i, j) 3000 hb2 (by decide) b).mono (by omega)
      · trivial
theorem strs_data : ∀ us : List Str, (∀ t ∈ us, sgB t = true) → PyData.showableAll (us.map PyData.str) = true ∧ PyData.depthAll (us.map PyData.str) = 0 ∧ PyData.leavesShortAll 13 (us.map PyData.str) = true ∧ PyData.weightAll (us.map PyData.str) = ((us.map V.str).map slen).sum + us.length
  | [], _ => ⟨rfl, rfl, rfl, rfl⟩
  | u :: us, h => by
    obtain ⟨h1, h2, h3, h4⟩ := strs_data us fun t ht => h t (List.mem_cons_of_mem _ ht)
    have hu := h u List.mem_cons_self
    refine ⟨?_, ?_, ?_, ?_⟩
    · simp only [List.map_cons, PyData.showableAll, PyData.showable, h1, Bool.and_self]
    · simp only [List.map_cons, PyData.depthAll, PyData.depth, h2, Nat.max_self]
    · simp only [List.map_cons, PyData.leavesShortAll, PyData.leavesShort, h3, Bool.and_true, List.all_eq_true, decide_eq_true_eq]
      intro c hc
      have := sgB_mem hu hc
      unfold sgC at this
      have := of_decide_eq_true (Bool.and_eq_true_iff.mp this).2
      omega
    · simp only [List.map_cons, PyData.weightAll, PyData.weight, h4, List.sum_cons, List.length_cons, slen]
      show u.length + 1 + _ = _
      omega
theorem tr_data {t : Tr} (h : t.small) : t.data.showable = true ∧ t.data.depth ≤ 3 ∧ t.data.leavesShort 13 = true ∧ t.data.weight ≤ 3000 := by
  cases t with
  | noE => exact ⟨by decide +kernel, by decide +kernel, by decide +kernel, by decide +kernel⟩
  | noP => exact ⟨by decide +kernel, by decide +kernel, by decide +kernel, by decide +kernel⟩
  | texts us =>
    obtain ⟨h1, h2, h3, h4⟩ := strs_data us h.sg
    have e1 : (PyData.str (Str.ofString "told")).showable = true := by decide +kernel
    have e2 : (PyData.str (Str.ofString "told")).depth = 0 := by decide +kernel
    have e3 : (PyData.str (Str.ofString "told")).leavesShort 13 = true := by decide +kernel
    have e4 : (PyData.str (Str.ofString "told")).weight = 4 := by decide +kernel
    have hs := h.sum
    have hf := h.few
    refine ⟨?_, ?_, ?_, ?_⟩
    · simp only [Tr.data, PyData.showable, PyData.showableAll, h1, Bool.and_self]
    · simp only [Tr.data, PyData.depth, PyData.depthAll, h2]
      decide
    · simp only [Tr.data, PyData.leavesShort, PyData.leavesShortAll, h3, Bool.and_true]
      simpa only [PyData.leavesShort] using e3
    · simp only [Tr.data, PyData.weight, PyData.weightAll, h4]
      have e4' : (Str.ofString "told").cps.size = 4 := by decide +kernel
      omega
  | pl o =>
    cases o with
    | none => exact ⟨by decide +kernel, by decide +kernel, by decide +kernel, by decide +kernel⟩
    | some r =>
      obtain ⟨i, j⟩ := r
      obtain ⟨i0, i1, j0, j1⟩ := h
      obtain ⟨a1, a2⟩ := show_int (i := i) (by omega) (by omega)
      obtain ⟨b1, b2⟩ := show_int (i := j) (by omega) (by omega)
      have e3 : (PyData.str (Str.ofString "told")).leavesShort 13 = true := by decide +kernel
      have e4' : (Str.ofString "told").cps.size = 4 := by decide +kernel
      have wi : ∀ k : Int, -100000 ≤ k → k ≤ 100000 → (PyData.int k).weight ≤ 1000 := fun k k0 k1 => by
        simp only [PyData.weight]
        split
        · omega
        · rename_i ne
          have h0 : k.natAbs ≠ 0 := by
            intro z
            have z2 : k = 0 := by omega
            rw [z2] at ne
            exact ne rfl
          have := (Nat.log2_lt h0).mpr (show k.natAbs < 2 ^ 20 from by have : (2 : Nat) ^ 20 = 1048576 := by decide
                                                                       omega)
          omega
      have w1 := wi i i0 i1
      have w2 := wi j j0 j1
      refine ⟨?_, ?_, ?_, ?_⟩
      · simp only [Tr.data, prD, PyData.showable, PyData.showableAll, Bool.true_and, Bool.and_true] at a1 b1 ⊢
        rw [a1, b1]
        rfl
      · simp only [Tr.data, prD, PyData.depth, PyData.depthAll]
        decide
      · simp only [Tr.data, prD, PyData.leavesShort, PyData.leavesShortAll, Bool.and_true] at a2 b2 e3 ⊢
        rw [a2, b2, e3]
        rfl
      · simp only [Tr.data, prD, PyData.weightAll] at w1 w2 ⊢
        have e5 : (PyData.tuple [.str (Str.ofString "told"), .tuple [.int i, .int j]]).weight = (Str.ofString "told").cps.size + 1 + ((PyData.int i).weight + 1 + ((PyData.int j).weight + 1 + 0) + 1 + 0) := by simp only [PyData.weight, PyData.weightAll]
        omega
theorem trs_data : ∀ trs : List Tr, (∀ t ∈ trs, t.small) → PyData.showableAll (trs.map Tr.data) = true ∧ PyData.depthAll (trs.map Tr.data) ≤ 3 ∧ PyData.leavesShortAll 13 (trs.map Tr.data) = true ∧ PyData.weightAll (trs.map Tr.data) ≤ 3001 * trs.length
  | [], _ => ⟨rfl, Nat.zero_le _, rfl, Nat.zero_le _⟩
  | t :: trs, h => by
    obtain ⟨h1, h2, h3, h4⟩ := trs_data trs fun t ht => h t (List.mem_cons_of_mem _ ht)
    obtain ⟨g1, g2, g3, g4⟩ := tr_data (h t List.mem_cons_self)
    refine ⟨?_, ?_, ?_, ?_⟩
    · simp only [List.map_cons, PyData.showableAll, g1, h1, Bool.and_self]
    · simp only [List.map_cons, PyData.depthAll]
      omega
    · simp only [List.map_cons, PyData.leavesShortAll, g3, h3, Bool.and_self]
    · simp only [List.map_cons, PyData.weightAll, List.length_cons]
      omega
theorem tried_shown {ts : List Str} {o oy : Option (List V)} {trs : List Tr} (h : Tried ts o oy trs) (hg : Good ts) (hs : Shr o) : (PyData.list (trs.map Tr.data)).showable = true ∧ (PyData.list (trs.map Tr.data)).depth ≤ 100 ∧ (PyData.list (trs.map Tr.data)).shown.length ≤ 1000000 := by
  obtain ⟨h1, h2, h3, h4⟩ := trs_data trs (tried_small h hg hs)
  have hl : trs.length = 4 := by cases h <;> rfl
  refine ⟨?_, ?_, ?_⟩
  · simpa only [PyData.showable] using h1
  · simp only [PyData.depth]
    omega
  · have e := PyData.shown_le 13 (by decide) (.list (trs.map Tr.data)) (by simpa only [PyData.leavesShort] using h3)
    simp only [PyData.weight] at e
    rw [hl] at h4
    omega
end LawK
set_option maxHeartbeats 4000000
/-! The law's own def, called by the caller of claims alone: what runs around it is known (no repr is under way). -/
namespace Ev
open PySem PySem.Spec PyProof.Rows L2
/-- the def at f keeps sp, called where A runs around it -/
structure FnAt (A : Around) (P : Program) (w : World) (K : PySem.W.Frag) (mg : Str → Option Value) (base : Heap) (CX : CXT) (f : Addr) (fd : FuncData) (ps : List Str) (sp : Sp) : Prop where
  len : ∀ vs H Q E, sp vs H Q E → vs.length = ps.length
  run : ∀ (outer : List Env) (s : Shared) (H : Hp) (args : Args) (us : List Value) (vs : List V) (Q : VK) (E : XK), Env0 P w K mg base A outer s H → BindsTo s fd args (ps.zip us) → Vals vs us → sp vs H Q E →
    codeAny (model P w) A (.call (.ref f) args) (CR CX outer P w H s Q E) s
section
variable {A : Around} {CX : CXT} {P : Program} {w : World} {K : PySem.W.Frag} {mg : Str → Option Value} {base : Heap} {k : Nat}
theorem fun_at {x qual : Str} {st : Stmt} {f : Addr} {fd : FuncData} {N ps : List Str} {sp : Sp} (F : Fun K x qual st f fd) (S : FnScope N ps (defScope st)) (hr : Room (k + 1) A) (len : ∀ vs H Q E, sp vs H Q E → vs.length = ps.length)
    (hbody : ∀ (cdv : Value) (outer : List Env) (s : Shared) (H : Hp) (vs : List V) (Q : VK) (E : XK), Room k (A.deeper (envOfC qual (defScope st) s.heap.objs.size f cdv)) → sp vs H Q E →
      ∃ t, PSs (cxOf CX P w K mg base N qual (defScope st) f cdv A outer s H E).nox (defBody st) t ∧ t { nx := fun _ H' => Q .non H', rt := Q } (start N vs) H) : FnAt A P w K mg base CX f fd ps sp := by
  obtain ⟨oc, od, kV, doc, pm, an, cdv, ct, osl, rfl, lk, hcd⟩ := F.ex
  refine ⟨len, fun outer s H args us vs Q E e0 hb r hsp => ?_⟩
  have lim : s.heap.NoLimit := e0.mod.nolimit.keeps fun b o e => (e0.bs b o e).1
  have KX : K.In s.heap := e0.mod.kin.keeps fun b o e => (e0.bs b o e).1
  have kinds : ∀ y ∈ ps.zip us, (defScope st).names.lookup y.1 = some .local ∨ ((defScope st).names.lookup y.1 = some .cell ∧ ((cellsFrom (s.heap.objs.size + 1) (defScope st).names []).lookup y.1).isSome = true) := by
    rintro ⟨n, v⟩ hy
    exact (S.par n (List.of_mem_zip hy).1).imp id fun q => ⟨q, PySem.W.cellsFrom_some _ _ _ (.inl q)⟩
  refine codeAny_call_function hr.depth (KX _ _ lk) rfl S.co S.gen rfl (PySem.W.codeRec_of KX hcd) (hb _ _ _ _ (wpAny_newFunctionEnv_cells S.kind kinds fun env he s1 x => ?_))
  subst he
  obtain ⟨t, ht, hq⟩ := hbody cdv outer s H vs Q E (hr.deeper _) hsp
  have I := inv_start (CX := CX) (P := P) (w := w) (mg := mg) (base := base) (E := E) S hr.hd e0 (len _ _ _ _ hsp) r x
  refine ⟨lim.keeps x.toInCall.keep, codeAny_func (wpAny_mono (ht.nox.run [] s1 (start N vs) H _ I hq) (fun fl s' hs => ?_) fun e s' hs => hs)⟩
  cases fl with
  | ret u =>
    obtain ⟨v, σ', H', J, rv, q⟩ := hs
    exact ⟨v, H', J.os, J.bare, J.base, J.hok, rv, q⟩
  | next =>
    obtain ⟨σ', H', J, q⟩ := hs
    exact ⟨V.non, H', J.os, J.bare, J.base, J.hok, rfl, q⟩
  | brk => exact hs.elim fun _ z => z.elim fun _ y => y.2.elim
  | cont => exact hs.elim fun _ z => z.elim fun _ y => y.2.elim
end
section
variable {P : Program} {w : World} {K : PySem.W.Frag} {mg mb : Str → Option Value} {fa a : Addr} {fd : FuncData} {x : Str} {sp : Sp} {s₁ : Shared} {vs : List Value} {ns : List Int}
/-- from one abstract heap: nothing is tracked but, perhaps, the script -/
theorem law_at0 {H : Hp} (KX : K.In s₁.heap) (hns : s₁.heap.Ns mainGlobals mg) (hb : s₁.heap.Ns builtinsNs mb) (hbb : ∀ y : Str, y ≠ "__name__" → mb y = bootBuiltins y) (hlim : s₁.heap.NoLimit) (hg : s₁.gens = #[])
    (ha : s₁.heap.get? a = some { cls := .type "list", data := .seq vs.toArray }) (F : ∀ base : Heap, K.In base → base.Ns mainGlobals mg → FnAt callerA P w K mg base CX0 fa fd [x] sp)
    (hbind : ∀ (s : Shared) (u : Value), BindsTo s fd ⟨[u], []⟩ [(x, u)]) (hO : Only H) (hok : HOk P w H s₁.heap) (hA : ∀ b, H b ≠ none → b = a) (hK : H a ≠ none → K.lookup a = none)
    (hsp : sp [.ref a] H (fun v _ => v = .bl true) fun _ _ _ => False) :
    codeAny (model P w) callerA (.call (.ref fa) ⟨[.ref a], []⟩) (fun r s' => r = .ok (.ret (.bool true)) ∧ OldK s₁.heap s'.heap ∧ s'.os = s₁.os ∧ AllBare s'.gens) s₁ := by
  have off : ∀ {b : Addr} {o : Obj}, s₁.heap.get? b = some o → o ≠ { cls := .type "list", data := .seq vs.toArray } → H b = none := fun {b o} e n => by
    refine Classical.byContradiction fun z => n ?_
    have eb := hA b z
    rw [eb, ha] at e
    exact (Option.some.inj e).symm
  have nsK : ∀ {b : Addr} {m : Str → Option Value}, s₁.heap.Ns b m → (hidT s₁.heap H).Ns b m := fun {b m} ⟨o, es, ep, e, d, r⟩ => ⟨o, es, ep, hidT_get e (off e fun z => by rw [z] at d; cases d), d, r⟩
  have hKb : K.In (hidT s₁.heap H) := fun b o e => hidT_get (KX b o e) (Classical.byContradiction fun z => by
    have eb := hA b z
    rw [eb] at e z
    rw [hK z] at e
    cases e)
  have hM : Mod K mg (hidT s₁.heap H) := ⟨hKb, nsK hns, ⟨mb, nsK hb, hbb⟩, hlim.elim fun mc z => ⟨mc, nsK z.1, z.2⟩⟩
  have e0 : Env0 P w K mg (hidT s₁.heap H) callerA [] s₁ H := ⟨rfl, hM, fun b o e => of_hidT e, Nat.le_of_eq (hidT_size _ _), trivial, fun b hb => absurd (show b ∈ ([] : List Addr) from hb) (by simp), hok, .of_eq hg⟩
  refine codeAny_mono ((F _ hKb (nsK hns)).run [] s₁ H ⟨[.ref a], []⟩ [.ref a] [.ref a] _ _ e0 (hbind s₁ (.ref a)) (.cons rfl .nil) hsp) fun r s' h => ?_
  rcases r with e | fl
  · exact False.elim h
  cases fl with
  | next => exact False.elim h
  | brk => exact False.elim h
  | cont => exact False.elim h
  | ret u =>
    obtain ⟨v, H', os, bare, un, hok', r', rfl⟩ := h
    obtain rfl : u = Value.bool true := r'
    refine ⟨rfl, OldK.of_keep fun b o e => ?_, os, bare⟩
    rcases hO b with z | ⟨ob, xs, z⟩
    · exact un.keep b o e z (fun y => absurd (show b ∈ ([] : List Addr) from y) (by simp)) (by simp)
    · have e1 := (hok b _ z).1
      rw [e] at e1
      cases e1
      exact (hok' b _ (un.frzs b _ _ z)).1
theorem law_at (KX : K.In s₁.heap) (hns : s₁.heap.Ns mainGlobals mg) (hb : s₁.heap.Ns builtinsNs mb) (hbb : ∀ y : Str, y ≠ "__name__" → mb y = bootBuiltins y) (hlim : s₁.heap.NoLimit) (hg : s₁.gens = #[])
    (ha : s₁.heap.get? a = some { cls := .type "list", data := .seq vs.toArray }) (hi : IntsAre vs ns) (hl : ns.length ≤ sizeLine)
    (F : ∀ base : Heap, K.In base → base.Ns mainGlobals mg → FnAt callerA P w K mg base CX0 fa fd [x] sp) (hbind : ∀ (s : Shared) (u : Value), BindsTo s fd ⟨[u], []⟩ [(x, u)])
    (hsp : ∀ H : Hp, Only H → SqL K H a (ns.map V.int) → sp [.ref a] H (fun v _ => v = .bl true) fun _ _ _ => False) :
    codeAny (model P w) callerA (.call (.ref fa) ⟨[.ref a], []⟩) (fun r s' => r = .ok (.ret (.bool true)) ∧ OldK s₁.heap s'.heap ∧ s'.os = s₁.os ∧ AllBare s'.gens) s₁ := by
  have rv := vals_ints hi
  cases hk : K.lookup a with
  | some o =>
    have e := KX a o hk
    rw [ha] at e
    cases e
    have hO : Only (fun _ => none) := fun _ => .inl rfl
    exact law_at0 KX hns hb hbb hlim hg ha F hbind hO (fun b u z => by cases z) (fun b z => absurd rfl z) (fun z => absurd rfl z)
      (hsp _ hO (.inr ⟨_, vs.toArray, _, hk, rfl, rfl, rfl, by rw [List.size_toArray, hi.length]; exact hl, by simpa using rv⟩))
  | none =>
    have same : upd (fun _ => none) a (.frz { cls := .type "list", data := .seq vs.toArray } (.lst (ns.map V.int))) a = some (.frz { cls := .type "list", data := .seq vs.toArray } (.lst (ns.map V.int))) := upd_same
    have hO : Only (upd (fun _ => none) a (.frz { cls := .type "list", data := .seq vs.toArray } (.lst (ns.map V.int)))) := fun b => by
      by_cases h : b = a
      · exact .inr ⟨_, _, by rw [h]; exact same⟩
      · exact .inl (by rw [upd_ne h])
    refine law_at0 KX hns hb hbb hlim hg ha F hbind hO (fun b u z => ?_) (fun b z => ?_) (fun _ => hk) (hsp _ hO (.inl (.inr ⟨_, same⟩)))
    · by_cases h : b = a
      · subst h
        rw [same] at z
        cases z
        exact ⟨ha, by rw [List.length_map]; exact hl, vs, _, rv, ha⟩
      · rw [upd_ne h] at z
        cases z
    · exact Classical.byContradiction fun h => z (by rw [upd_ne h])
end
/-- the end of a law's row -/
theorem walk_at {l : PySem.W.OpenLaw} {n : Nat} {q : Program} {loose : List Str} {XP : (Str → Option Value) → Heap → Prop} {YP : World → Heap → Prop} {d : DefRec} {K : Params → PySem.W.Frag} {sp : PySem.W.Frag → Sp} {x : Str}
    (hn : l.most = some n) (hn2 : n ≤ sizeLine) (hdf : d.params.defaults = []) (hY : ∀ (w : World) (h : Heap), YP w h → (K w.params).In h)
    (F : ∀ (w : World) (mg : Str → Option Value) (fa : Addr) (h : Heap), (K w.params).In h → h.Ns mainGlobals mg → mg d.name = some (.ref fa) →
      ∃ fd : FuncData, (∀ (s : Shared) (u : Value), BindsTo s fd ⟨[u], []⟩ [(x, u)]) ∧ ∀ base : Heap, (K w.params).In base → base.Ns mainGlobals mg → FnAt callerA l.prog w (K w.params) mg base CX0 fa fd [x] (sp (K w.params)))
    (hsp : ∀ (K : PySem.W.Frag) (H : Hp) (a : Addr) (ns : List Int), ns.length ≤ n → Only H → SqL K H a (ns.map V.int) → sp K [.ref a] H (fun v _ => v = .bl true) fun _ _ _ => False) :
    PySem.W.WalkO q loose XP YP l.row.toRowW d [] (fun f vs => PySem.call f vs) :=
  Att.attach_call hn hdf fun w s₀ s₁ mg mb fa o pm cd doc a vs ns G Y ho hd hcd hmg hobj hints hlen hg => by
    obtain ⟨fd, hb, hF⟩ := F w mg fa _ (hY w _ Y) G.T.g hmg
    exact law_at (hY w _ Y) G.T.g G.T.b G.T.builtins G.T.nolimit hg hobj hints (Nat.le_trans hlen hn2) hF hb fun H hO hS => hsp _ H a ns hlen hO hS
/-- C() of an own error class without an __init__ of its own -/
theorem pe_excP {X : Cx} {x : Str} {C : Addr} {p pos : Pos} {bmB : List Value} {B newId initId : String} (F : ExcBaseFacts B newId initId bmB) (q : PySem.W.excIn X.K C bmB newId = true) (kC : PySem.W.keepIn X.K (.ref C) = true) (hg : Gl X x) (hm : X.mg x = some (.ref C))
    (hdb : (x == ("__debug__" : Str)) = false := by decide) : PE X (.Call (.Name x p) [] [] pos) (fun _ H Q => ∀ a, H a = none → Q (.ref a) (upd H a (exo a C none))) := by
  refine ⟨fun pins s σ H Q I h => ?_⟩
  refine wpAny_Call_Name_kw (ld_glob I hg hm ?_ hdb)
  refine PySem.W.callWith_K0 I.kIn kC ?_
  show wpAny _ _ (call (.ref C) []) _ _ _
  obtain ⟨bm, N, nm, qn, bs, hdct, sn, sub, ab, col, dd, k0, k1, k2, k3, k5, mN, hC, hN, hni, T⟩ := exc_obj I.kIn q
  refine wpAny_call_exc_subT F T hC hN hni (fun h' a hm => ?_) (by show 0 ≤ sizeLine; decide)
  have hn : H a = none := I.hok.gone hm.new
  obtain ⟨t, ht, _, _⟩ := hm.there
  exact ⟨.ref a, upd H a (exo a C none), I.laidN hm.keeps hm.new hn (exo_ok ht), rfl, h a hn⟩
end Ev
set_option maxHeartbeats 4000000
namespace LawK
open PySem PySem.Spec PyProof.Rows L2 Ev
theorem LibAt.but {H H' : Hp} {p l : Addr} (h0 : HandL H p l) (b : But p H H') {C s : Addr} {ts : List Str} (h : LibAt H C s ts) : LibAt H' C s ts := by
  obtain ⟨⟨dx, a, h1, h2⟩, r1, r2, r3, r4⟩ := h
  exact ⟨⟨dx, a, b _ _ (hand_ne h0 h1 fun _ _ _ _ _ z => by cases z) h1, b _ _ (tup_ne h0 h2) h2⟩, r1, r2, r3, r4⟩
abbrev sLaw : Stmt := topS 71
theorem scLaw : FnScope ["script", "hand", "signs", "texts", "library", "k", "right", "place", "first", "edit", "bad"] ["script"] (defScope sLaw) := ⟨rfl, rfl, rfl, by decide +kernel, rfl, by decide +kernel, by decide +kernel⟩
def spLaw (K : PySem.W.Frag) : Sp := fun vs H Q _ => ∃ (a : Addr) (ns : List Int), vs = [.ref a] ∧ SqL K H a (ns.map V.int) ∧ ∀ H', Q (.bl true) H'
section
variable {P : Program} {w : World} {K : PySem.W.Frag} {mg : Str → Option Value} {base : Heap}
variable {PE C fI fE cB : Addr} {fdI fdE : FuncData}
theorem ok_law {f : Addr} {fd : FuncData} (F : Fun K "law" "law" sLaw f fd) {fHand : Addr} {fdHand : FuncData} (DHand : Dk P w K mg base "_law_hand" sHand ["script"] 1 (spHand K) fHand fdHand) {fPick : Addr} {fdPick : FuncData} (DPick : Dk P w K mg base "_law_pick" sPick ["hand", "things"] 2 (spPick K) fPick fdPick) {fSame : Addr} {fdSame : FuncData} (DSame : Dk P w K mg base "_law_same" sSame ["actual", "due"] 4 (spSame R3) fSame fdSame) {fOdd : Addr} {fdOdd : FuncData} (DOdd : Dk P w K mg base "_law_odd" sOdd ["hand"] 2 spOdd fOdd fdOdd) {fAlphabet : Addr} {fdAlphabet : FuncData} (DAlphabet : Dk P w K mg base "_law_alphabet" sAlphabet ["hand"] 2 spAlpha fAlphabet fdAlphabet) {fTexts : Addr} {fdTexts : FuncData} (DTexts : Dk P w K mg base "_law_texts" sTexts ["hand", "most"] 4 spTexts fTexts fdTexts) {fAllPlaces : Addr} {fdAllPlaces : FuncData} (DAllPlaces : Dk P w K mg base "_law_all_places" sAllPlaces ["texts"] 1 spAllP fAllPlaces fdAllPlaces) {fEdit : Addr} {fdEdit : FuncData} (DEdit : Dk P w K mg base "_law_edit" sEdit ["hand", "texts", "signs"] 3 spEdit fEdit fdEdit) {fSpoiltEdit : Addr} {fdSpoiltEdit : FuncData} (DSpoiltEdit : Dk P w K mg base "_law_spoilt_edit" sSpoiltEdit ["hand", "edit"] 3 spSpoilt fSpoiltEdit fdSpoiltEdit) {fTries : Addr} {fdTries : FuncData} (DTries : Dk P w K mg base "_law_tries" sTries ["library", "edit", "place"] 9 (spTries C) fTries fdTries) {fWords : Addr} {fdWords : FuncData} (DWords : Dk P w K mg base "_law_words" sWords ["library", "texts", "edit", "place"] 10 (spWords C) fWords fdWords) {fStood : Addr} {fdStood : FuncData} (DStood : Dk P w K mg base "_law_stood" sStood ["library", "word", "place"] 4 (spStood C) fStood fdStood)
    (L : LibC K mg C fI fE fdI fdE) (GI : FnOk P w K mg base (L2.CX P w) 4 fI fdI ["self", "texts"] (spLInit C cB)) (T : Glob mg) : FnAt callerA P w K mg base CX0 f fd ["script"] (spLaw K) := by
  refine fun_at (k := 12) F scLaw ⟨rfl, by decide, by decide⟩ (fun vs H Q E h => ?_) (fun cdv outer s H vs Q E hr h => ?_)
  · obtain ⟨a, ns, rfl, _⟩ := h
    rfl
  · skip
    obtain ⟨a, ns, rfl, hS, q⟩ := h
    have s1 : (1 : Nat) ≤ sizeLine := by decide
    have s2 : (2 : Nat) ≤ sizeLine := by decide
    have s4 : (4 : Nat) ≤ sizeLine := by decide
    have s6 : (6 : Nat) ≤ sizeLine := by decide
    refine ⟨_, (pss_cons (ps_set (i := 1) scLaw.nd rfl (.inl rfl) (pe_call DHand.ok (hr.mono (by decide)) (by rfl) DHand.g DHand.F.kp DHand.b .nil pass0 (pa_cons (pv 0) pa_nil)))
          (pss_cons (ps_set (i := 2) scLaw.nd rfl (.inl rfl) (pe_call DAlphabet.ok (hr.mono (by decide)) (by rfl) DAlphabet.g DAlphabet.F.kp DAlphabet.b .nil pass0 (pa_cons (pv 1) pa_nil)))
          (pss_cons (ps_set (i := 3) scLaw.nd rfl (.inl rfl) (pe_call DTexts.ok (hr.mono (by decide)) (by rfl) DTexts.g DTexts.F.kp DTexts.b .nil pass0 (pa_cons (pv 1) (pa_cons pe_int pa_nil))))
          (pss_cons (ps_set (i := 4) scLaw.nd rfl (.inl rfl) (pe_mkS (E := fun _ => E0) L.mak GI (hr.mono (by decide)) (by rfl) L.g L.bI (fun σ => passL_at σ) (pa_cons (pv 3) pa_nil)))
          (pss_cons (ps_for PassesOwn.never rfl (pi_range1 (by rfl) T.range (pa_cons pe_int pa_nil)) (pg_name (i := 5) scLaw.nd rfl (.inl rfl))
          (pss_cons (ps_set (i := 6) scLaw.nd rfl (.inl rfl) (pe_call DEdit.ok (hr.mono (by decide)) (by rfl) DEdit.g DEdit.F.kp DEdit.b .nil pass0 (pa_cons (pv 1) (pa_cons (pv 3) (pa_cons (pv 2) pa_nil)))))
            (pss_cons (ps_set (i := 7) scLaw.nd rfl (.inl rfl) (pe_call DPick.ok (hr.mono (by decide)) (by rfl) DPick.g DPick.F.kp DPick.b .nil pass0 (pa_cons (pv 1) (pa_cons (pe_op op_cat (pe_call DAllPlaces.ok (hr.mono (by decide)) (by rfl) DAllPlaces.g DAllPlaces.F.kp DAllPlaces.b .nil pass0 (pa_cons (pv 3) pa_nil)) (pe_lst (pa_cons (pe_call DOdd.ok (hr.mono (by decide)) (by rfl) DOdd.g DOdd.F.kp DOdd.b .nil pass0 (pa_cons (pv 1) pa_nil)) (pa_cons (pe_tup (pa_cons pe_int (pa_cons pe_int pa_nil))) (pa_cons (pe_tup (pa_cons (pe_callB call_len_seq (by rfl) T.len PySem.boot_len (pa_cons (pv 3) pa_nil)) (pa_cons pe_int pa_nil))) (pa_cons (pe_lst (pa_cons pe_int (pa_cons pe_int pa_nil))) pa_nil)))))) pa_nil))))
            (pss_cons (ps_set (i := 8) scLaw.nd rfl (.inl rfl) (pe_callB (call_reprG rfl hr) (by rfl) T.repr PyProof.Rows.boot_repr (pa_cons (pe_call DTries.ok (hr.mono (by decide)) (by rfl) DTries.g DTries.F.kp DTries.b .nil pass0 (pa_cons (pv 4) (pa_cons (pv 6) (pa_cons (pv 7) pa_nil)))) pa_nil)))
            (pss_cons (ps_for PassesOwn.never rfl (pi_list (pe_lst (pa_cons (pv 6) (pa_cons (pe_call DSpoiltEdit.ok (hr.mono (by decide)) (by rfl) DSpoiltEdit.g DSpoiltEdit.F.kp DSpoiltEdit.b .nil pass0 (pa_cons (pv 1) (pa_cons (pv 6) pa_nil))) (pa_cons (pe_call DSpoiltEdit.ok (hr.mono (by decide)) (by rfl) DSpoiltEdit.g DSpoiltEdit.F.kp DSpoiltEdit.b .nil pass0 (pa_cons (pv 1) (pa_cons (pv 6) pa_nil))) (pa_cons (pe_call DOdd.ok (hr.mono (by decide)) (by rfl) DOdd.g DOdd.F.kp DOdd.b .nil pass0 (pa_cons (pv 1) pa_nil)) pa_nil)))))) (pg_name (i := 9) scLaw.nd rfl (.inl rfl))
            (pss_one (ps_if (pt_not (pt_val (pe_call DWords.ok (hr.mono (by decide)) (by rfl) DWords.g DWords.F.kp DWords.b .nil pass0 (pa_cons (pv 4) (pa_cons (pv 3) (pa_cons (pv 9) (pa_cons (pv 7) pa_nil)))))))
              (pss_one (ps_ret pe_bl))
              pss_nil)))
            (pss_one (ps_if (pt_cmpR op_ne (pe_callB (call_reprG rfl hr) (by rfl) T.repr PyProof.Rows.boot_repr (pa_cons (pe_call DTries.ok (hr.mono (by decide)) (by rfl) DTries.g DTries.F.kp DTries.b .nil pass0 (pa_cons (pv 4) (pa_cons (pv 6) (pa_cons (pv 7) pa_nil)))) pa_nil)) (pv 8) (nomark _))
            (pss_one (ps_ret pe_bl))
            pss_nil)))))))
          (pss_cons (ps_set (i := 10) scLaw.nd rfl (.inl rfl) (pe_call DPick.ok (hr.mono (by decide)) (by rfl) DPick.g DPick.F.kp DPick.b .nil pass0 (pa_cons (pv 1) (pa_cons (pe_lst (pa_cons pe_str (pa_cons pe_non (pa_cons pe_str (pa_cons pe_str (pa_cons pe_int (pa_cons (pe_tup (pa_cons pe_str pa_nil)) pa_nil))))))) pa_nil))))
          (pss_cons (ps_if (PW.pt (pw_or (pt_cmpR op_ne (pe_call DStood.ok (hr.mono (by decide)) (by rfl) DStood.g DStood.F.kp DStood.b .nil pass0 (pa_cons (pv 4) (pa_cons (pv 10) (pa_cons (pe_tup (pa_cons pe_int (pa_cons pe_int pa_nil))) pa_nil)))) pe_str (nomark _)) (pw_or1 (pt_cmpR op_ne (pe_call DStood.ok (hr.mono (by decide)) (by rfl) DStood.g DStood.F.kp DStood.b .nil pass0 (pa_cons (pv 4) (pa_cons pe_str (pa_cons (pe_tup (pa_cons pe_int (pa_cons pe_int pa_nil))) pa_nil)))) pe_str (nomark _)))))
          (pss_one (ps_ret pe_bl))
          pss_nil)
          (pss_one (ps_ret (pe_call DSame.ok (hr.mono (by decide)) (by rfl) DSame.g DSame.F.kp DSame.b .nil pass0 (pa_cons (pe_fld (pv 4) rfl) (pa_cons (pv 3) pa_nil)))))))))))), ?_⟩
    refine ⟨.ref a, rfl, a, ns, rfl, hS, fun p l H1 np nl h1 k1 => ?_⟩
    refine ⟨.ref p, rfl, p, rfl, l, h1, fun z H2 hz z0 z1 h2 b2 => ?_⟩
    refine ⟨.ref p, rfl, p, 30, rfl, by decide, by decide, l, h2, fun b ts H3 nb hb hts ht30 h3 b3 => ?_⟩
    have hsum : ((ts.map V.str).map slen).sum ≤ 30 := ht30 (by decide)
    have hg : Good ts := ⟨hts.few, hts.sg, by omega⟩
    have fewt := hg.few
    refine ⟨.ref b, rfl, fun s dx ns' ndx ndxs => ?_⟩
    have ka := Same.new (o := .own s) ndx
    have ns2 : upd H3 dx (.own s) s = none := by
      rw [upd_ne (Ne.symm ndxs)]
      exact ns'
    have kb := ka.trans (Same.new (o := .ins C dx []) ns2)
    refine ⟨s, dx, .ref b, _, rfl, upd_same, (str_tg hb (by omega) (fun t ht => by have := hg.len ht; omega)).same kb, fun bn H4 ha4 ho4 => ⟨rfl, ?_⟩, fun bn => absurd hg.bad bn⟩
    have k4 : Same H3 H4 := fun c u hc => ho4 c u (ne_of_none (ka _ _ hc) ns2) (kb _ _ hc)
    have hLs : LibAt H4 C s ts := ⟨⟨dx, b, ha4, k4 _ _ hb⟩, hg.few, hg.sg, fun t ht => by have := hg.len ht; omega, hg.sum⟩
    have h4 := h3.same k4
    have hb4 := k4 _ _ hb
    refine ⟨4, rfl, by decide, by decide, ?_⟩
    refine for_range (n := 4) (fun i σ H' => ∃ (u5 u6 u7 u8 u9 u10 : Option V), σ = [some (.ref a), some (.ref p), some (.str z), some (.ref b), some (.ref s), u5, u6, u7, u8, u9, u10] ∧ HandL H' p l ∧ LibAt H' C s ts ∧ H' b = some (.tup (ts.map V.str))) ?start ?turn ?after
    case start => exact ⟨none, none, none, none, none, none, rfl, h4, hLs, hb4⟩
    case turn =>
      rintro i σ H5 hi ⟨u5, u6, u7, u8, u9, u10, rfl, h5, hL5, hb5⟩
      refine ⟨.ref p, rfl, .ref b, rfl, .str z, rfl, p, b, ts, z, rfl, hb5, hg, hz, z0, z1, l, h5, fun e xs H6 he n1 n6 hT6 hSx h6 b6 => ?_⟩
      have hb6 := b6 _ _ (tup_ne h5 hb5) hb5
      have hL6 := hL5.but h5 b6
      refine ⟨.ref p, rfl, .ref b, rfl, b, ts, rfl, hb6, hts, fun o ps H7 no ho lps hps k7 => ?_⟩
      have h7 := h6.same k7
      have nop : o ≠ p := (h6.ne no).1
      refine ⟨.ref p, rfl, p, rfl, l, h7, fun v d H8 hd sd h8 b8 => ?_⟩
      have ho8 := b8 _ _ nop ho
      refine ⟨s2, fun c nc => ?_⟩
      have kc := Same.new (o := .tup [.int 0, .int 0]) nc
      refine ⟨.ref b, rfl, b, _, rfl, .inr (SqT.of (kc _ _ (b8 _ _ (tup_ne h7 (k7 _ _ hb6)) (k7 _ _ hb6)))), s2, fun g ng => ?_⟩
      have kg := Same.new (o := .tup [.int ((ts.map V.str).length : Nat), .int 0]) ng
      refine ⟨s2, fun u nu => ?_⟩
      have ku := Same.new (o := .lst [.int 0, .int 0]) nu
      refine ⟨s4, fun q1 nq1 => ?_⟩
      have kq := Same.new (o := .lst [v, .ref c, .ref g, .ref u]) nq1
      have k89 := ((kc.trans kg).trans ku).trans kq
      refine ⟨o, q1, ps, [v, .ref c, .ref g, .ref u], rfl, rfl, k89 _ _ ho8, upd_same, by show ps.length + 4 ≤ 16777216; omega, fun r nr => ?_⟩
      have kr := Same.new (o := .lst (ps ++ [v, .ref c, .ref g, .ref u])) nr
      have h9 := h8.same (k89.trans kr)
      refine ⟨p, r, _, rfl, sq_of upd_same, ((h8.same k89).ne nr).1, by rw [List.length_append]; show 0 < _ + 4; omega, by rw [List.length_append]; show _ + 4 < 1000000; omega, l, h9, fun y H10 hy h10 b10 => ?_⟩
      have hc10 := b10 _ _ (tup_ne h9 ((kg.trans (ku.trans (kq.trans kr))) _ _ upd_same)) ((kg.trans (ku.trans (kq.trans kr))) _ _ upd_same)
      have hg10 := b10 _ _ (tup_ne h9 ((ku.trans (kq.trans kr)) _ _ upd_same)) ((ku.trans (kq.trans kr)) _ _ upd_same)
      have hu9 := (kq.trans kr) _ _ (show upd _ u _ u = some (.lst [.int 0, .int 0]) from upd_same)
      have nup : u ≠ p := ((h8.same (kc.trans kg)).ne nu).1
      have hu10 := b10 _ _ nup hu9
      have hY : ∃ oy, Tg H10 y oy := by
        rcases List.mem_append.mp hy with hy | hy
        · obtain ⟨b0, i0, j0, rfl, e0⟩ := hps y hy
          have e1 := (k89.trans kr) _ _ (b8 _ _ (tup_ne h7 e0) e0)
          have e2 := b10 _ _ (tup_ne h9 e1) e1
          exact ⟨_, .tup e2 (by simp) fun w hw => by
            simp only [List.mem_cons, List.not_mem_nil, or_false] at hw
            rcases hw with rfl | rfl <;> exact int_ok⟩
        · simp only [List.mem_cons, List.not_mem_nil, or_false] at hy
          rcases hy with rfl | rfl | rfl | rfl
          · obtain ⟨oy, hoy, _⟩ := dt_tg hd sd
            exact ⟨oy, LawK.Tg.but (hoy.same (k89.trans kr)) h9 h10 b10⟩
          · exact ⟨_, .tup hc10 (by simp) fun w hw => by
              simp only [List.mem_cons, List.not_mem_nil, or_false] at hw
              rcases hw with rfl | rfl <;> exact int_ok⟩
          · exact ⟨_, .tup hg10 (by simp) fun w hw => by
              simp only [List.mem_cons, List.not_mem_nil, or_false] at hw
              rcases hw with rfl | rfl <;> exact int_ok⟩
          · exact ⟨none, .no (.lst hu10) (by decide) fun z e => by cases e⟩
      obtain ⟨oy, hY⟩ := hY
      have k710 := fun (x : V) (o : Option (List V)) (t : Tg H6 x o) => LawK.Tg.but ((LawK.Tg.but (t.same k7) h7 h8 b8).same (k89.trans kr)) h9 h10 b10
      have tup10 : ∀ {q : Addr} {ys : List V}, H6 q = some (.tup ys) → H10 q = some (.tup ys) := fun {q ys} e0 => by
        have e1 := (k89.trans kr) _ _ (b8 _ _ (tup_ne h7 (k7 _ _ e0)) (k7 _ _ e0))
        exact b10 _ _ (tup_ne h9 e1) e1
      have hT10 := k710 _ _ hT6
      have he10 := tup10 he
      have hb10 := tup10 hb6
      have hL10 := (((hL6.same k7).but h7 b8).same (k89.trans kr)).but h9 b10
      refine ⟨.ref s, rfl, .ref e, rfl, y, rfl, s, .ref e, _, ts, y, oy, rfl, hL10, hT10, hSx, hY, fun r1 vs1 trs H11 nr1 nS1 hr1 hA1 hTr k11 => ?_⟩
      obtain ⟨w1, w2, w3⟩ := tried_shown hTr hg hSx
      refine ⟨r1, _, rfl, .lst hr1 nS1 (trs_dgs hA1), w1, w2, w3, ?_⟩
      have h11 := h10.same k11
      have hT11 := hT10.same k11
      have he11 := k11 _ _ he10
      refine ⟨.ref e, rfl, .ref p, rfl, .ref e, rfl, p, e, xs, rfl, he11, n1, n6, hT11, hSx, l, h11, fun x1 o1 H12 hT12 hS12 h12 b12 => ?_⟩
      have he12 := b12 _ _ (tup_ne h11 he11) he11
      have hTe12 := LawK.Tg.but hT11 h11 h12 b12
      refine ⟨.ref p, rfl, .ref e, rfl, p, e, xs, rfl, he12, n1, n6, hTe12, hSx, l, h12, fun x2 o2 H13 hT13 hS13 h13 b13 => ?_⟩
      refine ⟨.ref p, rfl, p, rfl, l, h13, fun v3 d3 H14 hd3 sd3 h14 b14 => ?_⟩
      refine ⟨s4, fun g1 ng1 => ?_⟩
      have kg1 := Same.new (o := .lst [.ref e, x1, x2, v3]) ng1
      have hg1 : upd H14 g1 (.lst [.ref e, x1, x2, v3]) g1 = some (.lst [.ref e, x1, x2, v3]) := upd_same
      obtain ⟨o3, hT14, hS14⟩ := dt_tg hd3 sd3
      have els : ∀ x ∈ [.ref e, x1, x2, v3], ∃ o, Tg (upd H14 g1 (.lst [.ref e, x1, x2, v3])) x o ∧ Shr o := fun x hx => by
        simp only [List.mem_cons, List.not_mem_nil, or_false] at hx
        rcases hx with rfl | rfl | rfl | rfl
        · exact ⟨_, (LawK.Tg.but (LawK.Tg.but hTe12 h12 h13 b13) h13 h14 b14).same kg1, hSx⟩
        · exact ⟨_, (LawK.Tg.but (LawK.Tg.but hT12 h12 h13 b13) h13 h14 b14).same kg1, hS12⟩
        · exact ⟨_, (LawK.Tg.but hT13 h13 h14 b14).same kg1, hS13⟩
        · exact ⟨_, hT14.same kg1, hS14⟩
      have b1114 := (b12.trans b13).trans b14
      have hb14 := b1114 _ _ (tup_ne h11 (k11 _ _ hb10)) (k11 _ _ hb10)
      have hb15 := kg1 _ _ hb14
      have hL15 := ((hL10.same k11).but h11 b1114).same kg1
      have hY15 := (LawK.Tg.but (hY.same k11) h11 h14 b1114).same kg1
      have hTe15 := (LawK.Tg.but (LawK.Tg.but hTe12 h12 h13 b13) h13 h14 b14).same kg1
      have h15 := h14.same kg1
      generalize upd H14 g1 (.lst [.ref e, x1, x2, v3]) = H15 at hg1 els hb15 hL15 hY15 hTe15 h15 ⊢
      refine ⟨g1, rfl, ⟨_, sq_of hg1⟩, for_list (xs := [.ref e, x1, x2, v3]) (fun _ σ H' => (∃ u5 u9 u10, σ = [some (.ref a), some (.ref p), some (.str z), some (.ref b), some (.ref s), u5, some (.ref e), some y, some (.str (PyData.list (trs.map Tr.data)).shown), u9, u10]) ∧ Same H15 H') ⟨⟨_, _, _, rfl⟩, Same.refl H15⟩ (fun i σ H' _ pv => sq_of (pv.2 _ _ hg1)) ?_ ?_⟩
      · rintro i x σ H' hx ⟨⟨v5, v9, v10, rfl⟩, k2⟩
        obtain ⟨ox, hTx, hSx2⟩ := els x (List.mem_of_getElem? hx)
        refine ⟨.ref s, rfl, .ref b, rfl, x, rfl, y, rfl, s, b, x, ox, ts, y, oy, rfl, hL15.same k2, k2 _ _ hb15, hTx.same k2, hSx2, hY15.same k2, fun H2' k3 => ⟨_, rfl, iteF ?_⟩⟩
        exact ⟨⟨_, _, _, rfl⟩, k2.trans k3⟩
      · rintro σ H' ⟨⟨v5, v9, v10, rfl⟩, k2⟩
        refine ⟨.ref s, rfl, .ref e, rfl, y, rfl, s, .ref e, _, ts, y, oy, rfl, hL15.same k2, hTe15.same k2, hSx, hY15.same k2, fun r2 vs2 trs2 H17 nr2 nS2 hr2 hA2 hTr2 k17 => ?_⟩
        obtain rfl := hTr.uniq hTr2
        refine ⟨r2, _, rfl, .lst hr2 nS2 (trs_dgs hA2), w1, w2, w3, ?_⟩
        refine ⟨_, rfl, rfl, _, rfl, iteNS rfl ?_⟩
        exact ⟨_, _, _, _, _, _, rfl, h15.same (k2.trans k17), hL15.same (k2.trans k17), (k2.trans k17) _ _ hb15⟩
    case after =>
      rintro σ H5 ⟨u5, u6, u7, u8, u9, u10, rfl, h5, hL5, hb5⟩
      refine ⟨.ref p, rfl, s1, fun c nc => ⟨s6, fun g ng => ?_⟩⟩
      have kc := Same.new (o := .tup [.str (Str.ofString "a")]) nc
      have kg := Same.new (o := .lst [.str (Str.ofString ""), .non, .str (Str.ofString "\n"), .str (Str.ofString "a\n"), .int 7, .ref c]) ng
      have h6 := h5.same (kc.trans kg)
      refine ⟨p, g, _, rfl, sq_of upd_same, ((h5.same kc).ne ng).1, by show 0 < 6; decide, by show 6 < 1000000; decide, l, h6, fun y H7 hy h7 b7 => ?_⟩
      have hc7 := b7 _ _ (tup_ne h6 (kg _ _ upd_same)) (kg _ _ upd_same)
      have hL7 := (hL5.same (kc.trans kg)).but h6 b7
      have hb7 := b7 _ _ (tup_ne h6 ((kc.trans kg) _ _ hb5)) ((kc.trans kg) _ _ hb5)
      obtain ⟨k, hk, hv, hw⟩ : ∃ k, Kd H7 y k ∧ Vs y ∧ wordV y = false := by
        simp only [List.mem_cons, List.not_mem_nil, or_false] at hy
        rcases hy with rfl | rfl | rfl | rfl | rfl | rfl
        · exact ⟨_, .str _, fun z e => by cases e; decide +kernel, by decide +kernel⟩
        · exact ⟨_, .non, (fun z e => by cases e), rfl⟩
        · exact ⟨_, .str _, fun z e => by cases e; decide +kernel, by decide +kernel⟩
        · exact ⟨_, .str _, fun z e => by cases e; decide +kernel, by decide +kernel⟩
        · exact ⟨_, .int 7, (fun z e => by cases e), rfl⟩
        · exact ⟨_, .tup hc7, (fun z e => by cases e), rfl⟩
      have tg9 : ∀ {H : Hp} {q : Addr}, H q = some (.tup [.int 9, .int 9]) → Tg H (.ref q) (some [.int 9, .int 9]) := fun e => .tup e (by simp) fun w hw => by
        simp only [List.mem_cons, List.not_mem_nil, or_false] at hw
        rcases hw with rfl | rfl <;> exact int_ok
      have np9 : placeV ts (some [.int 9, .int 9]) = false := by
        cases hp : placeV ts (some [.int 9, .int 9]) with
        | false => rfl
        | true =>
          obtain ⟨i, j, e, i0, i1, _⟩ := place_true hp
          cases e
          omega
      refine ⟨.ref s, rfl, y, rfl, s2, fun t nt => ?_⟩
      have kt := Same.new (o := .tup [.int 9, .int 9]) nt
      have e1 : stoodW ts y (some [.int 9, .int 9]) = Str.ofString "NoWord" := by
        unfold stoodW
        rw [if_neg (by rw [hw]; decide)]
      refine ⟨s, ts, y, .ref t, k, _, rfl, hL7.same kt, hk.same kt, hv, tg9 upd_same, fun H8 k8 => ?_⟩
      have k78 := kt.trans k8
      refine ⟨rfl, _, rfl, iteNS (congrArg V.str e1) ?_⟩
      refine ⟨.ref s, rfl, s2, fun t2 nt2 => ?_⟩
      have kt2 := Same.new (o := .tup [.int 9, .int 9]) nt2
      have e2 : stoodW ts (.str (Str.ofString "a")) (some [.int 9, .int 9]) = Str.ofString "NoPlace" := by
        unfold stoodW
        rw [if_pos (by decide +kernel), np9]
        rfl
      refine ⟨s, ts, .str (Str.ofString "a"), .ref t2, .str, _, rfl, (hL7.same k78).same kt2, .str _, fun z e => by cases e; decide +kernel, tg9 upd_same, fun H9 k9 => ?_⟩
      refine ⟨rfl, _, rfl, iteNS (congrArg V.str e2) ?_⟩
      have k79 := (k78.trans kt2).trans k9
      obtain ⟨⟨dx9, a9, i1, i2⟩, _⟩ := hL7.same k79
      exact ⟨.ref s, rfl, s, C, dx9, _, .ref a9, rfl, i1, L.cl, L.nt, lk1, .ref b, rfl, .ref a9, .ref b, rfl, sx_strs (fun z => .str z) i2 (k79 _ _ hb7) (by omega), fun H10 _ => q H10⟩
end
end LawK
set_option maxHeartbeats 8000000
namespace LawK
open PySem PySem.Spec PyProof.Rows L2 Ev
structure Df (K : PySem.W.Frag) (mg : Str → Option Value) (x : Str) (st : Stmt) (ps : List Str) (f : Addr) (fd : FuncData) : Prop where
  F : Fun K x x st f fd
  b : Binds K fd ps []
  g : mg x = some (.ref f)
def kns : List Kn := [.non, .bl, .int, .str, .lst, .tup, .dic]
def chkL (K : PySem.W.Frag) (C fI fE : Addr) : Bool := PySem.W.makesIn K C && (PySem.W.isFn K (.ref fI) && (PySem.W.keepIn K (.ref C) && (PySem.W.plainGet K C Str.empty && (PySem.W.hasDictIn K C && (PySem.W.plainOver K C &&
  (decide (PySem.W.findIn K (.ref C) "__setattr__" = some (some (.builtin "object.__setattr__"))) && (decide (PySem.W.findIn K (.ref C) "texts" = some none) && (PySem.W.isFn K (.ref fE) &&
  (decide (PySem.W.findIn K (.ref C) "__class__" = some (some (.builtin "object.__class__"))) && (decide (PySem.W.mroIn K C (.type "object") = some true) && (decide (PySem.W.kitOne K (.ref C) (.ref C) = some true) && (PySem.W.notFirst K C (.ref C) &&
  kns.all fun k => decide (PySem.W.kitOne K (.type k.name) (.ref C) = some false) && PySem.W.notFirst K C (.type k.name)))))))))))))
section
variable {P : Program} {w : World} {K : PySem.W.Frag} {mg : Str → Option Value} {h : Heap} {x : Str}
theorem df_mk {st : Stmt} {ps : List Str} {oc kV dc pm cd ct : Value} {od an : Option Addr} {sl : Array (Option Value)} {fa : Addr} (X : K.In h) (G : h.Ns mainGlobals mg)
    (hb : ∀ (kV doc pm : Value) (an : Option Addr) (cdv ct : Value) (us : List Value), us.length = ps.length → bindArgs (PySem.W.fnOf x x (defArgs st) (defBody st) (defScope st) .none kV doc pm an cdv ct) ⟨us, []⟩ = pure (ps.zip us))
    (a : PySem.W.nsIn K mainGlobals x = some (some (.ref fa))) (l : K.lookup fa = some ⟨oc, od, .func (PySem.W.fnOf x x (defArgs st) (defBody st) (defScope st) .none kV dc pm an cd ct), sl⟩)
    (ck : (PySem.W.codeIn K cd x && PySem.W.keepIn K (.ref fa)) = true) : ∃ fd, Df K mg x st ps fa fd := by
  obtain ⟨c1, c2⟩ := Bool.and_eq_true_iff.mp ck
  have F1 := fun_mk (st := st) l c1 c2
  exact ⟨_, F1, F1.binds (ps := ps) hb, PySem.W.mg_of X G a⟩
theorem lib_mk {oc1 kV1 dc1 pm1 cd1 ct1 oc2 kV2 dc2 pm2 cd2 ct2 : Value} {od1 an1 od2 an2 : Option Addr} {sl1 sl2 : Array (Option Value)} {C fI fE : Addr} (X : K.In h) (G : h.Ns mainGlobals mg) (S : Sh K)
    (aC : PySem.W.nsIn K mainGlobals "Library" = some (some (.ref C))) (iC : PySem.W.findIn K (.ref C) "__init__" = some (some (.ref fI))) (eC : PySem.W.findIn K (.ref C) "__eq__" = some (some (.ref fE)))
    (lI : K.lookup fI = some ⟨oc1, od1, .func (PySem.W.fnOf "__init__" "Library.__init__" (defArgs sLInit) (defBody sLInit) (defScope sLInit) .none kV1 dc1 pm1 an1 cd1 ct1), sl1⟩)
    (lE : K.lookup fE = some ⟨oc2, od2, .func (PySem.W.fnOf "__eq__" "Library.__eq__" (defArgs sLEq) (defBody sLEq) (defScope sLEq) .none kV2 dc2 pm2 an2 cd2 ct2), sl2⟩)
    (c1 : (PySem.W.codeIn K cd1 "Library.__init__" && PySem.W.keepIn K (.ref fI)) = true) (c2 : (PySem.W.codeIn K cd2 "Library.__eq__" && PySem.W.keepIn K (.ref fE)) = true) (ck : chkL K C fI fE = true) : ∃ fdI fdE, LibC K mg C fI fE fdI fdE := by
  obtain ⟨i1, i2⟩ := Bool.and_eq_true_iff.mp c1
  obtain ⟨e1, e2⟩ := Bool.and_eq_true_iff.mp c2
  have FI := fun_mk (st := sLInit) lI i1 i2
  have FE := fun_mk (st := sLEq) lE e1 e2
  obtain ⟨h1, ck⟩ := Bool.and_eq_true_iff.mp ck
  obtain ⟨h2, ck⟩ := Bool.and_eq_true_iff.mp ck
  obtain ⟨h3, ck⟩ := Bool.and_eq_true_iff.mp ck
  obtain ⟨h4, ck⟩ := Bool.and_eq_true_iff.mp ck
  obtain ⟨h5, ck⟩ := Bool.and_eq_true_iff.mp ck
  obtain ⟨h6, ck⟩ := Bool.and_eq_true_iff.mp ck
  obtain ⟨h7, ck⟩ := Bool.and_eq_true_iff.mp ck
  obtain ⟨h8, ck⟩ := Bool.and_eq_true_iff.mp ck
  obtain ⟨h9, ck⟩ := Bool.and_eq_true_iff.mp ck
  obtain ⟨h10, ck⟩ := Bool.and_eq_true_iff.mp ck
  obtain ⟨h11, ck⟩ := Bool.and_eq_true_iff.mp ck
  obtain ⟨h12, ck⟩ := Bool.and_eq_true_iff.mp ck
  obtain ⟨h13, ck⟩ := Bool.and_eq_true_iff.mp ck
  have all := List.all_eq_true.mp ck
  have h8' := of_decide_eq_true h8
  have mem : ∀ k : Kn, k ∈ kns := fun k => by cases k <;> decide
  exact ⟨_, _, ⟨h1, iC, h2, h3⟩, ⟨h4, h5, h6, of_decide_eq_true h7⟩, h8', eC, h9, of_decide_eq_true h10, S.hn, S.ht, of_decide_eq_true h11, of_decide_eq_true h12,
    fun k => of_decide_eq_true (Bool.and_eq_true_iff.mp (all k (mem k))).1, fun k => (Bool.and_eq_true_iff.mp (all k (mem k))).2, h13,
    FI, FI.binds (ps := ["self", "texts"]) (fun _ _ _ _ _ _ us hl => match us, hl with | [_, _], _ => rfl), FE, FE.binds (ps := ["self", "other"]) (fun _ _ _ _ _ _ us hl => match us, hl with | [_, _], _ => rfl), PySem.W.mg_of X G aC⟩
end
theorem lk_eq {x : Str} {v : V} {l : List (Str × V)} : List.lookup x ((x, v) :: l) = some v := by
  rw [List.lookup_cons, beq_self_eq_true]
theorem lk_ne {x y : Str} (h : x ≠ y) {v : V} {l : List (Str × V)} : List.lookup x ((y, v) :: l) = List.lookup x l := by
  rw [List.lookup_cons, beq_false_of_ne h]
theorem sqt_k {K : PySem.W.Frag} {H : Hp} {a : Addr} {od : Option Addr} {its : List Value} {n : Nat} {sl : Array (Option Value)} {xs : List V} (l : K.lookup a = some ⟨.type "tuple", od, .seq its.toArray n, sl⟩) (hl : its.length ≤ 100) (v : Vals xs its) : SqT K H a xs :=
  .inr ⟨_, its.toArray, n, l, rfl, rfl, by rw [List.size_toArray]; exact Nat.le_trans hl (by decide), by simpa using v⟩
theorem forms_mk {K : PySem.W.Frag} {w : World} {mg : Str → Option Value} {h : Heap} {f a0 a1 a2 a3 a4 a5 a6 a7 : Addr} {od0 : Option Addr} {its0 : List Value} {n0 : Nat} {sl0 : Array (Option Value)} {od1 : Option Addr} {its1 : List Value} {n1 : Nat} {sl1 : Array (Option Value)} {od2 : Option Addr} {its2 : List Value} {n2 : Nat} {sl2 : Array (Option Value)} {od3 : Option Addr} {its3 : List Value} {n3 : Nat} {sl3 : Array (Option Value)} {od4 : Option Addr} {its4 : List Value} {n4 : Nat} {sl4 : Array (Option Value)} {od5 : Option Addr} {its5 : List Value} {n5 : Nat} {sl5 : Array (Option Value)} {od6 : Option Addr} {its6 : List Value} {n6 : Nat} {sl6 : Array (Option Value)} {od7 : Option Addr} {its7 : List Value} {n7 : Nat} {sl7 : Array (Option Value)} (X : K.In h) (G : h.Ns mainGlobals mg) (aF : PySem.W.nsIn K mainGlobals "FORMS" = some (some (.ref f))) (kd : KD K w f [(Str.ofString "put", V.ref a0), (Str.ofString "cut", V.ref a1), (Str.ofString "change", V.ref a2), (Str.ofString "come", V.ref a3), (Str.ofString "go", V.ref a4), (Str.ofString "split", V.ref a5), (Str.ofString "join", V.ref a6), (Str.ofString "move", V.ref a7)])
    (l0 : K.lookup a0 = some ⟨.type "tuple", od0, .seq its0.toArray n0, sl0⟩) (h0 : its0.length ≤ 100) (v0 : Vals (List.map V.str [kNum, kNum, kWord]) its0)
    (l1 : K.lookup a1 = some ⟨.type "tuple", od1, .seq its1.toArray n1, sl1⟩) (h1 : its1.length ≤ 100) (v1 : Vals (List.map V.str [kNum, kNum, kMany]) its1)
    (l2 : K.lookup a2 = some ⟨.type "tuple", od2, .seq its2.toArray n2, sl2⟩) (h2 : its2.length ≤ 100) (v2 : Vals (List.map V.str [kNum, kNum, kWord]) its2)
    (l3 : K.lookup a3 = some ⟨.type "tuple", od3, .seq its3.toArray n3, sl3⟩) (h3 : its3.length ≤ 100) (v3 : Vals (List.map V.str [kSigns]) its3)
    (l4 : K.lookup a4 = some ⟨.type "tuple", od4, .seq its4.toArray n4, sl4⟩) (h4 : its4.length ≤ 100) (v4 : Vals (List.map V.str []) its4)
    (l5 : K.lookup a5 = some ⟨.type "tuple", od5, .seq its5.toArray n5, sl5⟩) (h5 : its5.length ≤ 100) (v5 : Vals (List.map V.str [kNum, kNum]) its5)
    (l6 : K.lookup a6 = some ⟨.type "tuple", od6, .seq its6.toArray n6, sl6⟩) (h6 : its6.length ≤ 100) (v6 : Vals (List.map V.str [kNum, kNum]) its6)
    (l7 : K.lookup a7 = some ⟨.type "tuple", od7, .seq its7.toArray n7, sl7⟩) (h7 : its7.length ≤ 100) (v7 : Vals (List.map V.str [kNum, kNum, kMany, kNum, kNum]) its7) : ∃ kvs, FormsC K w mg f kvs := by
  refine ⟨_, kd, fun z hz => ?_, fun z ks hz => ?_, PySem.W.mg_of X G aF⟩
  · unfold kindsOf at hz
    have c0 : z ≠ Str.ofString "put" := fun e => by rw [if_pos e] at hz; cases hz
    rw [if_neg c0] at hz
    have c1 : z ≠ Str.ofString "cut" := fun e => by rw [if_pos e] at hz; cases hz
    rw [if_neg c1] at hz
    have c2 : z ≠ Str.ofString "change" := fun e => by rw [if_pos e] at hz; cases hz
    rw [if_neg c2] at hz
    have c3 : z ≠ Str.ofString "come" := fun e => by rw [if_pos e] at hz; cases hz
    rw [if_neg c3] at hz
    have c4 : z ≠ Str.ofString "go" := fun e => by rw [if_pos e] at hz; cases hz
    rw [if_neg c4] at hz
    have c5 : z ≠ Str.ofString "split" := fun e => by rw [if_pos e] at hz; cases hz
    rw [if_neg c5] at hz
    have c6 : z ≠ Str.ofString "join" := fun e => by rw [if_pos e] at hz; cases hz
    rw [if_neg c6] at hz
    have c7 : z ≠ Str.ofString "move" := fun e => by rw [if_pos e] at hz; cases hz
    rw [if_neg c7] at hz
    rw [lk_ne c0, lk_ne c1, lk_ne c2, lk_ne c3, lk_ne c4, lk_ne c5, lk_ne c6, lk_ne c7]
    rfl
  · unfold kindsOf at hz
    by_cases c0 : z = Str.ofString "put"
    · rw [if_pos c0] at hz
      cases hz
      subst c0
      exact ⟨a0, lk_eq, fun H => sqt_k l0 h0 v0⟩
    rw [if_neg c0] at hz
    by_cases c1 : z = Str.ofString "cut"
    · rw [if_pos c1] at hz
      cases hz
      subst c1
      exact ⟨a1, ((lk_ne (by decide +kernel)).trans lk_eq), fun H => sqt_k l1 h1 v1⟩
    rw [if_neg c1] at hz
    by_cases c2 : z = Str.ofString "change"
    · rw [if_pos c2] at hz
      cases hz
      subst c2
      exact ⟨a2, ((lk_ne (by decide +kernel)).trans ((lk_ne (by decide +kernel)).trans lk_eq)), fun H => sqt_k l2 h2 v2⟩
    rw [if_neg c2] at hz
    by_cases c3 : z = Str.ofString "come"
    · rw [if_pos c3] at hz
      cases hz
      subst c3
      exact ⟨a3, ((lk_ne (by decide +kernel)).trans ((lk_ne (by decide +kernel)).trans ((lk_ne (by decide +kernel)).trans lk_eq))), fun H => sqt_k l3 h3 v3⟩
    rw [if_neg c3] at hz
    by_cases c4 : z = Str.ofString "go"
    · rw [if_pos c4] at hz
      cases hz
      subst c4
      exact ⟨a4, ((lk_ne (by decide +kernel)).trans ((lk_ne (by decide +kernel)).trans ((lk_ne (by decide +kernel)).trans ((lk_ne (by decide +kernel)).trans lk_eq)))), fun H => sqt_k l4 h4 v4⟩
    rw [if_neg c4] at hz
    by_cases c5 : z = Str.ofString "split"
    · rw [if_pos c5] at hz
      cases hz
      subst c5
      exact ⟨a5, ((lk_ne (by decide +kernel)).trans ((lk_ne (by decide +kernel)).trans ((lk_ne (by decide +kernel)).trans ((lk_ne (by decide +kernel)).trans ((lk_ne (by decide +kernel)).trans lk_eq))))), fun H => sqt_k l5 h5 v5⟩
    rw [if_neg c5] at hz
    by_cases c6 : z = Str.ofString "join"
    · rw [if_pos c6] at hz
      cases hz
      subst c6
      exact ⟨a6, ((lk_ne (by decide +kernel)).trans ((lk_ne (by decide +kernel)).trans ((lk_ne (by decide +kernel)).trans ((lk_ne (by decide +kernel)).trans ((lk_ne (by decide +kernel)).trans ((lk_ne (by decide +kernel)).trans lk_eq)))))), fun H => sqt_k l6 h6 v6⟩
    rw [if_neg c6] at hz
    by_cases c7 : z = Str.ofString "move"
    · rw [if_pos c7] at hz
      cases hz
      subst c7
      exact ⟨a7, ((lk_ne (by decide +kernel)).trans ((lk_ne (by decide +kernel)).trans ((lk_ne (by decide +kernel)).trans ((lk_ne (by decide +kernel)).trans ((lk_ne (by decide +kernel)).trans ((lk_ne (by decide +kernel)).trans ((lk_ne (by decide +kernel)).trans lk_eq))))))), fun H => sqt_k l7 h7 v7⟩
    rw [if_neg c7] at hz
    cases hz
theorem makers_mk {K : PySem.W.Frag} {w : World} {mg : Str → Option Value} {h : Heap} {f : Addr} {fs : Fin 8 → Addr} (X : K.In h) (G : h.Ns mainGlobals mg) (aF : PySem.W.nsIn K mainGlobals "MAKERS" = some (some (.ref f))) (kd : KD K w f [(Str.ofString "put", V.ref (fs 0)), (Str.ofString "cut", V.ref (fs 1)), (Str.ofString "change", V.ref (fs 2)), (Str.ofString "come", V.ref (fs 3)), (Str.ofString "go", V.ref (fs 4)), (Str.ofString "split", V.ref (fs 5)), (Str.ofString "join", V.ref (fs 6)), (Str.ofString "move", V.ref (fs 7))]) : ∃ kvs, MakersC K w mg f kvs fs := by
  refine ⟨_, kd, fun e => ?_, PySem.W.mg_of X G aF⟩
  cases e with
  | put t a z =>
    show List.lookup (Str.ofString "put") _ = _
    exact lk_eq
  | cut t a n =>
    show List.lookup (Str.ofString "cut") _ = _
    exact ((lk_ne (by decide +kernel)).trans lk_eq)
  | change t a z =>
    show List.lookup (Str.ofString "change") _ = _
    exact ((lk_ne (by decide +kernel)).trans ((lk_ne (by decide +kernel)).trans lk_eq))
  | come z =>
    show List.lookup (Str.ofString "come") _ = _
    exact ((lk_ne (by decide +kernel)).trans ((lk_ne (by decide +kernel)).trans ((lk_ne (by decide +kernel)).trans lk_eq)))
  | go =>
    show List.lookup (Str.ofString "go") _ = _
    exact ((lk_ne (by decide +kernel)).trans ((lk_ne (by decide +kernel)).trans ((lk_ne (by decide +kernel)).trans ((lk_ne (by decide +kernel)).trans lk_eq))))
  | split t a =>
    show List.lookup (Str.ofString "split") _ = _
    exact ((lk_ne (by decide +kernel)).trans ((lk_ne (by decide +kernel)).trans ((lk_ne (by decide +kernel)).trans ((lk_ne (by decide +kernel)).trans ((lk_ne (by decide +kernel)).trans lk_eq)))))
  | join t u =>
    show List.lookup (Str.ofString "join") _ = _
    exact ((lk_ne (by decide +kernel)).trans ((lk_ne (by decide +kernel)).trans ((lk_ne (by decide +kernel)).trans ((lk_ne (by decide +kernel)).trans ((lk_ne (by decide +kernel)).trans ((lk_ne (by decide +kernel)).trans lk_eq))))))
  | move t a n u p =>
    show List.lookup (Str.ofString "move") _ = _
    exact ((lk_ne (by decide +kernel)).trans ((lk_ne (by decide +kernel)).trans ((lk_ne (by decide +kernel)).trans ((lk_ne (by decide +kernel)).trans ((lk_ne (by decide +kernel)).trans ((lk_ne (by decide +kernel)).trans ((lk_ne (by decide +kernel)).trans lk_eq)))))))
def fs8 (a b c d e f g h : Addr) : Fin 8 → Addr
  | 0 => a
  | 1 => b
  | 2 => c
  | 3 => d
  | 4 => e
  | 5 => f
  | 6 => g
  | 7 => h
theorem end_mk {P : Program} {w : World} {K : PySem.W.Frag} {mg : Str → Option Value} {h : Heap} {fa f PE C fI fE cEN cEP cEW cEB cEE aF aM fPNumber fPSigns fPWord fPPlace fPStands fQIsPart fQHasForm fQWithText fQTextsPut fQTextsCut fQTextsChanged fQTextsCome fQTextsGone fQTextsSplit fQTextsJoined fQTextsMoved fBehind fIsEdit fPEdited fPLed fQSteps fQStepBack fLeadingBack fQTakenBy fQTakenOn fPBehind fPAhead fHand fTake fPick fIsInteger fIsWithin fSame fOdd fAlphabet fWord fText fNear fTexts fAreSigns fIsWord fBadTexts fIsPlace fAllPlaces fAfter fFresh fEdited fIsStretch fEditForm fEditRight fEdit fSpoiltEdit fTries fWords fStood : Addr} {oc kV dc pm cd ct : Value} {od an : Option Addr} {sl : Array (Option Value)} {t8 t2000 : Tok} (X : K.In h) (G : h.Ns mainGlobals mg) (hfa : mg "law" = some (.ref fa))
    (aL : PySem.W.nsIn K mainGlobals "law" = some (some (.ref f))) (lL : K.lookup f = some ⟨oc, od, .func (PySem.W.fnOf "law" "law" (defArgs sLaw) (defBody sLaw) (defScope sLaw) .none kV dc pm an cd ct), sl⟩) (ck : (PySem.W.codeIn K cd "law" && PySem.W.keepIn K (.ref f)) = true)
    (a8 : PySem.W.nsIn K mainGlobals "MOST_TEXTS" = some (some (.int 8 t8))) (a2000 : PySem.W.nsIn K mainGlobals "MOST_SIGNS" = some (some (.int 2000 t2000)))
    (DPNumber : ∃ fd, Df K mg "is_number" sPNumber ["thing"] fPNumber fd)
    (DPSigns : ∃ fd, Df K mg "is_signs" sPSigns ["thing"] fPSigns fd)
    (DPWord : ∃ fd, Df K mg "is_word" sPWord ["thing"] fPWord fd)
    (DPPlace : ∃ fd, Df K mg "is_place" sPPlace ["library", "thing"] fPPlace fd)
    (DPStands : ∃ fd, Df K mg "stands" sPStands ["library", "word", "place"] fPStands fd)
    (DQIsPart : ∃ fd, Df K mg "_is_part" sQIsPart ["kind", "thing"] fQIsPart fd)
    (DQHasForm : ∃ fd, Df K mg "has_form" sQHasForm ["thing"] fQHasForm fd)
    (DQWithText : ∃ fd, Df K mg "_with_text" sQWithText ["texts", "number", "text"] fQWithText fd)
    (DQTextsPut : ∃ fd, Df K mg "_texts_put" sQTextsPut ["texts", "edit"] fQTextsPut fd)
    (DQTextsCut : ∃ fd, Df K mg "_texts_cut" sQTextsCut ["texts", "edit"] fQTextsCut fd)
    (DQTextsChanged : ∃ fd, Df K mg "_texts_changed" sQTextsChanged ["texts", "edit"] fQTextsChanged fd)
    (DQTextsCome : ∃ fd, Df K mg "_texts_come" sQTextsCome ["texts", "edit"] fQTextsCome fd)
    (DQTextsGone : ∃ fd, Df K mg "_texts_gone" sQTextsGone ["texts", "_"] fQTextsGone fd)
    (DQTextsSplit : ∃ fd, Df K mg "_texts_split" sQTextsSplit ["texts", "edit"] fQTextsSplit fd)
    (DQTextsJoined : ∃ fd, Df K mg "_texts_joined" sQTextsJoined ["texts", "edit"] fQTextsJoined fd)
    (DQTextsMoved : ∃ fd, Df K mg "_texts_moved" sQTextsMoved ["texts", "edit"] fQTextsMoved fd)
    (DBehind : ∃ fd, Df K mg "_library_behind" sBehind ["library", "thing"] fBehind fd)
    (DIsEdit : ∃ fd, Df K mg "is_edit" sIsEdit ["library", "thing"] fIsEdit fd)
    (DPEdited : ∃ fd, Df K mg "edited" sPEdited ["library", "edit"] fPEdited fd)
    (DPLed : ∃ fd, Df K mg "led" sPLed ["library", "edits"] fPLed fd)
    (DQSteps : ∃ fd, Df K mg "_steps" sQSteps ["texts", "edit"] fQSteps fd)
    (DQStepBack : ∃ fd, Df K mg "_step_back" sQStepBack ["texts", "step"] fQStepBack fd)
    (DLeadingBack : ∃ fd, Df K mg "leading_back" sLeadingBack ["library", "edit"] fLeadingBack fd)
    (DQTakenBy : ∃ fd, Df K mg "_taken_by" sQTakenBy ["step", "place"] fQTakenBy fd)
    (DQTakenOn : ∃ fd, Df K mg "_taken_on" sQTakenOn ["steps", "place"] fQTakenOn fd)
    (DPBehind : ∃ fd, Df K mg "place_behind" sPBehind ["library", "edit", "place"] fPBehind fd)
    (DPAhead : ∃ fd, Df K mg "place_ahead" sPAhead ["library", "edit", "place"] fPAhead fd)
    (DHand : ∃ fd, Df K mg "_law_hand" sHand ["script"] fHand fd)
    (DTake : ∃ fd, Df K mg "_law_take" sTake ["hand", "many"] fTake fd)
    (DPick : ∃ fd, Df K mg "_law_pick" sPick ["hand", "things"] fPick fd)
    (DIsInteger : ∃ fd, Df K mg "_law_is_integer" sIsInteger ["thing"] fIsInteger fd)
    (DIsWithin : ∃ fd, Df K mg "_law_is_within" sIsWithin ["thing", "least", "most"] fIsWithin fd)
    (DSame : ∃ fd, Df K mg "_law_same" sSame ["actual", "due"] fSame fd)
    (DOdd : ∃ fd, Df K mg "_law_odd" sOdd ["hand"] fOdd fd)
    (DAlphabet : ∃ fd, Df K mg "_law_alphabet" sAlphabet ["hand"] fAlphabet fd)
    (DWord : ∃ fd, Df K mg "_law_word" sWord ["hand", "signs", "least", "most"] fWord fd)
    (DText : ∃ fd, Df K mg "_law_text" sText ["hand", "signs", "most"] fText fd)
    (DNear : ∃ fd, Df K mg "_law_near" sNear ["hand", "signs", "text", "most"] fNear fd)
    (DTexts : ∃ fd, Df K mg "_law_texts" sTexts ["hand", "most"] fTexts fd)
    (DAreSigns : ∃ fd, Df K mg "_law_are_signs" sAreSigns ["thing"] fAreSigns fd)
    (DIsWord : ∃ fd, Df K mg "_law_is_word" sIsWord ["thing"] fIsWord fd)
    (DBadTexts : ∃ fd, Df K mg "_law_bad_texts" sBadTexts ["thing"] fBadTexts fd)
    (DIsPlace : ∃ fd, Df K mg "_law_is_place" sIsPlace ["texts", "thing"] fIsPlace fd)
    (DAllPlaces : ∃ fd, Df K mg "_law_all_places" sAllPlaces ["texts"] fAllPlaces fd)
    (DAfter : ∃ fd, Df K mg "_law_after" sAfter ["rows", "edit", "fresh"] fAfter fd)
    (DFresh : ∃ fd, Df K mg "_law_fresh" sFresh ["edit"] fFresh fd)
    (DEdited : ∃ fd, Df K mg "_law_edited" sEdited ["texts", "edit"] fEdited fd)
    (DIsStretch : ∃ fd, Df K mg "_law_is_stretch" sIsStretch ["texts", "text", "at", "many"] fIsStretch fd)
    (DEditForm : ∃ fd, Df K mg "_law_edit_form" sEditForm ["texts", "thing"] fEditForm fd)
    (DEditRight : ∃ fd, Df K mg "_law_edit_right" sEditRight ["texts", "thing"] fEditRight fd)
    (DEdit : ∃ fd, Df K mg "_law_edit" sEdit ["hand", "texts", "signs"] fEdit fd)
    (DSpoiltEdit : ∃ fd, Df K mg "_law_spoilt_edit" sSpoiltEdit ["hand", "edit"] fSpoiltEdit fd)
    (DTries : ∃ fd, Df K mg "_law_tries" sTries ["library", "edit", "place"] fTries fd)
    (DWords : ∃ fd, Df K mg "_law_words" sWords ["library", "texts", "edit", "place"] fWords fd)
    (DStood : ∃ fd, Df K mg "_law_stood" sStood ["library", "word", "place"] fStood fd)
    (FF : ∃ kvs, FormsC K w mg aF kvs) (MM : ∃ kvs, MakersC K w mg aM kvs (fs8 fQTextsPut fQTextsCut fQTextsChanged fQTextsCome fQTextsGone fQTextsSplit fQTextsJoined fQTextsMoved))
    (LL : ∃ fdI fdE, LibC K mg C fI fE fdI fdE) (EN : Cls0 P K mg PE "NoEdit" cEN) (EP : Cls0 P K mg PE "NoPlace" cEP) (EW : Cls0 P K mg PE "NoWord" cEW) (EB : Cls1 K mg PE "BadLibrary" "part" cEB) (EE : Cls1 K mg PE "BadEdits" "index" cEE) (neENEP : cEN ≠ cEP) (neEWEP : cEW ≠ cEP) (T : Glob mg) :
    ∃ fd : FuncData, (∀ (s : Shared) (u : Value), BindsTo s fd ⟨[u], []⟩ [("script", u)]) ∧ ∀ base : Heap, K.In base → base.Ns mainGlobals mg → FnAt callerA P w K mg base CX0 fa fd ["script"] (spLaw K) := by
  have e := hfa.symm.trans (PySem.W.mg_of X G aL)
  cases e
  obtain ⟨fdI, fdE, L⟩ := LL
  obtain ⟨kvF, FC⟩ := FF
  obtain ⟨kvM, MC⟩ := MM
  obtain ⟨fdPNumber, DPNumber⟩ := DPNumber
  obtain ⟨fdPSigns, DPSigns⟩ := DPSigns
  obtain ⟨fdPWord, DPWord⟩ := DPWord
  obtain ⟨fdPPlace, DPPlace⟩ := DPPlace
  obtain ⟨fdPStands, DPStands⟩ := DPStands
  obtain ⟨fdQIsPart, DQIsPart⟩ := DQIsPart
  obtain ⟨fdQHasForm, DQHasForm⟩ := DQHasForm
  obtain ⟨fdQWithText, DQWithText⟩ := DQWithText
  obtain ⟨fdQTextsPut, DQTextsPut⟩ := DQTextsPut
  obtain ⟨fdQTextsCut, DQTextsCut⟩ := DQTextsCut
  obtain ⟨fdQTextsChanged, DQTextsChanged⟩ := DQTextsChanged
  obtain ⟨fdQTextsCome, DQTextsCome⟩ := DQTextsCome
  obtain ⟨fdQTextsGone, DQTextsGone⟩ := DQTextsGone
  obtain ⟨fdQTextsSplit, DQTextsSplit⟩ := DQTextsSplit
  obtain ⟨fdQTextsJoined, DQTextsJoined⟩ := DQTextsJoined
  obtain ⟨fdQTextsMoved, DQTextsMoved⟩ := DQTextsMoved
  obtain ⟨fdBehind, DBehind⟩ := DBehind
  obtain ⟨fdIsEdit, DIsEdit⟩ := DIsEdit
  obtain ⟨fdPEdited, DPEdited⟩ := DPEdited
  obtain ⟨fdPLed, DPLed⟩ := DPLed
  obtain ⟨fdQSteps, DQSteps⟩ := DQSteps
  obtain ⟨fdQStepBack, DQStepBack⟩ := DQStepBack
  obtain ⟨fdLeadingBack, DLeadingBack⟩ := DLeadingBack
  obtain ⟨fdQTakenBy, DQTakenBy⟩ := DQTakenBy
  obtain ⟨fdQTakenOn, DQTakenOn⟩ := DQTakenOn
  obtain ⟨fdPBehind, DPBehind⟩ := DPBehind
  obtain ⟨fdPAhead, DPAhead⟩ := DPAhead
  obtain ⟨fdHand, DHand⟩ := DHand
  obtain ⟨fdTake, DTake⟩ := DTake
  obtain ⟨fdPick, DPick⟩ := DPick
  obtain ⟨fdIsInteger, DIsInteger⟩ := DIsInteger
  obtain ⟨fdIsWithin, DIsWithin⟩ := DIsWithin
  obtain ⟨fdSame, DSame⟩ := DSame
  obtain ⟨fdOdd, DOdd⟩ := DOdd
  obtain ⟨fdAlphabet, DAlphabet⟩ := DAlphabet
  obtain ⟨fdWord, DWord⟩ := DWord
  obtain ⟨fdText, DText⟩ := DText
  obtain ⟨fdNear, DNear⟩ := DNear
  obtain ⟨fdTexts, DTexts⟩ := DTexts
  obtain ⟨fdAreSigns, DAreSigns⟩ := DAreSigns
  obtain ⟨fdIsWord, DIsWord⟩ := DIsWord
  obtain ⟨fdBadTexts, DBadTexts⟩ := DBadTexts
  obtain ⟨fdIsPlace, DIsPlace⟩ := DIsPlace
  obtain ⟨fdAllPlaces, DAllPlaces⟩ := DAllPlaces
  obtain ⟨fdAfter, DAfter⟩ := DAfter
  obtain ⟨fdFresh, DFresh⟩ := DFresh
  obtain ⟨fdEdited, DEdited⟩ := DEdited
  obtain ⟨fdIsStretch, DIsStretch⟩ := DIsStretch
  obtain ⟨fdEditForm, DEditForm⟩ := DEditForm
  obtain ⟨fdEditRight, DEditRight⟩ := DEditRight
  obtain ⟨fdEdit, DEdit⟩ := DEdit
  obtain ⟨fdSpoiltEdit, DSpoiltEdit⟩ := DSpoiltEdit
  obtain ⟨fdTries, DTries⟩ := DTries
  obtain ⟨fdWords, DWords⟩ := DWords
  obtain ⟨fdStood, DStood⟩ := DStood
  obtain ⟨c1, c2⟩ := Bool.and_eq_true_iff.mp ck
  have F1 := fun_mk (st := sLaw) lL c1 c2
  refine ⟨PySem.W.fnOf "law" "law" (defArgs sLaw) (defBody sLaw) (defScope sLaw) .none kV dc pm an cd ct, fun s u => .of_eq rfl, fun base _ _ => ?_⟩
  have THand : Dk P w K mg base "_law_hand" sHand ["script"] 1 (spHand K) fHand fdHand := ⟨DHand.F, DHand.b, DHand.g, ok_hand DHand.F T⟩
  have TTake : Dk P w K mg base "_law_take" sTake ["hand", "many"] 1 spTake fTake fdTake := ⟨DTake.F, DTake.b, DTake.g, ok_take DTake.F T⟩
  have TPick : Dk P w K mg base "_law_pick" sPick ["hand", "things"] 2 (spPick K) fPick fdPick := ⟨DPick.F, DPick.b, DPick.g, ok_Pick DPick.F  (DTake := TTake) (T := T)⟩
  have TIsInteger : Dk P w K mg base "_law_is_integer" sIsInteger ["thing"] 1 spInt fIsInteger fdIsInteger := ⟨DIsInteger.F, DIsInteger.b, DIsInteger.g, ok_IsInteger DIsInteger.F   (T := T)⟩
  have S0 : FnOk P w K mg base CX0 1 fSame fdSame ["actual", "due"] (spSame R0) := ⟨fun vs H Q E z => z.elim fun _ z => z.elim fun _ z => z.2.1.elim, fun A outer s H args us vs Q E _ _ _ _ z => z.elim fun _ z => z.elim fun _ z => z.2.1.elim⟩
  have S1 := ok_same_step R0.mono DSame.F DSame.b DSame.g (by decide) S0 TIsInteger T
  have S2 := ok_same_step R1.mono DSame.F DSame.b DSame.g (by decide) S1 TIsInteger T
  have S3 := ok_same_step R2.mono DSame.F DSame.b DSame.g (by decide) S2 TIsInteger T
  have TSame : Dk P w K mg base "_law_same" sSame ["actual", "due"] 4 (spSame R3) fSame fdSame := ⟨DSame.F, DSame.b, DSame.g, S3⟩
  have TOdd : Dk P w K mg base "_law_odd" sOdd ["hand"] 2 spOdd fOdd fdOdd := ⟨DOdd.F, DOdd.b, DOdd.g, ok_odd DOdd.F DTake.F DTake.b DTake.g T⟩
  have TAlphabet : Dk P w K mg base "_law_alphabet" sAlphabet ["hand"] 2 spAlpha fAlphabet fdAlphabet := ⟨DAlphabet.F, DAlphabet.b, DAlphabet.g, ok_Alphabet DAlphabet.F  (DTake := TTake) (T := T)⟩
  have TWord : Dk P w K mg base "_law_word" sWord ["hand", "signs", "least", "most"] 2 spWord fWord fdWord := ⟨DWord.F, DWord.b, DWord.g, ok_Word DWord.F  (DTake := TTake) (T := T)⟩
  have TText : Dk P w K mg base "_law_text" sText ["hand", "signs", "most"] 3 spText fText fdText := ⟨DText.F, DText.b, DText.g, ok_Text DText.F  (DTake := TTake) (DWord := TWord) (T := T)⟩
  have TNear : Dk P w K mg base "_law_near" sNear ["hand", "signs", "text", "most"] 3 spNear fNear fdNear := ⟨DNear.F, DNear.b, DNear.g, ok_Near DNear.F  (DTake := TTake) (DWord := TWord) (T := T)⟩
  have TTexts : Dk P w K mg base "_law_texts" sTexts ["hand", "most"] 4 spTexts fTexts fdTexts := ⟨DTexts.F, DTexts.b, DTexts.g, ok_Texts DTexts.F  (DTake := TTake) (DPick := TPick) (DAlphabet := TAlphabet) (DText := TText) (DNear := TNear) (T := T)⟩
  have TAllPlaces : Dk P w K mg base "_law_all_places" sAllPlaces ["texts"] 1 spAllP fAllPlaces fdAllPlaces := ⟨DAllPlaces.F, DAllPlaces.b, DAllPlaces.g, ok_AllPlaces DAllPlaces.F   (T := T)⟩
  have TEdit : Dk P w K mg base "_law_edit" sEdit ["hand", "texts", "signs"] 3 spEdit fEdit fdEdit := ⟨DEdit.F, DEdit.b, DEdit.g, ok_Edit DEdit.F  (DTake := TTake) (DWord := TWord) (T := T)⟩
  have TSpoiltEdit : Dk P w K mg base "_law_spoilt_edit" sSpoiltEdit ["hand", "edit"] 3 spSpoilt fSpoiltEdit fdSpoiltEdit := ⟨DSpoiltEdit.F, DSpoiltEdit.b, DSpoiltEdit.g, ok_SpoiltEdit DSpoiltEdit.F  (DTake := TTake) (DPick := TPick) (DIsInteger := TIsInteger) (DOdd := TOdd) (T := T)⟩
  have TQWithText : Dk P w K mg base "_with_text" sQWithText ["texts", "number", "text"] 1 spWith fQWithText fdQWithText := ⟨DQWithText.F, DQWithText.b, DQWithText.g, ok_QWithText DQWithText.F   (T := T)⟩
  have TQTextsPut : Dk P w K mg base "_texts_put" sQTextsPut ["texts", "edit"] 2 spPut fQTextsPut fdQTextsPut := ⟨DQTextsPut.F, DQTextsPut.b, DQTextsPut.g, ok_QTextsPut DQTextsPut.F  (DQWithText := TQWithText) (T := T)⟩
  have TQTextsCut : Dk P w K mg base "_texts_cut" sQTextsCut ["texts", "edit"] 2 spCut fQTextsCut fdQTextsCut := ⟨DQTextsCut.F, DQTextsCut.b, DQTextsCut.g, ok_QTextsCut DQTextsCut.F  (DQWithText := TQWithText) (T := T)⟩
  have TQTextsChanged : Dk P w K mg base "_texts_changed" sQTextsChanged ["texts", "edit"] 2 spChange fQTextsChanged fdQTextsChanged := ⟨DQTextsChanged.F, DQTextsChanged.b, DQTextsChanged.g, ok_QTextsChanged DQTextsChanged.F  (DQWithText := TQWithText) (T := T)⟩
  have TQTextsCome : Dk P w K mg base "_texts_come" sQTextsCome ["texts", "edit"] 1 spCome fQTextsCome fdQTextsCome := ⟨DQTextsCome.F, DQTextsCome.b, DQTextsCome.g, ok_QTextsCome DQTextsCome.F   (T := T)⟩
  have TQTextsGone : Dk P w K mg base "_texts_gone" sQTextsGone ["texts", "_"] 1 spGone fQTextsGone fdQTextsGone := ⟨DQTextsGone.F, DQTextsGone.b, DQTextsGone.g, ok_QTextsGone DQTextsGone.F   (T := T)⟩
  have TQTextsSplit : Dk P w K mg base "_texts_split" sQTextsSplit ["texts", "edit"] 2 spSplit fQTextsSplit fdQTextsSplit := ⟨DQTextsSplit.F, DQTextsSplit.b, DQTextsSplit.g, ok_QTextsSplit DQTextsSplit.F  (DQWithText := TQWithText) (T := T)⟩
  have TQTextsJoined : Dk P w K mg base "_texts_joined" sQTextsJoined ["texts", "edit"] 2 spJoin fQTextsJoined fdQTextsJoined := ⟨DQTextsJoined.F, DQTextsJoined.b, DQTextsJoined.g, ok_QTextsJoined DQTextsJoined.F  (DQWithText := TQWithText) (T := T)⟩
  have TQTextsMoved : Dk P w K mg base "_texts_moved" sQTextsMoved ["texts", "edit"] 3 spMove fQTextsMoved fdQTextsMoved := ⟨DQTextsMoved.F, DQTextsMoved.b, DQTextsMoved.g, ok_QTextsMoved DQTextsMoved.F  (DQTextsPut := TQTextsPut) (DQTextsCut := TQTextsCut) (T := T)⟩
  have TPNumber : Dk P w K mg base "is_number" sPNumber ["thing"] 1 spNum fPNumber fdPNumber := ⟨DPNumber.F, DPNumber.b, DPNumber.g, ok_PNumber DPNumber.F   (T := T)⟩
  have TPSigns : Dk P w K mg base "is_signs" sPSigns ["thing"] 1 spSg fPSigns fdPSigns := ⟨DPSigns.F, DPSigns.b, DPSigns.g, ok_PSigns DPSigns.F   (T := T)⟩
  have TPWord : Dk P w K mg base "is_word" sPWord ["thing"] 2 spWd fPWord fdPWord := ⟨DPWord.F, DPWord.b, DPWord.g, ok_PWord DPWord.F  (DPSigns := TPSigns) (T := T)⟩
  have TQIsPart : Dk P w K mg base "_is_part" sQIsPart ["kind", "thing"] 3 spPart fQIsPart fdQIsPart := ⟨DQIsPart.F, DQIsPart.b, DQIsPart.g, ok_QIsPart DQIsPart.F  (DPNumber := TPNumber) (DPSigns := TPSigns) (DPWord := TPWord) (T := T)⟩
  have TQHasForm : Dk P w K mg base "has_form" sQHasForm ["thing"] 4 spForm fQHasForm fdQHasForm := ⟨DQHasForm.F, DQHasForm.b, DQHasForm.g, ok_QHasForm DQHasForm.F (DQIsPart := TQIsPart) (FC := FC) (T := T)⟩
  have GI : FnOk P w K mg base (L2.CX P w) 4 fI fdI ["self", "texts"] (spLInit C cEB) := ok_LInit L EB (PySem.W.mg_of X G a8) (PySem.W.mg_of X G a2000) TPSigns T
  have TBehind : Dk P w K mg base "_library_behind" sBehind ["library", "thing"] 6 (spBehind C) fBehind fdBehind := ⟨DBehind.F, DBehind.b, DBehind.g, ok_Behind DBehind.F L (EB) GI (DQHasForm := TQHasForm) (DQTextsPut := TQTextsPut) (DQTextsCut := TQTextsCut) (DQTextsChanged := TQTextsChanged) (DQTextsCome := TQTextsCome) (DQTextsGone := TQTextsGone) (DQTextsSplit := TQTextsSplit) (DQTextsJoined := TQTextsJoined) (DQTextsMoved := TQTextsMoved) rfl rfl rfl rfl rfl rfl rfl rfl MC T⟩
  have GEd : FnOk P w K mg base (L2.CX P w) 7 fPEdited fdPEdited ["library", "edit"] (spPEdited C cEN) := ok_PEdited DPEdited.F EN TBehind T
  have GLd : FnOk P w K mg base (L2.CX P w) 7 fPLed fdPLed ["library", "edits"] (spPLed C cEE) := ok_PLed DPLed.F EE TBehind T
  have TIsEdit : Dk P w K mg base "is_edit" sIsEdit ["library", "thing"] 7 (spIsEdit C) fIsEdit fdIsEdit := ⟨DIsEdit.F, DIsEdit.b, DIsEdit.g, ok_IsEdit DIsEdit.F TBehind T⟩
  have TQSteps : Dk P w K mg base "_steps" sQSteps ["texts", "edit"] 1 spSteps fQSteps fdQSteps := ⟨DQSteps.F, DQSteps.b, DQSteps.g, ok_QSteps DQSteps.F   (T := T)⟩
  have TQStepBack : Dk P w K mg base "_step_back" sQStepBack ["texts", "step"] 1 spStepBack fQStepBack fdQStepBack := ⟨DQStepBack.F, DQStepBack.b, DQStepBack.g, ok_QStepBack DQStepBack.F   (T := T)⟩
  have GBk : FnOk P w K mg base (L2.CX P w) 8 fLeadingBack fdLeadingBack ["library", "edit"] (spBack C cEN) := ok_LeadingBack DLeadingBack.F (L := L) (ENoEdit := EN) (DIsEdit := TIsEdit) (DQSteps := TQSteps) (DQStepBack := TQStepBack) (T := T)
  have TPPlace : Dk P w K mg base "is_place" sPPlace ["library", "thing"] 2 (spPPlace C) fPPlace fdPPlace := ⟨DPPlace.F, DPPlace.b, DPPlace.g, ok_PPlace DPPlace.F (L := L) (DPNumber := TPNumber) (T := T)⟩
  have TQTakenBy : Dk P w K mg base "_taken_by" sQTakenBy ["step", "place"] 1 spTakenBy fQTakenBy fdQTakenBy := ⟨DQTakenBy.F, DQTakenBy.b, DQTakenBy.g, ok_QTakenBy DQTakenBy.F   (T := T)⟩
  have TQTakenOn : Dk P w K mg base "_taken_on" sQTakenOn ["steps", "place"] 2 spTakenOn fQTakenOn fdQTakenOn := ⟨DQTakenOn.F, DQTakenOn.b, DQTakenOn.g, ok_QTakenOn DQTakenOn.F  (DQTakenBy := TQTakenBy) (T := T)⟩
  have GPb : FnOk P w K mg base (L2.CX P w) 8 fPBehind fdPBehind ["library", "edit", "place"] (spPBehind C cEN cEP) := ok_PBehind DPBehind.F (L := L) (ENoEdit := EN) (ENoPlace := EP) (DPPlace := TPPlace) (DIsEdit := TIsEdit) (DQSteps := TQSteps) (DQTakenOn := TQTakenOn) (T := T)
  have GPa : FnOk P w K mg base (L2.CX P w) 8 fPAhead fdPAhead ["library", "edit", "place"] (spPAhead C cEN cEP) := ok_PAhead DPAhead.F (L := L) (ENoEdit := EN) (ENoPlace := EP) (DPPlace := TPPlace) (FEd := DPEdited.F) (bEd := DPEdited.b) (gEd := DPEdited.g) (GEd := GEd) (DQSteps := TQSteps) (DQTakenOn := TQTakenOn) (T := T)
  have TTries : Dk P w K mg base "_law_tries" sTries ["library", "edit", "place"] 9 (spTries C) fTries fdTries := ⟨DTries.F, DTries.b, DTries.g, ok_Tries DTries.F L EN EP neENEP DPEdited.F DPEdited.b DPEdited.g GEd DPLed.F DPLed.b DPLed.g GLd DLeadingBack.F DLeadingBack.b DLeadingBack.g GBk DPBehind.F DPBehind.b DPBehind.g GPb DPAhead.F DPAhead.b DPAhead.g GPa  (T := T)⟩
  have TIsWithin : Dk P w K mg base "_law_is_within" sIsWithin ["thing", "least", "most"] 2 spIn fIsWithin fdIsWithin := ⟨DIsWithin.F, DIsWithin.b, DIsWithin.g, ok_IsWithin DIsWithin.F  (DIsInteger := TIsInteger) (T := T)⟩
  have TIsPlace : Dk P w K mg base "_law_is_place" sIsPlace ["texts", "thing"] 3 spPlace fIsPlace fdIsPlace := ⟨DIsPlace.F, DIsPlace.b, DIsPlace.g, ok_IsPlace DIsPlace.F  (DIsWithin := TIsWithin) (T := T)⟩
  have TAfter : Dk P w K mg base "_law_after" sAfter ["rows", "edit", "fresh"] 1 spAfter fAfter fdAfter := ⟨DAfter.F, DAfter.b, DAfter.g, ok_After DAfter.F   (T := T)⟩
  have TFresh : Dk P w K mg base "_law_fresh" sFresh ["edit"] 1 spFresh fFresh fdFresh := ⟨DFresh.F, DFresh.b, DFresh.g, ok_Fresh DFresh.F   (T := T)⟩
  have TEdited : Dk P w K mg base "_law_edited" sEdited ["texts", "edit"] 2 spEdited fEdited fdEdited := ⟨DEdited.F, DEdited.b, DEdited.g, ok_Edited DEdited.F  (DAfter := TAfter) (DFresh := TFresh) (T := T)⟩
  have TAreSigns : Dk P w K mg base "_law_are_signs" sAreSigns ["thing"] 1 spSg fAreSigns fdAreSigns := ⟨DAreSigns.F, DAreSigns.b, DAreSigns.g, ok_AreSigns DAreSigns.F   (T := T)⟩
  have TBadTexts : Dk P w K mg base "_law_bad_texts" sBadTexts ["thing"] 2 spBad fBadTexts fdBadTexts := ⟨DBadTexts.F, DBadTexts.b, DBadTexts.g, ok_BadTexts DBadTexts.F  (DAreSigns := TAreSigns) (T := T)⟩
  have TIsWord : Dk P w K mg base "_law_is_word" sIsWord ["thing"] 2 spWd fIsWord fdIsWord := ⟨DIsWord.F, DIsWord.b, DIsWord.g, ok_IsWord DIsWord.F  (DAreSigns := TAreSigns) (T := T)⟩
  have TIsStretch : Dk P w K mg base "_law_is_stretch" sIsStretch ["texts", "text", "at", "many"] 3 spStretch fIsStretch fdIsStretch := ⟨DIsStretch.F, DIsStretch.b, DIsStretch.g, ok_IsStretch DIsStretch.F  (DIsWithin := TIsWithin) (T := T)⟩
  have TEditForm : Dk P w K mg base "_law_edit_form" sEditForm ["texts", "thing"] 4 spEditForm fEditForm fdEditForm := ⟨DEditForm.F, DEditForm.b, DEditForm.g, ok_EditForm DEditForm.F  (DIsWithin := TIsWithin) (DAreSigns := TAreSigns) (DIsWord := TIsWord) (DIsStretch := TIsStretch) (T := T)⟩
  have TEditRight : Dk P w K mg base "_law_edit_right" sEditRight ["texts", "thing"] 5 spEditRight fEditRight fdEditRight := ⟨DEditRight.F, DEditRight.b, DEditRight.g, ok_EditRight DEditRight.F  (DBadTexts := TBadTexts) (DEdited := TEdited) (DEditForm := TEditForm) (T := T)⟩
  have TWords : Dk P w K mg base "_law_words" sWords ["library", "texts", "edit", "place"] 10 (spWords C) fWords fdWords := ⟨DWords.F, DWords.b, DWords.g, ok_Words DWords.F  (DSame := TSame) (DIsPlace := TIsPlace) (DEdited := TEdited) (DEditRight := TEditRight) (DTries := TTries) (T := T)⟩
  have GSt : FnOk P w K mg base (L2.CX P w) 3 fPStands fdPStands ["library", "word", "place"] (spStands C cEW cEP) := ok_PStands DPStands.F L EW EP (DPWord := TPWord) (DPPlace := TPPlace) (T := T)
  have TStood : Dk P w K mg base "_law_stood" sStood ["library", "word", "place"] 4 (spStood C) fStood fdStood := ⟨DStood.F, DStood.b, DStood.g, ok_Stood DStood.F L EW EP neEWEP DPStands.F DPStands.b DPStands.g GSt  (T := T)⟩
  exact ok_law F1 (DHand := THand) (DPick := TPick) (DSame := TSame) (DOdd := TOdd) (DAlphabet := TAlphabet) (DTexts := TTexts) (DAllPlaces := TAllPlaces) (DEdit := TEdit) (DSpoiltEdit := TSpoiltEdit) (DTries := TTries) (DWords := TWords) (DStood := TStood)  (L := L) (GI := GI) (T := T)
end LawK
open PySem PySem.W PyProof.Rows L2
set_option maxRecDepth 100000 in
set_option maxHeartbeats 0 in
theorem PySem.Challenge.cw_everypiece_k05_refusals_of_edits_holds : PySem.Challenge.rw_everypiece_k05_refusals_of_edits.Holds := by
  w_on; o_law; k_head; (case hw => w_witness2)
  k_fill
  refine Ev.walk_at (l := PySem.Challenge.rw_everypiece_k05_refusals_of_edits) (n := 63) (x := "script") (sp := LawK.spLaw) rfl (by decide) rfl (fun w h Y => PySem.W.kIn_of Y) ?F (fun K H a ns hl _ hS => ⟨a, ns, rfl, hS, fun _ => rfl⟩)
  case F =>
    intro w mg fa h KX G hmg
    have hfa : mg "law" = some (.ref fa) := hmg
    clear hmg
    refine LawK.say KX (fun K => LawK.Sh0 (PySem.W.OpenLaw.prog PySem.Challenge.rw_everypiece_k05_refusals_of_edits) K mg) (by
      refine' LawK.sh0_mk KX G ?kq1a ?kq1b ?kq1c ?kq1d ?kq1e
      (case kq1a => k_is); (case kq1b => k_is); (case kq1c => k_is); (case kq1d => decide +kernel); (case kq1e => k_is)) ?_
    intro S
    refine LawK.say KX (fun K => LawK.Cls1 K mg 24 "BadLibrary" "part" 44) (by
      refine' LawK.cls1_mk (st := inClass (LawK.topS 2) 0) (qual := "BadLibrary.__init__") KX G S.toSh ⟨⟨_, _, _, _, rfl⟩, ⟨rfl, rfl, rfl, by decide +kernel, rfl, by decide +kernel, by decide +kernel⟩, rfl, rfl, rfl, rfl⟩ (fun _ _ _ _ _ _ us hl => match us, hl with | [_, _], _ => rfl) ?kq2a ?kq2l ?kq2i ?kq2f ?kq2c
      (case kq2a => k_is); (case kq2l => k_is); (case kq2i => k_is); (case kq2f => k_is); (case kq2c => kernel_rfl)) ?_
    intro EB
    refine LawK.say KX (fun K => LawK.Cls1 K mg 24 "BadEdits" "index" 126) (by
      refine' LawK.cls1_mk (st := inClass (LawK.topS 6) 0) (qual := "BadEdits.__init__") KX G S.toSh ⟨⟨_, _, _, _, rfl⟩, ⟨rfl, rfl, rfl, by decide +kernel, rfl, by decide +kernel, by decide +kernel⟩, rfl, rfl, rfl, rfl⟩ (fun _ _ _ _ _ _ us hl => match us, hl with | [_, _], _ => rfl) ?kq3a ?kq3l ?kq3i ?kq3f ?kq3c
      (case kq3a => k_is); (case kq3l => k_is); (case kq3i => k_is); (case kq3f => k_is); (case kq3c => kernel_rfl)) ?_
    intro EE
    refine LawK.say KX (fun K => LawK.Cls0 (PySem.W.OpenLaw.prog PySem.Challenge.rw_everypiece_k05_refusals_of_edits) K mg 24 "NoEdit" 107) (by
      refine' LawK.cls0_mk (qual := "NoEdit.__init__") KX G S ?kq4a ?kq4l ?kq4i ?kq4f ?kq4d ?kq4e ?kq4v ?kq4w ?kq4p ?kq4c
      (case kq4a => k_is); (case kq4l => k_is); (case kq4i => k_is); (case kq4f => k_is); (case kq4d => k_is); (case kq4e => k_is); (case kq4v => rfl); (case kq4w => rfl); (case kq4p => rfl); (case kq4c => kernel_rfl)) ?_
    intro EN
    refine LawK.say KX (fun K => LawK.Cls0 (PySem.W.OpenLaw.prog PySem.Challenge.rw_everypiece_k05_refusals_of_edits) K mg 24 "NoPlace" 86) (by
      refine' LawK.cls0_mk (qual := "NoPlace.__init__") KX G S ?kq5a ?kq5l ?kq5i ?kq5f ?kq5d ?kq5e ?kq5v ?kq5w ?kq5p ?kq5c
      (case kq5a => k_is); (case kq5l => k_is); (case kq5i => k_is); (case kq5f => k_is); (case kq5d => k_is); (case kq5e => k_is); (case kq5v => rfl); (case kq5w => rfl); (case kq5p => rfl); (case kq5c => kernel_rfl)) ?_
    intro EP
    refine LawK.say KX (fun K => LawK.Cls0 (PySem.W.OpenLaw.prog PySem.Challenge.rw_everypiece_k05_refusals_of_edits) K mg 24 "NoWord" 65) (by
      refine' LawK.cls0_mk (qual := "NoWord.__init__") KX G S ?kq6a ?kq6l ?kq6i ?kq6f ?kq6d ?kq6e ?kq6v ?kq6w ?kq6p ?kq6c
      (case kq6a => k_is); (case kq6l => k_is); (case kq6i => k_is); (case kq6f => k_is); (case kq6d => k_is); (case kq6e => k_is); (case kq6v => rfl); (case kq6w => rfl); (case kq6p => rfl); (case kq6c => kernel_rfl)) ?_
    intro EW
    refine LawK.say KX (fun K => ∃ fd, LawK.Df K mg "is_number" LawK.sPNumber ["thing"] 135 fd) (by
      refine' LawK.df_mk KX G (fun _ _ _ _ _ _ us hl => match us, hl with | [_], _ => rfl) ?kq7a ?kq7l ?kq7c
      (case kq7a => k_is); (case kq7l => k_is); (case kq7c => kernel_rfl)) ?_
    intro DPNumber
    refine LawK.say KX (fun K => ∃ fd, LawK.Df K mg "is_signs" LawK.sPSigns ["thing"] 142 fd) (by
      refine' LawK.df_mk KX G (fun _ _ _ _ _ _ us hl => match us, hl with | [_], _ => rfl) ?kq8a ?kq8l ?kq8c
      (case kq8a => k_is); (case kq8l => k_is); (case kq8c => kernel_rfl)) ?_
    intro DPSigns
    refine LawK.say KX (fun K => ∃ fd, LawK.Df K mg "is_word" LawK.sPWord ["thing"] 149 fd) (by
      refine' LawK.df_mk KX G (fun _ _ _ _ _ _ us hl => match us, hl with | [_], _ => rfl) ?kq9a ?kq9l ?kq9c
      (case kq9a => k_is); (case kq9l => k_is); (case kq9c => kernel_rfl)) ?_
    intro DPWord
    refine LawK.say KX (fun K => ∃ fd, LawK.Df K mg "is_place" LawK.sPPlace ["library", "thing"] 182 fd) (by
      refine' LawK.df_mk KX G (fun _ _ _ _ _ _ us hl => match us, hl with | [_, _], _ => rfl) ?kq10a ?kq10l ?kq10c
      (case kq10a => k_is); (case kq10l => k_is); (case kq10c => kernel_rfl)) ?_
    intro DPPlace
    refine LawK.say KX (fun K => ∃ fd, LawK.Df K mg "stands" LawK.sPStands ["library", "word", "place"] 189 fd) (by
      refine' LawK.df_mk KX G (fun _ _ _ _ _ _ us hl => match us, hl with | [_, _, _], _ => rfl) ?kq11a ?kq11l ?kq11c
      (case kq11a => k_is); (case kq11l => k_is); (case kq11c => kernel_rfl)) ?_
    intro DPStands
    refine LawK.say KX (fun K => ∃ fd, LawK.Df K mg "_is_part" LawK.sQIsPart ["kind", "thing"] 205 fd) (by
      refine' LawK.df_mk KX G (fun _ _ _ _ _ _ us hl => match us, hl with | [_, _], _ => rfl) ?kq12a ?kq12l ?kq12c
      (case kq12a => k_is); (case kq12l => k_is); (case kq12c => kernel_rfl)) ?_
    intro DQIsPart
    refine LawK.say KX (fun K => ∃ fd, LawK.Df K mg "has_form" LawK.sQHasForm ["thing"] 210 fd) (by
      refine' LawK.df_mk KX G (fun _ _ _ _ _ _ us hl => match us, hl with | [_], _ => rfl) ?kq13a ?kq13l ?kq13c
      (case kq13a => k_is); (case kq13l => k_is); (case kq13c => kernel_rfl)) ?_
    intro DQHasForm
    refine LawK.say KX (fun K => ∃ fd, LawK.Df K mg "_with_text" LawK.sQWithText ["texts", "number", "text"] 217 fd) (by
      refine' LawK.df_mk KX G (fun _ _ _ _ _ _ us hl => match us, hl with | [_, _, _], _ => rfl) ?kq14a ?kq14l ?kq14c
      (case kq14a => k_is); (case kq14l => k_is); (case kq14c => kernel_rfl)) ?_
    intro DQWithText
    refine LawK.say KX (fun K => ∃ fd, LawK.Df K mg "_texts_put" LawK.sQTextsPut ["texts", "edit"] 224 fd) (by
      refine' LawK.df_mk KX G (fun _ _ _ _ _ _ us hl => match us, hl with | [_, _], _ => rfl) ?kq15a ?kq15l ?kq15c
      (case kq15a => k_is); (case kq15l => k_is); (case kq15c => kernel_rfl)) ?_
    intro DQTextsPut
    refine LawK.say KX (fun K => ∃ fd, LawK.Df K mg "_texts_cut" LawK.sQTextsCut ["texts", "edit"] 231 fd) (by
      refine' LawK.df_mk KX G (fun _ _ _ _ _ _ us hl => match us, hl with | [_, _], _ => rfl) ?kq16a ?kq16l ?kq16c
      (case kq16a => k_is); (case kq16l => k_is); (case kq16c => kernel_rfl)) ?_
    intro DQTextsCut
    refine LawK.say KX (fun K => ∃ fd, LawK.Df K mg "_texts_changed" LawK.sQTextsChanged ["texts", "edit"] 238 fd) (by
      refine' LawK.df_mk KX G (fun _ _ _ _ _ _ us hl => match us, hl with | [_, _], _ => rfl) ?kq17a ?kq17l ?kq17c
      (case kq17a => k_is); (case kq17l => k_is); (case kq17c => kernel_rfl)) ?_
    intro DQTextsChanged
    refine LawK.say KX (fun K => ∃ fd, LawK.Df K mg "_texts_come" LawK.sQTextsCome ["texts", "edit"] 245 fd) (by
      refine' LawK.df_mk KX G (fun _ _ _ _ _ _ us hl => match us, hl with | [_, _], _ => rfl) ?kq18a ?kq18l ?kq18c
      (case kq18a => k_is); (case kq18l => k_is); (case kq18c => kernel_rfl)) ?_
    intro DQTextsCome
    refine LawK.say KX (fun K => ∃ fd, LawK.Df K mg "_texts_gone" LawK.sQTextsGone ["texts", "_"] 252 fd) (by
      refine' LawK.df_mk KX G (fun _ _ _ _ _ _ us hl => match us, hl with | [_, _], _ => rfl) ?kq19a ?kq19l ?kq19c
      (case kq19a => k_is); (case kq19l => k_is); (case kq19c => kernel_rfl)) ?_
    intro DQTextsGone
    refine LawK.say KX (fun K => ∃ fd, LawK.Df K mg "_texts_split" LawK.sQTextsSplit ["texts", "edit"] 259 fd) (by
      refine' LawK.df_mk KX G (fun _ _ _ _ _ _ us hl => match us, hl with | [_, _], _ => rfl) ?kq20a ?kq20l ?kq20c
      (case kq20a => k_is); (case kq20l => k_is); (case kq20c => kernel_rfl)) ?_
    intro DQTextsSplit
    refine LawK.say KX (fun K => ∃ fd, LawK.Df K mg "_texts_joined" LawK.sQTextsJoined ["texts", "edit"] 266 fd) (by
      refine' LawK.df_mk KX G (fun _ _ _ _ _ _ us hl => match us, hl with | [_, _], _ => rfl) ?kq21a ?kq21l ?kq21c
      (case kq21a => k_is); (case kq21l => k_is); (case kq21c => kernel_rfl)) ?_
    intro DQTextsJoined
    refine LawK.say KX (fun K => ∃ fd, LawK.Df K mg "_texts_moved" LawK.sQTextsMoved ["texts", "edit"] 273 fd) (by
      refine' LawK.df_mk KX G (fun _ _ _ _ _ _ us hl => match us, hl with | [_, _], _ => rfl) ?kq22a ?kq22l ?kq22c
      (case kq22a => k_is); (case kq22l => k_is); (case kq22c => kernel_rfl)) ?_
    intro DQTextsMoved
    refine LawK.say KX (fun K => ∃ fd, LawK.Df K mg "_library_behind" LawK.sBehind ["library", "thing"] 281 fd) (by
      refine' LawK.df_mk KX G (fun _ _ _ _ _ _ us hl => match us, hl with | [_, _], _ => rfl) ?kq23a ?kq23l ?kq23c
      (case kq23a => k_is); (case kq23l => k_is); (case kq23c => kernel_rfl)) ?_
    intro DBehind
    refine LawK.say KX (fun K => ∃ fd, LawK.Df K mg "is_edit" LawK.sIsEdit ["library", "thing"] 288 fd) (by
      refine' LawK.df_mk KX G (fun _ _ _ _ _ _ us hl => match us, hl with | [_, _], _ => rfl) ?kq24a ?kq24l ?kq24c
      (case kq24a => k_is); (case kq24l => k_is); (case kq24c => kernel_rfl)) ?_
    intro DIsEdit
    refine LawK.say KX (fun K => ∃ fd, LawK.Df K mg "edited" LawK.sPEdited ["library", "edit"] 295 fd) (by
      refine' LawK.df_mk KX G (fun _ _ _ _ _ _ us hl => match us, hl with | [_, _], _ => rfl) ?kq25a ?kq25l ?kq25c
      (case kq25a => k_is); (case kq25l => k_is); (case kq25c => kernel_rfl)) ?_
    intro DPEdited
    refine LawK.say KX (fun K => ∃ fd, LawK.Df K mg "led" LawK.sPLed ["library", "edits"] 302 fd) (by
      refine' LawK.df_mk KX G (fun _ _ _ _ _ _ us hl => match us, hl with | [_, _], _ => rfl) ?kq26a ?kq26l ?kq26c
      (case kq26a => k_is); (case kq26l => k_is); (case kq26c => kernel_rfl)) ?_
    intro DPLed
    refine LawK.say KX (fun K => ∃ fd, LawK.Df K mg "_steps" LawK.sQSteps ["texts", "edit"] 309 fd) (by
      refine' LawK.df_mk KX G (fun _ _ _ _ _ _ us hl => match us, hl with | [_, _], _ => rfl) ?kq27a ?kq27l ?kq27c
      (case kq27a => k_is); (case kq27l => k_is); (case kq27c => kernel_rfl)) ?_
    intro DQSteps
    refine LawK.say KX (fun K => ∃ fd, LawK.Df K mg "_step_back" LawK.sQStepBack ["texts", "step"] 316 fd) (by
      refine' LawK.df_mk KX G (fun _ _ _ _ _ _ us hl => match us, hl with | [_, _], _ => rfl) ?kq28a ?kq28l ?kq28c
      (case kq28a => k_is); (case kq28l => k_is); (case kq28c => kernel_rfl)) ?_
    intro DQStepBack
    refine LawK.say KX (fun K => ∃ fd, LawK.Df K mg "leading_back" LawK.sLeadingBack ["library", "edit"] 321 fd) (by
      refine' LawK.df_mk KX G (fun _ _ _ _ _ _ us hl => match us, hl with | [_, _], _ => rfl) ?kq29a ?kq29l ?kq29c
      (case kq29a => k_is); (case kq29l => k_is); (case kq29c => kernel_rfl)) ?_
    intro DLeadingBack
    refine LawK.say KX (fun K => ∃ fd, LawK.Df K mg "_taken_by" LawK.sQTakenBy ["step", "place"] 328 fd) (by
      refine' LawK.df_mk KX G (fun _ _ _ _ _ _ us hl => match us, hl with | [_, _], _ => rfl) ?kq30a ?kq30l ?kq30c
      (case kq30a => k_is); (case kq30l => k_is); (case kq30c => kernel_rfl)) ?_
    intro DQTakenBy
    refine LawK.say KX (fun K => ∃ fd, LawK.Df K mg "_taken_on" LawK.sQTakenOn ["steps", "place"] 335 fd) (by
      refine' LawK.df_mk KX G (fun _ _ _ _ _ _ us hl => match us, hl with | [_, _], _ => rfl) ?kq31a ?kq31l ?kq31c
      (case kq31a => k_is); (case kq31l => k_is); (case kq31c => kernel_rfl)) ?_
    intro DQTakenOn
    refine LawK.say KX (fun K => ∃ fd, LawK.Df K mg "place_behind" LawK.sPBehind ["library", "edit", "place"] 342 fd) (by
      refine' LawK.df_mk KX G (fun _ _ _ _ _ _ us hl => match us, hl with | [_, _, _], _ => rfl) ?kq32a ?kq32l ?kq32c
      (case kq32a => k_is); (case kq32l => k_is); (case kq32c => kernel_rfl)) ?_
    intro DPBehind
    refine LawK.say KX (fun K => ∃ fd, LawK.Df K mg "place_ahead" LawK.sPAhead ["library", "edit", "place"] 347 fd) (by
      refine' LawK.df_mk KX G (fun _ _ _ _ _ _ us hl => match us, hl with | [_, _, _], _ => rfl) ?kq33a ?kq33l ?kq33c
      (case kq33a => k_is); (case kq33l => k_is); (case kq33c => kernel_rfl)) ?_
    intro DPAhead
    refine LawK.say KX (fun K => ∃ fd, LawK.Df K mg "_law_hand" LawK.sHand ["script"] 354 fd) (by
      refine' LawK.df_mk KX G (fun _ _ _ _ _ _ us hl => match us, hl with | [_], _ => rfl) ?kq34a ?kq34l ?kq34c
      (case kq34a => k_is); (case kq34l => k_is); (case kq34c => kernel_rfl)) ?_
    intro DHand
    refine LawK.say KX (fun K => ∃ fd, LawK.Df K mg "_law_take" LawK.sTake ["hand", "many"] 361 fd) (by
      refine' LawK.df_mk KX G (fun _ _ _ _ _ _ us hl => match us, hl with | [_, _], _ => rfl) ?kq35a ?kq35l ?kq35c
      (case kq35a => k_is); (case kq35l => k_is); (case kq35c => kernel_rfl)) ?_
    intro DTake
    refine LawK.say KX (fun K => ∃ fd, LawK.Df K mg "_law_pick" LawK.sPick ["hand", "things"] 368 fd) (by
      refine' LawK.df_mk KX G (fun _ _ _ _ _ _ us hl => match us, hl with | [_, _], _ => rfl) ?kq36a ?kq36l ?kq36c
      (case kq36a => k_is); (case kq36l => k_is); (case kq36c => kernel_rfl)) ?_
    intro DPick
    refine LawK.say KX (fun K => ∃ fd, LawK.Df K mg "_law_is_integer" LawK.sIsInteger ["thing"] 375 fd) (by
      refine' LawK.df_mk KX G (fun _ _ _ _ _ _ us hl => match us, hl with | [_], _ => rfl) ?kq37a ?kq37l ?kq37c
      (case kq37a => k_is); (case kq37l => k_is); (case kq37c => kernel_rfl)) ?_
    intro DIsInteger
    refine LawK.say KX (fun K => ∃ fd, LawK.Df K mg "_law_is_within" LawK.sIsWithin ["thing", "least", "most"] 382 fd) (by
      refine' LawK.df_mk KX G (fun _ _ _ _ _ _ us hl => match us, hl with | [_, _, _], _ => rfl) ?kq38a ?kq38l ?kq38c
      (case kq38a => k_is); (case kq38l => k_is); (case kq38c => kernel_rfl)) ?_
    intro DIsWithin
    refine LawK.say KX (fun K => ∃ fd, LawK.Df K mg "_law_same" LawK.sSame ["actual", "due"] 389 fd) (by
      refine' LawK.df_mk KX G (fun _ _ _ _ _ _ us hl => match us, hl with | [_, _], _ => rfl) ?kq39a ?kq39l ?kq39c
      (case kq39a => k_is); (case kq39l => k_is); (case kq39c => kernel_rfl)) ?_
    intro DSame
    refine LawK.say KX (fun K => ∃ fd, LawK.Df K mg "_law_odd" LawK.sOdd ["hand"] 396 fd) (by
      refine' LawK.df_mk KX G (fun _ _ _ _ _ _ us hl => match us, hl with | [_], _ => rfl) ?kq40a ?kq40l ?kq40c
      (case kq40a => k_is); (case kq40l => k_is); (case kq40c => kernel_rfl)) ?_
    intro DOdd
    refine LawK.say KX (fun K => ∃ fd, LawK.Df K mg "_law_alphabet" LawK.sAlphabet ["hand"] 403 fd) (by
      refine' LawK.df_mk KX G (fun _ _ _ _ _ _ us hl => match us, hl with | [_], _ => rfl) ?kq41a ?kq41l ?kq41c
      (case kq41a => k_is); (case kq41l => k_is); (case kq41c => kernel_rfl)) ?_
    intro DAlphabet
    refine LawK.say KX (fun K => ∃ fd, LawK.Df K mg "_law_word" LawK.sWord ["hand", "signs", "least", "most"] 408 fd) (by
      refine' LawK.df_mk KX G (fun _ _ _ _ _ _ us hl => match us, hl with | [_, _, _, _], _ => rfl) ?kq42a ?kq42l ?kq42c
      (case kq42a => k_is); (case kq42l => k_is); (case kq42c => kernel_rfl)) ?_
    intro DWord
    refine LawK.say KX (fun K => ∃ fd, LawK.Df K mg "_law_text" LawK.sText ["hand", "signs", "most"] 415 fd) (by
      refine' LawK.df_mk KX G (fun _ _ _ _ _ _ us hl => match us, hl with | [_, _, _], _ => rfl) ?kq43a ?kq43l ?kq43c
      (case kq43a => k_is); (case kq43l => k_is); (case kq43c => kernel_rfl)) ?_
    intro DText
    refine LawK.say KX (fun K => ∃ fd, LawK.Df K mg "_law_near" LawK.sNear ["hand", "signs", "text", "most"] 422 fd) (by
      refine' LawK.df_mk KX G (fun _ _ _ _ _ _ us hl => match us, hl with | [_, _, _, _], _ => rfl) ?kq44a ?kq44l ?kq44c
      (case kq44a => k_is); (case kq44l => k_is); (case kq44c => kernel_rfl)) ?_
    intro DNear
    refine LawK.say KX (fun K => ∃ fd, LawK.Df K mg "_law_texts" LawK.sTexts ["hand", "most"] 429 fd) (by
      refine' LawK.df_mk KX G (fun _ _ _ _ _ _ us hl => match us, hl with | [_, _], _ => rfl) ?kq45a ?kq45l ?kq45c
      (case kq45a => k_is); (case kq45l => k_is); (case kq45c => kernel_rfl)) ?_
    intro DTexts
    refine LawK.say KX (fun K => ∃ fd, LawK.Df K mg "_law_are_signs" LawK.sAreSigns ["thing"] 436 fd) (by
      refine' LawK.df_mk KX G (fun _ _ _ _ _ _ us hl => match us, hl with | [_], _ => rfl) ?kq46a ?kq46l ?kq46c
      (case kq46a => k_is); (case kq46l => k_is); (case kq46c => kernel_rfl)) ?_
    intro DAreSigns
    refine LawK.say KX (fun K => ∃ fd, LawK.Df K mg "_law_is_word" LawK.sIsWord ["thing"] 443 fd) (by
      refine' LawK.df_mk KX G (fun _ _ _ _ _ _ us hl => match us, hl with | [_], _ => rfl) ?kq47a ?kq47l ?kq47c
      (case kq47a => k_is); (case kq47l => k_is); (case kq47c => kernel_rfl)) ?_
    intro DIsWord
    refine LawK.say KX (fun K => ∃ fd, LawK.Df K mg "_law_bad_texts" LawK.sBadTexts ["thing"] 448 fd) (by
      refine' LawK.df_mk KX G (fun _ _ _ _ _ _ us hl => match us, hl with | [_], _ => rfl) ?kq48a ?kq48l ?kq48c
      (case kq48a => k_is); (case kq48l => k_is); (case kq48c => kernel_rfl)) ?_
    intro DBadTexts
    refine LawK.say KX (fun K => ∃ fd, LawK.Df K mg "_law_is_place" LawK.sIsPlace ["texts", "thing"] 455 fd) (by
      refine' LawK.df_mk KX G (fun _ _ _ _ _ _ us hl => match us, hl with | [_, _], _ => rfl) ?kq49a ?kq49l ?kq49c
      (case kq49a => k_is); (case kq49l => k_is); (case kq49c => kernel_rfl)) ?_
    intro DIsPlace
    refine LawK.say KX (fun K => ∃ fd, LawK.Df K mg "_law_all_places" LawK.sAllPlaces ["texts"] 460 fd) (by
      refine' LawK.df_mk KX G (fun _ _ _ _ _ _ us hl => match us, hl with | [_], _ => rfl) ?kq50a ?kq50l ?kq50c
      (case kq50a => k_is); (case kq50l => k_is); (case kq50c => kernel_rfl)) ?_
    intro DAllPlaces
    refine LawK.say KX (fun K => ∃ fd, LawK.Df K mg "_law_after" LawK.sAfter ["rows", "edit", "fresh"] 465 fd) (by
      refine' LawK.df_mk KX G (fun _ _ _ _ _ _ us hl => match us, hl with | [_, _, _], _ => rfl) ?kq51a ?kq51l ?kq51c
      (case kq51a => k_is); (case kq51l => k_is); (case kq51c => kernel_rfl)) ?_
    intro DAfter
    refine LawK.say KX (fun K => ∃ fd, LawK.Df K mg "_law_fresh" LawK.sFresh ["edit"] 472 fd) (by
      refine' LawK.df_mk KX G (fun _ _ _ _ _ _ us hl => match us, hl with | [_], _ => rfl) ?kq52a ?kq52l ?kq52c
      (case kq52a => k_is); (case kq52l => k_is); (case kq52c => kernel_rfl)) ?_
    intro DFresh
    refine LawK.say KX (fun K => ∃ fd, LawK.Df K mg "_law_edited" LawK.sEdited ["texts", "edit"] 477 fd) (by
      refine' LawK.df_mk KX G (fun _ _ _ _ _ _ us hl => match us, hl with | [_, _], _ => rfl) ?kq53a ?kq53l ?kq53c
      (case kq53a => k_is); (case kq53l => k_is); (case kq53c => kernel_rfl)) ?_
    intro DEdited
    refine LawK.say KX (fun K => ∃ fd, LawK.Df K mg "_law_is_stretch" LawK.sIsStretch ["texts", "text", "at", "many"] 484 fd) (by
      refine' LawK.df_mk KX G (fun _ _ _ _ _ _ us hl => match us, hl with | [_, _, _, _], _ => rfl) ?kq54a ?kq54l ?kq54c
      (case kq54a => k_is); (case kq54l => k_is); (case kq54c => kernel_rfl)) ?_
    intro DIsStretch
    refine LawK.say KX (fun K => ∃ fd, LawK.Df K mg "_law_edit_form" LawK.sEditForm ["texts", "thing"] 491 fd) (by
      refine' LawK.df_mk KX G (fun _ _ _ _ _ _ us hl => match us, hl with | [_, _], _ => rfl) ?kq55a ?kq55l ?kq55c
      (case kq55a => k_is); (case kq55l => k_is); (case kq55c => kernel_rfl)) ?_
    intro DEditForm
    refine LawK.say KX (fun K => ∃ fd, LawK.Df K mg "_law_edit_right" LawK.sEditRight ["texts", "thing"] 498 fd) (by
      refine' LawK.df_mk KX G (fun _ _ _ _ _ _ us hl => match us, hl with | [_, _], _ => rfl) ?kq56a ?kq56l ?kq56c
      (case kq56a => k_is); (case kq56l => k_is); (case kq56c => kernel_rfl)) ?_
    intro DEditRight
    refine LawK.say KX (fun K => ∃ fd, LawK.Df K mg "_law_edit" LawK.sEdit ["hand", "texts", "signs"] 505 fd) (by
      refine' LawK.df_mk KX G (fun _ _ _ _ _ _ us hl => match us, hl with | [_, _, _], _ => rfl) ?kq57a ?kq57l ?kq57c
      (case kq57a => k_is); (case kq57l => k_is); (case kq57c => kernel_rfl)) ?_
    intro DEdit
    refine LawK.say KX (fun K => ∃ fd, LawK.Df K mg "_law_spoilt_edit" LawK.sSpoiltEdit ["hand", "edit"] 512 fd) (by
      refine' LawK.df_mk KX G (fun _ _ _ _ _ _ us hl => match us, hl with | [_, _], _ => rfl) ?kq58a ?kq58l ?kq58c
      (case kq58a => k_is); (case kq58l => k_is); (case kq58c => kernel_rfl)) ?_
    intro DSpoiltEdit
    refine LawK.say KX (fun K => ∃ fd, LawK.Df K mg "_law_tries" LawK.sTries ["library", "edit", "place"] 519 fd) (by
      refine' LawK.df_mk KX G (fun _ _ _ _ _ _ us hl => match us, hl with | [_, _, _], _ => rfl) ?kq59a ?kq59l ?kq59c
      (case kq59a => k_is); (case kq59l => k_is); (case kq59c => kernel_rfl)) ?_
    intro DTries
    refine LawK.say KX (fun K => ∃ fd, LawK.Df K mg "_law_words" LawK.sWords ["library", "texts", "edit", "place"] 526 fd) (by
      refine' LawK.df_mk KX G (fun _ _ _ _ _ _ us hl => match us, hl with | [_, _, _, _], _ => rfl) ?kq60a ?kq60l ?kq60c
      (case kq60a => k_is); (case kq60l => k_is); (case kq60c => kernel_rfl)) ?_
    intro DWords
    refine LawK.say KX (fun K => ∃ fd, LawK.Df K mg "_law_stood" LawK.sStood ["library", "word", "place"] 533 fd) (by
      refine' LawK.df_mk KX G (fun _ _ _ _ _ _ us hl => match us, hl with | [_, _, _], _ => rfl) ?kq61a ?kq61l ?kq61c
      (case kq61a => k_is); (case kq61l => k_is); (case kq61c => kernel_rfl)) ?_
    intro DStood
    refine LawK.say KX (fun K => Ev.KD K w 190 [(PySem.Str.ofString "put", L2.V.ref 191), (PySem.Str.ofString "cut", L2.V.ref 192), (PySem.Str.ofString "change", L2.V.ref 193), (PySem.Str.ofString "come", L2.V.ref 194), (PySem.Str.ofString "go", L2.V.ref 195), (PySem.Str.ofString "split", L2.V.ref 196), (PySem.Str.ofString "join", L2.V.ref 197), (PySem.Str.ofString "move", L2.V.ref 198)]) (by
      refine' Ev.kd_mk ?kq62l ?kq62m ?kq62c
      (case kq62l => k_is); (case kq62m => rfl); (case kq62c => exact (.cons rfl (.cons rfl (.cons rfl (.cons rfl (.cons rfl (.cons rfl (.cons rfl (.cons rfl .nil)))))))))) ?_
    intro KF
    refine LawK.say KX (fun K => Ev.KD K w 274 [(PySem.Str.ofString "put", L2.V.ref ((LawK.fs8 224 231 238 245 252 259 266 273) 0)), (PySem.Str.ofString "cut", L2.V.ref ((LawK.fs8 224 231 238 245 252 259 266 273) 1)), (PySem.Str.ofString "change", L2.V.ref ((LawK.fs8 224 231 238 245 252 259 266 273) 2)), (PySem.Str.ofString "come", L2.V.ref ((LawK.fs8 224 231 238 245 252 259 266 273) 3)), (PySem.Str.ofString "go", L2.V.ref ((LawK.fs8 224 231 238 245 252 259 266 273) 4)), (PySem.Str.ofString "split", L2.V.ref ((LawK.fs8 224 231 238 245 252 259 266 273) 5)), (PySem.Str.ofString "join", L2.V.ref ((LawK.fs8 224 231 238 245 252 259 266 273) 6)), (PySem.Str.ofString "move", L2.V.ref ((LawK.fs8 224 231 238 245 252 259 266 273) 7))]) (by
      refine' Ev.kd_mk ?kq62n ?kq62o ?kq62p
      (case kq62n => k_is); (case kq62o => rfl); (case kq62p => exact (.cons rfl (.cons rfl (.cons rfl (.cons rfl (.cons rfl (.cons rfl (.cons rfl (.cons rfl .nil)))))))))) ?_
    intro KM
    refine LawK.say KX (fun K => ∃ kvs, LawK.FormsC K w mg 190 kvs) (by
      refine' LawK.forms_mk KX G ?kq63a KF ?kq63l0 ?kq63h0 ?kq63v0 ?kq63l1 ?kq63h1 ?kq63v1 ?kq63l2 ?kq63h2 ?kq63v2 ?kq63l3 ?kq63h3 ?kq63v3 ?kq63l4 ?kq63h4 ?kq63v4 ?kq63l5 ?kq63h5 ?kq63v5 ?kq63l6 ?kq63h6 ?kq63v6 ?kq63l7 ?kq63h7 ?kq63v7
      (case kq63a => k_is); (case kq63l0 => k_is); (case kq63h0 => decide); (case kq63v0 => exact (.cons ⟨_, rfl⟩ (.cons ⟨_, rfl⟩ (.cons ⟨_, rfl⟩ .nil)))); (case kq63l1 => k_is); (case kq63h1 => decide); (case kq63v1 => exact (.cons ⟨_, rfl⟩ (.cons ⟨_, rfl⟩ (.cons ⟨_, rfl⟩ .nil)))); (case kq63l2 => k_is); (case kq63h2 => decide); (case kq63v2 => exact (.cons ⟨_, rfl⟩ (.cons ⟨_, rfl⟩ (.cons ⟨_, rfl⟩ .nil)))); (case kq63l3 => k_is); (case kq63h3 => decide); (case kq63v3 => exact (.cons ⟨_, rfl⟩ .nil)); (case kq63l4 => k_is); (case kq63h4 => decide); (case kq63v4 => exact .nil); (case kq63l5 => k_is); (case kq63h5 => decide); (case kq63v5 => exact (.cons ⟨_, rfl⟩ (.cons ⟨_, rfl⟩ .nil))); (case kq63l6 => k_is); (case kq63h6 => decide); (case kq63v6 => exact (.cons ⟨_, rfl⟩ (.cons ⟨_, rfl⟩ .nil))); (case kq63l7 => k_is); (case kq63h7 => decide); (case kq63v7 => exact (.cons ⟨_, rfl⟩ (.cons ⟨_, rfl⟩ (.cons ⟨_, rfl⟩ (.cons ⟨_, rfl⟩ (.cons ⟨_, rfl⟩ .nil))))))) ?_
    intro FF
    refine LawK.say KX (fun K => ∃ kvs, LawK.MakersC K w mg 274 kvs (LawK.fs8 224 231 238 245 252 259 266 273)) (by
      refine' LawK.makers_mk KX G ?kq64a KM
      (case kq64a => k_is)) ?_
    intro MM
    have GL : LawK.Glob mg := ⟨mg_none_of KX G (by k_is), mg_none_of KX G (by k_is), mg_none_of KX G (by k_is), mg_none_of KX G (by k_is), mg_none_of KX G (by k_is), mg_none_of KX G (by k_is), mg_none_of KX G (by k_is), mg_none_of KX G (by k_is), mg_none_of KX G (by k_is), mg_none_of KX G (by k_is), mg_none_of KX G (by k_is), mg_none_of KX G (by k_is), mg_none_of KX G (by k_is), mg_none_of KX G (by k_is), mg_none_of KX G (by k_is), mg_none_of KX G (by k_is), mg_none_of KX G (by k_is)⟩
    refine' LawK.end_mk (C := 171) KX G hfa ?kq65a ?kq65l ?kq65c ?kq65e ?kq65h DPNumber DPSigns DPWord DPPlace DPStands DQIsPart DQHasForm DQWithText DQTextsPut DQTextsCut DQTextsChanged DQTextsCome DQTextsGone DQTextsSplit DQTextsJoined DQTextsMoved DBehind DIsEdit DPEdited DPLed DQSteps DQStepBack DLeadingBack DQTakenBy DQTakenOn DPBehind DPAhead DHand DTake DPick DIsInteger DIsWithin DSame DOdd DAlphabet DWord DText DNear DTexts DAreSigns DIsWord DBadTexts DIsPlace DAllPlaces DAfter DFresh DEdited DIsStretch DEditForm DEditRight DEdit DSpoiltEdit DTries DWords DStood FF MM ?kq65g EN EP EW EB EE (by decide) (by decide) GL
    (case kq65a => k_is); (case kq65l => k_is); (case kq65c => kernel_rfl); (case kq65e => k_is); (case kq65h => k_is)
    case kq65g =>
      refine' LawK.lib_mk KX G S.toSh ?kq66a ?kq66b ?kq66c ?kq66d ?kq66e ?kq66f ?kq66h ?kq66i
      (case kq66a => k_is); (case kq66b => k_is); (case kq66c => k_is); (case kq66d => k_is); (case kq66e => k_is); (case kq66f => kernel_rfl); (case kq66h => kernel_rfl); (case kq66i => kernel_rfl)
