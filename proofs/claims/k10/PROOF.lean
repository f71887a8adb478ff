import PyProof.Rows.All
import Wide.All
import OpenK.AllK
import Wide.FinOn
import HandS.ForMost
import HandS.ForExc
import PyProof.ReprRoads
import PyProof.ReprLen
import HandS.Dict
import HandS.ExcInit
import PyProof.StrBlock2
import HandS.IsInst
import HandS.Codes
import HandS.StrMore
import HandS.TupMul
import HandS.Style
import HandS.TupAny
import HandS.Zip
import HandS.WideBits
import HandS.Text
import HandS.Walk
import HandS.Base
import PyProof.StrOps
import HandS.Rev
import HandS.Conv
import KE.KExcSuper
import KE.KExcMake
import HandS.ExcValue
import HandS.ExcIs
import KE.KExcIs
import HandS.ExcField
import HandS.TryMany
import HandS.TryOnly
import KE.KDictZip
import HandS.Call
import HandS.List
import HandS.Iter
import KE.KDictList
import HandS.Small
import HandS.Comp
import HandS.Set
import HandS.SetKeys
import HandS.SetBool
import HandS.SortOrd
import HandS.SortInts
import PyProof.Rows.SortStr
import PySem.Challenge.RW_everypiece_k10_refusals_of_blocks
set_option Elab.async false
set_option linter.all false
set_option maxRecDepth 100000
set_option maxHeartbeats 4000000
/-! repr of nested data that the law has made. -/
namespace Ev
open PySem PySem.Spec PyProof.Rows L2

/-- a display of a list; its place is not the table of modules -/
def tLstN (t : TA) : TE := fun σ H Q => t σ H fun xs H1 => xs.length ≤ sizeLine ∧ ∀ p, H1 p = none → p ≠ sysModules → Q (.ref p) (upd H1 p (.lst xs))
theorem pe_lstN {X : Cx} {es : List Expr} {pos : Pos} {t : TA} (h : PA X es t) : PE X (.List es pos) (tLstN t) := by
  refine ⟨fun pins s σ H Q I hq => ?_⟩
  refine wpAny_List_spliced (thn (h.run pos pins s σ H _ I hq) fun us s1 hh => ?_)
  obtain ⟨xs, H1, I1, r, z, q⟩ := hh
  have hf : H1 s1.heap.objs.size = none := I1.hok.fresh (Nat.le_refl _)
  refine ⟨by rw [← r.length]; exact z, .ref s1.heap.objs.size, upd H1 s1.heap.objs.size (.lst xs), I1.laid (t' := s1.toks) (o := .lst xs) (fun b u e => Heap.get?_push_of_some _ e) (Nat.le_refl _) ⟨z, us, 0, r, Heap.get?_push_size _ rfl⟩, rfl, q _ hf (Ne.symm (Nat.ne_of_lt I1.big))⟩

/-- the datum d is told by v -/
inductive Dt (H : Hp) : V → PyData → Prop
  | non : Dt H .non .none
  | bl (b : Bool) : Dt H (.bl b) (.bool b)
  | int (i : Int) : Dt H (.int i) (.int i)
  | str (x : Str) : Dt H (.str x) (.str x)
  | dic {a : Addr} : H a = some (.dK []) → Dt H (.ref a) (.dict [])
  | l0 {a : Addr} : H a = some (.lst []) → a ≠ sysModules → Dt H (.ref a) (.list [])
  | l1 {a : Addr} {x : V} {d : PyData} : H a = some (.lst [x]) → a ≠ sysModules → Dt H x d → Dt H (.ref a) (.list [d])
  | l2 {a : Addr} {x y : V} {d e : PyData} : H a = some (.lst [x, y]) → a ≠ sysModules → Dt H x d → Dt H y e → Dt H (.ref a) (.list [d, e])
  | t0 {a : Addr} : H a = some (.tup []) → Dt H (.ref a) (.tuple [])
  | t1 {a : Addr} {x : V} {d : PyData} : H a = some (.tup [x]) → Dt H x d → Dt H (.ref a) (.tuple [d])
  | t2 {a : Addr} {x y : V} {d e : PyData} : H a = some (.tup [x, y]) → Dt H x d → Dt H y e → Dt H (.ref a) (.tuple [d, e])
theorem Dt.keep {H H' : Hp} {v : V} {d : PyData} (h : Dt H v d) (k : ∀ b o, H b = some o → H' b = some o) : Dt H' v d := by
  induction h with
  | non => exact .non
  | bl b => exact .bl b
  | int i => exact .int i
  | str x => exact .str x
  | dic e => exact .dic (k _ _ e)
  | l0 e n => exact .l0 (k _ _ e) n
  | l1 e n _ ih => exact .l1 (k _ _ e) n ih
  | l2 e n _ _ i1 i2 => exact .l2 (k _ _ e) n i1 i2
  | t0 e => exact .t0 (k _ _ e)
  | t1 e _ ih => exact .t1 (k _ _ e) ih
  | t2 e _ _ i1 i2 => exact .t2 (k _ _ e) i1 i2
section
variable {X : Cx} {pins : List (Addr × Obj)} {σ : L2.St} {H : Hp} {s : Shared}
theorem lst_at (I : L2.Inv X pins σ H s) {a : Addr} {xs : List V} (h : H a = some (.lst xs)) : ∃ (its : List Value) (n : Nat), Vals xs its ∧ s.heap.get? a = some { cls := .type "list", data := .seq its.toArray n } := by
  obtain ⟨_, its, n, r, e⟩ := (show ObjOk X.prog X.w H s.heap a (.lst xs) from I.hok a _ h)
  exact ⟨its, n, r, e⟩
theorem tup_at (I : L2.Inv X pins σ H s) {a : Addr} {xs : List V} (h : H a = some (.tup xs)) : ∃ (its : List Value) (o : Obj) (n : Nat), Vals xs its ∧ s.heap.get? a = some o ∧ o.cls = .type "tuple" ∧ o.data = .seq its.toArray n := by
  obtain ⟨_, its, r, o, e, c, n, d⟩ := (show ObjOk X.prog X.w H s.heap a (.tup xs) from I.hok a _ h)
  exact ⟨its, o, n, r, e, c, d⟩
theorem Dt.reads (I : L2.Inv X pins σ H s) {v : V} {d : PyData} (h : Dt H v d) : ∀ {u : Value}, RelV v u → ∃ as, Reads s.heap u d as ∧ sysModules ∉ as := by
  induction h with
  | non => intro u r; cases r; exact ⟨_, .none, by simp⟩
  | bl b => intro u r; cases r; exact ⟨_, .bool b, by simp⟩
  | int i => intro u r; obtain ⟨t, rfl⟩ := r; exact ⟨_, .int i t, by simp⟩
  | str x => intro u r; obtain ⟨t, rfl⟩ := r; exact ⟨_, .str x t, by simp⟩
  | @dic a e =>
    intro u r
    cases r
    obtain ⟨_, hs, vs, kv, o, es, ep, ho, hx, hd, hk, hp, _⟩ := (show ObjOk X.prog X.w H s.heap a (.dK []) from I.hok a _ e)
    cases kv
    have he : es.toList = [] := by
      generalize es.toList = l at hp
      cases hp
      rfl
    refine ⟨a :: [] ++ [], .dict (as := []) (bs := []) ho hx.1 hd ?_ ?_, ?_⟩
    · rw [he]; exact .nil
    · rw [he]; exact .nil
    · have : a ≠ sysModules := by simpa using hs
      simp [Ne.symm this]
  | @l0 a e n =>
    intro u r
    cases r
    obtain ⟨its, m, rv, ho⟩ := lst_at I e
    cases rv
    exact ⟨_, .list ho rfl rfl .nil, by simp [Ne.symm n]⟩
  | @l1 a x d e n hx ih =>
    intro u r
    cases r
    obtain ⟨its, m, rv, ho⟩ := lst_at I e
    cases rv with
    | cons r1 rr =>
      cases rr
      obtain ⟨as, q, nq⟩ := ih r1
      exact ⟨_, .list ho rfl rfl (.cons q .nil), by simp [Ne.symm n, nq]⟩
  | @l2 a x y d e2 e n hx hy ih1 ih2 =>
    intro u r
    cases r
    obtain ⟨its, m, rv, ho⟩ := lst_at I e
    cases rv with
    | cons r1 rr =>
      cases rr with
      | cons r2 rr =>
        cases rr
        obtain ⟨as, q, nq⟩ := ih1 r1
        obtain ⟨bs, q2, nq2⟩ := ih2 r2
        exact ⟨_, .list ho rfl rfl (.cons q (.cons q2 .nil)), by simp [Ne.symm n, nq, nq2]⟩
  | @t0 a e =>
    intro u r
    cases r
    obtain ⟨its, o, m, rv, ho, hc, hd⟩ := tup_at I e
    cases rv
    exact ⟨_, .tuple ho hc hd .nil, by simp⟩
  | @t1 a x d e hx ih =>
    intro u r
    cases r
    obtain ⟨its, o, m, rv, ho, hc, hd⟩ := tup_at I e
    cases rv with
    | cons r1 rr =>
      cases rr
      obtain ⟨as, q, nq⟩ := ih r1
      exact ⟨_, .tuple ho hc hd (.cons q .nil), by simp [nq]⟩
  | @t2 a x y d e2 e hx hy ih1 ih2 =>
    intro u r
    cases r
    obtain ⟨its, o, m, rv, ho, hc, hd⟩ := tup_at I e
    cases rv with
    | cons r1 rr =>
      cases rr with
      | cons r2 rr =>
        cases rr
        obtain ⟨as, q, nq⟩ := ih1 r1
        obtain ⟨bs, q2, nq2⟩ := ih2 r2
        exact ⟨_, .tuple ho hc hd (.cons q (.cons q2 .nil)), by simp [nq, nq2]⟩
end
/-- repr(x), x a datum of small depth and size -/
def rRepr : List V → Hp → VK → Prop := fun xs H Q => ∃ (x : V) (d : PyData), xs = [x] ∧ Dt H x d ∧ d.showable = true ∧ d.depth ≤ 100 ∧ d.shown.length ≤ 100000 ∧ Q (.str d.shown) H
theorem call_repr {X : Cx} {k : Nat} (hg : X.A.guards = some []) (hr : Room k X.A) : CallR X (.builtin "repr") rRepr := by
  intro pins s σ H xs us Q I r h
  obtain ⟨x, d, rfl, hd, hs, hdp, hz, q⟩ := h
  obtain ⟨u, rfl, ru⟩ := vals1 r
  have hz' : d.shown.length ≤ sizeLine := Nat.le_trans hz (by decide)
  obtain ⟨as, rd, ns⟩ := hd.reads I ru
  have hu : X.A.units + (d.depth + 1) < cLine := by have := hr.un; omega
  have viaRef : ∀ a, u = .ref a → wpAny (model X.prog X.w) X.A (call (.builtin "repr") [u]) (EP X pins σ Q) X.xe s := fun a e => by
    subst e
    exact repr_of_reads' rd hs (fun _ => ns) hg hu (fun _ _ e => e) (fun h' u tk k => ⟨.str d.shown, H, I.kept k, ⟨_, rfl⟩, q⟩) hz'
  cases hd with
  | non => cases ru; exact PySem.P.repr_of_none ⟨.str _, H, I.tok _, ⟨_, rfl⟩, by simpa only [PyData.shown] using q⟩
  | bl b => cases ru; exact PySem.P.repr_of_bool ⟨.str _, H, I.tok _, ⟨_, rfl⟩, by simpa only [PyData.shown] using q⟩
  | int i => obtain ⟨t, rfl⟩ := ru; exact PySem.P.repr_of_int (by simpa [PyData.showable] using hs) ⟨.str _, H, I.tok _, ⟨_, rfl⟩, by simpa only [PyData.shown] using q⟩
  | str x => obtain ⟨t, rfl⟩ := ru; exact PySem.P.repr_of_str ⟨.str _, H, I.tok _, ⟨_, rfl⟩, by simpa only [PyData.shown] using q⟩ (by simpa only [PyData.shown] using hz')
  | dic e => exact viaRef _ ru
  | l0 e n => exact viaRef _ ru
  | l1 e n h1 => exact viaRef _ ru
  | l2 e n h1 h2 => exact viaRef _ ru
  | t0 e => exact viaRef _ ru
  | t1 e h1 => exact viaRef _ ru
  | t2 e h1 h2 => exact viaRef _ ru
/-- what is told of a datum: it may be shown, so deep, so long -/
def Small (d : PyData) (n m : Nat) : Prop := d.showable = true ∧ d.depth ≤ n ∧ d.shown.length ≤ m
theorem int_len {k : Int} (hk : 0 ≤ k ∧ k < 100) : (PyData.shown (.int k)).length ≤ 3 := by
  have e : (toString k).length ≤ 2 + 1 := int_text_length_le10 (by decide) (by omega)
  simp only [PyData.shown]
  rw [PySem.ofString_length]
  exact e
theorem int_show {k : Int} (hk : 0 ≤ k ∧ k < 100) : k.natAbs.log2 < 1920 := by
  have := Nat.log2_le_self k.natAbs
  omega
theorem small_tup {d : PyData} {n m : Nat} {k : Int} (h : Small d n m) (hk : 0 ≤ k ∧ k < 100) : Small (.tuple [d, .int k]) (n + 1) (m + 10) := by
  obtain ⟨h1, h2, h3⟩ := h
  refine ⟨by simp [PyData.showable, PyData.showableAll, h1, int_show hk], by simp only [PyData.depth, PyData.depthAll]; omega, ?_⟩
  have e := tupleText_len_le (PyData.shownAll [d, .int k])
  have e2 := int_len hk
  simp only [PyData.shownAll, List.map_cons, List.map_nil, List.sum_cons, List.sum_nil, List.length_cons, List.length_nil] at e
  show (tupleText (PyData.shownAll [d, .int k])).length ≤ m + 10
  simp only [PyData.shownAll]
  omega
theorem small_lst {d : PyData} {n m : Nat} {k : Int} (h : Small d n m) (hk : 0 ≤ k ∧ k < 100) : Small (.list [.int k, d]) (n + 1) (m + 10) := by
  obtain ⟨h1, h2, h3⟩ := h
  refine ⟨by simp [PyData.showable, PyData.showableAll, h1, int_show hk], by simp only [PyData.depth, PyData.depthAll]; omega, ?_⟩
  have e := listText_len_le (PyData.shownAll [.int k, d])
  have e2 := int_len hk
  simp only [PyData.shownAll, List.map_cons, List.map_nil, List.sum_cons, List.sum_nil, List.length_cons, List.length_nil] at e
  show (listText (PyData.shownAll [.int k, d])).length ≤ m + 10
  simp only [PyData.shownAll]
  omega
theorem Small.mono {d : PyData} {n m n' m' : Nat} (h : Small d n m) (h1 : n ≤ n') (h2 : m ≤ m') : Small d n' m' := ⟨h.1, Nat.le_trans h.2.1 h1, Nat.le_trans h.2.2 h2⟩
end Ev
set_option maxHeartbeats 4000000
namespace LawK
open PySem PySem.Spec PyProof.Rows L2 Ev
def topS (i : Nat) : Stmt := PySem.Challenge.pw_everypiece_k10_refusals_of_blocks.main.body.getD i (.Pass ⟨0, 0, 0, 0⟩)
abbrev sHand : Stmt := topS 28
abbrev sTake : Stmt := topS 29
/-! ### the hand of a law: what is left of the script, and a seed -/
def HandL (H : Hp) (p l : Addr) : Prop := ∃ (cells : List Int) (i r s n : Int), H p = some (.lst [.ref l, .int i, .int r, .int s, .int n]) ∧ H l = some (.lst (cells.map V.int)) ∧ 0 ≤ i ∧ 0 ≤ s ∧ s < 2147483647
/-- nothing but the hand at p has changed -/
def But (p : Addr) (H H' : Hp) : Prop := ∀ b o, b ≠ p → H b = some o → H' b = some o
theorem But.refl (p : Addr) (H : Hp) : But p H H := fun _ _ _ h => h
theorem But.trans {p : Addr} {H H1 H2 : Hp} (a : But p H H1) (b : But p H1 H2) : But p H H2 := fun c o n h => b c o n (a c o n h)
theorem But.new {p q : Addr} {H H1 : Hp} {o : HO} (a : But p H H1) (h : H1 q = none) : But p H (upd H1 q o) := fun c u n e => by
  have z := a c u n e
  rw [upd_ne (ne_of_none z h)]
  exact z
theorem But.same {p : Addr} {H H' : Hp} (a : Same H H') : But p H H' := fun c o _ e => a c o e
def spTake : Sp := fun vs H Q _ => ∃ (p : Addr) (m : Int), vs = [.ref p, .int m] ∧ 0 < m ∧ m < 1000000 ∧ ∃ l, HandL H p l ∧ ∀ v H', 0 ≤ v → v < m → HandL H' p l → But p H H' → Q (.int v) H'
def spHand (K : PySem.W.Frag) : Sp := fun vs H Q _ => ∃ (a : Addr) (ns : List Int), vs = [.ref a] ∧ SqL K H a (ns.map V.int) ∧ ∀ p l H', H p = none → H l = none → HandL H' p l → Same H H' → Q (.ref p) H'
theorem scHand : FnScope ["script"] ["script"] (defScope sHand) := ⟨rfl, rfl, rfl, by decide +kernel, rfl, by decide +kernel, by decide +kernel⟩
theorem scTake : FnScope ["hand", "many", "cell", "found", "number"] ["hand", "many"] (defScope sTake) := ⟨rfl, rfl, rfl, by decide +kernel, rfl, by decide +kernel, by decide +kernel⟩
structure Glob (mg : Str → Option Value) : Prop where
  reversed : mg "reversed" = none
  repr : mg "repr" = none
  len : mg "len" = none
  int : mg "int" = none
  list : mg "list" = none
  range : mg "range" = none
  isinstance : mg "isinstance" = none
  bool : mg "bool" = none
  str : mg "str" = none
  tuple : mg "tuple" = none
  sum : mg "sum" = none
  ord : mg "ord" = none
  zip : mg "zip" = none
  max : mg "max" = none
  min : mg "min" = none
  all : mg "all" = none
  enumerate : mg "enumerate" = none
  sorted : mg "sorted" = none
theorem sq_of {K : PySem.W.Frag} {H : Hp} {a : Addr} {xs : List V} (h : H a = some (.lst xs)) : SqL K H a xs := .inl (.inl h)
theorem atI_in {α : Type} {xs : List α} {i : Int} (h0 : 0 ≤ i) (h1 : i < xs.length) : ∃ v, atI xs i = some v ∧ v ∈ xs := by
  obtain ⟨j, rfl⟩ := Int.eq_ofNat_of_zero_le h0
  have hj : j < xs.length := by omega
  exact ⟨xs[j], atI_nat (by rw [List.getElem?_eq_getElem hj]), List.getElem_mem hj⟩
theorem atI_int {xs : List Int} {i : Int} (h0 : 0 ≤ i) (h1 : i < xs.length) : ∃ c : Int, atI (xs.map V.int) i = some (.int c) := by
  obtain ⟨v, e, hm⟩ := atI_in (xs := xs.map V.int) h0 (by rw [List.length_map]; exact h1)
  obtain ⟨c, _, rfl⟩ := List.mem_map.mp hm
  exact ⟨c, e⟩
section
variable {P : Program} {w : World} {K : PySem.W.Frag} {mg : Str → Option Value} {base : Heap}
theorem ok_hand {f : Addr} {fd : FuncData} (F : Fun K "_law_hand" "_law_hand" sHand f fd) (T : Glob mg) : FnOk P w K mg base CX0 1 f fd ["script"] (spHand K) := by
  refine F.ok scHand (fun vs H Q E h => ?_) (fun cdv A outer s H vs Q E hr h => ?_)
  · obtain ⟨a, ns, rfl, _⟩ := h
    rfl
  · obtain ⟨a, ns, rfl, hS, q⟩ := h
    refine ⟨_, pss_one (ps_ret (pe_lst (pa_cons (pe_callTy call_list_of (by rfl) T.list (by decide +kernel) (pa_cons (pv 0) pa_nil)) (pa_cons pe_int (pa_cons pe_int (pa_cons pe_int (pa_cons pe_int pa_nil))))))), ?_⟩
    refine ⟨.ref a, rfl, a, _, rfl, .inl hS, fun l hl => ⟨by show 5 ≤ sizeLine; decide, fun p hp => ?_⟩⟩
    have nlp : l ≠ p := fun e => by
      rw [e, upd_same] at hp
      cases hp
    have np : H p = none := by
      rw [upd_ne nlp.symm] at hp
      exact hp
    refine q p l _ np hl ⟨ns, 0, 0, 1, 0, upd_same, by rw [upd_ne nlp, upd_same], by decide, by decide, by decide⟩ fun b o e => ?_
    rw [upd_ne (ne_of_none e np), upd_ne (ne_of_none e hl)]
    exact e
theorem PSs.imp {X : Cx} {st : List Stmt} {t u : TS} (h : PSs X st u) (k : ∀ D σ H, t D σ H → u D σ H) : PSs X st t := ⟨fun pins s σ H D I q => h.run pins s σ H D I (k D σ H q)⟩
theorem PE.imp {X : Cx} {e : Expr} {t u : TE} (h : PE X e u) (k : ∀ σ H Q, t σ H Q → u σ H Q) : PE X e t := ⟨fun pins s σ H Q I q => h.run pins s σ H Q I (k σ H Q q)⟩
theorem PS.imp {X : Cx} {st : Stmt} {t u : TS} (h : PS X st u) (k : ∀ D σ H, t D σ H → u D σ H) : PS X st t := ⟨fun pins s σ H D I q => h.run pins s σ H D I (k D σ H q)⟩
def tTail : TS := fun D σ H => ∃ (p : Addr) (m : Int) (l : Addr) (cells : List Int) (i r s n : Int) (c f x : Option V), σ = [some (.ref p), some (.int m), c, f, x] ∧ 0 < m ∧ m < 1000000 ∧ H p = some (.lst [.ref l, .int i, .int r, .int s, .int n]) ∧ H l = some (.lst (cells.map V.int)) ∧ l ≠ p ∧ 0 ≤ i ∧ 0 ≤ s ∧ s < 2147483647 ∧
  ∀ v H', 0 ≤ v → v < m → HandL H' p l → But p H H' → D.rt (.int v) H'
theorem HandL.mk {H : Hp} {p l : Addr} {cells : List Int} {i r s n : Int} (hp : H p = some (.lst [.ref l, .int i, .int r, .int s, .int n])) (hl : H l = some (.lst (cells.map V.int))) (h1 : 0 ≤ i) (h2 : 0 ≤ s) (h3 : s < 2147483647) : HandL H p l := ⟨cells, i, r, s, n, hp, hl, h1, h2, h3⟩
theorem but_upd {p : Addr} {H : Hp} {o : HO} : But p H (upd H p o) := fun b u n e => by
  rw [upd_ne n]
  exact e
theorem mod_pos {i j : Int} (h : 0 < j) : (fun (_ j : Int) => 0 < j) i j := h
theorem boot_ty_int : bootBuiltins "int" = some (.type "int") := by decide +kernel
theorem ok_take {f : Addr} {fd : FuncData} (F : Fun K "_law_take" "_law_take" sTake f fd) (T : Glob mg) : FnOk P w K mg base CX0 1 f fd ["hand", "many"] spTake := by
  refine F.ok scTake (fun vs H Q E h => ?_) (fun cdv A outer s H vs Q E hr h => ?_)
  · obtain ⟨p, m, rfl, _⟩ := h
    rfl
  · obtain ⟨p, m, rfl, m0, m1, l, ⟨cells, i, r, s0, n, hp, hl, hi, hs0, hs1⟩, q⟩ := h
    have npl : l ≠ p := fun e => by
      rw [e, hp] at hl
      have z := congrArg List.head? (HO.lst.inj (Option.some.inj hl))
      cases cells with
      | nil => cases z
      | cons c r => cases z
    refine ⟨_, pss_cons (ps_asg (pe_op op_add (pe_ix ix_list (pv 0) pe_int (fun _ _ => rfl)) pe_int) (pg_sub (pv 0) pe_int set_list))
      (pss_cons (ps_if (PW.pt (pw_and (pt_cmpR op_eq (pe_ix ix_list (pv 0) pe_int (fun _ _ => rfl)) pe_int (nomark _)) (pw_and1 (pt_cmpR op_lt (pe_ix ix_list (pv 0) pe_int (fun _ _ => rfl)) (pe_callB call_len_seq (by rfl) T.len PySem.boot_len (pa_cons (pe_ix ix_list (pv 0) pe_int (fun _ _ => rfl)) pa_nil)) (nomark _)))))
        (pss_cons (ps_set (i := 2) scTake.nd rfl (.inl rfl) (pe_callTy call_int1 (by rfl) T.int boot_ty_int (pa_cons (pe_ix ix_list (pe_ix ix_list (pv 0) pe_int (fun _ _ => rfl)) (pe_ix ix_list (pv 0) pe_int (fun _ _ => rfl)) (fun _ _ => rfl)) pa_nil)))
        (pss_cons (ps_asg (pe_op op_add (pe_ix ix_list (pv 0) pe_int (fun _ _ => rfl)) pe_int) (pg_sub (pv 0) pe_int set_list))
        (pss_one (ps_if (pt_cmpR op_ge (pv 2) (pe_op op_pow pe_int pe_int) (nomark _))
          (pss_one (ps_asg (pv 2) (pg_sub (pv 0) pe_int set_list)))
          (pss_one (ps_asg (pe_op op_mod (pe_callTy call_int1 (by rfl) T.int boot_ty_int (pa_cons (pe_op op_add (pe_op op_add (pe_op op_mul (pe_ix ix_list (pv 0) pe_int (fun _ _ => rfl)) pe_int) (pe_op op_mod (pe_callTy call_int1 (by rfl) T.int boot_ty_int (pa_cons (pv 2) pa_nil)) pe_int)) pe_int) pa_nil)) pe_int) (pg_sub (pv 0) pe_int set_list)))))))
        pss_nil)
      (PSs.imp (t := tTail) (pss_cons (ps_if (pt_cmpR op_gt (pe_ix ix_list (pv 0) pe_int (fun _ _ => rfl)) pe_int (nomark _))
        (pss_cons (ps_set (i := 3) scTake.nd rfl (.inl rfl) (pe_op op_mod (pe_callTy call_int1 (by rfl) T.int boot_ty_int (pa_cons (pe_ix ix_list (pv 0) pe_int (fun _ _ => rfl)) pa_nil)) (pv 1)))
        (pss_cons (ps_asg (pe_op op_fdiv (pe_callTy call_int1 (by rfl) T.int boot_ty_int (pa_cons (pe_ix ix_list (pv 0) pe_int (fun _ _ => rfl)) pa_nil)) (pv 1)) (pg_sub (pv 0) pe_int set_list))
        (pss_one (ps_ret (pv 3)))))
        pss_nil)
      (pss_cons (ps_asg (pe_op op_mod (pe_callTy call_int1 (by rfl) T.int boot_ty_int (pa_cons (pe_op op_add (pe_op op_mul (pe_ix ix_list (pv 0) pe_int (fun _ _ => rfl)) pe_int) (pe_op op_mul pe_int (pe_ix ix_list (pv 0) pe_int (fun _ _ => rfl)))) pa_nil)) pe_int) (pg_sub (pv 0) pe_int set_list))
      (pss_cons (ps_set (i := 4) scTake.nd rfl (.inl rfl) (pe_op op_mod (pe_callTy call_int1 (by rfl) T.int boot_ty_int (pa_cons (pe_op op_mul (pe_ix ix_list (pv 0) pe_int (fun _ _ => rfl)) (pe_op op_add (pe_op op_fdiv (pe_ix ix_list (pv 0) pe_int (fun _ _ => rfl)) pe_int) pe_int)) pa_nil)) pe_int))
      (pss_cons (ps_set (i := 4) scTake.nd rfl (.inl rfl) (pe_op op_mod (pe_callTy call_int1 (by rfl) T.int boot_ty_int (pa_cons (pe_op op_mul (pv 4) (pe_op op_add (pe_op op_fdiv (pv 4) pe_int) pe_int)) pa_nil)) pe_int))
      (pss_one (ps_ret (pe_op op_mod (pe_callTy call_int1 (by rfl) T.int boot_ty_int (pa_cons (pe_op op_fdiv (pv 4) pe_int) pa_nil)) (pv 1)))))))) ?tail)), ?_⟩
    case tail =>
      rintro D σ H ⟨p, m, l, cells, i, r, s, n, c, f, x, rfl, m0, m1, hp, hl, npl, hi, hs0, hs1, q⟩
      refine ⟨.ref p, rfl, p, _, 2, _, rfl, rfl, sq_of hp, rfl, _, _, rfl, rfl, _, rfl, ite2 (fun e => ?_) (fun e => ?_)⟩
      · refine ⟨.ref p, rfl, p, _, 2, _, rfl, rfl, sq_of hp, rfl, .inl ⟨r, rfl, .int m, rfl, _, _, rfl, rfl, m0, ?_⟩⟩
        refine ⟨.ref p, rfl, p, _, 2, _, rfl, rfl, sq_of hp, rfl, .inl ⟨r, rfl, .int m, rfl, _, _, rfl, rfl, ⟨m0, by omega⟩, ?_⟩⟩
        refine ⟨.ref p, rfl, p, _, 2, 2, rfl, rfl, hp, rfl, ?_⟩
        refine ⟨_, rfl, ?_⟩
        refine q _ _ (Int.emod_nonneg _ (by omega)) (Int.emod_lt_of_pos _ m0) (.mk upd_same (by rw [upd_ne npl]; exact hl) hi hs0 hs1) but_upd
      · refine ⟨.ref p, rfl, p, _, 3, _, rfl, rfl, sq_of hp, rfl, s, 69621, rfl, rfl, .inl ⟨by omega, by omega⟩, .ref p, rfl, p, _, 4, _, rfl, rfl, sq_of hp, rfl, 7919, n, rfl, rfl, .inl ⟨by decide, by decide⟩, _, _, rfl, rfl, .inl ⟨_, rfl, _, _, rfl, rfl, (by show (0 : Int) < 2147483647; decide), .ref p, rfl, p, _, 3, 3, rfl, rfl, hp, rfl, ?_⟩⟩
        dsimp only
        have a0 : 0 ≤ (s * 69621 + 7919 * n) % 2147483647 := Int.emod_nonneg _ (by decide)
        have a1 : (s * 69621 + 7919 * n) % 2147483647 < 2147483647 := Int.emod_lt_of_pos _ (by decide)
        generalize (s * 69621 + 7919 * n) % 2147483647 = s2 at a0 a1 ⊢
        have hp2 : upd H p (.lst (List.set [.ref l, .int i, .int r, .int s, .int n] 3 (.int s2))) p = some (.lst [.ref l, .int i, .int r, .int s2, .int n]) := upd_same
        have hl2 : upd H p (.lst (List.set [.ref l, .int i, .int r, .int s, .int n] 3 (.int s2))) l = some (.lst (cells.map V.int)) := by rw [upd_ne npl]; exact hl
        have b2 : But p H (upd H p (.lst (List.set [.ref l, .int i, .int r, .int s, .int n] 3 (.int s2)))) := but_upd
        generalize upd H p (.lst (List.set [.ref l, .int i, .int r, .int s, .int n] 3 (.int s2))) = H2 at hp2 hl2 b2 ⊢
        refine ⟨.ref p, rfl, p, _, 3, _, rfl, rfl, sq_of hp2, rfl, .ref p, rfl, p, _, 3, _, rfl, rfl, sq_of hp2, rfl, _, _, rfl, rfl, ⟨by decide, by decide⟩, _, _, rfl, rfl, _, _, rfl, rfl, .inl ⟨by omega, by omega⟩, .inl ⟨_, rfl, _, _, rfl, rfl, (by show (0 : Int) < 2147483647; decide), ?_⟩⟩
        dsimp only
        have a2 : 0 ≤ (s2 * (s2 / 1009 + 69621)) % 2147483647 := Int.emod_nonneg _ (by decide)
        have a3 : (s2 * (s2 / 1009 + 69621)) % 2147483647 < 2147483647 := Int.emod_lt_of_pos _ (by decide)
        generalize (s2 * (s2 / 1009 + 69621)) % 2147483647 = y at a2 a3 ⊢
        refine ⟨_, rfl, _, rfl, _, _, rfl, rfl, ⟨by decide, by decide⟩, _, _, rfl, rfl, _, _, rfl, rfl, .inl ⟨by omega, by omega⟩, .inl ⟨_, rfl, _, _, rfl, rfl, (by show (0 : Int) < 2147483399; decide), ?_⟩⟩
        refine ⟨_, rfl, _, _, rfl, rfl, ⟨by decide, by decide⟩, .inl ⟨_, rfl, .int m, rfl, _, _, rfl, rfl, m0, ?_⟩⟩
        exact q _ _ (Int.emod_nonneg _ (by omega)) (Int.emod_lt_of_pos _ m0) (.mk hp2 hl2 hi a0 a1) b2
    -- hand[4] = hand[4] + 1
    refine ⟨.ref p, rfl, p, _, 4, _, rfl, rfl, sq_of hp, rfl, _, _, rfl, rfl, .ref p, rfl, p, _, 4, 4, rfl, rfl, hp, rfl, ?_⟩
    dsimp only
    have hp1 : upd H p (.lst (List.set [.ref l, .int i, .int r, .int s0, .int n] 4 (.int (n + 1)))) p = some (.lst [.ref l, .int i, .int r, .int s0, .int (n + 1)]) := upd_same
    have hl1 : upd H p (.lst (List.set [.ref l, .int i, .int r, .int s0, .int n] 4 (.int (n + 1)))) l = some (.lst (cells.map V.int)) := by rw [upd_ne npl]; exact hl
    have b1 : But p H (upd H p (.lst (List.set [.ref l, .int i, .int r, .int s0, .int n] 4 (.int (n + 1))))) := but_upd
    generalize upd H p (.lst (List.set [.ref l, .int i, .int r, .int s0, .int n] 4 (.int (n + 1)))) = H1 at hp1 hl1 b1 ⊢
    have fin : ∀ {H2 : Hp} {i r s n : Int} {c : Option V}, H2 p = some (.lst [.ref l, .int i, .int r, .int s, .int n]) → H2 l = some (.lst (cells.map V.int)) → 0 ≤ i → 0 ≤ s → s < 2147483647 → But p H H2 →
        tTail { nx := fun _ H' => Q .non H', rt := Q } [some (.ref p), some (.int m), c, none, none] H2 := fun {H2 i r s n c} h1 h2 h3 h4 h5 h6 =>
      ⟨p, m, l, cells, i, r, s, n, c, none, none, rfl, m0, m1, h1, h2, npl, h3, h4, h5, fun v H' g1 g2 g3 g4 => q v H' g1 g2 g3 (h6.trans g4)⟩
    refine ⟨.ref p, rfl, p, _, 2, _, rfl, rfl, sq_of hp1, rfl, rfl, _, rfl, ite2 (fun e => ?_) (fun e => ?_)⟩
    · refine ⟨.ref p, rfl, p, _, 1, _, rfl, rfl, sq_of hp1, rfl, .ref p, rfl, p, _, 0, _, rfl, rfl, sq_of hp1, rfl, l, _, rfl, .inl (sq_of hl1), _, _, rfl, rfl, _, rfl, ite2 (fun e2 => ?_) (fun e2 => ?_)⟩
      · have hlt : i < (cells.length : Int) := by
          have z := of_decide_eq_true e2
          rw [List.length_map] at z
          exact z
        obtain ⟨c, hc⟩ := atI_int hi hlt
        refine ⟨.ref p, rfl, p, _, 0, _, rfl, rfl, sq_of hp1, rfl, .ref p, rfl, p, _, 1, _, rfl, rfl, sq_of hp1, rfl, l, _, i, _, rfl, rfl, sq_of hl1, hc, .inl ⟨c, rfl, ?_⟩⟩
        refine ⟨.ref p, rfl, p, _, 1, _, rfl, rfl, sq_of hp1, rfl, _, _, rfl, rfl, .ref p, rfl, p, _, 1, 1, rfl, rfl, hp1, rfl, ?_⟩
        dsimp only
        have hp2 : upd H1 p (.lst (List.set [.ref l, .int i, .int r, .int s0, .int (n + 1)] 1 (.int (i + 1)))) p = some (.lst [.ref l, .int (i + 1), .int r, .int s0, .int (n + 1)]) := upd_same
        have hl2 : upd H1 p (.lst (List.set [.ref l, .int i, .int r, .int s0, .int (n + 1)] 1 (.int (i + 1)))) l = some (.lst (cells.map V.int)) := by rw [upd_ne npl]; exact hl1
        have b2 : But p H (upd H1 p (.lst (List.set [.ref l, .int i, .int r, .int s0, .int (n + 1)] 1 (.int (i + 1))))) := b1.trans but_upd
        generalize upd H1 p (.lst (List.set [.ref l, .int i, .int r, .int s0, .int (n + 1)] 1 (.int (i + 1)))) = H2 at hp2 hl2 b2 ⊢
        refine ⟨.int c, rfl, _, _, rfl, rfl, ⟨by decide, by decide, by decide⟩, _, _, rfl, rfl, _, rfl, ite2 (fun _ => ?_) (fun _ => ?_)⟩
        · refine ⟨.int c, rfl, .ref p, rfl, p, _, 2, 2, rfl, rfl, hp2, rfl, ?_⟩
          exact fin upd_same (by rw [upd_ne npl]; exact hl2) (by omega) hs0 hs1 (b2.trans but_upd)
        · refine ⟨.ref p, rfl, p, _, 3, _, rfl, rfl, sq_of hp2, rfl, s0, 48271, rfl, rfl, .inl ⟨by omega, by omega⟩, .int c, rfl, .inl ⟨c, rfl, _, _, rfl, rfl, (by show (0 : Int) < 2147483647; decide), _, _, rfl, rfl, _, _, rfl, rfl, .inl ⟨_, rfl, _, _, rfl, rfl, (by show (0 : Int) < 2147483647; decide), .ref p, rfl, p, _, 3, 3, rfl, rfl, hp2, rfl, ?_⟩⟩⟩
          exact fin upd_same (by rw [upd_ne npl]; exact hl2) (by omega) (Int.emod_nonneg _ (by decide)) (Int.emod_lt_of_pos _ (by decide)) (b2.trans but_upd)
      · exact fin hp1 hl1 hi hs0 hs1 b1
    · exact fin hp1 hl1 hi hs0 hs1 b1
end
theorem Same.new {H : Hp} {q : Addr} {o : HO} (h : H q = none) : Same H (upd H q o) := fun b u e => by
  rw [upd_ne (ne_of_none e h)]
  exact e
theorem sameAt {H H' : Hp} {q : Addr} {o : HO} (k : Same H H') (h : H q = none) : Same H (upd H' q o) := fun b u e => by
  rw [upd_ne (ne_of_none e h)]
  exact k b u e
end LawK
set_option maxHeartbeats 4000000
/-! Texts: how long, so many times, which signs; kinds of values. -/
namespace Ev
open PySem PySem.Spec PyProof.Rows L2
def rLenZ : List V → Hp → VK → Prop := fun xs H Q => ∃ z : Str, xs = [.str z] ∧ z.length ≤ sizeLine ∧ Q (.int z.length) H
theorem call_lenZ {X : Cx} : CallR X (.builtin "len") rLenZ := fun pins s σ H xs us Q I r h =>
  call_len pins s σ H xs us Q I r (let ⟨z, e, hz, q⟩ := h; ⟨.str z, z.length, e, ⟨hz, rfl⟩, q⟩)
def rMulS : R2 := fun x y H Q => ∃ (z : Str) (n : Int), x = .str z ∧ y = .int n ∧ 0 ≤ n ∧ n ≤ 3000 ∧ z.length ≤ 1000 ∧ Q (.str (Txt.mul z n)) H
theorem mul_ok {z : Str} {n : Int} (h0 : 0 ≤ n) (h1 : n ≤ 3000) (h2 : z.length ≤ 1000) : MulOk z n := by
  refine ⟨by simp; omega, fun a _ => ?_, fun _ _ => ?_⟩
  · have e : (1000 : Int) ≤ (2 ^ 63 - 1) / n := by
      refine Int.le_ediv_of_mul_le (by omega) ?_
      have : (2 : Int) ^ 63 - 1 = 9223372036854775807 := by decide
      omega
    omega
  · have e : z.length * n.toNat ≤ 1000 * 3000 := Nat.mul_le_mul h2 (by omega)
    have h3 : sizeLine = 16777216 := sizeLine_eq
    show decide (z.length * n.toNat > sizeLine) = false
    exact decide_eq_false (by omega)
theorem op_mulS {X : Cx} : OpR X (binaryOp .Mult) rMulS := by
  intro pins s σ H x y v u Q I rx ry h
  obtain ⟨z, n, rfl, rfl, h0, h1, h2, q⟩ := h
  obtain ⟨t, rfl⟩ := rx
  obtain ⟨t', rfl⟩ := ry
  exact SB.mul (mul_ok h0 h1 h2) fun t' k => ⟨.str _, H, I.tok _, ⟨_, rfl⟩, q⟩
/-- every sign of the text is one from the blank to the tilde -/
def sgC (c : Nat) : Bool := decide (32 ≤ c) && decide (c ≤ 126)
def sgB (z : Str) : Bool := z.cps.toList.all sgC
theorem prn128 : ∀ c : Fin 128, Unicode.isPrintable c.val = sgC c.val := by decide +kernel
theorem sgC_of (c : Nat) : (decide (c < 128) && Unicode.isPrintable c) = sgC c := by
  by_cases h : c < 128
  · rw [decide_eq_true h, Bool.true_and]
    exact prn128 ⟨c, h⟩
  · rw [decide_eq_false h, Bool.false_and]
    unfold sgC
    rw [decide_eq_false (show ¬ c ≤ 126 by omega), Bool.and_false]
theorem sgB_of (z : Str) : (Txt.isascii z && Txt.isprintable z) = sgB z := by
  unfold Txt.isascii Txt.isprintable sgB
  rw [← Array.all_toList, ← Array.all_toList]
  generalize z.cps.toList = l
  induction l with
  | nil => rfl
  | cons c l ih =>
    rw [List.all_cons, List.all_cons, List.all_cons, ← sgC_of, ← ih]
    cases decide (c < 128) <;> cases Unicode.isPrintable c <;> cases l.all (fun c => decide (c < 128)) <;> rfl
/-! ### kinds -/
inductive Kn | non | bl | int | str | lst | tup | dic
  deriving DecidableEq
def Kn.name : Kn → String
  | .non => "NoneType"
  | .bl => "bool"
  | .int => "int"
  | .str => "str"
  | .lst => "list"
  | .tup => "tuple"
  | .dic => "dict"
def kitB : Kn → Kn → Bool
  | .bl, .int => true
  | a, b => decide (a = b)
inductive Kd (H : Hp) : V → Kn → Prop
  | non : Kd H .non .non
  | bl (b : Bool) : Kd H (.bl b) .bl
  | int (i : Int) : Kd H (.int i) .int
  | str (z : Str) : Kd H (.str z) .str
  | lst {a : Addr} {xs : List V} (e : H a = some (.lst xs)) : Kd H (.ref a) .lst
  | tup {a : Addr} {xs : List V} (e : H a = some (.tup xs)) : Kd H (.ref a) .tup
  | dic {a : Addr} {kvs : List (Key × V)} (e : H a = some (.dK kvs)) : Kd H (.ref a) .dic
theorem Kd.tyx {K : PySem.W.Frag} {H : Hp} {x : V} {k : Kn} (h : Kd H x k) : TyX K H x (.type k.name) := by
  cases h with
  | non => exact .base .non
  | bl b => exact .base (.bl b)
  | int i => exact .base (.int i)
  | str z => exact .base (.str z)
  | lst e => exact .base (.lst e)
  | tup e => exact .base (.tup e)
  | dic e => exact .base (.dK e)
theorem Kd.same {H H' : Hp} (s : ∀ b o, H b = some o → H' b = some o) {x : V} {k : Kn} (h : Kd H x k) : Kd H' x k := by
  cases h with
  | non => exact .non
  | bl b => exact .bl b
  | int i => exact .int i
  | str z => exact .str z
  | lst e => exact .lst (s _ _ e)
  | tup e => exact .tup (s _ _ e)
  | dic e => exact .dic (s _ _ e)
theorem kit_kn {K : PySem.W.Frag} : ∀ a b : Kn, PySem.W.kitOne K (.type a.name) (.type b.name) = some (kitB a b) := by
  intro a b
  cases a <;> cases b <;> exact kit_ty (by decide +kernel)
theorem rd_isi {K : PySem.W.Frag} {H : Hp} {x : V} {k : Kn} {Q : VK} (T : Kn) (h : Kd H x k) (q : Q (.bl (kitB k T)) H) : rIsi K [x, .ty T.name] H Q :=
  ⟨x, .ty T.name, .type k.name, .type T.name, kitB k T, rfl, .ty _, h.tyx, kit_kn k T, q⟩
/-- for c in s -/
theorem for_strZ {z : Str} {g : TG} {tb : TS} {D : Ends} {σ : L2.St} {H : Hp} (Pv : Nat → L2.St → Hp → Prop) (h0 : Pv 0 σ H)
    (hs : ∀ i c σ H, z.cps[i]? = some c → Pv i σ H → g (.str ⟨#[c]⟩) σ H fun σ2 H2 => tb { D with nx := Pv (i + 1), ct := Pv (i + 1), bk := D.nx } σ2 H2) (hd : ∀ σ H, Pv z.cps.size σ H → D.nx σ H) :
    ∃ W : Nat → Nat → L2.St → Hp → Prop, (∃ m, W 0 m σ H) ∧ ∀ i m σ H, W i m σ H →
      ((Its z).stop i H ∧ D.nx σ H) ∨ ((Its z).go i H ∧ ∃ N : L2.St → Hp → Prop, (∀ σ' H', N σ' H' → ∃ m', m' < m ∧ W (i + 1) m' σ' H') ∧ ∀ x H', (Its z).yld i H x H' → g x σ H' fun σ2 H2 => tb { D with nx := N, ct := N, bk := D.nx } σ2 H2) := by
  refine ⟨fun i m σ H => m = z.cps.size - i ∧ i ≤ z.cps.size ∧ Pv i σ H, ⟨z.cps.size, by simp, Nat.zero_le _, h0⟩, ?_⟩
  rintro i m σ H ⟨rfl, hi, p⟩
  by_cases hlt : i < z.cps.size
  · refine .inr ⟨hlt, Pv (i + 1), fun σ' H' p' => ⟨z.cps.size - (i + 1), by omega, rfl, hlt, p'⟩, fun x H' y => ?_⟩
    obtain ⟨e, c, hc, ex⟩ := y
    subst e ex
    exact hs i c σ _ hc p
  · have e : i = z.cps.size := by omega
    subst e
    exact .inl ⟨Nat.le_refl _, hd σ H p⟩
def sgV : V → Bool
  | .str z => sgB z
  | _ => false
def wordV : V → Bool
  | .str z => sgB z && decide ((0 : Int) < (z.length : Int))
  | _ => false
/-- no text is too long -/
def Vs (x : V) : Prop := ∀ z, x = .str z → z.length ≤ 5000
theorem len5 {n : Nat} (h : n ≤ 5000) : n ≤ sizeLine := by
  have h3 : sizeLine = 16777216 := sizeLine_eq
  omega
def spSg : Sp := fun vs H Q _ => ∃ x k, vs = [x] ∧ Kd H x k ∧ Vs x ∧ Q (.bl (sgV x)) H
def spWd : Sp := fun vs H Q _ => ∃ x k, vs = [x] ∧ Kd H x k ∧ Vs x ∧ Q (.bl (wordV x)) H
def spInt : Sp := fun vs H Q _ => ∃ x k, vs = [x] ∧ Kd H x k ∧ Q (.bl (decide (k = .int))) H
def numV : V → Bool
  | .int i => decide (0 ≤ i)
  | _ => false
def spNum : Sp := fun vs H Q _ => ∃ x k, vs = [x] ∧ Kd H x k ∧ Q (.bl (numV x)) H
def inV2 (a b : Int) : V → Bool
  | .int i => decide (a ≤ i) && decide (i ≤ b)
  | _ => false
def spIn : Sp := fun vs H Q _ => ∃ x k a b, vs = [x, .int a, .int b] ∧ Kd H x k ∧ Q (.bl (inV2 a b x)) H
theorem sgB_at {z : Str} {i c : Nat} (h : z.cps[i]? = some c) (n : sgC c = false) : sgB z = false := by
  unfold sgB
  rw [List.all_eq_false]
  refine ⟨c, ?_, by simp [n]⟩
  rw [← Array.getElem?_toList] at h
  exact List.mem_of_getElem? h
theorem sgB_all {z : Str} (h : ∀ i c : Nat, z.cps[i]? = some c → sgC c = true) : sgB z = true := by
  unfold sgB
  rw [List.all_eq_true]
  intro c hc
  obtain ⟨i, hi, e⟩ := List.mem_iff_getElem.mp hc
  refine h i c ?_
  rw [← Array.getElem?_toList, List.getElem?_eq_getElem hi, e]
end Ev
set_option maxHeartbeats 4000000
/-! Things that are judged: what they are, as far as it is asked. -/
namespace Ev
open PySem PySem.Spec PyProof.Rows L2
def dsm0 : PyData → Bool
  | .str z => decide (z.length ≤ 100) && PyData.strOk z
  | _ => true
/-- no text in it is long -/
def dsm : PyData → Bool
  | .list ds => ds.all dsm0
  | .tuple ds => ds.all dsm0
  | d => dsm0 d
theorem Dt.kd {H : Hp} {v : V} {d : PyData} (h : Dt H v d) : ∃ k, Kd H v k := by
  cases h with
  | non => exact ⟨_, .non⟩
  | bl b => exact ⟨_, .bl b⟩
  | int i => exact ⟨_, .int i⟩
  | str x => exact ⟨_, .str x⟩
  | dic e => exact ⟨_, .dic e⟩
  | l0 e n => exact ⟨_, .lst e⟩
  | l1 e n _ => exact ⟨_, .lst e⟩
  | l2 e n _ _ => exact ⟨_, .lst e⟩
  | t0 e => exact ⟨_, .tup e⟩
  | t1 e _ => exact ⟨_, .tup e⟩
  | t2 e _ _ => exact ⟨_, .tup e⟩
theorem Dt.vs {H : Hp} {v : V} {d : PyData} (h : Dt H v d) (s : dsm0 d = true) : Vs v := by
  cases h with
  | str x =>
    intro z e
    cases e
    have q : x.length ≤ 100 := of_decide_eq_true (Bool.and_eq_true_iff.mp s).1
    exact Nat.le_trans q (by decide)
  | non => exact fun z e => by cases e
  | bl b => exact fun z e => by cases e
  | int i => exact fun z e => by cases e
  | dic e => exact fun z e => by cases e
  | l0 e n => exact fun z e => by cases e
  | l1 e n _ => exact fun z e => by cases e
  | l2 e n _ _ => exact fun z e => by cases e
  | t0 e => exact fun z e => by cases e
  | t1 e _ => exact fun z e => by cases e
  | t2 e _ _ => exact fun z e => by cases e
/-- a thing; some xs: a tuple of xs -/
inductive Tg (H : Hp) : V → Option (List V) → Prop
  | no {x : V} {k : Kn} (h : Kd H x k) (n : k ≠ .tup) (s : Vs x) : Tg H x none
  | tup {a : Addr} {xs : List V} (e : H a = some (.tup xs)) (n : xs.length ≤ 30) (h : ∀ y ∈ xs, (∃ k, Kd H y k) ∧ Vs y) : Tg H (.ref a) (some xs)
theorem Tg.kd {H : Hp} {x : V} {o : Option (List V)} (h : Tg H x o) : ∃ k, Kd H x k ∧ (k = .tup ↔ o.isSome = true) := by
  cases h with
  | no h n s => exact ⟨_, h, fun e => absurd e n, fun e => by cases e⟩
  | tup e n h => exact ⟨_, .tup e, fun _ => rfl, fun _ => rfl⟩
theorem Tg.vs {H : Hp} {x : V} {o : Option (List V)} (h : Tg H x o) : Vs x := by
  cases h with
  | no h n s => exact s
  | tup e n h => exact fun z e => by cases e
theorem Tg.same {H H' : Hp} (s : ∀ b o, H b = some o → H' b = some o) {x : V} {o : Option (List V)} (h : Tg H x o) : Tg H' x o := by
  cases h with
  | no h n z => exact .no (h.same s) n z
  | tup e n h => exact .tup (s _ _ e) n fun y hy => ⟨let ⟨k, q⟩ := (h y hy).1; ⟨k, q.same s⟩, (h y hy).2⟩
theorem Dt.tg {H : Hp} {v : V} {d : PyData} (h : Dt H v d) (s : dsm d = true) : ∃ o, Tg H v o := by
  cases h with
  | non => exact ⟨_, .no .non (by decide) fun z e => by cases e⟩
  | bl b => exact ⟨_, .no (.bl b) (by decide) fun z e => by cases e⟩
  | int i => exact ⟨_, .no (.int i) (by decide) fun z e => by cases e⟩
  | str x => exact ⟨_, .no (.str x) (by decide) (Dt.vs (.str (H := H) x) s)⟩
  | dic e => exact ⟨_, .no (.dic e) (by decide) fun z e => by cases e⟩
  | l0 e n => exact ⟨_, .no (.lst e) (by decide) fun z e => by cases e⟩
  | l1 e n _ => exact ⟨_, .no (.lst e) (by decide) fun z e => by cases e⟩
  | l2 e n _ _ => exact ⟨_, .no (.lst e) (by decide) fun z e => by cases e⟩
  | t0 e => exact ⟨_, .tup e (by decide) fun y hy => absurd hy (by simp)⟩
  | @t1 a x d e hx =>
    have s1 : dsm0 d = true := List.all_eq_true.mp s d (by simp)
    exact ⟨_, .tup e (by simp) fun y hy => by
      obtain rfl := List.mem_singleton.mp hy
      exact ⟨hx.kd, hx.vs s1⟩⟩
  | @t2 a x z d1 d2 e hx hz =>
    have s1 : dsm0 d1 = true := List.all_eq_true.mp s d1 (by simp)
    have s2 : dsm0 d2 = true := List.all_eq_true.mp s d2 (by simp)
    refine ⟨_, .tup e (by simp) fun y hy => ?_⟩
    rcases List.mem_cons.mp hy with g | g
    · rw [g]
      exact ⟨hx.kd, hx.vs s1⟩
    · rw [List.mem_singleton.mp g]
      exact ⟨hz.kd, hz.vs s2⟩
def slen : V → Nat
  | .str z => z.length
  | _ => 0
/-- what is wrong with a thing that is to be texts -/
def badOf : Option (List V) → V
  | none => .int (-1)
  | some xs => if xs.length > 8 then .int (-1) else match xs.findIdx? (fun y => !sgV y) with
    | some k => .int (k : Int)
    | none => if (xs.map slen).sum > 2000 then .str (Str.ofString "long") else .non
/-- whether a thing is a place of these texts -/
def placeV (ts : List Str) : Option (List V) → Bool
  | some [x, y] => inV2 0 ((ts.length : Int) - 1) x && (match x with
    | .int i => inV2 0 (((ts.getD i.toNat Str.empty).length : Int) - 1) y
    | _ => false)
  | _ => false
end Ev
set_option maxHeartbeats 4000000
namespace LawK
open PySem PySem.Spec PyProof.Rows L2 Ev
abbrev sOdd : Stmt := topS 33
theorem HandL.same {H H' : Hp} {p l : Addr} (k : Same H H') (h : HandL H p l) : HandL H' p l := by
  obtain ⟨cells, i, r, s, n, h1, h2, h3⟩ := h
  exact ⟨cells, i, r, s, n, k _ _ h1, k _ _ h2, h3⟩
theorem But.and {p : Addr} {H H1 H2 : Hp} (a : But p H H1) (k : Same H1 H2) : But p H H2 := fun b o n e => k b o (a b o n e)
theorem hand_ne {H : Hp} {p l' a : Addr} {o : HO} (h : HandL H p l') (e : H a = some o) (n : ∀ x1 x2 x3 x4 x5, o ≠ .lst [x1, x2, x3, x4, x5]) : a ≠ p := fun z => by
  obtain ⟨cells, i, r, s, m, h1, _⟩ := h
  rw [z, h1] at e
  exact n _ _ _ _ _ (Option.some.inj e).symm
theorem dt_but {H H' : Hp} {p l' : Addr} {v : V} {d : PyData} (h : Dt H v d) (hp : HandL H p l') (k : But p H H') : Dt H' v d := by
  induction h with
  | non => exact .non
  | bl b => exact .bl b
  | int i => exact .int i
  | str x => exact .str x
  | dic e => exact .dic (k _ _ (hand_ne hp e fun _ _ _ _ _ z => by cases z) e)
  | l0 e n => exact .l0 (k _ _ (hand_ne hp e fun _ _ _ _ _ z => by cases z) e) n
  | l1 e n _ ih => exact .l1 (k _ _ (hand_ne hp e fun _ _ _ _ _ z => by cases z) e) n ih
  | l2 e n _ _ i1 i2 => exact .l2 (k _ _ (hand_ne hp e fun _ _ _ _ _ z => by cases z) e) n i1 i2
  | t0 e => exact .t0 (k _ _ (hand_ne hp e fun _ _ _ _ _ z => by cases z) e)
  | t1 e _ ih => exact .t1 (k _ _ (hand_ne hp e fun _ _ _ _ _ z => by cases z) e) ih
  | t2 e _ _ i1 i2 => exact .t2 (k _ _ (hand_ne hp e fun _ _ _ _ _ z => by cases z) e) i1 i2
def spOdd : Sp := fun vs H Q _ => ∃ (p : Addr), vs = [.ref p] ∧ ∃ l, HandL H p l ∧ ∀ v d H', Dt H' v d → dsm d = true → HandL H' p l → But p H H' → Q v H'
theorem scOdd : FnScope ["hand", "way"] ["hand"] (defScope sOdd) := ⟨rfl, rfl, rfl, by decide +kernel, rfl, by decide +kernel, by decide +kernel⟩
section
variable {P : Program} {w : World} {K : PySem.W.Frag} {mg : Str → Option Value} {base : Heap}
theorem ok_odd {f fT : Addr} {fd fdT : FuncData} (F : Fun K "_law_odd" "_law_odd" sOdd f fd) (FT : Fun K "_law_take" "_law_take" sTake fT fdT) (bT : Binds K fdT ["hand", "many"] []) (gT : mg "_law_take" = some (.ref fT)) (T : Glob mg) : FnOk P w K mg base CX0 2 f fd ["hand"] spOdd := by
  have GT : FnOk P w K mg base CX0 1 fT fdT ["hand", "many"] spTake := ok_take FT T
  refine F.ok scOdd (fun vs H Q E h => ?_) (fun cdv A outer s H vs Q E hr h => ?_)
  · obtain ⟨p, rfl, _⟩ := h
    rfl
  · obtain ⟨p, rfl, lh, hH, q⟩ := h
    refine ⟨_, pss_cons (ps_set (i := 1) scOdd.nd rfl (.inl rfl) (pe_call GT hr (by rfl) gT FT.kp bT .nil pass0 (pa_cons (pv 0) (pa_cons pe_int pa_nil))))
      (pss_cons (ps_if (pt_cmpR op_lt (pv 1) pe_int (nomark _)) (pss_one (ps_ret (pe_ix ix_list (pe_lst (pa_cons pe_non (pa_cons pe_bl (pa_cons pe_bl (pa_cons pe_str (pa_cons pe_str (pa_cons pe_str pa_nil))))))) (pv 1) (fun _ _ => rfl)))) pss_nil)
      (pss_cons (ps_if (pt_cmpR op_lt (pv 1) pe_int (nomark _)) (pss_one (ps_ret (pe_ix ix_list (pe_lst (pa_cons (pe_tup pa_nil) (pa_cons (pe_lstN pa_nil) (pa_cons pe_dnewK (pa_cons (pe_tup (pa_cons pe_str pa_nil)) (pa_cons (pe_lstN (pa_cons pe_int pa_nil)) (pa_cons (pe_tup (pa_cons (pe_tup pa_nil) pa_nil)) pa_nil))))))) (pe_op op_sub (pv 1) pe_int) (fun _ _ => rfl)))) pss_nil)
      (pss_cons (ps_if (pt_cmpR op_lt (pv 1) pe_int (nomark _)) (pss_one (ps_ret (pe_ix ix_list (pe_lst (pa_cons (pe_un un_neg pe_int) (pa_cons pe_int (pa_cons pe_int (pa_cons (pe_op op_sub (pe_op op_pow pe_int pe_int) pe_int) (pa_cons pe_str (pa_cons pe_str pa_nil))))))) (pe_op op_sub (pv 1) pe_int) (fun _ _ => rfl)))) pss_nil)
      (pss_cons (ps_if (pt_cmpR op_eq (pv 1) pe_int (nomark _)) (pss_one (ps_ret (pe_lstN (pa_cons pe_str (pa_cons (pe_tup (pa_cons pe_str pa_nil)) pa_nil))))) pss_nil)
      (pss_one (ps_ret (pe_tup (pa_cons pe_str pa_nil)))))))), ?_⟩
    refine ⟨.ref p, rfl, p, 20, rfl, by decide, by decide, lh, hH, fun v H1 v0 v1 h1 b1 => ?_⟩
    refine ⟨.int v, rfl, _, _, rfl, rfl, _, rfl, ite2 (fun e => ?_) (fun e => ?_)⟩
    · have e' : v < 6 := of_decide_eq_true e
      refine ⟨by show 6 ≤ sizeLine; decide, fun o no => ?_⟩
      have k : ∀ {x : V} {d : PyData}, Dt (upd H1 o (.lst [.non, .bl true, .bl false, .str "", .str "a", .str "put"])) x d → dsm d = true → Q x (upd H1 o (.lst [.non, .bl true, .bl false, .str "", .str "a", .str "put"])) := fun {x d} h s => q x d _ h s (h1.same (Same.new no)) (b1.and (Same.new no))
      obtain rfl | rfl | rfl | rfl | rfl | rfl : v = 0 ∨ v = 1 ∨ v = 2 ∨ v = 3 ∨ v = 4 ∨ v = 5 := by omega
      · exact ⟨_, rfl, o, _, _, _, rfl, rfl, sq_of upd_same, rfl, k .non (by decide +kernel)⟩
      · exact ⟨_, rfl, o, _, _, _, rfl, rfl, sq_of upd_same, rfl, k (.bl _) (by decide +kernel)⟩
      · exact ⟨_, rfl, o, _, _, _, rfl, rfl, sq_of upd_same, rfl, k (.bl _) (by decide +kernel)⟩
      · exact ⟨_, rfl, o, _, _, _, rfl, rfl, sq_of upd_same, rfl, k (.str _) (by decide +kernel)⟩
      · exact ⟨_, rfl, o, _, _, _, rfl, rfl, sq_of upd_same, rfl, k (.str _) (by decide +kernel)⟩
      · exact ⟨_, rfl, o, _, _, _, rfl, rfl, sq_of upd_same, rfl, k (.str _) (by decide +kernel)⟩
    have e1 : ¬ v < 6 := fun z => e (decide_eq_true z)
    refine ⟨.int v, rfl, _, _, rfl, rfl, _, rfl, ite2 (fun e => ?_) (fun e => ?_)⟩
    · have e' : v < 12 := of_decide_eq_true e
      refine ⟨by show 0 ≤ sizeLine; decide, fun p1 n1 => ⟨by show 0 ≤ sizeLine; decide, fun p2 n2 m2 => fun p3 n3 => ⟨by show 1 ≤ sizeLine; decide, fun p4 n4 => ⟨by show 1 ≤ sizeLine; decide, fun p5 n5 m5 => ⟨by show 0 ≤ sizeLine; decide, fun p6 n6 => ⟨by show 1 ≤ sizeLine; decide, fun p7 n7 => ⟨by show 6 ≤ sizeLine; decide, fun o no => ?_⟩⟩⟩⟩⟩⟩⟩
      have k8 := Same.new (o := .lst [.ref p1, .ref p2, .ref p3, .ref p4, .ref p5, .ref p7]) no
      have k7 := (Same.new (o := .tup [.ref p6]) n7).trans k8
      have k6 := (Same.new (o := .tup []) n6).trans k7
      have k5 := (Same.new (o := .lst [.int 0]) n5).trans k6
      have k4 := (Same.new (o := .tup [.str "a"]) n4).trans k5
      have k3 := (Same.new (o := .dK []) n3).trans k4
      have k2 := (Same.new (o := .lst []) n2).trans k3
      have k1 := (Same.new (o := .tup []) n1).trans k2
      have hQ : ∀ {x : V} {d : PyData}, Dt _ x d → dsm d = true → Q x _ := fun {x d} h s => q x d _ h s (h1.same k1) (b1.and k1)
      obtain rfl | rfl | rfl | rfl | rfl | rfl : v = 6 ∨ v = 7 ∨ v = 8 ∨ v = 9 ∨ v = 10 ∨ v = 11 := by omega
      · exact ⟨_, rfl, _, _, rfl, rfl, o, _, _, _, rfl, rfl, sq_of upd_same, rfl, hQ (Dt.t0 (k2 _ _ upd_same)) (by decide +kernel)⟩
      · exact ⟨_, rfl, _, _, rfl, rfl, o, _, _, _, rfl, rfl, sq_of upd_same, rfl, hQ (Dt.l0 (k3 _ _ upd_same) m2) (by decide +kernel)⟩
      · exact ⟨_, rfl, _, _, rfl, rfl, o, _, _, _, rfl, rfl, sq_of upd_same, rfl, hQ (Dt.dic (k4 _ _ upd_same)) (by decide +kernel)⟩
      · exact ⟨_, rfl, _, _, rfl, rfl, o, _, _, _, rfl, rfl, sq_of upd_same, rfl, hQ (Dt.t1 (k5 _ _ upd_same) (.str _)) (by decide +kernel)⟩
      · exact ⟨_, rfl, _, _, rfl, rfl, o, _, _, _, rfl, rfl, sq_of upd_same, rfl, hQ (Dt.l1 (k6 _ _ upd_same) m5 (.int _)) (by decide +kernel)⟩
      · exact ⟨_, rfl, _, _, rfl, rfl, o, _, _, _, rfl, rfl, sq_of upd_same, rfl, hQ (Dt.t1 (k8 _ _ upd_same) (Dt.t0 (k7 _ _ upd_same))) (by decide +kernel)⟩
    have e2 : ¬ v < 12 := fun z => e (decide_eq_true z)
    refine ⟨.int v, rfl, _, _, rfl, rfl, _, rfl, ite2 (fun e => ?_) (fun e => ?_)⟩
    · have e' : v < 18 := of_decide_eq_true e
      refine ⟨_, rfl, _, _, rfl, rfl, ⟨by decide, by decide, by decide⟩, _, _, rfl, rfl, by show 6 ≤ sizeLine; decide, fun o no => ?_⟩
      have hQ : ∀ {x : V} {d : PyData} {u : HO}, Dt (upd H1 o u) x d → dsm d = true → Q x (upd H1 o u) := fun {x d u} h s => q x d _ h s (h1.same (Same.new no)) (b1.and (Same.new no))
      obtain rfl | rfl | rfl | rfl | rfl | rfl : v = 12 ∨ v = 13 ∨ v = 14 ∨ v = 15 ∨ v = 16 ∨ v = 17 := by omega
      · exact ⟨_, rfl, _, _, rfl, rfl, o, _, _, _, rfl, rfl, sq_of upd_same, rfl, hQ (.int _) (by decide +kernel)⟩
      · exact ⟨_, rfl, _, _, rfl, rfl, o, _, _, _, rfl, rfl, sq_of upd_same, rfl, hQ (.int _) (by decide +kernel)⟩
      · exact ⟨_, rfl, _, _, rfl, rfl, o, _, _, _, rfl, rfl, sq_of upd_same, rfl, hQ (.int _) (by decide +kernel)⟩
      · exact ⟨_, rfl, _, _, rfl, rfl, o, _, _, _, rfl, rfl, sq_of upd_same, rfl, hQ (.int _) (by decide +kernel)⟩
      · exact ⟨_, rfl, _, _, rfl, rfl, o, _, _, _, rfl, rfl, sq_of upd_same, rfl, hQ (.str _) (by decide +kernel)⟩
      · exact ⟨_, rfl, _, _, rfl, rfl, o, _, _, _, rfl, rfl, sq_of upd_same, rfl, hQ (.str _) (by decide +kernel)⟩
    refine ⟨.int v, rfl, rfl, _, rfl, ite2 (fun e => ?_) (fun e => ?_)⟩
    · refine ⟨by show 1 ≤ sizeLine; decide, fun p1 n1 => ⟨by show 2 ≤ sizeLine; decide, fun p2 n2 m2 => ?_⟩⟩
      have k2 := Same.new (o := .lst [.str "a", .ref p1]) n2
      have k1 := (Same.new (o := .tup [.str "go"]) n1).trans k2
      exact q _ _ _ (Dt.l2 upd_same m2 (.str _) (.t1 (k2 _ _ upd_same) (.str _))) (by decide +kernel) (h1.same k1) (b1.and k1)
    · refine ⟨by show 1 ≤ sizeLine; decide, fun p1 n1 => ?_⟩
      exact q _ _ _ (Dt.t1 upd_same (.str _)) (by decide +kernel) (h1.same (Same.new n1)) (b1.and (Same.new n1))
end
/-- the hand at p as it may be, all else of H as it was -/
structure Hn (p l : Addr) (H H' : Hp) : Prop where
  at_ : HandL H' p l
  but : But p H H'
theorem HandL.ne {H : Hp} {p l q : Addr} (h : HandL H p l) (n : H q = none) : q ≠ p ∧ q ≠ l := by
  obtain ⟨cells, i, r, s, m, h1, h2, _⟩ := h
  exact ⟨fun z => (by rw [z, h1] at n; cases n), fun z => (by rw [z, h2] at n; cases n)⟩
theorem Hn.new {p l q : Addr} {H H' : Hp} {o : HO} (h : Hn p l H H') (n : H' q = none) : Hn p l H (upd H' q o) := ⟨h.at_.same (Same.new n), h.but.and (Same.new n)⟩
theorem Hn.trans {p l : Addr} {H H1 H2 : Hp} (a : Hn p l H H1) (b : Hn p l H1 H2) : Hn p l H H2 := ⟨b.at_, a.but.trans b.but⟩
theorem Hn.refl {p l : Addr} {H : Hp} (h : HandL H p l) : Hn p l H H := ⟨h, But.refl p H⟩
theorem Hn.go {p l : Addr} {H H1 H2 : Hp} (a : Hn p l H H1) (h : HandL H2 p l) (b : But p H1 H2) : Hn p l H H2 := ⟨h, a.but.trans b⟩
theorem Hn.same {p l : Addr} {H H1 H2 : Hp} (a : Hn p l H H1) (k : Same H1 H2) : Hn p l H H2 := ⟨a.at_.same k, a.but.and k⟩
/-- an object that is new since H, at q, changes -/
theorem Hn.at {p l q : Addr} {H H' : Hp} {o : HO} (h : Hn p l H H') (h0 : HandL H p l) (n : H q = none) : Hn p l H (upd H' q o) := by
  obtain ⟨n1, n2⟩ := h0.ne n
  refine ⟨?_, fun b u nb e => ?_⟩
  · obtain ⟨cells, i, r, s, m, h1, h2, h3⟩ := h.at_
    exact ⟨cells, i, r, s, m, by rw [upd_ne (Ne.symm n1)]; exact h1, by rw [upd_ne (Ne.symm n2)]; exact h2, h3⟩
  · rw [upd_ne (ne_of_none e n)]
    exact h.but b u nb e
theorem sqBut {K : PySem.W.Frag} {H H' : Hp} {p a : Addr} {xs : List V} (h : SqL K H a xs) (n : a ≠ p) (b : But p H H') : SqL K H' a xs := by
  rcases h with (h | ⟨o, h⟩) | h
  · exact .inl (.inl (b _ _ n h))
  · exact .inl (.inr ⟨o, b _ _ n h⟩)
  · exact .inr h
end LawK
set_option maxHeartbeats 4000000
namespace LawK
open PySem PySem.Spec PyProof.Rows L2 Ev
structure Dk (P : Program) (w : World) (K : PySem.W.Frag) (mg : Str → Option Value) (base : Heap) (x : Str) (st : Stmt) (ps : List Str) (k : Nat) (sp : Sp) (f : Addr) (fd : FuncData) : Prop where
  F : Fun K x x st f fd
  b : Binds K fd ps []
  g : mg x = some (.ref f)
  ok : FnOk P w K mg base CX0 k f fd ps sp
section
variable {P : Program} {w : World} {K : PySem.W.Frag} {mg : Str → Option Value} {base : Heap}
abbrev sAreSigns : Stmt := topS 37
theorem scAreSigns : FnScope ["thing", "sign"] ["thing"] (defScope sAreSigns) := ⟨rfl, rfl, rfl, by decide +kernel, rfl, by decide +kernel, by decide +kernel⟩
theorem ok_AreSigns {f : Addr} {fd : FuncData} (F : Fun K "_law_are_signs" "_law_are_signs" sAreSigns f fd)  (T : Glob mg) : FnOk P w K mg base CX0 1 f fd ["thing"] spSg := by
  refine F.ok scAreSigns (fun vs H Q E h => ?_) (fun cdv A outer s H vs Q E hr h => ?_)
  · obtain ⟨x, k, rfl, _⟩ := h
    rfl
  · refine ⟨_, (pss_cons (ps_if (pt_not (pt_val (pe_callB call_isi (by rfl) T.isinstance PyProof.Rows.boot_isinstance (pa_cons (pv 0) (pa_cons (pe_bltn (v := .ty "str") (by rfl) T.str (by decide +kernel) rfl) pa_nil)))))
      (pss_one (ps_ret pe_bl))
      pss_nil)
      (pss_cons (ps_for PassesOwn.never rfl (pi_str (pv 0)) (pg_name (i := 1) scAreSigns.nd rfl (.inl rfl))
      (pss_one (ps_if (PW.pt (pw_or (pt_cmpR op_lt (pe_callB call_ord (by rfl) T.ord (by decide +kernel) (pa_cons (pv 1) pa_nil)) pe_int (nomark _)) (pw_or1 (pt_cmpR op_gt (pe_callB call_ord (by rfl) T.ord (by decide +kernel) (pa_cons (pv 1) pa_nil)) pe_int (nomark _)))))
        (pss_one (ps_ret pe_bl))
        pss_nil)))
      (pss_one (ps_ret pe_bl)))), ?_⟩
    obtain ⟨x, k, rfl, hk, hz, q⟩ := h
    refine ⟨x, rfl, x, .ty "str", .type (Kn.name k), .type "str", kitB k .str, rfl, .ty _, Kd.tyx hk, kit_kn k .str, _, rfl, ?_⟩
    cases hk with
    | str z =>
      have hz' := hz z rfl
      refine iteF ⟨.str z, rfl, z, rfl, for_strZ (fun i σ H' => (∃ y, σ = [some (.str z), y]) ∧ H' = H ∧ ∀ j c : Nat, j < i → z.cps[j]? = some c → sgC c = true) ⟨⟨_, rfl⟩, rfl, fun j c hj => absurd hj (by omega)⟩ ?_ ?_⟩
      · rintro i c σ H' hc ⟨⟨y, rfl⟩, rfl, hg⟩
        have bad : sgC c = false → Q (.bl false) H' := fun e => by
          have e2 := sgB_at hc e
          have q' : Q (.bl (sgB z)) H' := q
          rw [e2] at q'
          exact q'
        refine ⟨.str ⟨#[c]⟩, rfl, ⟨#[c]⟩, rfl, rfl, _, _, rfl, rfl, _, rfl, ite2 (fun e => iteT (bad ?_)) (fun e1 => ?_)⟩
        · have := of_decide_eq_true e
          have h2 : (c : Int) < 32 := this
          unfold sgC
          rw [decide_eq_false (show ¬ 32 ≤ c by omega), Bool.false_and]
        · refine ⟨.str ⟨#[c]⟩, rfl, ⟨#[c]⟩, rfl, rfl, _, _, rfl, rfl, _, rfl, ite2 (fun e => bad ?_) (fun e2 => ?_)⟩
          · have h2 : (126 : Int) < (c : Int) := of_decide_eq_true e
            unfold sgC
            rw [decide_eq_false (show ¬ c ≤ 126 by omega), Bool.and_false]
          · have h1 : ¬ (c : Int) < 32 := fun z => e1 (decide_eq_true z)
            have h2 : ¬ (126 : Int) < (c : Int) := fun z => e2 (decide_eq_true z)
            refine ⟨⟨_, rfl⟩, rfl, fun j d hj hd => ?_⟩
            by_cases e : j = i
            · subst e
              rw [hc] at hd
              cases hd
              unfold sgC
              rw [decide_eq_true (show 32 ≤ c by omega), decide_eq_true (show c ≤ 126 by omega)]
              rfl
            · exact hg j d (by omega) hd
      · rintro σ H' ⟨⟨y, rfl⟩, rfl, hg⟩
        have e : sgB z = true := sgB_all fun i c hc => hg i c (by
          have := Array.getElem?_eq_some_iff.mp hc
          exact this.1) hc
        have q' : Q (.bl (sgB z)) H' := q
        rw [e] at q'
        exact q'
    | non => exact iteT q
    | bl b => exact iteT q
    | int i => exact iteT q
    | lst e => exact iteT q
    | tup e => exact iteT q
    | dic e => exact iteT q
abbrev sPSigns : Stmt := topS 7
theorem scPSigns : FnScope ["thing"] ["thing"] (defScope sPSigns) := ⟨rfl, rfl, rfl, by decide +kernel, rfl, by decide +kernel, by decide +kernel⟩
theorem ok_PSigns {f : Addr} {fd : FuncData} (F : Fun K "is_signs" "is_signs" sPSigns f fd)  (T : Glob mg) : FnOk P w K mg base CX0 1 f fd ["thing"] spSg := by
  refine F.ok scPSigns (fun vs H Q E h => ?_) (fun cdv A outer s H vs Q E hr h => ?_)
  · obtain ⟨x, k, rfl, _⟩ := h
    rfl
  · refine ⟨_, (pss_one (ps_ret (pe_and (pe_callB call_isi (by rfl) T.isinstance PyProof.Rows.boot_isinstance (pa_cons (pv 0) (pa_cons (pe_bltn (v := .ty "str") (by rfl) T.str (by decide +kernel) rfl) pa_nil))) (pe_and (pe_bm0 PySem.F.plainAttrs_str PySem.F.slot_str_isascii PySem.F.type_str_isascii mt_isascii (pv 0)) (pe_one (pe_bm0 PySem.F.plainAttrs_str PySem.F.slot_str_isprintable PySem.F.type_str_isprintable mt_isprintable (pv 0))))))), ?_⟩
    obtain ⟨x, k, rfl, hk, hz, q⟩ := h
    refine ⟨x, rfl, x, .ty "str", .type (Kn.name k), .type "str", kitB k .str, rfl, .ty _, Kd.tyx hk, kit_kn k .str, _, rfl, ?_⟩
    cases hk with
    | str z =>
      refine iteT ⟨.str z, rfl, rfl, z, rfl, rfl, trivial, _, rfl, ite2 (fun e => ⟨.str z, rfl, rfl, z, rfl, rfl, trivial, ?_⟩) (fun e => ?_)⟩
      · have q' : Q (.bl (sgB z)) H := q
        rw [← sgB_of, e, Bool.true_and] at q'
        exact q'
      · have e' : Txt.isascii z = false := by simpa using e
        have q' : Q (.bl (sgB z)) H := q
        rw [← sgB_of, e', Bool.false_and] at q'
        exact q'
    | non => exact iteF q
    | bl b => exact iteF q
    | int i => exact iteF q
    | lst e => exact iteF q
    | tup e => exact iteF q
    | dic e => exact iteF q
abbrev sIsInteger : Stmt := topS 31
theorem scIsInteger : FnScope ["thing"] ["thing"] (defScope sIsInteger) := ⟨rfl, rfl, rfl, by decide +kernel, rfl, by decide +kernel, by decide +kernel⟩
theorem ok_IsInteger {f : Addr} {fd : FuncData} (F : Fun K "_law_is_integer" "_law_is_integer" sIsInteger f fd)  (T : Glob mg) : FnOk P w K mg base CX0 1 f fd ["thing"] spInt := by
  refine F.ok scIsInteger (fun vs H Q E h => ?_) (fun cdv A outer s H vs Q E hr h => ?_)
  · obtain ⟨x, k, rfl, _⟩ := h
    rfl
  · refine ⟨_, (pss_one (ps_ret (pe_and (pe_callB call_isi (by rfl) T.isinstance PyProof.Rows.boot_isinstance (pa_cons (pv 0) (pa_cons (pe_bltn (v := .ty "int") (by rfl) T.int (by decide +kernel) rfl) pa_nil))) (pe_one (pe_not (pe_callB call_isi (by rfl) T.isinstance PyProof.Rows.boot_isinstance (pa_cons (pv 0) (pa_cons (pe_bltn (v := .ty "bool") (by rfl) T.bool (by decide +kernel) rfl) pa_nil)))))))), ?_⟩
    obtain ⟨x, k, rfl, hk, q⟩ := h
    refine ⟨x, rfl, x, .ty "int", .type (Kn.name k), .type "int", kitB k .int, rfl, .ty _, Kd.tyx hk, kit_kn k .int, _, rfl, ?_⟩
    cases hk with
    | int i => exact iteT ⟨.int i, rfl, .int i, .ty "bool", .type (Kn.name .int), .type "bool", kitB .int .bl, rfl, .ty _, Kd.tyx (.int i), kit_kn .int .bl, _, rfl, q⟩
    | bl b => exact iteT ⟨.bl b, rfl, .bl b, .ty "bool", .type (Kn.name .bl), .type "bool", kitB .bl .bl, rfl, .ty _, Kd.tyx (.bl b), kit_kn .bl .bl, _, rfl, q⟩
    | str z => exact iteF q
    | non => exact iteF q
    | lst e => exact iteF q
    | tup e => exact iteF q
    | dic e => exact iteF q
abbrev sPNumber : Stmt := topS 6
theorem scPNumber : FnScope ["thing"] ["thing"] (defScope sPNumber) := ⟨rfl, rfl, rfl, by decide +kernel, rfl, by decide +kernel, by decide +kernel⟩
theorem ok_PNumber {f : Addr} {fd : FuncData} (F : Fun K "is_number" "is_number" sPNumber f fd)  (T : Glob mg) : FnOk P w K mg base CX0 1 f fd ["thing"] spNum := by
  refine F.ok scPNumber (fun vs H Q E h => ?_) (fun cdv A outer s H vs Q E hr h => ?_)
  · obtain ⟨x, k, rfl, _⟩ := h
    rfl
  · refine ⟨_, (pss_one (ps_ret (pe_and (pe_callB call_isi (by rfl) T.isinstance PyProof.Rows.boot_isinstance (pa_cons (pv 0) (pa_cons (pe_bltn (v := .ty "int") (by rfl) T.int (by decide +kernel) rfl) pa_nil))) (pe_and (pe_not (pe_callB call_isi (by rfl) T.isinstance PyProof.Rows.boot_isinstance (pa_cons (pv 0) (pa_cons (pe_bltn (v := .ty "bool") (by rfl) T.bool (by decide +kernel) rfl) pa_nil)))) (pe_one (pe_cmpR op_ge (pv 0) pe_int (nomark _))))))), ?_⟩
    obtain ⟨x, k, rfl, hk, q⟩ := h
    refine ⟨x, rfl, x, .ty "int", .type (Kn.name k), .type "int", kitB k .int, rfl, .ty _, Kd.tyx hk, kit_kn k .int, _, rfl, ?_⟩
    cases hk with
    | int i => exact iteT ⟨.int i, rfl, .int i, .ty "bool", .type (Kn.name .int), .type "bool", kitB .int .bl, rfl, .ty _, Kd.tyx (.int i), kit_kn .int .bl, _, rfl, _, rfl, iteT ⟨.int i, rfl, _, _, rfl, rfl, q⟩⟩
    | bl b => exact iteT ⟨.bl b, rfl, .bl b, .ty "bool", .type (Kn.name .bl), .type "bool", kitB .bl .bl, rfl, .ty _, Kd.tyx (.bl b), kit_kn .bl .bl, _, rfl, _, rfl, iteF q⟩
    | str z => exact iteF q
    | non => exact iteF q
    | lst e => exact iteF q
    | tup e => exact iteF q
    | dic e => exact iteF q
abbrev sIsWithin : Stmt := topS 32
theorem scIsWithin : FnScope ["thing", "least", "most"] ["thing", "least", "most"] (defScope sIsWithin) := ⟨rfl, rfl, rfl, by decide +kernel, rfl, by decide +kernel, by decide +kernel⟩
theorem ok_IsWithin {f : Addr} {fd : FuncData} (F : Fun K "_law_is_within" "_law_is_within" sIsWithin f fd) {fIsInteger : Addr} {fdIsInteger : FuncData} (DIsInteger : Dk P w K mg base "_law_is_integer" sIsInteger ["thing"] 1 spInt fIsInteger fdIsInteger) (T : Glob mg) : FnOk P w K mg base CX0 2 f fd ["thing", "least", "most"] spIn := by
  refine F.ok scIsWithin (fun vs H Q E h => ?_) (fun cdv A outer s H vs Q E hr h => ?_)
  · obtain ⟨x, k, a, b, rfl, _⟩ := h
    rfl
  · refine ⟨_, (pss_one (ps_ret (pe_and (pe_call DIsInteger.ok (hr.mono (by decide)) (by rfl) DIsInteger.g DIsInteger.F.kp DIsInteger.b .nil pass0 (pa_cons (pv 0) pa_nil)) (pe_and (pe_cmpR op_le (pv 1) (pv 0) (nomark _)) (pe_one (pe_cmpR op_le (pv 0) (pv 2) (nomark _))))))), ?_⟩
    obtain ⟨x, k, a, b, rfl, hk, q⟩ := h
    refine ⟨x, rfl, x, k, rfl, hk, _, rfl, ?_⟩
    cases hk with
    | int i =>
      refine iteT ⟨.int a, rfl, .int i, rfl, _, _, rfl, rfl, _, rfl, ite2 (fun e => ?_) (fun e => ?_)⟩
      · have q' : Q (.bl (decide (a ≤ i) && decide (i ≤ b))) H := q
        rw [e, Bool.true_and] at q'
        exact ⟨.int i, rfl, .int b, rfl, _, _, rfl, rfl, q'⟩
      · have e' : decide (a ≤ i) = false := by simpa using e
        have q' : Q (.bl (decide (a ≤ i) && decide (i ≤ b))) H := q
        rw [e', Bool.false_and] at q'
        exact q'
    | bl b => exact iteF q
    | str z => exact iteF q
    | non => exact iteF q
    | lst e => exact iteF q
    | tup e => exact iteF q
    | dic e => exact iteF q
end
end LawK
set_option maxHeartbeats 4000000
namespace Ev
open PySem PySem.Spec PyProof.Rows L2
theorem joinL1 : ∀ cs : List Nat, TL.joinL [] (cs.map fun c => [c]) = cs
  | [] => rfl
  | [c] => rfl
  | c :: d :: r => by
    have e := joinL1 (d :: r)
    show [c] ++ ([] ++ TL.joinL [] ((d :: r).map fun c => [c])) = c :: d :: r
    rw [e]
    rfl
theorem join1 (cs : List Nat) : Txt.join (Str.ofString "") (cs.map fun c => SX.S [c]) = SX.S cs := by
  have e := SX.join_S [] (cs.map fun c => [c])
  rw [List.map_map, joinL1] at e
  exact e
theorem sgB_S (cs : List Nat) : sgB (SX.S cs) = cs.all sgC := rfl
theorem S_eta (z : Str) : SX.S z.cps.toList = z := SX.S_tl z
theorem len_S (z : Str) : z.length = z.cps.toList.length := by simp [Str.length]
theorem sgB_mem {z : Str} (h : sgB z = true) {c : Nat} (hc : c ∈ z.cps.toList) : sgC c = true := List.all_eq_true.mp h c hc
theorem sgB_of_mem {z : Str} (h : ∀ c ∈ z.cps.toList, sgC c = true) : sgB z = true := List.all_eq_true.mpr h
theorem sgB_cut {z : Str} (h : sgB z = true) (lo hi : Option Int) : sgB (cutS z lo hi) = true := by
  refine sgB_of_mem fun c hc => sgB_mem h ?_
  have hc' : c ∈ (z.cps.toList.drop (HT.sIx z.length 0 lo)).take (HT.sIx z.length z.length hi - HT.sIx z.length 0 lo) := by
    simpa [cutS] using hc
  exact List.mem_of_mem_drop (List.mem_of_mem_take hc')
theorem cut_len {z : Str} (lo hi : Option Int) : (cutS z lo hi).length ≤ z.length := by
  rw [len_S, len_S]
  have e : (cutS z lo hi).cps.toList = (z.cps.toList.drop (HT.sIx z.length 0 lo)).take (HT.sIx z.length z.length hi - HT.sIx z.length 0 lo) := by simp [cutS]
  rw [e, List.length_take, List.length_drop]
  omega
theorem cut_len2 {z : Str} (lo hi : Option Int) : (cutS z lo hi).length ≤ HT.sIx z.length z.length hi - HT.sIx z.length 0 lo := by
  rw [len_S]
  have e : (cutS z lo hi).cps.toList = (z.cps.toList.drop (HT.sIx z.length 0 lo)).take (HT.sIx z.length z.length hi - HT.sIx z.length 0 lo) := by simp [cutS]
  rw [e, List.length_take]
  omega
theorem sgB_app {a b : Str} (h1 : sgB a = true) (h2 : sgB b = true) : sgB (a ++ b) = true := by
  refine sgB_of_mem fun c hc => ?_
  have e : (a ++ b).cps.toList = a.cps.toList ++ b.cps.toList := TL.tl_append a b
  rw [e] at hc
  rcases List.mem_append.mp hc with h | h
  · exact sgB_mem h1 h
  · exact sgB_mem h2 h
theorem app_len (a b : Str) : (a ++ b).length = a.length + b.length := by
  have e : (a ++ b).cps.toList = a.cps.toList ++ b.cps.toList := TL.tl_append a b
  rw [len_S, e, List.length_append, ← len_S, ← len_S]
theorem rep_all (x : Array Nat) : ∀ (n : Nat) (acc : Array Nat), ((List.replicate n x).foldl (· ++ ·) acc).size = acc.size + n * x.size ∧ ∀ c ∈ ((List.replicate n x).foldl (· ++ ·) acc).toList, c ∈ acc.toList ∨ c ∈ x.toList
  | 0, acc => ⟨by simp, fun c h => .inl h⟩
  | n + 1, acc => by
    obtain ⟨h1, h2⟩ := rep_all x n (acc ++ x)
    rw [List.replicate_succ, List.foldl_cons]
    refine ⟨by rw [h1, Array.size_append, Nat.succ_mul]; omega, fun c hc => ?_⟩
    rcases h2 c hc with h | h
    · rw [Array.toList_append] at h
      exact List.mem_append.mp h
    · exact .inr h
theorem mul_facts (z : Str) (n : Int) : (Txt.mul z n).length ≤ z.length * n.toNat ∧ (sgB z = true → sgB (Txt.mul z n) = true) := by
  unfold Txt.mul
  by_cases h1 : n < 1
  · rw [if_pos h1]
    exact ⟨Nat.zero_le _, fun _ => rfl⟩
  · rw [if_neg h1]
    by_cases h2 : (n == 1 || z.length == 0) = true
    · rw [if_pos h2]
      exact ⟨Nat.le_mul_of_pos_right _ (by omega), fun h => h⟩
    · rw [if_neg h2]
      obtain ⟨r1, r2⟩ := rep_all z.cps n.toNat #[]
      refine ⟨?_, fun h => sgB_of_mem fun c hc => ?_⟩
      · show Array.size _ ≤ _
        rw [r1, Nat.mul_comm]
        show 0 + _ ≤ _
        rw [Nat.zero_add]
        exact Nat.le_refl _
      · rcases r2 c hc with q | q
        · cases q
        · exact sgB_mem h q
theorem cut_hi {z : Str} {lo : Option Int} {u : Int} (h : 0 ≤ u) : ((cutS z lo (some u)).length : Int) ≤ u := by
  have e := cut_len2 (z := z) lo (some u)
  have e2 : HT.sIx z.length z.length (some u) ≤ u.toNat := by
    show (if u < 0 then (u + (z.length : Int)).toNat else min u.toNat z.length) ≤ u.toNat
    rw [if_neg (by omega)]
    exact Nat.min_le_left _ _
  omega
theorem cut_lohi {z : Str} {b e : Int} (h : 0 ≤ b) (h2 : b ≤ e) : ((cutS z (some b) (some e)).length : Int) ≤ e - b := by
  have q := cut_len2 (z := z) (some b) (some e)
  have e1 : HT.sIx z.length z.length (some e) = min e.toNat z.length := by
    show (if e < 0 then (e + (z.length : Int)).toNat else min e.toNat z.length) = _
    rw [if_neg (by omega)]
  have e2 : HT.sIx z.length 0 (some b) = min b.toNat z.length := by
    show (if b < 0 then (b + (z.length : Int)).toNat else min b.toNat z.length) = _
    rw [if_neg (by omega)]
  rw [e1, e2] at q
  omega
end Ev
set_option maxHeartbeats 4000000
namespace LawK
open PySem PySem.Spec PyProof.Rows L2 Ev
def spPick (K : PySem.W.Frag) : Sp := fun vs H Q _ => ∃ (p a : Addr) (xs : List V), vs = [.ref p, .ref a] ∧ SqL K H a xs ∧ a ≠ p ∧ 0 < xs.length ∧ xs.length < 1000000 ∧ ∃ l, HandL H p l ∧ ∀ x H', x ∈ xs → HandL H' p l → But p H H' → Q x H'
def spAlpha : Sp := fun vs H Q _ => ∃ (p : Addr), vs = [.ref p] ∧ ∃ l, HandL H p l ∧ ∀ z H', sgB z = true → 0 < z.length → z.length ≤ 100 → HandL H' p l → But p H H' → Q (.str z) H'
def spWord : Sp := fun vs H Q _ => ∃ (p : Addr) (z : Str) (a b : Int), vs = [.ref p, .str z, .int a, .int b] ∧ sgB z = true ∧ 0 < z.length ∧ z.length ≤ 100 ∧ 0 ≤ a ∧ a ≤ b ∧ b ≤ 1000 ∧ ∃ l, HandL H p l ∧
  ∀ y H', sgB y = true → a ≤ (y.length : Int) → (y.length : Int) ≤ b → HandL H' p l → But p H H' → Q (.str y) H'
def spText : Sp := fun vs H Q _ => ∃ (p : Addr) (z : Str) (m : Int), vs = [.ref p, .str z, .int m] ∧ sgB z = true ∧ 0 < z.length ∧ z.length ≤ 100 ∧ 1 ≤ m ∧ m ≤ 1000 ∧ ∃ l, HandL H p l ∧
  ∀ y H', sgB y = true → (y.length : Int) ≤ m → HandL H' p l → But p H H' → Q (.str y) H'
def spNear : Sp := fun vs H Q _ => ∃ (p : Addr) (z t : Str) (m : Int), vs = [.ref p, .str z, .str t, .int m] ∧ sgB z = true ∧ 0 < z.length ∧ z.length ≤ 100 ∧ sgB t = true ∧ t.length ≤ 1000 ∧ 1 ≤ m ∧ m ≤ 100 ∧ ∃ l, HandL H p l ∧
  ∀ y H', sgB y = true → (y.length : Int) ≤ m → HandL H' p l → But p H H' → Q (.str y) H'
theorem len6 {z : Str} {n : Nat} (h : z.length ≤ n) (hn : n ≤ 5000 := by decide) : z.length ≤ sizeLine := len5 (Nat.le_trans h hn)
theorem sg_at {z : Str} {v : Int} (hz : sgB z = true) (h0 : 0 ≤ v) (h1 : v < (z.length : Int)) : ∃ c, atI z.cps.toList v = some c ∧ sgC c = true := by
  obtain ⟨c, e, hm⟩ := atI_in (xs := z.cps.toList) h0 (by rw [← len_S]; exact h1)
  exact ⟨c, e, sgB_mem hz hm⟩
section
variable {P : Program} {w : World} {K : PySem.W.Frag} {mg : Str → Option Value} {base : Heap}
abbrev sPick : Stmt := topS 30
theorem scPick : FnScope ["hand", "things"] ["hand", "things"] (defScope sPick) := ⟨rfl, rfl, rfl, by decide +kernel, rfl, by decide +kernel, by decide +kernel⟩
theorem ok_Pick {f : Addr} {fd : FuncData} (F : Fun K "_law_pick" "_law_pick" sPick f fd) {fTake : Addr} {fdTake : FuncData} (DTake : Dk P w K mg base "_law_take" sTake ["hand", "many"] 1 spTake fTake fdTake) (T : Glob mg) : FnOk P w K mg base CX0 2 f fd ["hand", "things"] (spPick K) := by
  refine F.ok scPick (fun vs H Q E h => ?_) (fun cdv A outer s H vs Q E hr h => ?_)
  · obtain ⟨p, a, xs, rfl, _⟩ := h
    rfl
  · refine ⟨_, (pss_one (ps_ret (pe_ix ix_list (pv 1) (pe_call DTake.ok (hr.mono (by decide)) (by rfl) DTake.g DTake.F.kp DTake.b .nil pass0 (pa_cons (pv 0) (pa_cons (pe_callB call_len_seq (by rfl) T.len PySem.boot_len (pa_cons (pv 1) pa_nil)) pa_nil))) (fun _ _ => rfl)))), ?_⟩
    obtain ⟨p, a, xs, rfl, ha, nap, h0, h1, lh, hH, q⟩ := h
    refine ⟨.ref a, rfl, .ref p, rfl, .ref a, rfl, a, xs, rfl, .inl ha, p, (xs.length : Int), rfl, by omega, by omega, lh, hH, fun v H1 v0 v1 h2 b2 => ?_⟩
    obtain ⟨x, e, hm⟩ := atI_in v0 v1
    exact ⟨a, xs, v, x, rfl, rfl, sqBut ha nap b2, e, q x H1 hm h2 b2⟩
abbrev sAlphabet : Stmt := topS 34
theorem scAlphabet : FnScope ["hand", "way", "signs"] ["hand"] (defScope sAlphabet) := ⟨rfl, rfl, rfl, by decide +kernel, rfl, by decide +kernel, by decide +kernel⟩
theorem ok_Alphabet {f : Addr} {fd : FuncData} (F : Fun K "_law_alphabet" "_law_alphabet" sAlphabet f fd) {fTake : Addr} {fdTake : FuncData} (DTake : Dk P w K mg base "_law_take" sTake ["hand", "many"] 1 spTake fTake fdTake) (T : Glob mg) : FnOk P w K mg base CX0 2 f fd ["hand"] spAlpha := by
  refine F.ok scAlphabet (fun vs H Q E h => ?_) (fun cdv A outer s H vs Q E hr h => ?_)
  · obtain ⟨p, rfl, _⟩ := h
    rfl
  · refine ⟨_, (pss_cons (ps_set (i := 1) scAlphabet.nd rfl (.inl rfl) (pe_call DTake.ok (hr.mono (by decide)) (by rfl) DTake.g DTake.F.kp DTake.b .nil pass0 (pa_cons (pv 0) (pa_cons pe_int pa_nil))))
      (pss_cons (ps_if (pt_cmpR op_lt (pv 1) pe_int (nomark _))
      (pss_one (ps_ret (pe_ix ix_list (pe_lst (pa_cons pe_str (pa_cons pe_str (pa_cons pe_str (pa_cons pe_str (pa_cons pe_str pa_nil)))))) (pv 1) (fun _ _ => rfl))))
      pss_nil)
      (pss_cons (ps_if (pt_cmpR op_lt (pv 1) pe_int (nomark _))
      (pss_one (ps_ret pe_str))
      pss_nil)
      (pss_cons (ps_set (i := 2) scAlphabet.nd rfl (.inl rfl) pe_str)
      (pss_one (ps_ret (pe_op op_add_str (pv 2) pe_str))))))), ?_⟩
    obtain ⟨p, rfl, lh, hH, q⟩ := h
    refine ⟨.ref p, rfl, p, 8, rfl, by decide, by decide, lh, hH, fun v H1 v0 v1 h1 b1 => ?_⟩
    refine ⟨.int v, rfl, _, _, rfl, rfl, _, rfl, ite2 (fun e => ?_) (fun e => ?_)⟩
    · have e' : v < 5 := of_decide_eq_true e
      refine ⟨by show 5 ≤ sizeLine; decide, fun o no => ?_⟩
      have k : ∀ {z : Str} {u : HO}, sgB z = true ∧ 0 < z.length ∧ z.length ≤ 100 → Q (.str z) (upd H1 o u) := fun {z u} hz => q z _ hz.1 hz.2.1 hz.2.2 (h1.same (Same.new no)) (b1.and (Same.new no))
      obtain rfl | rfl | rfl | rfl | rfl : v = 0 ∨ v = 1 ∨ v = 2 ∨ v = 3 ∨ v = 4 := by omega
      · exact ⟨_, rfl, o, _, _, _, rfl, rfl, sq_of upd_same, rfl, k ⟨by decide +kernel, by decide +kernel, by decide +kernel⟩⟩
      · exact ⟨_, rfl, o, _, _, _, rfl, rfl, sq_of upd_same, rfl, k ⟨by decide +kernel, by decide +kernel, by decide +kernel⟩⟩
      · exact ⟨_, rfl, o, _, _, _, rfl, rfl, sq_of upd_same, rfl, k ⟨by decide +kernel, by decide +kernel, by decide +kernel⟩⟩
      · exact ⟨_, rfl, o, _, _, _, rfl, rfl, sq_of upd_same, rfl, k ⟨by decide +kernel, by decide +kernel, by decide +kernel⟩⟩
      · exact ⟨_, rfl, o, _, _, _, rfl, rfl, sq_of upd_same, rfl, k ⟨by decide +kernel, by decide +kernel, by decide +kernel⟩⟩
    
    refine ⟨.int v, rfl, _, _, rfl, rfl, _, rfl, ite2 (fun e2 => ?_) (fun e2 => ?_)⟩
    · exact q _ _ (by decide +kernel) (by decide +kernel) (by decide +kernel) h1 b1
    · exact ⟨_, rfl, _, _, rfl, rfl, by decide +kernel, q _ _ (by decide +kernel) (by decide +kernel) (by decide +kernel) h1 b1⟩
abbrev sWord : Stmt := topS 35
theorem scWord : FnScope ["hand", "signs", "least", "most", "many", "k"] ["hand", "signs", "least", "most"] (defScope sWord) := ⟨rfl, rfl, rfl, by decide +kernel, rfl, by decide +kernel, by decide +kernel⟩
theorem ok_Word {f : Addr} {fd : FuncData} (F : Fun K "_law_word" "_law_word" sWord f fd) {fTake : Addr} {fdTake : FuncData} (DTake : Dk P w K mg base "_law_take" sTake ["hand", "many"] 1 spTake fTake fdTake) (T : Glob mg) : FnOk P w K mg base CX0 2 f fd ["hand", "signs", "least", "most"] spWord := by
  refine F.ok scWord (fun vs H Q E h => ?_) (fun cdv A outer s H vs Q E hr h => ?_)
  · obtain ⟨p, z, a, b, rfl, _⟩ := h
    rfl
  · refine ⟨_, (pss_cons (ps_set (i := 4) scWord.nd rfl (.inl rfl) (pe_op op_add (pv 2) (pe_call DTake.ok (hr.mono (by decide)) (by rfl) DTake.g DTake.F.kp DTake.b .nil pass0 (pa_cons (pv 0) (pa_cons (pe_op op_add (pe_op op_sub (pv 3) (pv 2)) pe_int) pa_nil)))))
      (pss_one (ps_ret (pe_join pe_str (pe_lc (own := [("k", 5)]) (g := gName 5) (by rfl) scWord.nd (pi_range1 (by rfl) T.range (pa_cons (pv 4) pa_nil)) (blkOk_by (N := ["hand", "signs", "least", "most", "many", "k"]) (sc := defScope sWord) (by decide +kernel)) (fun _ _ _ _ _ => pg_name (i := 5) scWord.nd rfl (.inl rfl)) (fun _ _ _ _ _ => pts_nil) (fun _ _ _ _ _ => (pe_ix ix_str (pv 1) (pe_call DTake.ok (hr.mono (by decide)) (by rfl) DTake.g DTake.F.kp DTake.b .nil pass0 (pa_cons (pv 0) (pa_cons (pe_callB call_lenZ (by rfl) T.len PySem.boot_len (pa_cons (pv 1) pa_nil)) pa_nil))) (fun _ _ => rfl)))))))), ?_⟩
    obtain ⟨p, z, a, b, rfl, hz, z0, z1, ha, hab, hb, lh, hH, q⟩ := h
    refine ⟨.int a, rfl, .ref p, rfl, .int b, rfl, .int a, rfl, _, _, rfl, rfl, _, _, rfl, rfl, p, b - a + 1, rfl, by omega, by omega, lh, hH, fun v H1 v0 v1 h1 b1 => ?_⟩
    refine ⟨_, _, rfl, rfl, ⟨_, rfl⟩, .int (a + v), rfl, a + v, rfl, by omega, by omega, fun D nD => lc_range (fun i H' => ∃ cs : List Nat, H' D = some (.lst (cs.map fun c => V.str (SX.S [c]))) ∧ cs.length = i ∧ (∀ c ∈ cs, sgC c = true) ∧ Hn p lh H1 H') ⟨[], upd_same, rfl, fun c hc => absurd hc (by simp), (Hn.refl h1).new nD⟩ ?_ ?_⟩
    · rintro i H' hi ⟨cs, hD, hl, hs, hn⟩
      refine ⟨rfl, .str z, rfl, .ref p, rfl, .str z, rfl, z, rfl, len6 z1, p, (z.length : Int), rfl, by omega, by omega, lh, hn.at_, fun u H2 u0 u1 h2 b2 => ?_⟩
      obtain ⟨c, ec, hc⟩ := sg_at hz u0 u1
      have nDp := (h1.ne nD).1
      refine ⟨z, u, c, rfl, rfl, len6 z1, ec, _, b2 _ _ nDp hD, ?_, cs ++ [c], ?_, ?_, ?_, (hn.go h2 b2).at h1 nD⟩
      · rw [List.length_map, hl]
        have h3 : sizeLine = 16777216 := sizeLine_eq
        omega
      · rw [upd_same, List.map_append]
        rfl
      · rw [List.length_append, hl]
        rfl
      · intro d hd
        rcases List.mem_append.mp hd with g | g
        · exact hs d g
        · rw [List.mem_singleton.mp g]
          exact hc
    · rintro H' ⟨cs, hD, hl, hs, hn⟩
      have e1 : (cs.map fun c => V.str (SX.S [c])) = (cs.map fun c => SX.S [c]).map V.str := by rw [List.map_map]; rfl
      have hln : (cs.length : Int) = a + v := by omega
      have hsum : ((cs.map fun c => SX.S [c]).map (·.length)).sum ≤ cs.length := by
        clear hD hl hs e1 hln
        induction cs with
        | nil => exact Nat.le_refl _
        | cons c cs ih =>
          simp only [List.map_cons, List.sum_cons, List.length_cons]
          have : (SX.S [c]).length = 1 := rfl
          omega
      refine ⟨_, D, cs.map (fun c => SX.S [c]), rfl, rfl, .inl (sq_of (e1 ▸ hD)), ?_, ?_⟩
      · rw [List.length_map]
        have : (Str.ofString "").length = 0 := by decide +kernel
        rw [this]
        omega
      · rw [join1]
        have e2 : (SX.S cs).length = cs.length := SX.S_len cs
        exact q _ H' (List.all_eq_true.mpr hs) (by rw [e2]; omega) (by rw [e2]; omega) hn.at_ (b1.trans hn.but)
end
end LawK
set_option maxHeartbeats 4000000
namespace Ev
open PySem PySem.Spec PyProof.Rows L2
theorem bad1 {xs : List V} (h : xs.length > 8) : badOf (some xs) = .int (-1) := if_pos h
theorem bad2 {xs : List V} {i : Nat} {y : V} (h : ¬ xs.length > 8) (hy : xs[i]? = some y) (b : sgV y = false) (g : ∀ (j : Nat) c, j < i → xs[j]? = some c → sgV c = true) : badOf (some xs) = .int (i : Int) := by
  obtain ⟨hi, ey⟩ := List.getElem?_eq_some_iff.mp hy
  have e : xs.findIdx? (fun y => !sgV y) = some i := by
    rw [List.findIdx?_eq_some_iff_getElem]
    refine ⟨hi, by rw [ey, b]; rfl, fun j hj => ?_⟩
    rw [g j xs[j] hj (List.getElem?_eq_getElem (by omega))]
    simp
  show (if xs.length > 8 then V.int (-1) else match xs.findIdx? (fun y => !sgV y) with
    | some k => V.int (k : Int)
    | none => if (xs.map slen).sum > 2000 then V.str (Str.ofString "long") else V.non) = _
  rw [if_neg h, e]
theorem good_none {xs : List V} (g : ∀ c ∈ xs, sgV c = true) : xs.findIdx? (fun y => !sgV y) = none := by
  rw [List.findIdx?_eq_none_iff]
  intro c hc
  rw [g c hc]
  rfl
theorem bad3 {xs : List V} (h : ¬ xs.length > 8) (g : ∀ c ∈ xs, sgV c = true) (s : (xs.map slen).sum > 2000) : badOf (some xs) = .str (Str.ofString "long") := by
  show (if xs.length > 8 then V.int (-1) else match xs.findIdx? (fun y => !sgV y) with
    | some k => V.int (k : Int)
    | none => if (xs.map slen).sum > 2000 then V.str (Str.ofString "long") else V.non) = _
  rw [if_neg h, good_none g]
  exact if_pos s
theorem bad4 {xs : List V} (h : ¬ xs.length > 8) (g : ∀ c ∈ xs, sgV c = true) (s : ¬ (xs.map slen).sum > 2000) : badOf (some xs) = .non := by
  show (if xs.length > 8 then V.int (-1) else match xs.findIdx? (fun y => !sgV y) with
    | some k => V.int (k : Int)
    | none => if (xs.map slen).sum > 2000 then V.str (Str.ofString "long") else V.non) = _
  rw [if_neg h, good_none g]
  exact if_neg s
/-- what is right: at most eight texts of signs -/
theorem bad_non {o : Option (List V)} (h : badOf o = .non) : ∃ xs, o = some xs ∧ xs.length ≤ 8 ∧ (∀ c ∈ xs, sgV c = true) ∧ (xs.map slen).sum ≤ 2000 := by
  cases o with
  | none => cases h
  | some xs =>
    by_cases h1 : xs.length > 8
    · rw [bad1 h1] at h
      cases h
    · cases e : xs.findIdx? (fun y => !sgV y) with
      | some k =>
        have h' : (if xs.length > 8 then V.int (-1) else match xs.findIdx? (fun y => !sgV y) with
          | some k => V.int (k : Int)
          | none => if (xs.map slen).sum > 2000 then V.str (Str.ofString "long") else V.non) = V.non := h
        rw [if_neg h1, e] at h'
        cases h'
      | none =>
        have g : ∀ c ∈ xs, sgV c = true := fun c hc => by
          have := List.findIdx?_eq_none_iff.mp e c hc
          simpa using this
        refine ⟨xs, rfl, by omega, g, ?_⟩
        by_cases s : (xs.map slen).sum > 2000
        · rw [bad3 h1 g s] at h
          cases h
        · omega
theorem sg_str {y : V} (h : sgV y = true) : ∃ z, y = .str z := by
  cases y with
  | str z => exact ⟨z, rfl⟩
  | non => cases h
  | bl b => cases h
  | int i => cases h
  | byt b => cases h
  | flt b => cases h
  | ref a => cases h
  | ty n => cases h
theorem bad_strs {xs : List V} (g : ∀ c ∈ xs, sgV c = true) : ∃ ts : List Str, xs = ts.map V.str ∧ ∀ t ∈ ts, sgB t = true := by
  induction xs with
  | nil => exact ⟨[], rfl, fun t h => absurd h (by simp)⟩
  | cons y xs ih =>
    obtain ⟨z, rfl⟩ := sg_str (g y (by simp))
    obtain ⟨ts, rfl, h⟩ := ih fun c hc => g c (List.mem_cons_of_mem _ hc)
    refine ⟨z :: ts, rfl, fun t ht => ?_⟩
    rcases List.mem_cons.mp ht with e | e
    · rw [e]
      exact g (.str z) (by simp)
    · exact h t e
theorem sum_cast (ns : List Nat) : (ns.map fun n : Nat => (n : Int)).sum = ((ns.sum : Nat) : Int) := by
  induction ns with
  | nil => rfl
  | cons n ns ih =>
    rw [List.map_cons, List.sum_cons, List.sum_cons, ih]
    simp
/-- the lengths of the texts of a tuple -/
theorem lc_lens {K : PySem.W.Frag} {a : Addr} {ts : List Str} {i : Nat} {σ : L2.St} {H1 : Hp} {D : Addr} {Qd : Hp → Prop} (hi : i < σ.length) (ha : H1 a = some (.tup (ts.map V.str))) (nD : H1 D = none) (hlen : ∀ t ∈ ts, t.length ≤ 5000) (hn : ts.length ≤ 1000)
    (hd : ∀ H, H D = some (.lst ((ts.map fun t => (t.length : Int)).map V.int)) → Same H1 H → Qd H) :
    ∃ W : Nat → Nat → Hp → Prop, (∃ m, W 0 m (upd H1 D (.lst []))) ∧ ∀ j m H, W j m H →
      ((Itt K a).stop j H ∧ Qd H) ∨ ((Itt K a).go j H ∧ ∃ Nx : Hp → Prop, (∀ H', Nx H' → ∃ m', m' < m ∧ W (j + 1) m' H') ∧ ∀ x H', (Itt K a).yld j H x H' → gName i x (wipe σ [i]) H' fun σ2 H2 => wipe σ2 [i] = wipe σ [i] ∧ tYes σ2 H2 fun b H3 =>
        if b = true then tCB rLenZ (tCons (tVar i) tNil) σ2 H3 fun y H4 => ∃ acc, H4 D = some (.lst acc) ∧ acc.length < sizeLine ∧ Nx (upd H4 D (.lst (acc ++ [y]))) else Nx H3) := by
  have sAt : ∀ {H' : Hp} {o : HO}, Same H1 H' → Same H1 (upd H' D o) := fun {H' o} k b u e => by
    rw [upd_ne (ne_of_none e nD)]
    exact k b u e
  refine lc_tup (K := K) (xs := ts.map V.str) (fun j H => H D = some (.lst (((ts.take j).map fun t => (t.length : Int)).map V.int)) ∧ Same H1 H) ⟨upd_same, sAt (Same.refl _)⟩ (fun j H _ p => SqT.of (p.2 _ _ ha)) (fun j x H hx p => ?_) (fun H p => ?_)
  · rw [List.getElem?_map] at hx
    cases e : ts[j]? with
    | none => rw [e] at hx; cases hx
    | some t =>
      rw [e] at hx
      obtain rfl : V.str t = x := Option.some.inj hx
      have hm := List.mem_of_getElem? e
      obtain ⟨hD, hs⟩ := p
      have hw : ((wipe σ [i]).set i (some (V.str t)))[i]? = some (some (V.str t)) := by
        rw [List.getElem?_set_self]
        show i < (σ.set i none).length
        rw [List.length_set]
        exact hi
      refine ⟨?_, .str t, hw, t, rfl, len5 (hlen t hm), _, hD, ?_, ?_, sAt hs⟩
      · show ((σ.set i none).set i (some (V.str t))).set i none = σ.set i none
        rw [List.set_set, List.set_set]
      · have h3 : sizeLine = 16777216 := sizeLine_eq
        rw [List.length_map, List.length_map, List.length_take]
        omega
      · rw [upd_same]
        have et : ts.take (j + 1) = ts.take j ++ [t] := by
          rw [List.take_add_one, e]
          rfl
        rw [et, List.map_append, List.map_append]
        rfl
  · obtain ⟨hD, hs⟩ := p
    rw [List.length_map, List.take_length] at hD
    exact hd H hD hs
theorem lens_sum (ts : List Str) : (ts.map fun t => (t.length : Int)).sum = ((((ts.map V.str).map slen).sum : Nat) : Int) := by
  rw [List.map_map, ← sum_cast, List.map_map]
  rfl
end Ev
set_option maxHeartbeats 4000000
/-! Tuples put together and cut, the heap only growing. -/
namespace Ev
open PySem PySem.Spec PyProof.Rows L2
def rCatM : R2 := fun x y H Q => ∃ a b xs ys, x = .ref a ∧ y = .ref b ∧ H a = some (.tup xs) ∧ H b = some (.tup ys) ∧ xs.length + ys.length ≤ 1000 ∧ ∀ p H', Same H H' → H' p = some (.tup (xs ++ ys)) → Q (.ref p) H'
theorem sameNew {H : Hp} {q : Addr} {o : HO} (h : H q = none) : Same H (upd H q o) := fun b u e => by
  rw [upd_ne (ne_of_none e h)]
  exact e
theorem op_catM {X : Cx} : OpR X (binaryOp .Add) rCatM := fun pins s σ H x y v u Q I rx ry h =>
  op_catA pins s σ H x y v u Q I rx ry (by
    obtain ⟨a, b, xs, ys, ex, ey, ha, hb, hz, q⟩ := h
    refine ⟨a, b, xs, ys, ex, ey, SqT.of ha, SqT.of hb, ?_, fun e => ?_, fun _ e => ?_, fun _ _ p np => ?_⟩
    · have h3 : sizeLine = 16777216 := sizeLine_eq
      omega
    · refine q b H (Same.refl H) ?_
      rw [e, List.nil_append]
      exact hb
    · refine q a H (Same.refl H) ?_
      rw [e, List.append_nil]
      exact ha
    · exact q p _ (sameNew np) upd_same)
def rSlM : V → Option Int → Option Int → Hp → VK → Prop := fun x lo hi H Q => ∃ a xs, x = .ref a ∧ H a = some (.tup xs) ∧ ∀ p H', Same H H' → H' p = some (.tup (cutV xs lo hi)) → Q (.ref p) H'
theorem sl_tupM {X : Cx} : SlR X rSlM := fun pins s σ H x v vl vu lo hi sl Q I rx hs pl pu h =>
  sl_tupA pins s σ H x v vl vu lo hi sl Q I rx hs pl pu (by
    obtain ⟨a, xs, ex, ha, q⟩ := h
    refine ⟨a, xs, ex, SqT.of ha, fun e => ?_, fun _ p np => q p _ (sameNew np) upd_same⟩
    refine q a H (Same.refl H) ?_
    have ec : cutV xs lo hi = xs := by
      unfold cutV
      rw [e.1, e.2, List.drop_zero, Nat.sub_zero, List.take_length]
    rw [ec]
    exact ha)
theorem cutV_mem {xs : List V} {lo hi : Option Int} {y : V} (h : y ∈ cutV xs lo hi) : y ∈ xs := List.mem_of_mem_drop (List.mem_of_mem_take h)
/-- the place that is one -/
theorem place_true {ts : List Str} {o : Option (List V)} (h : placeV ts o = true) : ∃ (i j : Int), o = some [.int i, .int j] ∧ 0 ≤ i ∧ i < ts.length ∧ 0 ≤ j ∧ j < ((ts.getD i.toNat Str.empty).length : Int) := by
  unfold placeV at h
  split at h
  · rename_i x y
    obtain ⟨h1, h2⟩ := Bool.and_eq_true_iff.mp h
    cases x with
    | int i =>
      obtain ⟨a1, a2⟩ := Bool.and_eq_true_iff.mp (show (decide (0 ≤ i) && decide (i ≤ (ts.length : Int) - 1)) = true from h1)
      have a1 := of_decide_eq_true a1
      have a2 := of_decide_eq_true a2
      cases y with
      | int j =>
        obtain ⟨b1, b2⟩ := Bool.and_eq_true_iff.mp (show (decide (0 ≤ j) && decide (j ≤ ((ts.getD i.toNat Str.empty).length : Int) - 1)) = true from h2)
        have b1 := of_decide_eq_true b1
        have b2 := of_decide_eq_true b2
        exact ⟨i, j, rfl, a1, by omega, b1, by omega⟩
      | non => cases h2
      | bl b => cases h2
      | str b => cases h2
      | byt b => cases h2
      | flt b => cases h2
      | ref b => cases h2
      | ty b => cases h2
    | non => cases h1
    | bl b => cases h1
    | str b => cases h1
    | byt b => cases h1
    | flt b => cases h1
    | ref b => cases h1
    | ty b => cases h1
  · cases h
theorem text_at {ts : List Str} {i : Int} (h0 : 0 ≤ i) (h1 : i < ts.length) : atI (ts.map V.str) i = some (.str (ts.getD i.toNat Str.empty)) ∧ ts.getD i.toNat Str.empty ∈ ts := by
  have hi : i.toNat < ts.length := by omega
  constructor
  · have e1 : i = ((i.toNat : Nat) : Int) := by omega
    rw [e1]
    refine atI_nat ?_
    rw [List.getElem?_map, List.getD_eq_getElem?_getD, Int.toNat_natCast, List.getElem?_eq_getElem hi]
    rfl
  · rw [List.getD_eq_getElem?_getD, List.getElem?_eq_getElem hi]
    exact List.getElem_mem hi
end Ev
set_option maxHeartbeats 4000000
namespace Ev
open PySem PySem.Spec PyProof.Rows L2
/-- x is True, x is False, x any value of a kind -/
def rIsT : R2 := fun x y H Q => ∃ (b : Bool) (k : Kn), y = .bl b ∧ Kd H x k ∧ Q (.bl (decide (x = .bl b))) H
theorem op_isT {X : Cx} : OpR X (compareOp .Is) rIsT := by
  intro pins s σ H x y v u Q I rx ry h
  obtain ⟨b, k, rfl, hk, q⟩ := h
  cases (show u = Value.bool b from ry)
  cases hk with
  | bl a =>
    refine op_isBl pins s σ H _ (.bl b) v _ Q I rx rfl ⟨a, b, rfl, rfl, ?_⟩
    have e : decide (V.bl a = V.bl b) = decide (a = b) := by
      by_cases z : a = b
      · subst z
        simp
      · rw [decide_eq_false z, decide_eq_false fun w => z (V.bl.inj w)]
    rw [e] at q
    exact q
  | non =>
    cases rx
    exact wpAny_is_other rfl (fun z => by cases z) ⟨.bl false, H, I, rfl, by simpa using q⟩
  | int i =>
    obtain ⟨t, rfl⟩ := rx
    exact wpAny_is_other rfl (fun z => by cases z) ⟨.bl false, H, I, rfl, by simpa using q⟩
  | str i =>
    obtain ⟨t, rfl⟩ := rx
    exact wpAny_is_other rfl (fun z => by cases z) ⟨.bl false, H, I, rfl, by simpa using q⟩
  | lst e =>
    cases rx
    exact wpAny_is_other rfl (fun z => by cases z) ⟨.bl false, H, I, rfl, by simpa using q⟩
  | tup e =>
    cases rx
    exact wpAny_is_other rfl (fun z => by cases z) ⟨.bl false, H, I, rfl, by simpa using q⟩
  | dic e =>
    cases rx
    exact wpAny_is_other rfl (fun z => by cases z) ⟨.bl false, H, I, rfl, by simpa using q⟩
end Ev
set_option maxHeartbeats 4000000
namespace LawK
open PySem PySem.Spec PyProof.Rows L2 Ev
theorem str_ok {ts : List Str} (hts : ∀ t ∈ ts, t.length ≤ 5000) {H : Hp} {y : V} (h : y ∈ ts.map V.str) : (∃ k, Kd H y k) ∧ Vs y := by
  obtain ⟨z, hz, rfl⟩ := List.mem_map.mp h
  refine ⟨⟨_, .str z⟩, fun w e => ?_⟩
  cases e
  exact hts z hz
theorem lit_ok {z : Str} (h : z.length ≤ 5000) {H : Hp} : (∃ k, Kd H (.str z) k) ∧ Vs (.str z) := ⟨⟨_, .str z⟩, fun w e => by
  cases e
  exact h⟩
theorem int_ok {i : Int} {H : Hp} : (∃ k, Kd H (.int i) k) ∧ Vs (.int i) := ⟨⟨_, .int i⟩, fun w e => by cases e⟩
theorem tup_ne {H : Hp} {p l a : Addr} {xs : List V} (h : HandL H p l) (e : H a = some (.tup xs)) : a ≠ p := hand_ne h e fun _ _ _ _ _ z => by cases z
theorem Kd.but {H H' : Hp} {p l : Addr} {x : V} {k : Kn} (h : Kd H x k) (h0 : HandL H p l) (h1 : HandL H' p l) (b : But p H H') : Kd H' x k := by
  cases h with
  | non => exact .non
  | bl b => exact .bl b
  | int i => exact .int i
  | str z => exact .str z
  | @lst a xs e =>
    by_cases z : a = p
    · obtain ⟨cells, i, r, s, m, h2, _⟩ := h1
      rw [z]
      exact .lst h2
    · exact .lst (b _ _ z e)
  | tup e => exact .tup (b _ _ (tup_ne h0 e) e)
  | dic e => exact .dic (b _ _ (hand_ne h0 e fun _ _ _ _ _ z => by cases z) e)
theorem Tg.but {H H' : Hp} {p l : Addr} {x : V} {o : Option (List V)} (h : Tg H x o) (h0 : HandL H p l) (h1 : HandL H' p l) (b : But p H H') : Tg H' x o := by
  cases h with
  | no h n s => exact .no (Kd.but h h0 h1 b) n s
  | tup e n h => exact .tup (b _ _ (tup_ne h0 e) e) n fun y hy => ⟨let ⟨k, q⟩ := (h y hy).1; ⟨k, Kd.but q h0 h1 b⟩, (h y hy).2⟩
/-- what a thing's texts may be -/
def Shr (o : Option (List V)) : Prop := ∀ xs, o = some xs → ∀ z, V.str z ∈ xs → z.length ≤ 2500 ∧ PyData.strOk z = true
/-- what may stand in a tuple -/
structure El (H : Hp) (x : V) : Prop where
  kd : ∃ k, Kd H x k
  vs : Vs x
  sh : ∀ z, x = .str z → z.length ≤ 2500 ∧ PyData.strOk z = true
theorem El.but {H H' : Hp} {p l : Addr} {x : V} (h : El H x) (h0 : HandL H p l) (h1 : HandL H' p l) (b : But p H H') : El H' x := ⟨let ⟨k, q⟩ := h.kd; ⟨k, Kd.but q h0 h1 b⟩, h.vs, h.sh⟩
theorem El.same {H H' : Hp} {x : V} (h : El H x) (k : Same H H') : El H' x := ⟨let ⟨j, q⟩ := h.kd; ⟨j, q.same k⟩, h.vs, h.sh⟩
theorem el_int {H : Hp} (i : Int) : El H (.int i) := ⟨⟨_, .int i⟩, (fun z e => by cases e), (fun z e => by cases e)⟩
theorem el_bl {H : Hp} (i : Bool) : El H (.bl i) := ⟨⟨_, .bl i⟩, (fun z e => by cases e), (fun z e => by cases e)⟩
theorem el_non {H : Hp} : El H .non := ⟨⟨_, .non⟩, (fun z e => by cases e), (fun z e => by cases e)⟩
theorem el_dt {H : Hp} {v : V} {d : PyData} (h : Dt H v d) (s : dsm d = true) : El H v := by
  refine ⟨h.kd, fun z e => ?_, fun z e => ?_⟩
  · subst e
    cases h
    have := of_decide_eq_true (Bool.and_eq_true_iff.mp s).1
    omega
  · subst e
    cases h
    have := of_decide_eq_true (Bool.and_eq_true_iff.mp s).1
    exact ⟨by omega, (Bool.and_eq_true_iff.mp s).2⟩
theorem el_dt0 {H : Hp} {v : V} {d : PyData} (h : Dt H v d) (s : dsm0 d = true) : El H v := by
  refine ⟨h.kd, h.vs s, fun z e => ?_⟩
  subst e
  cases h
  have := of_decide_eq_true (Bool.and_eq_true_iff.mp s).1
  exact ⟨by omega, (Bool.and_eq_true_iff.mp s).2⟩
theorem tg_els {H : Hp} {xs : List V} {q : Addr} (hq : H q = some (.tup xs)) (n : xs.length ≤ 30) (h : ∀ x ∈ xs, El H x) : Tg H (.ref q) (some xs) ∧ Shr (some xs) :=
  ⟨.tup hq n fun y hy => ⟨(h y hy).kd, (h y hy).vs⟩, fun ys e z hz => by cases e; exact (h _ hz).sh z rfl⟩
theorem els_tg {H : Hp} {xs : List V} {q : Addr} (h : Tg H (.ref q) (some xs)) (s : Shr (some xs)) : H q = some (.tup xs) ∧ xs.length ≤ 30 ∧ ∀ x ∈ xs, El H x := by
  cases h with
  | tup e n hy => exact ⟨e, n, fun x hx => ⟨(hy x hx).1, (hy x hx).2, fun z ez => s _ rfl z (by rw [← ez]; exact hx)⟩⟩
theorem dt_tg {H : Hp} {v : V} {d : PyData} (h : Dt H v d) (s : dsm d = true) : ∃ o, Tg H v o ∧ Shr o := by
  cases h with
  | non => exact ⟨_, .no .non (by decide) (fun z e => by cases e), (fun _ e => by cases e)⟩
  | bl b => exact ⟨_, .no (.bl b) (by decide) (fun z e => by cases e), (fun _ e => by cases e)⟩
  | int i => exact ⟨_, .no (.int i) (by decide) (fun z e => by cases e), (fun _ e => by cases e)⟩
  | str x => exact ⟨_, .no (.str x) (by decide) (Dt.vs (.str (H := H) x) s), fun _ e => by cases e⟩
  | dic e => exact ⟨_, .no (.dic e) (by decide) (fun z e => by cases e), (fun _ e => by cases e)⟩
  | l0 e n => exact ⟨_, .no (.lst e) (by decide) (fun z e => by cases e), (fun _ e => by cases e)⟩
  | l1 e n _ => exact ⟨_, .no (.lst e) (by decide) (fun z e => by cases e), (fun _ e => by cases e)⟩
  | l2 e n _ _ => exact ⟨_, .no (.lst e) (by decide) (fun z e => by cases e), (fun _ e => by cases e)⟩
  | t0 e =>
    obtain ⟨g1, g2⟩ := tg_els e (by decide) (fun x hx => absurd hx (by simp))
    exact ⟨_, g1, g2⟩
  | @t1 a x d e hx =>
    obtain ⟨g1, g2⟩ := tg_els e (by simp) (fun y hy => by
      rw [List.mem_singleton.mp hy]
      exact el_dt0 hx (List.all_eq_true.mp s d (by simp)))
    exact ⟨_, g1, g2⟩
  | @t2 a x z d1 d2 e hx hz =>
    obtain ⟨g1, g2⟩ := tg_els e (by simp) (fun y hy => by
      rcases List.mem_cons.mp hy with q | q
      · rw [q]
        exact el_dt0 hx (List.all_eq_true.mp s d1 (by simp))
      · rw [List.mem_singleton.mp q]
        exact el_dt0 hz (List.all_eq_true.mp s d2 (by simp)))
    exact ⟨_, g1, g2⟩
/-- each of the one to each of the other -/
inductive All2 {α β : Type} (R : α → β → Prop) : List α → List β → Prop
  | nil : All2 R [] []
  | cons {x : α} {y : β} {xs : List α} {ys : List β} (h : R x y) (t : All2 R xs ys) : All2 R (x :: xs) (y :: ys)
theorem All2.imp {α β : Type} {R S : α → β → Prop} {xs : List α} {ys : List β} (f : ∀ x y, R x y → S x y) (h : All2 R xs ys) : All2 S xs ys := by
  induction h with
  | nil => exact .nil
  | cons h _ ih => exact .cons (f _ _ h) ih
theorem All2.len {α β : Type} {R : α → β → Prop} {xs : List α} {ys : List β} (h : All2 R xs ys) : xs.length = ys.length := by
  induction h with
  | nil => rfl
  | cons _ _ ih => exact congrArg (· + 1) ih
theorem All2.at {α β : Type} {R : α → β → Prop} {xs : List α} {ys : List β} (h : All2 R xs ys) : ∀ {i : Nat} {x : α}, xs[i]? = some x → ∃ y, ys[i]? = some y ∧ R x y := by
  induction h with
  | nil => intro i x e; simp at e
  | cons r _ ih =>
    intro i x e
    cases i with
    | zero => cases e; exact ⟨_, rfl, r⟩
    | succ i => exact ih e
theorem All2.snoc {α β : Type} {R : α → β → Prop} {xs : List α} {ys : List β} {x : α} {y : β} (h : All2 R xs ys) (r : R x y) : All2 R (xs ++ [x]) (ys ++ [y]) := by
  induction h with
  | nil => exact .cons r .nil
  | cons r1 _ ih => exact .cons r1 ih
theorem sne {a b : Str} (h : a ≠ b) {A B : Prop} (k : B) : if decide (V.str a = V.str b) = true then A else B := by
  rw [decide_eq_false (fun z => h (V.str.inj z))]
  exact iteF k
theorem seq {a : Str} {A B : Prop} (k : A) : if decide (V.str a = V.str a) = true then A else B := by
  rw [decide_eq_true rfl]
  exact iteT k
end LawK
set_option maxHeartbeats 4000000
namespace LawK
/-- the place of the lowest bit of a number, 0 for 0 -/
def low (n : Nat) : Nat := if h : n = 0 then 0 else if n % 2 = 1 then 0 else low (n / 2) + 1
termination_by n
decreasing_by omega
theorem low_odd {n : Nat} (h : n % 2 = 1) : low n = 0 := by
  rw [low, dif_neg (by omega), if_pos h]
theorem low_even {n : Nat} (h0 : n ≠ 0) (h : n % 2 = 0) : low n = low (n / 2) + 1 := by
  rw [low, dif_neg h0, if_neg (by omega)]
theorem and_step (a b : Nat) : a &&& b = 2 * (a / 2 &&& b / 2) + (a % 2) * (b % 2) := by
  have h1 := Nat.and_div_two (a := a) (b := b)
  have h2 : (a &&& b) % 2 = (a % 2) * (b % 2) := by
    rcases Nat.mod_two_eq_zero_or_one a with ha | ha <;> rcases Nat.mod_two_eq_zero_or_one b with hb | hb
    · have : ¬ (a &&& b) % 2 = 1 := fun h => by rw [Nat.and_mod_two_eq_one] at h; omega
      rw [ha, hb]; omega
    · have : ¬ (a &&& b) % 2 = 1 := fun h => by rw [Nat.and_mod_two_eq_one] at h; omega
      rw [ha, hb]; omega
    · have : ¬ (a &&& b) % 2 = 1 := fun h => by rw [Nat.and_mod_two_eq_one] at h; omega
      rw [ha, hb]; omega
    · have : (a &&& b) % 2 = 1 := by rw [Nat.and_mod_two_eq_one]; exact ⟨ha, hb⟩
      rw [ha, hb]; omega
  omega
theorem iso_low (n : Nat) (h : n ≠ 0) : n - (n &&& (n - 1)) = 2 ^ low n := by
  induction n using Nat.strongRecOn with
  | ind n ih =>
    have e := and_step n (n - 1)
    rcases Nat.mod_two_eq_zero_or_one n with hn | hn
    · have h2 : n / 2 ≠ 0 := by omega
      have i := ih (n / 2) (by omega) h2
      have e2 : (n - 1) / 2 = n / 2 - 1 := by omega
      have e3 : (n - 1) % 2 = 1 := by omega
      rw [e2, e3, hn] at e
      rw [low_even h hn, Nat.pow_succ, ← i, e]
      omega
    · have e2 : (n - 1) / 2 = n / 2 := by omega
      have e3 : (n - 1) % 2 = 0 := by omega
      rw [e2, e3, hn, Nat.and_self] at e
      rw [low_odd hn, e]
      omega
/-- the lowest bit in which two numbers are unlike -/
def ubit (a b : Nat) : Nat := low (a ^^^ b)
theorem xor_zero {a b : Nat} (h : a ^^^ b = 0) : a = b := by
  have : a ^^^ (a ^^^ b) = a ^^^ 0 := by rw [h]
  rw [← Nat.xor_assoc, Nat.xor_self, Nat.zero_xor, Nat.xor_zero] at this
  exact this.symm
theorem xor_mod (a b : Nat) : (a ^^^ b) % 2 = (a + b) % 2 := by
  rcases Nat.mod_two_eq_zero_or_one (a ^^^ b) with h | h
  · have : ¬ (a ^^^ b) % 2 = 1 := by omega
    rw [Nat.xor_mod_two_eq_one] at this
    omega
  · have h' := h
    rw [Nat.xor_mod_two_eq_one] at h'
    omega
theorem ubit_ne {a b : Nat} (h : a % 2 ≠ b % 2) : ubit a b = 0 := low_odd (by rw [xor_mod]; omega)
theorem ubit_eq {a b : Nat} (n : a ≠ b) (h : a % 2 = b % 2) : ubit a b = ubit (a / 2) (b / 2) + 1 := by
  unfold ubit
  rw [low_even (fun z => n (xor_zero z)) (by rw [xor_mod]; omega), Nat.xor_div_two]
/-- the bit there -/
theorem ubit_bit : ∀ (a b : Nat), a ≠ b → (a / 2 ^ ubit a b) % 2 ≠ (b / 2 ^ ubit a b) % 2 := fun a => by
  induction a using Nat.strongRecOn with
  | ind a ih =>
    intro b n
    by_cases h : a % 2 = b % 2
    · have n2 : a / 2 ≠ b / 2 := by omega
      rw [ubit_eq n h, Nat.pow_succ, Nat.mul_comm, ← Nat.div_div_eq_div_mul, ← Nat.div_div_eq_div_mul]
      by_cases ha : a = 0
      · subst ha
        have hb : b % 2 = 0 := by omega
        -- by the other side
        have : ∀ b : Nat, b ≠ 0 → (0 / 2 ^ ubit 0 b) % 2 ≠ (b / 2 ^ ubit 0 b) % 2 := fun b => by
          induction b using Nat.strongRecOn with
          | ind b ihb =>
            intro nb
            by_cases h2 : b % 2 = 0
            · rw [ubit_eq (Ne.symm nb) (by omega), Nat.pow_succ, Nat.mul_comm, ← Nat.div_div_eq_div_mul, ← Nat.div_div_eq_div_mul]
              exact ihb (b / 2) (by omega) (by omega)
            · rw [ubit_ne (by omega)]
              simp
              omega
        exact this (b / 2) (by omega)
      · exact ih (a / 2) (by omega) (b / 2) n2
    · rw [ubit_ne h]
      simpa using h
/-- a coin of the next round -/
def nextc (a b : Nat) : Nat := 2 * ubit a b + (b / 2 ^ ubit a b) % 2
def zipN : List Nat → List Nat
  | a :: b :: r => nextc a b :: zipN (b :: r)
  | _ => []
def nextRow : List Nat → List Nat
  | [] => []
  | a :: r => a % 2 :: zipN (a :: r)
def rounds : Nat → List Nat → List Nat
  | 0, r => r
  | n + 1, r => rounds n (nextRow r)
theorem zipN_len : ∀ (r : List Nat), (zipN r).length = r.length - 1
  | [] => rfl
  | [_] => rfl
  | a :: b :: r => by
    show (zipN (b :: r)).length + 1 = _
    rw [zipN_len (b :: r)]
    simp
theorem nextRow_len : ∀ (r : List Nat), (nextRow r).length = r.length
  | [] => rfl
  | a :: r => by
    show (zipN (a :: r)).length + 1 = _
    rw [zipN_len]
    simp
theorem rounds_len : ∀ (n : Nat) (r : List Nat), (rounds n r).length = r.length
  | 0, r => rfl
  | n + 1, r => (rounds_len n (nextRow r)).trans (nextRow_len r)
theorem zipN_get : ∀ (r : List Nat) (i a b : Nat), r[i]? = some a → r[i + 1]? = some b → (zipN r)[i]? = some (nextc a b)
  | [], i, a, b, h, _ => by simp at h
  | [x], 0, a, b, _, h => by simp at h
  | [x], i + 1, a, b, h, _ => by simp at h
  | x :: y :: r, 0, a, b, h1, h2 => by cases h1; cases h2; rfl
  | x :: y :: r, i + 1, a, b, h1, h2 => zipN_get (y :: r) i a b h1 h2
/-- neighbours are unlike -/
def Unl {α : Type} (r : List α) : Prop := ∀ (i : Nat) a b, r[i]? = some a → r[i + 1]? = some b → a ≠ b
theorem nextc_ne {a b c : Nat} (h1 : a ≠ b) (h2 : b ≠ c) : nextc a b ≠ nextc b c := fun h => by
  unfold nextc at h
  have b1 := ubit_bit b c h2
  have e : ubit a b = ubit b c := by omega
  rw [e] at h
  omega
theorem nextRow_unl {r : List Nat} (h : Unl r) : Unl (nextRow r) := by
  cases r with
  | nil => intro i a b h1; simp [nextRow] at h1
  | cons x r =>
    intro i a b h1 h2
    have h2' : (zipN (x :: r))[i]? = some b := h2
    have l2 := (List.getElem?_eq_some_iff.mp h2').1
    rw [zipN_len] at l2
    have li : i + 1 < (x :: r).length := by omega
    have e1 : (x :: r)[i]? = some (x :: r)[i] := List.getElem?_eq_getElem (by omega)
    have e2 : (x :: r)[i + 1]? = some (x :: r)[i + 1] := List.getElem?_eq_getElem li
    rw [zipN_get _ _ _ _ e1 e2] at h2'
    cases h2'
    cases i with
    | zero =>
      cases h1
      have n := h 0 _ _ e1 e2
      have bb := ubit_bit _ _ n
      unfold nextc
      have n' : x ≠ (x :: r)[1] := n
      intro z
      have z' : x % 2 = 2 * ubit x (x :: r)[1] + ((x :: r)[1] / 2 ^ ubit x (x :: r)[1]) % 2 := z
      have bb' : (x / 2 ^ ubit x (x :: r)[1]) % 2 ≠ ((x :: r)[1] / 2 ^ ubit x (x :: r)[1]) % 2 := bb
      have u0 : ubit x (x :: r)[1] = 0 := by omega
      rw [u0] at z' bb'
      simp at z' bb'
      omega
    | succ i =>
      have h1' : (zipN (x :: r))[i]? = some a := h1
      have e0 : (x :: r)[i]? = some (x :: r)[i] := List.getElem?_eq_getElem (by omega)
      rw [zipN_get _ _ _ _ e0 e1] at h1'
      cases h1'
      exact nextc_ne (h i _ _ e0 e1) (h (i + 1) _ _ e1 e2)
theorem rounds_unl : ∀ (n : Nat) (r : List Nat), Unl r → Unl (rounds n r)
  | 0, r, h => h
  | n + 1, r, h => rounds_unl n (nextRow r) (nextRow_unl h)
theorem ubit_lt : ∀ (k a b : Nat), a ≠ b → a < 2 ^ k → b < 2 ^ k → ubit a b < k
  | 0, a, b, n, ha, hb => by
    have : (2 : Nat) ^ 0 = 1 := rfl
    omega
  | k + 1, a, b, n, ha, hb => by
    have e : (2 : Nat) ^ (k + 1) = 2 ^ k * 2 := Nat.pow_succ ..
    by_cases h : a % 2 = b % 2
    · rw [ubit_eq n h]
      have := ubit_lt k (a / 2) (b / 2) (by omega) (by omega) (by omega)
      omega
    · rw [ubit_ne h]
      omega
/-- each coin below 2 to the k: the next ones below twice k -/
theorem nextRow_lt {k : Nat} (hk : 1 ≤ k) {r : List Nat} (h : Unl r) (hl : ∀ x ∈ r, x < 2 ^ k) : ∀ x ∈ nextRow r, x < 2 * k := by
  intro x hx
  cases r with
  | nil => simp [nextRow] at hx
  | cons y r =>
    rcases List.mem_cons.mp hx with e | e
    · rw [e]
      omega
    · obtain ⟨i, hi⟩ := List.getElem?_of_mem e
      have l2 := (List.getElem?_eq_some_iff.mp hi).1
      rw [zipN_len] at l2
      have e1 : (y :: r)[i]? = some (y :: r)[i] := List.getElem?_eq_getElem (by omega)
      have e2 : (y :: r)[i + 1]? = some (y :: r)[i + 1] := List.getElem?_eq_getElem (by omega)
      rw [zipN_get _ _ _ _ e1 e2] at hi
      cases hi
      have := ubit_lt k _ _ (h i _ _ e1 e2) (hl _ (List.mem_of_getElem? e1)) (hl _ (List.mem_of_getElem? e2))
      unfold nextc
      omega
/-- behind five rounds below six -/
theorem rounds_six {r : List Nat} (h : Unl r) (hl : ∀ x ∈ r, x < 2 ^ 14000) : ∀ x ∈ rounds 5 r, x < 6 := by
  have h1 := nextRow_lt (k := 14000) (by decide) h hl
  have u1 := nextRow_unl h
  have h2 := nextRow_lt (k := 15) (by decide) u1 fun x hx => by
    have := h1 x hx
    have e : (2 : Nat) ^ 15 = 32768 := by decide
    omega
  have u2 := nextRow_unl u1
  have h3 := nextRow_lt (k := 5) (by decide) u2 fun x hx => by
    have := h2 x hx
    have e : (2 : Nat) ^ 5 = 32 := by decide
    omega
  have u3 := nextRow_unl u2
  have h4 := nextRow_lt (k := 4) (by decide) u3 fun x hx => by
    have := h3 x hx
    have e : (2 : Nat) ^ 4 = 16 := by decide
    omega
  have u4 := nextRow_unl u3
  have h5 := nextRow_lt (k := 3) (by decide) u4 fun x hx => by
    have := h4 x hx
    have e : (2 : Nat) ^ 3 = 8 := by decide
    omega
  intro x hx
  exact h5 x hx
/-- the number of a name: its signs as figures -/
def numL (cs : List Nat) : Nat := cs.foldl (fun n c => n * 128 + c) 0
theorem numL_snoc (cs : List Nat) (c : Nat) : numL (cs ++ [c]) = numL cs * 128 + c := by
  unfold numL
  rw [List.foldl_append]
  rfl
theorem numL_inj : ∀ (n : Nat) (a b : List Nat), a.length ≤ n → (∀ c ∈ a, 0 < c ∧ c < 128) → (∀ c ∈ b, 0 < c ∧ c < 128) → numL a = numL b → a = b := fun n => by
  induction n with
  | zero =>
    intro a b hl ha hb h
    have : a = [] := List.eq_nil_of_length_eq_zero (by omega)
    subst this
    rcases List.eq_nil_or_concat b with e | ⟨b', c, e⟩
    · exact e.symm
    · subst e
      rw [List.concat_eq_append] at h hb
      rw [numL_snoc] at h
      have h0 : numL [] = 0 := rfl
      have := hb c (by simp)
      omega
  | succ n ih =>
    intro a b hl ha hb h
    rcases List.eq_nil_or_concat a with ea | ⟨a', x, ea⟩
    · subst ea
      rcases List.eq_nil_or_concat b with e | ⟨b', c, e⟩
      · exact e.symm
      · subst e
        rw [List.concat_eq_append] at h hb
        rw [numL_snoc] at h
        have h0 : numL [] = 0 := rfl
        have := hb c (by simp)
        omega
    · subst ea
      rcases List.eq_nil_or_concat b with e | ⟨b', c, e⟩
      · subst e
        rw [List.concat_eq_append] at h ha
        rw [numL_snoc] at h
        have h0 : numL [] = 0 := rfl
        have := ha x (by simp)
        omega
      · subst e
        rw [List.concat_eq_append, List.concat_eq_append] at h
        rw [List.concat_eq_append] at ha hb hl
        rw [List.concat_eq_append]
        rw [numL_snoc, numL_snoc] at h
        have h1 := ha x (by simp)
        have h2 := hb c (by simp)
        rw [List.length_append] at hl
        have e1 : numL a' = numL b' := by omega
        have e2 : x = c := by omega
        have := ih a' b' (by have : [x].length = 1 := rfl
                             omega) (fun y hy => ha y (by simp [hy])) (fun y hy => hb y (by simp [hy])) e1
        rw [this, e2, List.concat_eq_append]
theorem numL_lt' : ∀ (n : Nat) (cs : List Nat), cs.length = n → (∀ c ∈ cs, c < 128) → numL cs < 2 ^ (7 * n) := fun n => by
  induction n with
  | zero =>
    intro cs hl _
    rw [List.eq_nil_of_length_eq_zero hl]
    decide
  | succ n ih =>
    intro cs hl h
    rcases List.eq_nil_or_concat cs with e | ⟨b, c, e⟩
    · subst e
      simp at hl
    · subst e
      rw [List.concat_eq_append] at hl h ⊢
      rw [List.length_append] at hl
      have lb : b.length = n := by have : [c].length = 1 := rfl
                                   omega
      have h1 := ih b lb fun x hx => h x (by simp [hx])
      have h2 := h c (by simp)
      have e : (2 : Nat) ^ (7 * (n + 1)) = 2 ^ (7 * n) * 128 := by
        rw [Nat.mul_add, Nat.pow_add]
      rw [numL_snoc, e]
      have : (numL b + 1) * 128 ≤ 2 ^ (7 * n) * 128 := Nat.mul_le_mul_right _ h1
      omega
theorem numL_lt {cs : List Nat} (h : ∀ c ∈ cs, c < 128) : numL cs < 2 ^ (7 * cs.length) := numL_lt' _ cs rfl h
end LawK
set_option maxHeartbeats 4000000
/-! Slices by natural bounds. -/
namespace Ev
open PySem PySem.Spec PyProof.Rows L2
theorem sIx_int {n d : Nat} {i : Int} (h : 0 ≤ i) : HT.sIx n d (some i) = min i.toNat n := by
  show (if i < 0 then (i + (n : Int)).toNat else min i.toNat n) = _
  rw [if_neg (by omega)]
theorem cutV_to {xs : List V} {i : Int} (h : 0 ≤ i) : cutV xs none (some i) = xs.take i.toNat := by
  unfold cutV
  rw [sIx_int h]
  show (xs.drop 0).take (min i.toNat xs.length - 0) = _
  rw [List.drop_zero, Nat.sub_zero, ← List.take_eq_take_min]
theorem cutV_from {xs : List V} {i : Int} (h : 0 ≤ i) : cutV xs (some i) none = xs.drop i.toNat := by
  unfold cutV
  rw [sIx_int h]
  show (xs.drop (min i.toNat xs.length)).take (xs.length - min i.toNat xs.length) = _
  rw [List.take_of_length_le (by rw [List.length_drop]; exact Nat.le_refl _)]
  by_cases g : i.toNat ≤ xs.length
  · rw [Nat.min_eq_left g]
  · rw [Nat.min_eq_right (by omega), List.drop_length, List.drop_of_length_le (by omega)]
theorem cutV_set {xs : List V} {i : Int} {z : V} (h : 0 ≤ i) (h2 : i < xs.length) : cutV xs none (some i) ++ [z] ++ cutV xs (some (i + 1)) none = xs.set i.toNat z := by
  rw [cutV_to h, cutV_from (by omega)]
  have e : (i + 1).toNat = i.toNat + 1 := by omega
  rw [e, List.set_eq_take_append_cons_drop, if_pos (by omega)]
  simp
theorem cutS_to {z : Str} {i : Int} (h : 0 ≤ i) : (cutS z none (some i)).cps.toList = z.cps.toList.take i.toNat := by
  have e : (cutS z none (some i)).cps.toList = (z.cps.toList.drop 0).take (HT.sIx z.length z.length (some i) - 0) := by simp [cutS, HT.sIx]
  rw [e, sIx_int h, List.drop_zero, Nat.sub_zero, len_S, ← List.take_eq_take_min]
theorem cutS_from {z : Str} {i : Int} (h : 0 ≤ i) : (cutS z (some i) none).cps.toList = z.cps.toList.drop i.toNat := by
  have e : (cutS z (some i) none).cps.toList = (z.cps.toList.drop (HT.sIx z.length 0 (some i))).take (z.length - HT.sIx z.length 0 (some i)) := by simp [cutS, HT.sIx]
  rw [e, sIx_int h, len_S]
  rw [List.take_of_length_le (by rw [List.length_drop]; exact Nat.le_refl _)]
  by_cases g : i.toNat ≤ z.cps.toList.length
  · rw [Nat.min_eq_left g]
  · rw [Nat.min_eq_right (by omega), List.drop_length, List.drop_of_length_le (by omega)]
theorem cutS_of {z : Str} {i j : Int} (h : 0 ≤ i) (h2 : i ≤ j) : (cutS z (some i) (some j)).cps.toList = (z.cps.toList.drop i.toNat).take (j - i).toNat := by
  have e : (cutS z (some i) (some j)).cps.toList = (z.cps.toList.drop (HT.sIx z.length 0 (some i))).take (HT.sIx z.length z.length (some j) - HT.sIx z.length 0 (some i)) := by simp [cutS]
  rw [e, sIx_int h, sIx_int (by omega), len_S]
  apply List.ext_getElem?
  intro k
  rw [List.getElem?_take, List.getElem?_take, List.getElem?_drop, List.getElem?_drop]
  by_cases g : i.toNat ≤ z.cps.toList.length
  · rw [Nat.min_eq_left g]
    by_cases a : k < (j - i).toNat
    · rw [if_pos a]
      by_cases b : k < min j.toNat z.cps.toList.length - i.toNat
      · rw [if_pos b]
      · rw [if_neg b]
        exact (List.getElem?_eq_none (by omega)).symm
    · rw [if_neg a, if_neg (by omega)]
  · rw [List.getElem?_eq_none (show z.cps.toList.length ≤ i.toNat + k by omega), if_neg (by omega)]
    split <;> rfl
end Ev
set_option maxHeartbeats 4000000
namespace LawK
open PySem PySem.Spec PyProof.Rows L2 Ev
def iN (n : Nat) : V := .int (n : Int)
def numZ (z : Str) : Nat := numL z.cps.toList
theorem iso_bit {u : Nat} (h : u ≠ 0) : Builtin.bitAnd (u : Int) (-(u : Int)) = ((2 ^ low u : Nat) : Int) := by
  have e := iso_low u h
  have h1 : decide ((0 : Int) ≤ (u : Int)) = true := decide_eq_true (by omega)
  have h2 : decide ((0 : Int) ≤ -(u : Int)) = false := decide_eq_false (by omega)
  have h3 : (Builtin.bitNot (-(u : Int))).toNat = u - 1 := by
    unfold Builtin.bitNot
    omega
  unfold Builtin.bitAnd
  rw [h1, h2]
  dsimp only
  rw [h3, Int.toNat_natCast]
  have hle : u &&& (u - 1) ≤ u := Nat.and_le_left
  omega
theorem bits_pow (p : Nat) : Builtin.Int.intBits ((2 ^ p : Nat) : Int) = p + 1 := by
  have hp : 0 < 2 ^ p := Nat.two_pow_pos p
  have h0 : ¬ (((2 ^ p : Nat) : Int) == 0) = true := by
    intro z
    have := eq_of_beq z
    omega
  unfold Builtin.Int.intBits
  rw [if_neg h0, Int.natAbs_natCast, Nat.log2_two_pow]
def spNumber : Sp := fun vs H Q _ => ∃ (z : Str), vs = [.str z] ∧ Q (.int (numZ z : Nat)) H
/-- a row of coins, neighbours unlike -/
structure Row (r : List Nat) : Prop where
  ne : r ≠ []
  unl : Unl r
  few : r.length ≤ 3000
def spNext : Sp := fun vs H Q _ => ∃ (a : Addr) (r : List Nat), vs = [.ref a] ∧ H a = some (.lst (r.map iN)) ∧ Row r ∧ ∀ l H', H l = none → H' l = some (.lst ((nextRow r).map iN)) → Same H H' → Q (.ref l) H'
theorem Row.next {r : List Nat} (h : Row r) : Row (nextRow r) := ⟨fun e => by
  have := nextRow_len r
  rw [e] at this
  exact h.ne (List.eq_nil_of_length_eq_zero this.symm), nextRow_unl h.unl, by rw [nextRow_len]; exact h.few⟩
theorem rounds_row : ∀ (n : Nat) {r : List Nat}, Row r → Row (rounds n r)
  | 0, r, h => h
  | n + 1, r, h => rounds_row n h.next
theorem rounds_succ : ∀ (n : Nat) (r : List Nat), rounds (n + 1) r = nextRow (rounds n r)
  | 0, r => rfl
  | n + 1, r => rounds_succ n (nextRow r)
/-- names: words -/
structure Nms (ns : List Str) : Prop where
  few : ns.length ≤ 3000
  word : ∀ z ∈ ns, sgB z = true ∧ 0 < z.length ∧ z.length ≤ 2500
theorem numZ_inj {a b : Str} (ha : sgB a = true) (hb : sgB b = true) (h : numZ a = numZ b) : a = b := by
  have sg : ∀ {z : Str}, sgB z = true → ∀ c ∈ z.cps.toList, 0 < c ∧ c < 128 := fun {z} hz c hc => by
    have := sgB_mem hz hc
    unfold sgC at this
    obtain ⟨h1, h2⟩ := Bool.and_eq_true_iff.mp this
    have := of_decide_eq_true h1
    have := of_decide_eq_true h2
    omega
  have e := numL_inj _ _ _ (Nat.le_refl _) (sg ha) (sg hb) h
  cases a
  cases b
  exact congrArg _ (Array.toList_inj.mp e)
theorem nums_unl {ns : List Str} (h : Nms ns) (u : Unl ns) : Unl (ns.map numZ) := fun i a b h1 h2 => by
  rw [List.getElem?_map] at h1 h2
  obtain ⟨x, hx, rfl⟩ := Option.map_eq_some_iff.mp h1
  obtain ⟨y, hy, rfl⟩ := Option.map_eq_some_iff.mp h2
  exact fun e => u i x y hx hy (numZ_inj (h.word x (List.mem_of_getElem? hx)).1 (h.word y (List.mem_of_getElem? hy)).1 e)
def coinsN (ns : List Str) : List Nat := rounds 5 (ns.map numZ)
theorem coins_len (ns : List Str) : (coinsN ns).length = ns.length := by
  unfold coinsN
  rw [rounds_len, List.length_map]
def spCoins : Sp := fun vs H Q _ => ∃ (a : Addr) (ns : List Str), vs = [.ref a] ∧ H a = some (.tup (ns.map V.str)) ∧ Nms ns ∧ ns ≠ [] ∧ Unl ns ∧ ∀ l H', H l = none → H' l = some (.lst ((coinsN ns).map iN)) → Same H H' → Q (.ref l) H'
section
variable {P : Program} {w : World} {K : PySem.W.Frag} {mg : Str → Option Value} {base : Heap}
abbrev sQNumber : Stmt := topS 14
theorem scQNumber : FnScope ["name", "number", "sign"] ["name"] (defScope sQNumber) := ⟨rfl, rfl, rfl, by decide +kernel, rfl, by decide +kernel, by decide +kernel⟩
theorem ok_QNumber {f : Addr} {fd : FuncData} (F : Fun K "_number" "_number" sQNumber f fd) {tB : Tok} (gB : mg "BASE" = some (.int 128 tB))  (T : Glob mg) : FnOk P w K mg base CX0 1 f fd ["name"] spNumber := by
  refine F.ok scQNumber (fun vs H Q E h => ?_) (fun cdv A outer s H vs Q E hr h => ?_)
  · obtain ⟨z, rfl, _⟩ := h
    rfl
  · refine ⟨_, (pss_cons (ps_set (i := 1) scQNumber.nd rfl (.inl rfl) pe_int)
      (pss_cons (ps_for PassesOwn.never rfl (pi_str (pv 0)) (pg_name (i := 2) scQNumber.nd rfl (.inl rfl))
      (pss_one (ps_set (i := 1) scQNumber.nd rfl (.inl rfl) (pe_op op_add (pe_op op_mul (pv 1) (pe_glob (v := .int 128) (by rfl) gB ⟨_, rfl⟩)) (pe_callB call_ord (by rfl) T.ord (by decide +kernel) (pa_cons (pv 2) pa_nil))))))
      (pss_one (ps_ret (pv 1))))), ?_⟩
    obtain ⟨z, rfl, q⟩ := h
    refine ⟨.str z, rfl, z, rfl, for_it (walk_str (z := z)) (fun i σ H' => ∃ y, σ = [some (.str z), some (.int ((numL (z.cps.toList.take i) : Nat) : Int)), y] ∧ H' = H) ⟨none, rfl, rfl⟩ (fun _ _ _ _ _ => trivial) ?_ ?_⟩
    · rintro i v σ H' H'' hi ⟨y, rfl, rfl⟩ ⟨rfl, c, hc, rfl⟩
      refine ⟨_, rfl, _, _, rfl, rfl, .inr ⟨by decide, by decide⟩, .str ⟨#[c]⟩, rfl, ⟨#[c]⟩, rfl, rfl, _, _, rfl, rfl, ⟨some (.str ⟨#[c]⟩), ?_, rfl⟩⟩
      have e : z.cps.toList.take (i + 1) = z.cps.toList.take i ++ [c] := by
        rw [List.take_succ]
        have : z.cps.toList[i]? = some c := by simpa using hc
        rw [this]
        rfl
      rw [e, numL_snoc]
      rfl
    · rintro σ H' ⟨y, rfl, rfl⟩
      have e : z.cps.toList.take z.cps.size = z.cps.toList := by
        rw [← Array.length_toList]
        exact List.take_length
      rw [e]
      exact ⟨_, rfl, q⟩
abbrev sQNextCoins : Stmt := topS 15
theorem scQNextCoins : FnScope ["row", "found", "ahead", "coin", "unlike", "place"] ["row"] (defScope sQNextCoins) := ⟨rfl, rfl, rfl, by decide +kernel, rfl, by decide +kernel, by decide +kernel⟩
theorem ok_QNextCoins {f : Addr} {fd : FuncData} (F : Fun K "_next_coins" "_next_coins" sQNextCoins f fd)   (T : Glob mg) : FnOk P w K mg base CX0 1 f fd ["row"] spNext := by
  refine F.ok scQNextCoins (fun vs H Q E h => ?_) (fun cdv A outer s H vs Q E hr h => ?_)
  · obtain ⟨a, r, rfl, _⟩ := h
    rfl
  · refine ⟨_, (pss_cons (ps_set (i := 1) scQNextCoins.nd rfl (.inl rfl) (pe_lst (pa_cons (pe_op op_mod (pe_ix ix_list (pv 0) pe_int (fun _ _ => rfl)) pe_int) pa_nil)))
      (pss_cons (ps_for PassesOwn.never rfl (RZ.pi_zipA (by rfl) T.zip (pa_cons (pv 0) (pa_cons (pe_slice sl_list (pv 0) (po_some pe_int) po_none) pa_nil))) (pg_tup (by rfl) (pgs_cons (pg_name (i := 2) scQNextCoins.nd rfl (.inl rfl)) (pgs_cons (pg_name (i := 3) scQNextCoins.nd rfl (.inl rfl)) pgs_nil)))
      (pss_cons (ps_set (i := 4) scQNextCoins.nd rfl (.inl rfl) (pe_op op_xor (pv 2) (pv 3)))
        (pss_cons (ps_set (i := 5) scQNextCoins.nd rfl (.inl rfl) (pe_op op_sub (pe_bits (pe_op op_and (pv 4) (pe_un un_neg (pv 4)))) pe_int))
        (pss_one (ps_expr (pe_bm PySem.F.plainAttrs_list PySem.F.slot_list_append PySem.F.type_list_append mt_append (pv 1) (pa_cons (pe_op op_add (pe_op op_mul pe_int (pv 5)) (pe_op op_mod (pe_op op_shr (pv 3) (pv 5)) pe_int)) pa_nil)))))))
      (pss_one (ps_ret (pv 1))))), ?_⟩
    obtain ⟨a, r, rfl, ha, hr, q⟩ := h
    have few := hr.few
    have s1 : (1 : Nat) ≤ sizeLine := by decide
    cases r with
    | nil => exact absurd rfl hr.ne
    | cons x r =>
    refine ⟨.ref a, rfl, a, _, 0, .int (x : Int), rfl, rfl, sq_of ha, atI_nat (j := 0) rfl, _, _, rfl, rfl, by show (0 : Int) < 2; decide, s1, fun D nD => ?_⟩
    have kD := Same.new (o := .lst [.int ((x : Int) % 2)]) nD
    have hD : upd H D (.lst [.int ((x : Int) % 2)]) D = some (.lst (([x % 2] : List Nat).map iN)) := by
      rw [upd_same]
      rfl
    revert kD hD
    generalize upd H D (.lst [.int ((x : Int) % 2)]) = H1
    intro kD hD
    refine ⟨.ref a, rfl, .ref a, rfl, 1, rfl, a, _, rfl, sq_of (kD _ _ ha), fun b nb => ?_⟩
    rw [cutV_from (by decide)]
    have kb := Same.new (o := .lst ((((x :: r).map iN)).drop (1 : Int).toNat)) nb
    have hb2 : upd H1 b (.lst ((((x :: r).map iN)).drop (1 : Int).toNat)) b = some (.lst (r.map iN)) := upd_same
    have hD2 := kb _ _ hD
    have ha2 := kb _ _ (kD _ _ ha)
    have nDb : D ≠ b := fun z => by rw [z, nb] at hD; cases hD
    have naD : a ≠ D := fun z => by rw [z, nD] at ha; cases ha
    have k12 := kD.trans kb
    revert kb hb2 hD2 ha2 k12
    generalize upd H1 b (.lst ((((x :: r).map iN)).drop (1 : Int).toNat)) = H2
    intro kb hb2 hD2 ha2 k12
    have lr : r.length + 1 ≤ 3000 := few
    refine ⟨a, b, _, _, rfl, .inl ⟨sq_of ha2, sq_of hb2, for_it (walk_zip (K := K) (a := a) (b := b) (xs := (x :: r).map iN) (ys := r.map iN) (n := r.length) (by rw [List.length_map, List.length_map]; exact (Nat.min_eq_right (Nat.le_succ _)).symm)) (fun i σ H' => ∃ (u2 u3 u4 u5 : Option V), σ = [some (.ref a), some (.ref D), u2, u3, u4, u5] ∧ (∀ c u, c ≠ D → H2 c = some u → H' c = some u) ∧ H' D = some (.lst ((x % 2 :: (zipN (x :: r)).take i).map iN))) ⟨none, none, none, none, rfl, fun c u _ e => e, hD2⟩ (fun i σ H' _ pv => by obtain ⟨u2, u3, u4, u5, _, k, _⟩ := pv; exact ⟨sq_of (k _ _ naD ha2), sq_of (k _ _ (Ne.symm nDb) hb2)⟩) ?_ ?_⟩⟩
    · rintro i v σ H3 H3' hi ⟨u2, u3, u4, u5, rfl, k3, hD3⟩ ⟨t, y1, y2, rfl, nt, rfl, e1, e2⟩
      have e1 : ((x :: r).map iN)[i]? = some y1 := e1
      have e2 : (r.map iN)[i]? = some y2 := e2
      rw [List.getElem?_map] at e1 e2
      obtain ⟨m1, hm1, rfl⟩ := Option.map_eq_some_iff.mp e1
      obtain ⟨m2, hm2, rfl⟩ := Option.map_eq_some_iff.mp e2
      have hm2' : (x :: r)[i + 1]? = some m2 := hm2
      have hne := hr.unl i m1 m2 hm1 hm2'
      have kt := Same.new (o := .tup [iN m1, iN m2]) nt
      have hD4 := kt _ _ hD3
      refine ⟨t, [iN m1, iN m2], rfl, SqT.of upd_same, rfl, iN m1, [iN m2], rfl, iN m2, [], rfl, rfl, ?_⟩
      have hx : Builtin.bitXor (m1 : Int) (m2 : Int) = ((m1 ^^^ m2 : Nat) : Int) := by
        rw [Bits.bitXor_pp (by omega) (by omega), Int.toNat_natCast, Int.toNat_natCast]
      have hu : m1 ^^^ m2 ≠ 0 := fun z => hne (xor_zero z)
      refine ⟨iN m1, rfl, iN m2, rfl, _, _, rfl, rfl, ?_⟩
      dsimp only
      rw [hx]
      refine ⟨_, rfl, _, rfl, _, rfl, _, _, rfl, rfl, _, rfl, ?_⟩
      dsimp only
      rw [iso_bit hu, bits_pow]
      refine ⟨_, _, rfl, rfl, ?_⟩
      have e3 : (((low (m1 ^^^ m2) + 1 : Nat) : Int) - 1) = ((low (m1 ^^^ m2) : Nat) : Int) := by omega
      dsimp only
      rw [e3]
      have lz := zipN_len (x :: r)
      refine ⟨.ref D, rfl, .inl ⟨rfl, _, sq_of hD4⟩, _, rfl, _, _, rfl, rfl, .inl ⟨by decide, by decide⟩, iN m2, rfl, _, rfl, _, _, rfl, rfl, Int.natCast_nonneg _, _, _, rfl, rfl, by show (0 : Int) < 2; decide, _, _, rfl, rfl, D, _, _, rfl, rfl, hD4, by rw [List.length_map, List.length_cons, List.length_take]; show _ < 16777216; omega, ?_⟩
      have e4 : (2 : Int) * ((low (m1 ^^^ m2) : Nat) : Int) + ((m2 : Int) / 2 ^ ((low (m1 ^^^ m2) : Nat) : Int).toNat) % 2 = ((nextc m1 m2 : Nat) : Int) := by
        unfold nextc ubit
        rw [Int.toNat_natCast]
        simp
      refine ⟨_, _, _, _, rfl, fun c u nc hc => ?_, ?_⟩
      · rw [upd_ne nc]
        exact kt _ _ (k3 _ _ nc hc)
      · rw [upd_same]
        dsimp only
        rw [e4]
        have hz := zipN_get (x :: r) i m1 m2 hm1 hm2'
        rw [List.take_succ, hz]
        simp [iN]
    · rintro σ H3 ⟨u2, u3, u4, u5, rfl, k3, hD3⟩
      have e : (zipN (x :: r)).take r.length = zipN (x :: r) := List.take_of_length_le (by rw [zipN_len]; exact Nat.le_refl _)
      rw [e] at hD3
      have nDH : H D = none := nD
      refine ⟨_, rfl, q D H3 nDH hD3 fun c u hc => k3 _ _ (fun z => ?_) (k12 _ _ hc)⟩
      rw [z, nD] at hc
      cases hc
end
end LawK
set_option maxHeartbeats 4000000
namespace LawK
open PySem PySem.Spec PyProof.Rows L2 Ev

/-- a peak of a row -/
def pkB (row : List Nat) (p : Nat) : Bool := decide (row.getD (p - 1) 0 < row.getD p 0) && decide (row.getD (p + 1) 0 < row.getD p 0)
def peaksN (ns : List Str) : List Nat := ((List.range (ns.length - 2)).map (· + 1)).filter (pkB (coinsN ns))
def spPeaks : Sp := fun vs H Q _ => ∃ (a : Addr) (ns : List Str), vs = [.ref a] ∧ H a = some (.tup (ns.map V.str)) ∧ Nms ns ∧ ns ≠ [] ∧ Unl ns ∧ ∀ l H', H l = none → H' l = some (.lst ((peaksN ns).map iN)) → Same H H' → Q (.ref l) H'
/-- a thing; some xs: a tuple of xs -/
inductive Tn (H : Hp) : V → Option (List V) → Prop
  | no {x : V} {k : Kn} (h : Kd H x k) (n : k ≠ .tup) (s : Vs x) : Tn H x none
  | tup {a : Addr} {xs : List V} (e : H a = some (.tup xs)) (n : xs.length ≤ 3000) (h : ∀ y ∈ xs, (∃ k, Kd H y k) ∧ Vs y) : Tn H (.ref a) (some xs)
theorem Tn.same {H H' : Hp} (s : ∀ b o, H b = some o → H' b = some o) {x : V} {o : Option (List V)} (h : Tn H x o) : Tn H' x o := by
  cases h with
  | no h n z => exact .no (h.same s) n z
  | tup e n h => exact .tup (s _ _ e) n fun y hy => ⟨let ⟨k, q⟩ := (h y hy).1; ⟨k, q.same s⟩, (h y hy).2⟩
def namesO : Option (List V) → Bool
  | some xs => decide (0 < xs.length) && xs.all wordV
  | none => false
def spIsNames : Sp := fun vs H Q _ => ∃ (x : V) (o : Option (List V)), vs = [x] ∧ Tn H x o ∧ ∀ H', Same H H' → Q (.bl (namesO o)) H'
theorem kit_no {K : PySem.W.Frag} {k : Kn} (n : k ≠ .tup) : PySem.W.kitOne K (.type k.name) (.type "tuple") = some false := by
  have e : kitB k .tup = false := by cases k <;> first | rfl | exact absurd rfl n
  have z := kit_kn (K := K) k .tup
  rw [e] at z
  exact z
theorem iN_at {r : List Nat} {j : Nat} (h : j < r.length) : atI (r.map iN) (j : Int) = some (iN (r.getD j 0)) := by
  rw [atI_nat]
  rw [List.getElem?_map, List.getElem?_eq_getElem h]
  simp [List.getD, List.getElem?_eq_getElem h]
theorem take_succ' {α : Type} {l : List α} {i : Nat} {x : α} (h : l[i]? = some x) : l.take (i + 1) = l.take i ++ [x] := by
  rw [List.take_succ, h]
  rfl
section
variable {P : Program} {w : World} {K : PySem.W.Frag} {mg : Str → Option Value} {base : Heap}
abbrev sQCoins : Stmt := topS 16
theorem scQCoins : FnScope ["names", "row", "_", "name"] ["names"] (defScope sQCoins) := ⟨rfl, rfl, rfl, by decide +kernel, rfl, by decide +kernel, by decide +kernel⟩
theorem ok_QCoins {f : Addr} {fd : FuncData} (F : Fun K "_coins" "_coins" sQCoins f fd) {tR : Tok} (gR : mg "ROUNDS" = some (.int 5 tR)) {fQNumber : Addr} {fdQNumber : FuncData} (DQNumber : Dk P w K mg base "_number" sQNumber ["name"] 1 spNumber fQNumber fdQNumber) {fQNextCoins : Addr} {fdQNextCoins : FuncData} (DQNextCoins : Dk P w K mg base "_next_coins" sQNextCoins ["row"] 1 spNext fQNextCoins fdQNextCoins) (T : Glob mg) : FnOk P w K mg base CX0 2 f fd ["names"] spCoins := by
  refine F.ok scQCoins (fun vs H Q E h => ?_) (fun cdv A outer s H vs Q E hr h => ?_)
  · obtain ⟨a, ns, rfl, _⟩ := h
    rfl
  · refine ⟨_, (pss_cons (ps_setLc (i := 1) (own := [("name", 3)]) (g := gName 3) (by rfl) scQCoins.nd rfl rfl (sw_true rfl rfl rfl (by decide +kernel)) (pi_tup (pv 0)) (blkOk_by (N := ["names", "row", "_", "name"]) (sc := defScope sQCoins) (by decide +kernel)) (fun _ _ _ _ _ => pg_name (i := 3) scQCoins.nd rfl (.inl rfl)) (fun _ _ _ _ _ => pts_nil) (fun _ _ _ _ _ => (pe_call DQNumber.ok (hr.mono (by decide)) (by rfl) DQNumber.g DQNumber.F.kp DQNumber.b .nil pass0 (pa_cons (pv 3) pa_nil))))
      (pss_cons (ps_for PassesOwn.never rfl (pi_range1 (by rfl) T.range (pa_cons (pe_glob (v := .int 5) (by rfl) gR ⟨_, rfl⟩) pa_nil)) (pg_name (i := 2) scQCoins.nd rfl (.inl rfl))
      (pss_one (ps_set (i := 1) scQCoins.nd rfl (.inl rfl) (pe_call DQNextCoins.ok (hr.mono (by decide)) (by rfl) DQNextCoins.g DQNextCoins.F.kp DQNextCoins.b .nil pass0 (pa_cons (pv 1) pa_nil)))))
      (pss_one (ps_ret (pv 1))))), ?_⟩
    obtain ⟨a, ns, rfl, ha, hn, ne, hu, q⟩ := h
    have few := hn.few
    refine ⟨.ref a, rfl, a, rfl, ⟨_, SqT.of ha⟩, fun D nD => lc_tup (xs := ns.map V.str) (fun i H1 => Same H H1 ∧ H1 D = some (.lst (((ns.map numZ).take i).map iN))) ⟨Same.new nD, upd_same⟩ (fun i H1 _ g => SqT.of (g.1 _ _ ha)) ?_ ?_⟩
    · rintro i v H1 hv ⟨k1, hD1⟩
      rw [List.getElem?_map] at hv
      obtain ⟨z, hz, rfl⟩ := Option.map_eq_some_iff.mp hv
      have li := (List.getElem?_eq_some_iff.mp hz).1
      refine ⟨rfl, .str z, rfl, z, rfl, _, hD1, ?_, sameAt k1 nD, ?_⟩
      · rw [List.length_map, List.length_take]
        show _ < 16777216
        omega
      · rw [upd_same, take_succ' (x := numZ z) (by rw [List.getElem?_map, hz]; rfl), List.map_append]
        rfl
    rintro H1 ⟨k1, hD1⟩
    rw [List.take_of_length_le (by rw [List.length_map, List.length_map]; exact Nat.le_refl _)] at hD1
    have r0 : Row (ns.map numZ) := ⟨fun e => ne (List.map_eq_nil_iff.mp e), nums_unl hn hu, by rw [List.length_map]; exact few⟩
    refine ⟨5, rfl, by decide, by decide, for_range (fun i σ H2 => ∃ (u : Option V) (l : Addr), σ = [some (.ref a), some (.ref l), u, none] ∧ H l = none ∧ H2 l = some (.lst ((rounds i (ns.map numZ)).map iN)) ∧ Same H H2) ⟨none, D, rfl, nD, hD1, k1⟩ ?_ ?_⟩
    · rintro i σ H2 hi ⟨u, l, rfl, nl, hl, k2⟩
      refine ⟨.ref l, rfl, l, _, rfl, hl, rounds_row i r0, fun l2 H3 nl2 hl2 k3 => ⟨_, l2, rfl, ?_, ?_, k2.trans k3⟩⟩
      · exact Same.free k2 nl2
      · rw [rounds_succ]
        exact hl2
    · rintro σ H2 ⟨u, l, rfl, nl, hl, k2⟩
      exact ⟨_, rfl, q l H2 nl hl k2⟩
abbrev sQPeaks : Stmt := topS 17
theorem scQPeaks : FnScope ["names", "row", "number"] ["names"] (defScope sQPeaks) := ⟨rfl, rfl, rfl, by decide +kernel, rfl, by decide +kernel, by decide +kernel⟩
theorem ok_QPeaks {f : Addr} {fd : FuncData} (F : Fun K "_peaks" "_peaks" sQPeaks f fd)  {fQCoins : Addr} {fdQCoins : FuncData} (DQCoins : Dk P w K mg base "_coins" sQCoins ["names"] 2 spCoins fQCoins fdQCoins) (T : Glob mg) : FnOk P w K mg base CX0 3 f fd ["names"] spPeaks := by
  refine F.ok scQPeaks (fun vs H Q E h => ?_) (fun cdv A outer s H vs Q E hr h => ?_)
  · obtain ⟨a, ns, rfl, _⟩ := h
    rfl
  · refine ⟨_, (pss_cons (ps_set (i := 1) scQPeaks.nd rfl (.inr rfl) (pe_call DQCoins.ok (hr.mono (by decide)) (by rfl) DQCoins.g DQCoins.F.kp DQCoins.b .nil pass0 (pa_cons (pv 0) pa_nil)))
      (pss_one (ps_ret (pe_lc (own := [("number", 2)]) (g := gName 2) (by rfl) scQPeaks.nd (pi_range2 (by rfl) T.range (pa_cons pe_int (pa_cons (pe_op op_sub (pe_callB call_len_seq (by rfl) T.len PySem.boot_len (pa_cons (pv 1) pa_nil)) pe_int) pa_nil))) (blkOk_by (N := ["names", "row", "number"]) (sc := defScope sQPeaks) (by decide +kernel)) (fun _ _ _ _ _ => pg_name (i := 2) scQPeaks.nd rfl (.inl rfl)) (fun _ _ _ _ _ => (pts_one (pt_chain op_lt op_gt (pe_ix (r := rIxL K) ix_list (pv 1) (pe_op op_sub (pv 2) pe_int) (fun _ _ => rfl)) (pe_ix (r := rIxL K) ix_list (pv 1) (pv 2) (fun _ _ => rfl)) (pe_ix (r := rIxL K) ix_list (pv 1) (pe_op op_add (pv 2) pe_int) (fun _ _ => rfl))))) (fun _ _ _ _ _ => (pv 2)))))), ?_⟩
    obtain ⟨a, ns, rfl, ha, hn, ne, hu, q⟩ := h
    have few := hn.few
    have lc := coins_len ns
    refine ⟨.ref a, rfl, a, ns, rfl, ha, hn, ne, hu, fun l H1 nl hl k1 => ?_⟩
    refine ⟨.ref l, rfl, l, _, rfl, .inl (sq_of hl), _, _, rfl, rfl, _, _, rfl, ?_⟩
    rw [List.length_map, lc]
    have e0 : (((ns.length : Nat) : Int) - 1 - 1).toNat = ns.length - 2 := by omega
    refine ⟨⟨by omega, by omega, by omega, by omega⟩, fun D nD => ?_⟩
    rw [e0]
    refine lc_range (fun j H2 => Same H1 H2 ∧ H2 D = some (.lst ((((List.range j).map (· + 1)).filter (pkB (coinsN ns))).map iN))) ⟨Same.new nD, upd_same⟩ ?_ ?_
    · rintro j H2 hj ⟨k2, hD2⟩
      have z0 : (1 : Int) + (j : Int) = ((j + 1 : Nat) : Int) := by omega
      rw [z0]
      have er : ∀ c : Bool, c = pkB (coinsN ns) (j + 1) → ((((List.range (j + 1)).map (· + 1)).filter (pkB (coinsN ns))).map iN) = ((((List.range j).map (· + 1)).filter (pkB (coinsN ns))).map iN) ++ (if c = true then [iN (j + 1)] else []) := fun c hc => by
        subst hc
        rw [List.range_succ, List.map_append, List.filter_append, List.map_append]
        congr 1
        show (List.filter _ [j + 1]).map iN = _
        rw [List.filter_cons]
        split <;> rfl
      have hl2 := k2 _ _ hl
      have a1 : atI ((coinsN ns).map iN) (((j + 1 : Nat) : Int) - 1) = some (iN ((coinsN ns).getD j 0)) := by
        have : ((j + 1 : Nat) : Int) - 1 = (j : Int) := by omega
        rw [this]
        exact iN_at (by omega)
      have a2 : atI ((coinsN ns).map iN) ((j + 1 : Nat) : Int) = some (iN ((coinsN ns).getD (j + 1) 0)) := iN_at (by omega)
      have a3 : atI ((coinsN ns).map iN) (((j + 1 : Nat) : Int) + 1) = some (iN ((coinsN ns).getD (j + 2) 0)) := by
        have : ((j + 1 : Nat) : Int) + 1 = ((j + 2 : Nat) : Int) := by omega
        rw [this]
        exact iN_at (by omega)
      have pe : pkB (coinsN ns) (j + 1) = (decide ((coinsN ns).getD j 0 < (coinsN ns).getD (j + 1) 0) && decide ((coinsN ns).getD (j + 2) 0 < (coinsN ns).getD (j + 1) 0)) := rfl
      refine ⟨rfl, .ref l, rfl, iN (j + 1), rfl, _, _, rfl, rfl, l, _, _, _, rfl, rfl, sq_of hl2, a1, .ref l, rfl, iN (j + 1), rfl, l, _, _, _, rfl, rfl, sq_of hl2, a2, _, _, rfl, rfl, ?_⟩
      have yes : pkB (coinsN ns) (j + 1) = true → ∃ acc, H2 D = some (.lst acc) ∧ acc.length < sizeLine ∧ Same H1 (upd H2 D (.lst (acc ++ [iN (j + 1)]))) ∧ upd H2 D (.lst (acc ++ [iN (j + 1)])) D = some (.lst ((((List.range (j + 1)).map (· + 1)).filter (pkB (coinsN ns))).map iN)) := fun e => by
        refine ⟨_, hD2, ?_, sameAt k2 nD, ?_⟩
        · rw [List.length_map]
          have := List.length_filter_le (pkB (coinsN ns)) ((List.range j).map (· + 1))
          rw [List.length_map, List.length_range] at this
          show _ < 16777216
          omega
        · rw [upd_same, er true e.symm, if_pos rfl]
      have no : pkB (coinsN ns) (j + 1) = false → Same H1 H2 ∧ H2 D = some (.lst ((((List.range (j + 1)).map (· + 1)).filter (pkB (coinsN ns))).map iN)) := fun e => by
        refine ⟨k2, ?_⟩
        rw [er false e.symm, hD2, if_neg (by decide), List.append_nil]
      refine ⟨_, rfl, ite2 (fun c => ?_) (fun c => ?_)⟩
      · have c1 : (coinsN ns).getD j 0 < (coinsN ns).getD (j + 1) 0 := Int.ofNat_lt.mp (of_decide_eq_true c)
        refine ⟨.ref l, rfl, iN (j + 1), rfl, _, _, rfl, rfl, l, _, _, _, rfl, rfl, sq_of hl2, a3, _, _, rfl, rfl, _, rfl, ite2 (fun d => ?_) (fun d => ?_)⟩
        · have d1 : (coinsN ns).getD (j + 2) 0 < (coinsN ns).getD (j + 1) 0 := Int.ofNat_lt.mp (of_decide_eq_true d)
          exact ⟨iN (j + 1), rfl, yes (by rw [pe, decide_eq_true c1, decide_eq_true d1]; rfl)⟩
        · have d1 : ¬ (coinsN ns).getD (j + 2) 0 < (coinsN ns).getD (j + 1) 0 := fun z => d (decide_eq_true (Int.ofNat_lt.mpr z))
          exact no (by rw [pe, decide_eq_false d1, Bool.and_false])
      · have c1 : ¬ (coinsN ns).getD j 0 < (coinsN ns).getD (j + 1) 0 := fun z => c (decide_eq_true (Int.ofNat_lt.mpr z))
        exact ⟨false, rfl, iteF (no (by rw [pe, decide_eq_false c1, Bool.false_and]))⟩
    · rintro H2 ⟨k2, hD2⟩
      exact q D H2 (Same.free k1 nD) hD2 (k1.trans k2)
end
end LawK
set_option maxHeartbeats 4000000
namespace LawK
open PySem PySem.Spec
def nmA (ns : List Str) (k : Nat) : Str := ns.getD k ⟨#[]⟩
theorem nmA_get {ns : List Str} {k : Nat} (h : k < ns.length) : ns[k]? = some (nmA ns k) := by
  unfold nmA
  rw [List.getD_eq_getElem?_getD, List.getElem?_eq_getElem h]
  rfl
/-- unlike the name ahead, or the first one -/
def newB (ns : List Str) (k : Nat) : Bool := decide (k = 0) || !decide (nmA ns k = nmA ns (k - 1))
/-- neither neighbour is like -/
def alB (ns : List Str) (k : Nat) : Bool := newB ns k && (decide (k + 1 = ns.length) || newB ns (k + 1))
/-- where the row begins that a name stands in -/
def rsN (ns : List Str) : Nat → Nat
  | 0 => 0
  | k + 1 => if alB ns k = true then rsN ns k else k + 1
def reF (ns : List Str) : Nat → Nat → Nat
  | 0, k => k
  | m + 1, k => if alB ns k = true then reF ns m (k + 1) else k
/-- where it ends -/
def reN (ns : List Str) (k : Nat) : Nat := reF ns (ns.length - k) k
def segN (ns : List Str) (b e : Nat) : List Str := (ns.drop b).take (e - b)
def pkR (ns : List Str) (b e k : Nat) : Bool := pkB (coinsN (segN ns b e)) (k - b)
/-- whether a name begins a group -/
def begB (ns : List Str) (k : Nat) : Bool :=
  if alB ns k = true then (if k = 0 ∨ alB ns (k - 1) = false then true else decide (k + 1 < reN ns k) && pkR ns (rsN ns k) (reN ns k) k) else newB ns k
def groupsTo (ns : List Str) (k : Nat) : List Nat := (List.range k).filter (begB ns)
def groupsN (ns : List Str) : List Nat := groupsTo ns ns.length
theorem reN_al {ns : List Str} {k : Nat} (h : k < ns.length) (a : alB ns k = true) : reN ns k = reN ns (k + 1) := by
  unfold reN
  have e : ns.length - k = (ns.length - (k + 1)) + 1 := by omega
  rw [e]
  show (if alB ns k = true then _ else _) = _
  rw [if_pos a]
theorem reN_no {ns : List Str} {k : Nat} (a : k < ns.length → alB ns k = false) : reN ns k = k := by
  unfold reN
  cases e : ns.length - k with
  | zero => rfl
  | succ m =>
    show (if alB ns k = true then _ else _) = _
    rw [a (by omega)]
    rfl
theorem reF_le (ns : List Str) : ∀ (m k : Nat), k ≤ reF ns m k ∧ reF ns m k ≤ k + m
  | 0, k => ⟨Nat.le_refl _, Nat.le_refl _⟩
  | m + 1, k => by
    show k ≤ (if alB ns k = true then reF ns m (k + 1) else k) ∧ (if alB ns k = true then reF ns m (k + 1) else k) ≤ _
    have := reF_le ns m (k + 1)
    split <;> omega
theorem reN_le {ns : List Str} {k : Nat} (h : k ≤ ns.length) : k ≤ reN ns k ∧ reN ns k ≤ ns.length := by
  have := reF_le ns (ns.length - k) k
  unfold reN
  omega
theorem seg_len {ns : List Str} {b e : Nat} (h1 : b ≤ e) (h2 : e ≤ ns.length) : (segN ns b e).length = e - b := by
  unfold segN
  rw [List.length_take, List.length_drop]
  omega
theorem seg_get {ns : List Str} {b e i : Nat} (h : i < e - b) : (segN ns b e)[i]? = ns[b + i]? := by
  unfold segN
  rw [List.getElem?_take, if_pos h, List.getElem?_drop]
theorem newB_of_al {ns : List Str} {k : Nat} (h : alB ns k = true) : newB ns k = true := (Bool.and_eq_true_iff.mp h).1
theorem newB_next {ns : List Str} {k : Nat} (h : alB ns k = true) (n : k + 1 < ns.length) : newB ns (k + 1) = true := by
  have := (Bool.and_eq_true_iff.mp h).2
  rw [decide_eq_false (by omega), Bool.false_or] at this
  exact this
theorem newB_ne {ns : List Str} {k : Nat} (h : newB ns (k + 1) = true) : nmA ns (k + 1) ≠ nmA ns k := fun e => by
  unfold newB at h
  rw [decide_eq_false (by omega), Bool.false_or] at h
  have e2 : nmA ns (k + 1) = nmA ns (k + 1 - 1) := e
  rw [decide_eq_true e2] at h
  cases h
/-- a segment of a row: unlike neighbours -/
theorem seg_unl {ns : List Str} {b e : Nat} (h2 : e ≤ ns.length) (ha : ∀ k, b ≤ k → k < e → alB ns k = true) : Unl (segN ns b e) := fun i x y hx hy => by
  have li : i + 1 < e - b := by
    have := (List.getElem?_eq_some_iff.mp hy).1
    unfold segN at this
    rw [List.length_take] at this
    omega
  rw [seg_get (by omega), nmA_get (by omega)] at hx
  rw [seg_get li, nmA_get (by omega)] at hy
  cases hx
  cases hy
  have := newB_ne (k := b + i) (newB_of_al (ha (b + i + 1) (by omega) (by omega)))
  exact fun z => this z.symm
theorem seg_nms {ns : List Str} {b e : Nat} (h : Nms ns) : Nms (segN ns b e) := ⟨by
  have := h.few
  unfold segN
  rw [List.length_take, List.length_drop]
  omega, fun z hz => h.word z (List.mem_of_mem_drop (List.mem_of_mem_take hz))⟩
/-- the bound of a segment -/
def Bd (ns : List Str) (f : Nat) : Prop := f < ns.length → newB ns f = true ∧ (f = 0 ∨ alB ns (f - 1) = false ∨ alB ns f = false)
theorem Bd.zero (ns : List Str) : Bd ns 0 := fun _ => ⟨rfl, .inl rfl⟩
/-- whether a segment goes on -/
def goB (ns : List Str) (f k : Nat) : Bool := if alB ns f = true then alB ns k else !newB ns k
theorem rsN_run {ns : List Str} {f : Nat} (h0 : f = 0 ∨ alB ns (f - 1) = false) : ∀ (d : Nat), (∀ k, f ≤ k → k < f + d → alB ns k = true) → rsN ns (f + d) = f
  | 0, _ => by
    cases f with
    | zero => rfl
    | succ f =>
      have : alB ns f = false := by
        rcases h0 with e | e
        · cases e
        · exact e
      show (if alB ns f = true then _ else f + 1) = _
      rw [this]
      rfl
  | d + 1, h => by
    show (if alB ns (f + d) = true then rsN ns (f + d) else _) = _
    rw [if_pos (h (f + d) (by omega) (by omega))]
    exact rsN_run h0 d fun k h1 h2 => h k h1 (by omega)
theorem reN_run {ns : List Str} {b : Nat} (hb : b ≤ ns.length) (h1 : b < ns.length → alB ns b = false) : ∀ (d k : Nat), k + d = b → (∀ j, k ≤ j → j < b → alB ns j = true) → reN ns k = b
  | 0, k, e, _ => by
    have e' : k = b := by omega
    rw [e']
    exact reN_no h1
  | d + 1, k, e, h => by
    rw [reN_al (by omega) (h k (Nat.le_refl _) (by omega))]
    exact reN_run hb h1 d (k + 1) (by omega) fun j g1 g2 => h j (by omega) g2
theorem groupsTo_split (ns : List Str) {f b : Nat} (h : f < b) : groupsTo ns b = groupsTo ns f ++ (([f] : List Nat).filter (begB ns) ++ (((List.range (b - f - 1)).map (f + 1 + ·)).filter (begB ns))) := by
  have e : List.range b = List.range f ++ (f :: ((List.range (b - f - 1)).map (f + 1 + ·))) := by
    have e1 : b = f + ((b - f - 1) + 1) := by omega
    have e2 : List.range b = List.range (f + ((b - f - 1) + 1)) := by rw [← e1]
    rw [e2, List.range_add, List.range_succ_eq_map]
    congr 1
    show (f + 0) :: ((List.range (b - f - 1)).map Nat.succ).map (f + ·) = _
    rw [List.map_map]
    congr 1
    apply List.map_congr_left
    intro x _
    show f + Nat.succ x = f + 1 + x
    omega
  unfold groupsTo
  rw [e, List.filter_append]
  congr 1
  rw [show f :: ((List.range (b - f - 1)).map (f + 1 + ·)) = [f] ++ ((List.range (b - f - 1)).map (f + 1 + ·)) from rfl, List.filter_append]
theorem seg_al {ns : List Str} {f b : Nat} (hf : f < b) (hb : b ≤ ns.length) (bd : Bd ns f) (a : alB ns f = true) (go : ∀ k, f < k → k < b → goB ns f k = true) (st : b < ns.length → goB ns f b = false) :
    (∀ k, f ≤ k → k < b → alB ns k = true) ∧ groupsTo ns b = groupsTo ns f ++ f :: ((peaksN (segN ns f b)).map (f + ·)) ∧ Bd ns b := by
  have ha : ∀ k, f ≤ k → k < b → alB ns k = true := fun k h1 h2 => by
    by_cases e : k = f
    · rw [e]
      exact a
    · have := go k (by omega) h2
      unfold goB at this
      rw [if_pos a] at this
      exact this
  have sb : b < ns.length → alB ns b = false := fun h => by
    have := st h
    unfold goB at this
    rw [if_pos a] at this
    exact this
  have h0 : f = 0 ∨ alB ns (f - 1) = false := by
    rcases (bd (by omega)).2 with e | e | e
    · exact .inl e
    · exact .inr e
    · rw [a] at e
      cases e
  refine ⟨ha, ?_, fun h => ⟨?_, .inr (.inr (sb h))⟩⟩
  · rw [groupsTo_split ns hf]
    have bf : begB ns f = true := by
      unfold begB
      rw [if_pos a, if_pos h0]
    rw [show ([f] : List Nat).filter (begB ns) = [f] by rw [List.filter_cons, bf]; rfl]
    show groupsTo ns f ++ f :: _ = _
    congr 2
    have lens : (segN ns f b).length = b - f := seg_len (by omega) hb
    have key : ∀ k, f < k → k < b → begB ns k = (decide (k + 1 < b) && pkB (coinsN (segN ns f b)) (k - f)) := fun k h1 h2 => by
      have r1 : rsN ns k = f := by
        have := rsN_run h0 (k - f) fun j g1 g2 => ha j g1 (by omega)
        rw [show f + (k - f) = k by omega] at this
        exact this
      have r2 : reN ns k = b := reN_run hb sb (b - k) k (by omega) fun j g1 g2 => ha j (by omega) g2
      unfold begB
      have h3 : ¬ (k = 0 ∨ alB ns (k - 1) = false) := by
        rw [ha (k - 1) (by omega) (by omega)]
        intro z
        rcases z with z | z
        · omega
        · cases z
      rw [if_pos (ha k (by omega) h2), if_neg h3, r2, r1]
      rfl
    unfold peaksN
    rw [lens]
    cases e : b - f - 1 with
    | zero =>
      rw [show b - f - 2 = 0 by omega]
      rfl
    | succ m =>
      rw [show b - f - 2 = m by omega, List.range_succ, List.map_append, List.filter_append]
      have last : (([m] : List Nat).map (f + 1 + ·)).filter (begB ns) = [] := by
        show List.filter _ [f + 1 + m] = []
        rw [List.filter_cons, key (f + 1 + m) (by omega) (by omega), decide_eq_false (by omega)]
        rfl
      rw [last, List.append_nil, List.filter_map, List.filter_map, List.map_map]
      have ef : (List.range m).filter (begB ns ∘ fun x => f + 1 + x) = (List.range m).filter (pkB (coinsN (segN ns f b)) ∘ fun x => x + 1) := by
        apply List.filter_congr
        intro x hx
        have hx' := List.mem_range.mp hx
        show begB ns (f + 1 + x) = pkB (coinsN (segN ns f b)) (x + 1)
        rw [key (f + 1 + x) (by omega) (by omega), decide_eq_true (by omega), Bool.true_and]
        congr 1
        omega
      rw [ef]
      apply List.map_congr_left
      intro x _
      show f + 1 + x = f + (x + 1)
      omega
  · have := newB_next (k := b - 1) (ha (b - 1) (by omega) (by omega)) (by omega)
    rw [show b - 1 + 1 = b by omega] at this
    exact this
theorem seg_no {ns : List Str} {f b : Nat} (hf : f < b) (hb : b ≤ ns.length) (bd : Bd ns f) (a : alB ns f = false) (go : ∀ k, f < k → k < b → goB ns f k = true) (st : b < ns.length → goB ns f b = false) :
    groupsTo ns b = groupsTo ns f ++ [f] ∧ Bd ns b := by
  have na : ¬ alB ns f = true := by rw [a]; decide
  have hn : ∀ k, f < k → k < b → newB ns k = false := fun k h1 h2 => by
    have := go k h1 h2
    unfold goB at this
    rw [if_neg na] at this
    cases e : newB ns k with
    | false => rfl
    | true =>
      rw [e] at this
      cases this
  have hal : ∀ k, f ≤ k → k < b → alB ns k = false := fun k h1 h2 => by
    by_cases e : k = f
    · rw [e]
      exact a
    · unfold alB
      rw [hn k (by omega) h2]
      rfl
  have bg : ∀ k, f ≤ k → k < b → begB ns k = newB ns k := fun k h1 h2 => by
    unfold begB
    rw [if_neg (by rw [hal k h1 h2]; decide)]
  refine ⟨?_, fun h => ⟨?_, .inr (.inl (hal (b - 1) (by omega) (by omega)))⟩⟩
  · rw [groupsTo_split ns hf]
    have e1 : ([f] : List Nat).filter (begB ns) = [f] := by
      rw [List.filter_cons, bg f (Nat.le_refl _) hf, (bd (by omega)).1]
      rfl
    have e2 : (((List.range (b - f - 1)).map (f + 1 + ·)).filter (begB ns)) = [] := by
      rw [List.filter_eq_nil_iff]
      intro k hk
      obtain ⟨x, hx, rfl⟩ := List.mem_map.mp hk
      have hx' := List.mem_range.mp hx
      rw [bg _ (by omega) (by omega), hn _ (by omega) (by omega)]
      decide
    rw [e1, e2, List.append_nil]
  · have := st h
    unfold goB at this
    rw [if_neg na] at this
    cases e : newB ns b with
    | true => rfl
    | false =>
      rw [e] at this
      cases this
theorem groupsTo_succ (ns : List Str) (k : Nat) : groupsTo ns (k + 1) = groupsTo ns k ++ (if begB ns k = true then [k] else []) := by
  unfold groupsTo
  rw [List.range_succ, List.filter_append]
  congr 1
  show List.filter _ [k] = _
  rw [List.filter_cons]
  split <;> rfl
theorem groupsTo_len (ns : List Str) (k : Nat) : (groupsTo ns k).length ≤ k := by
  have := List.length_filter_le (begB ns) (List.range k)
  rw [List.length_range] at this
  exact this
/-- the first like name from a place on, by a list -/
theorem reN_list (ns : List Str) : ∀ (m k : Nat), k + m = ns.length → ((((List.range m).map (k + ·)).filter fun j => !alB ns j) ++ [ns.length])[0]? = some (reN ns k)
  | 0, k, e => by
    show some ns.length = _
    rw [reN_no (fun h => by omega)]
    congr 1
    omega
  | m + 1, k, e => by
    rw [List.range_succ_eq_map]
    show ((List.filter (fun j => !alB ns j) ((k + 0) :: ((List.range m).map Nat.succ).map (k + ·))) ++ [ns.length])[0]? = _
    rw [List.map_map, List.filter_cons, Nat.add_zero]
    cases a : alB ns k with
    | true =>
      rw [reN_al (by omega) a, ← reN_list ns m (k + 1) (by omega)]
      have e2 : (List.range m).map ((k + ·) ∘ Nat.succ) = (List.range m).map (k + 1 + ·) := by
        apply List.map_congr_left
        intro x _
        show k + Nat.succ x = k + 1 + x
        omega
      rw [e2]
      rfl
    | false =>
      rw [reN_no (fun _ => a)]
      rfl
end LawK
namespace Ev
open PySem PySem.Spec PyProof PyProof.Rows L2
def tIfT (t u v : TT) : TT := fun σ H Q => t σ H fun c H1 => if c = true then u σ H1 Q else v σ H1 Q
theorem pt_ifT {X : Cx} {c a b : Expr} {tC tA tB : TT} {pos : Pos} (hc : PT X c tC) (ha : PT X a tA) (hb : PT X b tB) : PT X (.IfExp c a b pos) (tIfT tC tA tB) := by
  refine ⟨fun pins s σ H Q I h => ?_⟩
  show wpAny (model X.prog X.w) X.A (do
    if ← PySem.isTrue c X.env (eval c X.env) then PySem.isTrue a X.env (eval a X.env) else PySem.isTrue b X.env (eval b X.env)) _ X.xe s
  refine wpAny_bind (wpAny_mono (hc.run pins s σ H _ I h) (fun d s1 ⟨H1, I1, q1⟩ => ?_) fun _ _ x => x)
  cases d with
  | true => exact ha.run pins s1 σ H1 Q I1 q1
  | false => exact hb.run pins s1 σ H1 Q I1 q1
end Ev
set_option maxHeartbeats 4000000
namespace LawK
open PySem PySem.Spec PyProof.Rows L2 Ev

def spGroups : Sp := fun vs H Q _ => ∃ (a : Addr) (ns : List Str), vs = [.ref a] ∧ H a = some (.tup (ns.map V.str)) ∧ Nms ns ∧ ∀ l H', H l = none → H' l = some (.lst ((groupsN ns).map iN)) → Same H H' → Q (.ref l) H'
theorem nm_at {ns : List Str} {k : Nat} (h : k < ns.length) : atI (ns.map V.str) (k : Int) = some (.str (nmA ns k)) := by
  apply atI_nat
  rw [List.getElem?_map, nmA_get h]
  rfl
def newL (ns : List Str) (j : Nat) : List V := ((List.range j).map (newB ns)).map V.bl
def alL (ns : List Str) (j : Nat) : List V := ((List.range j).map (alB ns)).map V.bl
theorem bl_at {f : Nat → Bool} {n k : Nat} (h : k < n) : atI (((List.range n).map f).map V.bl) (k : Int) = some (.bl (f k)) := by
  apply atI_nat
  rw [List.getElem?_map, List.getElem?_map, List.getElem?_range h]
  rfl
theorem bl_succ (f : Nat → Bool) (j : Nat) : ((List.range (j + 1)).map f).map V.bl = ((List.range j).map f).map V.bl ++ [.bl (f j)] := by
  rw [List.range_succ, List.map_append, List.map_append]
  rfl
theorem bl_len (f : Nat → Bool) (j : Nat) : (((List.range j).map f).map V.bl).length = j := by
  rw [List.length_map, List.length_map, List.length_range]
theorem cutV_of {xs : List V} {i j : Nat} (h : i ≤ j) (h2 : j ≤ xs.length) : cutV xs (some (i : Int)) (some (j : Int)) = (xs.drop i).take (j - i) := by
  unfold cutV
  rw [sIx_int (by omega), sIx_int (by omega), Int.toNat_natCast, Int.toNat_natCast, Nat.min_eq_left h2, Nat.min_eq_left (Nat.le_trans h h2)]
theorem newB_zero (ns : List Str) : newB ns 0 = true := rfl
theorem newB_pos {ns : List Str} {k : Nat} (h : k ≠ 0) : newB ns k = !decide (V.str (nmA ns k) = V.str (nmA ns (k - 1))) := by
  unfold newB
  rw [decide_eq_false h, Bool.false_or]
  by_cases e : nmA ns k = nmA ns (k - 1)
  · rw [decide_eq_true e, decide_eq_true (congrArg V.str e)]
  · rw [decide_eq_false e, decide_eq_false fun z => e (V.str.inj z)]
section
variable {P : Program} {w : World} {K : PySem.W.Frag} {mg : Str → Option Value} {base : Heap}
abbrev sQGroups : Stmt := topS 18
theorem scQGroups : FnScope ["names", "many", "new", "alone", "found", "first", "behind", "number", "peak"] ["names"] (defScope sQGroups) := ⟨rfl, rfl, rfl, by decide +kernel, rfl, by decide +kernel, by decide +kernel⟩
theorem ok_QGroups {f : Addr} {fd : FuncData} (F : Fun K "_groups" "_groups" sQGroups f fd)  {fQPeaks : Addr} {fdQPeaks : FuncData} (DQPeaks : Dk P w K mg base "_peaks" sQPeaks ["names"] 3 spPeaks fQPeaks fdQPeaks) (T : Glob mg) : FnOk P w K mg base CX0 4 f fd ["names"] spGroups := by
  refine F.ok scQGroups (fun vs H Q E h => ?_) (fun cdv A outer s H vs Q E hr h => ?_)
  · obtain ⟨a, ns, rfl, _⟩ := h
    rfl
  · refine ⟨_, (pss_cons (ps_set (i := 1) scQGroups.nd rfl (.inr rfl) (pe_callB call_len_seq (by rfl) T.len PySem.boot_len (pa_cons (pv 0) pa_nil)))
      (pss_cons (ps_set (i := 2) scQGroups.nd rfl (.inr rfl) (pe_lc (own := [("number", 7)]) (g := gName 7) (by rfl) scQGroups.nd (pi_range1 (by rfl) T.range (pa_cons (pv 1) pa_nil)) (blkOk_by (N := ["names", "many", "new", "alone", "found", "first", "behind", "number", "peak"]) (sc := defScope sQGroups) (by decide +kernel)) (fun _ _ _ _ _ => pg_name (i := 7) scQGroups.nd rfl (.inl rfl)) (fun _ _ _ _ _ => pts_nil) (fun _ _ _ _ _ => (pe_or (pe_cmpR op_eq (pv 7) pe_int (nomark _)) (pe_one (pe_cmpR op_ne (pe_ix (r := rIxT K) ix_tup (pv 0) (pv 7) (fun _ _ => rfl)) (pe_ix (r := rIxT K) ix_tup (pv 0) (pe_op op_sub (pv 7) pe_int) (fun _ _ => rfl)) (nomark _)))))))
      (pss_cons (ps_setLc (i := 3) (own := [("number", 7)]) (g := gName 7) (by rfl) scQGroups.nd rfl rfl (sw_true rfl rfl rfl (by decide +kernel)) (pi_range1 (by rfl) T.range (pa_cons (pv 1) pa_nil)) (blkOk_by (N := ["names", "many", "new", "alone", "found", "first", "behind", "number", "peak"]) (sc := defScope sQGroups) (by decide +kernel)) (fun _ _ _ _ _ => pg_name (i := 7) scQGroups.nd rfl (.inl rfl)) (fun _ _ _ _ _ => pts_nil) (fun _ _ _ _ _ => (pe_and (pe_ix (r := rIxL K) ix_list (pv 2) (pv 7) (fun _ _ => rfl)) (pe_one (pe_or (pe_cmpR op_eq (pe_op op_add (pv 7) pe_int) (pv 1) (nomark _)) (pe_one (pe_ix (r := rIxL K) ix_list (pv 2) (pe_op op_add (pv 7) pe_int) (fun _ _ => rfl))))))))
      (pss_cons (ps_set (i := 4) scQGroups.nd rfl (.inl rfl) (pe_lst pa_nil))
      (pss_cons (ps_set (i := 5) scQGroups.nd rfl (.inr rfl) pe_int)
      (pss_cons (ps_while PassesOwn.never (pt_cmpR op_lt (pv 5) (pv 1) (nomark _))
      (pss_cons (ps_set (i := 6) scQGroups.nd rfl (.inl rfl) (pe_op op_add (pv 5) pe_int))
        (pss_cons (ps_while PassesOwn.never (PW.pt (pw_and (pt_cmpR op_lt (pv 6) (pv 1) (nomark _)) (pw_and1 (pt_ifT (pt_val (pe_ix ix_list (pv 3) (pv 5) (fun _ _ => rfl))) (pt_val (pe_ix ix_list (pv 3) (pv 6) (fun _ _ => rfl))) (pt_not (pt_val (pe_ix ix_list (pv 2) (pv 6) (fun _ _ => rfl))))))))
        (pss_one (ps_aug (i := 6) scQGroups.nd rfl (.inl rfl) pe_int ip_add)))
        (pss_cons (ps_expr (pe_bm PySem.F.plainAttrs_list PySem.F.slot_list_append PySem.F.type_list_append mt_append (pv 4) (pa_cons (pv 5) pa_nil)))
        (pss_cons (ps_if (pt_val (pe_ix ix_list (pv 3) (pv 5) (fun _ _ => rfl)))
        (pss_one (ps_expr (pe_bm PySem.F.plainAttrs_list PySem.F.slot_list_extend PySem.F.type_list_extend mt_extend (pv 4) (pa_cons (pe_lc (own := [("peak", 8)]) (g := gName 8) (by rfl) scQGroups.nd (pi_list (pe_call DQPeaks.ok (hr.mono (by decide)) (by rfl) DQPeaks.g DQPeaks.F.kp DQPeaks.b .nil pass0 (pa_cons (pe_slice sl_tupM (pv 0) (po_some (pv 5)) (po_some (pv 6))) pa_nil))) (blkOk_by (N := ["names", "many", "new", "alone", "found", "first", "behind", "number", "peak"]) (sc := defScope sQGroups) (by decide +kernel)) (fun _ _ _ _ _ => pg_name (i := 8) scQGroups.nd rfl (.inl rfl)) (fun _ _ _ _ _ => pts_nil) (fun _ _ _ _ _ => (pe_op op_add (pv 5) (pv 8)))) pa_nil))))
        pss_nil)
        (pss_one (ps_set (i := 5) scQGroups.nd rfl (.inr rfl) (pv 6))))))))
      (pss_one (ps_ret (pv 4))))))))), ?_⟩
    obtain ⟨a, ns, rfl, ha, hn, q⟩ := h
    have few := hn.few
    refine ⟨.ref a, rfl, a, _, rfl, .inr (SqT.of ha), ?_⟩
    rw [List.length_map]
    refine ⟨.int (ns.length : Nat), rfl, _, rfl, by omega, by omega, fun D nD => lc_range (fun j H1 => Same H H1 ∧ H1 D = some (.lst (newL ns j))) ⟨Same.new nD, upd_same⟩ ?_ ?_⟩
    · rintro j H1 hj ⟨k1, hD1⟩
      have hj2 : j < ns.length := by omega
      have z0 : (0 : Int) + (j : Int) = (j : Int) := Int.zero_add _
      rw [z0]
      have fin : ∀ b, b = newB ns j → ∃ acc, H1 D = some (.lst acc) ∧ acc.length < sizeLine ∧ Same H (upd H1 D (.lst (acc ++ [.bl b]))) ∧ upd H1 D (.lst (acc ++ [.bl b])) D = some (.lst (newL ns (j + 1))) := fun b hb => by
        refine ⟨_, hD1, ?_, sameAt k1 nD, ?_⟩
        · unfold newL
          rw [bl_len]
          show _ < 16777216
          omega
        · subst hb
          unfold newL
          rw [upd_same, bl_succ]
      refine ⟨rfl, .int (j : Int), rfl, rfl, _, rfl, ite2 (fun c => ?_) (fun c => ?_)⟩
      · have c' : (j : Int) = 0 := V.int.inj (of_decide_eq_true c)
        have c2 : j = 0 := by omega
        exact fin true (by rw [c2]; rfl)
      · have c2 : j ≠ 0 := fun z => c (by rw [z]; rfl)
        have em : (j : Int) - 1 = ((j - 1 : Nat) : Int) := by omega
        refine ⟨.ref a, rfl, .int (j : Int), rfl, a, _, _, _, rfl, rfl, SqT.of (k1 _ _ ha), nm_at hj2, .ref a, rfl, .int (j : Int), rfl, _, _, rfl, rfl, a, _, _, _, rfl, rfl, SqT.of (k1 _ _ ha), ?_, rfl, fin _ (newB_pos c2).symm⟩
        rw [em]
        exact nm_at (by omega)
    rintro H1 ⟨k1, hD1⟩
    rw [show (((ns.length : Nat) : Int)).toNat = ns.length from Int.toNat_natCast _] at hD1
    refine ⟨.int (ns.length : Nat), rfl, _, rfl, by omega, by omega, fun D2 nD2 => lc_range (fun j H2 => Same H1 H2 ∧ H2 D2 = some (.lst (alL ns j))) ⟨Same.new nD2, upd_same⟩ ?_ ?_⟩
    · rintro j H2 hj ⟨k2, hD2⟩
      have hj2 : j < ns.length := by omega
      have z0 : (0 : Int) + (j : Int) = (j : Int) := Int.zero_add _
      rw [z0]
      have fin : ∀ b, b = alB ns j → ∃ acc, H2 D2 = some (.lst acc) ∧ acc.length < sizeLine ∧ Same H1 (upd H2 D2 (.lst (acc ++ [.bl b]))) ∧ upd H2 D2 (.lst (acc ++ [.bl b])) D2 = some (.lst (alL ns (j + 1))) := fun b hb => by
        refine ⟨_, hD2, ?_, sameAt k2 nD2, ?_⟩
        · unfold alL
          rw [bl_len]
          show _ < 16777216
          omega
        · subst hb
          unfold alL
          rw [upd_same, bl_succ]
      have hDn := sq_of (K := K) (k2 _ _ hD1)
      have ep : (j : Int) + 1 = ((j + 1 : Nat) : Int) := rfl
      refine ⟨rfl, .ref D, rfl, .int (j : Int), rfl, D, _, _, _, rfl, rfl, hDn, bl_at hj2, _, rfl, ite2 (fun c => ?_) (fun c => ?_)⟩
      · refine ⟨.int (j : Int), rfl, _, _, rfl, rfl, .int (ns.length : Nat), rfl, rfl, _, rfl, ite2 (fun d => ?_) (fun d => ?_)⟩
        · have d' : (j : Int) + 1 = (ns.length : Int) := V.int.inj (of_decide_eq_true d)
          refine fin true ?_
          unfold alB
          rw [c, decide_eq_true (show j + 1 = ns.length by omega)]
          rfl
        · have d' : ¬ j + 1 = ns.length := fun z => d (decide_eq_true (congrArg V.int (show (j : Int) + 1 = (ns.length : Int) by omega)))
          refine ⟨.ref D, rfl, .int (j : Int), rfl, _, _, rfl, rfl, D, _, _, .bl (newB ns (j + 1)), rfl, rfl, hDn, ?_, fin _ ?_⟩
          · show atI _ ((j : Int) + 1) = _
            rw [ep]
            exact bl_at (by omega)
          · unfold alB
            rw [c, decide_eq_false d']
            rfl
      · refine fin false ?_
        unfold alB
        have c' : newB ns j = false := by simpa using c
        rw [c']
        rfl
    rintro H2 ⟨k2, hD2⟩
    rw [show (((ns.length : Nat) : Int)).toNat = ns.length from Int.toNat_natCast _] at hD2
    refine ⟨by show 0 ≤ sizeLine; decide, fun L nL => ?_⟩
    have k3 := Same.new (o := .lst []) nL
    have kH := (k1.trans k2).trans k3
    have hDa := k3 _ _ (k2 _ _ hD1)
    have hDb := k3 _ _ hD2
    have haa := kH _ _ ha
    have hL0 : upd H2 L (.lst []) L = some (.lst ((groupsTo ns 0).map iN)) := upd_same
    have nLH : H L = none := Same.free (k1.trans k2) nL
    have nDL : D ≠ L := fun z => by rw [z] at hD1; have := k2 _ _ hD1; rw [nL] at this; cases this
    have nD2L : D2 ≠ L := fun z => by rw [z, nL] at hD2; cases hD2
    have naL : a ≠ L := fun z => by rw [z, nLH] at ha; cases ha
    revert k3 kH hDa hDb haa hL0
    generalize upd H2 L (.lst []) = H3
    intro k3 kH hDa hDb haa hL0
    refine ⟨fun m σ H4 => ∃ (f : Nat) (u : Option V), m = ns.length - f ∧ σ = [some (.ref a), some (.int (ns.length : Nat)), some (.ref D), some (.ref D2), some (.ref L), some (.int (f : Nat)), u, none, none] ∧ f ≤ ns.length ∧ Bd ns f ∧ (∀ c o, c ≠ L → H3 c = some o → H4 c = some o) ∧ H4 L = some (.lst ((groupsTo ns f).map iN)), ⟨_, 0, none, rfl, rfl, Nat.zero_le _, Bd.zero ns, fun c o _ e => e, hL0⟩, ?_⟩
    rintro m σ H4 ⟨f, u, rfl, rfl, hf, bd, k4, hL4⟩
    refine ⟨.int (f : Nat), rfl, .int (ns.length : Nat), rfl, _, _, rfl, rfl, _, rfl, ite2 (fun c => ?_) (fun c => ?_)⟩
    · have c' : f < ns.length := Int.ofNat_lt.mp (of_decide_eq_true c)
      have ef : ((f : Nat) : Int) + 1 = ((f + 1 : Nat) : Int) := rfl
      have hDn := sq_of (K := K) (k4 _ _ nDL hDa)
      have hDo := sq_of (K := K) (k4 _ _ nD2L hDb)
      have ha4 := k4 _ _ naL haa
      refine ⟨_, fun σ' H' z => z, .int (f : Nat), rfl, _, _, rfl, rfl, ?_⟩
      refine ⟨fun m σ H5 => ∃ b : Nat, m = ns.length - b ∧ σ = [some (.ref a), some (.int (ns.length : Nat)), some (.ref D), some (.ref D2), some (.ref L), some (.int (f : Nat)), some (.int (b : Nat)), none, none] ∧ H5 = H4 ∧ f < b ∧ b ≤ ns.length ∧ ∀ k, f < k → k < b → goB ns f k = true, ⟨_, f + 1, rfl, rfl, rfl, by omega, by omega, fun k h1 h2 => by omega⟩, ?_⟩
      rintro m σ H5 ⟨b, rfl, rfl, rfl, fb, bn, go⟩
      refine (?_ : ∀ Q : Bool → Hp → Prop, Q (decide (b < ns.length) && goB ns f b) H5 → tAnd _ _ _ H5 Q) _ ?_
      · intro Q hq
        refine ⟨.int (b : Nat), rfl, .int (ns.length : Nat), rfl, _, _, rfl, rfl, _, rfl, ite2 (fun d => ?_) (fun d => ?_)⟩
        · have d' : b < ns.length := Int.ofNat_lt.mp (of_decide_eq_true d)
          rw [decide_eq_true d', Bool.true_and] at hq
          unfold goB at hq
          refine ⟨.ref D2, rfl, .int (f : Nat), rfl, D2, _, _, .bl (alB ns f), rfl, rfl, hDo, bl_at c', _, rfl, ite2 (fun g => ?_) (fun g => ?_)⟩
          · rw [if_pos g] at hq
            exact ⟨.ref D2, rfl, .int (b : Nat), rfl, D2, _, _, .bl (alB ns b), rfl, rfl, hDo, bl_at d', _, rfl, hq⟩
          · rw [if_neg g] at hq
            exact ⟨.ref D, rfl, .int (b : Nat), rfl, D, _, _, .bl (newB ns b), rfl, rfl, hDn, bl_at d', _, rfl, hq⟩
        · have d' : ¬ b < ns.length := fun z => d (decide_eq_true (Int.ofNat_lt.mpr z))
          rw [decide_eq_false d', Bool.false_and] at hq
          exact hq
      cases e : (decide (b < ns.length) && goB ns f b) with
      | true =>
        obtain ⟨e1, e2⟩ := Bool.and_eq_true_iff.mp e
        have e1' := of_decide_eq_true e1
        refine iteT ⟨_, fun σ' H' z => z, .int (b : Nat), rfl, _, _, rfl, rfl, ?_⟩
        refine ⟨_, by omega, b + 1, rfl, rfl, rfl, by omega, by omega, fun k h1 h2 => ?_⟩
        by_cases g : k = b
        · rw [g]
          exact e2
        · exact go k h1 (by omega)
      | false =>
        have st : b < ns.length → goB ns f b = false := fun h => by
          rw [decide_eq_true h, Bool.true_and] at e
          exact e
        have lg := groupsTo_len ns f
        refine iteF ?_
        refine ⟨.ref L, rfl, .inl ⟨rfl, _, sq_of hL4⟩, .int (f : Nat), rfl, L, _, _, rfl, rfl, hL4, by rw [List.length_map]; show _ < 16777216; omega, ?_⟩
        have hL6 : upd H5 L (.lst ((groupsTo ns f).map iN ++ [.int (f : Nat)])) L = some (.lst ((groupsTo ns f ++ [f]).map iN)) := by
          rw [upd_same, List.map_append]
          rfl
        have k6 : ∀ c o, c ≠ L → H3 c = some o → upd H5 L (.lst ((groupsTo ns f).map iN ++ [.int (f : Nat)])) c = some o := fun c o n h => by
          rw [upd_ne n]
          exact k4 c o n h
        revert hL6 k6
        generalize upd H5 L (.lst ((groupsTo ns f).map iN ++ [.int (f : Nat)])) = H6
        intro hL6 k6
        refine ⟨.ref D2, rfl, .int (f : Nat), rfl, D2, _, _, .bl (alB ns f), rfl, rfl, sq_of (k6 _ _ nD2L hDb), bl_at c', _, rfl, ite2 (fun g => ?_) (fun g => ?_)⟩
        · obtain ⟨al, eg, bd2⟩ := seg_al fb bn bd g go st
          have ha6 := k6 _ _ naL haa
          refine ⟨.ref L, rfl, .inl ⟨rfl, _, sq_of hL6⟩, .ref a, rfl, .int (f : Nat), rfl, (f : Int), rfl, .int (b : Nat), rfl, (b : Int), rfl, a, _, rfl, ha6, fun p H7 k7 hp => ?_⟩
          have hp' : H7 p = some (.tup ((segN ns f b).map V.str)) := by
            rw [hp, cutV_of (by omega) (by rw [List.length_map]; exact bn), ← List.map_drop, ← List.map_take]
            rfl
          have lsg : (segN ns f b).length = b - f := seg_len (by omega) bn
          refine ⟨p, segN ns f b, rfl, hp', seg_nms hn, fun z => by rw [z] at lsg; have : ([] : List Str).length = 0 := rfl; omega, seg_unl bn al, fun l H8 nl hl k8 => ?_⟩
          have k68 := k7.trans k8
          have lpk : (peaksN (segN ns f b)).length ≤ 3000 := by
            have := List.length_filter_le (pkB (coinsN (segN ns f b))) ((List.range ((segN ns f b).length - 2)).map (· + 1))
            rw [List.length_map, List.length_range] at this
            unfold peaksN
            omega
          refine ⟨l, rfl, ⟨_, sq_of hl⟩, fun D3 nD3 => lc_list (xs := (peaksN (segN ns f b)).map iN) (fun i H9 => Same H8 H9 ∧ H9 D3 = some (.lst ((((peaksN (segN ns f b)).take i).map (f + ·)).map iN))) ⟨Same.new nD3, upd_same⟩ (fun i H9 _ g => sq_of (g.1 _ _ hl)) ?_ ?_⟩
          · rintro i v H9 hv ⟨k9, hD9⟩
            rw [List.getElem?_map] at hv
            obtain ⟨y, hy, rfl⟩ := Option.map_eq_some_iff.mp hv
            have li := (List.getElem?_eq_some_iff.mp hy).1
            refine ⟨rfl, .int (f : Nat), rfl, iN y, rfl, _, _, rfl, rfl, _, hD9, ?_, sameAt k9 nD3, ?_⟩
            · rw [List.length_map, List.length_map, List.length_take]
              show _ < 16777216
              omega
            · rw [upd_same, take_succ' hy, List.map_append, List.map_append]
              rfl
          · rintro H9 ⟨k9, hD9⟩
            rw [List.length_map, List.take_of_length_le (Nat.le_refl _)] at hD9
            have k69 := k68.trans k9
            refine ⟨L, D3, _, _, rfl, rfl, k69 _ _ hL6, hD9, ?_, ?_⟩
            · rw [List.length_map, List.length_map, List.length_map, List.length_append]
              show _ ≤ 16777216
              have : [f].length = 1 := rfl
              omega
            · refine ⟨.int (b : Nat), rfl, _, by omega, b, some (.int (b : Nat)), rfl, rfl, bn, bd2, fun c o n h => ?_, ?_⟩
              · rw [upd_ne n]
                exact k69 _ _ (k6 c o n h)
              · rw [upd_same, eg, ← List.map_append, List.append_assoc]
                rfl
        · have g' : alB ns f = false := by simpa using g
          obtain ⟨eg, bd2⟩ := seg_no fb bn bd g' go st
          refine ⟨.int (b : Nat), rfl, _, by omega, b, some (.int (b : Nat)), rfl, rfl, bn, bd2, k6, ?_⟩
          rw [hL6, eg]
    · have c' : f = ns.length := by
        have : ¬ f < ns.length := fun z => c (decide_eq_true (Int.ofNat_lt.mpr z))
        omega
      subst c'
      exact ⟨_, rfl, q L H4 nLH hL4 fun c o e => k4 _ _ (fun z => by rw [z, nLH] at e; cases e) (kH _ _ e)⟩
end
end LawK
set_option maxHeartbeats 4000000
/-! `for c in reversed(a text)`. -/
namespace Ev
open PySem PySem.Spec PyProof.Rows L2 RT
theorem noRevStr : typeLookup (.type "str") "__reversed__" = pure none := by
  rw [typeLookup_type, builtinLookup_eq_fast]; kernel_rfl
def rsObj (v : Value) (i : Int) : Obj := { cls := .type "reversed", data := .fields #[v, rawInt i] }
/-- reversed(v) at it, its next place i -/
def IsRs (h : Heap) (it : Addr) (v : Value) (i : Int) : Prop := ∃ o, h.get? it = some o ∧ o.cls = .type "reversed" ∧ o.data = .fields #[v, rawInt i]
theorem IsRs.at {h h' : Heap} {a : Addr} {v : Value} {i : Int} (x : IsRs h a v i) (e : ∀ o, h.get? a = some o → h'.get? a = some o) : IsRs h' a v i :=
  let ⟨o, ho, r⟩ := x
  ⟨o, e _ ho, r⟩
section
variable {prog : Program} {w : World} {A : Around} {E : Value → Shared → Prop} {s : Shared}
theorem IsRs.ty {a : Addr} {v : Value} {i : Int} (x : IsRs s.heap a v i) : s.TypeIs (.ref a) "reversed" :=
  let ⟨o, ho, hc, _⟩ := x
  ⟨o, ho, hc⟩
theorem made_rs {z : Str} {t : Tok} {Q₁ : Value → Shared → Prop} (hz : ¬ (z.length : Int) ≥ 2 ^ 63)
    (h : Q₁ (.ref s.heap.objs.size) { s with heap := s.heap.push (rsObj (.str z t) ((z.length : Int) - 1)), toks := s.toks + 1 + 1 }) :
    codeAny (model prog w) A (.call (.builtin "reversed.__new__") ⟨[.type "reversed", .str z t], []⟩) (wants Q₁ E) s := by
  have ty : s.TypeIs (.str z t) "str" := typeIs_str s z t
  apply codeAny_of_tree
  show wpAny _ A.in1 (do checkBuiltinCall "reversed.__new__" ⟨[.type "reversed", .str z t], []⟩; again (.builtin "reversed.__new__" ⟨[.type "reversed", .str z t], []⟩)) _ _ s
  apply wpAny_bind; apply wpAny_of_eq (F.newCall_reversed_1 _); apply wpAny_pure
  apply And.intro (plainId_quiet F.plain_reversed_new _); apply codeAny_builtin F.entry_reversed_new
  rw [Around.under_plainId F.plain_reversed_new _]; unfold Builtin.«reversed.__new__»
  apply wpAny_bind; apply wpAny_of_eq (newClass_reversed _); try dsimp only
  apply wpAny_bind; refine wpAny_of_eq (a := ()) (by first | rfl | kernel_rfl) ?_; try dsimp only
  apply wpAny_bind; refine wpAny_of_eq (a := ()) (by first | rfl | kernel_rfl) ?_; try dsimp only
  apply wpAny_bind; refine wpAny_specialOf ty noRevStr ?_; try dsimp only
  apply wpAny_bind; wp_delta
  apply wpAny_bind; refine wpAny_isInstance (T := "str") (U := "dict") (b := false) ty (by rw [isSubtype_type]; kernel_rfl) ?_; try dsimp only
  try rw [if_neg Bool.false_ne_true]
  try dsimp only
  apply wpAny_bind; refine wpAny_specialOf ty F.slot_str_getitem.lookup ?_; try dsimp only
  try rw [if_pos (by decide +kernel)]
  apply wpAny_pure; try dsimp only
  try rw [if_neg (by decide)]
  try dsimp only
  apply wpAny_bind; refine PySem.P.len_str hz ?_
  apply wpAny_bind; refine wpAny_of_eq (a := some ((z.length : Nat) : Int)) rfl ?_; try dsimp only
  apply wpAny_bind
  show wpAny _ _ (newObj (.type "reversed") (.fields #[.str z t, rawInt ((z.length : Int) - 1)])) _ _ _
  refine wpAny_newObj_type ?_; exact wpAny_pure h
theorem call_rs {z : Str} {t : Tok} {Q : Value → Shared → Prop} (hz : ¬ (z.length : Int) ≥ 2 ^ 63)
    (h : Q (.ref s.heap.objs.size) { s with heap := s.heap.push (rsObj (.str z t) ((z.length : Int) - 1)), toks := s.toks + 1 + 1 }) : wpAny (model prog w) A (call (.type "reversed") [.str z t]) Q E s :=
  callType_codes (Q₁ := fun o s₁ => s₁.TypeIs o "reversed" ∧ Q o s₁) called_rt (F.typeCall_reversed_1 _) F.entry_object_init (made_rs (A := A.in1) hz ⟨⟨_, Heap.get?_push_size _ rfl, rfl⟩, h⟩)
    fun o s₁ g => ⟨g.1, F.args_object_init_2 o _, object_init_meets called_rt.init.lookup called_rt.made (by decide) prog w A.in1 _ s₁ ⟨g.1, rfl, g.2⟩⟩
theorem next_rs {it : Addr} {z : Str} {t : Tok} {i c : Nat} {Q : Option Value → Shared → Prop} (hit : IsRs s.heap it (.str z t) (i : Int)) (hx : z.cps[i]? = some c) (hz : z.length ≤ sizeLine)
    (hQ : ∀ h', IsRs h' it (.str z t) ((i : Int) - 1) → Heap.SameBut it s.heap h' → Q (some (.str ⟨#[c]⟩ (s.toks + 1))) { s with heap := h', toks := s.toks + 1 + 1 }) : wpAny (model prog w) A (pyNext (.ref it)) Q E s := by
  obtain ⟨o, ho, hc, hd⟩ := id hit
  have hi : i < z.cps.size := (Array.getElem?_eq_some_iff.mp hx).1
  have ty : s.TypeIs (.str z t) "str" := typeIs_str s z t
  rw [sizeLine_eq] at hz
  have hl : z.length = z.cps.size := rfl
  unfold pyNext
  apply wpAny_bind; apply wpAny_attempt
  refine wpAny_callSpecial?_slot (name := Str.ofString "__next__") hit.ty slot_rt_next (wpAny_call_entry slot_rt_next hit.ty entry_rt_next ?_ (args_rt_next _))
  unfold Builtin.«reversed.__next__»; apply wpAny_bind; refine wpAny_of_eq (a := (Value.ref it, [])) rfl ?_; try dsimp only
  apply wpAny_bind; refine wpAny_field ho hd (x := .str z t) rfl ?_; try dsimp only
  apply wpAny_bind; refine wpAny_field ho hd (x := rawInt (i : Int)) rfl ?_
  show wpAny _ _ (if (i : Int) < 0 then _ else _) _ _ s
  rw [if_neg (by omega)]; try dsimp only
  apply wpAny_bind; refine wpAny_specialOf ty F.slot_str_getitem.lookup ?_; try dsimp only
  try rw [if_neg (by decide)]
  try dsimp only
  apply wpAny_bind; refine wpAny_mkInt ?_; apply wpAny_bind; apply wpAny_attempt
  have fin : seqIndex? (i : Int) z.length = some i := seqIndex_of (by omega) (by omega)
  refine PySem.P.getItem_str (s := { s with toks := s.toks + 1 }) (c := c) (by
    rw [decide_eq_false (show ¬ (i : Int) < -(2 ^ 63 : Int) by omega), decide_eq_false (show ¬ (i : Int) ≥ 2 ^ 63 by omega)]
    rfl) (by rw [fin]; exact hx) ?_
  try dsimp only
  apply wpAny_bind; refine wpAny_field (s := { s with toks := s.toks + 1 + 1 }) ho hd (x := rawInt (i : Int)) rfl ?_; try dsimp only
  apply wpAny_bind; refine wpAny_setField (s := { s with toks := s.toks + 1 + 1 }) ho hd (by simp) ?_
  have fn : IsRs (s.heap.update it (Obj.mapFields (·.setIfInBounds 1 (rawInt ((i : Int) - 1))))) it (.str z t) ((i : Int) - 1) :=
    ⟨_, Heap.get?_update_self _ ho (Obj.isFreed_of_fields (Obj.data_mapFields hd _)), (Obj.cls_mapFields ..).trans hc, by rw [Obj.data_mapFields hd]; simp⟩
  first
  | exact wpAny_pure ⟨_, rfl, wpAny_pure (hQ _ fn (Heap.SameBut.update ..))⟩
  | exact wpAny_bind (wpAny_pure (wpAny_pure ⟨_, rfl, wpAny_pure (hQ _ fn (Heap.SameBut.update ..))⟩))
theorem end_rs {it : Addr} {v : Value} {Q : Option Value → Shared → Prop} (hh : A.handled = none) (hit : IsRs s.heap it v (-1))
    (hQ : ∀ h', Heap.ExtBut it s.heap h' → Q none { s with heap := h' }) : wpAny (model prog w) A (pyNext (.ref it)) Q E s := by
  obtain ⟨o, ho, hc, hd⟩ := id hit
  unfold pyNext; apply wpAny_bind; apply wpAny_attempt
  refine wpAny_callSpecial?_slot (name := Str.ofString "__next__") hit.ty slot_rt_next (wpAny_call_entry slot_rt_next hit.ty entry_rt_next ?_ (args_rt_next _))
  unfold Builtin.«reversed.__next__»; apply wpAny_bind; refine wpAny_of_eq (a := (Value.ref it, [])) rfl ?_; try dsimp only
  apply wpAny_bind; refine wpAny_field ho hd (x := v) rfl ?_; try dsimp only
  apply wpAny_bind; refine wpAny_field ho hd (x := rawInt (-1)) rfl ?_
  show wpAny _ _ (if (-1 : Int) < 0 then _ else _) _ _ s
  rw [if_pos (by decide)]; try dsimp only
  apply wpAny_bind; apply wpAny_rule; apply wpAny_bind; wp_delta
  apply wpAny_bind; refine wpAny_setField ho hd (by simp) ?_
  have ho2 := Heap.get?_update_self (Obj.mapFields (·.setIfInBounds 1 (rawInt (-1)))) ho (Obj.isFreed_of_fields (Obj.data_mapFields hd _)); revert ho2; intro ho2
  refine wpAny_setField (s := { s with heap := s.heap.update it (Obj.mapFields (·.setIfInBounds 1 (rawInt (-1)))) }) ho2 (Obj.data_mapFields hd _) (by simp) ?_; try dsimp only
  first
  | show wpAny _ _ (newExc (.type "StopIteration") [] >>= _) _ _ _
  | (apply wpAny_bind; show wpAny _ _ (newExc (.type "StopIteration") [] >>= _) _ _ _)
  | (apply wpAny_bind; wp_delta; show wpAny _ _ (newExc (.type "StopIteration") [] >>= _) _ _ _)
  apply wpAny_bind; simp only [newExc, newTuple]; apply wpAny_bind; refine wpAny_newObj_type ?_ (by size_fits)
  apply wpAny_bind (m := firstArgMember _ _); refine wpAny_of_eq (a := Value.none) (by first | rfl | (simp only [firstArgMember]; rfl)) ?_
  refine wpAny_newObj_type ?_ (by size_fits); simp only [raiseNew]; apply wpAny_bind; apply wpAny_handled
  first | rw [show A.in1.handled = none from hh] | rw [hh]
  refine wpAny_bind (wpAny_pure (wpAny_throw (wpAny_bind ?_)))
  refine wpAny_isInstance (T := "StopIteration") (b := true) ⟨_, Heap.get?_push_size _ rfl, rfl⟩ isSubtype_stop ?_
  refine wpAny_pure (hQ _ (((?_ : Heap.ExtBut it s.heap _).push _).push _))
  exact fun b ob hb e => .trans (Heap.get?_update_other _ _ (Ne.symm hb)) (.trans (Heap.get?_update_other _ _ (Ne.symm hb)) e)
theorem iter_rs {it : Addr} {v : Value} {i : Int} {Q : Value → Shared → Prop} (hit : IsRs s.heap it v i) (h : Q (.ref it) s) : wpAny (model prog w) A (pyIter (.ref it)) Q E s := by
  apply wpAny_pyIter_slot hit.ty slot_rt_iter
  refine wpAny_call_entry slot_rt_iter hit.ty entry_rt_iter (?_ : wpAny _ _ (ret (.ref it)) _ _ s) (args_rt_iter _)
  exact wpAny_pure ⟨_, rfl, "reversed", _, hit.ty, slot_rt_next.lookup, h⟩
end
/-- the signs from the last one on -/
def Irs (z : Str) : It :=
  ⟨fun i _ => i < z.cps.size, fun i H x H' => H' = H ∧ ∃ c, z.cps[z.cps.size - 1 - i]? = some c ∧ x = .str ⟨#[c]⟩, fun i _ => z.cps.size ≤ i⟩
theorem turn_rs {P : Program} {w : World} {K : PySem.W.Frag} {tg : Expr} (z : Str) (t : Tok) (it : Addr) (hz : z.length ≤ sizeLine) : Turn P w K tg (Irs z) [it] it (fun i h => i ≤ z.cps.size ∧ IsRs h it (.str z t) ((z.cps.size : Int) - 1 - (i : Nat))) where
  mem := by simp
  obj := fun i h st b hb => by
    obtain rfl : b = it := by simpa using hb
    obtain ⟨_, o, e, c, d⟩ := st
    exact ⟨o, e, fun v y => by rw [d] at y; cases y⟩
  keep := fun i h h' st k => ⟨st.1, st.2.at fun o e => k it (by simp) o e⟩
  item := by
    intro X hP hw hK hc i pins s σ H E I hf st hg
    subst hP hw hK
    have hin : i < z.cps.size := hg
    obtain ⟨f0, f1, f2, f3, f4, f5⟩ := hf it (by simp)
    obtain ⟨_, hit⟩ := st
    have e1 : (z.cps.size : Int) - 1 - ((i : Nat) : Int) = ((z.cps.size - 1 - i : Nat) : Int) := by omega
    rw [e1] at hit
    have hx : z.cps[z.cps.size - 1 - i]? = some (z.cps[z.cps.size - 1 - i]'(by omega)) := Array.getElem?_eq_getElem (by omega)
    refine next_rs hit hx hz fun h' st' sb => ?_
    have e2 : ((z.cps.size - 1 - i : Nat) : Int) - 1 = (z.cps.size : Int) - 1 - ((i + 1 : Nat) : Int) := by omega
    rw [e2] at st'
    have I1 : Inv X pins σ H { s with heap := h', toks := s.toks + 1 + 1 } := I.turned (t' := s.toks + 1 + 1) (fun b o hb e => (sb.2 b hb).trans e) f0 f1 f3 f4 f5
    obtain ⟨o, e, c, d⟩ := id st'
    exact ⟨_, rfl, go_of (s := { s with heap := h', toks := s.toks + 1 + 1 }) e c d (by decide) ⟨.str ⟨#[_]⟩, H, I1, ⟨_, rfl⟩, ⟨rfl, _, hx, rfl⟩, ⟨hin, st'⟩, fun b hb => (hf b hb).1⟩⟩
  done := by
    intro X hP hw hK hc i pins s σ H E I hf st hg
    subst hP hw hK
    obtain ⟨f0, f1, f2, f3, f4, f5⟩ := hf it (by simp)
    obtain ⟨hin, hit⟩ := st
    have hge : z.cps.size ≤ i := hg
    have e1 : (z.cps.size : Int) - 1 - ((i : Nat) : Int) = -1 := by omega
    rw [e1] at hit
    exact end_rs (I.ok.hd hc) hit fun h' eb => ⟨rfl, I.turned (t' := s.toks) (fun b o hb e => eb b o hb e) f0 f1 f3 f4 f5⟩
  self := fun A i s Q E st h => iter_rs st.2 h
def iRevS (te : TE) : TI := fun σ H R => te σ H fun v H1 => ∃ z : Str, v = .str z ∧ z.length ≤ sizeLine ∧ R (Irs z) H1
section
variable {X : Cx} {tg : Expr}
theorem pi_revS {e : Expr} {te : TE} {p pos : Pos} (hg : Gl X "reversed") (hm : X.mg "reversed" = none) (he : PE X e te) (hs : starEach [e] X.env = (false, eval e X.env) :: starEach [] X.env := by rfl) : PI X tg (.Call (.Name "reversed" p) [e] [] pos) (iRevS te) := by
  refine ⟨fun pins s σ H R I h => ?_⟩
  refine Call_ (ld_blt I hg hm PyProof.Rows.boot_reversed ?_)
  refine PyProof.Rows.callWith_type1 (args_cons (thn (he.run pins s σ H _ I h) fun u s1 ⟨v, H1, I1, r1, q1⟩ => args_nil ?_) hs) hs rfl
  obtain ⟨z, rfl, hz, q⟩ := q1
  obtain ⟨t, rfl⟩ := r1
  have hz2 := hz
  rw [sizeLine_eq] at hz2
  have e1 : (z.length : Int) - 1 = (z.cps.size : Int) - 1 - ((0 : Nat) : Int) := by
    have : z.length = z.cps.size := rfl
    omega
  refine call_rs (by omega) (iter_rs (v := .str z t) (i := (z.length : Int) - 1) ⟨_, Heap.get?_push_size _ rfl, rfl, rfl⟩ ?_)
  refine pi_one (tk := s1.toks + 1 + 1) I1 _ (turn_rs z t _ hz) ⟨Nat.zero_le _, ?_⟩ q
  rw [← e1]
  exact ⟨_, Heap.get?_push_size _ rfl, rfl, rfl⟩
end
theorem for_revS {z : Str} {g : TG} {tb : TS} {D : Ends} {σ : L2.St} {H : Hp} (Pv : Nat → L2.St → Hp → Prop) (h0 : Pv 0 σ H)
    (hs : ∀ i c σ H, i < z.cps.size → z.cps[z.cps.size - 1 - i]? = some c → Pv i σ H → g (.str ⟨#[c]⟩) σ H fun σ2 H2 => tb { D with nx := Pv (i + 1), ct := Pv (i + 1), bk := D.nx } σ2 H2) (hd : ∀ σ H, Pv z.cps.size σ H → D.nx σ H) :
    ∃ W : Nat → Nat → L2.St → Hp → Prop, (∃ m, W 0 m σ H) ∧ ∀ i m σ H, W i m σ H →
      ((Irs z).stop i H ∧ D.nx σ H) ∨ ((Irs z).go i H ∧ ∃ N : L2.St → Hp → Prop, (∀ σ' H', N σ' H' → ∃ m', m' < m ∧ W (i + 1) m' σ' H') ∧ ∀ x H', (Irs z).yld i H x H' → g x σ H' fun σ2 H2 => tb { D with nx := N, ct := N, bk := D.nx } σ2 H2) := by
  refine ⟨fun i m σ H => m = z.cps.size - i ∧ i ≤ z.cps.size ∧ Pv i σ H, ⟨z.cps.size, by simp, Nat.zero_le _, h0⟩, ?_⟩
  rintro i m σ H ⟨rfl, hi, p⟩
  by_cases hlt : i < z.cps.size
  · refine .inr ⟨hlt, Pv (i + 1), fun σ' H' p' => ⟨z.cps.size - (i + 1), by omega, rfl, hlt, p'⟩, fun x H' y => ?_⟩
    obtain ⟨rfl, c, hc, rfl⟩ := y
    exact hs i c σ _ hlt hc p
  · obtain rfl : i = z.cps.size := by omega
    exact .inl ⟨Nat.le_refl _, hd σ H p⟩
end Ev
set_option maxHeartbeats 4000000
namespace LawK
open PySem PySem.Spec PyProof.Rows L2 Ev

def big : Nat := 17500
def spNameNumber : Sp := fun vs H Q _ => ∃ (z : Str), vs = [.str z] ∧ sgB z = true ∧ z.length ≤ 2500 ∧ Q (.int (numZ z : Nat)) H
def spUnlikeBit : Sp := fun vs H Q _ => ∃ (a b : Nat), vs = [iN a, iN b] ∧ a ≠ b ∧ a < 2 ^ big ∧ b < 2 ^ big ∧ Q (iN (nextc a b)) H
theorem num_foldl (cs : List Nat) : ∀ n, cs.foldl (fun n c => n * 128 + c) n = n * 128 ^ cs.length + numL cs := by
  induction cs with
  | nil => intro n; simp [numL]
  | cons c cs ih =>
    intro n
    rw [List.foldl_cons, ih]
    have e : numL (c :: cs) = (0 * 128 + c) * 128 ^ cs.length + numL cs := by
      unfold numL
      rw [List.foldl_cons, ih]
      rfl
    rw [e, List.length_cons, Nat.pow_succ, Nat.zero_mul, Nat.zero_add, Nat.add_mul, Nat.mul_comm (128 ^ cs.length) 128, Nat.mul_assoc]
    omega
theorem numL_cons (c : Nat) (cs : List Nat) : numL (c :: cs) = c * 128 ^ cs.length + numL cs := by
  show (c :: cs).foldl (fun n c => n * 128 + c) 0 = _
  rw [List.foldl_cons, num_foldl]
  simp
theorem ubit_of : ∀ (i a b : Nat), (∀ j, j < i → (a / 2 ^ j) % 2 = (b / 2 ^ j) % 2) → (a / 2 ^ i) % 2 ≠ (b / 2 ^ i) % 2 → ubit a b = i
  | 0, a, b, _, h => ubit_ne (by simpa using h)
  | i + 1, a, b, hj, h => by
    have h0 : a % 2 = b % 2 := by
      have := hj 0 (by omega)
      simpa using this
    have ne : a ≠ b := fun e => h (by rw [e])
    have e : ∀ (x j : Nat), x / 2 / 2 ^ j = x / 2 ^ (j + 1) := fun x j => by
      rw [Nat.div_div_eq_div_mul, Nat.pow_succ, Nat.mul_comm]
    rw [ubit_eq ne h0, ubit_of i (a / 2) (b / 2) (fun j g => by rw [e, e]; exact hj (j + 1) (by omega)) (by rw [e, e]; exact h)]
theorem numZ_big {z : Str} (h : sgB z = true) (l : z.length ≤ 2500) : numZ z < 2 ^ big := by
  have h1 : numL z.cps.toList < 2 ^ (7 * z.cps.toList.length) := numL_lt fun c hc => by
    have g := sgB_mem h hc
    unfold sgC at g
    have := of_decide_eq_true (Bool.and_eq_true_iff.mp g).2
    omega
  have h2 : z.cps.toList.length = z.length := Array.length_toList
  rw [h2] at h1
  exact Nat.lt_of_lt_of_le h1 (Nat.pow_le_pow_right (by decide) (by unfold big; omega))
theorem next_big {r : List Nat} (h : Unl r) (hl : ∀ x ∈ r, x < 2 ^ big) : ∀ x ∈ nextRow r, x < 2 ^ big := fun x hx => by
  have h1 := nextRow_lt (k := big) (by decide) h hl x hx
  have h2 : (2 : Nat) ^ 16 ≤ 2 ^ big := Nat.pow_le_pow_right (by decide) (by decide)
  have h3 : (2 : Nat) ^ 16 = 65536 := by decide
  have h4 : big = 17500 := rfl
  omega
theorem rounds_big : ∀ (n : Nat) {r : List Nat}, Row r → (∀ x ∈ r, x < 2 ^ big) → ∀ x ∈ rounds n r, x < 2 ^ big
  | 0, r, _, h => h
  | n + 1, r, hr, h => rounds_big n hr.next (next_big hr.unl h)
theorem nums_big {ns : List Str} (h : Nms ns) : ∀ x ∈ ns.map numZ, x < 2 ^ big := fun x hx => by
  obtain ⟨z, hz, rfl⟩ := List.mem_map.mp hx
  exact numZ_big (h.word z hz).1 (h.word z hz).2.2
section
variable {P : Program} {w : World} {K : PySem.W.Frag} {mg : Str → Option Value} {base : Heap}
abbrev sNameNumber : Stmt := topS 38
theorem scNameNumber : FnScope ["name", "found", "power", "sign"] ["name"] (defScope sNameNumber) := ⟨rfl, rfl, rfl, by decide +kernel, rfl, by decide +kernel, by decide +kernel⟩
theorem ok_NameNumber {f : Addr} {fd : FuncData} (F : Fun K "_law_name_number" "_law_name_number" sNameNumber f fd)   (T : Glob mg) : FnOk P w K mg base CX0 1 f fd ["name"] spNameNumber := by
  refine F.ok scNameNumber (fun vs H Q E h => ?_) (fun cdv A outer s H vs Q E hr h => ?_)
  · obtain ⟨z, rfl, _⟩ := h
    rfl
  · refine ⟨_, (pss_cons (ps_set (i := 1) scNameNumber.nd rfl (.inl rfl) pe_int)
      (pss_cons (ps_set (i := 2) scNameNumber.nd rfl (.inl rfl) pe_int)
      (pss_cons (ps_for PassesOwn.never rfl (pi_revS (by rfl) T.reversed (pv 0)) (pg_name (i := 3) scNameNumber.nd rfl (.inl rfl))
      (pss_cons (ps_set (i := 1) scNameNumber.nd rfl (.inl rfl) (pe_op op_add (pv 1) (pe_op op_mul (pe_callB call_ord (by rfl) T.ord (by decide +kernel) (pa_cons (pv 3) pa_nil)) (pv 2))))
        (pss_one (ps_set (i := 2) scNameNumber.nd rfl (.inl rfl) (pe_op op_mul (pv 2) pe_int)))))
      (pss_one (ps_ret (pv 1)))))), ?_⟩
    obtain ⟨z, rfl, hg, hl, q⟩ := h
    refine ⟨.str z, rfl, z, rfl, len5 (by omega), for_revS (fun i σ H' => ∃ u, σ = [some (.str z), some (.int ((numL (z.cps.toList.drop (z.cps.size - i)) : Nat) : Int)), some (.int ((128 ^ i : Nat) : Int)), u] ∧ H' = H) ⟨none, ?_, rfl⟩ ?_ ?_⟩
    · rw [Nat.sub_zero, List.drop_of_length_le (by rw [Array.length_toList]; exact Nat.le_refl _)]
      rfl
    · rintro i c σ H' hi hc ⟨u, rfl, rfl⟩
      have hc2 : z.cps.toList[z.cps.size - 1 - i]? = some c := by rw [Array.getElem?_toList]; exact hc
      have hs := sgB_mem hg (List.mem_of_getElem? hc2)
      unfold sgC at hs
      have hs2 := of_decide_eq_true (Bool.and_eq_true_iff.mp hs).2
      have li : z.cps.toList.length = z.cps.size := Array.length_toList
      have e1 : z.cps.toList.drop (z.cps.size - (i + 1)) = c :: z.cps.toList.drop (z.cps.size - i) := by
        have g : z.cps.size - (i + 1) < z.cps.toList.length := by omega
        have e2 : z.cps.size - (i + 1) = z.cps.size - 1 - i := by omega
        rw [List.drop_eq_getElem_cons g]
        have e3 : z.cps.size - (i + 1) + 1 = z.cps.size - i := by omega
        rw [e3]
        congr 1
        rw [← e2, List.getElem?_eq_getElem g] at hc2
        exact Option.some.inj hc2
      have e4 : (z.cps.toList.drop (z.cps.size - i)).length = i := by
        rw [List.length_drop]
        omega
      refine ⟨.int ((numL (z.cps.toList.drop (z.cps.size - i)) : Nat) : Int), rfl, .str ⟨#[c]⟩, rfl, ⟨#[c]⟩, rfl, rfl, .int ((128 ^ i : Nat) : Int), rfl, (c : Int), ((128 ^ i : Nat) : Int), rfl, rfl, .inl ⟨by omega, by omega⟩, _, _, rfl, rfl, .int ((128 ^ i : Nat) : Int), rfl, ((128 ^ i : Nat) : Int), 128, rfl, rfl, .inr ⟨by decide, by decide⟩, ⟨some (.str ⟨#[c]⟩), ?_, rfl⟩⟩
      rw [e1, numL_cons, e4, Nat.pow_succ]
      show [_, some (V.int (((numL (z.cps.toList.drop (z.cps.size - i)) : Nat) : Int) + (c : Int) * ((128 ^ i : Nat) : Int))), some (V.int (((128 ^ i : Nat) : Int) * 128)), _] = _
      have e5 : ((numL (z.cps.toList.drop (z.cps.size - i)) : Nat) : Int) + (c : Int) * ((128 ^ i : Nat) : Int) = ((c * 128 ^ i + numL (z.cps.toList.drop (z.cps.size - i)) : Nat) : Int) := by
        rw [Int.natCast_add, Int.natCast_mul, Int.add_comm]
      rw [e5]
      rfl
    · rintro σ H' ⟨u, rfl, rfl⟩
      rw [Nat.sub_self, List.drop_zero]
      exact ⟨_, rfl, q⟩
abbrev sUnlikeBit : Stmt := topS 39
theorem scUnlikeBit : FnScope ["one", "other", "place", "k"] ["one", "other"] (defScope sUnlikeBit) := ⟨rfl, rfl, rfl, by decide +kernel, rfl, by decide +kernel, by decide +kernel⟩
theorem ok_UnlikeBit {f : Addr} {fd : FuncData} (F : Fun K "_law_unlike_bit" "_law_unlike_bit" sUnlikeBit f fd)   (T : Glob mg) : FnOk P w K mg base CX0 1 f fd ["one", "other"] spUnlikeBit := by
  refine F.ok scUnlikeBit (fun vs H Q E h => ?_) (fun cdv A outer s H vs Q E hr h => ?_)
  · obtain ⟨a, b, rfl, _⟩ := h
    rfl
  · refine ⟨_, (pss_cons (ps_set (i := 2) scUnlikeBit.nd rfl (.inl rfl) pe_int)
      (pss_cons (ps_for PassesOwn.never rfl (pi_range1 (by rfl) T.range (pa_cons pe_int pa_nil)) (pg_name (i := 3) scUnlikeBit.nd rfl (.inl rfl))
      (pss_cons (ps_if (pt_cmpR op_ne (pe_op op_mod (pe_callTy call_int1 (by rfl) T.int (by decide +kernel) (pa_cons (pv 0) pa_nil)) pe_int) (pe_op op_mod (pe_callTy call_int1 (by rfl) T.int (by decide +kernel) (pa_cons (pv 1) pa_nil)) pe_int) (nomark _))
        (pss_one ps_break)
        pss_nil)
        (pss_cons (ps_set (i := 0) scUnlikeBit.nd rfl (.inl rfl) (pe_op op_fdiv (pv 0) pe_int))
        (pss_cons (ps_set (i := 1) scUnlikeBit.nd rfl (.inl rfl) (pe_op op_fdiv (pv 1) pe_int))
        (pss_one (ps_set (i := 2) scUnlikeBit.nd rfl (.inl rfl) (pe_op op_add (pv 2) pe_int)))))))
      (pss_one (ps_ret (pe_op op_add (pe_op op_mul pe_int (pv 2)) (pe_op op_mod (pe_callTy call_int1 (by rfl) T.int (by decide +kernel) (pa_cons (pv 1) pa_nil)) pe_int)))))), ?_⟩
    obtain ⟨a, b, rfl, ne, ha, hb, q⟩ := h
    refine ⟨20000, rfl, by decide, by decide, for_range (fun i σ H' => ∃ u, σ = [some (iN (a / 2 ^ i)), some (iN (b / 2 ^ i)), some (iN i), u] ∧ H' = H ∧ ∀ j, j < i → (a / 2 ^ j) % 2 = (b / 2 ^ j) % 2) ⟨none, ?_, rfl, fun j h => by omega⟩ ?_ ?_⟩
    · rw [Nat.pow_zero, Nat.div_one, Nat.div_one]
      rfl
    · rintro i σ H' hi ⟨u, rfl, rfl, hj⟩
      have md : ∀ x : Nat, ((x : Nat) : Int) % 2 = ((x % 2 : Nat) : Int) := fun x => rfl
      have dv : ∀ x : Nat, ((x / 2 ^ i : Nat) : Int) / 2 = ((x / 2 ^ (i + 1) : Nat) : Int) := fun x => by
        rw [Nat.pow_succ, ← Nat.div_div_eq_div_mul]
        rfl
      refine ⟨iN (a / 2 ^ i), rfl, .inl ⟨_, rfl, _, _, rfl, rfl, by show (0 : Int) < 2; decide, iN (b / 2 ^ i), rfl, .inl ⟨_, rfl, _, _, rfl, rfl, by show (0 : Int) < 2; decide, rfl, _, rfl, ite2 (fun c => ?_) (fun c => ?_)⟩⟩⟩
      · have c' : (a / 2 ^ i) % 2 ≠ (b / 2 ^ i) % 2 := fun z => by
          have e : V.int (((a / 2 ^ i : Nat) : Int) % 2) = V.int (((b / 2 ^ i : Nat) : Int) % 2) := by rw [md, md, z]
          have c2 : (!decide (V.int (((a / 2 ^ i : Nat) : Int) % 2) = V.int (((b / 2 ^ i : Nat) : Int) % 2))) = true := c
          rw [decide_eq_true e] at c2
          cases c2
        have eu : ubit a b = i := ubit_of i a b hj c'
        refine ⟨iN i, rfl, _, _, rfl, rfl, .inl ⟨by decide, by decide⟩, iN (b / 2 ^ i), rfl, .inl ⟨_, rfl, _, _, rfl, rfl, by show (0 : Int) < 2; decide, _, _, rfl, rfl, ?_⟩⟩
        have e : nextc a b = 2 * i + (b / 2 ^ i) % 2 := by
          unfold nextc
          rw [eu]
        rw [e] at q
        exact q
      · have c' : (a / 2 ^ i) % 2 = (b / 2 ^ i) % 2 := by
          have c2 : (!decide (V.int (((a / 2 ^ i : Nat) : Int) % 2) = V.int (((b / 2 ^ i : Nat) : Int) % 2))) = false := by simpa using c
          have c3 : decide (V.int (((a / 2 ^ i : Nat) : Int) % 2) = V.int (((b / 2 ^ i : Nat) : Int) % 2)) = true := by
            cases h : decide (V.int (((a / 2 ^ i : Nat) : Int) % 2) = V.int (((b / 2 ^ i : Nat) : Int) % 2)) with
            | true => rfl
            | false => rw [h] at c2; cases c2
          have := V.int.inj (of_decide_eq_true c3)
          rw [md, md] at this
          exact Int.ofNat.inj this
        refine ⟨iN (a / 2 ^ i), rfl, _, _, rfl, rfl, ⟨by decide, by decide⟩, iN (b / 2 ^ i), rfl, _, _, rfl, rfl, ⟨by decide, by decide⟩, iN i, rfl, _, _, rfl, rfl, ⟨some (.int (0 + (i : Int))), ?_, rfl, fun j h => ?_⟩⟩
        · show [some (V.int (((a / 2 ^ i : Nat) : Int) / 2)), some (V.int (((b / 2 ^ i : Nat) : Int) / 2)), _, _] = _
          rw [dv, dv]
          rfl
        · by_cases g : j = i
          · rw [g]
            exact c'
          · exact hj j (by omega)
    · rintro σ H' ⟨u, rfl, rfl, hj⟩
      have h1 := ubit_lt big a b ne ha hb
      have h2 : big = 17500 := rfl
      exact absurd (hj (ubit a b) (by show _ < 20000; omega)) (ubit_bit a b ne)
end
end LawK
set_option maxHeartbeats 4000000
namespace LawK
open PySem PySem.Spec PyProof.Rows L2 Ev

def spLike : Sp := fun vs H Q _ => ∃ (a : Addr) (ns : List Str) (k : Nat), vs = [.ref a, iN k] ∧ H a = some (.tup (ns.map V.str)) ∧ ns.length ≤ 3000 ∧ k < ns.length ∧ Q (.bl (!alB ns k)) H
theorem rsN_al {ns : List Str} {k : Nat} (h : alB ns k = true) : rsN ns (k + 1) = rsN ns k := by
  show (if alB ns k = true then _ else _) = _
  rw [if_pos h]
theorem rsN_no {ns : List Str} {k : Nat} (h : k = 0 ∨ alB ns (k - 1) = false) : rsN ns k = k := rsN_run h 0 fun j h1 h2 => by omega
theorem rsN_le (ns : List Str) : ∀ (k : Nat), rsN ns k ≤ k
  | 0 => Nat.le_refl _
  | k + 1 => by
    show (if alB ns k = true then rsN ns k else k + 1) ≤ _
    have := rsN_le ns k
    split <;> omega
theorem reF_all (ns : List Str) : ∀ (m k j : Nat), k ≤ j → j < reF ns m k → alB ns j = true
  | 0, k, j, h1, h2 => by
    have : reF ns 0 k = k := rfl
    omega
  | m + 1, k, j, h1, h2 => by
    have e : reF ns (m + 1) k = if alB ns k = true then reF ns m (k + 1) else k := rfl
    by_cases a : alB ns k = true
    · rw [e, if_pos a] at h2
      by_cases g : j = k
      · rw [g]
        exact a
      · exact reF_all ns m (k + 1) j (by omega) h2
    · rw [e, if_neg a] at h2
      omega
theorem reN_all {ns : List Str} {k j : Nat} (h1 : k ≤ j) (h2 : j < reN ns k) : alB ns j = true := reF_all ns _ k j h1 h2
theorem get1 {r : List Nat} {i : Nat} (h : i < r.length) : r[i]? = some (r.getD i 0) := by
  rw [List.getElem?_eq_getElem h]
  simp [List.getD, List.getElem?_eq_getElem h]
section
variable {P : Program} {w : World} {K : PySem.W.Frag} {mg : Str → Option Value} {base : Heap}
abbrev sCoins : Stmt := topS 40
theorem scCoins : FnScope ["names", "row", "turn", "later", "k", "name"] ["names"] (defScope sCoins) := ⟨rfl, rfl, rfl, by decide +kernel, rfl, by decide +kernel, by decide +kernel⟩
theorem ok_Coins {f : Addr} {fd : FuncData} (F : Fun K "_law_coins" "_law_coins" sCoins f fd)  {fNameNumber : Addr} {fdNameNumber : FuncData} (DNameNumber : Dk P w K mg base "_law_name_number" sNameNumber ["name"] 1 spNameNumber fNameNumber fdNameNumber) {fUnlikeBit : Addr} {fdUnlikeBit : FuncData} (DUnlikeBit : Dk P w K mg base "_law_unlike_bit" sUnlikeBit ["one", "other"] 1 spUnlikeBit fUnlikeBit fdUnlikeBit) (T : Glob mg) : FnOk P w K mg base CX0 2 f fd ["names"] spCoins := by
  refine F.ok scCoins (fun vs H Q E h => ?_) (fun cdv A outer s H vs Q E hr h => ?_)
  · obtain ⟨a, ns, rfl, _⟩ := h
    rfl
  · refine ⟨_, (pss_cons (ps_setLc (i := 1) (own := [("name", 5)]) (g := gName 5) (by rfl) scCoins.nd rfl rfl (sw_true rfl rfl rfl (by decide +kernel)) (pi_tup (pv 0)) (blkOk_by (N := ["names", "row", "turn", "later", "k", "name"]) (sc := defScope sCoins) (by decide +kernel)) (fun _ _ _ _ _ => pg_name (i := 5) scCoins.nd rfl (.inl rfl)) (fun _ _ _ _ _ => pts_nil) (fun _ _ _ _ _ => (pe_call DNameNumber.ok (hr.mono (by decide)) (by rfl) DNameNumber.g DNameNumber.F.kp DNameNumber.b .nil pass0 (pa_cons (pv 5) pa_nil))))
      (pss_cons (ps_for PassesOwn.never rfl (pi_range1 (by rfl) T.range (pa_cons pe_int pa_nil)) (pg_name (i := 2) scCoins.nd rfl (.inl rfl))
      (pss_cons (ps_set (i := 3) scCoins.nd rfl (.inl rfl) (pe_lst (pa_cons (pe_op op_mod (pe_callTy call_int1 (by rfl) T.int (by decide +kernel) (pa_cons (pe_ix ix_list (pv 1) pe_int (fun _ _ => rfl)) pa_nil)) pe_int) pa_nil)))
        (pss_cons (ps_for PassesOwn.never rfl (pi_range2 (by rfl) T.range (pa_cons pe_int (pa_cons (pe_callB call_len_seq (by rfl) T.len PySem.boot_len (pa_cons (pv 1) pa_nil)) pa_nil))) (pg_name (i := 4) scCoins.nd rfl (.inl rfl))
        (pss_one (ps_expr (pe_bm PySem.F.plainAttrs_list PySem.F.slot_list_append PySem.F.type_list_append mt_append (pv 3) (pa_cons (pe_call DUnlikeBit.ok (hr.mono (by decide)) (by rfl) DUnlikeBit.g DUnlikeBit.F.kp DUnlikeBit.b .nil pass0 (pa_cons (pe_ix ix_list (pv 1) (pe_op op_sub (pv 4) pe_int) (fun _ _ => rfl)) (pa_cons (pe_ix ix_list (pv 1) (pv 4) (fun _ _ => rfl)) pa_nil))) pa_nil)))))
        (pss_one (ps_set (i := 1) scCoins.nd rfl (.inl rfl) (pv 3))))))
      (pss_one (ps_ret (pv 1))))), ?_⟩
    obtain ⟨a, ns, rfl, ha, hn, ne, hu, q⟩ := h
    have few := hn.few
    refine ⟨.ref a, rfl, a, rfl, ⟨_, SqT.of ha⟩, fun D nD => lc_tup (xs := ns.map V.str) (fun i H1 => Same H H1 ∧ H1 D = some (.lst (((ns.map numZ).take i).map iN))) ⟨Same.new nD, upd_same⟩ (fun i H1 _ g => SqT.of (g.1 _ _ ha)) ?_ ?_⟩
    · rintro i v H1 hv ⟨k1, hD1⟩
      rw [List.getElem?_map] at hv
      obtain ⟨z, hz, rfl⟩ := Option.map_eq_some_iff.mp hv
      have li := (List.getElem?_eq_some_iff.mp hz).1
      have wz := hn.word z (List.mem_of_getElem? hz)
      refine ⟨rfl, .str z, rfl, z, rfl, wz.1, wz.2.2, _, hD1, ?_, sameAt k1 nD, ?_⟩
      · rw [List.length_map, List.length_take]
        show _ < 16777216
        omega
      · rw [upd_same, take_succ' (x := numZ z) (by rw [List.getElem?_map, hz]; rfl), List.map_append]
        rfl
    rintro H1 ⟨k1, hD1⟩
    rw [List.take_of_length_le (by rw [List.length_map, List.length_map]; exact Nat.le_refl _)] at hD1
    have r0 : Row (ns.map numZ) := ⟨fun e => ne (List.map_eq_nil_iff.mp e), nums_unl hn hu, by rw [List.length_map]; exact few⟩
    have b0 := nums_big hn
    refine ⟨5, rfl, by decide, by decide, for_range (fun i σ H2 => ∃ (u1 u2 u3 : Option V) (l : Addr), σ = [some (.ref a), some (.ref l), u1, u2, u3, none] ∧ H l = none ∧ H2 l = some (.lst ((rounds i (ns.map numZ)).map iN)) ∧ Same H H2) ⟨none, none, none, D, rfl, nD, hD1, k1⟩ ?_ ?_⟩
    · rintro i σ H2 hi ⟨u1, u2, u3, l, rfl, nl, hl, k2⟩
      have rr := rounds_row i r0
      have bb := rounds_big i r0 b0
      rw [rounds_succ]
      revert hl rr bb
      generalize rounds i (ns.map numZ) = r
      intro hl rr bb
      cases r with
      | nil => exact absurd rfl rr.ne
      | cons x r =>
      have s1 : (1 : Nat) ≤ sizeLine := by decide
      have fr := rr.few
      have fr2 : r.length + 1 ≤ 3000 := fr
      refine ⟨.ref l, rfl, l, _, 0, .int (x : Int), rfl, rfl, sq_of hl, atI_nat (j := 0) rfl, .inl ⟨_, rfl, _, _, rfl, rfl, by show (0 : Int) < 2; decide, s1, fun D3 nD3 => ?_⟩⟩
      have kD := Same.new (o := .lst [.int ((x : Int) % 2)]) nD3
      have hD3 : upd H2 D3 (.lst [.int ((x : Int) % 2)]) D3 = some (.lst (((x % 2 :: (zipN (x :: r)).take 0) : List Nat).map iN)) := by
        rw [upd_same]
        rfl
      revert kD hD3
      generalize upd H2 D3 (.lst [.int ((x : Int) % 2)]) = H3
      intro kD hD3
      have nDH : H D3 = none := Same.free k2 nD3
      have nlD : l ≠ D3 := fun z => by rw [z, nD3] at hl; cases hl
      refine ⟨.ref l, rfl, l, _, rfl, .inl (sq_of (kD _ _ hl)), _, _, rfl, ?_⟩
      have lenm : ((x :: r).map iN).length = r.length + 1 := by rw [List.length_map]; rfl
      rw [lenm]
      have e0 : (((r.length + 1 : Nat) : Int) - 1).toNat = r.length := by omega
      refine ⟨⟨by omega, by omega, by omega, by omega⟩, ?_⟩
      rw [e0]
      refine for_range (fun j σ H4 => ∃ (u3 : Option V), σ = [some (.ref a), some (.ref l), some (.int (0 + (i : Int))), some (.ref D3), u3, none] ∧ (∀ c u, c ≠ D3 → H3 c = some u → H4 c = some u) ∧ H4 D3 = some (.lst ((x % 2 :: (zipN (x :: r)).take j).map iN))) ⟨u3, rfl, fun c u _ e => e, hD3⟩ ?_ ?_
      · rintro j σ H4 hj ⟨u3, rfl, k4, hD4⟩
        have g1 : (x :: r)[j]? = some ((x :: r).getD j 0) := get1 (by show j < r.length + 1; omega)
        have g2 : (x :: r)[j + 1]? = some ((x :: r).getD (j + 1) 0) := get1 (by show j + 1 < r.length + 1; omega)
        have hl4 := k4 _ _ nlD (kD _ _ hl)
        have i1 : atI ((x :: r).map iN) ((1 : Int) + (j : Int) - 1) = some (iN ((x :: r).getD j 0)) := by
          rw [show (1 : Int) + (j : Int) - 1 = (j : Int) by omega]
          exact iN_at (by show j < r.length + 1; omega)
        have i2 : atI ((x :: r).map iN) ((1 : Int) + (j : Int)) = some (iN ((x :: r).getD (j + 1) 0)) := by
          rw [show (1 : Int) + (j : Int) = ((j + 1 : Nat) : Int) by omega]
          exact iN_at (by show j + 1 < r.length + 1; omega)
        have lz := zipN_len (x :: r)
        refine ⟨.ref D3, rfl, .inl ⟨rfl, _, sq_of hD4⟩, .ref l, rfl, .int ((1 : Int) + (j : Int)), rfl, _, _, rfl, rfl, l, _, _, _, rfl, rfl, sq_of hl4, i1, .ref l, rfl, .int ((1 : Int) + (j : Int)), rfl, l, _, _, _, rfl, rfl, sq_of hl4, i2, (x :: r).getD j 0, (x :: r).getD (j + 1) 0, rfl, rr.unl j _ _ g1 g2, bb _ (List.mem_of_getElem? g1), bb _ (List.mem_of_getElem? g2), D3, _, _, rfl, rfl, hD4, ?_, ?_⟩
        · rw [List.length_map, List.length_cons, List.length_take]
          show _ < 16777216
          omega
        · refine ⟨_, rfl, fun c u nc hc => ?_, ?_⟩
          · rw [upd_ne nc]
            exact k4 _ _ nc hc
          · rw [upd_same, take_succ' (zipN_get (x :: r) j _ _ g1 g2)]
            simp [iN]
      · rintro σ H4 ⟨u3, rfl, k4, hD4⟩
        have e : (zipN (x :: r)).take r.length = zipN (x :: r) := List.take_of_length_le (by rw [zipN_len]; exact Nat.le_refl _)
        rw [e] at hD4
        refine ⟨.ref D3, rfl, _, _, _, D3, rfl, nDH, hD4, fun c u hc => k4 _ _ (fun z => by rw [z, nDH] at hc; cases hc) (kD _ _ (k2 _ _ hc))⟩
    · rintro σ H2 ⟨u1, u2, u3, l, rfl, nl, hl, k2⟩
      exact ⟨_, rfl, q l H2 nl hl k2⟩
abbrev sLike : Stmt := topS 41
theorem scLike : FnScope ["names", "k"] ["names", "k"] (defScope sLike) := ⟨rfl, rfl, rfl, by decide +kernel, rfl, by decide +kernel, by decide +kernel⟩
theorem ok_Like {f : Addr} {fd : FuncData} (F : Fun K "_law_like" "_law_like" sLike f fd)   (T : Glob mg) : FnOk P w K mg base CX0 1 f fd ["names", "k"] spLike := by
  refine F.ok scLike (fun vs H Q E h => ?_) (fun cdv A outer s H vs Q E hr h => ?_)
  · obtain ⟨a, ns, k, rfl, _⟩ := h
    rfl
  · refine ⟨_, (pss_cons (ps_if (PW.pt (pw_and (pt_cmpR op_gt (pv 1) pe_int (nomark _)) (pw_and1 (pt_cmpR op_eq (pe_ix ix_tup (pv 0) (pe_op op_sub (pv 1) pe_int) (fun _ _ => rfl)) (pe_ix ix_tup (pv 0) (pv 1) (fun _ _ => rfl)) (nomark _)))))
      (pss_one (ps_ret pe_bl))
      pss_nil)
      (pss_one (ps_ret (pe_and (pe_cmpR op_lt (pe_op op_add (pv 1) pe_int) (pe_callB call_len_seq (by rfl) T.len PySem.boot_len (pa_cons (pv 0) pa_nil)) (nomark _)) (pe_one (pe_cmpR op_eq (pe_ix ix_tup (pv 0) (pe_op op_add (pv 1) pe_int) (fun _ _ => rfl)) (pe_ix ix_tup (pv 0) (pv 1) (fun _ _ => rfl)) (nomark _))))))), ?_⟩
    obtain ⟨a, ns, k, rfl, ha, few, hk, q⟩ := h
    have fin : ∀ b, b = (!alB ns k) → Q (.bl b) H := fun b e => by
      rw [e]
      exact q
    have lst : newB ns k = true → ∀ b, b = (decide (k + 1 < ns.length) && decide (V.str (nmA ns (k + 1)) = V.str (nmA ns k))) → Q (.bl b) H := fun h b hb => fin b (by
      rw [hb]
      unfold alB
      rw [h, Bool.true_and]
      by_cases c : k + 1 < ns.length
      · rw [decide_eq_true c, decide_eq_false (show ¬ k + 1 = ns.length by omega), Bool.true_and, Bool.false_or, newB_pos (k := k + 1) (by omega), Bool.not_not]
        rfl
      · rw [decide_eq_false c, decide_eq_true (show k + 1 = ns.length by omega)]
        rfl)
    have ep : (k : Int) + 1 = ((k + 1 : Nat) : Int) := rfl
    refine ⟨iN k, rfl, _, _, rfl, rfl, _, rfl, ite2 (fun c => ?_) (fun c => ?_)⟩
    · have c' : 0 < k := Int.ofNat_lt.mp (of_decide_eq_true c)
      have em : (k : Int) - 1 = ((k - 1 : Nat) : Int) := by omega
      refine ⟨.ref a, rfl, iN k, rfl, _, _, rfl, rfl, a, _, _, .str (nmA ns (k - 1)), rfl, rfl, SqT.of ha, by
        rw [em]
        exact nm_at (by omega), .ref a, rfl, iN k, rfl, a, _, _, .str (nmA ns k), rfl, rfl, SqT.of ha, nm_at hk, rfl, _, rfl, ite2 (fun g => ?_) (fun g => ?_)⟩
      · have g' := V.str.inj (of_decide_eq_true g)
        refine fin true ?_
        unfold alB
        rw [newB_pos (by omega), decide_eq_true (congrArg V.str g'.symm)]
        rfl
      · have hnew : newB ns k = true := by
          rw [newB_pos (by omega), decide_eq_false fun z => g (decide_eq_true z.symm)]
          rfl
        have lm : (ns.map V.str).length = ns.length := List.length_map ..
        refine ⟨iN k, rfl, _, _, rfl, rfl, .ref a, rfl, a, _, rfl, .inr (SqT.of ha), _, _, rfl, rfl, _, rfl, ite2 (fun d => ?_) (fun d => ?_)⟩
        · have d' : k + 1 < ns.length := by
            have := of_decide_eq_true d
            rw [lm] at this
            omega
          refine ⟨.ref a, rfl, iN k, rfl, _, _, rfl, rfl, a, _, _, .str (nmA ns (k + 1)), rfl, rfl, SqT.of ha, nm_at d', .ref a, rfl, iN k, rfl, a, _, _, _, rfl, rfl, SqT.of ha, nm_at hk, rfl, lst hnew _ ?_⟩
          rw [decide_eq_true d', Bool.true_and]
        · have d' : ¬ k + 1 < ns.length := fun z => d (decide_eq_true (by rw [lm]; omega))
          refine lst hnew _ ?_
          rw [decide_eq_false d', Bool.false_and]
    · have c' : k = 0 := Classical.byContradiction fun z => c (decide_eq_true (by omega))
      have hnew : newB ns k = true := by
        rw [c']
        rfl
      have lm : (ns.map V.str).length = ns.length := List.length_map ..
      refine ⟨iN k, rfl, _, _, rfl, rfl, .ref a, rfl, a, _, rfl, .inr (SqT.of ha), _, _, rfl, rfl, _, rfl, ite2 (fun d => ?_) (fun d => ?_)⟩
      · have d' : k + 1 < ns.length := by
          have := of_decide_eq_true d
          rw [lm] at this
          omega
        refine ⟨.ref a, rfl, iN k, rfl, _, _, rfl, rfl, a, _, _, .str (nmA ns (k + 1)), rfl, rfl, SqT.of ha, nm_at d', .ref a, rfl, iN k, rfl, a, _, _, _, rfl, rfl, SqT.of ha, nm_at hk, rfl, lst hnew _ ?_⟩
        rw [decide_eq_true d', Bool.true_and]
      · have d' : ¬ k + 1 < ns.length := fun z => d (decide_eq_true (by rw [lm]; omega))
        refine lst hnew _ ?_
        rw [decide_eq_false d', Bool.false_and]
end
end LawK
set_option maxHeartbeats 4000000
namespace LawK
open PySem PySem.Spec PyProof.Rows L2 Ev

def nal (ns : List Str) (k : Nat) : Bool := !alB ns k
def likL (ns : List Str) (j : Nat) : List V := ((List.range j).map (nal ns)).map V.bl
/-- what the law keeps of a row -/
def RowAt (ns : List Str) (L : Addr) (H : Hp) (i : Nat) (bg : Int) (u5 u6 : Option V) : Prop :=
  ∃ (be rw : Addr) (xs : List Nat), bg = ((rsN ns i : Nat) : Int) ∧ u5 = some (.ref be) ∧ u6 = some (.ref rw) ∧ be ≠ L ∧ rw ≠ L ∧ H be = some (.lst (xs.map iN)) ∧ xs[0]? = some (reN ns i) ∧ H rw = some (.lst ((coinsN (segN ns (rsN ns i) (reN ns i))).map iN))
theorem filt_succ (p : Nat → Bool) (i m : Nat) : ((((List.range (m + 1)).map (i + ·)).filter p).map iN) = ((((List.range m).map (i + ·)).filter p).map iN) ++ (if p (i + m) = true then [iN (i + m)] else []) := by
  rw [List.range_succ, List.map_append, List.filter_append, List.map_append]
  congr 1
  show (List.filter p [i + m]).map iN = _
  rw [List.filter_cons]
  split <;> rfl
section
variable {P : Program} {w : World} {K : PySem.W.Frag} {mg : Str → Option Value} {base : Heap}
abbrev sGroups : Stmt := topS 42
theorem scGroups : FnScope ["names", "like", "found", "begin", "k", "behind", "row", "here", "j"] ["names"] (defScope sGroups) := ⟨rfl, rfl, rfl, by decide +kernel, rfl, by decide +kernel, by decide +kernel⟩
theorem ok_Groups {f : Addr} {fd : FuncData} (F : Fun K "_law_groups" "_law_groups" sGroups f fd)  {fCoins : Addr} {fdCoins : FuncData} (DCoins : Dk P w K mg base "_law_coins" sCoins ["names"] 2 spCoins fCoins fdCoins) {fLike : Addr} {fdLike : FuncData} (DLike : Dk P w K mg base "_law_like" sLike ["names", "k"] 1 spLike fLike fdLike) (T : Glob mg) : FnOk P w K mg base CX0 3 f fd ["names"] spGroups := by
  refine F.ok scGroups (fun vs H Q E h => ?_) (fun cdv A outer s H vs Q E hr h => ?_)
  · obtain ⟨a, ns, rfl, _⟩ := h
    rfl
  · refine ⟨_, (pss_cons (ps_set (i := 1) scGroups.nd rfl (.inr rfl) (pe_lc (own := [("k", 4)]) (g := gName 4) (by rfl) scGroups.nd (pi_range1 (by rfl) T.range (pa_cons (pe_callB call_len_seq (by rfl) T.len PySem.boot_len (pa_cons (pv 0) pa_nil)) pa_nil)) (blkOk_by (N := ["names", "like", "found", "begin", "k", "behind", "row", "here", "j"]) (sc := defScope sGroups) (by decide +kernel)) (fun _ _ _ _ _ => pg_name (i := 4) scGroups.nd rfl (.inl rfl)) (fun _ _ _ _ _ => pts_nil) (fun _ _ _ _ _ => (pe_call DLike.ok (hr.mono (by decide)) (by rfl) DLike.g DLike.F.kp DLike.b .nil pass0 (pa_cons (pv 0) (pa_cons (pv 4) pa_nil))))))
      (pss_cons (ps_set (i := 2) scGroups.nd rfl (.inl rfl) (pe_lst pa_nil))
      (pss_cons (ps_set (i := 3) scGroups.nd rfl (.inl rfl) pe_int)
      (pss_cons (ps_for PassesOwn.never rfl (pi_range1 (by rfl) T.range (pa_cons (pe_callB call_len_seq (by rfl) T.len PySem.boot_len (pa_cons (pv 0) pa_nil)) pa_nil)) (pg_name (i := 4) scGroups.nd rfl (.inl rfl))
      (pss_one (ps_if (pt_val (pe_ix ix_list (pv 1) (pv 4) (fun _ _ => rfl)))
        (pss_one (ps_if (PW.pt (pw_or (pt_cmpR op_eq (pv 4) pe_int (nomark _)) (pw_or1 (pt_cmpR op_ne (pe_ix ix_tup (pv 0) (pe_op op_sub (pv 4) pe_int) (fun _ _ => rfl)) (pe_ix ix_tup (pv 0) (pv 4) (fun _ _ => rfl)) (nomark _)))))
          (pss_one (ps_expr (pe_bm PySem.F.plainAttrs_list PySem.F.slot_list_append PySem.F.type_list_append mt_append (pv 2) (pa_cons (pv 4) pa_nil))))
          pss_nil))
        (pss_one (ps_if (PW.pt (pw_or (pt_cmpR op_eq (pv 4) pe_int (nomark _)) (pw_or1 (pt_val (pe_ix ix_list (pv 1) (pe_op op_sub (pv 4) pe_int) (fun _ _ => rfl))))))
          (pss_cons (ps_expr (pe_bm PySem.F.plainAttrs_list PySem.F.slot_list_append PySem.F.type_list_append mt_append (pv 2) (pa_cons (pv 4) pa_nil)))
            (pss_cons (ps_set (i := 3) scGroups.nd rfl (.inl rfl) (pv 4))
            (pss_cons (ps_set (i := 5) scGroups.nd rfl (.inl rfl) (pe_op op_cat (pe_lc (own := [("j", 8)]) (g := gName 8) (by rfl) scGroups.nd (pi_range2 (by rfl) T.range (pa_cons (pv 4) (pa_cons (pe_callB call_len_seq (by rfl) T.len PySem.boot_len (pa_cons (pv 0) pa_nil)) pa_nil))) (blkOk_by (N := ["names", "like", "found", "begin", "k", "behind", "row", "here", "j"]) (sc := defScope sGroups) (by decide +kernel)) (fun _ _ _ _ _ => pg_name (i := 8) scGroups.nd rfl (.inl rfl)) (fun _ _ _ _ _ => (pts_one (pt_val (pe_ix (r := rIxL K) ix_list (pv 1) (pv 8) (fun _ _ => rfl))))) (fun _ _ _ _ _ => (pv 8))) (pe_lst (pa_cons (pe_callB call_len_seq (by rfl) T.len PySem.boot_len (pa_cons (pv 0) pa_nil)) pa_nil))))
            (pss_one (ps_set (i := 6) scGroups.nd rfl (.inl rfl) (pe_call DCoins.ok (hr.mono (by decide)) (by rfl) DCoins.g DCoins.F.kp DCoins.b .nil pass0 (pa_cons (pe_slice sl_tupM (pv 0) (po_some (pv 4)) (po_some (pe_ix ix_list (pv 5) pe_int (fun _ _ => rfl)))) pa_nil)))))))
          (pss_one (ps_if (pt_cmpR op_lt (pe_op op_add (pv 4) pe_int) (pe_ix ix_list (pv 5) pe_int (fun _ _ => rfl)) (nomark _))
            (pss_cons (ps_set (i := 7) scGroups.nd rfl (.inl rfl) (pe_op op_sub (pv 4) (pv 3)))
              (pss_one (ps_if (PW.pt (pw_and (pt_cmpR op_lt (pe_ix ix_list (pv 6) (pe_op op_sub (pv 7) pe_int) (fun _ _ => rfl)) (pe_ix ix_list (pv 6) (pv 7) (fun _ _ => rfl)) (nomark _)) (pw_and1 (pt_cmpR op_gt (pe_ix ix_list (pv 6) (pv 7) (fun _ _ => rfl)) (pe_ix ix_list (pv 6) (pe_op op_add (pv 7) pe_int) (fun _ _ => rfl)) (nomark _)))))
              (pss_one (ps_expr (pe_bm PySem.F.plainAttrs_list PySem.F.slot_list_append PySem.F.type_list_append mt_append (pv 2) (pa_cons (pv 4) pa_nil))))
              pss_nil)))
            pss_nil)))))))
      (pss_one (ps_ret (pv 2))))))), ?_⟩
    obtain ⟨a, ns, rfl, ha, hn, q⟩ := h
    have few := hn.few
    refine ⟨.ref a, rfl, a, _, rfl, .inr (SqT.of ha), ?_⟩
    rw [List.length_map]
    refine ⟨_, rfl, by omega, by omega, fun D nD => lc_range (fun j H1 => Same H H1 ∧ H1 D = some (.lst (likL ns j))) ⟨Same.new nD, upd_same⟩ ?_ ?_⟩
    · rintro j H1 hj ⟨k1, hD1⟩
      have hj2 : j < ns.length := by omega
      have z0 : (0 : Int) + (j : Int) = (j : Int) := Int.zero_add _
      rw [z0]
      refine ⟨rfl, .ref a, rfl, .int (j : Int), rfl, a, ns, j, rfl, k1 _ _ ha, few, hj2, _, hD1, ?_, sameAt k1 nD, ?_⟩
      · unfold likL
        rw [bl_len]
        show _ < 16777216
        omega
      · unfold likL
        rw [upd_same, bl_succ]
        rfl
    rintro H1 ⟨k1, hD1⟩
    rw [show (((ns.length : Nat) : Int)).toNat = ns.length from Int.toNat_natCast _] at hD1
    refine ⟨by show 0 ≤ sizeLine; decide, fun L nL => ?_⟩
    have k3 := Same.new (o := .lst []) nL
    have kH := k1.trans k3
    have hDa := k3 _ _ hD1
    have haa := kH _ _ ha
    have hL0 : upd H1 L (.lst []) L = some (.lst ((groupsTo ns 0).map iN)) := upd_same
    have nLH : H L = none := Same.free k1 nL
    have nDL : D ≠ L := fun z => by rw [z, nL] at hD1; cases hD1
    have naL : a ≠ L := fun z => by rw [z, nLH] at ha; cases ha
    revert k3 kH hDa haa hL0
    generalize upd H1 L (.lst []) = H3
    intro k3 kH hDa haa hL0
    refine ⟨.ref a, rfl, a, _, rfl, .inr (SqT.of haa), ?_⟩
    rw [List.length_map]
    refine ⟨_, rfl, by omega, by omega, for_range (fun i σ H4 => ∃ (bg : Int) (u4 u5 u6 u7 : Option V), σ = [some (.ref a), some (.ref D), some (.ref L), some (.int bg), u4, u5, u6, u7, none] ∧ (∀ c o, c ≠ L → H3 c = some o → H4 c = some o) ∧ H4 L = some (.lst ((groupsTo ns i).map iN)) ∧ (0 < i → alB ns (i - 1) = true → RowAt ns L H4 (i - 1) bg u5 u6)) ⟨0, none, none, none, none, rfl, fun c o _ e => e, hL0, fun h => absurd h (by decide)⟩ ?_ ?_⟩
    · rintro i σ H4 hi ⟨bg, u4, u5, u6, u7, rfl, k4, hL4, hrow⟩
      have hi2 : i < ns.length := by omega
      have z0 : (0 : Int) + (i : Int) = (i : Int) := Int.zero_add _
      rw [z0]
      have hDn := sq_of (K := K) (k4 _ _ nDL hDa)
      have ha4 := k4 _ _ naL haa
      have lg := groupsTo_len ns i
      have app : ∀ (H5 : Hp), H5 L = some (.lst ((groupsTo ns i).map iN)) → begB ns i = true → upd H5 L (.lst ((groupsTo ns i).map iN ++ [.int (i : Int)])) L = some (.lst ((groupsTo ns (i + 1)).map iN)) := fun H5 h e => by
        rw [upd_same, groupsTo_succ, e, if_pos rfl, List.map_append]
        rfl
      have stay : begB ns i = false → groupsTo ns (i + 1) = groupsTo ns i := fun e => by
        rw [groupsTo_succ, e, if_neg (by decide), List.append_nil]
      have szL : ((groupsTo ns i).map iN).length < sizeLine := by
        rw [List.length_map]
        show _ < 16777216
        omega
      refine ⟨.ref D, rfl, .int (i : Int), rfl, D, _, _, .bl (nal ns i), rfl, rfl, hDn, bl_at hi2, _, rfl, ite2 (fun c => ?_) (fun c => ?_)⟩
      · have al : alB ns i = false := by
          have c' : (!alB ns i) = true := c
          simpa using c'
        have bb : begB ns i = newB ns i := by
          unfold begB
          rw [if_neg (by rw [al]; decide)]
        have nrow : ∀ (H5 : Hp) (u4 u5 u6 : Option V), 0 < i + 1 → alB ns (i + 1 - 1) = true → RowAt ns L H5 (i + 1 - 1) bg u5 u6 := fun H5 u4 u5 u6 _ h => by
          rw [show i + 1 - 1 = i from rfl, al] at h
          cases h
        have yes : newB ns i = true → _ := fun h : newB ns i = true => app H4 hL4 (bb.trans h)
        refine ⟨.int (i : Int), rfl, rfl, _, rfl, ite2 (fun d => ?_) (fun d => ?_)⟩
        · have d' : i = 0 := by
            have := V.int.inj (of_decide_eq_true d)
            omega
          refine ⟨.ref L, rfl, .inl ⟨rfl, _, sq_of hL4⟩, .int (i : Int), rfl, L, _, _, rfl, rfl, hL4, szL, ?_⟩
          exact ⟨bg, _, _, _, _, rfl, fun c o n h => by rw [upd_ne n]; exact k4 c o n h, yes (by rw [d']; rfl), nrow _ u4 _ _⟩
        · have d' : i ≠ 0 := fun z => d (by rw [z]; rfl)
          have em : (i : Int) - 1 = ((i - 1 : Nat) : Int) := by omega
          refine ⟨.ref a, rfl, .int (i : Int), rfl, _, _, rfl, rfl, a, _, _, .str (nmA ns (i - 1)), rfl, rfl, SqT.of ha4, by
            rw [em]
            exact nm_at (by omega), .ref a, rfl, .int (i : Int), rfl, a, _, _, .str (nmA ns i), rfl, rfl, SqT.of ha4, nm_at hi2, rfl, _, rfl, ite2 (fun g => ?_) (fun g => ?_)⟩
          · have hnew : newB ns i = true := by
              rw [newB_pos d', decide_eq_false fun z => ?_]
              · rfl
              · have g2 : (!decide (V.str (nmA ns (i - 1)) = V.str (nmA ns i))) = true := g
                rw [decide_eq_true z.symm] at g2
                cases g2
            refine ⟨.ref L, rfl, .inl ⟨rfl, _, sq_of hL4⟩, .int (i : Int), rfl, L, _, _, rfl, rfl, hL4, szL, ?_⟩
            exact ⟨bg, _, _, _, _, rfl, fun c o n h => by rw [upd_ne n]; exact k4 c o n h, yes hnew, nrow _ u4 _ _⟩
          · have hold : newB ns i = false := by
              rw [newB_pos d', decide_eq_true (Classical.byContradiction fun z => g ?_)]
              · rfl
              · show (!decide (V.str (nmA ns (i - 1)) = V.str (nmA ns i))) = true
                rw [decide_eq_false fun y => z y.symm]
                rfl
            refine ⟨bg, _, _, _, _, rfl, k4, ?_, nrow _ u4 _ _⟩
            rw [hL4, stay (bb.trans hold)]
      · have al : alB ns i = true := by
          have c' : ¬ (!alB ns i) = true := c
          simpa using c'
        have rle := reN_le (ns := ns) (k := i) (by omega)
        have rlt : i < reN ns i := by
          have h1 := reN_al hi2 al
          have h2 := (reN_le (ns := ns) (k := i + 1) (by omega)).1
          omega
        have s1 : (1 : Nat) ≤ sizeLine := by decide
        refine (?_ : ∀ Q : Bool → Hp → Prop, Q (decide (i = 0) || nal ns (i - 1)) H4 → tOr _ _ _ H4 Q) _ ?_
        · intro Q hq
          refine ⟨.int (i : Int), rfl, rfl, _, rfl, ite2 (fun d => ?_) (fun d => ?_)⟩
          · have d' : i = 0 := by
              have := V.int.inj (of_decide_eq_true d)
              omega
            rw [decide_eq_true d', Bool.true_or] at hq
            exact hq
          · have d' : i ≠ 0 := fun z => d (by rw [z]; rfl)
            have em : (i : Int) - 1 = ((i - 1 : Nat) : Int) := by omega
            rw [decide_eq_false d', Bool.false_or] at hq
            refine ⟨.ref D, rfl, .int (i : Int), rfl, _, _, rfl, rfl, D, _, _, .bl (nal ns (i - 1)), rfl, rfl, hDn, ?_, _, rfl, hq⟩
            rw [em]
            exact bl_at (by omega)
        cases e : (decide (i = 0) || nal ns (i - 1)) with
        | true =>
          have first : i = 0 ∨ alB ns (i - 1) = false := by
            rcases Bool.or_eq_true_iff.mp e with z | z
            · exact .inl (of_decide_eq_true z)
            · have z' : (!alB ns (i - 1)) = true := z
              exact .inr (by simpa using z')
          have bb : begB ns i = true := by
            unfold begB
            rw [if_pos al, if_pos first]
          have rs := rsN_no first
          refine iteT ?_
          refine ⟨.ref L, rfl, .inl ⟨rfl, _, sq_of hL4⟩, .int (i : Int), rfl, L, _, _, rfl, rfl, hL4, szL, ?_⟩
          have hL5 := app H4 hL4 bb
          have k5 : ∀ c o, c ≠ L → H3 c = some o → upd H4 L (.lst ((groupsTo ns i).map iN ++ [.int (i : Int)])) c = some o := fun c o n h => by
            rw [upd_ne n]
            exact k4 c o n h
          revert hL5 k5
          generalize upd H4 L (.lst ((groupsTo ns i).map iN ++ [.int (i : Int)])) = H5
          intro hL5 k5
          have ha5 := k5 _ _ naL haa
          have hD5 := k5 _ _ nDL hDa
          have lm : (ns.map V.str).length = ns.length := List.length_map ..
          refine ⟨.int (i : Int), rfl, .int (i : Int), rfl, .ref a, rfl, a, _, rfl, .inr (SqT.of ha5), _, _, rfl, ?_⟩
          rw [lm]
          have e0 : (((ns.length : Nat) : Int) - (i : Int)).toNat = ns.length - i := by omega
          refine ⟨⟨by omega, by omega, by omega, by omega⟩, fun D5 nD5 => ?_⟩
          rw [e0]
          refine lc_range (fun m H6 => Same H5 H6 ∧ H6 D5 = some (.lst ((((List.range m).map (i + ·)).filter (nal ns)).map iN))) ⟨Same.new nD5, upd_same⟩ ?_ ?_
          · rintro m H6 hm ⟨k6, h6⟩
            refine ⟨rfl, .ref D, rfl, iN (i + m), rfl, D, _, _, .bl (nal ns (i + m)), rfl, rfl, sq_of (k6 _ _ hD5), bl_at (by omega), _, rfl, ite2 (fun g => ?_) (fun g => ?_)⟩
            · refine ⟨iN (i + m), rfl, _, h6, ?_, sameAt k6 nD5, ?_⟩
              · rw [List.length_map]
                have := List.length_filter_le (nal ns) ((List.range m).map (i + ·))
                rw [List.length_map, List.length_range] at this
                show _ < 16777216
                omega
              · rw [upd_same, filt_succ, if_pos g]
            · refine ⟨k6, ?_⟩
              rw [h6, filt_succ, if_neg g, List.append_nil]
          rintro H6 ⟨k6, h6⟩
          have ha6 := k6 _ _ ha5
          refine ⟨.ref a, rfl, a, _, rfl, .inr (SqT.of ha6), s1, fun q6 nq6 => ?_⟩
          have k7 := Same.new (o := .lst [.int (((ns.map V.str).length : Nat) : Int)]) nq6
          have h7 : upd H6 q6 (.lst [.int (((ns.map V.str).length : Nat) : Int)]) q6 = some (.lst [iN ns.length]) := by
            rw [upd_same, lm]
            rfl
          revert k7 h7
          generalize upd H6 q6 (.lst [.int (((ns.map V.str).length : Nat) : Int)]) = H7
          intro k7 h7
          have lf := List.length_filter_le (nal ns) ((List.range (ns.length - i)).map (i + ·))
          rw [List.length_map, List.length_range] at lf
          refine ⟨D5, q6, _, _, rfl, rfl, k7 _ _ h6, h7, by rw [List.length_map]; show _ ≤ 16777216; have : [iN ns.length].length = 1 := rfl; omega, fun be nbe => ?_⟩
          have k8 := Same.new (o := .lst ((((List.range (ns.length - i)).map (i + ·)).filter (nal ns)).map iN ++ [iN ns.length])) nbe
          have h8 : upd H7 be (.lst ((((List.range (ns.length - i)).map (i + ·)).filter (nal ns)).map iN ++ [iN ns.length])) be = some (.lst (((((List.range (ns.length - i)).map (i + ·)).filter (nal ns)) ++ [ns.length]).map iN)) := by
            rw [upd_same, List.map_append]
            rfl
          revert k8 h8
          generalize upd H7 be (.lst ((((List.range (ns.length - i)).map (i + ·)).filter (nal ns)).map iN ++ [iN ns.length])) = H8
          intro k8 h8
          have k58 := (k6.trans k7).trans k8
          have hx0 : ((((List.range (ns.length - i)).map (i + ·)).filter (nal ns)) ++ [ns.length])[0]? = some (reN ns i) := reN_list ns (ns.length - i) i (by omega)
          have nbL : be ≠ L := fun z => by
            have := (k6.trans k7) _ _ hL5
            rw [← z, nbe] at this
            cases this
          refine ⟨.ref a, rfl, .int (i : Int), rfl, (i : Int), rfl, .ref be, rfl, be, _, 0, iN (reN ns i), rfl, rfl, sq_of h8, atI_nat (j := 0) (by rw [List.getElem?_map, hx0]; rfl), ((reN ns i : Nat) : Int), rfl, a, _, rfl, k58 _ _ ha5, fun p H9 k9 hp => ?_⟩
          have hp' : H9 p = some (.tup ((segN ns i (reN ns i)).map V.str)) := by
            rw [hp, cutV_of (by omega) (by rw [lm]; exact rle.2), ← List.map_drop, ← List.map_take]
            rfl
          have lsg : (segN ns i (reN ns i)).length = reN ns i - i := seg_len rle.1 rle.2
          refine ⟨p, segN ns i (reN ns i), rfl, hp', seg_nms hn, fun z => by rw [z] at lsg; have : ([] : List Str).length = 0 := rfl; omega, seg_unl rle.2 fun k h1 h2 => reN_all h1 h2, fun rw_ H10 nrw hrw k10 => ?_⟩
          have k5t := (k58.trans k9).trans k10
          have nrL : rw_ ≠ L := fun z => by
            have := (k58.trans k9) _ _ hL5
            rw [← z, nrw] at this
            cases this
          refine ⟨(i : Int), _, some (.ref be), some (.ref rw_), _, rfl, fun c o n h => k5t _ _ (k5 c o n h), k5t _ _ hL5, fun _ _ => ⟨be, rw_, _, ?_, rfl, rfl, nbL, nrL, (k9.trans k10) _ _ h8, hx0, ?_⟩⟩
          · rw [show i + 1 - 1 = i from rfl, rs]
          · rw [show i + 1 - 1 = i from rfl, rs]
            exact hrw
        | false =>
          obtain ⟨e1, e2⟩ := Bool.or_eq_false_iff.mp e
          have ne0 : i ≠ 0 := of_decide_eq_false e1
          have alp : alB ns (i - 1) = true := by
            have z' : (!alB ns (i - 1)) = false := e2
            simpa using z'
          have ei : i - 1 + 1 = i := by omega
          have ers : rsN ns i = rsN ns (i - 1) := by
            have := rsN_al alp
            rw [ei] at this
            exact this
          have ere : reN ns (i - 1) = reN ns i := by
            have := reN_al (k := i - 1) (by omega) alp
            rw [ei] at this
            exact this
          obtain ⟨be, rw_, xs, hbg, rfl, rfl, nbL, nrL, hbe, hx0, hrw⟩ := hrow (by omega) alp
          rw [← ers] at hbg
          rw [ere] at hx0
          rw [← ers, ere] at hrw
          have rsl := rsN_le ns (i - 1)
          rw [← ers] at rsl
          have lsg : (segN ns (rsN ns i) (reN ns i)).length = reN ns i - rsN ns i := seg_len (by omega) rle.2
          have lcn := coins_len (segN ns (rsN ns i) (reN ns i))
          have bb : begB ns i = (decide (i + 1 < reN ns i) && pkR ns (rsN ns i) (reN ns i) i) := by
            unfold begB
            rw [if_pos al, if_neg (by
              intro z
              rcases z with z | z
              · exact ne0 z
              · rw [alp] at z
                cases z)]
          have keep : ∀ H5, (∀ c o, c ≠ L → H4 c = some o → H5 c = some o) → RowAt ns L H5 (i + 1 - 1) bg (some (.ref be)) (some (.ref rw_)) := fun H5 k => ⟨be, rw_, xs, hbg, rfl, rfl, nbL, nrL, k _ _ nbL hbe, hx0, k _ _ nrL hrw⟩
          subst hbg
          refine iteF ?_
          refine ⟨.int (i : Int), rfl, _, _, rfl, rfl, .ref be, rfl, be, _, 0, iN (reN ns i), rfl, rfl, sq_of hbe, atI_nat (j := 0) (by rw [List.getElem?_map, hx0]; rfl), _, _, rfl, rfl, _, rfl, ite2 (fun d => ?_) (fun d => ?_)⟩
          · have d' : i + 1 < reN ns i := by
              have := of_decide_eq_true d
              omega
            rw [decide_eq_true d', Bool.true_and] at bb
            have eh : (i : Int) - ((rsN ns i : Nat) : Int) = ((i - rsN ns i : Nat) : Int) := by omega
            have a1 : atI ((coinsN (segN ns (rsN ns i) (reN ns i))).map iN) ((i : Int) - ((rsN ns i : Nat) : Int) - 1) = some (iN ((coinsN (segN ns (rsN ns i) (reN ns i))).getD (i - rsN ns i - 1) 0)) := by
              rw [show (i : Int) - ((rsN ns i : Nat) : Int) - 1 = ((i - rsN ns i - 1 : Nat) : Int) by omega]
              exact iN_at (by omega)
            have a2 : atI ((coinsN (segN ns (rsN ns i) (reN ns i))).map iN) ((i : Int) - ((rsN ns i : Nat) : Int)) = some (iN ((coinsN (segN ns (rsN ns i) (reN ns i))).getD (i - rsN ns i) 0)) := by
              rw [eh]
              exact iN_at (by omega)
            have a3 : atI ((coinsN (segN ns (rsN ns i) (reN ns i))).map iN) ((i : Int) - ((rsN ns i : Nat) : Int) + 1) = some (iN ((coinsN (segN ns (rsN ns i) (reN ns i))).getD (i - rsN ns i + 1) 0)) := by
              rw [show (i : Int) - ((rsN ns i : Nat) : Int) + 1 = ((i - rsN ns i + 1 : Nat) : Int) by omega]
              exact iN_at (by omega)
            have pe : pkR ns (rsN ns i) (reN ns i) i = (decide ((coinsN (segN ns (rsN ns i) (reN ns i))).getD (i - rsN ns i - 1) 0 < (coinsN (segN ns (rsN ns i) (reN ns i))).getD (i - rsN ns i) 0) && decide ((coinsN (segN ns (rsN ns i) (reN ns i))).getD (i - rsN ns i + 1) 0 < (coinsN (segN ns (rsN ns i) (reN ns i))).getD (i - rsN ns i) 0)) := rfl
            refine ⟨.int (i : Int), rfl, .int ((rsN ns i : Nat) : Int), rfl, _, _, rfl, rfl, ?_⟩
            dsimp only [gName]
            refine (?_ : ∀ Q : Bool → Hp → Prop, Q (pkR ns (rsN ns i) (reN ns i) i) H4 → tAnd _ _ _ H4 Q) _ ?_
            · intro Q hq
              refine ⟨.ref rw_, rfl, .int ((i : Int) - ((rsN ns i : Nat) : Int)), rfl, _, _, rfl, rfl, rw_, _, _, _, rfl, rfl, sq_of hrw, a1, .ref rw_, rfl, .int ((i : Int) - ((rsN ns i : Nat) : Int)), rfl, rw_, _, _, _, rfl, rfl, sq_of hrw, a2, _, _, rfl, rfl, _, rfl, ite2 (fun g => ?_) (fun g => ?_)⟩
              · have g' := Int.ofNat_lt.mp (of_decide_eq_true g)
                rw [pe, decide_eq_true g', Bool.true_and] at hq
                refine ⟨.ref rw_, rfl, .int ((i : Int) - ((rsN ns i : Nat) : Int)), rfl, rw_, _, _, _, rfl, rfl, sq_of hrw, a2, .ref rw_, rfl, .int ((i : Int) - ((rsN ns i : Nat) : Int)), rfl, _, _, rfl, rfl, rw_, _, _, _, rfl, rfl, sq_of hrw, a3, _, _, rfl, rfl, _, rfl, ?_⟩
                have ed : decide ((((coinsN (segN ns (rsN ns i) (reN ns i))).getD (i - rsN ns i + 1) 0 : Nat) : Int) < (((coinsN (segN ns (rsN ns i) (reN ns i))).getD (i - rsN ns i) 0 : Nat) : Int)) = decide ((coinsN (segN ns (rsN ns i) (reN ns i))).getD (i - rsN ns i + 1) 0 < (coinsN (segN ns (rsN ns i) (reN ns i))).getD (i - rsN ns i) 0) := by
                  by_cases z : (coinsN (segN ns (rsN ns i) (reN ns i))).getD (i - rsN ns i + 1) 0 < (coinsN (segN ns (rsN ns i) (reN ns i))).getD (i - rsN ns i) 0
                  · rw [decide_eq_true z, decide_eq_true (Int.ofNat_lt.mpr z)]
                  · rw [decide_eq_false z, decide_eq_false fun y => z (Int.ofNat_lt.mp y)]
                rw [ed]
                exact hq
              · have g' : ¬ (coinsN (segN ns (rsN ns i) (reN ns i))).getD (i - rsN ns i - 1) 0 < (coinsN (segN ns (rsN ns i) (reN ns i))).getD (i - rsN ns i) 0 := fun z => g (decide_eq_true (Int.ofNat_lt.mpr z))
                rw [pe, decide_eq_false g', Bool.false_and] at hq
                exact hq
            cases ep : pkR ns (rsN ns i) (reN ns i) i with
            | true =>
              rw [ep] at bb
              refine iteT ⟨.ref L, rfl, .inl ⟨rfl, _, sq_of hL4⟩, .int (i : Int), rfl, L, _, _, rfl, rfl, hL4, szL, ?_⟩
              exact ⟨_, _, some (.ref be), some (.ref rw_), _, rfl, fun c o n h => by rw [upd_ne n]; exact k4 c o n h, app H4 hL4 bb, fun _ _ => keep _ fun c o n h => by rw [upd_ne n]; exact h⟩
            | false =>
              rw [ep] at bb
              refine iteF ⟨_, _, some (.ref be), some (.ref rw_), _, rfl, k4, ?_, fun _ _ => keep _ fun c o _ h => h⟩
              rw [hL4, stay bb]
          · have d' : ¬ i + 1 < reN ns i := fun z => d (decide_eq_true (by omega))
            rw [decide_eq_false d', Bool.false_and] at bb
            refine ⟨_, _, some (.ref be), some (.ref rw_), _, rfl, k4, ?_, fun _ _ => keep _ fun c o _ h => h⟩
            rw [hL4, stay bb]
    · rintro σ H4 ⟨bg, u4, u5, u6, u7, rfl, k4, hL4, _⟩
      rw [show (((ns.length : Nat) : Int)).toNat = ns.length from Int.toNat_natCast _] at hL4
      exact ⟨_, rfl, q L H4 nLH hL4 fun c o e => k4 _ _ (fun z => by rw [z, nLH] at e; cases e) (kH _ _ e)⟩
end
end LawK
set_option maxHeartbeats 4000000
namespace LawK
open PySem PySem.Spec
/-! What a group hangs on. -/
theorem nextRow_get0 {r : List Nat} {x : Nat} (h : r[0]? = some x) : (nextRow r)[0]? = some (x % 2) := by
  cases r with
  | nil => cases h
  | cons y r => cases h; rfl
theorem nextRow_getS {r : List Nat} {i a b : Nat} (h1 : r[i]? = some a) (h2 : r[i + 1]? = some b) : (nextRow r)[i + 1]? = some (nextc a b) := by
  cases r with
  | nil => cases h1
  | cons y r => exact zipN_get (y :: r) i a b h1 h2
theorem nextRow_at {r : List Nat} {i : Nat} (h : i + 1 < r.length) : (nextRow r)[i + 1]? = some (nextc (r.getD i 0) (r.getD (i + 1) 0)) :=
  nextRow_getS (get1 (by omega)) (get1 h)
theorem getD_of {r : List Nat} {i x : Nat} (h : r[i]? = some x) : r.getD i 0 = x := by
  rw [List.getD_eq_getElem?_getD, h]
  rfl
/-- a coin behind m rounds hangs on m names ahead of it and its own -/
theorem rounds_local : ∀ (m : Nat) (r s : List Nat) (i j : Nat), m ≤ i → m ≤ j → i < r.length → j < s.length → (∀ d, d ≤ m → r.getD (i - d) 0 = s.getD (j - d) 0) → (rounds m r).getD i 0 = (rounds m s).getD j 0
  | 0, r, s, i, j, _, _, _, _, h => h 0 (Nat.le_refl _)
  | m + 1, r, s, i, j, hi, hj, li, lj, h => by
    refine rounds_local m (nextRow r) (nextRow s) i j (by omega) (by omega) (by rw [nextRow_len]; exact li) (by rw [nextRow_len]; exact lj) fun d hd => ?_
    have e1 := nextRow_at (r := r) (i := i - d - 1) (by omega)
    have e2 := nextRow_at (r := s) (i := j - d - 1) (by omega)
    rw [show i - d - 1 + 1 = i - d by omega] at e1
    rw [show j - d - 1 + 1 = j - d by omega] at e2
    rw [getD_of e1, getD_of e2, h d (by omega), show i - d - 1 = i - (d + 1) by omega, show j - d - 1 = j - (d + 1) by omega, h (d + 1) (by omega)]
/-- and on none behind it -/
theorem rounds_ahead : ∀ (m : Nat) (r s : List Nat) (i : Nat), i < r.length → i < s.length → (∀ d, d ≤ i → r.getD d 0 = s.getD d 0) → (rounds m r).getD i 0 = (rounds m s).getD i 0
  | 0, r, s, i, _, _, h => h i (Nat.le_refl _)
  | m + 1, r, s, i, li, lj, h => by
    refine rounds_ahead m (nextRow r) (nextRow s) i (by rw [nextRow_len]; exact li) (by rw [nextRow_len]; exact lj) fun d hd => ?_
    cases d with
    | zero =>
      have e1 := nextRow_get0 (r := r) (get1 (i := 0) (by omega))
      have e2 := nextRow_get0 (r := s) (get1 (i := 0) (by omega))
      rw [getD_of e1, getD_of e2, h 0 (by omega)]
    | succ d =>
      have e1 := nextRow_at (r := r) (i := d) (by omega)
      have e2 := nextRow_at (r := s) (i := d) (by omega)
      rw [getD_of e1, getD_of e2, h d (by omega), h (d + 1) (by omega)]
/-- ten names alike: seven ahead, two behind -/
def Win (ns ms : List Str) (k l : Nat) : Prop := 7 ≤ k ∧ 7 ≤ l ∧ k + 2 < ns.length ∧ l + 2 < ms.length ∧ ∀ j, j < 10 → nmA ns (k - 7 + j) = nmA ms (l - 7 + j)
theorem Win.at {ns ms : List Str} {k l : Nat} (h : Win ns ms k l) {j : Nat} (hj : j < 10) : nmA ns (k + j - 7) = nmA ms (l + j - 7) := by
  have := h.2.2.2.2 j hj
  rw [show k + j - 7 = k - 7 + j by have := h.1; omega, show l + j - 7 = l - 7 + j by have := h.2.1; omega]
  exact this
theorem Win.new {ns ms : List Str} {k l : Nat} (h : Win ns ms k l) {j : Nat} (h1 : 1 ≤ j) (hj : j < 10) : newB ns (k + j - 7) = newB ms (l + j - 7) := by
  have a := h.1
  have b := h.2.1
  have e1 := h.at hj
  have e2 := h.at (j := j - 1) (by omega)
  unfold newB
  rw [decide_eq_false (show ¬ k + j - 7 = 0 by omega), decide_eq_false (show ¬ l + j - 7 = 0 by omega), show k + j - 7 - 1 = k + (j - 1) - 7 by omega, show l + j - 7 - 1 = l + (j - 1) - 7 by omega, e1, e2]
theorem Win.al {ns ms : List Str} {k l : Nat} (h : Win ns ms k l) {j : Nat} (h1 : 1 ≤ j) (hj : j < 9) : alB ns (k + j - 7) = alB ms (l + j - 7) := by
  have a := h.1
  have b := h.2.1
  have c := h.2.2.1
  have d := h.2.2.2.1
  have e1 := h.new h1 (by omega)
  have e2 := h.new (j := j + 1) (by omega) (by omega)
  unfold alB
  rw [decide_eq_false (show ¬ k + j - 7 + 1 = ns.length by omega), decide_eq_false (show ¬ l + j - 7 + 1 = ms.length by omega), show k + j - 7 + 1 = k + (j + 1) - 7 by omega, show l + j - 7 + 1 = l + (j + 1) - 7 by omega, e1, e2]
theorem re_iff {ns : List Str} {k : Nat} (h : k + 1 < ns.length) (a : alB ns k = true) : k + 1 < reN ns k ↔ alB ns (k + 1) = true := by
  rw [reN_al (by omega) a]
  cases e : alB ns (k + 1) with
  | true =>
    rw [reN_al h e]
    have := (reN_le (ns := ns) (k := k + 1 + 1) (by omega)).1
    exact iff_of_true (by omega) rfl
  | false =>
    rw [reN_no (fun _ => e)]
    exact iff_of_false (by omega) (by decide)
theorem rsN_all {ns : List Str} : ∀ (k j : Nat), rsN ns k ≤ j → j < k → alB ns j = true
  | 0, j, _, h => by omega
  | k + 1, j, h1, h2 => by
    have e : rsN ns (k + 1) = if alB ns k = true then rsN ns k else k + 1 := rfl
    by_cases a : alB ns k = true
    · rw [e, if_pos a] at h1
      by_cases g : j = k
      · rw [g]
        exact a
      · exact rsN_all k j h1 (by omega)
    · rw [e, if_neg a] at h1
      omega
theorem seg_num {ns : List Str} {b e i : Nat} (h1 : b ≤ e) (h2 : e ≤ ns.length) (h : i < e - b) : ((segN ns b e).map numZ).getD i 0 = numZ (nmA ns (b + i)) := by
  apply getD_of
  rw [List.getElem?_map, seg_get h, nmA_get (by omega)]
  rfl
/-- where a row begins, up to d names ahead: alike, or further off in both -/
theorem Win.rs {ns ms : List Str} {k l : Nat} (h : Win ns ms k l) : ∀ d, d ≤ 6 → (rsN ns k + d ≤ k ∧ rsN ms l + d ≤ l) ∨ (∃ e, e < d ∧ rsN ns k + e = k ∧ rsN ms l + e = l)
  | 0, _ => .inl ⟨rsN_le ns k, rsN_le ms l⟩
  | d + 1, hd => by
    have a := h.1
    have b := h.2.1
    rcases Win.rs h d (by omega) with ⟨h1, h2⟩ | ⟨e, he, h1, h2⟩
    · have ea := h.al (j := 6 - d) (by omega) (by omega)
      have run1 : alB ns (k + (6 - d) - 7) = true ↔ rsN ns k + (d + 1) ≤ k := by
        refine ⟨fun t => ?_, fun t => rsN_all k _ (by omega) (by omega)⟩
        apply Classical.byContradiction
        intro z
        have e0 : rsN ns k = k - d := by omega
        have h0 : ∀ m, m ≤ d → rsN ns (k - d + m) = rsN ns (k - d) := fun m => by
          induction m with
          | zero => intro _; rfl
          | succ m ih =>
            intro hm
            rw [← Nat.add_assoc, rsN_al (rsN_all k _ (by omega) (by omega)), ih (by omega)]
        have h00 := h0 d (Nat.le_refl _)
        rw [show k - d + d = k by omega, e0] at h00
        have e1 : k - d = k + (6 - d) - 7 + 1 := by omega
        rw [e1, rsN_al t] at h00
        have := rsN_le ns (k + (6 - d) - 7)
        omega
      have run2 : alB ms (l + (6 - d) - 7) = true ↔ rsN ms l + (d + 1) ≤ l := by
        refine ⟨fun t => ?_, fun t => rsN_all l _ (by omega) (by omega)⟩
        apply Classical.byContradiction
        intro z
        have e0 : rsN ms l = l - d := by omega
        have h0 : ∀ m, m ≤ d → rsN ms (l - d + m) = rsN ms (l - d) := fun m => by
          induction m with
          | zero => intro _; rfl
          | succ m ih =>
            intro hm
            rw [← Nat.add_assoc, rsN_al (rsN_all l _ (by omega) (by omega)), ih (by omega)]
        have h00 := h0 d (Nat.le_refl _)
        rw [show l - d + d = l by omega, e0] at h00
        have e1 : l - d = l + (6 - d) - 7 + 1 := by omega
        rw [e1, rsN_al t] at h00
        have := rsN_le ms (l + (6 - d) - 7)
        omega
      by_cases t : alB ns (k + (6 - d) - 7) = true
      · exact .inl ⟨run1.mp t, run2.mp (ea ▸ t)⟩
      · refine .inr ⟨d, by omega, ?_, ?_⟩
        · have : ¬ rsN ns k + (d + 1) ≤ k := fun z => t (run1.mpr z)
          omega
        · have : ¬ rsN ms l + (d + 1) ≤ l := fun z => t (ea ▸ run2.mpr z)
          omega
    · exact .inr ⟨e, by omega, h1, h2⟩
end LawK
set_option maxHeartbeats 4000000
namespace LawK
open PySem PySem.Spec
/-- a coin of a row: alike where the names are -/
theorem Win.coin {ns ms : List Str} {k l : Nat} (h : Win ns ms k l) (ak : alB ns k = true) (ak1 : alB ns (k + 1) = true) {x : Nat} (x1 : 6 ≤ x) (x2 : x ≤ 8) (hr : rsN ns k + 1 ≤ k) (hs : rsN ms l + 1 ≤ l) :
    (coinsN (segN ns (rsN ns k) (reN ns k))).getD (k + x - 7 - rsN ns k) 0 = (coinsN (segN ms (rsN ms l) (reN ms l))).getD (l + x - 7 - rsN ms l) 0 := by
  have a := h.1
  have b := h.2.1
  have c := h.2.2.1
  have d := h.2.2.2.1
  have el := h.al (j := 7) (by omega) (by omega)
  have el1 := h.al (j := 8) (by omega) (by omega)
  rw [show k + 7 - 7 = k by omega, show l + 7 - 7 = l by omega] at el
  rw [show k + 8 - 7 = k + 1 by omega, show l + 8 - 7 = l + 1 by omega] at el1
  have al : alB ms l = true := el ▸ ak
  have al1 : alB ms (l + 1) = true := el1 ▸ ak1
  have rk : k + 1 < reN ns k := (re_iff (by omega) ak).mpr ak1
  have rl : l + 1 < reN ms l := (re_iff (by omega) al).mpr al1
  have rk2 := (reN_le (ns := ns) (k := k) (by omega)).2
  have rl2 := (reN_le (ns := ms) (k := l) (by omega)).2
  have lk : ((segN ns (rsN ns k) (reN ns k)).map numZ).length = reN ns k - rsN ns k := by rw [List.length_map, seg_len (by omega) rk2]
  have ll : ((segN ms (rsN ms l) (reN ms l)).map numZ).length = reN ms l - rsN ms l := by rw [List.length_map, seg_len (by omega) rl2]
  unfold coinsN
  rcases h.rs 6 (Nat.le_refl _) with ⟨h1, h2⟩ | ⟨e, he, h1, h2⟩
  · refine rounds_local 5 _ _ _ _ (by omega) (by omega) (by rw [lk]; omega) (by rw [ll]; omega) fun y hy => ?_
    rw [seg_num (by omega) rk2 (by omega), seg_num (by omega) rl2 (by omega)]
    have := h.at (j := x - y) (by omega)
    rw [show rsN ns k + (k + x - 7 - rsN ns k - y) = k + (x - y) - 7 by omega, show rsN ms l + (l + x - 7 - rsN ms l - y) = l + (x - y) - 7 by omega, this]
  · have e1 : k + x - 7 - rsN ns k = e + x - 7 := by omega
    have e2 : l + x - 7 - rsN ms l = e + x - 7 := by omega
    rw [e1, e2]
    refine rounds_ahead 5 _ _ _ (by rw [lk]; omega) (by rw [ll]; omega) fun y hy => ?_
    rw [seg_num (by omega) rk2 (by omega), seg_num (by omega) rl2 (by omega)]
    have := h.at (j := 7 - e + y) (by omega)
    rw [show rsN ns k + y = k + (7 - e + y) - 7 by omega, show rsN ms l + y = l + (7 - e + y) - 7 by omega, this]
/-- whether a name begins a group hangs on seven names ahead of it and two behind it -/
theorem Win.beg {ns ms : List Str} {k l : Nat} (h : Win ns ms k l) : begB ns k = begB ms l := by
  have a := h.1
  have b := h.2.1
  have c := h.2.2.1
  have d := h.2.2.2.1
  have el := h.al (j := 7) (by omega) (by omega)
  have en := h.new (j := 7) (by omega) (by omega)
  have ep := h.al (j := 6) (by omega) (by omega)
  have el1 := h.al (j := 8) (by omega) (by omega)
  rw [show k + 7 - 7 = k by omega, show l + 7 - 7 = l by omega] at el en
  rw [show k + 8 - 7 = k + 1 by omega, show l + 8 - 7 = l + 1 by omega] at el1
  rw [show k + 6 - 7 = k - 1 by omega, show l + 6 - 7 = l - 1 by omega] at ep
  unfold begB
  cases ak : alB ns k with
  | false =>
    rw [ak] at el
    rw [← el, en]
    rfl
  | true =>
    rw [ak] at el
    rw [← el, if_pos rfl, if_pos rfl]
    cases app : alB ns (k - 1) with
    | false =>
      rw [app] at ep
      rw [← ep, if_pos (.inr rfl), if_pos (.inr rfl)]
    | true =>
      rw [app] at ep
      rw [← ep, if_neg (by rintro (z | z); omega; cases z), if_neg (by rintro (z | z); omega; cases z)]
      have er : decide (k + 1 < reN ns k) = alB ns (k + 1) := by
        cases t : alB ns (k + 1) with
        | true => exact decide_eq_true ((re_iff (by omega) ak).mpr t)
        | false => exact decide_eq_false fun z => by have := (re_iff (by omega) ak).mp z; rw [t] at this; cases this
      have er2 : decide (l + 1 < reN ms l) = alB ms (l + 1) := by
        cases t : alB ms (l + 1) with
        | true => exact decide_eq_true ((re_iff (by omega) el.symm).mpr t)
        | false => exact decide_eq_false fun z => by have := (re_iff (by omega) el.symm).mp z; rw [t] at this; cases this
      rw [er, er2, ← el1]
      cases t : alB ns (k + 1) with
      | false => rfl
      | true =>
        rw [Bool.true_and, Bool.true_and]
        have hr : rsN ns k + 1 ≤ k := by
          have := rsN_al app
          rw [show k - 1 + 1 = k by omega] at this
          have := rsN_le ns (k - 1)
          omega
        have hs : rsN ms l + 1 ≤ l := by
          have := rsN_al ep.symm
          rw [show l - 1 + 1 = l by omega] at this
          have := rsN_le ms (l - 1)
          omega
        have c6 := h.coin ak t (x := 6) (by omega) (by omega) hr hs
        have c7 := h.coin ak t (x := 7) (by omega) (by omega) hr hs
        have c8 := h.coin ak t (x := 8) (by omega) (by omega) hr hs
        rw [show k + 6 - 7 - rsN ns k = k - rsN ns k - 1 by omega, show l + 6 - 7 - rsN ms l = l - rsN ms l - 1 by omega] at c6
        rw [show k + 7 - 7 - rsN ns k = k - rsN ns k by omega, show l + 7 - 7 - rsN ms l = l - rsN ms l by omega] at c7
        rw [show k + 8 - 7 - rsN ns k = k - rsN ns k + 1 by omega, show l + 8 - 7 - rsN ms l = l - rsN ms l + 1 by omega] at c8
        unfold pkR pkB
        rw [c6, c7, c8]
end LawK
set_option maxHeartbeats 4000000
namespace LawK
open PySem PySem.Spec PyProof.Rows L2 Ev
theorem no_beg {ns : List Str} (h : 2 ≤ ns.length) : ∃ k, k < ns.length ∧ begB ns k = false := by
  cases n1 : newB ns 1 with
  | false =>
    have a1 : alB ns 1 = false := by
      unfold alB
      rw [n1]
      rfl
    refine ⟨1, by omega, ?_⟩
    unfold begB
    rw [a1, n1]
    rfl
  | true =>
    have a0 : alB ns 0 = true := by
      unfold alB
      rw [newB_zero]
      show (true && (_ || newB ns 1)) = true
      rw [n1, Bool.or_true]
      rfl
    cases a1 : alB ns 1 with
    | false =>
      have t : (decide (1 + 1 = ns.length) || newB ns 2) = false := by
        have a1' : (newB ns 1 && (decide (1 + 1 = ns.length) || newB ns 2)) = false := a1
        rw [n1, Bool.true_and] at a1'
        exact a1'
      obtain ⟨t1, t2⟩ := Bool.or_eq_false_iff.mp t
      have t1' := of_decide_eq_false t1
      have a2 : alB ns 2 = false := by
        unfold alB
        rw [t2]
        rfl
      refine ⟨2, by omega, ?_⟩
      unfold begB
      rw [a2, t2]
      rfl
    | true =>
      cases b1 : begB ns 1 with
      | false => exact ⟨1, by omega, b1⟩
      | true =>
        have e1 : begB ns 1 = (decide (1 + 1 < reN ns 1) && pkR ns (rsN ns 1) (reN ns 1) 1) := by
          unfold begB
          rw [if_pos a1, if_neg (by
            rintro (z | z)
            · omega
            · rw [show 1 - 1 = 0 from rfl, a0] at z
              cases z)]
        rw [e1] at b1
        obtain ⟨b2, b3⟩ := Bool.and_eq_true_iff.mp b1
        have b2' := of_decide_eq_true b2
        have a2 : alB ns 2 = true := reN_all (k := 1) (by omega) (by omega)
        have rl := (reN_le (ns := ns) (k := 1) (by omega)).2
        have rs2 : rsN ns 2 = rsN ns 1 := rsN_al a1
        have rs1 : rsN ns 1 = 0 := rsN_al a0
        have re2 : reN ns 2 = reN ns 1 := (reN_al (by omega) a1).symm
        refine ⟨2, by omega, ?_⟩
        unfold begB
        rw [if_pos a2, if_neg (by
          rintro (z | z)
          · omega
          · rw [show 2 - 1 = 1 from rfl, a1] at z
            cases z), rs2, re2, rs1]
        rw [rs1] at b3
        have b4 : (decide ((coinsN (segN ns 0 (reN ns 1))).getD 0 0 < (coinsN (segN ns 0 (reN ns 1))).getD 1 0) && decide ((coinsN (segN ns 0 (reN ns 1))).getD 2 0 < (coinsN (segN ns 0 (reN ns 1))).getD 1 0)) = true := b3
        obtain ⟨_, b5⟩ := Bool.and_eq_true_iff.mp b4
        have b5' := of_decide_eq_true b5
        have b6 : pkR ns 0 (reN ns 1) 2 = (decide ((coinsN (segN ns 0 (reN ns 1))).getD 1 0 < (coinsN (segN ns 0 (reN ns 1))).getD 2 0) && decide ((coinsN (segN ns 0 (reN ns 1))).getD 3 0 < (coinsN (segN ns 0 (reN ns 1))).getD 2 0)) := rfl
        rw [b6, decide_eq_false (show ¬ (coinsN (segN ns 0 (reN ns 1))).getD 1 0 < (coinsN (segN ns 0 (reN ns 1))).getD 2 0 by omega), Bool.false_and, Bool.and_false]
theorem groups_less {ns : List Str} (h : 2 ≤ ns.length) : (groupsN ns).length < ns.length := by
  obtain ⟨k, hk, hb⟩ := no_beg h
  have e : (groupsN ns).length < (List.range ns.length).length := by
    unfold groupsN groupsTo
    rw [List.length_filter_lt_length_iff_exists]
    exact ⟨k, List.mem_range.mpr hk, by rw [hb]; decide⟩
  rw [List.length_range] at e
  exact e
/-- places of a text at which blocks begin -/
structure Begs (z : Str) (b : List Nat) : Prop where
  asc : b.Pairwise (· < ·)
  lt : ∀ x ∈ b, x < z.length
  few : b.length ≤ z.length
def cutZ (z : Str) (i j : Nat) : Str := cutS z (some (i : Int)) (some (j : Int))
def namesAt (z : Str) (b : List Nat) : List Str := List.zipWith (cutZ z) b (b.drop 1 ++ [z.length])
def nextB (z : Str) (b : List Nat) : List Nat := (groupsN (namesAt z b)).map (b.getD · 0)
theorem namesAt_len (z : Str) (b : List Nat) : (namesAt z b).length = b.length := by
  unfold namesAt
  rw [List.length_zipWith, List.length_append, List.length_drop]
  show min b.length (b.length - 1 + 1) = _
  omega
theorem cutZ_len {z : Str} {i j : Nat} (h : i < j) (h2 : j ≤ z.length) : 0 < (cutZ z i j).length := by
  rw [len_S]
  unfold cutZ
  rw [cutS_of (by omega) (by omega), List.length_take, List.length_drop, ← len_S]
  omega
theorem namesAt_nms {z : Str} {b : List Nat} (hz : sgB z = true) (hl : z.length ≤ 2000) (h : Begs z b) : Nms (namesAt z b) := by
  refine ⟨by rw [namesAt_len]; have := h.few; omega, fun w hw => ?_⟩
  obtain ⟨i, hi⟩ := List.getElem?_of_mem hw
  unfold namesAt at hi
  obtain ⟨x, y, hx, hy, rfl⟩ := List.getElem?_zipWith_eq_some.mp hi
  have lx := h.lt x (List.mem_of_getElem? hx)
  have hxy : x < y ∧ y ≤ z.length := by
    have li := (List.getElem?_eq_some_iff.mp hx).1
    by_cases g : i + 1 < b.length
    · rw [List.getElem?_append_left (by rw [List.length_drop]; omega), List.getElem?_drop] at hy
      have hm := List.mem_of_getElem? hy
      have := h.lt y hm
      obtain ⟨l1, e1⟩ := List.getElem?_eq_some_iff.mp hx
      obtain ⟨l2, e2⟩ := List.getElem?_eq_some_iff.mp hy
      have p := List.pairwise_iff_getElem.mp h.asc i (1 + i) l1 l2 (by omega)
      rw [e1, e2] at p
      omega
    · rw [List.getElem?_append_right (by rw [List.length_drop]; omega)] at hy
      have : i - (b.drop 1).length = 0 := by rw [List.length_drop]; omega
      rw [this] at hy
      cases hy
      omega
  refine ⟨sgB_cut hz _ _, cutZ_len hxy.1 hxy.2, ?_⟩
  have := cut_len (z := z) (some (x : Int)) (some (y : Int))
  unfold cutZ
  omega
theorem groups_asc (ns : List Str) : (groupsN ns).Pairwise (· < ·) := List.Pairwise.filter _ List.pairwise_lt_range
theorem groups_lt {ns : List Str} {k : Nat} (h : k ∈ groupsN ns) : k < ns.length := List.mem_range.mp (List.mem_filter.mp h).1
theorem getD_get {b : List Nat} {k : Nat} (h : k < b.length) : b.getD k 0 = b[k] := by
  rw [List.getD_eq_getElem?_getD, List.getElem?_eq_getElem h]
  rfl
theorem next_begs {z : Str} {b : List Nat} (h : Begs z b) : Begs z (nextB z b) := by
  have gl : ∀ k, k ∈ groupsN (namesAt z b) → k < b.length := fun k hk => by
    have := groups_lt hk
    rw [namesAt_len] at this
    exact this
  refine ⟨?_, fun x hx => ?_, ?_⟩
  · unfold nextB
    rw [List.pairwise_map]
    refine List.Pairwise.imp_of_mem (fun {x y} hx hy hxy => ?_) (groups_asc _)
    rw [getD_get (gl x hx), getD_get (gl y hy)]
    exact List.pairwise_iff_getElem.mp h.asc x y (gl x hx) (gl y hy) hxy
  · obtain ⟨k, hk, rfl⟩ := List.mem_map.mp hx
    rw [getD_get (gl k hk)]
    exact h.lt _ (List.getElem_mem _)
  · unfold nextB
    rw [List.length_map]
    have := groupsTo_len (namesAt z b) (namesAt z b).length
    rw [namesAt_len] at this
    have f := h.few
    have e : (groupsN (namesAt z b)).length = (groupsTo (namesAt z b) b.length).length := by
      unfold groupsN
      rw [namesAt_len]
    omega
theorem next_less {z : Str} {b : List Nat} (h : 1 < b.length) : (nextB z b).length < b.length := by
  unfold nextB
  rw [List.length_map]
  have := groups_less (ns := namesAt z b) (by rw [namesAt_len]; omega)
  rw [namesAt_len] at this
  exact this
theorem begs0 (z : Str) : Begs z (List.range z.length) := ⟨List.pairwise_lt_range, fun x hx => List.mem_range.mp hx, by rw [List.length_range]; exact Nat.le_refl _⟩
/-- the levels behind begins, so many at most -/
def lvF (z : Str) : Nat → List Nat → List (List Nat)
  | 0, _ => []
  | m + 1, b => if 1 < b.length then nextB z b :: lvF z m (nextB z b) else []
theorem lvF_more (z : Str) : ∀ (m : Nat) (b : List Nat), b.length ≤ m → ∀ k, lvF z (m + k) b = lvF z m b
  | 0, b, h, k => by
    cases k with
    | zero => rfl
    | succ k =>
      show (if 1 < b.length then _ else []) = []
      rw [if_neg (by omega)]
  | m + 1, b, h, k => by
    rw [show m + 1 + k = m + k + 1 by omega]
    show (if 1 < b.length then nextB z b :: lvF z (m + k) (nextB z b) else []) = (if 1 < b.length then nextB z b :: lvF z m (nextB z b) else [])
    by_cases g : 1 < b.length
    · rw [if_pos g, if_pos g, lvF_more z m (nextB z b) (by have := next_less (z := z) g; omega)]
    · rw [if_neg g, if_neg g]
/-- all levels behind begins -/
def lvsN (z : Str) (b : List Nat) : List (List Nat) := lvF z b.length b
theorem lvs_go {z : Str} {b : List Nat} (h : 1 < b.length) : lvsN z b = nextB z b :: lvsN z (nextB z b) := by
  unfold lvsN
  have l := next_less (z := z) h
  obtain ⟨m, e⟩ : ∃ m, b.length = m + 1 := ⟨b.length - 1, by omega⟩
  rw [e]
  show (if 1 < b.length then _ else []) = _
  rw [if_pos h]
  congr 1
  have := lvF_more z (nextB z b).length (nextB z b) (Nat.le_refl _) (m - (nextB z b).length)
  rw [show (nextB z b).length + (m - (nextB z b).length) = m by omega] at this
  exact this
theorem lvs_no {z : Str} {b : List Nat} (h : ¬ 1 < b.length) : lvsN z b = [] := by
  unfold lvsN
  cases e : b.length with
  | zero => rfl
  | succ m =>
    show (if 1 < b.length then _ else []) = _
    rw [if_neg h]
end LawK
set_option maxHeartbeats 4000000
namespace LawK
open PySem PySem.Spec
/-- of two groups one behind the other one has two names or more -/
theorem beg_two {ns : List Str} {k : Nat} (h : k + 1 < ns.length) (h1 : begB ns k = true) (h2 : begB ns (k + 1) = true) : k + 2 < ns.length ∧ begB ns (k + 2) = false := by
  cases a1 : alB ns (k + 1) with
  | false =>
    have e : begB ns (k + 1) = newB ns (k + 1) := by
      unfold begB
      rw [if_neg (by rw [a1]; decide)]
    rw [e] at h2
    have t : (newB ns (k + 1) && (decide (k + 1 + 1 = ns.length) || newB ns (k + 2))) = false := a1
    rw [h2, Bool.true_and] at t
    obtain ⟨t1, t2⟩ := Bool.or_eq_false_iff.mp t
    have t1' := of_decide_eq_false t1
    have a2 : alB ns (k + 2) = false := by
      unfold alB
      rw [t2]
      rfl
    refine ⟨by omega, ?_⟩
    unfold begB
    rw [if_neg (by rw [a2]; decide)]
    exact t2
  | true =>
    have n1 := newB_of_al a1
    have a0 : alB ns k = true := by
      cases a0 : alB ns k with
      | true => rfl
      | false =>
        have e : begB ns k = newB ns k := by
          unfold begB
          rw [if_neg (by rw [a0]; decide)]
        rw [e] at h1
        have t : (newB ns k && (decide (k + 1 = ns.length) || newB ns (k + 1))) = false := a0
        rw [h1, n1, Bool.or_true] at t
        cases t
    have e1 : begB ns (k + 1) = (decide (k + 1 + 1 < reN ns (k + 1)) && pkR ns (rsN ns (k + 1)) (reN ns (k + 1)) (k + 1)) := by
      unfold begB
      rw [if_pos a1, if_neg (by
        rintro (z | z)
        · omega
        · rw [show k + 1 - 1 = k from rfl, a0] at z
          cases z)]
    rw [e1] at h2
    obtain ⟨b2, b3⟩ := Bool.and_eq_true_iff.mp h2
    have b2' := of_decide_eq_true b2
    have rl := (reN_le (ns := ns) (k := k + 1) (by omega)).2
    have a2 : alB ns (k + 2) = true := reN_all (k := k + 1) (by omega) (by omega)
    have rs2 : rsN ns (k + 2) = rsN ns (k + 1) := rsN_al a1
    have re2 : reN ns (k + 2) = reN ns (k + 1) := (reN_al (by omega) a1).symm
    have rsl : rsN ns (k + 1) ≤ k := by
      have e : rsN ns (k + 1) = rsN ns k := rsN_al a0
      have := rsN_le ns k
      omega
    refine ⟨by omega, ?_⟩
    unfold begB
    rw [if_pos a2, if_neg (by
      rintro (z | z)
      · omega
      · rw [show k + 2 - 1 = k + 1 from rfl, a1] at z
        cases z), rs2, re2]
    generalize hb : coinsN (segN ns (rsN ns (k + 1)) (reN ns (k + 1))) = row
    have b4 : (decide (row.getD (k + 1 - rsN ns (k + 1) - 1) 0 < row.getD (k + 1 - rsN ns (k + 1)) 0) && decide (row.getD (k + 1 - rsN ns (k + 1) + 1) 0 < row.getD (k + 1 - rsN ns (k + 1)) 0)) = true := by
      rw [← hb]
      exact b3
    have b5 := of_decide_eq_true (Bool.and_eq_true_iff.mp b4).2
    have b6 : pkR ns (rsN ns (k + 1)) (reN ns (k + 1)) (k + 2) = (decide (row.getD (k + 2 - rsN ns (k + 1) - 1) 0 < row.getD (k + 2 - rsN ns (k + 1)) 0) && decide (row.getD (k + 2 - rsN ns (k + 1) + 1) 0 < row.getD (k + 2 - rsN ns (k + 1)) 0)) := by
      rw [← hb]
      rfl
    rw [show k + 1 - rsN ns (k + 1) + 1 = k + 2 - rsN ns (k + 1) by omega] at b5
    rw [b6, show k + 2 - rsN ns (k + 1) - 1 = k + 1 - rsN ns (k + 1) by omega, decide_eq_false (show ¬ row.getD (k + 1 - rsN ns (k + 1)) 0 < row.getD (k + 2 - rsN ns (k + 1)) 0 by omega), Bool.false_and, Bool.and_false]
/-- how many names begin groups, up to k, where the last two may be -/
theorem groups_thirds (ns : List Str) : ∀ (k : Nat), k ≤ ns.length → 3 * (groupsTo ns k).length ≤ 2 * k + 2 ∧ ((k = 0 ∨ begB ns (k - 1) = false) → 3 * (groupsTo ns k).length ≤ 2 * k) ∧ (1 < k → begB ns (k - 1) = true → begB ns (k - 2) = false → 3 * (groupsTo ns k).length ≤ 2 * k + 1)
  | 0, _ => ⟨Nat.zero_le _, fun _ => Nat.zero_le _, fun h => absurd h (by decide)⟩
  | k + 1, hk => by
    obtain ⟨i1, i2, i3⟩ := groups_thirds ns k (by omega)
    have e := groupsTo_succ ns k
    cases b : begB ns k with
    | false =>
      rw [b, if_neg (by decide), List.append_nil] at e
      rw [e]
      refine ⟨by omega, fun _ => ?_, fun _ h => by rw [show k + 1 - 1 = k from rfl, b] at h; cases h⟩
      omega
    | true =>
      rw [b, if_pos rfl] at e
      have l : (groupsTo ns (k + 1)).length = (groupsTo ns k).length + 1 := by
        rw [e, List.length_append]
        rfl
      rw [l]
      have noF : ¬ (k + 1 = 0 ∨ begB ns (k + 1 - 1) = false) := by
        rintro (z | z)
        · omega
        · rw [show k + 1 - 1 = k from rfl, b] at z
          cases z
      by_cases k0 : k = 0
      · have := i2 (.inl k0)
        exact ⟨by omega, fun z => absurd z noF, fun z => by omega⟩
      · cases c : begB ns (k - 1) with
        | false =>
          have := i2 (.inr c)
          exact ⟨by omega, fun z => absurd z noF, fun _ _ _ => by omega⟩
        | true =>
          refine ⟨?_, fun z => absurd z noF, fun _ _ z => by rw [show k + 1 - 2 = k - 1 by omega, c] at z; cases z⟩
          by_cases k1 : k = 1
          · have : (groupsTo ns k).length ≤ 1 := by
              have := groupsTo_len ns k
              omega
            omega
          · cases d : begB ns (k - 2) with
            | false =>
              have := i3 (by omega) c d
              omega
            | true =>
              have t := (beg_two (ns := ns) (k := k - 2) (by omega) d (by rw [show k - 2 + 1 = k - 1 by omega]; exact c)).2
              rw [show k - 2 + 2 = k by omega, b] at t
              cases t
end LawK
set_option maxHeartbeats 4000000
namespace LawK
open PySem PySem.Spec
/-- names alike around a place: seven ahead or as many as there are in both, two behind or as many as there are in both -/
structure WinG (ns ms : List Str) (k l : Nat) : Prop where
  kn : k < ns.length
  lm : l < ms.length
  ah : ∀ d, d ≤ 7 → (d ≤ k ↔ d ≤ l)
  nm : ∀ d, d ≤ 7 → d ≤ k → nmA ns (k - d) = nmA ms (l - d)
  bh : ∀ d, d ≤ 2 → (k + d < ns.length ↔ l + d < ms.length)
  nb : ∀ d, d ≤ 2 → k + d < ns.length → nmA ns (k + d) = nmA ms (l + d)
theorem WinG.at {ns ms : List Str} {k l : Nat} (h : WinG ns ms k l) {t : Nat} (ht : t ≤ 9) (h7 : 7 ≤ k + t) (hl : k + t < ns.length + 7) : 7 ≤ l + t ∧ nmA ns (k + t - 7) = nmA ms (l + t - 7) := by
  rcases Nat.lt_or_ge 7 t with g | g
  · have := h.nb (t - 7) (by omega) (by omega)
    rw [show k + (t - 7) = k + t - 7 by omega, show l + (t - 7) = l + t - 7 by omega] at this
    exact ⟨by omega, this⟩
  · have e := (h.ah (7 - t) (by omega)).mp (by omega)
    have := h.nm (7 - t) (by omega) (by omega)
    rw [show k - (7 - t) = k + t - 7 by omega, show l - (7 - t) = l + t - 7 by omega] at this
    exact ⟨by omega, this⟩
theorem WinG.newA {ns ms : List Str} {k l : Nat} (h : WinG ns ms k l) {d : Nat} (hd : d ≤ 6) (hk : d ≤ k) : newB ns (k - d) = newB ms (l - d) := by
  have hl := (h.ah d (by omega)).mp hk
  have a := h.ah (d + 1) (by omega)
  unfold newB
  rcases Nat.lt_or_ge d k with g | g
  · have gl : d < l := a.mp g
    have e1 := h.nm d (by omega) hk
    have e2 := h.nm (d + 1) (by omega) g
    rw [decide_eq_false (show ¬ k - d = 0 by omega), decide_eq_false (show ¬ l - d = 0 by omega), show k - d - 1 = k - (d + 1) by omega, show l - d - 1 = l - (d + 1) by omega, e1, e2]
  · have gl : ¬ d + 1 ≤ l := fun z => by have := a.mpr z; omega
    rw [decide_eq_true (show k - d = 0 by omega), decide_eq_true (show l - d = 0 by omega), Bool.true_or, Bool.true_or]
theorem WinG.newF {ns ms : List Str} {k l : Nat} (h : WinG ns ms k l) {d : Nat} (h1 : 1 ≤ d) (hd : d ≤ 2) (hk : k + d < ns.length) : newB ns (k + d) = newB ms (l + d) := by
  have e1 := h.nb d hd hk
  have e2 := h.nb (d - 1) (by omega) (by omega)
  unfold newB
  rw [decide_eq_false (show ¬ k + d = 0 by omega), decide_eq_false (show ¬ l + d = 0 by omega), show k + d - 1 = k + (d - 1) by omega, show l + d - 1 = l + (d - 1) by omega, e1, e2]
theorem WinG.al0 {ns ms : List Str} {k l : Nat} (h : WinG ns ms k l) : alB ns k = alB ms l := by
  have e1 := h.newA (d := 0) (by omega) (by omega)
  rw [Nat.sub_zero, Nat.sub_zero] at e1
  have b := h.bh 1 (by omega)
  have kn := h.kn
  have lm := h.lm
  unfold alB
  rcases Nat.lt_or_ge (k + 1) ns.length with g | g
  · have gl := b.mp g
    have e2 := h.newF (d := 1) (by omega) (by omega) g
    rw [decide_eq_false (show ¬ k + 1 = ns.length by omega), decide_eq_false (show ¬ l + 1 = ms.length by omega), e1, e2]
  · have gl : ¬ l + 1 < ms.length := fun z => by have := b.mpr z; omega
    rw [decide_eq_true (show k + 1 = ns.length by omega), decide_eq_true (show l + 1 = ms.length by omega), e1, Bool.true_or, Bool.true_or]
theorem WinG.alA {ns ms : List Str} {k l : Nat} (h : WinG ns ms k l) {d : Nat} (h1 : 1 ≤ d) (hd : d ≤ 6) (hk : d ≤ k) : alB ns (k - d) = alB ms (l - d) := by
  have hl := (h.ah d (by omega)).mp hk
  have e1 := h.newA hd hk
  have e2 := h.newA (d := d - 1) (by omega) (by omega)
  have kn := h.kn
  have lm := h.lm
  unfold alB
  rw [decide_eq_false (show ¬ k - d + 1 = ns.length by omega), decide_eq_false (show ¬ l - d + 1 = ms.length by omega), show k - d + 1 = k - (d - 1) by omega, show l - d + 1 = l - (d - 1) by omega, e1, e2]
theorem WinG.alF {ns ms : List Str} {k l : Nat} (h : WinG ns ms k l) (hk : k + 1 < ns.length) : alB ns (k + 1) = alB ms (l + 1) := by
  have hl := (h.bh 1 (by omega)).mp hk
  have e1 := h.newF (d := 1) (by omega) (by omega) hk
  have b := h.bh 2 (by omega)
  unfold alB
  rcases Nat.lt_or_ge (k + 2) ns.length with g | g
  · have gl := b.mp g
    have e2 := h.newF (d := 2) (by omega) (by omega) g
    rw [decide_eq_false (show ¬ k + 1 + 1 = ns.length by omega), decide_eq_false (show ¬ l + 1 + 1 = ms.length by omega), e1, show k + 1 + 1 = k + 2 by omega, show l + 1 + 1 = l + 2 by omega, e2]
  · have gl : ¬ l + 2 < ms.length := fun z => by have := b.mpr z; omega
    rw [decide_eq_true (show k + 1 + 1 = ns.length by omega), decide_eq_true (show l + 1 + 1 = ms.length by omega), e1, Bool.true_or, Bool.true_or]
/-- how far ahead a row of alike kind begins, by the kind of the name there -/
theorem rs_step {ns : List Str} {k d : Nat} (hk : d + 1 ≤ k) (h1 : rsN ns k + d ≤ k) : alB ns (k - (d + 1)) = true ↔ rsN ns k + (d + 1) ≤ k := by
  refine ⟨fun t => ?_, fun t => rsN_all k _ (by omega) (by omega)⟩
  apply Classical.byContradiction
  intro z
  have e0 : rsN ns k = k - d := by omega
  have h0 : ∀ m, m ≤ d → rsN ns (k - d + m) = rsN ns (k - d) := fun m => by
    induction m with
    | zero => intro _; rfl
    | succ m ih =>
      intro hm
      rw [← Nat.add_assoc, rsN_al (rsN_all k _ (by omega) (by omega)), ih (by omega)]
  have h00 := h0 d (Nat.le_refl _)
  rw [show k - d + d = k by omega, e0] at h00
  have e1 : k - d = k - (d + 1) + 1 := by omega
  rw [e1, rsN_al t] at h00
  have := rsN_le ns (k - (d + 1))
  omega
theorem WinG.rs {ns ms : List Str} {k l : Nat} (h : WinG ns ms k l) : ∀ d, d ≤ 6 → (rsN ns k + d ≤ k ∧ rsN ms l + d ≤ l) ∨ (∃ e, e < d ∧ rsN ns k + e = k ∧ rsN ms l + e = l)
  | 0, _ => .inl ⟨rsN_le ns k, rsN_le ms l⟩
  | d + 1, hd => by
    rcases WinG.rs h d (by omega) with ⟨h1, h2⟩ | ⟨e, he, h1, h2⟩
    · have a := h.ah (d + 1) (by omega)
      rcases Nat.lt_or_ge d k with g | g
      · have gl : d + 1 ≤ l := a.mp g
        have ea := h.alA (d := d + 1) (by omega) hd g
        have r1 := rs_step g h1
        have r2 := rs_step gl h2
        by_cases t : alB ns (k - (d + 1)) = true
        · exact .inl ⟨r1.mp t, r2.mp (ea ▸ t)⟩
        · have t2 : ¬ alB ms (l - (d + 1)) = true := fun z => t (by rw [ea]; exact z)
          have n1 : ¬ rsN ns k + (d + 1) ≤ k := fun z => t (r1.mpr z)
          have n2 : ¬ rsN ms l + (d + 1) ≤ l := fun z => t2 (r2.mpr z)
          exact .inr ⟨d, by omega, by omega, by omega⟩
      · have gl : ¬ d + 1 ≤ l := fun z => by have := a.mpr z; omega
        exact .inr ⟨d, by omega, by omega, by omega⟩
    · exact .inr ⟨e, by omega, h1, h2⟩
theorem WinG.coin {ns ms : List Str} {k l : Nat} (h : WinG ns ms k l) (hk : k + 1 < ns.length) (ak : alB ns k = true) (ak1 : alB ns (k + 1) = true) {x : Nat} (x1 : 6 ≤ x) (x2 : x ≤ 8) (hr : rsN ns k + 1 ≤ k) (hs : rsN ms l + 1 ≤ l) :
    (coinsN (segN ns (rsN ns k) (reN ns k))).getD (k + x - 7 - rsN ns k) 0 = (coinsN (segN ms (rsN ms l) (reN ms l))).getD (l + x - 7 - rsN ms l) 0 := by
  have hl := (h.bh 1 (by omega)).mp hk
  have al : alB ms l = true := h.al0 ▸ ak
  have al1 : alB ms (l + 1) = true := (h.alF hk) ▸ ak1
  have rk : k + 1 < reN ns k := (re_iff hk ak).mpr ak1
  have rl : l + 1 < reN ms l := (re_iff hl al).mpr al1
  have rk2 := (reN_le (ns := ns) (k := k) (by omega)).2
  have rl2 := (reN_le (ns := ms) (k := l) (by omega)).2
  have lk : ((segN ns (rsN ns k) (reN ns k)).map numZ).length = reN ns k - rsN ns k := by rw [List.length_map, seg_len (by omega) rk2]
  have ll : ((segN ms (rsN ms l) (reN ms l)).map numZ).length = reN ms l - rsN ms l := by rw [List.length_map, seg_len (by omega) rl2]
  unfold coinsN
  rcases h.rs 6 (Nat.le_refl _) with ⟨h1, h2⟩ | ⟨e, he, h1, h2⟩
  · refine rounds_local 5 _ _ _ _ (by omega) (by omega) (by rw [lk]; omega) (by rw [ll]; omega) fun y hy => ?_
    rw [seg_num (by omega) rk2 (by omega), seg_num (by omega) rl2 (by omega)]
    have := (h.at (t := x - y) (by omega) (by omega) (by omega)).2
    rw [show rsN ns k + (k + x - 7 - rsN ns k - y) = k + (x - y) - 7 by omega, show rsN ms l + (l + x - 7 - rsN ms l - y) = l + (x - y) - 7 by omega, this]
  · have e1 : k + x - 7 - rsN ns k = e + x - 7 := by omega
    have e2 : l + x - 7 - rsN ms l = e + x - 7 := by omega
    rw [e1, e2]
    refine rounds_ahead 5 _ _ _ (by rw [lk]; omega) (by rw [ll]; omega) fun y hy => ?_
    rw [seg_num (by omega) rk2 (by omega), seg_num (by omega) rl2 (by omega)]
    have := (h.at (t := 7 - e + y) (by omega) (by omega) (by omega)).2
    rw [show rsN ns k + y = k + (7 - e + y) - 7 by omega, show rsN ms l + y = l + (7 - e + y) - 7 by omega, this]
/-- whether a name begins a group hangs on the names around it -/
theorem WinG.beg {ns ms : List Str} {k l : Nat} (h : WinG ns ms k l) : begB ns k = begB ms l := by
  have el := h.al0
  have en := h.newA (d := 0) (by omega) (by omega)
  rw [Nat.sub_zero, Nat.sub_zero] at en
  have b := h.bh 1 (by omega)
  have a := h.ah 1 (by omega)
  have kn := h.kn
  have lm := h.lm
  unfold begB
  cases ak : alB ns k with
  | false =>
    rw [ak] at el
    rw [← el, en]
    rfl
  | true =>
    rw [ak] at el
    rw [← el, if_pos rfl, if_pos rfl]
    rcases Nat.eq_zero_or_pos k with k0 | k0
    · have l0 : l = 0 := by
        rcases Nat.eq_zero_or_pos l with z | z
        · exact z
        · have := a.mpr z
          omega
      rw [if_pos (.inl k0), if_pos (.inl l0)]
    have l0 : 1 ≤ l := a.mp k0
    have ep := h.alA (d := 1) (by omega) (by omega) k0
    cases app : alB ns (k - 1) with
    | false =>
      rw [app] at ep
      rw [← ep, if_pos (.inr rfl), if_pos (.inr rfl)]
    | true =>
      rw [app] at ep
      rw [← ep, if_neg (by rintro (z | z); omega; cases z), if_neg (by rintro (z | z); omega; cases z)]
      rcases Nat.lt_or_ge (k + 1) ns.length with g | g
      · have gl := b.mp g
        have el1 := h.alF g
        have er : decide (k + 1 < reN ns k) = alB ns (k + 1) := by
          cases t : alB ns (k + 1) with
          | true => exact decide_eq_true ((re_iff g ak).mpr t)
          | false => exact decide_eq_false fun z => by have := (re_iff g ak).mp z; rw [t] at this; cases this
        have er2 : decide (l + 1 < reN ms l) = alB ms (l + 1) := by
          cases t : alB ms (l + 1) with
          | true => exact decide_eq_true ((re_iff gl el.symm).mpr t)
          | false => exact decide_eq_false fun z => by have := (re_iff gl el.symm).mp z; rw [t] at this; cases this
        rw [er, er2, ← el1]
        cases t : alB ns (k + 1) with
        | false => rfl
        | true =>
          rw [Bool.true_and, Bool.true_and]
          have hr : rsN ns k + 1 ≤ k := by
            have := rsN_al app
            rw [show k - 1 + 1 = k by omega] at this
            have := rsN_le ns (k - 1)
            omega
          have hs : rsN ms l + 1 ≤ l := by
            have := rsN_al ep.symm
            rw [show l - 1 + 1 = l by omega] at this
            have := rsN_le ms (l - 1)
            omega
          have c6 := h.coin g ak t (x := 6) (by omega) (by omega) hr hs
          have c7 := h.coin g ak t (x := 7) (by omega) (by omega) hr hs
          have c8 := h.coin g ak t (x := 8) (by omega) (by omega) hr hs
          rw [show k + 6 - 7 - rsN ns k = k - rsN ns k - 1 by omega, show l + 6 - 7 - rsN ms l = l - rsN ms l - 1 by omega] at c6
          rw [show k + 7 - 7 - rsN ns k = k - rsN ns k by omega, show l + 7 - 7 - rsN ms l = l - rsN ms l by omega] at c7
          rw [show k + 8 - 7 - rsN ns k = k - rsN ns k + 1 by omega, show l + 8 - 7 - rsN ms l = l - rsN ms l + 1 by omega] at c8
          unfold pkR pkB
          rw [c6, c7, c8]
      · have gl : ¬ l + 1 < ms.length := fun z => by have := b.mpr z; omega
        have rk := (reN_le (ns := ns) (k := k) (by omega)).2
        have rl := (reN_le (ns := ms) (k := l) (by omega)).2
        rw [decide_eq_false (show ¬ k + 1 < reN ns k by omega), decide_eq_false (show ¬ l + 1 < reN ms l by omega), Bool.false_and, Bool.false_and]
end LawK
set_option maxHeartbeats 4000000
namespace LawK
open PySem PySem.Spec
/-- two rows of names with a like head of p and a like tail of s -/
structure HT (ns ms : List Str) (p s : Nat) : Prop where
  l1 : p + s ≤ ns.length
  l2 : p + s ≤ ms.length
  hd : ∀ k, k < p → nmA ns k = nmA ms k
  tl : ∀ d, 1 ≤ d → d ≤ s → nmA ns (ns.length - d) = nmA ms (ms.length - d)
/-- in the head, two off its end, groups begin alike -/
theorem HT.head {ns ms : List Str} {p s k : Nat} (h : HT ns ms p s) (hk : k + 2 < p) : begB ns k = begB ms k := by
  have l1 := h.l1
  have l2 := h.l2
  exact WinG.beg ⟨by omega, by omega, fun _ _ => Iff.rfl, fun d _ _ => h.hd _ (by omega), fun d hd => iff_of_true (by omega) (by omega), fun d hd _ => h.hd _ (by omega)⟩
/-- in the tail, seven off its beginning, groups begin alike -/
theorem HT.tail {ns ms : List Str} {p s d : Nat} (h : HT ns ms p s) (d1 : 1 ≤ d) (hd : d + 7 ≤ s) : begB ns (ns.length - d) = begB ms (ms.length - d) := by
  have l1 := h.l1
  have l2 := h.l2
  refine WinG.beg ⟨by omega, by omega, fun e he => iff_of_true (by omega) (by omega), fun e he _ => ?_, fun e he => ⟨fun z => by omega, fun z => by omega⟩, fun e he z => ?_⟩
  · have := h.tl (d + e) (by omega) (by omega)
    rw [show ns.length - (d + e) = ns.length - d - e by omega, show ms.length - (d + e) = ms.length - d - e by omega] at this
    exact this
  · have := h.tl (d - e) (by omega) (by omega)
    rw [show ns.length - (d - e) = ns.length - d + e by omega, show ms.length - (d - e) = ms.length - d + e by omega] at this
    exact this
/-- how many of m places from i on are begins of groups -/
def cntW (ns : List Str) (i : Nat) : Nat → Nat
  | 0 => 0
  | m + 1 => cntW ns i m + if begB ns (i + m) = true then 1 else 0
/-- at most two thirds of places in a row begin groups -/
theorem cnt_thirds (ns : List Str) (i : Nat) : ∀ m, i + m ≤ ns.length →
    3 * cntW ns i m ≤ 2 * m + 2 ∧ ((m = 0 ∨ begB ns (i + m - 1) = false) → 3 * cntW ns i m ≤ 2 * m) ∧ (1 ≤ m → (m = 1 ∨ begB ns (i + m - 2) = false) → 3 * cntW ns i m ≤ 2 * m + 1)
  | 0, _ => ⟨Nat.zero_le _, fun _ => Nat.le_refl _, fun h => by omega⟩
  | 1, hm => by
    have e : cntW ns i 1 = 0 + if begB ns (i + 0) = true then 1 else 0 := rfl
    rw [e]
    cases b : begB ns (i + 0) with
    | true =>
      refine ⟨by decide, fun h => ?_, fun _ _ => by decide⟩
      rcases h with h | h
      · cases h
      · rw [show i + 1 - 1 = i + 0 by omega, b] at h
        cases h
    | false => exact ⟨by decide, fun _ => by decide, fun _ _ => by decide⟩
  | m + 2, hm => by
    obtain ⟨a1, a2, a3⟩ := cnt_thirds ns i (m + 1) (by omega)
    obtain ⟨c1, c2, c3⟩ := cnt_thirds ns i m (by omega)
    have e1 : cntW ns i (m + 2) = cntW ns i (m + 1) + if begB ns (i + (m + 1)) = true then 1 else 0 := rfl
    have e0 : cntW ns i (m + 1) = cntW ns i m + if begB ns (i + m) = true then 1 else 0 := rfl
    have i2 : i + (m + 2) - 1 = i + (m + 1) := by omega
    have i3 : i + (m + 2) - 2 = i + m := by omega
    have i4 : i + (m + 1) - 1 = i + m := by omega
    have i5 : i + (m + 1) - 2 = i + m - 1 := by omega
    rw [i4] at a2
    rw [i5] at a3
    rw [i2, i3]
    cases b1 : begB ns (i + (m + 1)) with
    | false =>
      have e1 : cntW ns i (m + 2) = cntW ns i (m + 1) := by rw [e1, b1]; rfl
      cases b0 : begB ns (i + m) with
      | false =>
        have a2' := a2 (.inr b0)
        exact ⟨by omega, fun _ => by omega, fun _ _ => by omega⟩
      | true =>
        have e0 : cntW ns i (m + 1) = cntW ns i m + 1 := by rw [e0, b0]; rfl
        refine ⟨by omega, fun _ => ?_, fun _ z => ?_⟩
        · omega
        · rcases z with z | z
          · omega
          · cases z
    | true =>
      have e1 : cntW ns i (m + 2) = cntW ns i (m + 1) + 1 := by rw [e1, b1]; rfl
      cases b0 : begB ns (i + m) with
      | false =>
        have a2' := a2 (.inr b0)
        refine ⟨by omega, fun z => ?_, fun _ _ => by omega⟩
        rcases z with z | z
        · omega
        · cases z
      | true =>
        have pr : m = 0 ∨ begB ns (i + m - 1) = false := by
          rcases Nat.eq_zero_or_pos m with z | z
          · exact .inl z
          · right
            cases bp : begB ns (i + m - 1) with
            | false => rfl
            | true =>
              have t := (beg_two (ns := ns) (k := i + m - 1) (by omega) bp (by rw [show i + m - 1 + 1 = i + m by omega]; exact b0)).2
              rw [show i + m - 1 + 2 = i + (m + 1) by omega, b1] at t
              cases t
        have a3' := a3 (by omega) (by
          rcases pr with z | z
          · exact .inl (by omega)
          · exact .inr z)
        refine ⟨by omega, fun z => ?_, fun _ z => ?_⟩
        · rcases z with z | z
          · omega
          · cases z
        · rcases z with z | z
          · omega
          · cases z
end LawK
set_option maxHeartbeats 4000000
namespace LawK
open PySem PySem.Spec
/-- the begins among m places from i on -/
def begF (ns : List Str) (i m : Nat) : List Nat := ((List.range m).map (i + ·)).filter (begB ns)
theorem groupsTo_add (ns : List Str) (i : Nat) : ∀ m, groupsTo ns (i + m) = groupsTo ns i ++ begF ns i m
  | 0 => by
    show groupsTo ns i = groupsTo ns i ++ []
    rw [List.append_nil]
  | m + 1 => by
    rw [← Nat.add_assoc, groupsTo_succ, groupsTo_add ns i m, List.append_assoc]
    congr 1
    unfold begF
    rw [List.range_succ, List.map_append, List.filter_append]
    congr 1
    show _ = List.filter (begB ns) [i + m]
    rw [List.filter_cons, List.filter_nil]
theorem begF_len (ns : List Str) (i : Nat) : ∀ m, (begF ns i m).length = cntW ns i m
  | 0 => rfl
  | m + 1 => by
    have e := begF_len ns i m
    unfold begF at e ⊢
    rw [List.range_succ, List.map_append, List.filter_append, List.length_append, e]
    show cntW ns i m + (List.filter (begB ns) [i + m]).length = cntW ns i m + _
    rw [List.filter_cons, List.filter_nil]
    split <;> rfl
/-- the begins of a head, alike in both -/
theorem HT.headG {ns ms : List Str} {p s : Nat} (h : HT ns ms p s) : groupsTo ns (p - 2) = groupsTo ms (p - 2) := by
  unfold groupsTo
  refine List.filter_congr fun k hk => ?_
  have := List.mem_range.mp hk
  exact h.head (by omega)
/-- the begins of a tail, by their distance from the end -/
theorem HT.tailG {ns ms : List Str} {p s : Nat} (h : HT ns ms p s) : (begF ns (ns.length - (s - 7)) (s - 7)).map (ns.length - ·) = (begF ms (ms.length - (s - 7)) (s - 7)).map (ms.length - ·) := by
  have l1 := h.l1
  have l2 := h.l2
  have gen : ∀ (qs : List Str) (f : Nat → Bool), s - 7 ≤ qs.length → (∀ j, j < s - 7 → begB qs (qs.length - (s - 7) + j) = f j) → (begF qs (qs.length - (s - 7)) (s - 7)).map (qs.length - ·) = ((List.range (s - 7)).filter f).map fun j => s - 7 - j := fun qs f hl hf => by
    unfold begF
    rw [List.filter_map, List.map_map]
    have e : (List.range (s - 7)).filter (begB qs ∘ fun x => qs.length - (s - 7) + x) = (List.range (s - 7)).filter f := List.filter_congr fun j hj => hf j (List.mem_range.mp hj)
    rw [e]
    refine List.map_congr_left fun j hj => ?_
    have := List.mem_range.mp (List.mem_filter.mp hj).1
    show qs.length - (qs.length - (s - 7) + j) = s - 7 - j
    omega
  rw [gen ns (fun j => begB ns (ns.length - (s - 7) + j)) (by omega) (fun _ _ => rfl), gen ms (fun j => begB ns (ns.length - (s - 7) + j)) (by omega) fun j hj => ?_]
  have t := h.tail (d := s - 7 - j) (by omega) (by omega)
  rw [show ns.length - (s - 7 - j) = ns.length - (s - 7) + j by omega, show ms.length - (s - 7 - j) = ms.length - (s - 7) + j by omega] at t
  exact t.symm
/-- how many groups the later row has between head and tail -/
theorem HT.mid {ns ms : List Str} {p s n : Nat} (h : HT ns ms p s) (hn : ms.length = p + n + s) :
    3 * ((groupsN ms).length - ((groupsTo ms (p - 2)).length - 1) - (begF ms (ms.length - (s - 7)) (s - 7)).length) ≤ 2 * n + 23 := by
  have e : groupsN ms = (groupsTo ms (p - 2) ++ begF ms (p - 2) (ms.length - (s - 7) - (p - 2))) ++ begF ms (ms.length - (s - 7)) (s - 7) := by
    unfold groupsN
    have e1 := groupsTo_add ms (ms.length - (s - 7)) (s - 7)
    rw [show ms.length - (s - 7) + (s - 7) = ms.length by omega] at e1
    have e2 := groupsTo_add ms (p - 2) (ms.length - (s - 7) - (p - 2))
    rw [show p - 2 + (ms.length - (s - 7) - (p - 2)) = ms.length - (s - 7) by omega] at e2
    rw [e1, e2]
  have c := (cnt_thirds ms (p - 2) (ms.length - (s - 7) - (p - 2)) (by omega)).1
  rw [← begF_len] at c
  rw [e, List.length_append, List.length_append]
  omega
end LawK
set_option maxHeartbeats 4000000
namespace LawK
open PySem PySem.Spec PyProof.Rows L2 Ev
abbrev codZ (z : Str) : List Nat := z.cps.toList
theorem codZ_inj {a b : Str} (h : codZ a = codZ b) : a = b := by
  obtain ⟨⟨x⟩⟩ := a
  obtain ⟨⟨y⟩⟩ := b
  have h : x = y := h
  rw [h]
def endB (z : Str) (b : List Nat) (k : Nat) : Nat := if k + 1 < b.length then b.getD (k + 1) 0 else z.length
theorem nmE {z : Str} {b : List Nat} {k : Nat} (h : k < b.length) : nmA (namesAt z b) k = cutZ z (b.getD k 0) (endB z b k) := by
  have hx : b[k]? = some (b.getD k 0) := get1 h
  have hy : (b.drop 1 ++ [z.length])[k]? = some (endB z b k) := by
    unfold endB
    by_cases g : k + 1 < b.length
    · rw [if_pos g, List.getElem?_append_left (by rw [List.length_drop]; omega), List.getElem?_drop, Nat.add_comm 1 k]
      exact get1 g
    · rw [if_neg g, List.getElem?_append_right (by rw [List.length_drop]; omega), show k - (b.drop 1).length = 0 by rw [List.length_drop]; omega]
      rfl
  unfold nmA namesAt
  rw [List.getD_eq_getElem?_getD, List.getElem?_zipWith_eq_some.mpr ⟨_, _, hx, hy, rfl⟩]
  rfl
/-- z2 is z with m signs in place of the many at a -/
structure Ed (z z2 : Str) (a many m : Nat) : Prop where
  fit : a + many ≤ z.length
  len : z2.length + many = z.length + m
  fr : (codZ z2).take a = (codZ z).take a
  bk : (codZ z2).drop (a + m) = (codZ z).drop (a + many)
theorem cut_cod {z : Str} {i j : Nat} (h : i ≤ j) : codZ (cutZ z i j) = ((codZ z).drop i).take (j - i) := by
  unfold cutZ
  have e := cutS_of (z := z) (i := (i : Int)) (j := (j : Int)) (by omega) (by omega)
  rw [show ((i : Nat) : Int).toNat = i by omega, show (((j : Nat) : Int) - ((i : Nat) : Int)).toNat = j - i by omega] at e
  exact e
theorem Ed.cutF {z z2 : Str} {a many m i j : Nat} (h : Ed z z2 a many m) (hij : i ≤ j) (hj : j ≤ a) : cutZ z i j = cutZ z2 i j := by
  apply codZ_inj
  rw [cut_cod hij, cut_cod hij]
  have e : ∀ l : List Nat, (l.drop i).take (j - i) = (((l.take a).drop i).take (j - i)) := fun l => by
    rw [List.drop_take, List.take_take, Nat.min_eq_left (by omega)]
  rw [e (codZ z), e (codZ z2), h.fr]
theorem Ed.cutB {z z2 : Str} {a many m i j i2 j2 : Nat} (h : Ed z z2 a many m) (hij : i ≤ j) (hi : a + many ≤ i) (e1 : i2 + many = i + m) (e2 : j2 + many = j + m) : cutZ z i j = cutZ z2 i2 j2 := by
  apply codZ_inj
  rw [cut_cod hij, cut_cod (by omega)]
  have q1 : (codZ z).drop i = ((codZ z).drop (a + many)).drop (i - (a + many)) := by rw [List.drop_drop]; congr 1; omega
  have q2 : (codZ z2).drop i2 = ((codZ z2).drop (a + m)).drop (i - (a + many)) := by rw [List.drop_drop]; congr 1; omega
  rw [q1, q2, h.bk, show j2 - i2 = j - i by omega]
/-- rows of blocks with a like head, ended ahead of the edit, and a like tail, begun behind it -/
structure HB (z z2 : Str) (a many m : Nat) (b b2 : List Nat) (p s : Nat) : Prop where
  l1 : p + s ≤ b.length
  l2 : p + s ≤ b2.length
  hd : ∀ k, k < p → b.getD k 0 = b2.getD k 0 ∧ endB z b k = endB z2 b2 k ∧ endB z b k ≤ a
  tl : ∀ d, 1 ≤ d → d ≤ s → b2.getD (b2.length - d) 0 + many = b.getD (b.length - d) 0 + m ∧ a + many ≤ b.getD (b.length - d) 0
theorem Begs.end {z : Str} {b : List Nat} (h : Begs z b) {k : Nat} (hk : k < b.length) : b.getD k 0 < endB z b k := by
  unfold endB
  split
  · rename_i g
    rw [getD_get hk, getD_get g]
    exact List.pairwise_iff_getElem.mp h.asc k (k + 1) hk g (by omega)
  · rw [getD_get hk]
    exact h.lt _ (List.getElem_mem _)
theorem HB.endT {z z2 : Str} {a many m : Nat} {b b2 : List Nat} {p s : Nat} (E : Ed z z2 a many m) (h : HB z z2 a many m b b2 p s) {d : Nat} (d1 : 1 ≤ d) (ds : d ≤ s) : endB z2 b2 (b2.length - d) + many = endB z b (b.length - d) + m := by
  have l1 := h.l1
  have l2 := h.l2
  unfold endB
  rcases Nat.lt_or_ge 1 d with g | g
  · have t := (h.tl (d - 1) (by omega) (by omega)).1
    rw [if_pos (by omega), if_pos (by omega), show b2.length - d + 1 = b2.length - (d - 1) by omega, show b.length - d + 1 = b.length - (d - 1) by omega]
    exact t
  · rw [if_neg (by omega), if_neg (by omega)]
    exact E.len
theorem HB.ht {z z2 : Str} {a many m : Nat} {b b2 : List Nat} {p s : Nat} (E : Ed z z2 a many m) (B : Begs z b) (h : HB z z2 a many m b b2 p s) : HT (namesAt z b) (namesAt z2 b2) p s := by
  have l1 := h.l1
  have l2 := h.l2
  refine ⟨by rw [namesAt_len]; exact l1, by rw [namesAt_len]; exact l2, fun k hk => ?_, fun d d1 ds => ?_⟩
  · obtain ⟨e1, e2, e3⟩ := h.hd k hk
    rw [nmE (by omega), nmE (by omega), ← e1, ← e2]
    exact E.cutF (Nat.le_of_lt (B.end (by omega))) e3
  · obtain ⟨e1, e2⟩ := h.tl d d1 ds
    rw [namesAt_len, namesAt_len, nmE (by omega), nmE (by omega)]
    exact E.cutB (Nat.le_of_lt (B.end (by omega))) e2 e1 (h.endT E d1 ds)
end LawK
set_option maxHeartbeats 4000000
namespace LawK
open PySem PySem.Spec PyProof.Rows L2 Ev
theorem split3 {ns : List Str} {p s : Nat} (h : p + s ≤ ns.length) : groupsN ns = (groupsTo ns (p - 2) ++ begF ns (p - 2) (ns.length - (s - 7) - (p - 2))) ++ begF ns (ns.length - (s - 7)) (s - 7) := by
  unfold groupsN
  have e1 := groupsTo_add ns (ns.length - (s - 7)) (s - 7)
  rw [show ns.length - (s - 7) + (s - 7) = ns.length by omega] at e1
  have e2 := groupsTo_add ns (p - 2) (ns.length - (s - 7) - (p - 2))
  rw [show p - 2 + (ns.length - (s - 7) - (p - 2)) = ns.length - (s - 7) by omega] at e2
  rw [e1, e2]
theorem getD_map0 {l : List Nat} {f : Nat → Nat} {k : Nat} (h : k < l.length) : (l.map f).getD k 0 = f (l.getD k 0) := by
  rw [List.getD_eq_getElem?_getD, List.getElem?_map, get1 h]
  rfl
theorem getD_app1 {l r : List Nat} {k : Nat} (h : k < l.length) : (l ++ r).getD k 0 = l.getD k 0 := by
  rw [List.getD_eq_getElem?_getD, List.getElem?_append_left h, ← List.getD_eq_getElem?_getD]
theorem getD_app2 {l r : List Nat} {k : Nat} : (l ++ r).getD (l.length + k) 0 = r.getD k 0 := by
  rw [List.getD_eq_getElem?_getD, List.getElem?_append_right (by omega), show l.length + k - l.length = k by omega, ← List.getD_eq_getElem?_getD]
theorem getD_in {l : List Nat} {k : Nat} (h : k < l.length) : l.getD k 0 ∈ l := by
  rw [getD_get h]
  exact List.getElem_mem _
/-- the next level: a like head and tail again, and not much more between them -/
theorem HB.next {z z2 : Str} {a many m : Nat} {b b2 : List Nat} {p s n : Nat} (E : Ed z z2 a many m) (B : Begs z b) (h : HB z z2 a many m b b2 p s) (hn : b2.length = p + n + s) :
    ∃ p' s' n', HB z z2 a many m (nextB z b) (nextB z2 b2) p' s' ∧ (nextB z2 b2).length = p' + n' + s' ∧ 3 * n' ≤ 2 * n + 23 := by
  have H := h.ht E B
  have l1 := h.l1
  have l2 := h.l2
  have nl : (namesAt z b).length = b.length := namesAt_len z b
  have ml : (namesAt z2 b2).length = b2.length := namesAt_len z2 b2
  have hG := H.headG
  have tG := H.tailG
  have mid := H.mid (n := n) (by rw [ml]; exact hn)
  have s1 := split3 (ns := namesAt z b) (p := p) (s := s) H.l1
  have s2 := split3 (ns := namesAt z2 b2) (p := p) (s := s) H.l2
  have aLt : ∀ {k}, k < (groupsTo (namesAt z2 b2) (p - 2)).length → (groupsTo (namesAt z2 b2) (p - 2)).getD k 0 < p - 2 := fun {k} hk => by
    have := (List.mem_filter.mp (getD_in hk)).1
    exact List.mem_range.mp this
  have tIn : ∀ (ns : List Str) {k}, k < (begF ns (ns.length - (s - 7)) (s - 7)).length → s - 7 ≤ ns.length → 1 ≤ ns.length - (begF ns (ns.length - (s - 7)) (s - 7)).getD k 0 ∧ ns.length - (begF ns (ns.length - (s - 7)) (s - 7)).getD k 0 ≤ s - 7 := fun ns {k} hk hs => by
    have := (List.mem_filter.mp (getD_in hk)).1
    obtain ⟨j, hj, e⟩ := List.mem_map.mp this
    have hj := List.mem_range.mp hj
    have e : ns.length - (s - 7) + j = (begF ns (ns.length - (s - 7)) (s - 7)).getD k 0 := e
    rw [← e]
    omega
  have tLen : (begF (namesAt z b) ((namesAt z b).length - (s - 7)) (s - 7)).length = (begF (namesAt z2 b2) ((namesAt z2 b2).length - (s - 7)) (s - 7)).length := by
    have := congrArg List.length tG
    rw [List.length_map, List.length_map] at this
    exact this
  have tEq : ∀ {k}, k < (begF (namesAt z2 b2) ((namesAt z2 b2).length - (s - 7)) (s - 7)).length → (namesAt z b).length - (begF (namesAt z b) ((namesAt z b).length - (s - 7)) (s - 7)).getD k 0 = (namesAt z2 b2).length - (begF (namesAt z2 b2) ((namesAt z2 b2).length - (s - 7)) (s - 7)).getD k 0 := fun {k} hk => by
    have := congrArg (fun l => List.getD l k 0) tG
    rw [getD_map0 (by rw [tLen]; exact hk), getD_map0 hk] at this
    exact this
  rw [hG] at s1
  generalize hA : groupsTo (namesAt z2 b2) (p - 2) = A at *
  generalize hT : begF (namesAt z b) ((namesAt z b).length - (s - 7)) (s - 7) = T at *
  generalize hT2 : begF (namesAt z2 b2) ((namesAt z2 b2).length - (s - 7)) (s - 7) = T2 at *
  generalize begF (namesAt z b) (p - 2) ((namesAt z b).length - (s - 7) - (p - 2)) = X at *
  generalize begF (namesAt z2 b2) (p - 2) ((namesAt z2 b2).length - (s - 7) - (p - 2)) = X2 at *
  have e1 : nextB z b = ((A ++ X) ++ T).map (b.getD · 0) := by unfold nextB; rw [s1]
  have e2 : nextB z2 b2 = ((A ++ X2) ++ T2).map (b2.getD · 0) := by unfold nextB; rw [s2]
  have g1 : (groupsN (namesAt z2 b2)).length = A.length + X2.length + T2.length := by rw [s2, List.length_append, List.length_append]
  rw [g1] at mid
  have n1 : (nextB z b).length = A.length + X.length + T.length := by rw [e1, List.length_map, List.length_append, List.length_append]
  have n2 : (nextB z2 b2).length = A.length + X2.length + T2.length := by rw [e2, List.length_map, List.length_append, List.length_append]
  have at1 : ∀ {k}, k < A.length → (nextB z b).getD k 0 = b.getD (A.getD k 0) 0 := fun {k} hk => by
    rw [e1, getD_map0 (by rw [List.length_append, List.length_append]; omega), getD_app1 (by rw [List.length_append]; omega), getD_app1 hk]
  have at2 : ∀ {k}, k < A.length → (nextB z2 b2).getD k 0 = b2.getD (A.getD k 0) 0 := fun {k} hk => by
    rw [e2, getD_map0 (by rw [List.length_append, List.length_append]; omega), getD_app1 (by rw [List.length_append]; omega), getD_app1 hk]
  have tt1 : ∀ {k}, k < T.length → (nextB z b).getD (A.length + X.length + k) 0 = b.getD (T.getD k 0) 0 := fun {k} hk => by
    rw [e1, getD_map0 (by rw [List.length_append, List.length_append]; omega), ← List.length_append, getD_app2]
  have tt2 : ∀ {k}, k < T2.length → (nextB z2 b2).getD (A.length + X2.length + k) 0 = b2.getD (T2.getD k 0) 0 := fun {k} hk => by
    rw [e2, getD_map0 (by rw [List.length_append, List.length_append]; omega), ← List.length_append, getD_app2]
  refine ⟨A.length - 1, T2.length, (A.length + X2.length + T2.length) - (A.length - 1) - T2.length, ⟨by omega, by omega, fun k hk => ?_, fun d d1 ds => ?_⟩, by omega, mid⟩
  · have k1 : k < A.length := by omega
    have k2 : k + 1 < A.length := by omega
    have q1 := aLt k1
    have q2 := aLt k2
    have x1 := h.hd (A.getD k 0) (by omega)
    have x2 := h.hd (A.getD (k + 1) 0) (by omega)
    have en := B.end (k := A.getD (k + 1) 0) (by omega)
    rw [at1 k1, at2 k1]
    unfold endB
    rw [if_pos (by omega), if_pos (by omega), at1 k2, at2 k2]
    exact ⟨x1.1, x2.1, by omega⟩
  · have i1 : (nextB z b).length - d = A.length + X.length + (T.length - d) := by omega
    have i2 : (nextB z2 b2).length - d = A.length + X2.length + (T2.length - d) := by omega
    have kd : T2.length - d < T2.length := by omega
    have te := tEq kd
    have r2 := tIn (namesAt z2 b2) (k := T2.length - d) (by rw [hT2]; exact kd) (by omega)
    rw [hT2] at r2
    rw [nl, ml] at te
    rw [ml] at r2
    rw [i1, i2, tt1 (by omega), tt2 kd, tLen]
    have t := h.tl (b2.length - T2.getD (T2.length - d) 0) r2.1 (by omega)
    rw [show b2.length - (b2.length - T2.getD (T2.length - d) 0) = T2.getD (T2.length - d) 0 by omega, ← te, show b.length - (b.length - T.getD (T2.length - d) 0) = T.getD (T2.length - d) 0 by omega] at t
    exact t
end LawK
set_option maxHeartbeats 4000000
namespace LawK
open PySem PySem.Spec PyProof.Rows L2 Ev
/-- the row L levels above b -/
def itB (z : Str) (b : List Nat) : Nat → List Nat
  | 0 => b
  | L + 1 => nextB z (itB z b L)
theorem itB_begs {z : Str} {b : List Nat} (h : Begs z b) : ∀ L, Begs z (itB z b L)
  | 0 => h
  | L + 1 => next_begs (itB_begs h L)
theorem range_getD {n k : Nat} (h : k < n) : (List.range n).getD k 0 = k := by
  rw [List.getD_eq_getElem?_getD, List.getElem?_range h]
  rfl
/-- the signs of two texts, one an edit of the other -/
theorem HB.start {z z2 : Str} {a many m : Nat} (E : Ed z z2 a many m) : HB z z2 a many m (List.range z.length) (List.range z2.length) a (z.length - (a + many)) := by
  have f := E.fit
  have l := E.len
  have eB : ∀ (w : Str) {k}, k < w.length → endB w (List.range w.length) k = k + 1 := fun w {k} hk => by
    unfold endB
    rw [List.length_range]
    split
    · rename_i g
      exact range_getD g
    · omega
  refine ⟨by rw [List.length_range]; omega, by rw [List.length_range]; omega, fun k hk => ?_, fun d d1 ds => ?_⟩
  · rw [range_getD (by omega), range_getD (by omega), eB z (by omega), eB z2 (by omega)]
    exact ⟨rfl, rfl, by omega⟩
  · rw [List.length_range, List.length_range, range_getD (by omega), range_getD (by omega)]
    omega
theorem HB.iter {z z2 : Str} {a many m M : Nat} (E : Ed z z2 a many m) (hM : 26 ≤ M) (hm : m ≤ M) : ∀ L, ∃ p s n, HB z z2 a many m (itB z (List.range z.length) L) (itB z2 (List.range z2.length) L) p s ∧ (itB z2 (List.range z2.length) L).length = p + n + s ∧ n ≤ M ∧ (1 ≤ L → n + 1 ≤ M)
  | 0 => by
    have f := E.fit
    have l := E.len
    refine ⟨a, z.length - (a + many), m, HB.start E, ?_, hm, fun h => by omega⟩
    show (List.range z2.length).length = _
    rw [List.length_range]
    omega
  | L + 1 => by
    obtain ⟨p, s, n, h, e, hn, _⟩ := HB.iter E hM hm L
    obtain ⟨p', s', n', h', e', k⟩ := h.next E (itB_begs (begs0 z) L) e
    exact ⟨p', s', n', h', e', by omega, fun _ => by omega⟩
/-- a block of a row, by its number -/
def blk (z : Str) (b : List Nat) (k : Nat) : Nat × Nat := (b.getD k 0, endB z b k)
/-- the blocks of the later row that are in neither of the two ways blocks of the elder row -/
def keptB (z : Str) (b : List Nat) (a many m : Nat) (x : Nat × Nat) : Prop := (∃ k, k < b.length ∧ blk z b k = x ∧ x.2 ≤ a) ∨ ∃ k, k < b.length ∧ a + many ≤ (blk z b k).1 ∧ (blk z b k).1 + m = x.1 + many ∧ (blk z b k).2 + m = x.2 + many
/-- all but n blocks in the middle are kept -/
theorem HB.kept {z z2 : Str} {a many m : Nat} {b b2 : List Nat} {p s n : Nat} (E : Ed z z2 a many m) (h : HB z z2 a many m b b2 p s) (hn : b2.length = p + n + s) {k : Nat} (hk : k < b2.length) (out : k < p ∨ p + n ≤ k) : keptB z b a many m (blk z2 b2 k) := by
  have l1 := h.l1
  have l2 := h.l2
  rcases out with g | g
  · obtain ⟨e1, e2, e3⟩ := h.hd k g
    exact .inl ⟨k, by omega, by unfold blk; rw [e1, e2], by show endB z2 b2 k ≤ a; rw [← e2]; exact e3⟩
  · have d1 : 1 ≤ b2.length - k := by omega
    have ds : b2.length - k ≤ s := by omega
    obtain ⟨t1, t2⟩ := h.tl _ d1 ds
    have t3 := h.endT E d1 ds
    rw [show b2.length - (b2.length - k) = k by omega] at t1 t3
    exact .inr ⟨b.length - (b2.length - k), by omega, t2, t1.symm, t3.symm⟩
open Classical in
/-- how many blocks of the later row are not kept -/
noncomputable def newN (z : Str) (b : List Nat) (a many m : Nat) (z2 : Str) (b2 : List Nat) : Nat := ((List.range b2.length).filter fun k => decide (¬ keptB z b a many m (blk z2 b2 k))).length
theorem range_mid : ∀ (q : Nat → Bool) (p n s : Nat), (∀ k, k < p + n + s → (k < p ∨ p + n ≤ k) → q k = false) → ((List.range (p + n + s)).filter q).length ≤ n := fun q p n s h => by
  rw [show p + n + s = p + (n + s) by omega, List.range_add, List.filter_append, List.length_append, List.range_add, List.map_append, List.filter_append, List.length_append]
  have z1 : (List.range p).filter q = [] := List.filter_eq_nil_iff.mpr fun k hk => by
    have := List.mem_range.mp hk
    rw [h k (by omega) (.inl this)]
    decide
  have z2 : (((List.range s).map (n + ·)).map (p + ·)).filter q = [] := List.filter_eq_nil_iff.mpr fun k hk => by
    obtain ⟨x, hx, rfl⟩ := List.mem_map.mp hk
    obtain ⟨y, hy, rfl⟩ := List.mem_map.mp hx
    have := List.mem_range.mp hy
    rw [h _ (by omega) (.inr (by omega))]
    decide
  have z3 := List.length_filter_le q ((List.range n).map (p + ·))
  rw [List.length_map, List.length_range] at z3
  rw [z1, z2]
  simp only [List.length_nil]
  omega
/-- a level of both: at most M blocks are new -/
theorem new_most {z z2 : Str} {a many m M : Nat} (E : Ed z z2 a many m) (hM : 26 ≤ M) (hm : m ≤ M) (L : Nat) : newN z (itB z (List.range z.length) L) a many m z2 (itB z2 (List.range z2.length) L) ≤ M := by
  obtain ⟨p, s, n, h, e, hn, _⟩ := HB.iter E hM hm L
  refine Nat.le_trans ?_ hn
  unfold newN
  rw [e]
  refine range_mid _ p n s fun k hk out => ?_
  rw [decide_eq_false_iff_not, Classical.not_not]
  exact h.kept E e (by omega) out
/-- a level that the elder text has no more: its blocks are few -/
theorem new_more {z z2 : Str} {a many m M : Nat} (E : Ed z z2 a many m) (hM : 26 ≤ M) (hm : m ≤ M) {L : Nat} (h1 : 1 ≤ L) (hl : (itB z (List.range z.length) L).length ≤ 1) : (itB z2 (List.range z2.length) L).length ≤ M := by
  obtain ⟨p, s, n, h, e, _, hn⟩ := HB.iter E hM hm L
  have := hn h1
  have := h.l1
  omega
end LawK
set_option maxHeartbeats 4000000
namespace LawK
open PySem PySem.Spec PyProof.Rows L2 Ev
def spCoinsL : Sp := fun vs H Q _ => ∃ (a : Addr) (ns : List Str), vs = [.ref a] ∧ H a = some (.lst (ns.map V.str)) ∧ Nms ns ∧ ns ≠ [] ∧ Unl ns ∧ ∀ l H', H l = none → H' l = some (.lst ((coinsN ns).map iN)) → Same H H' → Q (.ref l) H'
def spPeaksL : Sp := fun vs H Q _ => ∃ (a : Addr) (ns : List Str), vs = [.ref a] ∧ H a = some (.lst (ns.map V.str)) ∧ Nms ns ∧ ns ≠ [] ∧ Unl ns ∧ ∀ l H', H l = none → H' l = some (.lst ((peaksN ns).map iN)) → Same H H' → Q (.ref l) H'
def spGroupsL : Sp := fun vs H Q _ => ∃ (a : Addr) (ns : List Str), vs = [.ref a] ∧ H a = some (.lst (ns.map V.str)) ∧ Nms ns ∧ ∀ l H', H l = none → H' l = some (.lst ((groupsN ns).map iN)) → Same H H' → Q (.ref l) H'
section
variable {P : Program} {w : World} {K : PySem.W.Frag} {mg : Str → Option Value} {base : Heap}
theorem ok_QCoinsL {f : Addr} {fd : FuncData} (F : Fun K "_coins" "_coins" sQCoins f fd) {tR : Tok} (gR : mg "ROUNDS" = some (.int 5 tR)) {fQNumber : Addr} {fdQNumber : FuncData} (DQNumber : Dk P w K mg base "_number" sQNumber ["name"] 1 spNumber fQNumber fdQNumber) {fQNextCoins : Addr} {fdQNextCoins : FuncData} (DQNextCoins : Dk P w K mg base "_next_coins" sQNextCoins ["row"] 1 spNext fQNextCoins fdQNextCoins) (T : Glob mg) : FnOk P w K mg base CX0 2 f fd ["names"] spCoinsL := by
  refine F.ok scQCoins (fun vs H Q E h => ?_) (fun cdv A outer s H vs Q E hr h => ?_)
  · obtain ⟨a, ns, rfl, _⟩ := h
    rfl
  · refine ⟨_, (pss_cons (ps_setLc (i := 1) (own := [("name", 3)]) (g := gName 3) (by rfl) scQCoins.nd rfl rfl (sw_true rfl rfl rfl (by decide +kernel)) (pi_list (pv 0)) (blkOk_by (N := ["names", "row", "_", "name"]) (sc := defScope sQCoins) (by decide +kernel)) (fun _ _ _ _ _ => pg_name (i := 3) scQCoins.nd rfl (.inl rfl)) (fun _ _ _ _ _ => pts_nil) (fun _ _ _ _ _ => (pe_call DQNumber.ok (hr.mono (by decide)) (by rfl) DQNumber.g DQNumber.F.kp DQNumber.b .nil pass0 (pa_cons (pv 3) pa_nil))))
      (pss_cons (ps_for PassesOwn.never rfl (pi_range1 (by rfl) T.range (pa_cons (pe_glob (v := .int 5) (by rfl) gR ⟨_, rfl⟩) pa_nil)) (pg_name (i := 2) scQCoins.nd rfl (.inl rfl))
      (pss_one (ps_set (i := 1) scQCoins.nd rfl (.inl rfl) (pe_call DQNextCoins.ok (hr.mono (by decide)) (by rfl) DQNextCoins.g DQNextCoins.F.kp DQNextCoins.b .nil pass0 (pa_cons (pv 1) pa_nil)))))
      (pss_one (ps_ret (pv 1))))), ?_⟩
    obtain ⟨a, ns, rfl, ha, hn, ne, hu, q⟩ := h
    have few := hn.few
    refine ⟨.ref a, rfl, a, rfl, ⟨_, sq_of ha⟩, fun D nD => lc_list (xs := ns.map V.str) (fun i H1 => Same H H1 ∧ H1 D = some (.lst (((ns.map numZ).take i).map iN))) ⟨Same.new nD, upd_same⟩ (fun i H1 _ g => sq_of (g.1 _ _ ha)) ?_ ?_⟩
    · rintro i v H1 hv ⟨k1, hD1⟩
      rw [List.getElem?_map] at hv
      obtain ⟨z, hz, rfl⟩ := Option.map_eq_some_iff.mp hv
      have li := (List.getElem?_eq_some_iff.mp hz).1
      refine ⟨rfl, .str z, rfl, z, rfl, _, hD1, ?_, sameAt k1 nD, ?_⟩
      · rw [List.length_map, List.length_take]
        show _ < 16777216
        omega
      · rw [upd_same, take_succ' (x := numZ z) (by rw [List.getElem?_map, hz]; rfl), List.map_append]
        rfl
    rintro H1 ⟨k1, hD1⟩
    rw [List.take_of_length_le (by rw [List.length_map, List.length_map]; exact Nat.le_refl _)] at hD1
    have r0 : Row (ns.map numZ) := ⟨fun e => ne (List.map_eq_nil_iff.mp e), nums_unl hn hu, by rw [List.length_map]; exact few⟩
    refine ⟨5, rfl, by decide, by decide, for_range (fun i σ H2 => ∃ (u : Option V) (l : Addr), σ = [some (.ref a), some (.ref l), u, none] ∧ H l = none ∧ H2 l = some (.lst ((rounds i (ns.map numZ)).map iN)) ∧ Same H H2) ⟨none, D, rfl, nD, hD1, k1⟩ ?_ ?_⟩
    · rintro i σ H2 hi ⟨u, l, rfl, nl, hl, k2⟩
      refine ⟨.ref l, rfl, l, _, rfl, hl, rounds_row i r0, fun l2 H3 nl2 hl2 k3 => ⟨_, l2, rfl, ?_, ?_, k2.trans k3⟩⟩
      · exact Same.free k2 nl2
      · rw [rounds_succ]
        exact hl2
    · rintro σ H2 ⟨u, l, rfl, nl, hl, k2⟩
      exact ⟨_, rfl, q l H2 nl hl k2⟩
theorem ok_QPeaksL {f : Addr} {fd : FuncData} (F : Fun K "_peaks" "_peaks" sQPeaks f fd)  {fQCoins : Addr} {fdQCoins : FuncData} (DQCoins : Dk P w K mg base "_coins" sQCoins ["names"] 2 spCoinsL fQCoins fdQCoins) (T : Glob mg) : FnOk P w K mg base CX0 3 f fd ["names"] spPeaksL := by
  refine F.ok scQPeaks (fun vs H Q E h => ?_) (fun cdv A outer s H vs Q E hr h => ?_)
  · obtain ⟨a, ns, rfl, _⟩ := h
    rfl
  · refine ⟨_, (pss_cons (ps_set (i := 1) scQPeaks.nd rfl (.inr rfl) (pe_call DQCoins.ok (hr.mono (by decide)) (by rfl) DQCoins.g DQCoins.F.kp DQCoins.b .nil pass0 (pa_cons (pv 0) pa_nil)))
      (pss_one (ps_ret (pe_lc (own := [("number", 2)]) (g := gName 2) (by rfl) scQPeaks.nd (pi_range2 (by rfl) T.range (pa_cons pe_int (pa_cons (pe_op op_sub (pe_callB call_len_seq (by rfl) T.len PySem.boot_len (pa_cons (pv 1) pa_nil)) pe_int) pa_nil))) (blkOk_by (N := ["names", "row", "number"]) (sc := defScope sQPeaks) (by decide +kernel)) (fun _ _ _ _ _ => pg_name (i := 2) scQPeaks.nd rfl (.inl rfl)) (fun _ _ _ _ _ => (pts_one (pt_chain op_lt op_gt (pe_ix (r := rIxL K) ix_list (pv 1) (pe_op op_sub (pv 2) pe_int) (fun _ _ => rfl)) (pe_ix (r := rIxL K) ix_list (pv 1) (pv 2) (fun _ _ => rfl)) (pe_ix (r := rIxL K) ix_list (pv 1) (pe_op op_add (pv 2) pe_int) (fun _ _ => rfl))))) (fun _ _ _ _ _ => (pv 2)))))), ?_⟩
    obtain ⟨a, ns, rfl, ha, hn, ne, hu, q⟩ := h
    have few := hn.few
    have lc := coins_len ns
    refine ⟨.ref a, rfl, a, ns, rfl, ha, hn, ne, hu, fun l H1 nl hl k1 => ?_⟩
    refine ⟨.ref l, rfl, l, _, rfl, .inl (sq_of hl), _, _, rfl, rfl, _, _, rfl, ?_⟩
    rw [List.length_map, lc]
    have e0 : (((ns.length : Nat) : Int) - 1 - 1).toNat = ns.length - 2 := by omega
    refine ⟨⟨by omega, by omega, by omega, by omega⟩, fun D nD => ?_⟩
    rw [e0]
    refine lc_range (fun j H2 => Same H1 H2 ∧ H2 D = some (.lst ((((List.range j).map (· + 1)).filter (pkB (coinsN ns))).map iN))) ⟨Same.new nD, upd_same⟩ ?_ ?_
    · rintro j H2 hj ⟨k2, hD2⟩
      have z0 : (1 : Int) + (j : Int) = ((j + 1 : Nat) : Int) := by omega
      rw [z0]
      have er : ∀ c : Bool, c = pkB (coinsN ns) (j + 1) → ((((List.range (j + 1)).map (· + 1)).filter (pkB (coinsN ns))).map iN) = ((((List.range j).map (· + 1)).filter (pkB (coinsN ns))).map iN) ++ (if c = true then [iN (j + 1)] else []) := fun c hc => by
        subst hc
        rw [List.range_succ, List.map_append, List.filter_append, List.map_append]
        congr 1
        show (List.filter _ [j + 1]).map iN = _
        rw [List.filter_cons]
        split <;> rfl
      have hl2 := k2 _ _ hl
      have a1 : atI ((coinsN ns).map iN) (((j + 1 : Nat) : Int) - 1) = some (iN ((coinsN ns).getD j 0)) := by
        have : ((j + 1 : Nat) : Int) - 1 = (j : Int) := by omega
        rw [this]
        exact iN_at (by omega)
      have a2 : atI ((coinsN ns).map iN) ((j + 1 : Nat) : Int) = some (iN ((coinsN ns).getD (j + 1) 0)) := iN_at (by omega)
      have a3 : atI ((coinsN ns).map iN) (((j + 1 : Nat) : Int) + 1) = some (iN ((coinsN ns).getD (j + 2) 0)) := by
        have : ((j + 1 : Nat) : Int) + 1 = ((j + 2 : Nat) : Int) := by omega
        rw [this]
        exact iN_at (by omega)
      have pe : pkB (coinsN ns) (j + 1) = (decide ((coinsN ns).getD j 0 < (coinsN ns).getD (j + 1) 0) && decide ((coinsN ns).getD (j + 2) 0 < (coinsN ns).getD (j + 1) 0)) := rfl
      refine ⟨rfl, .ref l, rfl, iN (j + 1), rfl, _, _, rfl, rfl, l, _, _, _, rfl, rfl, sq_of hl2, a1, .ref l, rfl, iN (j + 1), rfl, l, _, _, _, rfl, rfl, sq_of hl2, a2, _, _, rfl, rfl, ?_⟩
      have yes : pkB (coinsN ns) (j + 1) = true → ∃ acc, H2 D = some (.lst acc) ∧ acc.length < sizeLine ∧ Same H1 (upd H2 D (.lst (acc ++ [iN (j + 1)]))) ∧ upd H2 D (.lst (acc ++ [iN (j + 1)])) D = some (.lst ((((List.range (j + 1)).map (· + 1)).filter (pkB (coinsN ns))).map iN)) := fun e => by
        refine ⟨_, hD2, ?_, sameAt k2 nD, ?_⟩
        · rw [List.length_map]
          have := List.length_filter_le (pkB (coinsN ns)) ((List.range j).map (· + 1))
          rw [List.length_map, List.length_range] at this
          show _ < 16777216
          omega
        · rw [upd_same, er true e.symm, if_pos rfl]
      have no : pkB (coinsN ns) (j + 1) = false → Same H1 H2 ∧ H2 D = some (.lst ((((List.range (j + 1)).map (· + 1)).filter (pkB (coinsN ns))).map iN)) := fun e => by
        refine ⟨k2, ?_⟩
        rw [er false e.symm, hD2, if_neg (by decide), List.append_nil]
      refine ⟨_, rfl, ite2 (fun c => ?_) (fun c => ?_)⟩
      · have c1 : (coinsN ns).getD j 0 < (coinsN ns).getD (j + 1) 0 := Int.ofNat_lt.mp (of_decide_eq_true c)
        refine ⟨.ref l, rfl, iN (j + 1), rfl, _, _, rfl, rfl, l, _, _, _, rfl, rfl, sq_of hl2, a3, _, _, rfl, rfl, _, rfl, ite2 (fun d => ?_) (fun d => ?_)⟩
        · have d1 : (coinsN ns).getD (j + 2) 0 < (coinsN ns).getD (j + 1) 0 := Int.ofNat_lt.mp (of_decide_eq_true d)
          exact ⟨iN (j + 1), rfl, yes (by rw [pe, decide_eq_true c1, decide_eq_true d1]; rfl)⟩
        · have d1 : ¬ (coinsN ns).getD (j + 2) 0 < (coinsN ns).getD (j + 1) 0 := fun z => d (decide_eq_true (Int.ofNat_lt.mpr z))
          exact no (by rw [pe, decide_eq_false d1, Bool.and_false])
      · have c1 : ¬ (coinsN ns).getD j 0 < (coinsN ns).getD (j + 1) 0 := fun z => c (decide_eq_true (Int.ofNat_lt.mpr z))
        exact ⟨false, rfl, iteF (no (by rw [pe, decide_eq_false c1, Bool.false_and]))⟩
    · rintro H2 ⟨k2, hD2⟩
      exact q D H2 (Same.free k1 nD) hD2 (k1.trans k2)
theorem ok_QGroupsL {f : Addr} {fd : FuncData} (F : Fun K "_groups" "_groups" sQGroups f fd)  {fQPeaks : Addr} {fdQPeaks : FuncData} (DQPeaks : Dk P w K mg base "_peaks" sQPeaks ["names"] 3 spPeaksL fQPeaks fdQPeaks) (T : Glob mg) : FnOk P w K mg base CX0 4 f fd ["names"] spGroupsL := by
  refine F.ok scQGroups (fun vs H Q E h => ?_) (fun cdv A outer s H vs Q E hr h => ?_)
  · obtain ⟨a, ns, rfl, _⟩ := h
    rfl
  · refine ⟨_, (pss_cons (ps_set (i := 1) scQGroups.nd rfl (.inr rfl) (pe_callB call_len_seq (by rfl) T.len PySem.boot_len (pa_cons (pv 0) pa_nil)))
      (pss_cons (ps_set (i := 2) scQGroups.nd rfl (.inr rfl) (pe_lc (own := [("number", 7)]) (g := gName 7) (by rfl) scQGroups.nd (pi_range1 (by rfl) T.range (pa_cons (pv 1) pa_nil)) (blkOk_by (N := ["names", "many", "new", "alone", "found", "first", "behind", "number", "peak"]) (sc := defScope sQGroups) (by decide +kernel)) (fun _ _ _ _ _ => pg_name (i := 7) scQGroups.nd rfl (.inl rfl)) (fun _ _ _ _ _ => pts_nil) (fun _ _ _ _ _ => (pe_or (pe_cmpR op_eq (pv 7) pe_int (nomark _)) (pe_one (pe_cmpR op_ne (pe_ix (r := rIxL K) ix_list (pv 0) (pv 7) (fun _ _ => rfl)) (pe_ix (r := rIxL K) ix_list (pv 0) (pe_op op_sub (pv 7) pe_int) (fun _ _ => rfl)) (nomark _)))))))
      (pss_cons (ps_setLc (i := 3) (own := [("number", 7)]) (g := gName 7) (by rfl) scQGroups.nd rfl rfl (sw_true rfl rfl rfl (by decide +kernel)) (pi_range1 (by rfl) T.range (pa_cons (pv 1) pa_nil)) (blkOk_by (N := ["names", "many", "new", "alone", "found", "first", "behind", "number", "peak"]) (sc := defScope sQGroups) (by decide +kernel)) (fun _ _ _ _ _ => pg_name (i := 7) scQGroups.nd rfl (.inl rfl)) (fun _ _ _ _ _ => pts_nil) (fun _ _ _ _ _ => (pe_and (pe_ix (r := rIxL K) ix_list (pv 2) (pv 7) (fun _ _ => rfl)) (pe_one (pe_or (pe_cmpR op_eq (pe_op op_add (pv 7) pe_int) (pv 1) (nomark _)) (pe_one (pe_ix (r := rIxL K) ix_list (pv 2) (pe_op op_add (pv 7) pe_int) (fun _ _ => rfl))))))))
      (pss_cons (ps_set (i := 4) scQGroups.nd rfl (.inl rfl) (pe_lst pa_nil))
      (pss_cons (ps_set (i := 5) scQGroups.nd rfl (.inr rfl) pe_int)
      (pss_cons (ps_while PassesOwn.never (pt_cmpR op_lt (pv 5) (pv 1) (nomark _))
      (pss_cons (ps_set (i := 6) scQGroups.nd rfl (.inl rfl) (pe_op op_add (pv 5) pe_int))
        (pss_cons (ps_while PassesOwn.never (PW.pt (pw_and (pt_cmpR op_lt (pv 6) (pv 1) (nomark _)) (pw_and1 (pt_ifT (pt_val (pe_ix ix_list (pv 3) (pv 5) (fun _ _ => rfl))) (pt_val (pe_ix ix_list (pv 3) (pv 6) (fun _ _ => rfl))) (pt_not (pt_val (pe_ix ix_list (pv 2) (pv 6) (fun _ _ => rfl))))))))
        (pss_one (ps_aug (i := 6) scQGroups.nd rfl (.inl rfl) pe_int ip_add)))
        (pss_cons (ps_expr (pe_bm PySem.F.plainAttrs_list PySem.F.slot_list_append PySem.F.type_list_append mt_append (pv 4) (pa_cons (pv 5) pa_nil)))
        (pss_cons (ps_if (pt_val (pe_ix ix_list (pv 3) (pv 5) (fun _ _ => rfl)))
        (pss_one (ps_expr (pe_bm PySem.F.plainAttrs_list PySem.F.slot_list_extend PySem.F.type_list_extend mt_extend (pv 4) (pa_cons (pe_lc (own := [("peak", 8)]) (g := gName 8) (by rfl) scQGroups.nd (pi_list (pe_call DQPeaks.ok (hr.mono (by decide)) (by rfl) DQPeaks.g DQPeaks.F.kp DQPeaks.b .nil pass0 (pa_cons (pe_slice sl_list (pv 0) (po_some (pv 5)) (po_some (pv 6))) pa_nil))) (blkOk_by (N := ["names", "many", "new", "alone", "found", "first", "behind", "number", "peak"]) (sc := defScope sQGroups) (by decide +kernel)) (fun _ _ _ _ _ => pg_name (i := 8) scQGroups.nd rfl (.inl rfl)) (fun _ _ _ _ _ => pts_nil) (fun _ _ _ _ _ => (pe_op op_add (pv 5) (pv 8)))) pa_nil))))
        pss_nil)
        (pss_one (ps_set (i := 5) scQGroups.nd rfl (.inr rfl) (pv 6))))))))
      (pss_one (ps_ret (pv 4))))))))), ?_⟩
    obtain ⟨a, ns, rfl, ha, hn, q⟩ := h
    have few := hn.few
    refine ⟨.ref a, rfl, a, _, rfl, .inl (sq_of ha), ?_⟩
    rw [List.length_map]
    refine ⟨.int (ns.length : Nat), rfl, _, rfl, by omega, by omega, fun D nD => lc_range (fun j H1 => Same H H1 ∧ H1 D = some (.lst (newL ns j))) ⟨Same.new nD, upd_same⟩ ?_ ?_⟩
    · rintro j H1 hj ⟨k1, hD1⟩
      have hj2 : j < ns.length := by omega
      have z0 : (0 : Int) + (j : Int) = (j : Int) := Int.zero_add _
      rw [z0]
      have fin : ∀ b, b = newB ns j → ∃ acc, H1 D = some (.lst acc) ∧ acc.length < sizeLine ∧ Same H (upd H1 D (.lst (acc ++ [.bl b]))) ∧ upd H1 D (.lst (acc ++ [.bl b])) D = some (.lst (newL ns (j + 1))) := fun b hb => by
        refine ⟨_, hD1, ?_, sameAt k1 nD, ?_⟩
        · unfold newL
          rw [bl_len]
          show _ < 16777216
          omega
        · subst hb
          unfold newL
          rw [upd_same, bl_succ]
      refine ⟨rfl, .int (j : Int), rfl, rfl, _, rfl, ite2 (fun c => ?_) (fun c => ?_)⟩
      · have c' : (j : Int) = 0 := V.int.inj (of_decide_eq_true c)
        have c2 : j = 0 := by omega
        exact fin true (by rw [c2]; rfl)
      · have c2 : j ≠ 0 := fun z => c (by rw [z]; rfl)
        have em : (j : Int) - 1 = ((j - 1 : Nat) : Int) := by omega
        refine ⟨.ref a, rfl, .int (j : Int), rfl, a, _, _, _, rfl, rfl, sq_of (k1 _ _ ha), nm_at hj2, .ref a, rfl, .int (j : Int), rfl, _, _, rfl, rfl, a, _, _, _, rfl, rfl, sq_of (k1 _ _ ha), ?_, rfl, fin _ (newB_pos c2).symm⟩
        rw [em]
        exact nm_at (by omega)
    rintro H1 ⟨k1, hD1⟩
    rw [show (((ns.length : Nat) : Int)).toNat = ns.length from Int.toNat_natCast _] at hD1
    refine ⟨.int (ns.length : Nat), rfl, _, rfl, by omega, by omega, fun D2 nD2 => lc_range (fun j H2 => Same H1 H2 ∧ H2 D2 = some (.lst (alL ns j))) ⟨Same.new nD2, upd_same⟩ ?_ ?_⟩
    · rintro j H2 hj ⟨k2, hD2⟩
      have hj2 : j < ns.length := by omega
      have z0 : (0 : Int) + (j : Int) = (j : Int) := Int.zero_add _
      rw [z0]
      have fin : ∀ b, b = alB ns j → ∃ acc, H2 D2 = some (.lst acc) ∧ acc.length < sizeLine ∧ Same H1 (upd H2 D2 (.lst (acc ++ [.bl b]))) ∧ upd H2 D2 (.lst (acc ++ [.bl b])) D2 = some (.lst (alL ns (j + 1))) := fun b hb => by
        refine ⟨_, hD2, ?_, sameAt k2 nD2, ?_⟩
        · unfold alL
          rw [bl_len]
          show _ < 16777216
          omega
        · subst hb
          unfold alL
          rw [upd_same, bl_succ]
      have hDn := sq_of (K := K) (k2 _ _ hD1)
      have ep : (j : Int) + 1 = ((j + 1 : Nat) : Int) := rfl
      refine ⟨rfl, .ref D, rfl, .int (j : Int), rfl, D, _, _, _, rfl, rfl, hDn, bl_at hj2, _, rfl, ite2 (fun c => ?_) (fun c => ?_)⟩
      · refine ⟨.int (j : Int), rfl, _, _, rfl, rfl, .int (ns.length : Nat), rfl, rfl, _, rfl, ite2 (fun d => ?_) (fun d => ?_)⟩
        · have d' : (j : Int) + 1 = (ns.length : Int) := V.int.inj (of_decide_eq_true d)
          refine fin true ?_
          unfold alB
          rw [c, decide_eq_true (show j + 1 = ns.length by omega)]
          rfl
        · have d' : ¬ j + 1 = ns.length := fun z => d (decide_eq_true (congrArg V.int (show (j : Int) + 1 = (ns.length : Int) by omega)))
          refine ⟨.ref D, rfl, .int (j : Int), rfl, _, _, rfl, rfl, D, _, _, .bl (newB ns (j + 1)), rfl, rfl, hDn, ?_, fin _ ?_⟩
          · show atI _ ((j : Int) + 1) = _
            rw [ep]
            exact bl_at (by omega)
          · unfold alB
            rw [c, decide_eq_false d']
            rfl
      · refine fin false ?_
        unfold alB
        have c' : newB ns j = false := by simpa using c
        rw [c']
        rfl
    rintro H2 ⟨k2, hD2⟩
    rw [show (((ns.length : Nat) : Int)).toNat = ns.length from Int.toNat_natCast _] at hD2
    refine ⟨by show 0 ≤ sizeLine; decide, fun L nL => ?_⟩
    have k3 := Same.new (o := .lst []) nL
    have kH := (k1.trans k2).trans k3
    have hDa := k3 _ _ (k2 _ _ hD1)
    have hDb := k3 _ _ hD2
    have haa := kH _ _ ha
    have hL0 : upd H2 L (.lst []) L = some (.lst ((groupsTo ns 0).map iN)) := upd_same
    have nLH : H L = none := Same.free (k1.trans k2) nL
    have nDL : D ≠ L := fun z => by rw [z] at hD1; have := k2 _ _ hD1; rw [nL] at this; cases this
    have nD2L : D2 ≠ L := fun z => by rw [z, nL] at hD2; cases hD2
    have naL : a ≠ L := fun z => by rw [z, nLH] at ha; cases ha
    revert k3 kH hDa hDb haa hL0
    generalize upd H2 L (.lst []) = H3
    intro k3 kH hDa hDb haa hL0
    refine ⟨fun m σ H4 => ∃ (f : Nat) (u : Option V), m = ns.length - f ∧ σ = [some (.ref a), some (.int (ns.length : Nat)), some (.ref D), some (.ref D2), some (.ref L), some (.int (f : Nat)), u, none, none] ∧ f ≤ ns.length ∧ Bd ns f ∧ (∀ c o, c ≠ L → H3 c = some o → H4 c = some o) ∧ H4 L = some (.lst ((groupsTo ns f).map iN)), ⟨_, 0, none, rfl, rfl, Nat.zero_le _, Bd.zero ns, fun c o _ e => e, hL0⟩, ?_⟩
    rintro m σ H4 ⟨f, u, rfl, rfl, hf, bd, k4, hL4⟩
    refine ⟨.int (f : Nat), rfl, .int (ns.length : Nat), rfl, _, _, rfl, rfl, _, rfl, ite2 (fun c => ?_) (fun c => ?_)⟩
    · have c' : f < ns.length := Int.ofNat_lt.mp (of_decide_eq_true c)
      have ef : ((f : Nat) : Int) + 1 = ((f + 1 : Nat) : Int) := rfl
      have hDn := sq_of (K := K) (k4 _ _ nDL hDa)
      have hDo := sq_of (K := K) (k4 _ _ nD2L hDb)
      have ha4 := k4 _ _ naL haa
      refine ⟨_, fun σ' H' z => z, .int (f : Nat), rfl, _, _, rfl, rfl, ?_⟩
      refine ⟨fun m σ H5 => ∃ b : Nat, m = ns.length - b ∧ σ = [some (.ref a), some (.int (ns.length : Nat)), some (.ref D), some (.ref D2), some (.ref L), some (.int (f : Nat)), some (.int (b : Nat)), none, none] ∧ H5 = H4 ∧ f < b ∧ b ≤ ns.length ∧ ∀ k, f < k → k < b → goB ns f k = true, ⟨_, f + 1, rfl, rfl, rfl, by omega, by omega, fun k h1 h2 => by omega⟩, ?_⟩
      rintro m σ H5 ⟨b, rfl, rfl, rfl, fb, bn, go⟩
      refine (?_ : ∀ Q : Bool → Hp → Prop, Q (decide (b < ns.length) && goB ns f b) H5 → tAnd _ _ _ H5 Q) _ ?_
      · intro Q hq
        refine ⟨.int (b : Nat), rfl, .int (ns.length : Nat), rfl, _, _, rfl, rfl, _, rfl, ite2 (fun d => ?_) (fun d => ?_)⟩
        · have d' : b < ns.length := Int.ofNat_lt.mp (of_decide_eq_true d)
          rw [decide_eq_true d', Bool.true_and] at hq
          unfold goB at hq
          refine ⟨.ref D2, rfl, .int (f : Nat), rfl, D2, _, _, .bl (alB ns f), rfl, rfl, hDo, bl_at c', _, rfl, ite2 (fun g => ?_) (fun g => ?_)⟩
          · rw [if_pos g] at hq
            exact ⟨.ref D2, rfl, .int (b : Nat), rfl, D2, _, _, .bl (alB ns b), rfl, rfl, hDo, bl_at d', _, rfl, hq⟩
          · rw [if_neg g] at hq
            exact ⟨.ref D, rfl, .int (b : Nat), rfl, D, _, _, .bl (newB ns b), rfl, rfl, hDn, bl_at d', _, rfl, hq⟩
        · have d' : ¬ b < ns.length := fun z => d (decide_eq_true (Int.ofNat_lt.mpr z))
          rw [decide_eq_false d', Bool.false_and] at hq
          exact hq
      cases e : (decide (b < ns.length) && goB ns f b) with
      | true =>
        obtain ⟨e1, e2⟩ := Bool.and_eq_true_iff.mp e
        have e1' := of_decide_eq_true e1
        refine iteT ⟨_, fun σ' H' z => z, .int (b : Nat), rfl, _, _, rfl, rfl, ?_⟩
        refine ⟨_, by omega, b + 1, rfl, rfl, rfl, by omega, by omega, fun k h1 h2 => ?_⟩
        by_cases g : k = b
        · rw [g]
          exact e2
        · exact go k h1 (by omega)
      | false =>
        have st : b < ns.length → goB ns f b = false := fun h => by
          rw [decide_eq_true h, Bool.true_and] at e
          exact e
        have lg := groupsTo_len ns f
        refine iteF ?_
        refine ⟨.ref L, rfl, .inl ⟨rfl, _, sq_of hL4⟩, .int (f : Nat), rfl, L, _, _, rfl, rfl, hL4, by rw [List.length_map]; show _ < 16777216; omega, ?_⟩
        have hL6 : upd H5 L (.lst ((groupsTo ns f).map iN ++ [.int (f : Nat)])) L = some (.lst ((groupsTo ns f ++ [f]).map iN)) := by
          rw [upd_same, List.map_append]
          rfl
        have k6 : ∀ c o, c ≠ L → H3 c = some o → upd H5 L (.lst ((groupsTo ns f).map iN ++ [.int (f : Nat)])) c = some o := fun c o n h => by
          rw [upd_ne n]
          exact k4 c o n h
        revert hL6 k6
        generalize upd H5 L (.lst ((groupsTo ns f).map iN ++ [.int (f : Nat)])) = H6
        intro hL6 k6
        refine ⟨.ref D2, rfl, .int (f : Nat), rfl, D2, _, _, .bl (alB ns f), rfl, rfl, sq_of (k6 _ _ nD2L hDb), bl_at c', _, rfl, ite2 (fun g => ?_) (fun g => ?_)⟩
        · obtain ⟨al, eg, bd2⟩ := seg_al fb bn bd g go st
          have ha6 := k6 _ _ naL haa
          refine ⟨.ref L, rfl, .inl ⟨rfl, _, sq_of hL6⟩, .ref a, rfl, .int (f : Nat), rfl, (f : Int), rfl, .int (b : Nat), rfl, (b : Int), rfl, a, _, rfl, sq_of ha6, fun p np7 => ?_⟩
          have k7 : Same H6 (upd H6 p (.lst (cutV (ns.map V.str) (some (f : Int)) (some (b : Int))))) := Same.new np7
          have hp : upd H6 p (.lst (cutV (ns.map V.str) (some (f : Int)) (some (b : Int)))) p = some (.lst (cutV (ns.map V.str) (some (f : Int)) (some (b : Int)))) := upd_same
          revert k7 hp
          generalize upd H6 p (.lst (cutV (ns.map V.str) (some (f : Int)) (some (b : Int)))) = H7
          intro k7 hp
          have hp' : H7 p = some (.lst ((segN ns f b).map V.str)) := by
            rw [hp, cutV_of (by omega) (by rw [List.length_map]; exact bn), ← List.map_drop, ← List.map_take]
            rfl
          have lsg : (segN ns f b).length = b - f := seg_len (by omega) bn
          refine ⟨p, segN ns f b, rfl, hp', seg_nms hn, fun z => by rw [z] at lsg; have : ([] : List Str).length = 0 := rfl; omega, seg_unl bn al, fun l H8 nl hl k8 => ?_⟩
          have k68 := k7.trans k8
          have lpk : (peaksN (segN ns f b)).length ≤ 3000 := by
            have := List.length_filter_le (pkB (coinsN (segN ns f b))) ((List.range ((segN ns f b).length - 2)).map (· + 1))
            rw [List.length_map, List.length_range] at this
            unfold peaksN
            omega
          refine ⟨l, rfl, ⟨_, sq_of hl⟩, fun D3 nD3 => lc_list (xs := (peaksN (segN ns f b)).map iN) (fun i H9 => Same H8 H9 ∧ H9 D3 = some (.lst ((((peaksN (segN ns f b)).take i).map (f + ·)).map iN))) ⟨Same.new nD3, upd_same⟩ (fun i H9 _ g => sq_of (g.1 _ _ hl)) ?_ ?_⟩
          · rintro i v H9 hv ⟨k9, hD9⟩
            rw [List.getElem?_map] at hv
            obtain ⟨y, hy, rfl⟩ := Option.map_eq_some_iff.mp hv
            have li := (List.getElem?_eq_some_iff.mp hy).1
            refine ⟨rfl, .int (f : Nat), rfl, iN y, rfl, _, _, rfl, rfl, _, hD9, ?_, sameAt k9 nD3, ?_⟩
            · rw [List.length_map, List.length_map, List.length_take]
              show _ < 16777216
              omega
            · rw [upd_same, take_succ' hy, List.map_append, List.map_append]
              rfl
          · rintro H9 ⟨k9, hD9⟩
            rw [List.length_map, List.take_of_length_le (Nat.le_refl _)] at hD9
            have k69 := k68.trans k9
            refine ⟨L, D3, _, _, rfl, rfl, k69 _ _ hL6, hD9, ?_, ?_⟩
            · rw [List.length_map, List.length_map, List.length_map, List.length_append]
              show _ ≤ 16777216
              have : [f].length = 1 := rfl
              omega
            · refine ⟨.int (b : Nat), rfl, _, by omega, b, some (.int (b : Nat)), rfl, rfl, bn, bd2, fun c o n h => ?_, ?_⟩
              · rw [upd_ne n]
                exact k69 _ _ (k6 c o n h)
              · rw [upd_same, eg, ← List.map_append, List.append_assoc]
                rfl
        · have g' : alB ns f = false := by simpa using g
          obtain ⟨eg, bd2⟩ := seg_no fb bn bd g' go st
          refine ⟨.int (b : Nat), rfl, _, by omega, b, some (.int (b : Nat)), rfl, rfl, bn, bd2, k6, ?_⟩
          rw [hL6, eg]
    · have c' : f = ns.length := by
        have : ¬ f < ns.length := fun z => c (decide_eq_true (Int.ofNat_lt.mpr z))
        omega
      subst c'
      exact ⟨_, rfl, q L H4 nLH hL4 fun c o e => k4 _ _ (fun z => by rw [z, nLH] at e; cases e) (kH _ _ e)⟩
end
end LawK
set_option maxHeartbeats 4000000
/-! Own errors whose __init__ says super().__init__() and nothing else. -/
namespace Ev
open PySem PySem.W PySem.Calls PyProof.Rows L2

abbrev supArgs (p : Pos) : Arguments := { posonlyargs := [], args := [{ arg := "self", annotation := none, pos := p }], vararg := none, kwonlyargs := [], kw_defaults := [], kwarg := none, defaults := [] }
abbrev supBody (p0 p1 p2 p3 p4 : Pos) : List Stmt := [.Expr (.Call (.Attribute (.Call (.Name "super" p0) [] [] p1) "__init__" p2) [] [] p3) p4]

abbrev supScope : Scope := { kind := .function, names := [(PySem.Str.ofString "self", .local), (PySem.Str.ofString "__class__", .free), (PySem.Str.ofString "super", .globalImplicit)], isGenerator := false, isCoroutine := false, more := [] }
theorem sup_l1 : supScope.names.lookup ("self" : Str) = some .local := by decide +kernel
theorem sup_l2 : supScope.names.lookup ("super" : Str) = some .globalImplicit := by decide +kernel
theorem sup_l3 : supScope.names.lookup ("__class__" : Str) = some .free := by decide +kernel
/-- what the written part tells of such a class at C, whose __init__ stands at fI -/
structure SupC (P : Program) (K : Frag) (mg : Str → Option Value) (C fI : Addr) : Prop where
  oex : OexC K C
  ini : findIn K (.ref C) "__init__" = some (some (.ref fI))
  tyI : typeIn K (.ref fI) = some (.type "function")
  fn : ∃ (oc : Value) (od : Option Addr) (qual : Str) (kV doc pm ct : Value) (an : Option Addr) (cda cc : Addr) (osl : Array (Option Value)) (p p0 p1 p2 p3 p4 : Pos) (ccl : Value) (cdd : Option Addr) (vs : Array Value) (ccs : Array (Option Value)) (file : Str) (tf : Tok) (cl : Value) (cld : Option Addr) (csl : Array (Option Value)),
    K.lookup fI = some ⟨oc, od, .func (ksFn "__init__" qual (supArgs p) (supBody p0 p1 p2 p3 p4) supScope .none kV doc pm an (.ref cda) ct cc), osl⟩ ∧ codeIn K (.ref cda) qual = true ∧
    K.lookup cda = some ⟨ccl, cdd, .fields vs, ccs⟩ ∧ vs[2]? = some (.str file tf) ∧ ((P.main.file : Str) == file) = true ∧ K.lookup cc = some ⟨cl, cld, .cell (some (.ref C)), csl⟩ ∧
    (p2.endLine == p3.line) = true
  gs : mg "super" = none
  top : (P.main.scope.names.lookup ("super" : Str)).isSome = false
  third : nsIn K cStatics "thirdparty.any" = some none
  sup : ks_superIn K C C "__init__" = some (some (.builtin "ValueError.__init__"))
  ve : subIn K (.ref C) (.type "ValueError") = some true
  me : mroIn K C (.ref C) = some true

theorem sup_eval {env : Env} {p0 p1 p2 p3 : Pos} (h : (p2.endLine == p3.line) = true) : eval (.Call (.Attribute (.Call (.Name "super" p0) [] [] p1) "__init__" p2) [] [] p3) env = (do
      let ov ← attributeBase (.Call (.Name "super" p0) [] [] p1) "__init__" env (eval (.Call (.Name "super" p0) [] [] p1) env)
      standAt p2.atName
      let (f, first) ← holding [ov] (getMethod ov "__init__" (do return (← importBound (.Call (.Name "super" p0) [] [] p1) env).getD true))
      callWith p3 f first (backTo p3 (starEach [] env)) []) := by
  have e : methodCallPos true (.Call (.Name "super" p0) [] [] p1) env p2 p3 = pure p3 := by
    unfold methodCallPos
    rw [h]
    rfl
  show (do
    let ov ← attributeBase (.Call (.Name "super" p0) [] [] p1) "__init__" env (eval (.Call (.Name "super" p0) [] [] p1) env)
    standAt p2.atName
    let (f, first) ← holding [ov] (getMethod ov "__init__" (do return (← importBound (.Call (.Name "super" p0) [] [] p1) env).getD true))
    let callPos ← methodCallPos true (.Call (.Name "super" p0) [] [] p1) env p2 p3
    callWith callPos f first (backTo p3 (starEach [] env)) []) = _
  rw [e]
  rfl
theorem boot_super : bootBuiltins "super" = some (.type "super") := by first | boot_by_name | rfl | kernel_rfl

section
variable {P : Program} {w : World} {A : Around} {E : Value → Shared → Prop} {K : Frag} {mg mb : Str → Option Value} {C fI x t0 : Addr} {h : Heap} {g : Array GenState} {d : Drawn} {tk : Nat} {os : OsState}

/-- the wrapper that super().__init__ gives, called: the args are laid anew -/
theorem bound_init {u : Addr} {Q : Value → Shared → Prop} (T : OexC K C) (X : K.In h) (hu : h.get? u = some (kxs_mw "ValueError.__init__" x)) (hx : h.get? x = some (PySem.HandSPX.excO C t0))
    (hq : ∀ h' t1, (∀ b o, b ≠ x → h.get? b = some o → h'.get? b = some o) → h'.get? x = some (PySem.HandSPX.excO C t1) → Q .none ⟨h', g, d, tk, os⟩) :
    wpAny (model P w) A (call (.ref u) []) Q E ⟨h, g, d, tk, os⟩ := by
  obtain ⟨nm, q, N, bs, bm, sn, sub, ab, col, dd, k0, k1, k2, k3, k5, hC, hbm⟩ := T.cls
  refine wpAny_call (codeAny_of_tree ?_)
  show wpAny _ A.in1 (callAny (.ref u) ⟨[], []⟩) _ _ _
  simp only [callAny]
  refine wpAny_bind (wpAny_load hu ?_)
  simp only [kxs_mw, show (Value.type "method-wrapper" == Value.type "method" || Value.type "method-wrapper" == Value.type "builtin_function_or_method" || Value.type "method-wrapper" == Value.type "method-wrapper") = true by decide, if_true]
  refine KFB.if_so (by decide) ?_
  refine wpAny_bind (check_bound_init F.excBase_ValueError.toExcCallFacts (X _ _ hC) hx rfl ?_)
  refine wpAny_bind (wpAny_pure (wpAny_pure ?_))
  refine ⟨plainId_quiet F.excBase_ValueError.init.plain _, codeAny_builtin F.excBase_ValueError.initEntry ?_⟩
  exact exc_init_tree (cls := .ref C) (t0 := t0) (dv := none) (c2 := .none) (c3 := .none) (b4 := .bool false) hx (by rw [sizeLine_eq]; exact Nat.zero_le _) fun h' k e _ => hq h' h.objs.size k e

theorem sup_init {R : Result → Shared → Prop} {s : Shared} (T : SupC P K mg C fI) (hroom : A.depth < recursionLimit) (X : K.In s.heap) (hlim : s.heap.NoLimit) (G : s.heap.Ns mainGlobals mg) (B : s.heap.Ns builtinsNs mb)
    (hbb : ∀ y : Str, y ≠ "__name__" → mb y = bootBuiltins y) (hx : s.heap.get? x = some (PySem.HandSPX.excO C t0))
    (hq : ∀ h' t' t1, (∀ b o, b ≠ x → s.heap.get? b = some o → h'.get? b = some o) → h'.get? x = some (PySem.HandSPX.excO C t1) → R (.ok (.ret .none)) { s with heap := h', toks := t' }) :
    codeAny (model P w) A (.call (.ref fI) ⟨[.ref x], []⟩) R s := by
  obtain ⟨oc, od, qual, kV, doc, pm, ct, an, cda, cc, osl, p, p0, p1, p2, p3, p4, ccl, cdd, vs, ccs, file, tf, cl, cld, csl, ho, hcd, hcode, hvs, hfile, hcell, hline⟩ := T.fn
  refine ks_codeAny_call_defAt (fd := ksFn "__init__" qual (supArgs p) (supBody p0 p1 p2 p3 p4) supScope .none kV doc pm an (.ref cda) ct cc) (body := supBody p0 p1 p2 p3 p4) (binds := [("self", .ref x)]) hroom (X _ _ ho) rfl hlim (codeRec_of X hcd) rfl
    (BindsTo.of_eq rfl) (by show ∀ y ∈ supScope.names, y.2 ≠ .cell; decide) (fun y hy => ?_) (fun h₁ hns k₁ => ?_)
  · obtain rfl : y = (("self" : Str), Value.ref x) := List.mem_singleton.mp hy
    exact sup_l1
  obtain ⟨hp, g, d, tk, os⟩ := s
  have X₁ : K.In h₁ := X.keeps k₁
  have hx₁ : h₁.get? x = some (PySem.HandSPX.excO C t0) := k₁ _ _ hx
  have G₁ : h₁.Ns mainGlobals mg := G.keeps k₁
  have B₁ : h₁.Ns builtinsNs mb := B.keeps k₁
  obtain ⟨nm, q, N, bs, bm, sn, sub, ab, col, dd, q0, q1, q2, q3, q5, hC, hbm⟩ := T.oex.cls
  show _root_.PySem.wpAt _ _ _ (execs (supBody p0 p1 p2 p3 p4) (ksEnv qual supScope hp.objs.size fI (.ref cda) cc)) _ _ _
  refine ks_wpAt_execs_cons (ks_wpAt_Expr_any (ks_wpAt_MethodCall ?_ (sup_eval hline)))
  refine ks_wpAt_super_base (env := ksEnv qual supScope hp.objs.size fI (.ref cda) cc) sup_l2 sup_l3 (by decide) rfl (X₁ _ _ ho) rfl rfl rfl (X₁ _ _ hcode) rfl hvs hfile T.top ?_
  refine ks_loadName_global rfl sup_l2 (loadGlobal_builtin (env := ksEnv qual supScope hp.objs.size fI (.ref cda) cc) G₁ T.gs B₁ ((hbb _ (by decide +kernel)).trans boot_super) ⟨rfl, ?_⟩)
  refine wpAny_loadName_free rfl sup_l3 rfl ⟨_, X₁ _ _ hcell, rfl⟩ ?_
  refine wpAny_loadName_local rfl sup_l1 hns (v := .ref x) (by show List.lookup ("self" : Str) [(("self" : Str), Value.ref x)] = some (Value.ref x); simp [List.lookup]) ?_
  refine ks_wpAny_isType_cls (X₁ _ _ hC) rfl ⟨rfl, ?_⟩
  have I : InstAt h₁ x (PySem.HandSPX.excO C t0) C none := ⟨hx₁, rfl, rfl, trivial⟩
  refine ks_wpAny_call_super (X₁ _ _ hC) rfl I.at_ I.cls (fun c e => by cases e) (looks_mroIn X₁ T.me) (fun h' e k => ?_)
  have X₂ : K.In h' := X₁.keeps k
  have hx₂ : h'.get? x = some (PySem.HandSPX.excO C t0) := k _ _ hx₁
  have I₂ : InstAt h' x (PySem.HandSPX.excO C t0) C none := ⟨hx₂, rfl, rfl, trivial⟩
  have hsu := T.sup
  unfold ks_superIn at hsu
  have hcl : clsIn K C = some { name := nm, bases := bs, mro := .ref C :: bm, ns := N, qualname := q, hasDict := true, slotNames := sn, subclasses := sub, abstract := ab, collection := col, hasDel := false } := by unfold clsIn; rw [hC] <;> rfl
  rw [hcl] at hsu
  refine kxs_getMethod kxs_ValueError e (looks_opaque X₂ T.third) (l₀ := .ref C :: bm) ?_ rfl X₂ hsu (I₂.type.andThen (looks_subIn X₂ T.ve)) (ks_ne X₂ I₂ hcl) (by decide) ?_
  · exact fun A Q E s k q => wpAny_bind ((looks_clsIn X₂ hcl) A _ E s k (wpAny_pure q))
  have hne : h'.objs.size ≠ x := Nat.ne_of_gt (Heap.lt_size hx₂)
  have k2 : ∀ b o, h'.get? b = some o → (h'.push (kxs_mw "ValueError.__init__" x)).get? b = some o := fun b o z => Heap.get?_push_of_some _ z
  have hmw : (h'.push (kxs_mw "ValueError.__init__" x)).get? h'.objs.size = some (kxs_mw "ValueError.__init__" x) := Heap.get?_push_at rfl rfl
  refine kxs_callWith (i := "ValueError.__init__") (x := x) rfl (evalArgs_empty ⟨hmw, ?_⟩)
  refine bound_init T.oex (X₂.keeps k2) hmw (k2 _ _ hx₂) fun h3 t1 k3 hx3 => ?_
  exact wpAt_of_wpAny (wpAny_execs_nil (hq h3 _ t1 (fun b o hb z => k3 b o hb (k2 b o (k b o (k₁ b o z)))) hx3))
end
end Ev
set_option maxHeartbeats 4000000
/-! Rules for own errors as values: made, asked by isinstance, their fields read. -/
namespace Ev
open PySem PySem.Spec PyProof.Rows L2

section
variable {X : Cx} {x : Str} {C fI : Addr} {p pos : Pos}
theorem make_room {k : Nat} {A : Around} (hr : Room k A) {us : List Value} : (A.under (.builtin "type.__call__" ⟨.ref C :: us, []⟩)).depth < recursionLimit := by
  rw [make_depth]
  have := hr.dp
  omega
/-- C() of a class whose __init__ is super().__init__(): what stands behind it -/
theorem run_exc0 {pins : List (Addr × Obj)} {s : Shared} {σ : L2.St} {H : Hp} {k : Nat} {Q : Value → Shared → Prop} (T : SupC X.prog X.K X.mg C fI) (hr : Room k X.A) (I : Inv X pins σ H s)
    (h : ∀ h' tk a t1, s.heap.objs.size ≤ a → (∀ b o, s.heap.get? b = some o → h'.get? b = some o) → h'.get? a = some (PySem.HandSPX.excO C t1) → Q (.ref a) { s with heap := h', toks := tk }) :
    wpAny (model X.prog X.w) X.A (call (.ref C) []) Q X.xe s := by
  obtain ⟨nm, q, N, bs, bm, sn, sub, ab, col, dd, k0, k1, k2, k3, k5, hC, hbm⟩ := T.oex.cls
  obtain ⟨mb, hb1, hb2⟩ := I.mod.blt
  have kX := I.kIn
  have lim := I.nolimit
  have g1 := I.mod.glob.keeps I.bk
  have b1 := hb1.keeps I.bk
  obtain ⟨hp, g, dr, tk, os⟩ := s
  have kk : ∀ b o, hp.get? b = some o → ((hp.push (PySem.W.kdv_tup [])).push (PySem.HandSPX.excO C hp.objs.size)).get? b = some o := fun b o e => Heap.get?_push_of_some _ (Heap.get?_push_of_some _ e)
  have hget : ((hp.push (PySem.W.kdv_tup [])).push (PySem.HandSPX.excO C hp.objs.size)).get? (hp.objs.size + 1) = some (PySem.HandSPX.excO C hp.objs.size) := by heap_get
  refine wpAny_call (PySem.HandSPX.call_own F.excBase_ValueError (fun Y => PySem.HandSPX.refsVE_contains Y bm hbm) (kX _ _ hC) (PySem.W.looks_findIn kX T.ini) (fun self => PySem.W.bind_fn kX self T.tyI) (by rw [sizeLine_eq]; exact Nat.zero_le _)
    (sup_init (s := ⟨(hp.push (PySem.W.kdv_tup [])).push (PySem.HandSPX.excO C hp.objs.size), g, dr, tk, os⟩) T (make_room hr) (kX.keeps kk) (lim.keeps kk) (g1.keeps kk) (b1.keeps kk) hb2 hget fun h' t' t1 k' hx => ⟨rfl, ?_⟩))
  exact h h' t' (hp.objs.size + 1) t1 (Nat.le_succ _) (fun b o e => k' b o (Nat.ne_of_lt (Nat.lt_succ_of_lt (Heap.lt_size e))) (kk b o e)) hx
def tExc0 (C : Addr) : TE := fun _ H Q => ∀ a, H a = none → Q (.ref a) (upd H a (exo a C none))
theorem pe_exc0 {k : Nat} (T : SupC X.prog X.K X.mg C fI) (hr : Room k X.A) (hg : Gl X x) (hm : X.mg x = some (.ref C)) (hdb : (x == ("__debug__" : Str)) = false := by decide) : PE X (.Call (.Name x p) [] [] pos) (tExc0 C) := by
  refine ⟨fun pins s σ H Q I h => ?_⟩
  refine wpAny_Call_Name_kw (ld_glob I hg hm ?_ hdb)
  refine PySem.W.callWith_K0 I.kIn T.oex.kC ?_
  show wpAny _ _ (call (.ref C) []) _ _ _
  refine run_exc0 T hr I fun h' tk a t1 ha k e => ?_
  exact ⟨.ref a, upd H a (exo a C none), I.laid k ha (exo_ok e), rfl, h a (I.hok.fresh ha)⟩
/-- raised at once -/
theorem pmk_exc0 {k : Nat} (T : SupC X.prog X.K X.mg C fI) (hr : Room k X.A) (hg : Gl X x) (hm : X.mg x = some (.ref C)) (hdb : (x == ("__debug__" : Str)) = false := by decide) : PMk X (.Call (.Name x p) [] [] pos) (fun _ H Q => Q (.ref C) none H) := by
  intro pins s σ H Q I h
  refine wpAny_Call_Name_kw (ld_glob I hg hm ?_ hdb)
  refine PySem.W.callWith_K0 I.kIn T.oex.kC ?_
  show wpAny _ _ (call (.ref C) []) _ _ _
  refine run_exc0 T hr I fun h' tk a t1 ha k e => ?_
  refine ⟨a, _, _, s, H, .ref C, none, rfl, I, k, ?_, e, ⟨rfl, rfl⟩, rfl, rfl, I.hok.fresh ha, rfl, I.bare, raises_own T.oex.exC T.oex.tyC, h⟩
  exact Heap.get?_none_of_le ha
end

/-! ### __init__(self, f): self.f = f -/
structure Ini1 (st : Stmt) (f : Str) : Prop where
  body : ∃ q1 q2 q3 q4, defBody st = [.Assign [.Attribute (.Name "self" q1) f q2] (.Name f q3) q4]
  sc : FnScope ["self", f] ["self", f] (defScope st)
  l0 : (defScope st).names.lookup ("self" : Str) = some .local
  l1 : (defScope st).names.lookup f = some .local
  d1 : (f == ("__debug__" : Str)) = false
  d2 : (f == ("__classdict__" : Str)) = false
def spIni1 (C : Addr) (f : Str) : Sp := fun vs H Q _ => ∃ (a : Addr) (v : V), vs = [.ref a, v] ∧ H a = some (exo a C none) ∧ ∀ dx, H dx = none → dx ≠ a → Q .non (upd (upd H dx (exd dx [(f, v)])) a (exo a C (some dx)))
section
variable {P : Program} {w : World} {K : PySem.W.Frag} {mg : Str → Option Value} {base : Heap} {C : Addr}
theorem ok_ini1 {qual f : Str} {st : Stmt} {fI : Addr} {fd : FuncData} (F : Fun K "__init__" qual st fI fd) (S : Ini1 st f) (T : OexC K C) (hno : PySem.W.findIn K (.ref C) f = some none) : FnOk P w K mg base CX0 1 fI fd ["self", f] (spIni1 C f) := by
  refine F.ok S.sc (fun vs H Q E h => ?_) (fun cdv A outer s H vs Q E hr h => ?_)
  · obtain ⟨a, v, rfl, _⟩ := h
    rfl
  · obtain ⟨a, v, rfl, ha, q⟩ := h
    obtain ⟨q1, q2, q3, q4, hb⟩ := S.body
    rw [hb]
    refine ⟨_, pss_one (ps_ost (pv 0 rfl (.inl S.l0)) (pv 1 rfl (.inl S.l1) S.d1 S.d2)), ?_⟩
    exact ⟨v, rfl, .ref a, rfl, a, C, rfl, T, hno, .inl ⟨ha, fun dx n ne => q dx n ne⟩⟩
end
theorem upd3 {H : Hp} {a d : Addr} {o1 o2 o3 : HO} (h : d ≠ a) : upd (upd (upd H a o1) d o2) a o3 = upd (upd H d o2) a o3 := by
  funext b
  by_cases e : b = a
  · rw [e, upd_same, upd_same]
  · rw [upd_ne e, upd_ne e]
    by_cases e2 : b = d
    · rw [e2, upd_same, upd_same]
    · rw [upd_ne e2, upd_ne e2, upd_ne e]
def tExc1 (C : Addr) (f : Str) (ta : TA) : TE := fun σ H Q => ta σ H fun vs H1 => ∃ v, vs = [v] ∧ ∀ a d, H1 a = none → H1 d = none → d ≠ a → Q (.ref a) (upd (upd H1 d (exd d [(f, v)])) a (exo a C (some d)))
section
variable {X : Cx} {x f : Str} {C fI : Addr} {p pos : Pos} {e : Expr} {ta : TA} {fd : FuncData}
theorem pe_exc1 {k : Nat} (T : OexC X.K C) (iC : PySem.W.findIn X.K (.ref C) "__init__" = some (some (.ref fI))) (tI : PySem.W.typeIn X.K (.ref fI) = some (.type "function")) (F1 : FnOk X.prog X.w X.K X.mg X.base CX0 1 fI fd ["self", f] (spIni1 C f)) (hr : Room (k + 2) X.A)
    (hb : Binds X.K fd ["self", f] []) (hg : Gl X x) (hm : X.mg x = some (.ref C)) (ha : PA X [e] ta) (hdb : (x == ("__debug__" : Str)) = false := by decide) (he : starEach (e :: []) X.env = (false, eval e X.env) :: starEach [] X.env := by rfl)
    (hpl : (backTo pos (starEach [] X.env)).any (·.1) = false := by rfl) : PE X (.Call (.Name x p) [e] [] pos) (tExc1 C f ta) := by
  refine ⟨fun pins s σ H Q I h => ?_⟩
  obtain ⟨nm, q, N, bs, bm, sn, sub, ab, col, dd, k0, k1, k2, k3, k5, hC, hbm⟩ := T.cls
  refine wpAny_Call_Name_kw (ld_glob I hg hm ?_ hdb)
  refine PySem.W.callWith_K (h₀ := X.base) I.ok.mod.kin T.kC (thn (ha.run pos pins s σ H _ I h) fun us s1 ⟨vs, H1, I1, r1, v, ev, q1⟩ => ⟨I1.kIn, ?_⟩) he hpl
  subst ev
  show wpAny _ _ (call (.ref C) us) _ _ _
  obtain ⟨hp, g, dr, tk, os⟩ := s1
  have hsz : hp.objs.size ≤ hp.objs.size + 1 := Nat.le_succ _
  have hn : H1 (hp.objs.size + 1) = none := I1.hok.fresh hsz
  have kk : ∀ b o, hp.get? b = some o → ((hp.push (PySem.W.kdv_tup us)).push (PySem.HandSPX.excO C hp.objs.size)).get? b = some o := fun b o e => Heap.get?_push_of_some _ (Heap.get?_push_of_some _ e)
  have hget : ((hp.push (PySem.W.kdv_tup us)).push (PySem.HandSPX.excO C hp.objs.size)).get? (hp.objs.size + 1) = some (PySem.HandSPX.excO C hp.objs.size) := by heap_get
  have I2 : Inv X pins σ (upd H1 (hp.objs.size + 1) (exo (hp.objs.size + 1) C none)) ⟨(hp.push (PySem.W.kdv_tup us)).push (PySem.HandSPX.excO C hp.objs.size), g, dr, tk, os⟩ :=
    I1.laid (t' := tk) (a := hp.objs.size + 1) (o := exo (hp.objs.size + 1) C none) (h' := (hp.push (PySem.W.kdv_tup us)).push (PySem.HandSPX.excO C hp.objs.size)) kk hsz (exo_ok hget)
  have r2 : Vals [V.ref (hp.objs.size + 1), v] (Value.ref (hp.objs.size + 1) :: us) := .cons rfl r1
  have hl1 : us.length = 1 := by rw [← Paired.length r1] <;> rfl
  have hl : (Value.ref (hp.objs.size + 1) :: us ++ []).length = (["self", f] : List Str).length := by
    rw [List.append_nil, List.length_cons, hl1] <;> rfl
  have hus : us.length ≤ sizeLine := by
    rw [hl1, sizeLine_eq]
    omega
  have b2 := hb _ (Value.ref (hp.objs.size + 1) :: us) I2.kIn hl
  rw [List.append_nil] at b2
  have hq : spIni1 C f [V.ref (hp.objs.size + 1), v] (upd H1 (hp.objs.size + 1) (exo (hp.objs.size + 1) C none)) (fun z H2 => z = .non ∧ Q (.ref (hp.objs.size + 1)) H2) E0 := by
    refine ⟨_, v, rfl, upd_same, fun dx n ne => ⟨rfl, ?_⟩⟩
    rw [upd_ne ne] at n
    rw [upd3 ne]
    exact q1 _ dx hn n ne
  refine wpAny_call (PySem.HandSPX.call_own F.excBase_ValueError (fun Y => PySem.HandSPX.refsVE_contains Y bm hbm) (I1.kIn _ _ hC) (PySem.W.looks_findIn I1.kIn iC) (fun self => PySem.W.bind_fn I1.kIn self tI) hus
    (codeAny_mono (F1.run _ X.stack _ _ ⟨Value.ref (hp.objs.size + 1) :: us, []⟩ (Value.ref (hp.objs.size + 1) :: us) _ _ E0 ((hr.mono (by omega : 1 + 1 ≤ k + 2)).make C us []) (I2.env0.make C us []) b2 r2 hq) fun r s' hq' => ?_))
  cases r with
  | error er => exact False.elim hq'
  | ok fl =>
    cases fl with
    | ret u =>
      obtain ⟨z, H', I3, rz, ez, q3⟩ := I2.after hq'
      subst ez
      exact ⟨rz, ⟨V.ref (hp.objs.size + 1), H', I3, rfl, q3⟩⟩
    | next => exact False.elim hq'
    | brk => exact False.elim hq'
    | cont => exact False.elim hq'
end

/-! ### isinstance -/
/-- at a stands an own error of the class at C -/
def ErrAt (H : Hp) (a C : Addr) : Prop := H a = some (exo a C none) ∨ ∃ d fs, H a = some (exo a C (some d)) ∧ H d = some (exd d fs)
theorem err_inst {X : Cx} {pins : List (Addr × Obj)} {σ : L2.St} {H : Hp} {s : Shared} {a C : Addr} (I : Inv X pins σ H s) (h : ErrAt H a C) : ∃ ox od, PySem.W.InstAt s.heap a ox C od := by
  rcases h with h | ⟨d, fs, h, hd⟩
  · obtain ⟨t1, e⟩ := exo_at I.hok h
    exact ⟨_, none, e, rfl, rfl, trivial⟩
  · obtain ⟨t1, e⟩ := exo_at I.hok h
    obtain ⟨mA, ⟨o, es, ep, ho, _⟩, _⟩ := exd_at I.hok hd
    exact ⟨_, some o, e, rfl, rfl, ho⟩
/-- isinstance(e, c), e an own error -/
def rIsX (K : PySem.W.Frag) : List V → Hp → VK → Prop := fun xs H Q => ∃ (a C : Addr) (c : V) (cv : Value) (b : Bool), xs = [.ref a, c] ∧ ErrAt H a C ∧ ExcC K C ∧ ClsV c cv ∧ PySem.W.kitOne K (.ref C) cv = some b ∧ Q (.bl b) H
theorem call_isX {X : Cx} : CallR X (.builtin "isinstance") (rIsX X.K) := by
  intro pins s σ H xs us Q I r h
  obtain ⟨a, C, c, cv, b, rfl, ea, T, k, e, q⟩ := h
  obtain ⟨u1, u2, rfl, r1, r2⟩ := vals2 r
  have e2 := k.eq r2
  subst e2
  obtain rfl : u1 = Value.ref a := r1
  obtain ⟨ox, od, J⟩ := err_inst I ea
  have hcl : (PySem.W.clsIn X.K C).isSome = true := by
    obtain ⟨cd, hc, _⟩ := PySem.W.any_some T.hd
    rw [hc]
    rfl
  exact PySem.W.kia_one (PySem.W.kitx_exc hcl T.hg T.hk T.hs T.ha T.hn T.ht T.hm) I.kIn J e (fun z => nomatch z) fun tk => ⟨.bl b, H, I.tok tk, rfl, q⟩
/-- e.n, e an own error -/
def tErrF (K : PySem.W.Frag) (n : Str) (te : TE) : TE := fun σ H Q => te σ H fun x H1 => ∃ (a C d : Addr) (fs : List (Str × V)) (v : V), x = .ref a ∧ H1 a = some (exo a C (some d)) ∧ H1 d = some (exd d fs) ∧ fs.lookup n = some v ∧ XfC K C ∧ PySem.W.findIn K (.ref C) n = some none ∧ Q v H1
theorem pe_errF {X : Cx} {e : Expr} {te : TE} {pos : Pos} {n : Str} (he : PE X e te) (hb : attributeBase e n X.env (eval e X.env) = eval e X.env := by rfl) : PE X (.Attribute e n pos) (tErrF X.K n te) := by
  refine ⟨fun pins s σ H Q I h => ?_⟩
  refine attr_of hb (thn (he.run pins s σ H _ I h) fun u s1 hh => ?_)
  obtain ⟨x, H1, I1, rx, a, C, d, fs, v, ex, ea, ed, l, T, hno, q⟩ := hh
  subst ex
  obtain rfl : u = Value.ref a := rx
  obtain ⟨t1, e1⟩ := exo_at I1.hok ea
  obtain ⟨mA, hns, hr⟩ := exd_at I1.hok ed
  obtain ⟨od, ho, hl⟩ := lookIn_ns hns
  obtain ⟨u, hu, ru⟩ := RelO.some_of (v := v) (o := mA n) (by rw [← l]; exact hr n)
  have J : PySem.W.InstAt s1.heap a _ C (some od) := ⟨e1, rfl, rfl, ho⟩
  exact HandSPX.exc_get I1.kIn J T.ga T.gg T.exC (PySem.W.findObj_own T.hdC hno rfl (by rw [hl, hu])) (handed_of ru) ⟨v, H1, I1.tok _, ru, q⟩
end Ev
set_option maxHeartbeats 4000000
/-! try with several clauses «except X as n», the name the same in all of them. -/
namespace Ev
open PySem PySem.Spec PyProof.Rows L2
/-- behind a suite the name's slot (i) is empty -/
def offS (i : Nat) (D : Ends) : Ends := { nx := fun σ' H' => D.nx (σ'.set i none) H', rt := D.rt, bk := fun σ' H' => D.bk (σ'.set i none) H', ct := fun σ' H' => D.ct (σ'.set i none) H' }
def wManyAs (K : PySem.W.Frag) (i : Nat) (Wout : WX) (D : Ends) : List (Value × (Addr → Value → Option Addr → TS)) → WX
  | [] => Wout
  | (c, ts) :: r => fun cls d σ H => ∃ b, PySem.W.exmOne K cls c = some b ∧ (b = true → ∀ a, H a = none → ts a cls d (offS i D) (σ.set i (some (.ref a))) H) ∧ (b = false → wManyAs K i Wout D r cls d σ H)
inductive HdsAs (X : Cx) (n : Str) : List ExceptHandler → List (Value × (Addr → Value → Option Addr → TS)) → Prop
  | nil : HdsAs X n [] []
  | cons {x : Str} {c : Value} {ts : Addr → Value → Option Addr → TS} {b₀ : Stmt} {suite : List Stmt} {np pos' : Pos} {hds : List ExceptHandler} {l : List (Value × (Addr → Value → Option Addr → TS))} (hc : Names X x c)
      (hsu : ∀ (a : Addr) (oe : Obj) (cls : Value) (d : Option Addr) (pn : List (Addr × Obj)), Zc cls d oe → (∃ vs, oe.data = .fields vs) → PSs (X.suite a ((a, oe) :: pn)) (b₀ :: suite) (ts a cls d)) (r : HdsAs X n hds l) :
      HdsAs X n (.ExceptHandler (some (.Name x np)) (some n) (b₀ :: suite) pos' :: hds) ((c, ts) :: l)
section
variable {X : Cx} {body : List Stmt} {h₀ : ExceptHandler} {hds : List ExceptHandler} {l : List (Value × (Addr → Value → Option Addr → TS))} {pos : Pos} {tb : WX → TS} {Wout : WX} {n : Str} {i : Nat}
theorem ps_try_manyAs (hs : X.stack = X.env :: X.outer) (hf : X.env.frame = some X.env.locals) (hN : X.N.Nodup) (hi : X.N[i]? = some n) (hln : X.env.kindOf n = some .local) (tk : Takes X Wout)
    (hb : ∀ (W : WX) (pn : List (Addr × Obj)) (xe : Value → Shared → Prop), Takes (X.tr pn xe) W → PassesOwn (model X.prog X.w) X.A X.env xe → PSs (X.tr pn xe) body (tb W))
    (hh : HdsAs X n (h₀ :: hds) l) : PS X (.Try body (h₀ :: hds) [] [] pos) (fun D σ H => tb (wManyAs X.K i Wout D l) D σ H) := by
  refine ⟨fun pins s σ H D I h => ?_⟩
  have ok := I.ok
  have hfr : X.A.frames = some (X.env :: X.outer) := by rw [ok.frames, hs]
  have hloc : Loc X.env.scope n := .inl hln
  refine wpAny_Try_except (wpAny_mono ((hb (wManyAs X.K i Wout D l) (X.pn ++ pins) (fun e s₁ => wpAny (model X.prog X.w) X.A (noteFrame e X.env) (fun _ s₂ => wpAny (model X.prog X.w) X.A (setFlight e none) (fun _ s₃ =>
    wpAny (model X.prog X.w) X.A (handleBy e X.env (h₀ :: hds)) (SP X pins D) X.xe s₃) X.xe s₂) X.xe s₁) (fun u s' xx => ?_) PassesOwn.looking).run [] s σ H D (I.toTry _) h) (fun f s1 hsp => ?_) (fun e s1 he => he))
  · obtain ⟨a, B, sI, pins', σ', H', cls, d, rfl, J', nb, up, sky, na, os, ag, w⟩ := xx
    have J : L2.Inv X pins σ' H' sI := J'.ofTry ok
    have sky' : Sky B (X.env :: X.outer) a (Zc cls d) X.env.locals s'.heap := by rw [← hs]; exact sky
    refine Sky.land Zc.steady hfr hf sky' fun h3 fl3 up3 => ?_
    have J3 : L2.Inv X pins σ' H' { s' with heap := h3 } := J.landed nb fl3.1 (up.trans up3) os ag
    obtain ⟨oe3, vs3, he3, hz3, hd3⟩ := fl3.there
    have nfr : a ∉ frs (X.env :: X.outer) := fun hm => by
      obtain ⟨_, o', e', hnf⟩ := fl3.2.2.1.mem hm
      rw [he3] at e'; cases e'
      exact hnf _ hd3
    have nL : a ≠ X.env.locals := fun z => nfr (List.mem_filterMap.mpr ⟨X.env, List.mem_cons_self, by rw [hf, z]⟩)
    have nF : a ∉ X.fs := fun hm => by
      obtain ⟨e, he, q⟩ := List.mem_filterMap.mp hm
      exact nfr (List.mem_filterMap.mpr ⟨e, List.mem_cons_of_mem _ he, q⟩)
    have S3 := J3.suite he3 hd3 na nL nF
    have LT : PySem.W.Looks (model X.prog X.w) h3 (typeOf (.ref a)) cls := fun A Q E s k q => wpAny_typeOf_ref (k _ _ he3) (by rw [hz3.1]; exact q)
    have go : ∀ {hds' : List ExceptHandler} {l' : List (Value × (Addr → Value → Option Addr → TS))}, HdsAs X n hds' l' → wManyAs X.K i Wout D l' cls d σ' H' →
        wpAny (model X.prog X.w) X.A (handleBy (.ref a) X.env hds') (SP X pins D) X.xe { s' with heap := h3 } := by
      intro hds' l' hk
      induction hk with
      | nil =>
        intro w
        refine wpAny_handleBy_nil ?_
        obtain ⟨k1, k2, k3, oe, vs, T, oT, ts', he, hz, hd, h1, hr⟩ := id fl3
        unfold PySem.passOn
        refine wpAny_bind (wpAny_field he hd h1 ?_)
        rw [if_neg (show ¬ ((Value.ref T == Value.none) = true) from by simp)]
        have fin : wpAny (model X.prog X.w) X.A (setFlight (.ref a) X.env.frame) (fun _ s4 => wpAny (model X.prog X.w) X.A (throw (.ref a) : Sem Flow) (SP X pins D) X.xe s4) X.xe { s' with heap := h3 } := by
          rw [hf]
          refine HandSPX.setFlight_upZ fl3 fun h4 hh4 up4 => wpAny_throw (tk _ _ ?_)
          exact ⟨a, B, sI, pins, σ', H', cls, d, rfl, J, nb, (up.trans up3).trans up4, .inr (.inr (by rw [hs]; exact hh4)), na, os, ag, w⟩
        first
          | exact wpAny_bind (wpAny_pure (wpAny_bind fin))
          | exact wpAny_bind fin
      | @cons x c ts b₀ suite np pos' hds2 l2 hc hsu r ih =>
        intro w
        obtain ⟨b, hb1, hyes, hno⟩ := w
        refine wpAny_handleBy_cons (codeAny_handlers_test ?_) (by intro q; cases q)
        have LM := PySem.W.exm_one (M := model X.prog X.w) (J3.kIn) LT hb1
        have test : ∀ {Q : Value → Shared → Prop} {E : Value → Shared → Prop}, Q c { s' with heap := h3 } → wpAny (model X.prog X.w) (X.A.mark (some (.ref a))) (eval (.Name x np) X.env) Q E { s' with heap := h3 } := fun {Q E} q => by
          obtain ⟨hg, hdbg, hm | ⟨hm, hv, hnn⟩⟩ := hc
          · exact ld_glob (X := X.suite a ((a, oe3) :: (X.pn ++ pins))) S3 hg hm q hdbg
          · exact ld_blt (X := X.suite a ((a, oe3) :: (X.pn ++ pins))) S3 hg hm hv q hnn hdbg
        refine test (LM.here ?_)
        cases b with
        | true =>
          refine codeAny_handlers_suite_as (HandSPX.lands_againZ fl3 fun h4 fl4 up4 => ?_)
          have J4 : L2.Inv X pins σ' H' { s' with heap := h4 } := J.landed nb fl4.1 ((up.trans up3).trans up4) os ag
          obtain ⟨oe4, vs4, he4, hz4, hd4⟩ := fl4.there
          refine store_ok (X := X.suite a ((a, oe4) :: (X.pn ++ pins))) (v := .ref a) (J4.suite he4 hd4 na nL nF) hN hi hloc rfl (fun s5 S5 => ?_) (.inr hln)
          refine wpAny_mono ((hsu a oe4 cls d (X.pn ++ pins) hz4 ⟨_, hd4⟩).run [] s5 _ H' _ S5 (hyes rfl a na)) (fun f s6 hsp => ?_) (fun _ _ z => False.elim z)
          cases f with
          | next =>
            obtain ⟨σ6, H6, S6, q6⟩ := hsp
            exact gone_ok (S6.unsuite ok) hN hi hln fun s7 J7 => ⟨_, _, J7, q6⟩
          | brk =>
            obtain ⟨σ6, H6, S6, q6⟩ := hsp
            exact gone_ok (S6.unsuite ok) hN hi hln fun s7 J7 => ⟨_, _, J7, q6⟩
          | cont =>
            obtain ⟨σ6, H6, S6, q6⟩ := hsp
            exact gone_ok (S6.unsuite ok) hN hi hln fun s7 J7 => ⟨_, _, J7, q6⟩
          | ret u =>
            obtain ⟨v6, σ6, H6, S6, r6, q6⟩ := hsp
            exact gone_ok (S6.unsuite ok) hN hi hln fun s7 J7 => ⟨_, _, _, J7, r6, q6⟩
        | false => exact ih (hno rfl)
    exact go hh w
  · cases f with
    | next =>
      obtain ⟨σ', H', J', q⟩ := hsp
      exact wpAny_execs_nil ⟨σ', H', J'.ofTry ok, q⟩
    | brk =>
      obtain ⟨σ', H', J', q⟩ := hsp
      exact ⟨σ', H', J'.ofTry ok, q⟩
    | cont =>
      obtain ⟨σ', H', J', q⟩ := hsp
      exact ⟨σ', H', J'.ofTry ok, q⟩
    | ret u =>
      obtain ⟨v, σ', H', J', r, q⟩ := hsp
      exact ⟨v, σ', H', J'.ofTry ok, r, q⟩
end
end Ev
set_option maxHeartbeats 8000000
namespace LawK
open PySem PySem.Spec PyProof.Rows L2 Ev
abbrev veT : List Value := [.type "ValueError", .type "Exception", .type "BaseException", .type "object"]
/-- an own error class at C, over the one at PE -/
structure ErC (K : PySem.W.Frag) (PE C : Addr) : Prop where
  oex : OexC K C
  isx : ExcC K C
  xf : XfC K C
  mro : ∃ cd, PySem.W.clsIn K C = some cd ∧ cd.mro = .ref C :: .ref PE :: veT
  isT : PySem.W.typeIn K (.ref C) = some (.type "type")
section
variable {K : PySem.W.Frag} {PE C D : Addr}
theorem ErC.sub (T : ErC K PE C) (b : Value) : PySem.W.subIn K (.ref C) b = some ((Value.ref C :: .ref PE :: veT).contains b) := by
  obtain ⟨cd, h1, h2⟩ := T.mro
  show (PySem.W.clsIn K C).bind _ = _
  rw [h1, Option.bind_some, h2]
  rfl
theorem kit_at (TD : ErC K PE D) (T : ErC K PE C) (n : D ≠ PE) : PySem.W.kitOne K (.ref C) (.ref D) = some (decide (C = D)) := by
  unfold PySem.W.kitOne
  by_cases e : C = D
  · subst e
    rw [if_pos (by simp), decide_eq_true rfl]
  · rw [if_neg (by simpa using e), decide_eq_false e]
    obtain ⟨cd, h1, h2⟩ := TD.mro
    show (if ((PySem.W.clsIn K D).isSome && PySem.W.typeIn K (.ref D) == some (.type "type")) = true then PySem.W.subIn K (.ref C) (.ref D) else none) = some false
    rw [if_pos (by rw [h1, TD.isT]; rfl), T.sub]
    have e2 : D ≠ C := fun z => e z.symm
    simp [veT, e2, n]
end
/-- an error class without a field -/
structure Cls0 (P : Program) (K : PySem.W.Frag) (mg : Str → Option Value) (PE : Addr) (x : Str) (C : Addr) : Prop where
  er : ErC K PE C
  ne : C ≠ PE
  sup : ∃ fI, SupC P K mg C fI
  g : mg x = some (.ref C)
/-- an error class with the field f -/
structure Cls1 (K : PySem.W.Frag) (mg : Str → Option Value) (PE : Addr) (x f : Str) (C : Addr) : Prop where
  er : ErC K PE C
  ne : C ≠ PE
  g : mg x = some (.ref C)
  ini : ∃ (fI : Addr) (fd : FuncData) (st : Stmt) (qual : Str), Fun K "__init__" qual st fI fd ∧ Ini1 st f ∧ Binds K fd ["self", f] [] ∧ PySem.W.findIn K (.ref C) "__init__" = some (some (.ref fI)) ∧ PySem.W.typeIn K (.ref fI) = some (.type "function")
  hno : PySem.W.findIn K (.ref C) f = some none
section
variable {X : Cx} {x f : Str} {PE C : Addr} {p pos : Pos} {e : Expr} {ta : TA} {k : Nat}
theorem pe_c0 (T : Cls0 X.prog X.K X.mg PE x C) (hr : Room k X.A) (hg : Gl X x := by rfl) (hdb : (x == ("__debug__" : Str)) = false := by decide) : L2.PE X (.Call (.Name x p) [] [] pos) (tExc0 C) := by
  obtain ⟨fI, S⟩ := T.sup
  exact pe_exc0 S hr hg T.g hdb
theorem pe_c1 (T : Cls1 X.K X.mg PE x f C) (hr : Room (k + 2) X.A) (ha : PA X [e] ta) (hg : Gl X x := by rfl) (hdb : (x == ("__debug__" : Str)) = false := by decide) (he : starEach (e :: []) X.env = (false, eval e X.env) :: starEach [] X.env := by rfl)
    (hpl : (backTo pos (starEach [] X.env)).any (·.1) = false := by rfl) : L2.PE X (.Call (.Name x p) [e] [] pos) (tExc1 C f ta) := by
  obtain ⟨fI, fd, st, qual, F1, S1, b1, iC, tI⟩ := T.ini
  exact pe_exc1 T.er.oex iC tI (ok_ini1 F1 S1 T.er.oex T.hno) hr b1 hg T.g ha hdb he hpl
def tMk1 (C : Addr) (f : Str) (ta : TA) : L2.St → Hp → XK → Prop := fun σ H Q => ta σ H fun vs H1 => ∃ v, vs = [v] ∧ ∀ d, H1 d = none → Q (.ref C) (some d) (upd H1 d (.xd [(f, v)]))
theorem del_upd {H : Hp} {a d : Addr} {o1 o2 o3 u : HO} (ha : H a = none) (hd : d ≠ a) : upd (del (upd (upd (upd H a o1) d o2) a o3) a) d u = upd H d u := by
  funext b
  by_cases e : b = d
  · rw [e, upd_same, upd_same]
  · rw [upd_ne e, upd_ne e]
    by_cases e2 : b = a
    · rw [e2, del_same, ha]
    · rw [del_ne e2, upd_ne e2, upd_ne e, upd_ne e2]
theorem pmk_c1 (T : Cls1 X.K X.mg PE x f C) (hr : Room (k + 2) X.A) (ha : PA X [e] ta) (hg : Gl X x := by rfl) (hdb : (x == ("__debug__" : Str)) = false := by decide) (he : starEach (e :: []) X.env = (false, eval e X.env) :: starEach [] X.env := by rfl)
    (hpl : (backTo pos (starEach [] X.env)).any (·.1) = false := by rfl) (hm : ∀ {σ : L2.St} {H : Hp} {Q1 Q2 : List V → Hp → Prop}, (∀ vs H1, Q1 vs H1 → Q2 vs H1) → ta σ H Q1 → ta σ H Q2) : PMk X (.Call (.Name x p) [e] [] pos) (tMk1 C f ta) := by
  obtain ⟨fI, fd, st, qual, F1, S1, b1, iC, tI⟩ := T.ini
  intro pins s σ H Q I h
  refine pmk_oex (CX := CX0) (k := 1) (sp := spIni1 C f) (ds := []) (dvs := []) T.er.oex iC tI (ok_ini1 F1 S1 T.er.oex T.hno) (hr.mono (by omega)) b1 .nil (fun _ _ _ _ _ _ _ z => z.elim) hg T.g ha hdb he hpl pins s σ H Q I (hm (fun vs H1 q => ?_) h)
  obtain ⟨v, rfl, q⟩ := q
  refine ⟨by show 1 ≤ 1000; decide, fun a na => ⟨a, v, rfl, upd_same, fun dx n ne => ⟨rfl, dx, _, upd_same, by rw [upd_ne ne, upd_same], ?_, ?_⟩⟩⟩
  · rw [upd_ne ne] at n
    exact n
  · rw [del_upd na ne]
    rw [upd_ne ne] at n
    exact q dx n
end
structure BaseX (K : PySem.W.Frag) (PE : Addr) : Prop where
  sub : PySem.W.subIn K (.ref PE) (.type "BaseException") = some true
  hd : PySem.W.hasDictIn K PE = true
  isT : PySem.W.typeIn K (.ref PE) = some (.type "type")
section
variable {K : PySem.W.Frag} {PE : Addr}
theorem exm_at {C D : Addr} (TD : ErC K PE D) (T : ErC K PE C) (n : D ≠ PE) : PySem.W.exmOne K (.ref C) (.ref D) = some (decide (C = D)) := by
  refine PySem.W.exm_ref TD.isx.hs TD.isx.hd TD.isT ?_
  rw [T.sub]
  by_cases e : C = D
  · subst e
    simp
  · have e2 : D ≠ C := fun z => e z.symm
    rw [decide_eq_false e]
    simp [veT, e2, n]
theorem exm_base {C : Addr} (B : BaseX K PE) (T : ErC K PE C) : PySem.W.exmOne K (.ref C) (.ref PE) = some true := by
  refine PySem.W.exm_ref B.sub B.hd B.isT ?_
  rw [T.sub]
  simp [veT]
theorem tCons1 {i j : Nat} {σ : L2.St} {H : Hp} {Q1 Q2 : List V → Hp → Prop} (h : ∀ vs H1, Q1 vs H1 → Q2 vs H1) : tCons (tVar i) tNil σ H Q1 → tCons (tVar i) tNil σ H Q2 := fun ⟨v, e, q⟩ => ⟨v, e, h _ _ q⟩
end
def chkE (K : PySem.W.Frag) (C : Addr) : Bool := xfB K C && (decide (PySem.W.typeIn K (.ref C) = some (.type "type")) && (PySem.W.keepIn K (.ref C) && (decide (PySem.W.findIn K (.ref C) "__class__" = some (some (.builtin "object.__class__"))) && decide (PySem.W.mroIn K C (.type "object") = some true))))
def chkC (K : PySem.W.Frag) (PE C : Addr) : Bool := chkE K C && (decide (PySem.W.findIn K (.ref C) "__setattr__" = some (some (.builtin "object.__setattr__"))) && decide (C ≠ PE))
structure Sh (K : PySem.W.Frag) : Prop where
  hn : PySem.W.specialIn K (.builtin "object.__class__") "__get__" = some (some (.builtin "getset_descriptor.__get__"))
  ht : PySem.W.takesIn K (.builtin "object.__class__") = some true
structure Sh0 (P : Program) (K : PySem.W.Frag) (mg : Str → Option Value) : Prop extends Sh K where
  gs : mg "super" = none
  top : (P.main.scope.names.lookup ("super" : Str)).isSome = false
  third : PySem.W.nsIn K cStatics "thirdparty.any" = some none
structure CkE (K : PySem.W.Frag) (C : Addr) : Prop where
  xf : XfC K C
  isT : PySem.W.typeIn K (.ref C) = some (.type "type")
  kp : PySem.W.keepIn K (.ref C) = true
  ha : PySem.W.findIn K (.ref C) "__class__" = some (some (.builtin "object.__class__"))
  hm : PySem.W.mroIn K C (.type "object") = some true
theorem chkE_ok {K : PySem.W.Frag} {C : Addr} (h : chkE K C = true) : CkE K C := by
  obtain ⟨h1, h⟩ := Bool.and_eq_true_iff.mp h
  obtain ⟨h2, h⟩ := Bool.and_eq_true_iff.mp h
  obtain ⟨h3, h⟩ := Bool.and_eq_true_iff.mp h
  obtain ⟨h4, h5⟩ := Bool.and_eq_true_iff.mp h
  exact ⟨xfB_ok h1, of_decide_eq_true h2, h3, of_decide_eq_true h4, of_decide_eq_true h5⟩
theorem CkE.isx {K : PySem.W.Frag} {C : Addr} (T : CkE K C) (S : Sh K) : ExcC K C := ⟨T.xf.ga, T.xf.gg, T.xf.exC, T.xf.hdC, T.ha, S.hn, S.ht, T.hm⟩
section
variable {P : Program} {w : World} {K : PySem.W.Frag} {mg : Str → Option Value} {h : Heap} {PE C fI : Addr} {x f qual : Str} {nm q : Str} {N : Addr} {bs : List Value} {sn : List Str} {sub : List Value} {ab : Bool} {col : Option Bool} {dd : Option Addr} {k0 k1 k2 k3 k5 : Option Value}
theorem mro_of {bm : List Value} {id : String} (lC : K.lookup C = some (excClassObj nm q C N bs bm true sn sub ab col dd k0 k1 k2 k3 k5 id)) : ∃ cd, PySem.W.clsIn K C = some cd ∧ cd.mro = .ref C :: bm := by
  have e : PySem.W.clsIn K C = some { name := nm, bases := bs, mro := .ref C :: bm, ns := N, qualname := q, hasDict := true, slotNames := sn, subclasses := sub, abstract := ab, collection := col, hasDel := false } := by
    unfold PySem.W.clsIn
    rw [lC]
  exact ⟨_, e, rfl⟩
theorem er_mk (S : Sh K) (lC : K.lookup C = some (excClassObj nm q C N bs (.ref PE :: veT) true sn sub ab col dd k0 k1 k2 k3 k5 "ValueError.__new__")) (ck : chkC K PE C = true) : ErC K PE C ∧ C ≠ PE := by
  obtain ⟨c1, c2⟩ := Bool.and_eq_true_iff.mp ck
  obtain ⟨c2, c3⟩ := Bool.and_eq_true_iff.mp c2
  have T := chkE_ok c1
  exact ⟨⟨⟨⟨nm, q, N, bs, _, sn, sub, ab, col, dd, k0, k1, k2, k3, k5, lC, (show PySem.HandSPX.refsVE veT = true by decide +kernel)⟩, of_decide_eq_true c2, T.xf.exC, T.isT, T.kp⟩, T.isx S, T.xf, mro_of lC, T.isT⟩, of_decide_eq_true c3⟩
theorem say {K : PySem.W.Frag} {h : Heap} (X : K.In h) (T : PySem.W.Frag → Prop) {g : Prop} (a : T K) (k : T K → g) : g := k a
def chk1 (K : PySem.W.Frag) (PE C fI : Addr) (f : Str) (cd : Value) (qual : Str) : Bool := chkC K PE C && (decide (PySem.W.typeIn K (.ref fI) = some (.type "function")) && (PySem.W.codeIn K cd qual && (PySem.W.keepIn K (.ref fI) && decide (PySem.W.findIn K (.ref C) f = some none))))
theorem cls1_mk {st : Stmt} {oc kV dc pm cd ct : Value} {od an : Option Addr} {sl : Array (Option Value)} (X : K.In h) (G : h.Ns mainGlobals mg) (S : Sh K)
    (i1 : Ini1 st f) (hb : ∀ (kV doc pm : Value) (an : Option Addr) (cdv ct : Value) (us : List Value), us.length = 2 → bindArgs (PySem.W.fnOf "__init__" qual (defArgs st) (defBody st) (defScope st) .none kV doc pm an cdv ct) ⟨us, []⟩ = pure ((["self", f] : List Str).zip us))
    (aC : PySem.W.nsIn K mainGlobals x = some (some (.ref C))) (lC : K.lookup C = some (excClassObj nm q C N bs (.ref PE :: veT) true sn sub ab col dd k0 k1 k2 k3 k5 "ValueError.__new__"))
    (iC : PySem.W.findIn K (.ref C) "__init__" = some (some (.ref fI))) (lI : K.lookup fI = some ⟨oc, od, .func (PySem.W.fnOf "__init__" qual (defArgs st) (defBody st) (defScope st) .none kV dc pm an cd ct), sl⟩)
    (ck : chk1 K PE C fI f cd qual = true) : Cls1 K mg PE x f C := by
  obtain ⟨c1, c2⟩ := Bool.and_eq_true_iff.mp ck
  obtain ⟨c2, c3⟩ := Bool.and_eq_true_iff.mp c2
  obtain ⟨c3, c4⟩ := Bool.and_eq_true_iff.mp c3
  obtain ⟨c4, c5⟩ := Bool.and_eq_true_iff.mp c4
  obtain ⟨e, n⟩ := er_mk S lC c1
  have F1 := fun_mk (st := st) lI c3 c4
  exact ⟨e, n, PySem.W.mg_of X G aC, ⟨fI, _, st, qual, F1, i1, F1.binds (ps := ["self", f]) hb, iC, of_decide_eq_true c2⟩, of_decide_eq_true c5⟩
def chk0 (K : PySem.W.Frag) (PE C fI : Addr) (cd : Value) (qual : Str) : Bool := chkC K PE C && (decide (PySem.W.typeIn K (.ref fI) = some (.type "function")) && (PySem.W.codeIn K cd qual && (decide (PySem.W.ks_superIn K C C "__init__" = some (some (.builtin "ValueError.__init__"))) && (decide (PySem.W.subIn K (.ref C) (.type "ValueError") = some true) && decide (PySem.W.mroIn K C (.ref C) = some true)))))
theorem cls0_mk {oc kV dc pm ct : Value} {od an : Option Addr} {cda cc : Addr} {osl : Array (Option Value)} {p p0 p1 p2 p3 p4 : Pos} {ccl : Value} {cdd : Option Addr} {vs : Array Value} {ccs : Array (Option Value)} {file : Str} {tf : Tok} {cl : Value} {cld : Option Addr} {csl : Array (Option Value)}
    (X : K.In h) (G : h.Ns mainGlobals mg) (S : Sh0 P K mg)
    (aC : PySem.W.nsIn K mainGlobals x = some (some (.ref C))) (lC : K.lookup C = some (excClassObj nm q C N bs (.ref PE :: veT) true sn sub ab col dd k0 k1 k2 k3 k5 "ValueError.__new__"))
    (iC : PySem.W.findIn K (.ref C) "__init__" = some (some (.ref fI)))
    (lI : K.lookup fI = some ⟨oc, od, .func (PySem.W.ksFn "__init__" qual (supArgs p) (supBody p0 p1 p2 p3 p4) supScope .none kV dc pm an (.ref cda) ct cc), osl⟩)
    (lD : K.lookup cda = some ⟨ccl, cdd, .fields vs, ccs⟩) (lc : K.lookup cc = some ⟨cl, cld, .cell (some (.ref C)), csl⟩)
    (v2 : vs[2]? = some (.str file tf)) (vf : ((P.main.file : Str) == file) = true) (pl : (p2.endLine == p3.line) = true)
    (ck : chk0 K PE C fI (.ref cda) qual = true) : Cls0 P K mg PE x C := by
  obtain ⟨c1, c2⟩ := Bool.and_eq_true_iff.mp ck
  obtain ⟨c2, c3⟩ := Bool.and_eq_true_iff.mp c2
  obtain ⟨c3, c4⟩ := Bool.and_eq_true_iff.mp c3
  obtain ⟨c4, c5⟩ := Bool.and_eq_true_iff.mp c4
  obtain ⟨c5, c6⟩ := Bool.and_eq_true_iff.mp c5
  obtain ⟨e, n⟩ := er_mk S.toSh lC c1
  exact ⟨e, n, ⟨fI, e.oex, iC, of_decide_eq_true c2, ⟨oc, od, qual, kV, dc, pm, ct, an, cda, cc, osl, p, p0, p1, p2, p3, p4, ccl, cdd, vs, ccs, file, tf, cl, cld, csl, lI, c3, lD, v2, vf, lc, pl⟩, S.gs, S.top, S.third, of_decide_eq_true c4, of_decide_eq_true c5, of_decide_eq_true c6⟩, PySem.W.mg_of X G aC⟩
theorem sh0_mk (X : K.In h) (G : h.Ns mainGlobals mg) (hn : PySem.W.specialIn K (.builtin "object.__class__") "__get__" = some (some (.builtin "getset_descriptor.__get__"))) (ht : PySem.W.takesIn K (.builtin "object.__class__") = some true)
    (gs : PySem.W.nsIn K mainGlobals "super" = some none) (top : (P.main.scope.names.lookup ("super" : Str)).isSome = false) (third : PySem.W.nsIn K cStatics "thirdparty.any" = some none) : Sh0 P K mg := ⟨⟨hn, ht⟩, PySem.W.mg_none_of X G gs, top, third⟩
end
end LawK
set_option maxHeartbeats 4000000
namespace LawK
open PySem PySem.Spec PyProof.Rows L2 Ev

def spTextY : Sp := fun vs H Q _ => ∃ (z : Str), vs = [.str z] ∧ sgB z = true ∧ z.length ≤ 2000 ∧ Q (.bl true) H
def spNames : Sp := fun vs H Q _ => ∃ (z : Str) (l : Addr) (b : List Nat), vs = [.str z, .ref l] ∧ H l = some (.lst (b.map iN)) ∧ z.length ≤ 2000 ∧ b.length ≤ 2000 ∧ ∀ o H', H o = none → H' o = some (.lst ((namesAt z b).map V.str)) → Same H H' → Q (.ref o) H'
/-- a level as a list that is not L -/
def LvL (L : Addr) (H : Hp) (v : V) (r : List Nat) : Prop := ∃ c, v = .ref c ∧ c ≠ L ∧ H c = some (.lst (r.map iN))
def rTpl (K : PySem.W.Frag) : List V → Hp → VK → Prop := fun xs H Q => ∃ p ys, xs = [V.ref p] ∧ ((SqL K H p ys ∧ ∀ (l : Addr), H l = none → Q (V.ref l) (upd H l (.tup ys))) ∨ SqT K H p ys ∧ Q (V.ref p) H)
def LvT (H : Hp) (v : V) (r : List Nat) : Prop := ∃ c, v = .ref c ∧ H c = some (.tup (r.map iN))
def lvAll (z : Str) : List (List Nat) := List.range z.length :: lvsN z (List.range z.length)
def spLevels : Sp := fun vs H Q _ => ∃ (z : Str), vs = [.str z] ∧ sgB z = true ∧ z.length ≤ 2000 ∧ ∀ L xs H', H' L = some (.lst xs) → All2 (LvL L H') xs (lvAll z) → xs.length ≤ 2001 → Same H H' → Q (.ref L) H'
def spPLevels (cN : Addr) : Sp := fun vs H Q E => ∃ (z : Str), vs = [.str z] ∧ sgB z = true ∧ z.length ≤ 2000 ∧ ∀ L xs H', H L = none → H' L = some (.lst xs) → All2 (LvT H') xs (lvAll z) → Same H H' → Q (.ref L) H'
theorem rg_vals (n : Nat) : rgV 0 (n : Int) = (List.range n).map iN := by
  unfold rgV
  rw [show ((n : Int) - 0).toNat = n by omega]
  apply List.map_congr_left
  intro i _
  show V.int (0 + (i : Int)) = V.int (i : Int)
  rw [Int.zero_add]
section
variable {P : Program} {w : World} {K : PySem.W.Frag} {mg : Str → Option Value} {base : Heap}
variable {PE cN : Addr}
abbrev sPText : Stmt := topS 10
theorem scPText : FnScope ["thing"] ["thing"] (defScope sPText) := ⟨rfl, rfl, rfl, by decide +kernel, rfl, by decide +kernel, by decide +kernel⟩
theorem ok_PText {f : Addr} {fd : FuncData} (F : Fun K "is_text" "is_text" sPText f fd) {tM : Tok} (gM : mg "MOST_SIGNS" = some (.int 2000 tM)) {fPSigns : Addr} {fdPSigns : FuncData} (DPSigns : Dk P w K mg base "is_signs" sPSigns ["thing"] 1 spSg fPSigns fdPSigns) (T : Glob mg) : FnOk P w K mg base CX0 2 f fd ["thing"] spTextY := by
  refine F.ok scPText (fun vs H Q E h => ?_) (fun cdv A outer s H vs Q E hr h => ?_)
  · obtain ⟨z, rfl, _⟩ := h
    rfl
  · refine ⟨_, (pss_one (ps_ret (pe_and (pe_call DPSigns.ok (hr.mono (by decide)) (by rfl) DPSigns.g DPSigns.F.kp DPSigns.b .nil pass0 (pa_cons (pv 0) pa_nil)) (pe_one (pe_cmpR op_le (pe_callB call_len (by rfl) T.len PySem.boot_len (pa_cons (pv 0) pa_nil)) (pe_glob (v := .int 2000) (by rfl) gM ⟨_, rfl⟩) (nomark _)))))), ?_⟩
    obtain ⟨z, rfl, hz, hl, q⟩ := h
    refine ⟨.str z, rfl, .str z, .str, rfl, .str z, (fun w e => by cases e; omega), _, rfl, ?_⟩
    refine ite2 (fun _ => ?_) (fun c => absurd hz c)
    refine ⟨.str z, rfl, .str z, z.length, rfl, ⟨len5 (by omega), rfl⟩, _, _, rfl, rfl, ?_⟩
    have e : decide ((z.length : Int) ≤ 2000) = true := decide_eq_true (by omega)
    show Q (.bl (decide ((z.length : Int) ≤ 2000))) H
    rw [e]
    exact q
abbrev sQNames : Stmt := topS 19
theorem scQNames : FnScope ["text", "begins", "begin", "behind"] ["text", "begins"] (defScope sQNames) := ⟨rfl, rfl, rfl, by decide +kernel, rfl, by decide +kernel, by decide +kernel⟩
theorem ok_QNames {f : Addr} {fd : FuncData} (F : Fun K "_names" "_names" sQNames f fd)   (T : Glob mg) : FnOk P w K mg base CX0 1 f fd ["text", "begins"] spNames := by
  refine F.ok scQNames (fun vs H Q E h => ?_) (fun cdv A outer s H vs Q E hr h => ?_)
  · obtain ⟨z, l, b, rfl, _⟩ := h
    rfl
  · refine ⟨_, (pss_one (ps_ret (pe_lc (own := [("begin", 2), ("behind", 3)]) (g := (gTup K 2 (gCons (gName 2) (gCons (gName 3) gNil)))) (by rfl) scQNames.nd (RZ.pi_zipA (by rfl) T.zip (pa_cons (pv 1) (pa_cons (pe_op op_cat (pe_slice sl_list (pv 1) (po_some pe_int) po_none) (pe_lst (pa_cons (pe_callB call_lenZ (by rfl) T.len PySem.boot_len (pa_cons (pv 0) pa_nil)) pa_nil))) pa_nil))) (blkOk_by (N := ["text", "begins", "begin", "behind"]) (sc := defScope sQNames) (by decide +kernel)) (fun _ _ _ _ _ => pg_tup (by rfl) (pgs_cons (pg_name (i := 2) scQNames.nd rfl (.inl rfl)) (pgs_cons (pg_name (i := 3) scQNames.nd rfl (.inl rfl)) pgs_nil))) (fun _ _ _ _ _ => pts_nil) (fun _ _ _ _ _ => (pe_slice sl_str (pv 0) (po_some (pv 2)) (po_some (pv 3))))))), ?_⟩
    obtain ⟨z, l, b, rfl, hl, lz, lb, q⟩ := h
    have s1 : (1 : Nat) ≤ sizeLine := by decide
    refine ⟨.ref l, rfl, .ref l, rfl, 1, rfl, l, _, rfl, sq_of hl, fun c nc => ?_⟩
    have kc := Same.new (o := .lst (cutV (b.map iN) (some 1) none)) nc
    have hc : upd H c (.lst (cutV (b.map iN) (some 1) none)) c = some (.lst ((b.drop 1).map iN)) := by
      rw [upd_same, cutV_from (by decide), List.map_drop]
      rfl
    revert kc hc
    generalize upd H c (.lst (cutV (b.map iN) (some 1) none)) = H1
    intro kc hc
    refine ⟨.str z, rfl, z, rfl, len5 (by omega), s1, fun d nd => ?_⟩
    have kd := Same.new (o := .lst [.int (z.length : Nat)]) nd
    have hd : upd H1 d (.lst [.int (z.length : Nat)]) d = some (.lst [iN z.length]) := upd_same
    revert kd hd
    generalize upd H1 d (.lst [.int (z.length : Nat)]) = H2
    intro kd hd
    refine ⟨c, d, _, _, rfl, rfl, kd _ _ hc, hd, by rw [List.length_map, List.length_drop]; show _ ≤ 16777216; have : [iN z.length].length = 1 := rfl; omega, fun e ne => ?_⟩
    have ke := Same.new (o := .lst ((b.drop 1).map iN ++ [iN z.length])) ne
    have he : upd H2 e (.lst ((b.drop 1).map iN ++ [iN z.length])) e = some (.lst ((b.drop 1 ++ [z.length]).map iN)) := by
      rw [upd_same, List.map_append]
      rfl
    revert ke he
    generalize upd H2 e (.lst ((b.drop 1).map iN ++ [iN z.length])) = H3
    intro ke he
    have k3 := (kc.trans kd).trans ke
    have hl3 := k3 _ _ hl
    refine ⟨l, e, _, _, rfl, .inl ⟨sq_of hl3, sq_of he, fun D nD => lc_it (walk_zip (K := K) (a := l) (b := e) (xs := b.map iN) (ys := (b.drop 1 ++ [z.length]).map iN) (n := b.length) (by rw [List.length_map, List.length_map, List.length_append, List.length_drop]; show _ = min _ (_ + 1); omega)) (fun i H' => Same H3 H' ∧ H' D = some (.lst (((namesAt z b).take i).map V.str))) ⟨Same.new nD, upd_same⟩ (fun i H' _ g => ⟨sq_of (g.1 _ _ hl3), sq_of (g.1 _ _ he)⟩) ?_ ?_⟩⟩
    · rintro i v H' H'' hi ⟨k4, hD⟩ ⟨t, y1, y2, rfl, nt, rfl, e1, e2⟩
      have e1 : (b.map iN)[i]? = some y1 := e1
      have e2 : ((b.drop 1 ++ [z.length]).map iN)[i]? = some y2 := e2
      rw [List.getElem?_map] at e1 e2
      obtain ⟨m1, hm1, rfl⟩ := Option.map_eq_some_iff.mp e1
      obtain ⟨m2, hm2, rfl⟩ := Option.map_eq_some_iff.mp e2
      have kt := Same.new (o := .tup [iN m1, iN m2]) nt
      refine ⟨t, [iN m1, iN m2], rfl, SqT.of upd_same, rfl, iN m1, [iN m2], rfl, iN m2, [], rfl, rfl, rfl, .str z, rfl, iN m1, rfl, (m1 : Int), rfl, iN m2, rfl, (m2 : Int), rfl, z, rfl, len5 (by omega), _, kt _ _ hD, ?_, sameAt (k4.trans kt) nD, ?_⟩
      · rw [List.length_map, List.length_take]
        show _ < 16777216
        omega
      · have ez : (namesAt z b)[i]? = some (cutZ z m1 m2) := List.getElem?_zipWith_eq_some.mpr ⟨m1, m2, hm1, hm2, rfl⟩
        rw [upd_same, take_succ' ez, List.map_append]
        rfl
    · rintro H' ⟨k4, hD⟩
      rw [List.take_of_length_le (by rw [namesAt_len]; exact Nat.le_refl _)] at hD
      exact q D H' (Same.free k3 nD) hD (k3.trans k4)
abbrev sQLevels : Stmt := topS 20
theorem scQLevels : FnScope ["text", "begins", "found", "number"] ["text"] (defScope sQLevels) := ⟨rfl, rfl, rfl, by decide +kernel, rfl, by decide +kernel, by decide +kernel⟩
theorem ok_QLevels {f : Addr} {fd : FuncData} (F : Fun K "_levels" "_levels" sQLevels f fd)  {fQGroups : Addr} {fdQGroups : FuncData} (DQGroups : Dk P w K mg base "_groups" sQGroups ["names"] 4 spGroupsL fQGroups fdQGroups) {fQNames : Addr} {fdQNames : FuncData} (DQNames : Dk P w K mg base "_names" sQNames ["text", "begins"] 1 spNames fQNames fdQNames) (T : Glob mg) : FnOk P w K mg base CX0 5 f fd ["text"] spLevels := by
  refine F.ok scQLevels (fun vs H Q E h => ?_) (fun cdv A outer s H vs Q E hr h => ?_)
  · obtain ⟨z, rfl, _⟩ := h
    rfl
  · refine ⟨_, (pss_cons (ps_set (i := 1) scQLevels.nd rfl (.inr rfl) (pe_listRg rfl (by rfl) T.list (prg_1 (by rfl) T.range (pe_callB call_lenZ (by rfl) T.len PySem.boot_len (pa_cons (pv 0) pa_nil)))))
      (pss_cons (ps_set (i := 2) scQLevels.nd rfl (.inl rfl) (pe_lst (pa_cons (pv 1) pa_nil)))
      (pss_cons (ps_while PassesOwn.never (pt_cmpR op_gt (pe_callB call_len_seq (by rfl) T.len PySem.boot_len (pa_cons (pv 1) pa_nil)) pe_int (nomark _))
      (pss_cons (ps_set (i := 1) scQLevels.nd rfl (.inr rfl) (pe_lc (own := [("number", 3)]) (g := gName 3) (by rfl) scQLevels.nd (pi_list (pe_call DQGroups.ok (hr.mono (by decide)) (by rfl) DQGroups.g DQGroups.F.kp DQGroups.b .nil pass0 (pa_cons (pe_call DQNames.ok (hr.mono (by decide)) (by rfl) DQNames.g DQNames.F.kp DQNames.b .nil pass0 (pa_cons (pv 0) (pa_cons (pv 1) pa_nil))) pa_nil))) (blkOk_by (N := ["text", "begins", "found", "number"]) (sc := defScope sQLevels) (by decide +kernel)) (fun _ _ _ _ _ => pg_name (i := 3) scQLevels.nd rfl (.inl rfl)) (fun _ _ _ _ _ => pts_nil) (fun _ _ _ _ _ => (pe_ix (r := rIxL K) ix_list (pv 1) (pv 3) (fun _ _ => rfl)))))
        (pss_one (ps_expr (pe_bm PySem.F.plainAttrs_list PySem.F.slot_list_append PySem.F.type_list_append mt_append (pv 2) (pa_cons (pv 1) pa_nil))))))
      (pss_one (ps_ret (pv 2)))))), ?_⟩
    obtain ⟨z, rfl, hz, lz, q⟩ := h
    have s1 : (1 : Nat) ≤ sizeLine := by decide
    refine ⟨.str z, rfl, z, rfl, len5 (by omega), _, rfl, .of_le (by omega) (by omega) (by omega) (by omega), fun l nl => ?_⟩
    have kl := Same.new (o := .lst (rgV 0 (z.length : Nat))) nl
    have hl : upd H l (.lst (rgV 0 (z.length : Nat))) l = some (.lst ((List.range z.length).map iN)) := by rw [upd_same, rg_vals]
    revert kl hl
    generalize upd H l (.lst (rgV 0 (z.length : Nat))) = H1
    intro kl hl
    refine ⟨.ref l, rfl, s1, fun L nL => ?_⟩
    have kL := Same.new (o := .lst [.ref l]) nL
    have hL : upd H1 L (.lst [.ref l]) L = some (.lst [.ref l]) := upd_same
    have nlL : l ≠ L := fun w => by rw [w, nL] at hl; cases hl
    have nLH : H L = none := Same.free kl nL
    revert kL hL
    generalize upd H1 L (.lst [.ref l]) = H2
    intro kL hL
    have k2 := kl.trans kL
    have hl2 := kL _ _ hl
    refine ⟨fun m σ H' => ∃ (b : List Nat) (l : Addr) (xs : List V) (done : List (List Nat)), m = b.length ∧ σ = [some (.str z), some (.ref l), some (.ref L), none] ∧ Begs z b ∧ l ≠ L ∧ H' l = some (.lst (b.map iN)) ∧ H' L = some (.lst xs) ∧ All2 (LvL L H') xs done ∧ done ++ lvsN z b = lvAll z ∧ xs.length + b.length ≤ z.length + 1 ∧ Same H H', ⟨_, List.range z.length, l, [.ref l], [List.range z.length], rfl, rfl, begs0 z, nlL, hl2, hL, .cons ⟨l, rfl, nlL, hl2⟩ .nil, rfl, by rw [List.length_range]; show 1 + _ ≤ _; omega, k2⟩, ?_⟩
    rintro m σ H3 ⟨b, l, xs, done, rfl, rfl, hb, nl, hl, hL, hall, hd, hlen, k3⟩
    refine ⟨.ref l, rfl, l, _, rfl, .inl (sq_of hl), _, _, rfl, rfl, _, rfl, ?_⟩
    have lb : (b.map iN).length = b.length := List.length_map ..
    refine ite2 (fun c => ?_) (fun c => ?_)
    · have c' : 1 < b.length := by
        have := of_decide_eq_true c
        rw [lb] at this
        omega
      have fb := hb.few
      refine ⟨_, fun σ' H' w => w, ?_⟩
      refine ⟨.str z, rfl, .ref l, rfl, z, l, b, rfl, hl, lz, by omega, fun n H4 nn hn k4 => ?_⟩
      refine ⟨n, namesAt z b, rfl, hn, namesAt_nms hz lz hb, fun g H5 ng hg k5 => ?_⟩
      have k45 := k4.trans k5
      have lg : (groupsN (namesAt z b)).length ≤ b.length := by
        have := groupsTo_len (namesAt z b) (namesAt z b).length
        rw [namesAt_len] at this
        unfold groupsN
        rw [namesAt_len]
        exact this
      refine ⟨g, rfl, ⟨_, sq_of hg⟩, fun D nD => lc_list (xs := (groupsN (namesAt z b)).map iN) (fun i H6 => Same H5 H6 ∧ H6 D = some (.lst ((((groupsN (namesAt z b)).take i).map (b.getD · 0)).map iN))) ⟨Same.new nD, upd_same⟩ (fun i H6 _ w => sq_of (w.1 _ _ hg)) ?_ ?_⟩
      · rintro i v H6 hv ⟨k6, hD⟩
        rw [List.getElem?_map] at hv
        obtain ⟨y, hy, rfl⟩ := Option.map_eq_some_iff.mp hv
        have ly : y < b.length := by
          have := groups_lt (List.mem_of_getElem? hy)
          rw [namesAt_len] at this
          exact this
        have li := (List.getElem?_eq_some_iff.mp hy).1
        refine ⟨rfl, .ref l, rfl, iN y, rfl, l, _, _, _, rfl, rfl, sq_of ((k45.trans k6) _ _ hl), iN_at ly, _, hD, ?_, sameAt k6 nD, ?_⟩
        · rw [List.length_map, List.length_map, List.length_take]
          show _ < 16777216
          omega
        · rw [upd_same, take_succ' hy, List.map_append, List.map_append]
          rfl
      · rintro H6 ⟨k6, hD⟩
        rw [List.length_map, List.take_of_length_le (Nat.le_refl _)] at hD
        have k46 := k45.trans k6
        have hL6 := k46 _ _ hL
        have nDL : D ≠ L := fun w => by have := k45 _ _ hL; rw [← w, nD] at this; cases this
        have nx := next_less (z := z) c'
        refine ⟨.ref L, rfl, .inl ⟨rfl, _, sq_of hL6⟩, .ref D, rfl, L, _, _, rfl, rfl, hL6, by show _ < 16777216; omega, ?_⟩
        have kU : ∀ c o, c ≠ L → H6 c = some o → upd H6 L (.lst (xs ++ [.ref D])) c = some o := fun c o n w => by
          rw [upd_ne n]
          exact w
        refine ⟨_, nx, nextB z b, D, xs ++ [.ref D], done ++ [nextB z b], rfl, rfl, next_begs hb, nDL, kU _ _ nDL hD, upd_same, All2.snoc (All2.imp (fun v r w => ?_) hall) ⟨D, rfl, nDL, kU _ _ nDL hD⟩, ?_, ?_, fun c o w => ?_⟩
        · obtain ⟨c, e1, e2, e3⟩ := w
          exact ⟨c, e1, e2, kU _ _ e2 (k46 _ _ e3)⟩
        · rw [List.append_assoc]
          rw [lvs_go c'] at hd
          exact hd
        · rw [List.length_append]
          have : [V.ref D].length = 1 := rfl
          omega
        · have ne : c ≠ L := fun y => by rw [y, nLH] at w; cases w
          exact kU _ _ ne (k46 _ _ (k3 _ _ w))
    · have c' : ¬ 1 < b.length := fun w => c (decide_eq_true (by rw [lb]; omega))
      rw [lvs_no c', List.append_nil] at hd
      subst hd
      exact ⟨_, rfl, q L xs H3 hL hall (by omega) k3⟩
end
end LawK
set_option maxHeartbeats 4000000
namespace LawK
open PySem PySem.Spec PyProof.Rows L2 Ev
def spLikeL : Sp := fun vs H Q _ => ∃ (a : Addr) (ns : List Str) (k : Nat), vs = [.ref a, iN k] ∧ H a = some (.lst (ns.map V.str)) ∧ ns.length ≤ 3000 ∧ k < ns.length ∧ Q (.bl (!alB ns k)) H
section
variable {P : Program} {w : World} {K : PySem.W.Frag} {mg : Str → Option Value} {base : Heap}
theorem ok_LCoins {f : Addr} {fd : FuncData} (F : Fun K "_law_coins" "_law_coins" sCoins f fd)  {fNameNumber : Addr} {fdNameNumber : FuncData} (DNameNumber : Dk P w K mg base "_law_name_number" sNameNumber ["name"] 1 spNameNumber fNameNumber fdNameNumber) {fUnlikeBit : Addr} {fdUnlikeBit : FuncData} (DUnlikeBit : Dk P w K mg base "_law_unlike_bit" sUnlikeBit ["one", "other"] 1 spUnlikeBit fUnlikeBit fdUnlikeBit) (T : Glob mg) : FnOk P w K mg base CX0 2 f fd ["names"] spCoinsL := by
  refine F.ok scCoins (fun vs H Q E h => ?_) (fun cdv A outer s H vs Q E hr h => ?_)
  · obtain ⟨a, ns, rfl, _⟩ := h
    rfl
  · refine ⟨_, (pss_cons (ps_setLc (i := 1) (own := [("name", 5)]) (g := gName 5) (by rfl) scCoins.nd rfl rfl (sw_true rfl rfl rfl (by decide +kernel)) (pi_list (pv 0)) (blkOk_by (N := ["names", "row", "turn", "later", "k", "name"]) (sc := defScope sCoins) (by decide +kernel)) (fun _ _ _ _ _ => pg_name (i := 5) scCoins.nd rfl (.inl rfl)) (fun _ _ _ _ _ => pts_nil) (fun _ _ _ _ _ => (pe_call DNameNumber.ok (hr.mono (by decide)) (by rfl) DNameNumber.g DNameNumber.F.kp DNameNumber.b .nil pass0 (pa_cons (pv 5) pa_nil))))
      (pss_cons (ps_for PassesOwn.never rfl (pi_range1 (by rfl) T.range (pa_cons pe_int pa_nil)) (pg_name (i := 2) scCoins.nd rfl (.inl rfl))
      (pss_cons (ps_set (i := 3) scCoins.nd rfl (.inl rfl) (pe_lst (pa_cons (pe_op op_mod (pe_callTy call_int1 (by rfl) T.int (by decide +kernel) (pa_cons (pe_ix ix_list (pv 1) pe_int (fun _ _ => rfl)) pa_nil)) pe_int) pa_nil)))
        (pss_cons (ps_for PassesOwn.never rfl (pi_range2 (by rfl) T.range (pa_cons pe_int (pa_cons (pe_callB call_len_seq (by rfl) T.len PySem.boot_len (pa_cons (pv 1) pa_nil)) pa_nil))) (pg_name (i := 4) scCoins.nd rfl (.inl rfl))
        (pss_one (ps_expr (pe_bm PySem.F.plainAttrs_list PySem.F.slot_list_append PySem.F.type_list_append mt_append (pv 3) (pa_cons (pe_call DUnlikeBit.ok (hr.mono (by decide)) (by rfl) DUnlikeBit.g DUnlikeBit.F.kp DUnlikeBit.b .nil pass0 (pa_cons (pe_ix ix_list (pv 1) (pe_op op_sub (pv 4) pe_int) (fun _ _ => rfl)) (pa_cons (pe_ix ix_list (pv 1) (pv 4) (fun _ _ => rfl)) pa_nil))) pa_nil)))))
        (pss_one (ps_set (i := 1) scCoins.nd rfl (.inl rfl) (pv 3))))))
      (pss_one (ps_ret (pv 1))))), ?_⟩
    obtain ⟨a, ns, rfl, ha, hn, ne, hu, q⟩ := h
    have few := hn.few
    refine ⟨.ref a, rfl, a, rfl, ⟨_, sq_of ha⟩, fun D nD => lc_list (xs := ns.map V.str) (fun i H1 => Same H H1 ∧ H1 D = some (.lst (((ns.map numZ).take i).map iN))) ⟨Same.new nD, upd_same⟩ (fun i H1 _ g => sq_of (g.1 _ _ ha)) ?_ ?_⟩
    · rintro i v H1 hv ⟨k1, hD1⟩
      rw [List.getElem?_map] at hv
      obtain ⟨z, hz, rfl⟩ := Option.map_eq_some_iff.mp hv
      have li := (List.getElem?_eq_some_iff.mp hz).1
      have wz := hn.word z (List.mem_of_getElem? hz)
      refine ⟨rfl, .str z, rfl, z, rfl, wz.1, wz.2.2, _, hD1, ?_, sameAt k1 nD, ?_⟩
      · rw [List.length_map, List.length_take]
        show _ < 16777216
        omega
      · rw [upd_same, take_succ' (x := numZ z) (by rw [List.getElem?_map, hz]; rfl), List.map_append]
        rfl
    rintro H1 ⟨k1, hD1⟩
    rw [List.take_of_length_le (by rw [List.length_map, List.length_map]; exact Nat.le_refl _)] at hD1
    have r0 : Row (ns.map numZ) := ⟨fun e => ne (List.map_eq_nil_iff.mp e), nums_unl hn hu, by rw [List.length_map]; exact few⟩
    have b0 := nums_big hn
    refine ⟨5, rfl, by decide, by decide, for_range (fun i σ H2 => ∃ (u1 u2 u3 : Option V) (l : Addr), σ = [some (.ref a), some (.ref l), u1, u2, u3, none] ∧ H l = none ∧ H2 l = some (.lst ((rounds i (ns.map numZ)).map iN)) ∧ Same H H2) ⟨none, none, none, D, rfl, nD, hD1, k1⟩ ?_ ?_⟩
    · rintro i σ H2 hi ⟨u1, u2, u3, l, rfl, nl, hl, k2⟩
      have rr := rounds_row i r0
      have bb := rounds_big i r0 b0
      rw [rounds_succ]
      revert hl rr bb
      generalize rounds i (ns.map numZ) = r
      intro hl rr bb
      cases r with
      | nil => exact absurd rfl rr.ne
      | cons x r =>
      have s1 : (1 : Nat) ≤ sizeLine := by decide
      have fr := rr.few
      have fr2 : r.length + 1 ≤ 3000 := fr
      refine ⟨.ref l, rfl, l, _, 0, .int (x : Int), rfl, rfl, sq_of hl, atI_nat (j := 0) rfl, .inl ⟨_, rfl, _, _, rfl, rfl, by show (0 : Int) < 2; decide, s1, fun D3 nD3 => ?_⟩⟩
      have kD := Same.new (o := .lst [.int ((x : Int) % 2)]) nD3
      have hD3 : upd H2 D3 (.lst [.int ((x : Int) % 2)]) D3 = some (.lst (((x % 2 :: (zipN (x :: r)).take 0) : List Nat).map iN)) := by
        rw [upd_same]
        rfl
      revert kD hD3
      generalize upd H2 D3 (.lst [.int ((x : Int) % 2)]) = H3
      intro kD hD3
      have nDH : H D3 = none := Same.free k2 nD3
      have nlD : l ≠ D3 := fun z => by rw [z, nD3] at hl; cases hl
      refine ⟨.ref l, rfl, l, _, rfl, .inl (sq_of (kD _ _ hl)), _, _, rfl, ?_⟩
      have lenm : ((x :: r).map iN).length = r.length + 1 := by rw [List.length_map]; rfl
      rw [lenm]
      have e0 : (((r.length + 1 : Nat) : Int) - 1).toNat = r.length := by omega
      refine ⟨⟨by omega, by omega, by omega, by omega⟩, ?_⟩
      rw [e0]
      refine for_range (fun j σ H4 => ∃ (u3 : Option V), σ = [some (.ref a), some (.ref l), some (.int (0 + (i : Int))), some (.ref D3), u3, none] ∧ (∀ c u, c ≠ D3 → H3 c = some u → H4 c = some u) ∧ H4 D3 = some (.lst ((x % 2 :: (zipN (x :: r)).take j).map iN))) ⟨u3, rfl, fun c u _ e => e, hD3⟩ ?_ ?_
      · rintro j σ H4 hj ⟨u3, rfl, k4, hD4⟩
        have g1 : (x :: r)[j]? = some ((x :: r).getD j 0) := get1 (by show j < r.length + 1; omega)
        have g2 : (x :: r)[j + 1]? = some ((x :: r).getD (j + 1) 0) := get1 (by show j + 1 < r.length + 1; omega)
        have hl4 := k4 _ _ nlD (kD _ _ hl)
        have i1 : atI ((x :: r).map iN) ((1 : Int) + (j : Int) - 1) = some (iN ((x :: r).getD j 0)) := by
          rw [show (1 : Int) + (j : Int) - 1 = (j : Int) by omega]
          exact iN_at (by show j < r.length + 1; omega)
        have i2 : atI ((x :: r).map iN) ((1 : Int) + (j : Int)) = some (iN ((x :: r).getD (j + 1) 0)) := by
          rw [show (1 : Int) + (j : Int) = ((j + 1 : Nat) : Int) by omega]
          exact iN_at (by show j + 1 < r.length + 1; omega)
        have lz := zipN_len (x :: r)
        refine ⟨.ref D3, rfl, .inl ⟨rfl, _, sq_of hD4⟩, .ref l, rfl, .int ((1 : Int) + (j : Int)), rfl, _, _, rfl, rfl, l, _, _, _, rfl, rfl, sq_of hl4, i1, .ref l, rfl, .int ((1 : Int) + (j : Int)), rfl, l, _, _, _, rfl, rfl, sq_of hl4, i2, (x :: r).getD j 0, (x :: r).getD (j + 1) 0, rfl, rr.unl j _ _ g1 g2, bb _ (List.mem_of_getElem? g1), bb _ (List.mem_of_getElem? g2), D3, _, _, rfl, rfl, hD4, ?_, ?_⟩
        · rw [List.length_map, List.length_cons, List.length_take]
          show _ < 16777216
          omega
        · refine ⟨_, rfl, fun c u nc hc => ?_, ?_⟩
          · rw [upd_ne nc]
            exact k4 _ _ nc hc
          · rw [upd_same, take_succ' (zipN_get (x :: r) j _ _ g1 g2)]
            simp [iN]
      · rintro σ H4 ⟨u3, rfl, k4, hD4⟩
        have e : (zipN (x :: r)).take r.length = zipN (x :: r) := List.take_of_length_le (by rw [zipN_len]; exact Nat.le_refl _)
        rw [e] at hD4
        refine ⟨.ref D3, rfl, _, _, _, D3, rfl, nDH, hD4, fun c u hc => k4 _ _ (fun z => by rw [z, nDH] at hc; cases hc) (kD _ _ (k2 _ _ hc))⟩
    · rintro σ H2 ⟨u1, u2, u3, l, rfl, nl, hl, k2⟩
      exact ⟨_, rfl, q l H2 nl hl k2⟩
theorem ok_LLike {f : Addr} {fd : FuncData} (F : Fun K "_law_like" "_law_like" sLike f fd)   (T : Glob mg) : FnOk P w K mg base CX0 1 f fd ["names", "k"] spLikeL := by
  refine F.ok scLike (fun vs H Q E h => ?_) (fun cdv A outer s H vs Q E hr h => ?_)
  · obtain ⟨a, ns, k, rfl, _⟩ := h
    rfl
  · refine ⟨_, (pss_cons (ps_if (PW.pt (pw_and (pt_cmpR op_gt (pv 1) pe_int (nomark _)) (pw_and1 (pt_cmpR op_eq (pe_ix ix_list (pv 0) (pe_op op_sub (pv 1) pe_int) (fun _ _ => rfl)) (pe_ix ix_list (pv 0) (pv 1) (fun _ _ => rfl)) (nomark _)))))
      (pss_one (ps_ret pe_bl))
      pss_nil)
      (pss_one (ps_ret (pe_and (pe_cmpR op_lt (pe_op op_add (pv 1) pe_int) (pe_callB call_len_seq (by rfl) T.len PySem.boot_len (pa_cons (pv 0) pa_nil)) (nomark _)) (pe_one (pe_cmpR op_eq (pe_ix ix_list (pv 0) (pe_op op_add (pv 1) pe_int) (fun _ _ => rfl)) (pe_ix ix_list (pv 0) (pv 1) (fun _ _ => rfl)) (nomark _))))))), ?_⟩
    obtain ⟨a, ns, k, rfl, ha, few, hk, q⟩ := h
    have fin : ∀ b, b = (!alB ns k) → Q (.bl b) H := fun b e => by
      rw [e]
      exact q
    have lst : newB ns k = true → ∀ b, b = (decide (k + 1 < ns.length) && decide (V.str (nmA ns (k + 1)) = V.str (nmA ns k))) → Q (.bl b) H := fun h b hb => fin b (by
      rw [hb]
      unfold alB
      rw [h, Bool.true_and]
      by_cases c : k + 1 < ns.length
      · rw [decide_eq_true c, decide_eq_false (show ¬ k + 1 = ns.length by omega), Bool.true_and, Bool.false_or, newB_pos (k := k + 1) (by omega), Bool.not_not]
        rfl
      · rw [decide_eq_false c, decide_eq_true (show k + 1 = ns.length by omega)]
        rfl)
    have ep : (k : Int) + 1 = ((k + 1 : Nat) : Int) := rfl
    refine ⟨iN k, rfl, _, _, rfl, rfl, _, rfl, ite2 (fun c => ?_) (fun c => ?_)⟩
    · have c' : 0 < k := Int.ofNat_lt.mp (of_decide_eq_true c)
      have em : (k : Int) - 1 = ((k - 1 : Nat) : Int) := by omega
      refine ⟨.ref a, rfl, iN k, rfl, _, _, rfl, rfl, a, _, _, .str (nmA ns (k - 1)), rfl, rfl, sq_of ha, by
        rw [em]
        exact nm_at (by omega), .ref a, rfl, iN k, rfl, a, _, _, .str (nmA ns k), rfl, rfl, sq_of ha, nm_at hk, rfl, _, rfl, ite2 (fun g => ?_) (fun g => ?_)⟩
      · have g' := V.str.inj (of_decide_eq_true g)
        refine fin true ?_
        unfold alB
        rw [newB_pos (by omega), decide_eq_true (congrArg V.str g'.symm)]
        rfl
      · have hnew : newB ns k = true := by
          rw [newB_pos (by omega), decide_eq_false fun z => g (decide_eq_true z.symm)]
          rfl
        have lm : (ns.map V.str).length = ns.length := List.length_map ..
        refine ⟨iN k, rfl, _, _, rfl, rfl, .ref a, rfl, a, _, rfl, .inl (sq_of ha), _, _, rfl, rfl, _, rfl, ite2 (fun d => ?_) (fun d => ?_)⟩
        · have d' : k + 1 < ns.length := by
            have := of_decide_eq_true d
            rw [lm] at this
            omega
          refine ⟨.ref a, rfl, iN k, rfl, _, _, rfl, rfl, a, _, _, .str (nmA ns (k + 1)), rfl, rfl, sq_of ha, nm_at d', .ref a, rfl, iN k, rfl, a, _, _, _, rfl, rfl, sq_of ha, nm_at hk, rfl, lst hnew _ ?_⟩
          rw [decide_eq_true d', Bool.true_and]
        · have d' : ¬ k + 1 < ns.length := fun z => d (decide_eq_true (by rw [lm]; omega))
          refine lst hnew _ ?_
          rw [decide_eq_false d', Bool.false_and]
    · have c' : k = 0 := Classical.byContradiction fun z => c (decide_eq_true (by omega))
      have hnew : newB ns k = true := by
        rw [c']
        rfl
      have lm : (ns.map V.str).length = ns.length := List.length_map ..
      refine ⟨iN k, rfl, _, _, rfl, rfl, .ref a, rfl, a, _, rfl, .inl (sq_of ha), _, _, rfl, rfl, _, rfl, ite2 (fun d => ?_) (fun d => ?_)⟩
      · have d' : k + 1 < ns.length := by
          have := of_decide_eq_true d
          rw [lm] at this
          omega
        refine ⟨.ref a, rfl, iN k, rfl, _, _, rfl, rfl, a, _, _, .str (nmA ns (k + 1)), rfl, rfl, sq_of ha, nm_at d', .ref a, rfl, iN k, rfl, a, _, _, _, rfl, rfl, sq_of ha, nm_at hk, rfl, lst hnew _ ?_⟩
        rw [decide_eq_true d', Bool.true_and]
      · have d' : ¬ k + 1 < ns.length := fun z => d (decide_eq_true (by rw [lm]; omega))
        refine lst hnew _ ?_
        rw [decide_eq_false d', Bool.false_and]
theorem ok_LGroups {f : Addr} {fd : FuncData} (F : Fun K "_law_groups" "_law_groups" sGroups f fd)  {fCoins : Addr} {fdCoins : FuncData} (DCoins : Dk P w K mg base "_law_coins" sCoins ["names"] 2 spCoinsL fCoins fdCoins) {fLike : Addr} {fdLike : FuncData} (DLike : Dk P w K mg base "_law_like" sLike ["names", "k"] 1 spLikeL fLike fdLike) (T : Glob mg) : FnOk P w K mg base CX0 3 f fd ["names"] spGroupsL := by
  refine F.ok scGroups (fun vs H Q E h => ?_) (fun cdv A outer s H vs Q E hr h => ?_)
  · obtain ⟨a, ns, rfl, _⟩ := h
    rfl
  · refine ⟨_, (pss_cons (ps_set (i := 1) scGroups.nd rfl (.inr rfl) (pe_lc (own := [("k", 4)]) (g := gName 4) (by rfl) scGroups.nd (pi_range1 (by rfl) T.range (pa_cons (pe_callB call_len_seq (by rfl) T.len PySem.boot_len (pa_cons (pv 0) pa_nil)) pa_nil)) (blkOk_by (N := ["names", "like", "found", "begin", "k", "behind", "row", "here", "j"]) (sc := defScope sGroups) (by decide +kernel)) (fun _ _ _ _ _ => pg_name (i := 4) scGroups.nd rfl (.inl rfl)) (fun _ _ _ _ _ => pts_nil) (fun _ _ _ _ _ => (pe_call DLike.ok (hr.mono (by decide)) (by rfl) DLike.g DLike.F.kp DLike.b .nil pass0 (pa_cons (pv 0) (pa_cons (pv 4) pa_nil))))))
      (pss_cons (ps_set (i := 2) scGroups.nd rfl (.inl rfl) (pe_lst pa_nil))
      (pss_cons (ps_set (i := 3) scGroups.nd rfl (.inl rfl) pe_int)
      (pss_cons (ps_for PassesOwn.never rfl (pi_range1 (by rfl) T.range (pa_cons (pe_callB call_len_seq (by rfl) T.len PySem.boot_len (pa_cons (pv 0) pa_nil)) pa_nil)) (pg_name (i := 4) scGroups.nd rfl (.inl rfl))
      (pss_one (ps_if (pt_val (pe_ix ix_list (pv 1) (pv 4) (fun _ _ => rfl)))
        (pss_one (ps_if (PW.pt (pw_or (pt_cmpR op_eq (pv 4) pe_int (nomark _)) (pw_or1 (pt_cmpR op_ne (pe_ix ix_list (pv 0) (pe_op op_sub (pv 4) pe_int) (fun _ _ => rfl)) (pe_ix ix_list (pv 0) (pv 4) (fun _ _ => rfl)) (nomark _)))))
          (pss_one (ps_expr (pe_bm PySem.F.plainAttrs_list PySem.F.slot_list_append PySem.F.type_list_append mt_append (pv 2) (pa_cons (pv 4) pa_nil))))
          pss_nil))
        (pss_one (ps_if (PW.pt (pw_or (pt_cmpR op_eq (pv 4) pe_int (nomark _)) (pw_or1 (pt_val (pe_ix ix_list (pv 1) (pe_op op_sub (pv 4) pe_int) (fun _ _ => rfl))))))
          (pss_cons (ps_expr (pe_bm PySem.F.plainAttrs_list PySem.F.slot_list_append PySem.F.type_list_append mt_append (pv 2) (pa_cons (pv 4) pa_nil)))
            (pss_cons (ps_set (i := 3) scGroups.nd rfl (.inl rfl) (pv 4))
            (pss_cons (ps_set (i := 5) scGroups.nd rfl (.inl rfl) (pe_op op_cat (pe_lc (own := [("j", 8)]) (g := gName 8) (by rfl) scGroups.nd (pi_range2 (by rfl) T.range (pa_cons (pv 4) (pa_cons (pe_callB call_len_seq (by rfl) T.len PySem.boot_len (pa_cons (pv 0) pa_nil)) pa_nil))) (blkOk_by (N := ["names", "like", "found", "begin", "k", "behind", "row", "here", "j"]) (sc := defScope sGroups) (by decide +kernel)) (fun _ _ _ _ _ => pg_name (i := 8) scGroups.nd rfl (.inl rfl)) (fun _ _ _ _ _ => (pts_one (pt_val (pe_ix (r := rIxL K) ix_list (pv 1) (pv 8) (fun _ _ => rfl))))) (fun _ _ _ _ _ => (pv 8))) (pe_lst (pa_cons (pe_callB call_len_seq (by rfl) T.len PySem.boot_len (pa_cons (pv 0) pa_nil)) pa_nil))))
            (pss_one (ps_set (i := 6) scGroups.nd rfl (.inl rfl) (pe_call DCoins.ok (hr.mono (by decide)) (by rfl) DCoins.g DCoins.F.kp DCoins.b .nil pass0 (pa_cons (pe_slice sl_list (pv 0) (po_some (pv 4)) (po_some (pe_ix ix_list (pv 5) pe_int (fun _ _ => rfl)))) pa_nil)))))))
          (pss_one (ps_if (pt_cmpR op_lt (pe_op op_add (pv 4) pe_int) (pe_ix ix_list (pv 5) pe_int (fun _ _ => rfl)) (nomark _))
            (pss_cons (ps_set (i := 7) scGroups.nd rfl (.inl rfl) (pe_op op_sub (pv 4) (pv 3)))
              (pss_one (ps_if (PW.pt (pw_and (pt_cmpR op_lt (pe_ix ix_list (pv 6) (pe_op op_sub (pv 7) pe_int) (fun _ _ => rfl)) (pe_ix ix_list (pv 6) (pv 7) (fun _ _ => rfl)) (nomark _)) (pw_and1 (pt_cmpR op_gt (pe_ix ix_list (pv 6) (pv 7) (fun _ _ => rfl)) (pe_ix ix_list (pv 6) (pe_op op_add (pv 7) pe_int) (fun _ _ => rfl)) (nomark _)))))
              (pss_one (ps_expr (pe_bm PySem.F.plainAttrs_list PySem.F.slot_list_append PySem.F.type_list_append mt_append (pv 2) (pa_cons (pv 4) pa_nil))))
              pss_nil)))
            pss_nil)))))))
      (pss_one (ps_ret (pv 2))))))), ?_⟩
    obtain ⟨a, ns, rfl, ha, hn, q⟩ := h
    have few := hn.few
    refine ⟨.ref a, rfl, a, _, rfl, .inl (sq_of ha), ?_⟩
    rw [List.length_map]
    refine ⟨_, rfl, by omega, by omega, fun D nD => lc_range (fun j H1 => Same H H1 ∧ H1 D = some (.lst (likL ns j))) ⟨Same.new nD, upd_same⟩ ?_ ?_⟩
    · rintro j H1 hj ⟨k1, hD1⟩
      have hj2 : j < ns.length := by omega
      have z0 : (0 : Int) + (j : Int) = (j : Int) := Int.zero_add _
      rw [z0]
      refine ⟨rfl, .ref a, rfl, .int (j : Int), rfl, a, ns, j, rfl, k1 _ _ ha, few, hj2, _, hD1, ?_, sameAt k1 nD, ?_⟩
      · unfold likL
        rw [bl_len]
        show _ < 16777216
        omega
      · unfold likL
        rw [upd_same, bl_succ]
        rfl
    rintro H1 ⟨k1, hD1⟩
    rw [show (((ns.length : Nat) : Int)).toNat = ns.length from Int.toNat_natCast _] at hD1
    refine ⟨by show 0 ≤ sizeLine; decide, fun L nL => ?_⟩
    have k3 := Same.new (o := .lst []) nL
    have kH := k1.trans k3
    have hDa := k3 _ _ hD1
    have haa := kH _ _ ha
    have hL0 : upd H1 L (.lst []) L = some (.lst ((groupsTo ns 0).map iN)) := upd_same
    have nLH : H L = none := Same.free k1 nL
    have nDL : D ≠ L := fun z => by rw [z, nL] at hD1; cases hD1
    have naL : a ≠ L := fun z => by rw [z, nLH] at ha; cases ha
    revert k3 kH hDa haa hL0
    generalize upd H1 L (.lst []) = H3
    intro k3 kH hDa haa hL0
    refine ⟨.ref a, rfl, a, _, rfl, .inl (sq_of haa), ?_⟩
    rw [List.length_map]
    refine ⟨_, rfl, by omega, by omega, for_range (fun i σ H4 => ∃ (bg : Int) (u4 u5 u6 u7 : Option V), σ = [some (.ref a), some (.ref D), some (.ref L), some (.int bg), u4, u5, u6, u7, none] ∧ (∀ c o, c ≠ L → H3 c = some o → H4 c = some o) ∧ H4 L = some (.lst ((groupsTo ns i).map iN)) ∧ (0 < i → alB ns (i - 1) = true → RowAt ns L H4 (i - 1) bg u5 u6)) ⟨0, none, none, none, none, rfl, fun c o _ e => e, hL0, fun h => absurd h (by decide)⟩ ?_ ?_⟩
    · rintro i σ H4 hi ⟨bg, u4, u5, u6, u7, rfl, k4, hL4, hrow⟩
      have hi2 : i < ns.length := by omega
      have z0 : (0 : Int) + (i : Int) = (i : Int) := Int.zero_add _
      rw [z0]
      have hDn := sq_of (K := K) (k4 _ _ nDL hDa)
      have ha4 := k4 _ _ naL haa
      have lg := groupsTo_len ns i
      have app : ∀ (H5 : Hp), H5 L = some (.lst ((groupsTo ns i).map iN)) → begB ns i = true → upd H5 L (.lst ((groupsTo ns i).map iN ++ [.int (i : Int)])) L = some (.lst ((groupsTo ns (i + 1)).map iN)) := fun H5 h e => by
        rw [upd_same, groupsTo_succ, e, if_pos rfl, List.map_append]
        rfl
      have stay : begB ns i = false → groupsTo ns (i + 1) = groupsTo ns i := fun e => by
        rw [groupsTo_succ, e, if_neg (by decide), List.append_nil]
      have szL : ((groupsTo ns i).map iN).length < sizeLine := by
        rw [List.length_map]
        show _ < 16777216
        omega
      refine ⟨.ref D, rfl, .int (i : Int), rfl, D, _, _, .bl (nal ns i), rfl, rfl, hDn, bl_at hi2, _, rfl, ite2 (fun c => ?_) (fun c => ?_)⟩
      · have al : alB ns i = false := by
          have c' : (!alB ns i) = true := c
          simpa using c'
        have bb : begB ns i = newB ns i := by
          unfold begB
          rw [if_neg (by rw [al]; decide)]
        have nrow : ∀ (H5 : Hp) (u4 u5 u6 : Option V), 0 < i + 1 → alB ns (i + 1 - 1) = true → RowAt ns L H5 (i + 1 - 1) bg u5 u6 := fun H5 u4 u5 u6 _ h => by
          rw [show i + 1 - 1 = i from rfl, al] at h
          cases h
        have yes : newB ns i = true → _ := fun h : newB ns i = true => app H4 hL4 (bb.trans h)
        refine ⟨.int (i : Int), rfl, rfl, _, rfl, ite2 (fun d => ?_) (fun d => ?_)⟩
        · have d' : i = 0 := by
            have := V.int.inj (of_decide_eq_true d)
            omega
          refine ⟨.ref L, rfl, .inl ⟨rfl, _, sq_of hL4⟩, .int (i : Int), rfl, L, _, _, rfl, rfl, hL4, szL, ?_⟩
          exact ⟨bg, _, _, _, _, rfl, fun c o n h => by rw [upd_ne n]; exact k4 c o n h, yes (by rw [d']; rfl), nrow _ u4 _ _⟩
        · have d' : i ≠ 0 := fun z => d (by rw [z]; rfl)
          have em : (i : Int) - 1 = ((i - 1 : Nat) : Int) := by omega
          refine ⟨.ref a, rfl, .int (i : Int), rfl, _, _, rfl, rfl, a, _, _, .str (nmA ns (i - 1)), rfl, rfl, sq_of ha4, by
            rw [em]
            exact nm_at (by omega), .ref a, rfl, .int (i : Int), rfl, a, _, _, .str (nmA ns i), rfl, rfl, sq_of ha4, nm_at hi2, rfl, _, rfl, ite2 (fun g => ?_) (fun g => ?_)⟩
          · have hnew : newB ns i = true := by
              rw [newB_pos d', decide_eq_false fun z => ?_]
              · rfl
              · have g2 : (!decide (V.str (nmA ns (i - 1)) = V.str (nmA ns i))) = true := g
                rw [decide_eq_true z.symm] at g2
                cases g2
            refine ⟨.ref L, rfl, .inl ⟨rfl, _, sq_of hL4⟩, .int (i : Int), rfl, L, _, _, rfl, rfl, hL4, szL, ?_⟩
            exact ⟨bg, _, _, _, _, rfl, fun c o n h => by rw [upd_ne n]; exact k4 c o n h, yes hnew, nrow _ u4 _ _⟩
          · have hold : newB ns i = false := by
              rw [newB_pos d', decide_eq_true (Classical.byContradiction fun z => g ?_)]
              · rfl
              · show (!decide (V.str (nmA ns (i - 1)) = V.str (nmA ns i))) = true
                rw [decide_eq_false fun y => z y.symm]
                rfl
            refine ⟨bg, _, _, _, _, rfl, k4, ?_, nrow _ u4 _ _⟩
            rw [hL4, stay (bb.trans hold)]
      · have al : alB ns i = true := by
          have c' : ¬ (!alB ns i) = true := c
          simpa using c'
        have rle := reN_le (ns := ns) (k := i) (by omega)
        have rlt : i < reN ns i := by
          have h1 := reN_al hi2 al
          have h2 := (reN_le (ns := ns) (k := i + 1) (by omega)).1
          omega
        have s1 : (1 : Nat) ≤ sizeLine := by decide
        refine (?_ : ∀ Q : Bool → Hp → Prop, Q (decide (i = 0) || nal ns (i - 1)) H4 → tOr _ _ _ H4 Q) _ ?_
        · intro Q hq
          refine ⟨.int (i : Int), rfl, rfl, _, rfl, ite2 (fun d => ?_) (fun d => ?_)⟩
          · have d' : i = 0 := by
              have := V.int.inj (of_decide_eq_true d)
              omega
            rw [decide_eq_true d', Bool.true_or] at hq
            exact hq
          · have d' : i ≠ 0 := fun z => d (by rw [z]; rfl)
            have em : (i : Int) - 1 = ((i - 1 : Nat) : Int) := by omega
            rw [decide_eq_false d', Bool.false_or] at hq
            refine ⟨.ref D, rfl, .int (i : Int), rfl, _, _, rfl, rfl, D, _, _, .bl (nal ns (i - 1)), rfl, rfl, hDn, ?_, _, rfl, hq⟩
            rw [em]
            exact bl_at (by omega)
        cases e : (decide (i = 0) || nal ns (i - 1)) with
        | true =>
          have first : i = 0 ∨ alB ns (i - 1) = false := by
            rcases Bool.or_eq_true_iff.mp e with z | z
            · exact .inl (of_decide_eq_true z)
            · have z' : (!alB ns (i - 1)) = true := z
              exact .inr (by simpa using z')
          have bb : begB ns i = true := by
            unfold begB
            rw [if_pos al, if_pos first]
          have rs := rsN_no first
          refine iteT ?_
          refine ⟨.ref L, rfl, .inl ⟨rfl, _, sq_of hL4⟩, .int (i : Int), rfl, L, _, _, rfl, rfl, hL4, szL, ?_⟩
          have hL5 := app H4 hL4 bb
          have k5 : ∀ c o, c ≠ L → H3 c = some o → upd H4 L (.lst ((groupsTo ns i).map iN ++ [.int (i : Int)])) c = some o := fun c o n h => by
            rw [upd_ne n]
            exact k4 c o n h
          revert hL5 k5
          generalize upd H4 L (.lst ((groupsTo ns i).map iN ++ [.int (i : Int)])) = H5
          intro hL5 k5
          have ha5 := k5 _ _ naL haa
          have hD5 := k5 _ _ nDL hDa
          have lm : (ns.map V.str).length = ns.length := List.length_map ..
          refine ⟨.int (i : Int), rfl, .int (i : Int), rfl, .ref a, rfl, a, _, rfl, .inl (sq_of ha5), _, _, rfl, ?_⟩
          rw [lm]
          have e0 : (((ns.length : Nat) : Int) - (i : Int)).toNat = ns.length - i := by omega
          refine ⟨⟨by omega, by omega, by omega, by omega⟩, fun D5 nD5 => ?_⟩
          rw [e0]
          refine lc_range (fun m H6 => Same H5 H6 ∧ H6 D5 = some (.lst ((((List.range m).map (i + ·)).filter (nal ns)).map iN))) ⟨Same.new nD5, upd_same⟩ ?_ ?_
          · rintro m H6 hm ⟨k6, h6⟩
            refine ⟨rfl, .ref D, rfl, iN (i + m), rfl, D, _, _, .bl (nal ns (i + m)), rfl, rfl, sq_of (k6 _ _ hD5), bl_at (by omega), _, rfl, ite2 (fun g => ?_) (fun g => ?_)⟩
            · refine ⟨iN (i + m), rfl, _, h6, ?_, sameAt k6 nD5, ?_⟩
              · rw [List.length_map]
                have := List.length_filter_le (nal ns) ((List.range m).map (i + ·))
                rw [List.length_map, List.length_range] at this
                show _ < 16777216
                omega
              · rw [upd_same, filt_succ, if_pos g]
            · refine ⟨k6, ?_⟩
              rw [h6, filt_succ, if_neg g, List.append_nil]
          rintro H6 ⟨k6, h6⟩
          have ha6 := k6 _ _ ha5
          refine ⟨.ref a, rfl, a, _, rfl, .inl (sq_of ha6), s1, fun q6 nq6 => ?_⟩
          have k7 := Same.new (o := .lst [.int (((ns.map V.str).length : Nat) : Int)]) nq6
          have h7 : upd H6 q6 (.lst [.int (((ns.map V.str).length : Nat) : Int)]) q6 = some (.lst [iN ns.length]) := by
            rw [upd_same, lm]
            rfl
          revert k7 h7
          generalize upd H6 q6 (.lst [.int (((ns.map V.str).length : Nat) : Int)]) = H7
          intro k7 h7
          have lf := List.length_filter_le (nal ns) ((List.range (ns.length - i)).map (i + ·))
          rw [List.length_map, List.length_range] at lf
          refine ⟨D5, q6, _, _, rfl, rfl, k7 _ _ h6, h7, by rw [List.length_map]; show _ ≤ 16777216; have : [iN ns.length].length = 1 := rfl; omega, fun be nbe => ?_⟩
          have k8 := Same.new (o := .lst ((((List.range (ns.length - i)).map (i + ·)).filter (nal ns)).map iN ++ [iN ns.length])) nbe
          have h8 : upd H7 be (.lst ((((List.range (ns.length - i)).map (i + ·)).filter (nal ns)).map iN ++ [iN ns.length])) be = some (.lst (((((List.range (ns.length - i)).map (i + ·)).filter (nal ns)) ++ [ns.length]).map iN)) := by
            rw [upd_same, List.map_append]
            rfl
          revert k8 h8
          generalize upd H7 be (.lst ((((List.range (ns.length - i)).map (i + ·)).filter (nal ns)).map iN ++ [iN ns.length])) = H8
          intro k8 h8
          have k58 := (k6.trans k7).trans k8
          have hx0 : ((((List.range (ns.length - i)).map (i + ·)).filter (nal ns)) ++ [ns.length])[0]? = some (reN ns i) := reN_list ns (ns.length - i) i (by omega)
          have nbL : be ≠ L := fun z => by
            have := (k6.trans k7) _ _ hL5
            rw [← z, nbe] at this
            cases this
          refine ⟨.ref a, rfl, .int (i : Int), rfl, (i : Int), rfl, .ref be, rfl, be, _, 0, iN (reN ns i), rfl, rfl, sq_of h8, atI_nat (j := 0) (by rw [List.getElem?_map, hx0]; rfl), ((reN ns i : Nat) : Int), rfl, a, _, rfl, sq_of (k58 _ _ ha5), fun p np9 => ?_⟩
          have k9 : Same H8 (upd H8 p (.lst (cutV (ns.map V.str) (some (i : Int)) (some ((reN ns i : Nat) : Int))))) := Same.new np9
          have hp : upd H8 p (.lst (cutV (ns.map V.str) (some (i : Int)) (some ((reN ns i : Nat) : Int)))) p = some (.lst (cutV (ns.map V.str) (some (i : Int)) (some ((reN ns i : Nat) : Int)))) := upd_same
          revert k9 hp
          generalize upd H8 p (.lst (cutV (ns.map V.str) (some (i : Int)) (some ((reN ns i : Nat) : Int)))) = H9
          intro k9 hp
          have hp' : H9 p = some (.lst ((segN ns i (reN ns i)).map V.str)) := by
            rw [hp, cutV_of (by omega) (by rw [lm]; exact rle.2), ← List.map_drop, ← List.map_take]
            rfl
          have lsg : (segN ns i (reN ns i)).length = reN ns i - i := seg_len rle.1 rle.2
          refine ⟨p, segN ns i (reN ns i), rfl, hp', seg_nms hn, fun z => by rw [z] at lsg; have : ([] : List Str).length = 0 := rfl; omega, seg_unl rle.2 fun k h1 h2 => reN_all h1 h2, fun rw_ H10 nrw hrw k10 => ?_⟩
          have k5t := (k58.trans k9).trans k10
          have nrL : rw_ ≠ L := fun z => by
            have := (k58.trans k9) _ _ hL5
            rw [← z, nrw] at this
            cases this
          refine ⟨(i : Int), _, some (.ref be), some (.ref rw_), _, rfl, fun c o n h => k5t _ _ (k5 c o n h), k5t _ _ hL5, fun _ _ => ⟨be, rw_, _, ?_, rfl, rfl, nbL, nrL, (k9.trans k10) _ _ h8, hx0, ?_⟩⟩
          · rw [show i + 1 - 1 = i from rfl, rs]
          · rw [show i + 1 - 1 = i from rfl, rs]
            exact hrw
        | false =>
          obtain ⟨e1, e2⟩ := Bool.or_eq_false_iff.mp e
          have ne0 : i ≠ 0 := of_decide_eq_false e1
          have alp : alB ns (i - 1) = true := by
            have z' : (!alB ns (i - 1)) = false := e2
            simpa using z'
          have ei : i - 1 + 1 = i := by omega
          have ers : rsN ns i = rsN ns (i - 1) := by
            have := rsN_al alp
            rw [ei] at this
            exact this
          have ere : reN ns (i - 1) = reN ns i := by
            have := reN_al (k := i - 1) (by omega) alp
            rw [ei] at this
            exact this
          obtain ⟨be, rw_, xs, hbg, rfl, rfl, nbL, nrL, hbe, hx0, hrw⟩ := hrow (by omega) alp
          rw [← ers] at hbg
          rw [ere] at hx0
          rw [← ers, ere] at hrw
          have rsl := rsN_le ns (i - 1)
          rw [← ers] at rsl
          have lsg : (segN ns (rsN ns i) (reN ns i)).length = reN ns i - rsN ns i := seg_len (by omega) rle.2
          have lcn := coins_len (segN ns (rsN ns i) (reN ns i))
          have bb : begB ns i = (decide (i + 1 < reN ns i) && pkR ns (rsN ns i) (reN ns i) i) := by
            unfold begB
            rw [if_pos al, if_neg (by
              intro z
              rcases z with z | z
              · exact ne0 z
              · rw [alp] at z
                cases z)]
          have keep : ∀ H5, (∀ c o, c ≠ L → H4 c = some o → H5 c = some o) → RowAt ns L H5 (i + 1 - 1) bg (some (.ref be)) (some (.ref rw_)) := fun H5 k => ⟨be, rw_, xs, hbg, rfl, rfl, nbL, nrL, k _ _ nbL hbe, hx0, k _ _ nrL hrw⟩
          subst hbg
          refine iteF ?_
          refine ⟨.int (i : Int), rfl, _, _, rfl, rfl, .ref be, rfl, be, _, 0, iN (reN ns i), rfl, rfl, sq_of hbe, atI_nat (j := 0) (by rw [List.getElem?_map, hx0]; rfl), _, _, rfl, rfl, _, rfl, ite2 (fun d => ?_) (fun d => ?_)⟩
          · have d' : i + 1 < reN ns i := by
              have := of_decide_eq_true d
              omega
            rw [decide_eq_true d', Bool.true_and] at bb
            have eh : (i : Int) - ((rsN ns i : Nat) : Int) = ((i - rsN ns i : Nat) : Int) := by omega
            have a1 : atI ((coinsN (segN ns (rsN ns i) (reN ns i))).map iN) ((i : Int) - ((rsN ns i : Nat) : Int) - 1) = some (iN ((coinsN (segN ns (rsN ns i) (reN ns i))).getD (i - rsN ns i - 1) 0)) := by
              rw [show (i : Int) - ((rsN ns i : Nat) : Int) - 1 = ((i - rsN ns i - 1 : Nat) : Int) by omega]
              exact iN_at (by omega)
            have a2 : atI ((coinsN (segN ns (rsN ns i) (reN ns i))).map iN) ((i : Int) - ((rsN ns i : Nat) : Int)) = some (iN ((coinsN (segN ns (rsN ns i) (reN ns i))).getD (i - rsN ns i) 0)) := by
              rw [eh]
              exact iN_at (by omega)
            have a3 : atI ((coinsN (segN ns (rsN ns i) (reN ns i))).map iN) ((i : Int) - ((rsN ns i : Nat) : Int) + 1) = some (iN ((coinsN (segN ns (rsN ns i) (reN ns i))).getD (i - rsN ns i + 1) 0)) := by
              rw [show (i : Int) - ((rsN ns i : Nat) : Int) + 1 = ((i - rsN ns i + 1 : Nat) : Int) by omega]
              exact iN_at (by omega)
            have pe : pkR ns (rsN ns i) (reN ns i) i = (decide ((coinsN (segN ns (rsN ns i) (reN ns i))).getD (i - rsN ns i - 1) 0 < (coinsN (segN ns (rsN ns i) (reN ns i))).getD (i - rsN ns i) 0) && decide ((coinsN (segN ns (rsN ns i) (reN ns i))).getD (i - rsN ns i + 1) 0 < (coinsN (segN ns (rsN ns i) (reN ns i))).getD (i - rsN ns i) 0)) := rfl
            refine ⟨.int (i : Int), rfl, .int ((rsN ns i : Nat) : Int), rfl, _, _, rfl, rfl, ?_⟩
            dsimp only [gName]
            refine (?_ : ∀ Q : Bool → Hp → Prop, Q (pkR ns (rsN ns i) (reN ns i) i) H4 → tAnd _ _ _ H4 Q) _ ?_
            · intro Q hq
              refine ⟨.ref rw_, rfl, .int ((i : Int) - ((rsN ns i : Nat) : Int)), rfl, _, _, rfl, rfl, rw_, _, _, _, rfl, rfl, sq_of hrw, a1, .ref rw_, rfl, .int ((i : Int) - ((rsN ns i : Nat) : Int)), rfl, rw_, _, _, _, rfl, rfl, sq_of hrw, a2, _, _, rfl, rfl, _, rfl, ite2 (fun g => ?_) (fun g => ?_)⟩
              · have g' := Int.ofNat_lt.mp (of_decide_eq_true g)
                rw [pe, decide_eq_true g', Bool.true_and] at hq
                refine ⟨.ref rw_, rfl, .int ((i : Int) - ((rsN ns i : Nat) : Int)), rfl, rw_, _, _, _, rfl, rfl, sq_of hrw, a2, .ref rw_, rfl, .int ((i : Int) - ((rsN ns i : Nat) : Int)), rfl, _, _, rfl, rfl, rw_, _, _, _, rfl, rfl, sq_of hrw, a3, _, _, rfl, rfl, _, rfl, ?_⟩
                have ed : decide ((((coinsN (segN ns (rsN ns i) (reN ns i))).getD (i - rsN ns i + 1) 0 : Nat) : Int) < (((coinsN (segN ns (rsN ns i) (reN ns i))).getD (i - rsN ns i) 0 : Nat) : Int)) = decide ((coinsN (segN ns (rsN ns i) (reN ns i))).getD (i - rsN ns i + 1) 0 < (coinsN (segN ns (rsN ns i) (reN ns i))).getD (i - rsN ns i) 0) := by
                  by_cases z : (coinsN (segN ns (rsN ns i) (reN ns i))).getD (i - rsN ns i + 1) 0 < (coinsN (segN ns (rsN ns i) (reN ns i))).getD (i - rsN ns i) 0
                  · rw [decide_eq_true z, decide_eq_true (Int.ofNat_lt.mpr z)]
                  · rw [decide_eq_false z, decide_eq_false fun y => z (Int.ofNat_lt.mp y)]
                rw [ed]
                exact hq
              · have g' : ¬ (coinsN (segN ns (rsN ns i) (reN ns i))).getD (i - rsN ns i - 1) 0 < (coinsN (segN ns (rsN ns i) (reN ns i))).getD (i - rsN ns i) 0 := fun z => g (decide_eq_true (Int.ofNat_lt.mpr z))
                rw [pe, decide_eq_false g', Bool.false_and] at hq
                exact hq
            cases ep : pkR ns (rsN ns i) (reN ns i) i with
            | true =>
              rw [ep] at bb
              refine iteT ⟨.ref L, rfl, .inl ⟨rfl, _, sq_of hL4⟩, .int (i : Int), rfl, L, _, _, rfl, rfl, hL4, szL, ?_⟩
              exact ⟨_, _, some (.ref be), some (.ref rw_), _, rfl, fun c o n h => by rw [upd_ne n]; exact k4 c o n h, app H4 hL4 bb, fun _ _ => keep _ fun c o n h => by rw [upd_ne n]; exact h⟩
            | false =>
              rw [ep] at bb
              refine iteF ⟨_, _, some (.ref be), some (.ref rw_), _, rfl, k4, ?_, fun _ _ => keep _ fun c o _ h => h⟩
              rw [hL4, stay bb]
          · have d' : ¬ i + 1 < reN ns i := fun z => d (decide_eq_true (by omega))
            rw [decide_eq_false d', Bool.false_and] at bb
            refine ⟨_, _, some (.ref be), some (.ref rw_), _, rfl, k4, ?_, fun _ _ => keep _ fun c o _ h => h⟩
            rw [hL4, stay bb]
    · rintro σ H4 ⟨bg, u4, u5, u6, u7, rfl, k4, hL4, _⟩
      rw [show (((ns.length : Nat) : Int)).toNat = ns.length from Int.toNat_natCast _] at hL4
      exact ⟨_, rfl, q L H4 nLH hL4 fun c o e => k4 _ _ (fun z => by rw [z, nLH] at e; cases e) (kH _ _ e)⟩
end
end LawK
set_option maxHeartbeats 4000000
namespace LawK
open PySem PySem.Spec PyProof.Rows L2 Ev
theorem newB0 (ns : List Str) : newB ns 0 = true := rfl
theorem beg0 (ns : List Str) : begB ns 0 = true := by
  unfold begB
  cases alB ns 0 with
  | true => rfl
  | false => rfl
theorem groups_zero {ns : List Str} (h : 0 < ns.length) : (groupsN ns)[0]? = some 0 := by
  unfold groupsN groupsTo
  obtain ⟨n, e⟩ : ∃ n, ns.length = n + 1 := ⟨ns.length - 1, by omega⟩
  rw [e, List.range_succ_eq_map, List.filter_cons, beg0]
  rfl
theorem next_zero {z : Str} {b : List Nat} (h : b[0]? = some 0) : (nextB z b)[0]? = some 0 := by
  have hl : 0 < b.length := (List.getElem?_eq_some_iff.mp h).1
  unfold nextB
  rw [List.getElem?_map, groups_zero (by rw [namesAt_len]; exact hl)]
  show some (b.getD 0 0) = some 0
  rw [List.getD_eq_getElem?_getD, h]
  rfl
/-- the names of a level, one behind the other, from its first place on -/
theorem join_from (z : Str) : ∀ (b : List Nat) (x : Nat), Begs z (x :: b) → ((namesAt z (x :: b)).map fun w => w.cps.toList).flatten = z.cps.toList.drop x
  | [], x, h => by
    have hx := h.lt x (by simp)
    show ((cutZ z x z.length).cps.toList ++ ([] : List Nat)) = _
    rw [List.append_nil]
    unfold cutZ
    rw [cutS_of (by omega) (by omega), Int.toNat_natCast]
    refine List.take_of_length_le ?_
    rw [List.length_drop, ← len_S]
    omega
  | y :: b, x, h => by
    have hxy : x < y := (List.pairwise_cons.mp h.asc).1 y (by simp)
    have hy := h.lt y (by simp)
    have e : namesAt z (x :: y :: b) = cutZ z x y :: namesAt z (y :: b) := rfl
    have hb : Begs z (y :: b) := ⟨(List.pairwise_cons.mp h.asc).2, fun w hw => h.lt w (by simp [hw]), by have := h.few; rw [List.length_cons] at this; omega⟩
    rw [e, List.map_cons, List.flatten_cons, join_from z b y hb]
    unfold cutZ
    rw [cutS_of (by omega) (by omega), Int.toNat_natCast, show ((y : Int) - (x : Int)).toNat = y - x by omega]
    have : z.cps.toList.drop y = (z.cps.toList.drop x).drop (y - x) := by
      rw [List.drop_drop]
      congr 1
      omega
    rw [this, List.take_append_drop]
end LawK
set_option maxHeartbeats 4000000
namespace LawK
open PySem PySem.Spec PyProof.Rows L2 Ev
section
variable {P : Program} {w : World} {K : PySem.W.Frag} {mg : Str → Option Value} {base : Heap}
abbrev sText : Stmt := topS 36
theorem scText : FnScope ["hand", "signs", "most", "way", "one", "other", "found", "k"] ["hand", "signs", "most"] (defScope sText) := ⟨rfl, rfl, rfl, by decide +kernel, rfl, by decide +kernel, by decide +kernel⟩
theorem ok_Text {f : Addr} {fd : FuncData} (F : Fun K "_law_text" "_law_text" sText f fd) {fTake : Addr} {fdTake : FuncData} (DTake : Dk P w K mg base "_law_take" sTake ["hand", "many"] 1 spTake fTake fdTake) {fWord : Addr} {fdWord : FuncData} (DWord : Dk P w K mg base "_law_word" sWord ["hand", "signs", "least", "most"] 2 spWord fWord fdWord) (T : Glob mg) : FnOk P w K mg base CX0 3 f fd ["hand", "signs", "most"] spText := by
  refine F.ok scText (fun vs H Q E h => ?_) (fun cdv A outer s H vs Q E hr h => ?_)
  · obtain ⟨p, z, m, rfl, _⟩ := h
    rfl
  · refine ⟨_, (pss_cons (ps_set (i := 3) scText.nd rfl (.inl rfl) (pe_call DTake.ok (hr.mono (by decide)) (by rfl) DTake.g DTake.F.kp DTake.b .nil pass0 (pa_cons (pv 0) (pa_cons pe_int pa_nil))))
      (pss_cons (ps_if (pt_cmpR op_eq (pv 3) pe_int (nomark _))
      (pss_one (ps_ret (pe_slice sl_str (pe_op op_mulS (pe_call DWord.ok (hr.mono (by decide)) (by rfl) DWord.g DWord.F.kp DWord.b .nil pass0 (pa_cons (pv 0) (pa_cons (pv 1) (pa_cons pe_int (pa_cons pe_int pa_nil))))) (pv 2)) po_none (po_some (pe_call DTake.ok (hr.mono (by decide)) (by rfl) DTake.g DTake.F.kp DTake.b .nil pass0 (pa_cons (pv 0) (pa_cons (pe_op op_add (pv 2) pe_int) pa_nil)))))))
      pss_nil)
      (pss_cons (ps_if (pt_cmpR op_eq (pv 3) pe_int (nomark _))
      (pss_cons (ps_set (i := 4) scText.nd rfl (.inl rfl) (pe_call DWord.ok (hr.mono (by decide)) (by rfl) DWord.g DWord.F.kp DWord.b .nil pass0 (pa_cons (pv 0) (pa_cons (pv 1) (pa_cons pe_int (pa_cons pe_int pa_nil))))))
        (pss_cons (ps_set (i := 5) scText.nd rfl (.inl rfl) (pe_call DWord.ok (hr.mono (by decide)) (by rfl) DWord.g DWord.F.kp DWord.b .nil pass0 (pa_cons (pv 0) (pa_cons (pv 1) (pa_cons pe_int (pa_cons pe_int pa_nil))))))
        (pss_cons (ps_set (i := 6) scText.nd rfl (.inl rfl) pe_str)
        (pss_cons (ps_for PassesOwn.never rfl (pi_range1 (by rfl) T.range (pa_cons (pe_op op_fdiv (pv 2) pe_int) pa_nil)) (pg_name (i := 7) scText.nd rfl (.inl rfl))
        (pss_one (ps_set (i := 6) scText.nd rfl (.inl rfl) (pe_op op_add_str (pv 6) (pe_ix ix_list (pe_lst (pa_cons (pv 4) (pa_cons (pv 5) pa_nil))) (pe_call DTake.ok (hr.mono (by decide)) (by rfl) DTake.g DTake.F.kp DTake.b .nil pass0 (pa_cons (pv 0) (pa_cons pe_int pa_nil))) (fun _ _ => rfl))))))
        (pss_one (ps_ret (pe_slice sl_str (pv 6) po_none (po_some (pv 2)))))))))
      pss_nil)
      (pss_one (ps_ret (pe_call DWord.ok (hr.mono (by decide)) (by rfl) DWord.g DWord.F.kp DWord.b .nil pass0 (pa_cons (pv 0) (pa_cons (pv 1) (pa_cons pe_int (pa_cons (pv 2) pa_nil)))))))))), ?_⟩
    obtain ⟨p, z, m, rfl, hz, z0, z1, m0, m1, lh, hH, q⟩ := h
    refine ⟨.ref p, rfl, p, 5, rfl, by decide, by decide, lh, hH, fun v H1 v0 v1 h1 b1 => ?_⟩
    refine ⟨.int v, rfl, rfl, _, rfl, ite2 (fun _ => ?_) (fun _ => ?_)⟩
    · refine ⟨.ref p, rfl, .str z, rfl, p, z, 1, 3, rfl, hz, z0, z1, by decide, by decide, by decide, lh, h1, fun y H2 sy y1 y3 h2 b2 => ?_⟩
      refine ⟨.int m, rfl, y, m, rfl, rfl, by omega, by omega, by omega, .ref p, rfl, .int m, rfl, _, _, rfl, rfl, p, m + 1, rfl, by omega, by omega, lh, h2, fun u H3 u0 u1 h3 b3 => ?_⟩
      obtain ⟨f1, f2⟩ := mul_facts y m
      have f3 : y.length * m.toNat ≤ 3 * 1000 := Nat.mul_le_mul (by omega) (by omega)
      have f4 : (Txt.mul y m).length ≤ 3000 := by omega
      refine ⟨u, rfl, Txt.mul y m, rfl, len6 f4, ?_⟩
      have c1 := cut_hi (z := Txt.mul y m) (lo := none) u0
      exact q _ H3 (sgB_cut (f2 sy) _ _) (by omega) h3 ((b1.trans b2).trans b3)
    refine ⟨.int v, rfl, rfl, _, rfl, ite2 (fun _ => ?_) (fun _ => ?_)⟩
    · refine ⟨.ref p, rfl, .str z, rfl, p, z, 1, 2, rfl, hz, z0, z1, by decide, by decide, by decide, lh, h1, fun y1 H2 sy1 g1 g2 h2 b2 => ?_⟩
      refine ⟨.ref p, rfl, .str z, rfl, p, z, 1, 3, rfl, hz, z0, z1, by decide, by decide, by decide, lh, h2, fun y2 H3 sy2 g3 g4 h3 b3 => ?_⟩
      have b13 := (b1.trans b2).trans b3
      have sel : ∀ {o : Addr} {H4 H5 : Hp} {u : Int}, HandL H4 p lh → H4 o = none → But p (upd H4 o (.lst [.str y1, .str y2])) H5 → 0 ≤ u → u < 2 → ∃ w, SqL K H5 o [.str y1, .str y2] ∧ atI [V.str y1, V.str y2] u = some (.str w) ∧ sgB w = true ∧ w.length ≤ 3 := fun {o H4 H5 u} h4 no b5 u0 u1 => by
        have ho : H5 o = some (.lst [.str y1, .str y2]) := b5 o _ (h4.ne no).1 upd_same
        obtain rfl | rfl : u = 0 ∨ u = 1 := by omega
        · exact ⟨y1, sq_of ho, rfl, sy1, by omega⟩
        · exact ⟨y2, sq_of ho, rfl, sy2, by omega⟩
      refine ⟨.int m, rfl, _, _, rfl, rfl, ⟨by decide, by decide⟩, _, rfl, by omega, by omega, for_range (fun i σ H' => ∃ (y : Str) (x : Option V), σ = [some (.ref p), some (.str z), some (.int m), some (.int v), some (.str y1), some (.str y2), some (.str y), x] ∧ sgB y = true ∧ y.length ≤ 3 * i ∧ Hn p lh H3 H') ⟨_, none, rfl, rfl, Nat.zero_le _, Hn.refl h3⟩ ?_ ?_⟩
      · rintro i σ H' hi ⟨y, x, rfl, sy, ly, hn⟩
        have hi2 : i < 600 := by omega
        refine ⟨.str y, rfl, .str y1, rfl, .str y2, rfl, by show 2 ≤ sizeLine; decide, fun o no => ?_⟩
        refine ⟨.ref p, rfl, p, 2, rfl, by decide, by decide, lh, (hn.new no).at_, fun u H4 u0 u1 h4 b4 => ?_⟩
        obtain ⟨w, hw, ew, sw, lw⟩ := sel hn.at_ no b4 u0 u1
        refine ⟨o, _, u, .str w, rfl, rfl, hw, ew, y, w, rfl, rfl, ?_, _, _, rfl, sgB_app sy sw, ?_, (hn.new no).go h4 b4⟩
        · have h3 : sizeLine = 16777216 := sizeLine_eq
          omega
        · rw [app_len]
          omega
      · rintro σ H' ⟨y, x, rfl, sy, ly, hn⟩
        have c1 := cut_hi (z := y) (lo := none) (u := m) (by omega)
        exact ⟨.str y, rfl, .int m, rfl, m, rfl, y, rfl, len5 (by omega), q _ H' (sgB_cut sy _ _) (by omega) hn.at_ (b13.trans hn.but)⟩
    exact ⟨.ref p, rfl, .str z, rfl, .int m, rfl, p, z, 0, m, rfl, hz, z0, z1, by decide, by omega, by omega, lh, h1, fun y H2 sy y1 y3 h2 b2 => q y H2 sy y3 h2 (b1.trans b2)⟩
end
end LawK
set_option maxHeartbeats 4000000
namespace LawK
open PySem PySem.Spec PyProof.Rows L2 Ev

def spNamesAt : Sp := fun vs H Q _ => ∃ (z : Str) (l : Addr) (b : List Nat), vs = [.str z, .ref l] ∧ H l = some (.tup (b.map iN)) ∧ z.length ≤ 2000 ∧ b.length ≤ 2000 ∧ ∀ o H', H o = none → H' o = some (.lst ((namesAt z b).map V.str)) → Same H H' → Q (.ref o) H'
def spLawLevels : Sp := fun vs H Q _ => ∃ (z : Str), vs = [.str z] ∧ sgB z = true ∧ z.length ≤ 2000 ∧ ∀ L xs H', H L = none → H' L = some (.lst xs) → All2 (LvT H') xs (lvAll z) → xs.length ≤ 2001 → Same H H' → Q (.ref L) H'
theorem nameAt_get {z : Str} {b : List Nat} {i m1 m2 : Nat} (h1 : b[i]? = some m1) (h2 : (b.drop 1 ++ [z.length])[i]? = some m2) : (namesAt z b)[i]? = some (cutZ z m1 m2) := List.getElem?_zipWith_eq_some.mpr ⟨m1, m2, h1, h2, rfl⟩
section
variable {P : Program} {w : World} {K : PySem.W.Frag} {mg : Str → Option Value} {base : Heap}
abbrev sNamesAt : Stmt := topS 43
theorem scNamesAt : FnScope ["text", "begins", "found", "k", "behind"] ["text", "begins"] (defScope sNamesAt) := ⟨rfl, rfl, rfl, by decide +kernel, rfl, by decide +kernel, by decide +kernel⟩
theorem ok_NamesAt {f : Addr} {fd : FuncData} (F : Fun K "_law_names_at" "_law_names_at" sNamesAt f fd)   (T : Glob mg) : FnOk P w K mg base CX0 1 f fd ["text", "begins"] spNamesAt := by
  refine F.ok scNamesAt (fun vs H Q E h => ?_) (fun cdv A outer s H vs Q E hr h => ?_)
  · obtain ⟨z, l, b, rfl, _⟩ := h
    rfl
  · refine ⟨_, (pss_cons (ps_set (i := 2) scNamesAt.nd rfl (.inl rfl) (pe_lst pa_nil))
      (pss_cons (ps_for PassesOwn.never rfl (pi_range1 (by rfl) T.range (pa_cons (pe_callB call_len_seq (by rfl) T.len PySem.boot_len (pa_cons (pv 1) pa_nil)) pa_nil)) (pg_name (i := 3) scNamesAt.nd rfl (.inl rfl))
      (pss_cons (ps_set (i := 4) scNamesAt.nd rfl (.inl rfl) (pe_callB call_lenZ (by rfl) T.len PySem.boot_len (pa_cons (pv 0) pa_nil)))
        (pss_cons (ps_if (pt_cmpR op_lt (pe_op op_add (pv 3) pe_int) (pe_callB call_len_seq (by rfl) T.len PySem.boot_len (pa_cons (pv 1) pa_nil)) (nomark _))
        (pss_one (ps_set (i := 4) scNamesAt.nd rfl (.inl rfl) (pe_ix ix_tup (pv 1) (pe_op op_add (pv 3) pe_int) (fun _ _ => rfl))))
        pss_nil)
        (pss_one (ps_expr (pe_bm PySem.F.plainAttrs_list PySem.F.slot_list_append PySem.F.type_list_append mt_append (pv 2) (pa_cons (pe_slice sl_str (pv 0) (po_some (pe_ix ix_tup (pv 1) (pv 3) (fun _ _ => rfl))) (po_some (pv 4))) pa_nil)))))))
      (pss_one (ps_ret (pv 2))))), ?_⟩
    obtain ⟨z, l, b, rfl, hl, lz, lb, q⟩ := h
    refine ⟨by show 0 ≤ sizeLine; decide, fun L nL => ?_⟩
    have kL := Same.new (o := .lst []) nL
    have hL0 : upd H L (.lst []) L = some (.lst (((namesAt z b).take 0).map V.str)) := upd_same
    have nlL : l ≠ L := fun e => by rw [e, nL] at hl; cases hl
    revert kL hL0
    generalize upd H L (.lst []) = H1
    intro kL hL0
    have hl1 := kL _ _ hl
    refine ⟨.ref l, rfl, l, _, rfl, .inr (SqT.of hl1), ?_⟩
    rw [List.length_map]
    refine ⟨_, rfl, by omega, by omega, for_range (fun i σ H4 => ∃ (u3 u4 : Option V), σ = [some (.str z), some (.ref l), some (.ref L), u3, u4] ∧ (∀ c o, c ≠ L → H1 c = some o → H4 c = some o) ∧ H4 L = some (.lst (((namesAt z b).take i).map V.str))) ⟨none, none, rfl, fun c o _ e => e, hL0⟩ ?_ ?_⟩
    · rintro i σ H4 hi ⟨u3, u4, rfl, k4, hL⟩
      have hi2 : i < b.length := by omega
      have z0 : (0 : Int) + (i : Int) = (i : Int) := Int.zero_add _
      rw [z0]
      have hl4 := k4 _ _ nlL hl1
      have lm : (b.map iN).length = b.length := List.length_map ..
      have eb : b[i]? = some (b.getD i 0) := get1 hi2
      refine ⟨.str z, rfl, z, rfl, len5 (by omega), .int (i : Int), rfl, _, _, rfl, rfl, .ref l, rfl, l, _, rfl, .inr (SqT.of hl4), _, _, rfl, rfl, _, rfl, ite2 (fun c => ?_) (fun c => ?_)⟩
      · have c' : i + 1 < b.length := by
          have := of_decide_eq_true c
          rw [lm] at this
          omega
        have ed : (b.drop 1 ++ [z.length])[i]? = some (b.getD (i + 1) 0) := by
          rw [List.getElem?_append_left (by rw [List.length_drop]; omega), List.getElem?_drop, Nat.add_comm 1 i]
          exact get1 c'
        refine ⟨.ref l, rfl, .int (i : Int), rfl, _, _, rfl, rfl, l, _, _, _, rfl, rfl, SqT.of hl4, iN_at c', ?_⟩
        refine ⟨.ref L, rfl, .inl ⟨rfl, _, sq_of hL⟩, .str z, rfl, .ref l, rfl, .int (i : Int), rfl, l, _, _, _, rfl, rfl, SqT.of hl4, iN_at hi2, (b.getD i 0 : Nat), rfl, iN (b.getD (i + 1) 0), rfl, (b.getD (i + 1) 0 : Nat), rfl, z, rfl, len5 (by omega), L, _, _, rfl, rfl, hL, ?_, _, _, rfl, fun c o n w => by rw [upd_ne n]; exact k4 c o n w, ?_⟩
        · rw [List.length_map, List.length_take]
          show _ < 16777216
          omega
        · rw [upd_same, take_succ' (nameAt_get eb ed), List.map_append]
          rfl
      · have c' : ¬ i + 1 < b.length := fun w => c (decide_eq_true (by rw [lm]; omega))
        have ed : (b.drop 1 ++ [z.length])[i]? = some z.length := by
          rw [List.getElem?_append_right (by rw [List.length_drop]; omega), List.length_drop, show i - (b.length - 1) = 0 by omega]
          rfl
        dsimp only [tNext, tDrop]
        refine ⟨.ref L, rfl, .inl ⟨rfl, _, sq_of hL⟩, .str z, rfl, .ref l, rfl, .int (i : Int), rfl, l, _, _, _, rfl, rfl, SqT.of hl4, iN_at hi2, (b.getD i 0 : Nat), rfl, iN z.length, rfl, (z.length : Nat), rfl, z, rfl, len5 (by omega), L, _, _, rfl, rfl, hL, ?_, _, _, rfl, fun c o n w => by rw [upd_ne n]; exact k4 c o n w, ?_⟩
        · rw [List.length_map, List.length_take]
          show _ < 16777216
          omega
        · rw [upd_same, take_succ' (nameAt_get eb ed), List.map_append]
          rfl
    · rintro σ H4 ⟨u3, u4, rfl, k4, hL⟩
      rw [show (((b.length : Nat) : Int)).toNat = b.length from Int.toNat_natCast _, List.take_of_length_le (by rw [namesAt_len]; exact Nat.le_refl _)] at hL
      exact ⟨_, rfl, q L H4 nL hL fun c o e => k4 _ _ (fun w => by rw [w, nL] at e; cases e) (kL _ _ e)⟩
end
end LawK
set_option maxHeartbeats 4000000
namespace LawK
open PySem PySem.Spec PyProof.Rows L2 Ev

def spBlockText : Sp := fun vs H Q _ => ∃ (p : Addr) (m : Int), vs = [.ref p, .int m] ∧ 1 ≤ m ∧ m ≤ 1000 ∧ ∃ l, HandL H p l ∧ ∀ y H', sgB y = true → (y.length : Int) ≤ m + 9 → HandL H' p l → But p H H' → Q (.str y) H'
theorem lvs_last {z : Str} {b : List Nat} {done : List (List Nat)} (h : done ++ [b] ++ lvsN z b = lvAll z) (g : 1 < b.length) : done ++ [b] ++ [nextB z b] ++ lvsN z (nextB z b) = lvAll z := by
  rw [lvs_go g] at h
  rw [← h, List.append_assoc (done ++ [b])]
  rfl
section
variable {P : Program} {w : World} {K : PySem.W.Frag} {mg : Str → Option Value} {base : Heap}
abbrev sLevels : Stmt := topS 44
theorem scLevels : FnScope ["text", "found", "times", "begins", "k"] ["text"] (defScope sLevels) := ⟨rfl, rfl, rfl, by decide +kernel, rfl, by decide +kernel, by decide +kernel⟩
theorem ok_Levels {f : Addr} {fd : FuncData} (F : Fun K "_law_levels" "_law_levels" sLevels f fd)  {fGroups : Addr} {fdGroups : FuncData} (DGroups : Dk P w K mg base "_law_groups" sGroups ["names"] 3 spGroupsL fGroups fdGroups) {fNamesAt : Addr} {fdNamesAt : FuncData} (DNamesAt : Dk P w K mg base "_law_names_at" sNamesAt ["text", "begins"] 1 spNamesAt fNamesAt fdNamesAt) (T : Glob mg) : FnOk P w K mg base CX0 4 f fd ["text"] spLawLevels := by
  refine F.ok scLevels (fun vs H Q E h => ?_) (fun cdv A outer s H vs Q E hr h => ?_)
  · obtain ⟨z, rfl, _⟩ := h
    rfl
  · refine ⟨_, (pss_cons (ps_set (i := 1) scLevels.nd rfl (.inl rfl) (pe_lst (pa_cons (pe_tupRg rfl (by rfl) T.tuple (prg_1 (by rfl) T.range (pe_callB call_lenZ (by rfl) T.len PySem.boot_len (pa_cons (pv 0) pa_nil)))) pa_nil)))
      (pss_cons (ps_for PassesOwn.never rfl (pi_range1 (by rfl) T.range (pa_cons (pe_op op_add (pe_callB call_lenZ (by rfl) T.len PySem.boot_len (pa_cons (pv 0) pa_nil)) pe_int) pa_nil)) (pg_name (i := 2) scLevels.nd rfl (.inl rfl))
      (pss_cons (ps_set (i := 3) scLevels.nd rfl (.inr rfl) (pe_ix ix_list (pv 1) (pe_un un_neg pe_int) (fun _ _ => rfl)))
        (pss_cons (ps_if (pt_cmpR op_lt (pe_callB call_len_seq (by rfl) T.len PySem.boot_len (pa_cons (pv 3) pa_nil)) pe_int (nomark _))
        (pss_one ps_break)
        pss_nil)
        (pss_one (ps_expr (pe_bm PySem.F.plainAttrs_list PySem.F.slot_list_append PySem.F.type_list_append mt_append (pv 1) (pa_cons (pe_callTy call_tuple_of (by rfl) T.tuple (by decide +kernel) (pa_cons (pe_lc (own := [("k", 4)]) (g := gName 4) (by rfl) scLevels.nd (pi_list (pe_call DGroups.ok (hr.mono (by decide)) (by rfl) DGroups.g DGroups.F.kp DGroups.b .nil pass0 (pa_cons (pe_call DNamesAt.ok (hr.mono (by decide)) (by rfl) DNamesAt.g DNamesAt.F.kp DNamesAt.b .nil pass0 (pa_cons (pv 0) (pa_cons (pv 3) pa_nil))) pa_nil))) (blkOk_by (N := ["text", "found", "times", "begins", "k"]) (sc := defScope sLevels) (by decide +kernel)) (fun _ _ _ _ _ => pg_name (i := 4) scLevels.nd rfl (.inl rfl)) (fun _ _ _ _ _ => pts_nil) (fun _ _ _ _ _ => (pe_ix (r := rIxT K) ix_tup (pv 3) (pv 4) (fun _ _ => rfl)))) pa_nil)) pa_nil)))))))
      (pss_one (ps_ret (pv 1))))), ?_⟩
    obtain ⟨z, rfl, hz, lz, q⟩ := h
    have s1 : (1 : Nat) ≤ sizeLine := by decide
    refine ⟨.str z, rfl, z, rfl, len5 (by omega), _, rfl, .of_le (by omega) (by omega) (by omega) (by omega), fun l nl => ?_⟩
    have kl := Same.new (o := .tup (rgV 0 (z.length : Nat))) nl
    have hl : upd H l (.tup (rgV 0 (z.length : Nat))) l = some (.tup ((List.range z.length).map iN)) := by rw [upd_same, rg_vals]
    revert kl hl
    generalize upd H l (.tup (rgV 0 (z.length : Nat))) = H1
    intro kl hl
    refine ⟨s1, fun L nL => ?_⟩
    have kL := Same.new (o := .lst [.ref l]) nL
    have hL : upd H1 L (.lst [.ref l]) L = some (.lst ([] ++ [.ref l])) := upd_same
    have nLH : H L = none := Same.free kl nL
    revert kL hL
    generalize upd H1 L (.lst [.ref l]) = H2
    intro kL hL
    have k2 := kl.trans kL
    have hl2 := kL _ _ hl
    refine ⟨.str z, rfl, z, rfl, len5 (by omega), _, _, rfl, rfl, ((z.length + 1 : Nat) : Int), rfl, by omega, by omega, for_range (fun i σ H' => ∃ (u2 u3 : Option V) (xs : List V) (c : Addr) (done : List (List Nat)) (b : List Nat), σ = [some (.str z), some (.ref L), u2, u3, none] ∧ H' L = some (.lst (xs ++ [.ref c])) ∧ All2 (LvT H') xs done ∧ H' c = some (.tup (b.map iN)) ∧ Begs z b ∧ done ++ [b] ++ lvsN z b = lvAll z ∧ xs.length + b.length ≤ z.length ∧ b.length + i ≤ z.length ∧ Same H H') ⟨none, none, [], l, [], List.range z.length, rfl, hL, .nil, hl2, begs0 z, rfl, by rw [List.length_range]; show 0 + _ ≤ _; omega, by rw [List.length_range]; omega, k2⟩ ?_ ?_⟩
    · rintro i σ H3 hi ⟨u2, u3, xs, c, done, b, rfl, hL, hall, hc, hb, hd, hlen, hbi, k3⟩
      refine ⟨.ref L, rfl, 1, rfl, L, _, _, _, rfl, rfl, sq_of hL, atI_last _ _, .ref c, rfl, c, _, rfl, .inr (SqT.of hc), _, _, rfl, rfl, _, rfl, ?_⟩
      have lb : (b.map iN).length = b.length := List.length_map ..
      refine ite2 (fun e => ?_) (fun e => ?_)
      · have e' : ¬ 1 < b.length := by
          have := of_decide_eq_true e
          rw [lb] at this
          omega
        rw [lvs_no e', List.append_nil] at hd
        refine ⟨.ref L, rfl, ?_⟩
        exact q L _ H3 nLH hL (by rw [← hd]; exact All2.snoc hall ⟨c, rfl, hc⟩) (by rw [List.length_append]; have : [V.ref c].length = 1 := rfl; omega) k3
      · have e' : 1 < b.length := Classical.byContradiction fun w => e (decide_eq_true (by rw [lb]; omega))
        have fb := hb.few
        dsimp only [tNext, tDrop]
        refine ⟨.ref L, rfl, .inl ⟨rfl, _, sq_of hL⟩, .str z, rfl, .ref c, rfl, z, c, b, rfl, hc, lz, by omega, fun n H4 nn hn k4 => ?_⟩
        refine ⟨n, namesAt z b, rfl, hn, namesAt_nms hz lz hb, fun g H5 ng hg k5 => ?_⟩
        have k45 := k4.trans k5
        have lg : (groupsN (namesAt z b)).length ≤ b.length := by
          have := groupsTo_len (namesAt z b) (namesAt z b).length
          rw [namesAt_len] at this
          unfold groupsN
          rw [namesAt_len]
          exact this
        refine ⟨g, rfl, ⟨_, sq_of hg⟩, fun D nD => lc_list (xs := (groupsN (namesAt z b)).map iN) (fun i H6 => Same H5 H6 ∧ H6 D = some (.lst ((((groupsN (namesAt z b)).take i).map (b.getD · 0)).map iN))) ⟨Same.new nD, upd_same⟩ (fun i H6 _ w => sq_of (w.1 _ _ hg)) ?_ ?_⟩
        · rintro i v H6 hv ⟨k6, hD⟩
          rw [List.getElem?_map] at hv
          obtain ⟨y, hy, rfl⟩ := Option.map_eq_some_iff.mp hv
          have ly : y < b.length := by
            have := groups_lt (List.mem_of_getElem? hy)
            rw [namesAt_len] at this
            exact this
          have li := (List.getElem?_eq_some_iff.mp hy).1
          refine ⟨rfl, .ref c, rfl, iN y, rfl, c, _, _, _, rfl, rfl, SqT.of ((k45.trans k6) _ _ hc), iN_at ly, _, hD, ?_, sameAt k6 nD, ?_⟩
          · rw [List.length_map, List.length_map, List.length_take]
            show _ < 16777216
            omega
          · rw [upd_same, take_succ' hy, List.map_append, List.map_append]
            rfl
        · rintro H6 ⟨k6, hD⟩
          rw [List.length_map, List.take_of_length_le (Nat.le_refl _)] at hD
          have k46 := k45.trans k6
          refine ⟨D, _, rfl, .inl ⟨sq_of hD, fun t nt => ?_⟩⟩
          have kt := Same.new (o := .tup ((nextB z b).map iN)) nt
          have ht : upd H6 t (.tup ((nextB z b).map iN)) t = some (.tup ((nextB z b).map iN)) := upd_same
          have k47 := k46.trans kt
          have hL7 := k47 _ _ hL
          have ntL : t ≠ L := fun w => by have := k46 _ _ hL; rw [← w, nt] at this; cases this
          refine ⟨L, _, _, rfl, rfl, hL7, by rw [List.length_append]; have : [V.ref c].length = 1 := rfl; show _ < 16777216; omega, ?_⟩
          have kU : ∀ c' o, c' ≠ L → H3 c' = some o → upd (upd H6 t (.tup ((nextB z b).map iN))) L (.lst (xs ++ [.ref c] ++ [.ref t])) c' = some o := fun c' o n w => by
            rw [upd_ne n]
            exact k47 _ _ w
          have ncL : ∀ {c' : Addr} {ys : List V}, H3 c' = some (.tup ys) → c' ≠ L := fun w e => by rw [e, hL] at w; cases w
          have nx := next_less (z := z) e'
          refine ⟨_, _, xs ++ [.ref c], t, done ++ [b], nextB z b, rfl, upd_same, All2.snoc (All2.imp (fun v r w => ?_) hall) ⟨c, rfl, kU _ _ (ncL hc) hc⟩, by rw [upd_ne ntL]; exact ht, next_begs hb, lvs_last hd e', ?_, by omega, fun c' o w => ?_⟩
          · obtain ⟨c2, e1, e2⟩ := w
            exact ⟨c2, e1, kU _ _ (ncL e2) e2⟩
          · rw [List.length_append]
            have : [V.ref c].length = 1 := rfl
            omega
          · have ne : c' ≠ L := fun y => by rw [y, nLH] at w; cases w
            exact kU _ _ ne (k3 _ _ w)
    · rintro σ H3 ⟨u2, u3, xs, c, done, b, rfl, hL, hall, hc, hb, hd, hlen, hbi, k3⟩
      rw [Int.toNat_natCast] at hbi
      omega
end
end LawK
set_option maxHeartbeats 4000000
namespace LawK
open PySem PySem.Spec
/-- what the law puts behind the begins of a level -/
def farB (r : List Nat) : List Nat := r ++ [1000000000]
/-- which begins of the level ahead are in block j -/
def inB (r : List Nat) (j a : Nat) : Bool := decide ((farB r).getD j 0 ≤ a) && decide (a < (farB r).getD (j + 1) 0)
def cntB (b r : List Nat) (j : Nat) : Nat := (b.filter (inB r j)).length
theorem two_in {b : List Nat} {p : Nat → Bool} {i : Nat} (h : i + 1 < b.length) (h1 : p (b.getD i 0) = true) (h2 : p (b.getD (i + 1) 0) = true) : 2 ≤ (b.filter p).length := by
  have e : b = b.take (i + 1) ++ b.drop (i + 1) := (List.take_append_drop _ _).symm
  have m1 : b.getD i 0 ∈ (b.take (i + 1)).filter p := List.mem_filter.mpr ⟨by
    have e1 : b[i]? = some (b.getD i 0) := by rw [getD_get (by omega)]; exact List.getElem?_eq_getElem (by omega)
    exact List.mem_of_getElem? (i := i) (by rw [List.getElem?_take, if_pos (by omega)]; exact e1), h1⟩
  have m2 : b.getD (i + 1) 0 ∈ (b.drop (i + 1)).filter p := List.mem_filter.mpr ⟨by
    have e1 : b[i + 1]? = some (b.getD (i + 1) 0) := by rw [getD_get h]; exact List.getElem?_eq_getElem h
    exact List.mem_of_getElem? (i := 0) (by rw [List.getElem?_drop]; exact e1), h2⟩
  have l1 := List.length_pos_of_mem m1
  have l2 := List.length_pos_of_mem m2
  rw [e, List.filter_append, List.length_append]
  omega
theorem far_in {r : List Nat} {j : Nat} (h : j < r.length) : (farB r).getD j 0 = r.getD j 0 := by
  unfold farB
  rw [List.getD_eq_getElem?_getD, List.getD_eq_getElem?_getD, List.getElem?_append_left h]
theorem far_end {r : List Nat} : (farB r).getD r.length 0 = 1000000000 := by
  unfold farB
  rw [List.getD_eq_getElem?_getD, List.getElem?_append_right (Nat.le_refl _), Nat.sub_self]
  rfl
theorem next_get {z : Str} {b : List Nat} {j : Nat} (h : j < (groupsN (namesAt z b)).length) : (nextB z b).getD j 0 = b.getD ((groupsN (namesAt z b)).getD j 0) 0 := by
  unfold nextB
  rw [List.getD_eq_getElem?_getD, List.getElem?_map, List.getElem?_eq_getElem h, getD_get h]
  rfl
theorem asc_lt {b : List Nat} (h : b.Pairwise (· < ·)) {i j : Nat} (hij : i < j) (hj : j < b.length) : b.getD i 0 < b.getD j 0 := by
  rw [getD_get (by omega), getD_get hj]
  exact List.pairwise_iff_getElem.mp h i j (by omega) hj hij
/-- of two blocks one behind the other one is of two blocks or more -/
theorem no_small {z : Str} {b : List Nat} (hb : Begs z b) (few : z.length ≤ 2000) {j : Nat} (hj : j + 1 < (nextB z b).length) (h1 : cntB b (nextB z b) (j + 1) < 2) (h2 : cntB b (nextB z b) j < 2) : False := by
  have ln : (nextB z b).length = (groupsN (namesAt z b)).length := List.length_map ..
  have hg : j + 1 < (groupsN (namesAt z b)).length := by omega
  have nl : (namesAt z b).length = b.length := namesAt_len z b
  obtain ⟨u, eu⟩ : ∃ u, (groupsN (namesAt z b)).getD j 0 = u := ⟨_, rfl⟩
  obtain ⟨v, ev⟩ : ∃ v, (groupsN (namesAt z b)).getD (j + 1) 0 = v := ⟨_, rfl⟩
  have mem : ∀ i, i < (groupsN (namesAt z b)).length → (groupsN (namesAt z b)).getD i 0 ∈ groupsN (namesAt z b) := fun i hi => by
    rw [getD_get hi]
    exact List.getElem_mem _
  have mu := mem j (by omega)
  have mv := mem (j + 1) hg
  rw [eu] at mu
  rw [ev] at mv
  have huv : u < v := by
    rw [← eu, ← ev]
    exact asc_lt (groups_asc _) (by omega) hg
  have hv : v < b.length := by
    have := groups_lt mv
    omega
  have rj : (farB (nextB z b)).getD j 0 = b.getD u 0 := by rw [far_in (by omega), next_get (by omega), eu]
  have rj1 : (farB (nextB z b)).getD (j + 1) 0 = b.getD v 0 := by rw [far_in (by omega), next_get hg, ev]
  by_cases g : u + 1 < v
  · have : 2 ≤ cntB b (nextB z b) j := two_in (i := u) (by omega) (by
      unfold inB
      rw [rj, rj1, decide_eq_true (Nat.le_refl _), decide_eq_true (asc_lt hb.asc huv hv)]
      rfl) (by
      unfold inB
      rw [rj, rj1, decide_eq_true (Nat.le_of_lt (asc_lt hb.asc (Nat.lt_succ_self u) (by omega))), decide_eq_true (asc_lt hb.asc g hv)]
      rfl)
    omega
  · obtain rfl : v = u + 1 := by omega
    have bu : begB (namesAt z b) u = true := (List.mem_filter.mp mu).2
    have bv : begB (namesAt z b) (u + 1) = true := (List.mem_filter.mp mv).2
    obtain ⟨h3, h4⟩ := beg_two (by omega) bu bv
    have up : b.getD (u + 2) 0 < (farB (nextB z b)).getD (j + 1 + 1) 0 := by
      by_cases c : j + 2 < (groupsN (namesAt z b)).length
      · rw [far_in (by omega), next_get c]
        have mw := mem (j + 2) c
        have lt : u + 1 < (groupsN (namesAt z b)).getD (j + 2) 0 := by
          rw [← ev]
          exact asc_lt (groups_asc _) (by omega) c
        have lw := groups_lt mw
        have ne : (groupsN (namesAt z b)).getD (j + 2) 0 ≠ u + 2 := fun e => by
          have := (List.mem_filter.mp mw).2
          rw [e, h4] at this
          cases this
        exact asc_lt hb.asc (by omega) (by omega)
      · have e : j + 1 + 1 = (nextB z b).length := by omega
        rw [e, far_end]
        have := hb.lt (b.getD (u + 2) 0) (by rw [getD_get (by omega)]; exact List.getElem_mem _)
        omega
    have : 2 ≤ cntB b (nextB z b) (j + 1) := two_in (i := u + 1) (by omega) (by
      unfold inB
      rw [rj1, decide_eq_true (Nat.le_refl _), decide_eq_true (Nat.lt_trans (asc_lt hb.asc (Nat.lt_succ_self (u + 1)) (by omega)) up)]
      rfl) (by
      unfold inB
      rw [rj1, decide_eq_true (Nat.le_of_lt (asc_lt hb.asc (Nat.lt_succ_self (u + 1)) (by omega))), decide_eq_true up]
      rfl)
    omega
theorem next_thirds {z : Str} (b : List Nat) : 3 * (nextB z b).length ≤ 2 * b.length + 3 := by
  have := (groups_thirds (namesAt z b) (namesAt z b).length (Nat.le_refl _)).1
  rw [namesAt_len] at this
  have e : (nextB z b).length = (groupsTo (namesAt z b) b.length).length := by
    unfold nextB groupsN
    rw [List.length_map, namesAt_len]
  omega
/-- levels one behind the other -/
inductive Chain (z : Str) : List (List Nat) → Prop
  | one {b : List Nat} (hb : Begs z b) (h : b.length ≤ 1) : Chain z [b]
  | go {b : List Nat} {r : List (List Nat)} (hb : Begs z b) (h : 1 < b.length) (t : Chain z (nextB z b :: r)) : Chain z (b :: nextB z b :: r)
theorem chain_lvs {z : Str} : ∀ (m : Nat) (b : List Nat), b.length ≤ m → Begs z b → Chain z (b :: lvsN z b)
  | 0, b, h, hb => by
    rw [lvs_no (by omega)]
    exact .one hb (by omega)
  | m + 1, b, h, hb => by
    by_cases g : 1 < b.length
    · rw [lvs_go g]
      have := next_less (z := z) g
      exact .go hb g (chain_lvs m (nextB z b) (by omega) (next_begs hb))
    · rw [lvs_no g]
      exact .one hb (by omega)
theorem chain_all (z : Str) : Chain z (List.range z.length :: lvsN z (List.range z.length)) := chain_lvs _ _ (Nat.le_refl _) (begs0 z)
theorem Chain.at {z : Str} {r : List (List Nat)} (h : Chain z r) : ∀ {i : Nat} {b c : List Nat}, r[i]? = some b → r[i + 1]? = some c → Begs z b ∧ 1 < b.length ∧ c = nextB z b := by
  induction h with
  | one hb h => intro i b c _ e2; simp at e2
  | go hb h t ih =>
    intro i b c e1 e2
    cases i with
    | zero => cases e1; cases e2; exact ⟨hb, h, rfl⟩
    | succ i => exact ih e1 e2
theorem Chain.begs {z : Str} {r : List (List Nat)} (h : Chain z r) : ∀ {i : Nat} {b : List Nat}, r[i]? = some b → Begs z b := by
  induction h with
  | one hb h =>
    intro i b e
    cases i with
    | zero => cases e; exact hb
    | succ i => simp at e
  | go hb h t ih =>
    intro i b e
    cases i with
    | zero => cases e; exact hb
    | succ i => exact ih e
theorem Chain.last {z : Str} {r : List (List Nat)} (h : Chain z r) : ∃ s b, r = s ++ [b] ∧ b.length ≤ 1 := by
  induction h with
  | one hb h => exact ⟨[], _, rfl, h⟩
  | go hb h t ih =>
    obtain ⟨s, b, e, l⟩ := ih
    exact ⟨_ :: s, b, by rw [e]; rfl, l⟩
end LawK
set_option maxHeartbeats 4000000
namespace LawK
open PySem PySem.Spec PyProof.Rows L2 Ev

def spNumI : Sp := fun vs H Q _ => ∃ (i : Int), vs = [.int i] ∧ Q (.bl (decide (0 ≤ i))) H
def spLess : Sp := fun vs H Q _ => ∃ (L : Addr) (xs : List V) (z : Str), vs = [.ref L] ∧ H L = some (.lst xs) ∧ All2 (LvT H) xs (lvAll z) ∧ z.length ≤ 2000 ∧ xs.length ≤ 2001 ∧ ∀ H', Same H H' → Q (.bl true) H'
theorem filt_take {p : Nat → Bool} {b : List Nat} {m y : Nat} (h : b[m]? = some y) : (b.take (m + 1)).filter p = (b.take m).filter p ++ (if p y = true then [y] else []) := by
  rw [take_succ' h, List.filter_append]
  congr 1
  rw [List.filter_cons]
  split <;> rfl
theorem far_at {r : List Nat} {j : Nat} {i : Int} (h : j < (farB r).length) (e : i = (j : Int)) : atI ((farB r).map iN) i = some (iN ((farB r).getD j 0)) := by
  rw [e]
  exact iN_at h
section
variable {P : Program} {w : World} {K : PySem.W.Frag} {mg : Str → Option Value} {base : Heap}
end
end LawK
set_option maxHeartbeats 4000000
namespace Ev
open PySem PySem.Spec PyProof.Rows L2
/-! list(zip(xs, ys)) of two lists -/
/-- the list that is filled stands apart from what zip turns -/
structure ZOff (S z TI TO i1 i2 l1 l2 : Addr) : Prop where
  nz : z ≠ S
  nTI : TI ≠ S
  nTO : TO ≠ S
  n1 : i1 ≠ S
  n2 : i2 ≠ S
  m1 : l1 ≠ S
  m2 : l2 ≠ S
structure ZGo (xs ys : Array Value) (z TI TO i1 i2 l1 l2 S : Addr) (i : Nat) (h : Heap) : Prop where
  pr : IsPair h TI (.ref i1) (.ref i2)
  it1 : h.IsListIter i1 l1 i
  it2 : h.IsListIter i2 l2 i
  s1 : h.IsList l1 xs
  s2 : h.IsList l2 ys
  out : (IsZip h z TI TO .none ∧ ∃ a b, IsPair h TO a b) ∨ ∃ T f oT, IsZipHeld h z TI TO T f ∧ h.get? T = some oT ∧ T ≠ z ∧ T ≠ i1 ∧ T ≠ i2 ∧ T ≠ S
section
variable {xs ys : Array Value} {z TI TO i1 i2 l1 l2 S : Addr} {i : Nat}
theorem ZGo.keep {h h' : Heap} (O : ZOff S z TI TO i1 i2 l1 l2) (g : ZGo xs ys z TI TO i1 i2 l1 l2 S i h) (k : ∀ b o, b ≠ S → h.get? b = some o → h'.get? b = some o) : ZGo xs ys z TI TO i1 i2 l1 l2 S i h' := by
  obtain ⟨a1, a2, a3, a4, a5, a6⟩ := g
  constructor
  · exact k _ _ O.nTI a1
  · exact a2.at fun o => k _ o O.n1
  · exact a3.at fun o => k _ o O.n2
  · exact a4.at fun o => k _ o O.m1
  · exact a5.at fun o => k _ o O.m2
  · rcases a6 with ⟨p, a, b, q⟩ | ⟨T, f, oT, p, q, r1, r2, r3, r4⟩
    · exact .inl ⟨k _ _ O.nz p, a, b, k _ _ O.nTO q⟩
    · exact .inr ⟨T, f, oT, k _ _ O.nz p, k _ _ r4 q, r1, r2, r3, r4⟩
theorem ZGo.size {h : Heap} (g : ZGo xs ys z TI TO i1 i2 l1 l2 S i h) : z < h.objs.size := by
  rcases g.out with ⟨p, _⟩ | ⟨T, f, oT, p, _⟩
  · exact Heap.lt_size p
  · exact Heap.lt_size p
variable {P : Program} {w : World} {A : Around} {E : Value → Shared → Prop} {s : Shared}
theorem zl_item {x y : Value} {Q : Option Value → Shared → Prop} (D : ZipApart z TI TO i1 i2 l1 l2) (g : ZGo xs ys z TI TO i1 i2 l1 l2 S i s.heap) (hS : S < s.heap.objs.size) (ex : xs[i]? = some x) (ey : ys[i]? = some y)
    (hQ : ∀ h', ZGo xs ys z TI TO i1 i2 l1 l2 S (i + 1) h' → IsPair h' s.heap.objs.size x y → h'.objs.size = s.heap.objs.size + 1 → (∀ b o, b ≠ z → b ≠ TO → b ≠ i1 → b ≠ i2 → s.heap.get? b = some o → h'.get? b = some o) → Q (some (.ref s.heap.objs.size)) { s with heap := h' }) :
    wpAny (model P w) A (pyNext (.ref z)) Q E s := by
  have low : ∀ {b o}, s.heap.get? b = some o → s.heap.objs.size ≠ b := fun e => Nat.ne_of_gt (Heap.lt_size e)
  have l3 : s.heap.objs.size ≠ i1 := by
    obtain ⟨_, e, _⟩ := g.it1
    exact low e
  have l4 : s.heap.objs.size ≠ i2 := by
    obtain ⟨_, e, _⟩ := g.it2
    exact low e
  rcases g.out with ⟨p, a, b, q⟩ | ⟨T, f, oT, p, q, r1, r2, r3, r4⟩
  · apply wpAny_pyNext_zip_item D p g.pr q g.it1 g.it2 g.s1 g.s2 ex ey
    intro h' b1 b2 b3 b4 b5 b6 kp
    refine hQ h' ⟨kp _ _ D.TIz D.TITO D.TIi1 D.TIi2 g.pr, b3, b4, g.s1.at fun o => kp _ o D.l1z D.l1TO D.l1i1 D.l1i2, g.s2.at fun o => kp _ o D.l2z D.l2TO D.l2i1 D.l2i2, .inr ⟨_, false, _, b1, b5, low p, l3, l4, Nat.ne_of_gt hS⟩⟩ b5 b6 kp
  · apply wpAny_pyNext_zip_item_held D p q g.pr g.it1 g.it2 g.s1 g.s2 ex ey
    intro h' b1 b3 b4 b5 b6 kp
    refine hQ h' ⟨kp _ _ D.TIz D.TIi1 D.TIi2 g.pr, b3, b4, g.s1.at fun o => kp _ o D.l1z D.l1i1 D.l1i2, g.s2.at fun o => kp _ o D.l2z D.l2i1 D.l2i2, .inr ⟨T, true, oT, b1, kp _ _ r1 r2 r3 q, r1, r2, r3, r4⟩⟩ b5 b6 fun b o n1 _ n3 n4 => kp b o n1 n3 n4
theorem zl_done {Q : Option Value → Shared → Prop} (hh : A.handled = none) (D : ZipApart z TI TO i1 i2 l1 l2) (g : ZGo xs ys z TI TO i1 i2 l1 l2 S i s.heap) (he : xs[i]? = none ∨ ys[i]? = none)
    (hQ : ∀ h', (∀ b o, b ≠ z → b ≠ TO → b ≠ i1 → b ≠ i2 → s.heap.get? b = some o → h'.get? b = some o) → Q none { s with heap := h' }) : wpAny (model P w) A (pyNext (.ref z)) Q E s := by
  rcases g.out with ⟨p, a, b, q⟩ | ⟨T, f, oT, p, q, r1, r2, r3, r4⟩
  · exact wpAny_pyNext_zip_end hh D p g.pr q g.it1 g.it2 g.s1 g.s2 he hQ
  · exact wpAny_pyNext_zip_end_held hh D p q g.pr g.it1 g.it2 g.s1 g.s2 he fun h' kp => hQ h' fun b o n1 _ n3 n4 => kp b o n1 n3 n4
/-- pairs at rising places from B on -/
structure PrsAt (xs ys : Array Value) (B : Addr) (h : Heap) (ts : List Addr) : Prop where
  rise : ts.Pairwise (· < ·)
  low : ∀ t ∈ ts, B ≤ t
  at_ : ∀ (j : Nat) (t : Addr), ts[j]? = some t → ∃ x y, xs[j]? = some x ∧ ys[j]? = some y ∧ IsPair h t x y
theorem PrsAt.there {B : Addr} {h : Heap} {ts : List Addr} (g : PrsAt xs ys B h ts) {t : Addr} (m : t ∈ ts) : t < h.objs.size := by
  obtain ⟨j, hj⟩ := List.getElem?_of_mem m
  obtain ⟨_, _, _, _, e⟩ := g.at_ j t hj
  exact Heap.lt_size e
theorem PrsAt.keep {B : Addr} {h h' : Heap} {ts : List Addr} (g : PrsAt xs ys B h ts) (k : ∀ b o, B ≤ b → h.get? b = some o → h'.get? b = some o) : PrsAt xs ys B h' ts :=
  ⟨g.rise, g.low, fun j t e => let ⟨x, y, e1, e2, e3⟩ := g.at_ j t e; ⟨x, y, e1, e2, k _ _ (g.low t (List.mem_of_getElem? e)) e3⟩⟩
theorem PrsAt.snoc {B : Addr} {h : Heap} {ts : List Addr} {t : Addr} {x y : Value} (g : PrsAt xs ys B h ts) (hB : B ≤ t) (hr : ∀ u ∈ ts, u < t) (ex : xs[ts.length]? = some x) (ey : ys[ts.length]? = some y) (e : IsPair h t x y) : PrsAt xs ys B h (ts ++ [t]) := by
  refine ⟨List.pairwise_append.mpr ⟨g.rise, List.pairwise_singleton _ _, fun a ha b hb => (List.mem_singleton.mp hb) ▸ hr a ha⟩, fun u hu => ?_, fun j u hj => ?_⟩
  · rcases List.mem_append.mp hu with hu | hu
    · exact g.low u hu
    · exact (List.mem_singleton.mp hu) ▸ hB
  · rw [List.getElem?_append] at hj
    split at hj
    · exact g.at_ j u hj
    · rename_i nj
      cases ej : j - ts.length with
      | zero =>
        rw [ej] at hj
        cases hj
        have : j = ts.length := by omega
        subst this
        exact ⟨x, y, ex, ey, e⟩
      | succ m =>
        rw [ej] at hj
        cases hj
theorem zl_loop {R : Result → Shared → Prop} {B : Addr} {h₁ : Heap} {n : Nat} (hh : A.handled = none) (D : ZipApart z TI TO i1 i2 l1 l2) (O : ZOff S z TI TO i1 i2 l1 l2) (hn : n ≤ sizeLine) (ex : xs.size = n) (ey : n ≤ ys.size) (hB : z < B ∧ TO < B ∧ i1 < B ∧ i2 < B ∧ S < B) (res : Value)
    (hR : ∀ h' tk acc c ts, (∀ b o, b ≠ S → b ≠ z → b ≠ TO → b ≠ i1 → b ≠ i2 → h₁.get? b = some o → h'.get? b = some o) → h'.get? S = some { cls := .type "list", dict := none, data := .seq acc c, slots := #[] } → ts.length = n → PrsAt xs ys B h' ts → acc.toList = ts.map Value.ref → R (.ok (.ret res)) { s with heap := h', toks := tk }) :
    ∀ (k i : Nat) (h : Heap) (tk c : Nat) (acc : Array Value) (ts : List Addr), n - i = k → i ≤ n → ZGo xs ys z TI TO i1 i2 l1 l2 S i h → B ≤ h.objs.size → (∀ b o, b ≠ S → b ≠ z → b ≠ TO → b ≠ i1 → b ≠ i2 → h₁.get? b = some o → h.get? b = some o) → h.get? S = some { cls := .type "list", dict := none, data := .seq acc c, slots := #[] } → acc.toList = ts.map Value.ref → ts.length = i → PrsAt xs ys B h ts →
      codeAny (model P w) A (.builtin "list.extend.loop" ⟨[.ref S, .ref z, res], []⟩) R { s with heap := h, toks := tk } := by
  obtain ⟨B1, B2, B3, B4, B5⟩ := hB
  have nb : ∀ {u b : Addr}, u < B → B ≤ b → b ≠ u := fun h q => Nat.ne_of_gt (Nat.lt_of_lt_of_le h q)
  intro k
  induction k with
  | zero =>
    intro i h tk c acc ts hk hi g hs kp hS ea lt G
    apply codeAny_builtin PySem.F.entry_extend_loop
    rw [Around.under_plainId PySem.F.plain_extend_loop _]
    apply wpAny_bind
    refine zl_done (s := { s with heap := h, toks := tk }) (A := A.in1) hh D g (.inl (Array.getElem?_eq_none (by omega))) fun h' k' => wpAny_pure (hR h' tk acc c ts (fun b o n1 n2 n3 n4 n5 e => k' b o n2 n3 n4 n5 (kp b o n1 n2 n3 n4 n5 e)) (k' S _ O.nz.symm O.nTO.symm O.n1.symm O.n2.symm hS) (by omega) (G.keep fun b o q e => k' b o (nb B1 q) (nb B2 q) (nb B3 q) (nb B4 q) e) ea)
  | succ k ih =>
    intro i h tk c acc ts hk hi g hs kp hS ea lt G
    have lt2 : i < xs.size := by omega
    have lt3 : i < ys.size := by omega
    have sz : acc.size = i := by rw [← Array.length_toList, ea, List.length_map, lt]
    apply codeAny_builtin PySem.F.entry_extend_loop
    rw [Around.under_plainId PySem.F.plain_extend_loop _]
    apply wpAny_bind
    refine zl_item (s := { s with heap := h, toks := tk }) (A := A.in1) D g (Heap.lt_size hS) (Array.getElem?_eq_getElem lt2) (Array.getElem?_eq_getElem lt3) fun h' g' pt hz k' => ?_
    dsimp only at pt hz k' ⊢
    have hS' := k' S _ O.nz.symm O.nTO.symm O.n1.symm O.n2.symm hS
    have up : ∀ b o, b ≠ S → h'.get? b = some o → (h'.update S (Obj.mapSeq (·.push (Value.ref h.objs.size)))).get? b = some o := fun b o nb e => by
      rw [Heap.get?_update_other _ _ (Ne.symm nb)]
      exact e
    have szU : (h'.update S (Obj.mapSeq (·.push (Value.ref h.objs.size)))).objs.size = h'.objs.size := (Heap.SameBut.update ..).1
    show wpAny _ A.in1 (updateSeq S (fun v => v.push (Value.ref h.objs.size)) >>= _) _ _ _
    apply wpAny_bind
    refine wpAny_updateSeq hS' rfl (wpAny_pure ⟨plainId_quiet PySem.F.plain_extend_loop _, ih (i + 1) _ tk _ (acc.push (Value.ref h.objs.size)) (ts ++ [h.objs.size]) (by omega) (by omega) (g'.keep O up) (by rw [szU, hz]; exact Nat.le_succ_of_le hs) (fun b o n1 n2 n3 n4 n5 e => up b o n1 (k' b o n2 n3 n4 n5 (kp b o n1 n2 n3 n4 n5 e))) (Heap.get?_update_self _ hS' rfl) (by rw [Array.toList_push, ea, List.map_append] <;> rfl) (by rw [List.length_append, lt] <;> rfl) ?_⟩) (by omega) (by show (acc.push _).size ≤ _; rw [Array.size_push]; omega)
    have G' := (G.keep fun b o q e => k' b o (nb B1 q) (nb B2 q) (nb B3 q) (nb B4 q) e).keep fun b o (q : B ≤ b) e => up b o (nb B5 q) e
    exact G'.snoc hs (fun u hu => G.there hu) (by rw [lt]; exact Array.getElem?_eq_getElem lt2) (by rw [lt]; exact Array.getElem?_eq_getElem lt3) (up _ _ (nb B5 hs) pt)
theorem zl_nolen : typeLookup (.type "zip") "__len__" = pure none := am_miss_of_fast (by decide +kernel)
theorem zl_nohint : typeLookup (.type "zip") "__length_hint__" = pure none := am_miss_of_fast (by decide +kernel)
theorem zl_call {Q : Value → Shared → Prop} {n : Nat} (hh : A.handled = none) (D : ZipApart z TI TO i1 i2 l1 l2) (hn : n ≤ sizeLine) (ex : xs.size = n) (ey : n ≤ ys.size) (hl : l1 < s.heap.objs.size ∧ l2 < s.heap.objs.size)
    (hz : IsZip s.heap z TI TO .none) (hT : IsPair s.heap TI (.ref i1) (.ref i2)) (hO : ∃ a b, IsPair s.heap TO a b) (hi1 : s.heap.IsListIter i1 l1 0) (hi2 : s.heap.IsListIter i2 l2 0) (hx : s.heap.IsList l1 xs) (hy : s.heap.IsList l2 ys)
    (hQ : ∀ h' tk acc c ts, (∀ b o, b ≠ z → b ≠ TO → b ≠ i1 → b ≠ i2 → s.heap.get? b = some o → h'.get? b = some o) → h'.get? s.heap.objs.size = some { cls := .type "list", dict := none, data := .seq acc c, slots := #[] } → ts.length = n → PrsAt xs ys (s.heap.objs.size + 1) h' ts → acc.toList = ts.map Value.ref → Q (.ref s.heap.objs.size) { s with heap := h', toks := tk }) :
    wpAny (model P w) A (call (.type "list") [.ref z]) Q E s := by
  obtain ⟨q5, q6⟩ := hl
  have g : ZGo xs ys z TI TO i1 i2 l1 l2 s.heap.objs.size 0 s.heap := ⟨hT, hi1, hi2, hx, hy, .inl ⟨hz, hO⟩⟩
  have q0 : z < s.heap.objs.size := Heap.lt_size hz
  have q1 : i1 < s.heap.objs.size := let ⟨_, e, _⟩ := hi1; Heap.lt_size e
  have q2 : i2 < s.heap.objs.size := let ⟨_, e, _⟩ := hi2; Heap.lt_size e
  have q3 : TI < s.heap.objs.size := Heap.lt_size hT
  have q4 : TO < s.heap.objs.size := let ⟨_, _, e⟩ := hO; Heap.lt_size e
  have O : ZOff s.heap.objs.size z TI TO i1 i2 l1 l2 := ⟨Nat.ne_of_lt q0, Nat.ne_of_lt q3, Nat.ne_of_lt q4, Nat.ne_of_lt q1, Nat.ne_of_lt q2, Nat.ne_of_lt q5, Nat.ne_of_lt q6⟩
  refine callType_codes (Q₁ := fun obj s₁ => obj = .ref s.heap.objs.size ∧ s₁ = { s with heap := s.heap.push { cls := .type "list", data := .seq #[] } }) F.called_list (F.typeCall_list_1 _) F.entry_list_init (code_list_new _ ⟨rfl, rfl⟩) ?_
  intro obj s₁ hs₁; obtain ⟨rfl, rfl⟩ := hs₁
  have hS : (s.heap.push { cls := .type "list", data := .seq #[] }).get? s.heap.objs.size = some { cls := .type "list", data := .seq #[] } := Heap.get?_push_size _ rfl
  refine ⟨⟨_, hS, rfl⟩, F.args_list_init_2 _ _, ?_⟩
  show wpAny _ A.in1.in1 (Builtin.List.listItems (.ref s.heap.objs.size) >>= fun old => Builtin.List.listUpdate (.ref s.heap.objs.size) (fun _ => #[]) >>= fun _ => letGo old.toList.reverse >>= fun _ => Builtin.List.listExtendWith (.ref s.heap.objs.size) (.ref z) .none) _ _ _
  apply wpAny_bind; unfold Builtin.List.listItems
  apply wpAny_bind; refine wpAny_seqItems hS rfl (wpAny_pure ?_)
  show wpAny _ A.in1.in1 (updateSeq s.heap.objs.size (fun _ => #[]) >>= fun _ => letGo (#[] : Array Value).toList.reverse >>= _) _ _ _
  apply wpAny_bind; refine wpAny_updateSeq hS rfl ?_
  have hS2 := Heap.get?_update_self (Obj.mapSeq (fun _ => (#[] : Array Value))) hS rfl
  have keep0 : ∀ b o, b ≠ s.heap.objs.size → (s.heap.push { cls := .type "list", data := .seq #[] }).get? b = some o → ((s.heap.push { cls := .type "list", data := .seq #[] }).update s.heap.objs.size (Obj.mapSeq (fun _ => (#[] : Array Value)))).get? b = some o := fun b o nb e => by
    rw [Heap.get?_update_other _ _ (Ne.symm nb)]
    exact e
  have pu : ∀ b o, b ≠ s.heap.objs.size → s.heap.get? b = some o → (s.heap.push { cls := .type "list", data := .seq #[] }).get? b = some o := fun b o _ e => Heap.get?_push_of_some _ e
  have g2 : ZGo xs ys z TI TO i1 i2 l1 l2 s.heap.objs.size 0 ((s.heap.push { cls := .type "list", data := .seq #[] }).update s.heap.objs.size (Obj.mapSeq (fun _ => (#[] : Array Value)))) := (g.keep O pu).keep O keep0
  have sz2 : ((s.heap.push { cls := .type "list", data := .seq #[] }).update s.heap.objs.size (Obj.mapSeq (fun _ => (#[] : Array Value)))).objs.size = s.heap.objs.size + 1 := by
    rw [(Heap.SameBut.update ..).1, Heap.size_push]
  have kA : ∀ b o, s.heap.get? b = some o → ((s.heap.push { cls := .type "list", data := .seq #[] }).update s.heap.objs.size (Obj.mapSeq (fun _ => (#[] : Array Value)))).get? b = some o := fun b o e => keep0 b o (Nat.ne_of_lt (Heap.lt_size e)) (Heap.get?_push_of_some _ e)
  revert hS2 g2 sz2 kA
  generalize (s.heap.push { cls := .type "list", data := .seq #[] }).update s.heap.objs.size (Obj.mapSeq (fun _ => (#[] : Array Value))) = h2
  intro hS2 g2 sz2 kA
  have hz2 := kA _ _ hz
  apply wpAny_bind; refine wpAny_letGo ?_
  unfold Builtin.List.listExtendWith
  have ty : (⟨h2, s.gens, s.drawn, s.toks, s.os⟩ : Shared).TypeIs (.ref z) "zip" := ⟨_, hz2, rfl⟩
  apply wpAny_bind; refine wpAny_typeOf (T := "zip") ty ?_
  have t1 : Builtin.List.listSameRef (.ref s.heap.objs.size) (.ref z) = false := by
    have : s.heap.objs.size ≠ z := Nat.ne_of_gt q0
    simp [Builtin.List.listSameRef, this]
  have t2 : (Value.type "zip" == Value.type "list") = false := by decide
  have t3 : (Value.type "zip" == Value.type "tuple") = false := by decide
  simp only [t1, t2, t3, Bool.or_false, Bool.false_eq_true, if_false]
  apply wpAny_bind; refine wpAny_pyIter_zip hz2 ?_
  apply wpAny_bind; refine wpAny_holding ?_
  unfold Builtin.List.listLengthHint
  apply wpAny_bind; refine wpAny_specialOf ty zl_nolen ?_
  show wpAny _ A.in1.in1 (specialOf (.ref z) (Str.ofString "__length_hint__") >>= _) _ _ _
  apply wpAny_bind; refine wpAny_specialOf ty zl_nohint (wpAny_pure ?_)
  show wpAny _ A.in1.in1 (rule "list.extend.makes-room" >>= fun _ => (updateSeq s.heap.objs.size (·.push .none) >>= fun _ => updateSeq s.heap.objs.size (·.pop)) >>= fun _ => again (.builtin "list.extend.loop" ⟨[.ref s.heap.objs.size, .ref z, .none], []⟩)) _ _ _
  apply wpAny_bind; refine wpAny_rule ?_
  apply wpAny_bind; apply wpAny_bind; refine wpAny_updateSeq hS2 rfl ?_
  have hS3 := Heap.get?_update_self (Obj.mapSeq (·.push Value.none)) hS2 rfl
  refine wpAny_updateSeq (hz := by seq_fits) hS3 rfl ?_
  have hS4 := Heap.get?_update_self (Obj.mapSeq (·.pop)) hS3 rfl
  have kB : ∀ b o, b ≠ s.heap.objs.size → h2.get? b = some o → ((h2.update s.heap.objs.size (Obj.mapSeq (·.push Value.none))).update s.heap.objs.size (Obj.mapSeq (·.pop))).get? b = some o := fun b o nb e => by
    rw [Heap.get?_update_other _ _ (Ne.symm nb), Heap.get?_update_other _ _ (Ne.symm nb)]
    exact e
  have sz4 : ((h2.update s.heap.objs.size (Obj.mapSeq (·.push Value.none))).update s.heap.objs.size (Obj.mapSeq (·.pop))).objs.size = s.heap.objs.size + 1 := by
    rw [(Heap.SameBut.update ..).1, (Heap.SameBut.update ..).1, sz2]
  have g4 := g2.keep O kB
  refine wpAny_pure ⟨plainId_quiet F.plain_extend_loop _, ?_⟩
  refine zl_loop (A := A.in1) (s := s) (h₁ := s.heap) (B := s.heap.objs.size + 1) (n := n) hh D O hn ex ey ⟨Nat.lt_succ_of_lt q0, Nat.lt_succ_of_lt q4, Nat.lt_succ_of_lt q1, Nat.lt_succ_of_lt q2, Nat.lt_succ_self _⟩ .none (fun h' tk acc c ts kp e1 e2 e3 e4 => ?_) n 0 _ s.toks _ #[] [] (Nat.sub_zero _) (Nat.zero_le _) g4 (by rw [sz4]; exact Nat.le_refl _) (fun b o n1 _ _ _ _ e => kB b o n1 (kA b o e)) hS4 rfl rfl ⟨List.Pairwise.nil, (fun _ m => nomatch m), fun j t e => by simp at e⟩
  exact ⟨rfl, hQ h' tk acc c ts (fun b o n2 n3 n4 n5 e => kp b o (Nat.ne_of_lt (Heap.lt_size e)) n2 n3 n4 n5 e) e1 e2 e3 e4⟩
end
/-- pairs laid at their addresses -/
def layP : Hp → List Addr → List (V × V) → Hp
  | H, t :: ts, p :: ps => layP (upd H t (.tup [p.1, p.2])) ts ps
  | H, _, _ => H
theorem layP_off {b : Addr} : ∀ (ts : List Addr) (ps : List (V × V)) (H : Hp), b ∉ ts → layP H ts ps b = H b
  | [], _, _, _ => rfl
  | _ :: _, [], _, _ => rfl
  | t :: ts, p :: ps, H, h => by
    have := layP_off ts ps (upd H t (.tup [p.1, p.2])) (fun m => h (.tail _ m))
    rw [upd_ne (fun z => h (by rw [z]; exact List.mem_cons_self))] at this
    exact this
theorem layP_at : ∀ (ts : List Addr) (ps : List (V × V)) (H : Hp), ts.length = ps.length → ts.Nodup → ∀ (j : Nat) (t : Addr), ts[j]? = some t → ∃ p, ps[j]? = some p ∧ layP H ts ps t = some (.tup [p.1, p.2])
  | [], _, _, _, _, j, t, e => by simp at e
  | _ :: _, [], _, h, _, _, _, _ => by cases h
  | u :: ts, p :: ps, H, h, hn, j, t, e => by
    obtain ⟨n1, n2⟩ := List.nodup_cons.mp hn
    cases j with
    | zero =>
      cases e
      exact ⟨p, rfl, (layP_off ts ps _ n1).trans upd_same⟩
    | succ j => exact layP_at ts ps _ (Nat.succ.inj h) n2 j t e
theorem refs_vals : ∀ ts : List Addr, Vals (ts.map V.ref) (ts.map Value.ref)
  | [] => .nil
  | _ :: ts => .cons rfl (refs_vals ts)
/-- the pairs of xs and ys, new, and a new list of them -/
def rZipL (K : PySem.W.Frag) : List V → Hp → VK → Prop := fun vs H Q => ∃ (a b : Addr) (xs ys : List V), vs = [.ref a, .ref b] ∧ SqL K H a xs ∧ SqL K H b ys ∧ xs.length ≤ ys.length ∧
  ∀ (H' : Hp) (L : Addr) (ts : List Addr), Same H H' → H L = none → (∀ t ∈ ts, H t = none) → L ∉ ts → ts.Nodup → ts.length = xs.length → H' L = some (.lst (ts.map V.ref)) → (∀ (j : Nat) (t : Addr), ts[j]? = some t → ∃ x y, xs[j]? = some x ∧ ys[j]? = some y ∧ H' t = some (.tup [x, y])) → Q (.ref L) H'
def tZipL (K : PySem.W.Frag) (ta : TA) : TE := fun σ H Q => ta σ H fun vs H1 => rZipL K vs H1 Q
section
variable {X : Cx} {e e2 : Expr} {ta : TA} {p p2 pos pos2 : Pos}
theorem vals_at {xs : List V} {us : List Value} (h : Vals xs us) {i : Nat} {u : Value} (e : us[i]? = some u) : ∃ x, xs[i]? = some x ∧ RelV x u := by
  induction h generalizing i with
  | nil => simp at e
  | cons r _ ih =>
    cases i with
    | zero =>
      cases e
      exact ⟨_, rfl, r⟩
    | succ i => exact ih e
theorem pairs_laid {pins : List (Addr × Obj)} {σ : L2.St} {H : Hp} {s : Shared} {h' : Heap} {tk S : Nat} {xs ys : List V} {us vs : List Value} {acc : Array Value} {c : Nat} {ts : List Addr} (I : Inv X pins σ H s) (hz : xs.length ≤ sizeLine) (hxy : xs.length ≤ ys.length) (rx : Vals xs us) (ry : Vals ys vs)
    (hk : ∀ b o, s.heap.get? b = some o → h'.get? b = some o) (hle : s.heap.objs.size ≤ S) (hS : h'.get? S = some { cls := .type "list", dict := none, data := .seq acc c, slots := #[] }) (hl : ts.length = us.length) (hG : PrsAt us.toArray vs.toArray (S + 1) h' ts) (hacc : acc.toList = ts.map Value.ref) :
    ∃ H' : Hp, Same H H' ∧ H S = none ∧ (∀ t ∈ ts, H t = none) ∧ S ∉ ts ∧ ts.Nodup ∧ H' S = some (.lst (ts.map V.ref)) ∧ (∀ (j : Nat) (t : Addr), ts[j]? = some t → ∃ x y, xs[j]? = some x ∧ ys[j]? = some y ∧ H' t = some (.tup [x, y])) ∧ Inv X pins σ H' { s with heap := h', toks := tk } := by
  have lx := rx.length
  have Sn : S ∉ ts := fun m => Nat.lt_irrefl _ (Nat.lt_of_lt_of_le (Nat.lt_succ_self S) (hG.low S m))
  have nd : ts.Nodup := hG.rise.imp fun {a b} (h : a < b) => Nat.ne_of_lt h
  have fr : ∀ t ∈ ts, H t = none := fun t m => I.hok.fresh (Nat.le_trans hle (Nat.le_trans (Nat.le_succ S) (hG.low t m)))
  have frS : H S = none := I.hok.fresh hle
  have lz : ts.length = (xs.zip ys).length := by rw [List.length_zip]; omega
  have eoff : ∀ b, b ∉ ts → b ≠ S → layP (upd H S (.lst (ts.map V.ref))) ts (xs.zip ys) b = H b := fun b n1 n2 => (layP_off ts _ _ n1).trans (upd_ne n2)
  have eat : ∀ j t, ts[j]? = some t → ∃ x y, xs[j]? = some x ∧ ys[j]? = some y ∧ layP (upd H S (.lst (ts.map V.ref))) ts (xs.zip ys) t = some (.tup [x, y]) := fun j t e => by
    obtain ⟨q, e1, e2⟩ := layP_at ts (xs.zip ys) (upd H S (.lst (ts.map V.ref))) lz nd j t e
    obtain ⟨e3, e4⟩ := List.getElem?_zip_eq_some.mp e1
    exact ⟨q.1, q.2, e3, e4, e2⟩
  have eS : layP (upd H S (.lst (ts.map V.ref))) ts (xs.zip ys) S = some (.lst (ts.map V.ref)) := (layP_off ts _ _ Sn).trans upd_same
  have kp : ∀ b u, H b = some u → layP (upd H S (.lst (ts.map V.ref))) ts (xs.zip ys) b = some u := fun b u e => by
    rw [eoff b (fun m => by rw [fr b m] at e; cases e) (fun z => by rw [z, frS] at e; cases e)]
    exact e
  have low : ∀ b o, s.heap.get? b = some o → b ∉ ts ∧ b ≠ S := fun b o e => ⟨fun m => Nat.lt_irrefl b (Nat.lt_of_lt_of_le (Heap.lt_size e) (Nat.le_trans hle (Nat.le_trans (Nat.le_succ S) (hG.low b m)))), Nat.ne_of_lt (Nat.lt_of_lt_of_le (Heap.lt_size e) hle)⟩
  refine ⟨layP (upd H S (.lst (ts.map V.ref))) ts (xs.zip ys), kp, frS, fr, Sn, nd, eS, eat, ?_⟩
  refine I.call' (ch := []) rfl ⟨fun b o q _ _ _ => hk b o q, fun b o q _ _ _ => ⟨o.slots, hk b o q⟩, fun b o q n _ => (eoff b (low b o q).1 (low b o q).2).trans n, fun b o q _ => ⟨o, hk b o q⟩, fun b _ q => kp b _ q, fun b o u q => kp b _ q, fun b ps q => ⟨#[], by rw [kp b _ q]; simp⟩⟩ (fun b u q => ?_) I.bare fun b m => by simp at m
  by_cases m : b ∈ ts
  · obtain ⟨j, hj⟩ := List.getElem?_of_mem m
    obtain ⟨x, y, e1, e2, e3⟩ := eat j b hj
    rw [e3] at q
    cases q
    obtain ⟨u1, u2, f1, f2, f3⟩ := hG.at_ j b hj
    obtain ⟨x', g1, g2⟩ := vals_at rx (i := j) (u := u1) (by simpa using f1)
    obtain ⟨y', g3, g4⟩ := vals_at ry (i := j) (u := u2) (by simpa using f2)
    rw [e1] at g1
    rw [e2] at g3
    cases g1
    cases g3
    exact ⟨by show 2 ≤ sizeLine; decide, [u1, u2], .cons g2 (.cons g4 .nil), ⟨_, f3, rfl, _, rfl⟩⟩
  by_cases m2 : b = S
  · subst m2
    rw [eS] at q
    cases q
    refine ⟨by rw [List.length_map]; omega, acc.toList, c, by rw [hacc]; exact refs_vals ts, ?_⟩
    rw [Array.toArray_toList]
    exact hS
  · rw [eoff b m m2] at q
    exact (I.hok b u q).stay (fun d v _ y => hk d v y) (fun d y => kp d _ y) fun d xs y => kp d _ y
/-- list(zip(e, e2)) -/
theorem pe_listZip {K : PySem.W.Frag} (hK : X.K = K) (hc : X.calm = true) (ha : PA X [e, e2] ta) (hg : Gl X "list") (hm : X.mg "list" = none) (hg2 : Gl X "zip") (hm2 : X.mg "zip" = none)
    (hs2 : starEach [e, e2] X.env = (false, eval e X.env) :: starEach [e2] X.env := by rfl) (hpl2 : (backTo pos2 (starEach [e2] X.env)).any (·.1) = false := by rfl)
    (hs : starEach [.Call (.Name "zip" p2) [e, e2] [] pos2] X.env = (false, eval (.Call (.Name "zip" p2) [e, e2] [] pos2) X.env) :: starEach [] X.env := by rfl) :
    PE X (.Call (.Name "list" p) [.Call (.Name "zip" p2) [e, e2] [] pos2] [] pos) (tZipL K ta) := by
  subst hK
  refine ⟨fun pins s σ H Q I hq => wpAny_Call_Name_kw (ld_blt I hg hm boot_list (PyProof.Rows.callWith_type1 ?_ hs rfl))⟩
  rw [hs]
  apply Calls.spliced_cons
  refine Call_ (ld_blt I hg2 hm2 PyProof.Rows.boot_zip (PyProof.Rows.callWith_type1 (thn (ha.run pos2 pins s σ H _ I hq) fun us s1 ⟨vs, H1, I1, r1, a, b, xs, ys, ex, qx, qy, hxy, q⟩ => ?_) hs2 hpl2))
  subst ex
  cases r1 with
  | cons r rr =>
  cases rr with
  | cons r' rr =>
  cases rr
  cases r
  cases r'
  obtain ⟨its, rv, p1, hz1⟩ := I1.list qx
  obtain ⟨its2, rv2, p3, hz2⟩ := I1.list qy
  have n1 := rv.length
  have n2 := rv2.length
  refine call_zip_2 p1.isList p3.isList fun h' hz hTI hTO h1 h2 hsz hk => ?_
  apply Calls.spliced_nil
  have D := PySem.W.ktu_apart s1.heap.objs.size a b p1.lt p3.lt
  have l1 : a < h'.objs.size := by rw [hsz]; exact Nat.lt_of_lt_of_le p1.lt (Nat.le_add_right _ _)
  have l2 : b < h'.objs.size := by rw [hsz]; exact Nat.lt_of_lt_of_le p3.lt (Nat.le_add_right _ _)
  refine zl_call (s := { s1 with heap := h' }) (n := xs.length) (I1.ok.hd hc) D hz1 (by rw [List.size_toArray]; exact n1.symm) (by rw [List.size_toArray]; exact n2 ▸ hxy) ⟨l1, l2⟩ hz hTI ⟨_, _, hTO⟩ h1 h2 (p1.isList.at fun o e => hk _ o e) (p3.isList.at fun o e => hk _ o e) fun h2 tk acc c ts kp e1 e2 e3 e4 => ?_
  have low : ∀ {b o}, s1.heap.get? b = some o → ∀ k, b ≠ s1.heap.objs.size + k := fun e k => Nat.ne_of_lt (Nat.lt_of_lt_of_le (Heap.lt_size e) (Nat.le_add_right _ _))
  have e1' : h2.get? h'.objs.size = some { cls := .type "list", dict := none, data := .seq acc c, slots := #[] } := e1
  obtain ⟨H', k1, k2, k3, k4, k5, k6, k7, J⟩ := pairs_laid (tk := tk) (h' := h2) (S := h'.objs.size) I1 hz1 hxy rv rv2 (fun b o e => kp b o (low e 4) (low e 3) (low e 0) (low e 1) (hk b o e)) (by rw [hsz]; exact Nat.le_add_right _ _) e1' (e2.trans n1) e3 e4
  exact ⟨.ref h'.objs.size, H', J, rfl, q H' _ ts k1 k2 k3 k4 k5 e2 k6 k7⟩
end
end Ev
set_option maxHeartbeats 4000000
namespace LawK
open PySem PySem.Spec PyProof.Rows L2 Ev

/-- the blocks of a row, each a pair of where it begins and ends -/
def StL (H : Hp) (v : V) (z : Str) (b : List Nat) : Prop := ∃ (c : Addr) (ts : List Addr), v = .ref c ∧ H c = some (.lst (ts.map V.ref)) ∧ ts.length = b.length ∧ ∀ (k : Nat) (t : Addr), ts[k]? = some t → H t = some (.tup [iN (b.getD k 0), iN (endB z b k)])
theorem StL.same {H H' : Hp} {v : V} {z : Str} {b : List Nat} (h : StL H v z b) (k : Same H H') : StL H' v z b := let ⟨c, ts, e, hc, l, q⟩ := h; ⟨c, ts, e, k _ _ hc, l, fun j t e => k _ _ (q j t e)⟩
def spStr : Sp := fun vs H Q _ => ∃ (z : Str), vs = [.str z] ∧ sgB z = true ∧ z.length ≤ 2000 ∧ ∀ L xs H', H L = none → H' L = some (.lst xs) → All2 (fun v b => StL H' v z b ∧ ∃ c, v = .ref c ∧ H c = none) xs (lvAll z) → xs.length ≤ 2001 → Same H H' → Q (.ref L) H'
theorem end_at {z : Str} {b : List Nat} {k : Nat} (h : k < b.length) : (b.drop 1 ++ [z.length])[k]? = some (endB z b k) := by
  unfold endB
  by_cases g : k + 1 < b.length
  · rw [if_pos g, List.getElem?_append_left (by rw [List.length_drop]; omega), List.getElem?_drop, Nat.add_comm 1 k]
    exact get1 g
  · rw [if_neg g, List.getElem?_append_right (by rw [List.length_drop]; omega), show k - (b.drop 1).length = 0 by rw [List.length_drop]; omega]
    rfl
theorem lv_begs' {z : Str} {b : List Nat} (h : b ∈ lvAll z) : b.length ≤ z.length := by
  obtain ⟨i, hi⟩ := List.getElem?_of_mem h
  exact ((chain_all z).begs hi).few
section
variable {P : Program} {w : World} {K : PySem.W.Frag} {mg : Str → Option Value} {base : Heap}
variable {PE cN : Addr}
abbrev sQStr : Stmt := topS 24
theorem scQStr : FnScope ["text", "begins"] ["text"] (defScope sQStr) := ⟨rfl, rfl, rfl, by decide +kernel, rfl, by decide +kernel, by decide +kernel⟩
theorem ok_QStr {f : Addr} {fd : FuncData} (F : Fun K "_stretches" "_stretches" sQStr f fd)  {fQLevels : Addr} {fdQLevels : FuncData} (DQLevels : Dk P w K mg base "_levels" sQLevels ["text"] 5 spLevels fQLevels fdQLevels) (T : Glob mg) : FnOk P w K mg base CX0 6 f fd ["text"] spStr := by
  refine F.ok scQStr (fun vs H Q E h => ?_) (fun cdv A outer s H vs Q E hr h => ?_)
  · obtain ⟨z, rfl, _⟩ := h
    rfl
  · refine ⟨_, (pss_one (ps_ret (pe_lc (own := [("begins", 1)]) (g := gName 1) (by rfl) scQStr.nd (pi_list (pe_call DQLevels.ok (hr.mono (by decide)) (by rfl) DQLevels.g DQLevels.F.kp DQLevels.b .nil pass0 (pa_cons (pv 0) pa_nil))) (blkOk_by (N := ["text", "begins"]) (sc := defScope sQStr) (by decide +kernel)) (fun _ _ _ _ _ => pg_name (i := 1) scQStr.nd rfl (.inl rfl)) (fun _ _ _ _ _ => pts_nil) (fun _ _ _ _ _ => (pe_listZip (K := K) rfl rfl (pa_cons (pv 1) (pa_cons (pe_op op_cat (pe_slice (r := rSlL K) sl_list (pv 1) (po_some pe_int) po_none) (pe_lst (pa_cons (pe_callB call_lenZ (by rfl) T.len PySem.boot_len (pa_cons (pv 0) pa_nil)) pa_nil))) pa_nil)) (by rfl) T.list (by rfl) T.zip))))), ?_⟩
    obtain ⟨z, rfl, hz, lz, q⟩ := h
    have s1 : (1 : Nat) ≤ sizeLine := by decide
    refine ⟨.str z, rfl, z, rfl, hz, lz, fun L0 xs0 H1 hL0 hx0 lx0 k1 => ?_⟩
    have ln : xs0.length = (lvAll z).length := All2.len hx0
    refine ⟨L0, rfl, ⟨_, sq_of hL0⟩, fun D nD => lc_list (xs := xs0) (fun i H6 => ∃ ys, Same H1 H6 ∧ H6 D = some (.lst ys) ∧ All2 (fun v b => StL H6 v z b ∧ v ≠ .ref D ∧ ∃ c, v = .ref c ∧ H c = none) ys ((lvAll z).take i)) ⟨[], Same.new nD, upd_same, .nil⟩ (fun i H6 _ ⟨_, w, _⟩ => sq_of (w _ _ hL0)) ?_ ?_⟩
    · rintro i v H6 hv ⟨ys, k6, hD, hys⟩
      obtain ⟨b, hb, c, rfl, ncL, hc⟩ := All2.at hx0 hv
      have fb := lv_begs' (List.mem_of_getElem? hb)
      have hc6 := k6 _ _ hc
      refine ⟨rfl, .ref c, rfl, .ref c, rfl, 1, rfl, c, _, rfl, sq_of hc6, fun d nd => ?_⟩
      have kd := Same.new (o := .lst (cutV (b.map iN) (some 1) none)) nd
      have hd : upd H6 d (.lst (cutV (b.map iN) (some 1) none)) d = some (.lst ((b.drop 1).map iN)) := by
        rw [upd_same, cutV_from (by decide), List.map_drop]
        rfl
      revert kd hd
      generalize upd H6 d (.lst (cutV (b.map iN) (some 1) none)) = H7
      intro kd hd
      refine ⟨.str z, rfl, z, rfl, len5 (by omega), s1, fun e ne => ?_⟩
      have ke := Same.new (o := .lst [.int (z.length : Nat)]) ne
      have he : upd H7 e (.lst [.int (z.length : Nat)]) e = some (.lst [iN z.length]) := upd_same
      revert ke he
      generalize upd H7 e (.lst [.int (z.length : Nat)]) = H8
      intro ke he
      refine ⟨d, e, _, _, rfl, rfl, ke _ _ hd, he, by rw [List.length_map, List.length_drop]; show _ ≤ 16777216; have : [iN z.length].length = 1 := rfl; omega, fun f nf => ?_⟩
      have kf := Same.new (o := .lst ((b.drop 1).map iN ++ [iN z.length])) nf
      have hf : upd H8 f (.lst ((b.drop 1).map iN ++ [iN z.length])) f = some (.lst ((b.drop 1 ++ [z.length]).map iN)) := by
        rw [upd_same, List.map_append]
        rfl
      revert kf hf
      generalize upd H8 f (.lst ((b.drop 1).map iN ++ [iN z.length])) = H9
      intro kf hf
      have k69 := (kd.trans ke).trans kf
      refine ⟨c, f, _, _, rfl, sq_of (k69 _ _ hc6), sq_of hf, by simp only [List.length_map, List.length_append, List.length_drop, List.length_cons, List.length_nil]; omega, fun H10 M ts k10 nM nts nMt ndt lt hM hts => ?_⟩
      have k610 := k69.trans k10
      have hD10 := k610 _ _ hD
      have ly := All2.len hys
      rw [List.length_take] at ly
      refine ⟨_, hD10, ?_, ys ++ [.ref M], sameAt (k6.trans k610) nD, upd_same, ?_⟩
      · show _ < 16777216
        omega
      have up : ∀ c o, c ≠ D → H10 c = some o → upd H10 D (.lst (ys ++ [.ref M])) c = some o := fun c o n w => by rw [upd_ne n]; exact w
      have nMD : M ≠ D := fun w => by rw [w, k69 _ _ hD] at nM; cases nM
      have keep : ∀ {v b}, StL H10 v z b → v ≠ .ref D → (∀ (t : Addr) x, H10 t = some (.tup x) → t ≠ D) → StL (upd H10 D (.lst (ys ++ [.ref M]))) v z b := fun {v b} w n n2 => by
        obtain ⟨c, ts, rfl, h1, h2, h3⟩ := w
        exact ⟨c, ts, rfl, up _ _ (fun w => n (by rw [w])) h1, h2, fun k t e => up _ _ (n2 t _ (h3 k t e)) (h3 k t e)⟩
      have n2 : ∀ (t : Addr) x, H10 t = some (.tup x) → t ≠ D := fun t x w y => by rw [y, hD10] at w; cases w
      rw [take_succ' hb]
      refine All2.snoc (All2.imp (fun v r w => ⟨keep (w.1.same k610) w.2.1 n2, w.2⟩) hys) ⟨keep ⟨M, ts, rfl, hM, by rw [lt, List.length_map], fun k t e => ?_⟩ (fun w => nMD (V.ref.inj w)) n2, fun w => nMD (V.ref.inj w), M, rfl, Same.free k1 (Same.free k6 (Same.free k69 nM))⟩
      obtain ⟨x, y, e1, e2, e3⟩ := hts k t e
      have hk : k < b.length := by
        have := (List.getElem?_eq_some_iff.mp e).1
        rw [lt, List.length_map] at this
        exact this
      rw [List.getElem?_map, get1 hk] at e1
      rw [List.getElem?_map, end_at hk] at e2
      cases e1
      cases e2
      exact e3
    · rintro H6 ⟨ys, k6, hD, hys⟩
      rw [ln, List.take_of_length_le (Nat.le_refl _)] at hys
      exact q D ys H6 (Same.free k1 nD) hD (All2.imp (fun v r w => ⟨w.1, w.2.2⟩) hys) (by rw [All2.len hys, ← ln]; exact lx0) (k1.trans k6)
end
end LawK
set_option maxHeartbeats 4000000
namespace Ev
open PySem PySem.Spec PyProof.Rows L2
/-! list(d.keys()) -/
def tListKeys (te : TE) : TE := fun σ H Q => te σ H fun x H1 => ∃ (d : Addr) (kvs : List (Key × V)), x = .ref d ∧ H1 d = some (.dK kvs) ∧ ∀ q, H1 q = none → Q (.ref q) (upd H1 q (.lst (kvs.map fun kv => kV kv.1)))
section
variable {X : Cx} {e : Expr} {te : TE} {p apos cpos pos : Pos}
theorem pe_listKeys (hc : X.calm = true) (he : PE X e te) (hg : Gl X "list") (hm : X.mg "list" = none) (hbase : attributeBase e "keys" X.env (eval e X.env) = eval e X.env := by rfl) (hline : (apos.endLine == cpos.line) = true := by rfl)
    (hs : starEach [.Call (.Attribute e "keys" apos) [] [] cpos] X.env = (false, eval (.Call (.Attribute e "keys" apos) [] [] cpos) X.env) :: starEach [] X.env := by rfl) : PE X (.Call (.Name "list" p) [.Call (.Attribute e "keys" apos) [] [] cpos] [] pos) (tListKeys te) := by
  refine ⟨fun pins s σ H Q I hq => wpAny_Call_Name_kw (ld_blt I hg hm boot_list (PyProof.Rows.callWith_type1 ?_ hs rfl))⟩
  rw [hs]; refine Calls.spliced_cons ?_
  refine wpAny_Call_method (T := "dict") (id := "dict.keys") hbase rfl hline F.plainAttrs_dict F.slot_dict_keys F.type_dict_keys (thn (he.run pins s σ H _ I hq) fun u s1 ⟨x, H1, I1, rx, d, kvs, ex, hd, q⟩ => ?_)
  subst ex
  obtain rfl : u = Value.ref d := rx
  obtain ⟨hz, lo, vs, kv, hdo⟩ := I1.hok d _ hd
  obtain ⟨ep, hat⟩ := hdo.dictAt
  have lk : kvs.length = vs.length := Paired.length kv
  have I2 : Inv X pins σ H1 { s1 with heap := s1.heap.push { cls := .type "dict_keys", data := .fields #[.ref d] } } := I1.kept (t' := s1.toks) fun b ob w => Heap.get?_push_of_some _ w
  refine ⟨hdo.typeIs, hdo.mapOf.noDict, ?_⟩
  show wpAny _ _ (callWith cpos (.builtin "dict.keys") [.ref d] [] []) _ X.xe s1
  refine method_meetsIn F.slot_dict_keys F.entry_dict_keys rfl (PySem.evalArgs_none ⟨rfl, hdo.typeIs, F.args_dict_keys_1 _, _, PySem.W.kdl_meets_keys (mixKind X.prog X.w) d lo, ⟨⟨vs, hdo⟩, Calls.spliced_nil ?_⟩⟩)
  refine PySem.W.kdl_call (PySem.W.kdl_keys (knd := mixKind X.prog X.w) (kvs := vs) (ep := ep)) (I1.ok.hd hc) ⟨⟨_, Heap.get?_push_size _ rfl, rfl, rfl⟩, hat.push _⟩ (by omega) fun h' tk acc c' hk hS hacc => ?_
  have ek : (kvs.map fun kv => kV kv.1) = (vs.map (·.1)).map kV := by rw [← KV.keys kv, List.map_map] <;> rfl
  have la : acc.toList.length = vs.length := by rw [Array.length_toList] <;> exact hacc.1
  have rel : Vals (kvs.map fun kv => kV kv.1) acc.toList := by
    rw [ek]
    refine vals_of_at (by rw [List.length_map, List.length_map, la]) fun j x u h1 h2 => ?_
    obtain ⟨k, y, hky, hi⟩ := hacc.2 j u (by rw [← Array.getElem?_toList] <;> exact h2)
    rw [List.getElem?_map, List.getElem?_map, hky] at h1
    cases h1; exact keyIs_rel hi
  exact ⟨.ref _, upd H1 _ (.lst (kvs.map fun kv => kV kv.1)), I2.laid hk (Nat.le_refl _) ⟨by rw [List.length_map] <;> exact hz, acc.toList, c', rel, by rw [Array.toArray_toList] <;> exact hS⟩, rfl, q _ (I2.hok.fresh (Nat.le_refl _))⟩
end
end Ev
set_option maxHeartbeats 4000000
namespace Ev
open PySem PySem.Spec PyProof.Rows L2
/-! list(d.keys()) of a dict whose keys are tuples: the keys' own tuples -/
section
variable {prog : Program} {w : World} {A : Around} {E : Value → Shared → Prop} {s : Shared}
theorem kt_meets (d : Addr) (hd : (d == sysModules) = false) : MeetsIn prog w (Builtin.«dict.keys» ⟨[.ref d], []⟩) (fun _ R s => s.TypeIs (.ref d) "dict" ∧ R (.ok (.ret (.ref s.heap.objs.size))) { s with heap := s.heap.push { cls := .type "dict_keys", data := .fields #[.ref d] } }) := by
  apply MeetsIn.of_wp
  rintro A R s ⟨ty, h⟩
  apply wpAny_bind; unfold Builtin.Dict.noArgs
  apply wpAny_bind; refine wpAny_notOrdered_dict ty ?_
  show wpAny _ _ (pure d) _ _ s; apply wpAny_pure
  show wpAny _ _ (Builtin.Dict.showsAll d >>= fun _ => _) _ _ s; unfold Builtin.Dict.showsAll
  rw [if_neg (by rw [hd] <;> decide)]
  exact wpAny_bind (wpAny_pure (wpAny_bind (wpAny_newObj_type (wpAny_pure ⟨_, rfl, h⟩))))
theorem kt_iter {v d : Addr} {o : Obj} {es : Array DictEntry} {ep : Nat} {Q : Value → Shared → Prop} (hv : PySem.W.KdlKeysView s.heap v d) (ho : s.heap.get? d = some o) (hx : o.ExactDict) (hd : o.data = .dict es ep)
    (hQ : Q (.ref s.heap.objs.size) { s with heap := s.heap.push { cls := .type "dict_keyiterator", data := .fields #[.ref d, .int 0 0, .int es.size 0, .int ep 0] } }) : wpAny (model prog w) A (pyIter (.ref v)) Q E s := by
  obtain ⟨ov, hov, hcv, hdv⟩ := id hv
  apply wpAny_pyIter_slot hv.typeIs PySem.W.kdl_slot_keys_iter
  refine wpAny_call_entry PySem.W.kdl_slot_keys_iter hv.typeIs PySem.W.kdl_entry_keys_iter ?_ (PySem.W.kdl_args_keys_iter _)
  unfold Builtin.«dict_keys.__iter__»; apply wpAny_bind; apply wpAny_pure
  apply wpAny_bind; unfold Builtin.Dict_items.dictOf
  apply wpAny_bind; refine wpAny_field hov hdv (x := .ref d) rfl (wpAny_pure ?_)
  apply wpAny_bind; unfold Builtin.Dict_items.newIterator
  apply wpAny_bind; refine wpAny_dictEntries ho hd ?_
  apply wpAny_bind; refine wpAny_dictEpoch ho hd ?_
  have own : Builtin.Dict_items.ownsTuple "dict_keyiterator" = false := by decide
  simp only [own, Bool.false_eq_true, if_false]
  refine wpAny_newObj_type (wpAny_pure ⟨_, rfl, "dict_keyiterator", _, ⟨_, Heap.get?_push_size _ rfl, rfl⟩, PySem.F.slot_dict_keyiterator_next.lookup, ?_⟩)
  simpa [rawInt] using hQ
theorem kt_src {r d : Addr} {o : Obj} {es : Array DictEntry} {ep : Nat} (hx : o.ExactDict) (hd : o.data = .dict es ep) :
    PySem.W.KdlSrc prog w "dict_keys" r d es.size (fun i v => ∃ en : DictEntry, es[i]? = some en ∧ v = en.key) (fun h => PySem.W.KdlKeysView h r d ∧ h.get? d = some o) where
  type := fun _ q => q.1.typeIs
  there := fun _ q => ⟨let ⟨_, e, _⟩ := q.1; Heap.lt_size e, Heap.lt_size q.2⟩
  keep := fun _ _ q k => ⟨let ⟨o, e, x⟩ := q.1; ⟨o, k r (.inl rfl) o e, x⟩, k d (.inr rfl) _ q.2⟩
  notList := by decide
  notTuple := by decide
  hint := fun _ _ _ _ q h => PySem.W.kdl_hint_keys q.1.typeIs h
  iter := fun _ _ hh q => ⟨_, _, (fun _ _ h => kt_iter q.1 q.2 hx hd h), walks_raw hh _ d (Nat.ne_of_lt (Heap.lt_size q.2)) hd, ⟨⟨_, Heap.get?_push_size _ rfl, rfl, rfl⟩, Heap.get?_push_of_some _ q.2⟩⟩
end
def tListKeysT (te : TE) : TE := fun σ H Q => te σ H fun x H1 => ∃ (d : Addr) (kvs : List (List Key × V)), x = .ref d ∧ H1 d = some (.dT kvs) ∧ ∀ q bs, H1 q = none → IsKeys H1 kvs bs → Q (.ref q) (upd H1 q (.lst (bs.map V.ref)))
section
variable {X : Cx} {e : Expr} {te : TE} {p apos cpos pos : Pos}
theorem pe_listKeysT (hc : X.calm = true) (he : PE X e te) (hg : Gl X "list") (hm : X.mg "list" = none) (hbase : attributeBase e "keys" X.env (eval e X.env) = eval e X.env := by rfl) (hline : (apos.endLine == cpos.line) = true := by rfl)
    (hs : starEach [.Call (.Attribute e "keys" apos) [] [] cpos] X.env = (false, eval (.Call (.Attribute e "keys" apos) [] [] cpos) X.env) :: starEach [] X.env := by rfl) : PE X (.Call (.Name "list" p) [.Call (.Attribute e "keys" apos) [] [] cpos] [] pos) (tListKeysT te) := by
  refine ⟨fun pins s σ H Q I hq => wpAny_Call_Name_kw (ld_blt I hg hm boot_list (PyProof.Rows.callWith_type1 ?_ hs rfl))⟩
  rw [hs]; refine Calls.spliced_cons ?_
  refine wpAny_Call_method (T := "dict") (id := "dict.keys") hbase rfl hline F.plainAttrs_dict F.slot_dict_keys F.type_dict_keys (thn (he.run pins s σ H _ I hq) fun u s1 ⟨x, H1, I1, rx, d, kvs, ex, hd, q⟩ => ?_)
  subst ex
  obtain rfl : u = Value.ref d := rx
  obtain ⟨z, lo, ks, pr, o, es, ep, ho, hx, hdt, hen, hn⟩ := (show ObjOk X.prog X.w H1 s1.heap d (.dT kvs) from I1.hok d _ hd)
  have l1 : es.size = ks.length := size_of_entries hen
  have l2 : kvs.length = ks.length := Paired.length pr
  have ty : s1.TypeIs (.ref d) "dict" := ⟨o, ho, hx.1⟩
  have I2 : Inv X pins σ H1 { s1 with heap := s1.heap.push { cls := .type "dict_keys", data := .fields #[.ref d] } } := I1.kept (t' := s1.toks) fun b ob w => Heap.get?_push_of_some _ w
  refine ⟨ty, (fun b q => by cases q; exact ⟨o, ho, hx.2.1⟩), ?_⟩
  show wpAny _ _ (callWith cpos (.builtin "dict.keys") [.ref d] [] []) _ X.xe s1
  refine method_meetsIn F.slot_dict_keys F.entry_dict_keys rfl (PySem.evalArgs_none ⟨rfl, ty, F.args_dict_keys_1 _, _, kt_meets d lo, ⟨ty, Calls.spliced_nil ?_⟩⟩)
  refine PySem.W.kdl_call (kt_src (r := s1.heap.objs.size) hx hdt) (I1.ok.hd hc) ⟨⟨_, Heap.get?_push_size _ rfl, rfl, rfl⟩, Heap.get?_push_of_some _ ho⟩ (by omega) fun h' tk acc c kp hS it => ?_
  have ea : acc.toList = (ks.map fun x => x.2.1).map Value.ref := by
    rw [List.map_map]
    have hl : acc.toList.length = ks.length := by rw [Array.length_toList, it.1] <;> exact l1
    refine List.ext_getElem? fun j => ?_
    rw [List.getElem?_map]
    cases hj : acc.toList[j]? with
    | none =>
      have h1 := List.getElem?_eq_none_iff.mp hj
      rw [List.getElem?_eq_none (by omega)]
      rfl
    | some v =>
      obtain ⟨en, e1, hv⟩ := it.2 j v (by rw [← Array.getElem?_toList] <;> exact hj)
      have qe := entry_at hen j
      rw [e1] at qe
      cases hb : ks[j]? with
      | none => rw [hb] at qe; exact nomatch (show some en = none from qe)
      | some b =>
        rw [hb] at qe
        have e2 : en = entryOfKey (tupleKind (mixKind X.prog X.w)) b := Option.some.inj qe
        rw [hv, e2]
        rfl
  have rv : Vals ((ks.map fun x => x.2.1).map V.ref) acc.toList := by rw [ea] <;> exact L2.vals_refs _
  refine ⟨.ref _, upd H1 _ (.lst ((ks.map fun x => x.2.1).map V.ref)), I2.laid kp (Nat.le_refl _) ⟨by rw [List.length_map, List.length_map] <;> omega, acc.toList, c, rv, by rw [Array.toArray_toList] <;> exact hS⟩, rfl, q _ _ (I2.hok.fresh (Nat.le_refl _)) (isKeys_of pr)⟩
end
end Ev
set_option maxHeartbeats 4000000
namespace LawK
open PySem PySem.Spec PyProof.Rows L2 Ev

abbrev kk2 (q r : Int) : List L2.Key := [.inl q, .inl r]
theorem kk2_inj {a b c d : Int} (h : kk2 a b = kk2 c d) : a = c ∧ b = d := by
  cases h
  exact ⟨rfl, rfl⟩
/-- the keys of a dict are the pairs of which p is true -/
def PrIn (kvs : List (List L2.Key × V)) (p : Int → Int → Prop) : Prop := ∀ q r, (valV kvs (kk2 q r)).isSome = true ↔ p q r
theorem PrIn.nil {p : Int → Int → Prop} (h : ∀ q r, ¬ p q r) : PrIn [] p := fun q r => ⟨fun e => by simp [valV] at e, fun e => absurd e (h q r)⟩
theorem PrIn.imp {kvs : List (List L2.Key × V)} {p p' : Int → Int → Prop} (h : PrIn kvs p) (f : ∀ q r, p q r ↔ p' q r) : PrIn kvs p' := fun q r => (h q r).trans (f q r)
theorem PrIn.put {kvs : List (List L2.Key × V)} {p : Int → Int → Prop} (h : PrIn kvs p) (x y : Int) {v : V} : PrIn (putK kvs (kk2 x y) v) (fun q r => p q r ∨ (q = x ∧ r = y)) := fun q r => by
  rw [valV_put]
  by_cases e : kk2 q r = kk2 x y
  · obtain ⟨rfl, rfl⟩ := kk2_inj e
    rw [if_pos rfl]
    exact ⟨fun _ => .inr ⟨rfl, rfl⟩, fun _ => rfl⟩
  · rw [if_neg e, h q r]
    exact ⟨.inl, fun z => z.elim id fun ⟨a, b⟩ => absurd (by rw [a, b]) e⟩
/-- what is kept of a block -/
def KeptP (a h : Nat) (g : Int) (x : Nat × Nat) (q r : Int) : Prop := (x.2 ≤ a ∧ q = (x.1 : Int) ∧ r = (x.2 : Int)) ∨ (¬ x.2 ≤ a ∧ h ≤ x.1 ∧ q = (x.1 : Int) + g ∧ r = (x.2 : Int) + g)
def KeptTo (z : Str) (b : List Nat) (a h : Nat) (g : Int) (j : Nat) (q r : Int) : Prop := ∃ k, k < j ∧ KeptP a h g (blk z b k) q r
theorem kept_succ {z : Str} {b : List Nat} {a h : Nat} {g : Int} {j : Nat} {q r : Int} : KeptTo z b a h g (j + 1) q r ↔ KeptTo z b a h g j q r ∨ KeptP a h g (blk z b j) q r := by
  constructor
  · rintro ⟨k, hk, w⟩
    by_cases e : k = j
    · exact .inr (e ▸ w)
    · exact .inl ⟨k, by omega, w⟩
  · rintro (⟨k, hk, w⟩ | w)
    · exact ⟨k, by omega, w⟩
    · exact ⟨j, by omega, w⟩
def spKept : Sp := fun vs H Q _ => ∃ (v : V) (z : Str) (b : List Nat) (a h : Nat) (g : Int), vs = [v, iN a, iN h, .int g] ∧ StL H v z b ∧ b.length ≤ 2000 ∧ ∀ d kvs H', H d = none → H' d = some (.dT kvs) → PrIn kvs (KeptTo z b a h g b.length) → Same H H' → Q (.ref d) H'
/-- the blocks of a row as keys, in their order -/
def spanK (z : Str) (b : List Nat) (n : Nat) : List (List L2.Key × V) := (List.range n).map fun k => (kk2 (b.getD k 0 : Nat) (endB z b k : Nat), V.bl true)
theorem span_put {z : Str} {b : List Nat} (h : Begs z b) {n : Nat} (hn : n < b.length) : putK (spanK z b n) (kk2 (b.getD n 0 : Nat) (endB z b n : Nat)) (V.bl true) = spanK z b (n + 1) := by
  have no : ((spanK z b n).any fun kv => decide (kv.1 = kk2 (b.getD n 0 : Nat) (endB z b n : Nat))) = false := by
    rw [List.any_eq_false]
    intro x hx e
    obtain ⟨k, hk, rfl⟩ := List.mem_map.mp hx
    have e' := (kk2_inj (of_decide_eq_true e)).1
    have hk' := List.mem_range.mp hk
    have l := List.pairwise_iff_getElem.mp h.asc k n (by omega) hn hk'
    rw [getD_get (by omega), getD_get hn] at e'
    omega
  unfold putK
  rw [if_neg (by rw [no]; decide)]
  unfold spanK
  rw [List.range_succ, List.map_append]
  rfl
theorem span_in {z : Str} {b : List Nat} (n : Nat) : PrIn (spanK z b n) (fun q r => ∃ k, k < n ∧ q = (b.getD k 0 : Nat) ∧ r = (endB z b k : Nat)) := by
  induction n with
  | zero => exact PrIn.nil fun q r ⟨k, hk, _⟩ => by omega
  | succ n ih =>
    intro q r
    have e : spanK z b (n + 1) = spanK z b n ++ [(kk2 (b.getD n 0 : Nat) (endB z b n : Nat), V.bl true)] := by
      unfold spanK
      rw [List.range_succ, List.map_append]
      rfl
    have f : (valV (spanK z b (n + 1)) (kk2 q r)).isSome = ((valV (spanK z b n) (kk2 q r)).isSome || decide (kk2 (b.getD n 0 : Nat) (endB z b n : Nat) = kk2 q r)) := by
      rw [e]
      unfold valV
      rw [List.find?_append]
      cases (spanK z b n).find? fun kv => decide (kv.1 = kk2 q r) with
      | some v => rfl
      | none =>
        simp only [Option.none_or, Option.map_none, Option.isSome_none, Bool.false_or, List.find?_cons, List.find?_nil]
        cases decide (kk2 (b.getD n 0 : Nat) (endB z b n : Nat) = kk2 q r) <;> rfl
    rw [f, Bool.or_eq_true, ih q r, decide_eq_true_iff]
    constructor
    · rintro (⟨k, hk, w⟩ | w)
      · exact ⟨k, by omega, w⟩
      · obtain ⟨w1, w2⟩ := kk2_inj w
        exact ⟨n, by omega, w1.symm, w2.symm⟩
    · rintro ⟨k, hk, w1, w2⟩
      by_cases g : k = n
      · subst g
        exact .inr (by rw [w1, w2])
      · exact .inl ⟨k, by omega, w1, w2⟩
def spSpans : Sp := fun vs H Q _ => ∃ (z : Str) (l : Addr) (b : List Nat), vs = [.str z, .ref l] ∧ H l = some (.tup (b.map iN)) ∧ z.length ≤ 2000 ∧ Begs z b ∧ ∀ d H', H d = none → H' d = some (.dT (spanK z b b.length)) → Same H H' → Q (.ref d) H'
section
variable {P : Program} {w : World} {K : PySem.W.Frag} {mg : Str → Option Value} {base : Heap}
variable {PE cN : Addr}
abbrev sQKept : Stmt := topS 25
theorem scQKept : FnScope ["row", "at", "behind", "longer", "kept", "begin", "end"] ["row", "at", "behind", "longer"] (defScope sQKept) := ⟨rfl, rfl, rfl, by decide +kernel, rfl, by decide +kernel, by decide +kernel⟩
theorem ok_QKept {f : Addr} {fd : FuncData} (F : Fun K "_kept_stretches" "_kept_stretches" sQKept f fd)   (T : Glob mg) : FnOk P w K mg base CX0 1 f fd ["row", "at", "behind", "longer"] spKept := by
  refine F.ok scQKept (fun vs H Q E h => ?_) (fun cdv A outer s H vs Q E hr h => ?_)
  · obtain ⟨v, z, b, a, h, g, rfl, _⟩ := h
    rfl
  · refine ⟨_, (pss_cons (ps_set (i := 4) scQKept.nd rfl (.inl rfl) pe_dnewT)
      (pss_cons (ps_for PassesOwn.never rfl (pi_list (pv 0)) (pg_tup (by rfl) (pgs_cons (pg_name (i := 5) scQKept.nd rfl (.inl rfl)) (pgs_cons (pg_name (i := 6) scQKept.nd rfl (.inl rfl)) pgs_nil)))
      (pss_one (ps_if (pt_cmpR op_le (pv 6) (pv 1) (nomark _))
        (pss_one (ps_dput (hu_of hr) (pv 4) (pe_tup (pa_cons (pv 5) (pa_cons (pv 6) pa_nil))) pe_bl rfl))
        (pss_one (ps_if (pt_cmpR op_ge (pv 5) (pv 2) (nomark _))
          (pss_one (ps_dput (hu_of hr) (pv 4) (pe_tup (pa_cons (pe_op op_add (pv 5) (pv 3)) (pa_cons (pe_op op_add (pv 6) (pv 3)) pa_nil))) pe_bl rfl))
          pss_nil)))))
      (pss_one (ps_ret (pv 4))))), ?_⟩
    obtain ⟨v, z, b, a, h, g, rfl, hs, lb, q⟩ := h
    have s2 : (2 : Nat) ≤ sizeLine := by decide
    refine fun d nd => ?_
    have kd := Same.new (o := .dT []) nd
    have hd : upd H d (.dT []) d = some (.dT []) := upd_same
    have hs1 := hs.same kd
    revert kd hd hs1
    generalize upd H d (.dT []) = H1
    intro kd hd hs1
    obtain ⟨c, ts, rfl, hc, lt, ht⟩ := hs1
    have ncd : c ≠ d := fun w => by rw [w, hd] at hc; cases hc
    have ntd : ∀ {t : Addr} {x}, H1 t = some (.tup x) → t ≠ d := fun w y => by rw [y, hd] at w; cases w
    refine ⟨.ref c, rfl, c, rfl, ⟨_, sq_of hc⟩, for_list (K := K) (xs := ts.map V.ref) (fun j σ H' => ∃ (u5 u6 : Option V) (kvs : List (List L2.Key × V)), σ = [some (.ref c), some (iN a), some (iN h), some (.int g), some (.ref d), u5, u6] ∧ (∀ c o, c ≠ d → H1 c = some o → H' c = some o) ∧ H' d = some (.dT kvs) ∧ kvs.length ≤ j ∧ PrIn kvs (KeptTo z b a h g j)) ⟨none, none, [], rfl, fun _ _ _ e => e, hd, Nat.le_refl _, PrIn.nil fun q r ⟨k, hk, _⟩ => by omega⟩ (fun j σ H' _ ⟨_, _, _, _, w, _⟩ => sq_of (w _ _ ncd hc)) ?_ ?_⟩
    · rintro j v σ H2 hv ⟨u5, u6, kvs, rfl, k2, hd2, lk, hp⟩
      rw [List.getElem?_map] at hv
      obtain ⟨t, hj, rfl⟩ := Option.map_eq_some_iff.mp hv
      have lj := (List.getElem?_eq_some_iff.mp hj).1
      have e1 := ht j t hj
      have e2 := k2 _ _ (ntd e1) e1
      refine ⟨t, _, rfl, SqT.of e2, rfl, iN (b.getD j 0), [iN (endB z b j)], rfl, iN (endB z b j), [], rfl, rfl, ?_⟩
      have put : ∀ (x y : Int) (u : Addr), H2 u = none → (∀ q r, KeptTo z b a h g (j + 1) q r ↔ KeptTo z b a h g j q r ∨ (q = x ∧ r = y)) → DPut (upd H2 u (.tup [.int x, .int y])) d (.ref u) (.bl true) (upd (upd H2 u (.tup [.int x, .int y])) d (.dT (putK kvs (kk2 x y) (.bl true)))) ∧ ∃ (u5' u6' : Option V) (kvs' : List (List L2.Key × V)), [some (.ref c), some (iN a), some (iN h), some (.int g), some (.ref d), some (iN (b.getD j 0)), some (iN (endB z b j))] = [some (.ref c), some (iN a), some (iN h), some (.int g), some (.ref d), u5', u6'] ∧ (∀ c o, c ≠ d → H1 c = some o → upd (upd H2 u (.tup [.int x, .int y])) d (.dT (putK kvs (kk2 x y) (.bl true))) c = some o) ∧ upd (upd H2 u (.tup [.int x, .int y])) d (.dT (putK kvs (kk2 x y) (.bl true))) d = some (.dT kvs') ∧ kvs'.length ≤ j + 1 ∧ PrIn kvs' (KeptTo z b a h g (j + 1)) := fun x y u nu f => by
        have ku := Same.new (o := .tup [.int x, .int y]) nu
        have lp := length_putK kvs (kk2 x y) (V.bl true)
        refine ⟨DPut.t (k := kk2 x y) (ku _ _ hd2) upd_same (by show _ < 16777216; omega), _, _, putK kvs (kk2 x y) (.bl true), rfl, fun c o n e => by rw [upd_ne n]; exact ku _ _ (k2 _ _ n e), upd_same, by omega, (hp.put x y).imp fun q r => (f q r).symm⟩
      refine ⟨iN (endB z b j), rfl, iN a, rfl, _, _, rfl, rfl, _, rfl, ite2 (fun w => ?_) (fun w => ?_)⟩
      · have w' : endB z b j ≤ a := by
          have := of_decide_eq_true w
          omega
        refine ⟨.ref d, rfl, iN (b.getD j 0), rfl, iN (endB z b j), rfl, s2, fun u nu => ?_⟩
        have pp := put (b.getD j 0 : Nat) (endB z b j : Nat) u nu fun q r => kept_succ.trans (or_congr_right ⟨fun k => k.elim (fun k => k.2) fun k => absurd w' k.1, fun k => .inl ⟨w', k⟩⟩)
        exact ⟨d, _, rfl, pp.1, pp.2⟩
      · have w' : ¬ endB z b j ≤ a := fun n => w (decide_eq_true (by omega))
        refine ⟨iN (b.getD j 0), rfl, iN h, rfl, _, _, rfl, rfl, _, rfl, ite2 (fun x => ?_) (fun x => ?_)⟩
        · have x' : h ≤ b.getD j 0 := by
            have := of_decide_eq_true x
            omega
          refine ⟨.ref d, rfl, iN (b.getD j 0), rfl, .int g, rfl, _, _, rfl, rfl, iN (endB z b j), rfl, .int g, rfl, _, _, rfl, rfl, s2, fun u nu => ?_⟩
          have pp := put ((b.getD j 0 : Nat) + g) ((endB z b j : Nat) + g) u nu fun q r => kept_succ.trans (or_congr_right ⟨fun k => k.elim (fun k => absurd k.1 w') fun k => k.2.2, fun k => .inr ⟨w', x', k⟩⟩)
          exact ⟨d, _, rfl, pp.1, pp.2⟩
        · have x' : ¬ h ≤ b.getD j 0 := fun n => x (decide_eq_true (by omega))
          dsimp only [tNext, tDrop]
          exact ⟨_, _, kvs, rfl, k2, hd2, by omega, hp.imp fun q r => (kept_succ.trans ⟨fun k => k.elim id fun k => k.elim (fun k => absurd k.1 w') fun k => absurd k.2.1 x', .inl⟩).symm⟩
    · rintro σ H2 ⟨u5, u6, kvs, rfl, k2, hd2, lk, hp⟩
      rw [List.length_map, lt] at hp
      exact ⟨_, rfl, q d kvs H2 nd hd2 hp fun c o e => k2 _ _ (fun w => by rw [w, nd] at e; cases e) (kd _ _ e)⟩
end
end LawK
set_option maxHeartbeats 4000000
namespace LawK
open PySem PySem.Spec PyProof.Rows L2 Ev

theorem ps_dead {X : Cx} {st : Stmt} : PS X st (fun _ _ _ => False) := ⟨fun pins s σ H D I q => q.elim⟩
def editZ (z : Str) (a many : Nat) (w : Str) : Str := cutS z none (some (a : Int)) ++ w ++ cutS z (some ((a : Int) + (many : Int))) none
theorem edit_cod {z w : Str} {a many : Nat} : codZ (editZ z a many w) = (codZ z).take a ++ codZ w ++ (codZ z).drop (a + many) := by
  show (editZ z a many w).cps.toList = _
  unfold editZ
  rw [show ∀ x y : Str, (x ++ y).cps.toList = x.cps.toList ++ y.cps.toList from fun x y => TL.tl_append x y, show ∀ x y : Str, (x ++ y).cps.toList = x.cps.toList ++ y.cps.toList from fun x y => TL.tl_append x y, cutS_to (by omega), cutS_from (by omega)]
  rw [show ((a : Nat) : Int).toNat = a by omega, show ((a : Int) + (many : Int)).toNat = a + many by omega]
theorem edit_ed {z w : Str} {a many : Nat} (h : a + many ≤ z.length) : Ed z (editZ z a many w) a many w.length := by
  have lz := len_S z
  have lw := len_S w
  have l : (editZ z a many w).length = a + w.length + (z.length - (a + many)) := by
    rw [len_S]
    show (codZ _).length = _
    rw [edit_cod, List.length_append, List.length_append, List.length_take, List.length_drop]
    show min a (codZ z).length + (codZ w).length + ((codZ z).length - (a + many)) = _
    rw [show (codZ z).length = z.length from lz.symm, show (codZ w).length = w.length from lw.symm]
    omega
  refine ⟨h, by omega, ?_, ?_⟩
  · rw [edit_cod, List.append_assoc, List.take_append_of_le_length (by rw [List.length_take]; show a ≤ min a (codZ z).length; rw [show (codZ z).length = z.length from lz.symm]; omega), List.take_take, Nat.min_self]
  · rw [edit_cod]
    have e : ((codZ z).take a ++ codZ w).length = a + w.length := by
      rw [List.length_append, List.length_take, show (codZ z).length = z.length from lz.symm, show (codZ w).length = w.length from lw.symm]
      omega
    rw [← e, List.drop_left]
/-- level k of a text, or no blocks -/
def lvO (z : Str) (k : Nat) : List Nat := (lvAll z).getD k []
theorem lvO_at {z : Str} {k : Nat} (h : k < (lvAll z).length) : (lvAll z)[k]? = some (lvO z k) := by
  unfold lvO
  rw [List.getD_eq_getElem?_getD, List.getElem?_eq_getElem h]
  rfl
theorem lvO_no {z : Str} {k : Nat} (h : ¬ k < (lvAll z).length) : lvO z k = [] := by
  unfold lvO
  rw [List.getD_eq_getElem?_getD, List.getElem?_eq_none (by omega)]
  rfl
theorem lvO_begs (z : Str) (k : Nat) : Begs z (lvO z k) := by
  by_cases h : k < (lvAll z).length
  · exact (chain_all z).begs (lvO_at h)
  · rw [lvO_no h]
    exact ⟨.nil, fun x m => absurd m (by simp), Nat.zero_le _⟩
noncomputable def dueN (z z2 : Str) (a many m : Nat) (n : Nat) : List Int := (List.range n).map fun k => (newN z (lvO z k) a many m z2 (lvO z2 k) : Nat)
open Classical in
theorem newN_eq {z z2 : Str} {b b2 : List Nat} {a many m : Nat} {p : Nat → Bool} (h : ∀ k, k < b2.length → (p k = true ↔ ¬ keptB z b a many m (blk z2 b2 k))) : newN z b a many m z2 b2 = ((List.range b2.length).filter p).length := by
  unfold newN
  congr 1
  refine List.filter_congr fun k hk => ?_
  have e := h k (List.mem_range.mp hk)
  cases hp : p k with
  | true => exact decide_eq_true (e.mp hp)
  | false => exact decide_eq_false fun w => by rw [e.mpr w] at hp; cases hp
theorem kept_iff {z z2 : Str} {b b2 : List Nat} {a many m k : Nat} (h : Begs z b) : KeptTo z b a (a + many) ((m : Int) - (many : Int)) b.length (blk z2 b2 k).1 (blk z2 b2 k).2 ↔ keptB z b a many m (blk z2 b2 k) := by
  constructor
  · rintro ⟨j, hj, w | w⟩
    · obtain ⟨w1, w2, w3⟩ := w
      exact .inl ⟨j, hj, Prod.ext (by omega) (by omega), by omega⟩
    · obtain ⟨w1, w2, w3, w4⟩ := w
      exact .inr ⟨j, hj, w2, by omega, by omega⟩
  · rintro (⟨j, hj, w1, w2⟩ | ⟨j, hj, w1, w2, w3⟩)
    · exact ⟨j, hj, .inl (by rw [w1]; exact ⟨w2, rfl, rfl⟩)⟩
    · have : (blk z b j).1 < (blk z b j).2 := h.end hj
      exact ⟨j, hj, .inr ⟨by omega, w1, by omega, by omega⟩⟩
theorem len5' {n : Nat} (h : n ≤ 10000) : n ≤ sizeLine := by
  show n ≤ 16777216
  omega
def spNew : Sp := fun vs H Q _ => ∃ (z w : Str) (a many : Nat), vs = [.str z, iN a, iN many, .str w] ∧ sgB z = true ∧ z.length ≤ 2000 ∧ sgB w = true ∧ a + many ≤ z.length ∧ (editZ z a many w).length ≤ 2000 ∧ ∀ L H', H L = none → H' L = some (.lst ((dueN z (editZ z a many w) a many w.length (lvAll (editZ z a many w)).length).map V.int)) → Same H H' → Q (.ref L) H'
theorem edit_sg {z w : Str} {a many : Nat} (hz : sgB z = true) (hw : sgB w = true) : sgB (editZ z a many w) = true := sgB_app (sgB_app (sgB_cut hz _ _) hw) (sgB_cut hz _ _)
section
variable {P : Program} {w : World} {K : PySem.W.Frag} {mg : Str → Option Value} {base : Heap}
variable {PE cN : Addr}
abbrev sPNew : Stmt := topS 26
theorem scPNew : FnScope ["text", "at", "many", "signs", "later", "elder", "counts", "level", "row", "here", "kept", "block"] ["text", "at", "many", "signs"] (defScope sPNew) := ⟨rfl, rfl, rfl, by decide +kernel, rfl, by decide +kernel, by decide +kernel⟩
theorem ok_PNew {f : Addr} {fd : FuncData} (F : Fun K "new_blocks" "new_blocks" sPNew f fd)  {fQStr : Addr} {fdQStr : FuncData} (DQStr : Dk P w K mg base "_stretches" sQStr ["text"] 6 spStr fQStr fdQStr) {fQKept : Addr} {fdQKept : FuncData} (DQKept : Dk P w K mg base "_kept_stretches" sQKept ["row", "at", "behind", "longer"] 1 spKept fQKept fdQKept) {fPNumber : Addr} {fdPNumber : FuncData} (DPNumber : Dk P w K mg base "is_number" sPNumber ["thing"] 1 spNumI fPNumber fdPNumber) {fPSigns : Addr} {fdPSigns : FuncData} (DPSigns : Dk P w K mg base "is_signs" sPSigns ["thing"] 1 spSg fPSigns fdPSigns) {fPText : Addr} {fdPText : FuncData} (DPText : Dk P w K mg base "is_text" sPText ["thing"] 2 spTextY fPText fdPText) (T : Glob mg) : FnOk P w K mg base CX0 7 f fd ["text", "at", "many", "signs"] spNew := by
  refine F.ok scPNew (fun vs H Q E h => ?_) (fun cdv A outer s H vs Q E hr h => ?_)
  · obtain ⟨z, w, a, many, rfl, _⟩ := h
    rfl
  · refine ⟨_, (pss_cons (ps_if (pt_not (pt_val (pe_call DPText.ok (hr.mono (by decide)) (by rfl) DPText.g DPText.F.kp DPText.b .nil pass0 (pa_cons (pv 0) pa_nil))))
      (pss_one ps_dead)
      pss_nil)
      (pss_cons (ps_if (PW.pt (pw_or (pt_not (pt_val (pe_call DPNumber.ok (hr.mono (by decide)) (by rfl) DPNumber.g DPNumber.F.kp DPNumber.b .nil pass0 (pa_cons (pv 1) pa_nil)))) (pw_or1 (pt_cmpR op_gt (pv 1) (pe_callB call_lenZ (by rfl) T.len PySem.boot_len (pa_cons (pv 0) pa_nil)) (nomark _)))))
      (pss_one ps_dead)
      pss_nil)
      (pss_cons (ps_if (PW.pt (pw_or (pt_not (pt_val (pe_call DPNumber.ok (hr.mono (by decide)) (by rfl) DPNumber.g DPNumber.F.kp DPNumber.b .nil pass0 (pa_cons (pv 2) pa_nil)))) (pw_or1 (pt_cmpR op_gt (pv 2) (pe_op op_sub (pe_callB call_lenZ (by rfl) T.len PySem.boot_len (pa_cons (pv 0) pa_nil)) (pv 1)) (nomark _)))))
      (pss_one ps_dead)
      pss_nil)
      (pss_cons (ps_if (pt_not (pt_val (pe_call DPSigns.ok (hr.mono (by decide)) (by rfl) DPSigns.g DPSigns.F.kp DPSigns.b .nil pass0 (pa_cons (pv 3) pa_nil))))
      (pss_one ps_dead)
      pss_nil)
      (pss_cons (ps_set (i := 4) scPNew.nd rfl (.inl rfl) (pe_op op_add_str (pe_op op_add_str (pe_slice sl_str (pv 0) po_none (po_some (pv 1))) (pv 3)) (pe_slice sl_str (pv 0) (po_some (pe_op op_add (pv 1) (pv 2))) po_none)))
      (pss_cons (ps_if (pt_not (pt_val (pe_call DPText.ok (hr.mono (by decide)) (by rfl) DPText.g DPText.F.kp DPText.b .nil pass0 (pa_cons (pv 4) pa_nil))))
      (pss_one ps_dead)
      pss_nil)
      (pss_cons (ps_set (i := 5) scPNew.nd rfl (.inl rfl) (pe_call DQStr.ok (hr.mono (by decide)) (by rfl) DQStr.g DQStr.F.kp DQStr.b .nil pass0 (pa_cons (pv 0) pa_nil)))
      (pss_cons (ps_set (i := 6) scPNew.nd rfl (.inl rfl) (pe_lst pa_nil))
      (pss_cons (ps_for PassesOwn.never rfl (pi_enum (by rfl) T.enumerate (pa_cons (pe_call DQStr.ok (hr.mono (by decide)) (by rfl) DQStr.g DQStr.F.kp DQStr.b .nil pass0 (pa_cons (pv 4) pa_nil)) pa_nil)) (pg_tup (by rfl) (pgs_cons (pg_name (i := 7) scPNew.nd rfl (.inl rfl)) (pgs_cons (pg_name (i := 8) scPNew.nd rfl (.inl rfl)) pgs_nil)))
      (pss_cons (ps_set (i := 9) scPNew.nd rfl (.inl rfl) (pe_ifExp (pt_cmpR op_lt (pv 7) (pe_callB call_len_seq (by rfl) T.len PySem.boot_len (pa_cons (pv 5) pa_nil)) (nomark _)) (pe_ix ix_list (pv 5) (pv 7) (fun _ _ => rfl)) (pe_lst pa_nil)))
        (pss_cons (ps_set (i := 10) scPNew.nd rfl (.inr rfl) (pe_call DQKept.ok (hr.mono (by decide)) (by rfl) DQKept.g DQKept.F.kp DQKept.b .nil pass0 (pa_cons (pv 9) (pa_cons (pv 1) (pa_cons (pe_op op_add (pv 1) (pv 2)) (pa_cons (pe_op op_sub (pe_callB call_lenZ (by rfl) T.len PySem.boot_len (pa_cons (pv 3) pa_nil)) (pv 2)) pa_nil))))))
        (pss_one (ps_expr (pe_bm PySem.F.plainAttrs_list PySem.F.slot_list_append PySem.F.type_list_append mt_append (pv 6) (pa_cons (pe_callB call_len_seq (by rfl) T.len PySem.boot_len (pa_cons (pe_lc (own := [("block", 11)]) (g := gName 11) (by rfl) scPNew.nd (pi_list (pv 8)) (blkOk_by (N := ["text", "at", "many", "signs", "later", "elder", "counts", "level", "row", "here", "kept", "block"]) (sc := defScope sPNew) (by decide +kernel)) (fun _ _ _ _ _ => pg_name (i := 11) scPNew.nd rfl (.inl rfl)) (fun _ _ _ _ _ => (pts_one (pt_cmp (pc_dnotin (hu_of hr) (pv 11) (pv 10)) (by rfl)))) (fun _ _ _ _ _ => (pv 11))) pa_nil)) pa_nil)))))))
      (pss_one (ps_ret (pv 6)))))))))))), ?_⟩
    obtain ⟨z, w, a, many, rfl, hz, lz, hw, fit, le, q⟩ := h
    have ed := edit_ed (w := w) fit
    have lw : w.length ≤ 2000 := by
      have := ed.len
      have := ed.fit
      omega
    refine ⟨.str z, rfl, z, rfl, hz, lz, _, rfl, iteF ?_⟩
    refine ⟨iN a, rfl, a, rfl, _, rfl, ?_⟩
    refine ite2 (fun c => absurd c (by rw [decide_eq_true (show (0 : Int) ≤ (a : Int) by omega)]; decide)) fun _ => ?_
    refine ⟨iN a, rfl, .str z, rfl, z, rfl, len5 (by omega), _, _, rfl, rfl, _, rfl, ite2 (fun c => absurd (of_decide_eq_true c) (by omega)) fun _ => ?_⟩
    refine ⟨iN many, rfl, many, rfl, _, rfl, ?_⟩
    refine ite2 (fun c => absurd c (by rw [decide_eq_true (show (0 : Int) ≤ (many : Int) by omega)]; decide)) fun _ => ?_
    refine ⟨iN many, rfl, .str z, rfl, z, rfl, len5 (by omega), iN a, rfl, _, _, rfl, rfl, _, _, rfl, rfl, _, rfl, ite2 (fun c => absurd (of_decide_eq_true c) (by omega)) fun _ => ?_⟩
    refine ⟨.str w, rfl, .str w, .str, rfl, .str w, (fun x e => by cases e; omega), _, rfl, ?_⟩
    refine ite2 (fun c => absurd c (by show ¬ (!sgB w) = true; rw [hw]; decide)) fun _ => ?_
    have la := app_len (cutS z none (some (a : Int))) w
    have l1 := cut_len (z := z) none (some (a : Int))
    have l2 := cut_len (z := z) (some ((a : Int) + (many : Int))) none
    refine ⟨.str z, rfl, iN a, rfl, _, rfl, z, rfl, len5 (by omega), .str w, rfl, _, _, rfl, rfl, len5 (by omega), .str z, rfl, iN a, rfl, iN many, rfl, _, _, rfl, rfl, _, rfl, z, rfl, len5 (by omega), _, _, rfl, rfl, ?_, ?_⟩
    · show (cutS z none (some (a : Int)) ++ w).length + _ ≤ sizeLine
      exact Nat.le_trans (Nat.add_le_add_left l2 _) (len5' (by omega))
    have hz2 := edit_sg (a := a) (many := many) hz hw
    rw [show cutS z none (some (a : Int)) ++ w ++ cutS z (some ((a : Int) + (many : Int))) none = editZ z a many w from rfl]
    generalize ez : editZ z a many w = z2 at ed le q hz2 ⊢
    have szl := sizeLine_eq
    refine ⟨.str z2, rfl, z2, rfl, hz2, le, _, rfl, iteF ?_⟩
    dsimp only [tNext, tDrop]
    refine ⟨.str z, rfl, z, rfl, hz, lz, fun M xs H1 nM hM hxs lx k1 => ?_⟩
    refine ⟨by show 0 ≤ sizeLine; decide, fun D nD => ?_⟩
    have kD := Same.new (o := .lst []) nD
    have hD : upd H1 D (.lst []) D = some (.lst ((dueN z z2 a many w.length 0).map V.int)) := upd_same
    have nDH := Same.free k1 nD
    have hM2 := kD _ _ hM
    have hxs2 : All2 (fun v b => StL (upd H1 D (.lst [])) v z b ∧ v ≠ .ref D) xs (lvAll z) := All2.imp (fun v b r => ⟨StL.same r.1 kD, fun e => by
      obtain ⟨⟨c, ts, e', hc, _⟩, _⟩ := r
      rw [e] at e'
      cases e'
      rw [nD] at hc
      cases hc⟩) hxs
    have k2 := k1.trans kD
    revert hD hM2 hxs2 k2
    generalize upd H1 D (.lst []) = H2
    intro hD hM2 hxs2 k2
    refine ⟨.str z2, rfl, z2, rfl, hz2, le, fun N ys H3 nN hN hys ly k3 => ?_⟩
    have k23 := k2.trans k3
    have hD3 := k3 _ _ hD
    have hM3 := k3 _ _ hM2
    have hxs3 := All2.imp (fun v b r => And.intro (StL.same r.1 k3) r.2) hxs2
    have nND : N ≠ D := fun e => by rw [e, hD] at nN; cases nN
    have nMD : M ≠ D := fun e => by rw [e] at hM; rw [hM] at nD; cases nD
    have lenx := All2.len hxs3
    have leny := All2.len hys
    have off : ∀ {H H' : Hp} {v : V} {u : Str} {b : List Nat}, StL H v u b → (∀ c o, c ≠ D → H c = some o → H' c = some o) → (∃ zs, H D = some (.lst zs) ∧ v ≠ .ref D) → StL H' v u b := fun {H H' v u b} r k ⟨zs, hz, nv⟩ => by
      obtain ⟨c, ts, rfl, hc, lt, ht⟩ := r
      exact ⟨c, ts, rfl, k _ _ (fun e => nv (by rw [e])) hc, lt, fun j t e => k _ _ (fun w => by have := ht j t e; rw [w, hz] at this; cases this) (ht j t e)⟩
    refine ⟨N, ys, rfl, sq_of hN, for_it (walk_enum (K := K) (a := N) (xs := ys)) (fun i σ H' => ∃ u7 u8 u9 u10 u11 : Option V, σ = [some (.str z), some (iN a), some (iN many), some (.str w), some (.str z2), some (.ref M), some (.ref D), u7, u8, u9, u10, u11] ∧ (∀ c o, c ≠ D → H3 c = some o → H' c = some o) ∧ H' D = some (.lst ((dueN z z2 a many w.length i).map V.int))) ⟨_, _, _, _, _, rfl, fun _ _ _ h => h, hD3⟩ (fun i σ H' _ ⟨_, _, _, _, _, _, w, _⟩ => sq_of (w _ _ nND hN)) ?_ ?_⟩
    · rintro i v σ H4 H5 hi ⟨u7, u8, u9, u10, u11, rfl, k4, hD4⟩ ⟨T', x1, x2, rfl, nT, rfl, e1, e2⟩
      cases e1
      have e2 : ys[i]? = some x2 := e2
      obtain ⟨b2, hb2, w2⟩ := All2.at hys e2
      have li : i < (lvAll z2).length := (List.getElem?_eq_some_iff.mp hb2).1
      have eb2 : b2 = lvO z2 i := Option.some.inj (hb2.symm.trans (lvO_at li))
      subst eb2
      have B1 := lvO_begs z i
      have B2 := lvO_begs z2 i
      have f1 := B1.few
      have f2 := B2.few
      have kT : Same H4 (upd H4 T' (.tup [.int (i : Nat), x2])) := Same.new nT
      have hD5 := kT _ _ hD4
      have k5 : ∀ c o, c ≠ D → H3 c = some o → upd H4 T' (.tup [.int (i : Nat), x2]) c = some o := fun c o n h => kT _ _ (k4 c o n h)
      have nx2 : x2 ≠ .ref D := fun e => by
        obtain ⟨c, e', hc⟩ := w2.2
        rw [e] at e'
        cases e'
        rw [hD] at hc
        cases hc
      have w5 := off w2.1 k5 ⟨_, hD3, nx2⟩
      have hT : upd H4 T' (.tup [.int (i : Nat), x2]) T' = some (.tup [.int (i : Nat), x2]) := upd_same
      revert w5 hD5 k5 hT
      generalize upd H4 T' (.tup [.int (i : Nat), x2]) = H5
      intro hD5 k5 w5 hT
      refine ⟨T', _, rfl, SqT.of hT, rfl, _, _, rfl, _, _, rfl, rfl, ?_⟩
      refine (?_ : ∀ Q : V → Hp → Prop, (∀ v H', Same H5 H' → StL H' v z (lvO z i) → v ≠ .ref D → Q v H') → tIf _ _ _ _ H5 Q) _ fun v H6 k6 hv nv => ?_
      · intro Q hQ
        refine ⟨_, rfl, .ref M, rfl, M, _, rfl, .inl (sq_of (k5 _ _ nMD hM3)), _, _, rfl, rfl, _, rfl, ite2 (fun c => ?_) (fun c => ?_)⟩
        · have c' : i < (lvAll z).length := by
            have := of_decide_eq_true c
            rw [← lenx]
            omega
          have lx' : i < xs.length := by omega
          have ex : xs[i]? = some xs[i] := List.getElem?_eq_getElem lx'
          obtain ⟨b, hb, r⟩ := All2.at hxs3 ex
          have eb : b = lvO z i := Option.some.inj (hb.symm.trans (lvO_at c'))
          subst eb
          refine ⟨.ref M, rfl, _, rfl, M, _, _, _, rfl, rfl, sq_of (k5 _ _ nMD hM3), atI_nat ex, hQ _ _ (Same.refl _) (off r.1 k5 ⟨_, hD3, r.2⟩) r.2⟩
        · have c' : ¬ i < (lvAll z).length := fun w => c (decide_eq_true (by rw [lenx]; omega))
          rw [lvO_no c'] at hQ
          refine ⟨by show 0 ≤ sizeLine; decide, fun o no => ?_⟩
          exact hQ _ _ (Same.new no) ⟨o, [], rfl, upd_same, rfl, fun k t e => by simp at e⟩ fun e => by cases e; rw [hD5] at no; cases no
      have hD6 := k6 _ _ hD5
      have k36 : ∀ c o, c ≠ D → H3 c = some o → H6 c = some o := fun c o n h => k6 _ _ (k5 c o n h)
      have w6 := w5.same k6
      refine ⟨v, rfl, iN a, rfl, iN a, rfl, iN many, rfl, _, _, rfl, rfl, .str w, rfl, w, rfl, len5 (by omega), iN many, rfl, _, _, rfl, rfl, ?_⟩
      refine ⟨v, z, lvO z i, a, a + many, (w.length : Int) - (many : Int), rfl, hv, by omega, fun d kvs H7 nd hd hp k7 => ?_⟩
      have hD7 := k7 _ _ hD6
      have w7 := w6.same k7
      obtain ⟨c, ts, rfl, hc, lts, hts⟩ := w7
      refine ⟨.ref D, rfl, .inl ⟨rfl, _, sq_of hD7⟩, .ref c, rfl, c, rfl, ⟨_, sq_of hc⟩, fun F nF => ?_⟩
      have F0 := nF
      let p : Nat → Bool := fun k => !(valV kvs (kk2 ((lvO z2 i).getD k 0 : Nat) (endB z2 (lvO z2 i) k : Nat))).isSome
      have hnew : newN z (lvO z i) a many w.length z2 (lvO z2 i) = ((List.range (lvO z2 i).length).filter p).length := newN_eq fun k hk => by
        have e := (hp (blk z2 (lvO z2 i) k).1 (blk z2 (lvO z2 i) k).2).trans (kept_iff B1)
        show (!(valV kvs (kk2 (blk z2 (lvO z2 i) k).1 (blk z2 (lvO z2 i) k).2)).isSome) = true ↔ _
        rw [← e]
        cases (valV kvs (kk2 (blk z2 (lvO z2 i) k).1 (blk z2 (lvO z2 i) k).2)).isSome <;> simp
      refine lc_list (xs := ts.map V.ref) (fun j H8 => Same H7 H8 ∧ ∃ acc, H8 F = some (.lst acc) ∧ acc.length = ((List.range j).filter p).length) ⟨Same.new nF, [], upd_same, rfl⟩ (fun j H8 _ r => sq_of (r.1 _ _ hc)) ?_ ?_
      · rintro j x H8 hx ⟨k8, acc, hF8, lacc⟩
        rw [List.getElem?_map] at hx
        obtain ⟨t, ht, rfl⟩ := Option.map_eq_some_iff.mp hx
        have lj := (List.getElem?_eq_some_iff.mp ht).1
        have e8 := k8 _ _ (hts j t ht)
        have lf := List.length_filter_le p (List.range j)
        rw [List.length_range] at lf
        have er : ∀ c : Bool, c = p j → ((List.range (j + 1)).filter p).length = ((List.range j).filter p).length + (if c = true then 1 else 0) := fun c hc => by
          subst hc
          rw [List.range_succ, List.filter_append, List.length_append, List.filter_cons]
          split <;> rfl
        refine ⟨rfl, .ref t, rfl, .ref d, rfl, d, _, rfl, DGet.t (k := kk2 ((lvO z2 i).getD j 0 : Nat) (endB z2 (lvO z2 i) j : Nat)) (k8 _ _ hd) e8, _, rfl, ite2 (fun c => ?_) (fun c => ?_)⟩
        · refine ⟨.ref t, rfl, acc, hF8, by show _ < 16777216; omega, sameAt k8 F0, _, upd_same, ?_⟩
          rw [List.length_append, er true c.symm, lacc]
          rfl
        · refine ⟨k8, acc, hF8, ?_⟩
          rw [er false (by cases h : p j with | false => rfl | true => exact absurd h c), lacc]
          rfl
      · rintro H8 ⟨k8, acc, hF8, lacc⟩
        rw [List.length_map, lts, ← hnew] at lacc
        have hD8 := k8 _ _ hD7
        refine ⟨F, _, rfl, .inl (sq_of hF8), D, _, _, rfl, rfl, hD8, ?_, ?_⟩
        · rw [List.length_map]
          unfold dueN
          rw [List.length_map, List.length_range]
          show _ < 16777216
          omega
        refine ⟨_, _, _, _, _, rfl, fun c o n h => by rw [upd_ne n]; exact k8 _ _ (k7 _ _ (k36 c o n h)), ?_⟩
        rw [upd_same, lacc]
        unfold dueN
        rw [List.range_succ, List.map_append, List.map_append]
        rfl
    rintro σ H4 ⟨u7, u8, u9, u10, u11, rfl, k4, hD4⟩
    rw [leny] at hD4
    exact ⟨_, rfl, q D H4 nDH hD4 fun c o e => k4 _ _ (fun w => by rw [w, nDH] at e; cases e) (k23 _ _ e)⟩
end
end LawK
set_option maxHeartbeats 4000000
namespace Ev
open PySem PySem.Spec PyProof.Rows L2
/-! sets of keys of one kind whose table can be walked -/
section
variable {P : Program} {w : World} {K : Type} [DecidableEq K]
/-- no two of them are one key -/
def Apart (κ : KeyKind P w K) (l : List (Int × Value)) : Prop := l.Pairwise fun e f => ∀ k, κ.is k e.2 = true → κ.is k f.2 = true → False
/-- the set at a, S its members, n their number; its table rises and can be walked -/
def SetG (κ : KeyKind P w K) (h : Heap) (a : Addr) (S : K → Bool) (n : Nat) : Prop :=
  ∃ o es ep t, h.get? a = some o ∧ (o.ExactSet ∧ o.data = .set es ep t) ∧ (ElemsOf κ es.toList ∧ Apart κ es.toList) ∧ (∀ k, S k = true ↔ ∃ e ∈ es.toList, κ.is k e.2 = true) ∧ (es.size < scanBound ∧ t.fits es.size = true ∧ es.size = n) ∧ (Ris t.place.toList ∧ (w.params.followText "set-order" = true ∨ t.led = true))
variable {κ : KeyKind P w K} {h h' : Heap} {a : Addr} {S : K → Bool} {n : Nat}
theorem SetG.keep (R : SetG κ h a S n) (k : ∀ o, h.get? a = some o → h'.get? a = some o) : SetG κ h' a S n := let ⟨o, es, ep, t, ho, r⟩ := R; ⟨o, es, ep, t, k o ho, r⟩
theorem SetG.of (R : SetG κ h a S n) : h.SetOf κ a S n := let ⟨o, es, ep, t, ho, x, g, m, b, _⟩ := R; ⟨o, es, ep, t, ho, x.1, x.2, g.1, m, b⟩
theorem Apart.perm {l m : List (Int × Value)} (p : l.Perm m) (x : Apart κ l) : Apart κ m := List.Perm.pairwise p x fun {e f} q k h1 h2 => q k h2 h1
variable {A : Around} {E : Value → Shared → Prop} {s : Shared}
theorem setG_tail {g : Bool → Sem Unit} (gg : ∀ (b : Bool) (z : Shared) (W : Unit → Shared → Prop), W () z → wpAny (model P w) A (g b) W E z)
    {o : Obj} {es fs : Array (Int × Value)} {ep : Nat} {t u : SetTable} (ho : s.heap.get? a = some o) (xs : o.ExactSet) (hd : o.data = .set es ep t) (g1 : ElemsOf κ fs.toList) (n1 : Apart κ fs.toList) (m1 : ∀ k, S k = true ↔ ∃ e ∈ fs.toList, κ.is k e.2 = true)
    (b1 : fs.size < scanBound) (f1 : u.fits fs.size = true) (r1 : Ris u.place.toList) (l1 : w.params.followText "set-order" = true ∨ u.led = true) {wd : Bool} {R : Option Bool → Shared → Prop}
    (fin : ∀ z, Heap.SameBut a s.heap z → SetG κ z a S fs.size → R (some true) { s with heap := z }) :
    wpAny (model P w) A (storeSet a fs u >>= fun _ => if (!wd && u.tooFull) = true then (g (relayAll u fs (SetTable.grown fs.size)).2.2 >>= fun _ => storeSet a (relayAll u fs (SetTable.grown fs.size)).1 (relayAll u fs (SetTable.grown fs.size)).2.1 >>= fun _ => pure (some true)) else pure (some true)) R E s := by
  have put : ∀ {z : Heap} {o : Obj} {es : Array (Int × Value)} {ep : Nat} {t : SetTable} (fs : Array (Int × Value)) (u : SetTable), z.get? a = some o → o.data = .set es ep t → (z.update a (Obj.putSet fs u)).get? a = some { o with data := .set fs (ep + 1) u } := fun {z o es ep t} fs u e d => by
    have q := Heap.get?_update_self (Obj.putSet fs u) e (by rw [putSet_of fs u d] <;> rfl); rw [putSet_of fs u d] at q; exact q
  refine wpAny_bind (wpAny_storeSet_of ho hd ?_ (fits_of_scanBound b1))
  have o1 := put fs u ho hd
  have s1 := Heap.SameBut.update s.heap a (Obj.putSet fs u)
  split
  · have p2 := relayAll_perm u fs (SetTable.grown fs.size); have f2 := relayAll_fits u fs (SetTable.grown fs.size)
    have r2 := relayAll_ris u fs (SetTable.grown fs.size); have l2 := relayAll_led u fs (SetTable.grown fs.size)
    revert p2 f2 r2 l2
    generalize relayAll u fs (SetTable.grown fs.size) = Z
    obtain ⟨gs, v, gv⟩ := Z
    intro p2 f2 r2 l2; dsimp only at p2 f2 r2 l2 ⊢
    have sz : gs.size = fs.size := by have := p2.length_eq; rw [Array.length_toList, Array.length_toList] at this; exact this
    refine wpAny_bind (gg _ _ _ (wpAny_bind (wpAny_storeSet_of o1 rfl ?_ (fits_of_scanBound (by rw [sz] <;> exact b1)))))
    refine wpAny_pure (fin _ (s1.trans (Heap.SameBut.update _ a _)) ⟨_, gs, _, v, put gs v o1 rfl, ⟨xs, rfl⟩, ⟨fun e q => g1 e (p2.mem_iff.mp q), Apart.perm p2.symm n1⟩, fun k => (m1 k).trans ⟨fun ⟨e, q, z⟩ => ⟨e, p2.mem_iff.mpr q, z⟩, fun ⟨e, q, z⟩ => ⟨e, p2.mem_iff.mp q, z⟩⟩, ⟨by rw [sz] <;> exact b1, f2, sz⟩, r2, l1.imp id fun z => l2.trans z⟩)
  · exact wpAny_pure (fin _ s1 ⟨_, fs, _, u, o1, ⟨xs, rfl⟩, ⟨g1, n1⟩, m1, ⟨b1, f1, rfl⟩, r1, l1⟩)
theorem setG_hashed {k : K} {v : Value} {Q : Bool → Shared → Prop} (hv : κ.is k v = true) (sc : v.scannable = true) (R : SetG κ s.heap a S n) (room : n + 1 < scanBound)
    (q : ∀ z, Heap.SameBut a s.heap z → SetG κ z a (fun j => S j || decide (j = k)) (if S k = true then n else n + 1) → Q (!S k) { s with heap := z }) :
    wpAny (model P w) A (setAddHashed a v (κ.hash k)) Q E s := by
  obtain ⟨o, es, ep, t, ho, ⟨xs, hd⟩, ⟨hel, nd⟩, hm, ⟨hb, hf, hn⟩, hr, hl⟩ := R
  unfold setAddHashed; unfold setAddHashedIn
  refine wpAny_holding (wpAny_bind (wpAny_setState_of ho hd hf ?_)); dsimp only
  rw [byScan_of sc hb hel]; simp only [↓reduceIte]
  unfold setAddByScan
  refine wpAny_bind (wpAny_bind (wpAny_rule (wpAny_bind (wpAny_setScan_of hv ho hd hf hel ?_))))
  cases hfi : List.findIdx? (fun e => κ.is k e.2) es.toList with
  | some j =>
    dsimp only
    obtain ⟨hj, pj, _⟩ := List.findIdx?_eq_some_iff_getElem.mp hfi
    have hk : S k = true := (hm k).mpr ⟨es.toList[j], List.getElem_mem hj, pj⟩
    have q1 := q s.heap (Heap.SameBut.refl a s.heap) ⟨o, es, ep, t, ho, ⟨xs, hd⟩, ⟨hel, nd⟩, fun i => by
      rw [Bool.or_eq_true, decide_eq_true_eq, ← hm i]; exact ⟨fun z => z.elim id fun e => by rw [e] <;> exact hk, .inl⟩, ⟨hb, hf, by rw [if_pos hk] <;> exact hn⟩, hr, hl⟩
    rw [hk] at q1; exact wpAny_pure (wpAny_pure q1)
  | none =>
    dsimp only
    have nk : ∀ e ∈ es.toList, κ.is k e.2 = true → False := fun e he z => by
      have c := List.findIdx?_eq_none_iff.mp hfi e he; rw [z] at c; cases c
    have hk : S k = false := Bool.eq_false_iff.mpr fun z => let ⟨e, he, y⟩ := (hm k).mp z; nk e he y
    have gw : ∀ (b : Bool) {z : Shared} {W : Unit → Shared → Prop}, W () z → wpAny (model P w) A (match b with | true => rule "set.scan.the-table-gave-way" | false => pure ()) W E z := fun b {z W} y => by cases b <;> first | exact wpAny_pure y | exact wpAny_rule y
    have pm := layNew_perm t es (κ.hash k) v; have f1 := layNew_fits t es (κ.hash k) v
    have r1 := layNew_ris t es (κ.hash k) v hr; have l1 := layNew_led t es (κ.hash k) v
    revert pm f1 r1 l1
    generalize layNew t es (κ.hash k) v = Z
    obtain ⟨fs, u, wd, gv⟩ := Z
    intro pm f1 r1 l1; dsimp only at pm f1 r1 l1 ⊢
    rw [Array.toList_push] at pm
    have pc : fs.toList.Perm ((κ.hash k, v) :: es.toList) := pm.trans (List.perm_append_singleton _ _)
    have g1 : ElemsOf κ fs.toList := fun e he => by
      rcases List.mem_cons.mp (pc.mem_iff.mp he) with z | z
      · rw [z]; exact ⟨⟨k, hv, rfl⟩, sc⟩
      · exact hel e z
    have n1 : Apart κ fs.toList := Apart.perm pc.symm (List.pairwise_cons.mpr ⟨fun e he j x y => nk e he (by rw [← κ.inj v j k x hv] <;> exact y), nd⟩)
    have m1 : ∀ i, (S i || decide (i = k)) = true ↔ ∃ e ∈ fs.toList, κ.is i e.2 = true := fun i => by
      rw [Bool.or_eq_true, decide_eq_true_eq, hm i]
      constructor
      · rintro (⟨e, he, y⟩ | y)
        · exact ⟨e, pc.mem_iff.mpr (List.mem_cons_of_mem _ he), y⟩
        · exact ⟨_, pc.mem_iff.mpr List.mem_cons_self, by rw [y] <;> exact hv⟩
      · rintro ⟨e, he, y⟩
        rcases List.mem_cons.mp (pc.mem_iff.mp he) with z | z
        · rw [z] at y; exact .inr (κ.inj v i k y hv)
        · exact .inl ⟨e, z, y⟩
    have sz : fs.size = n + 1 := by have := pc.length_eq; rw [Array.length_toList, List.length_cons, Array.length_toList, hn] at this; exact this
    have b1 : fs.size < scanBound := by rw [sz] <;> exact room
    have ld : w.params.followText "set-order" = true ∨ u.led = true := hl.imp id fun z => l1.trans z
    have fin : ∀ z, Heap.SameBut a s.heap z → SetG κ z a (fun j => S j || decide (j = k)) fs.size → Q true { s with heap := z } := fun z sb r => by
      have q1 := q z sb; rw [hk] at q1; rw [sz] at r; exact q1 r
    have last : ∀ {u' : SetTable} {R : Option Bool → Shared → Prop} {g : Bool → Sem Unit}, (∀ (b : Bool) (z : Shared) (W : Unit → Shared → Prop), W () z → wpAny (model P w) A (g b) W E z) → u'.fits fs.size = true → Ris u'.place.toList → (w.params.followText "set-order" = true ∨ u'.led = true) → (∀ z, Heap.SameBut a s.heap z → SetG κ z a (fun j => S j || decide (j = k)) fs.size → R (some true) { s with heap := z }) → _ := fun {u' R g} gg a1 a2 a3 a4 => setG_tail (κ := κ) (wd := wd) (A := A) (E := E) (s := s) (R := R) gg ho xs hd g1 n1 m1 b1 a1 a2 a3 a4
    refine wpAny_bind (gw _ ?_)
    split
    · rw [hashByValue_scannable 8 sc]
      refine wpAny_bind (wpAny_pure (last ?_ ?_ ?_ ?_ ?_))
      · intro b z W y; cases b <;> first | exact wpAny_pure y | exact wpAny_rule y
      · first | (split <;> first | exact f1 | exact SetTable.fits_plain_off f1) | exact f1
      · first | (split <;> exact r1) | exact r1
      · first | (split <;> exact ld) | exact ld
      · intro z sb r; dsimp only; exact wpAny_pure (fin z sb r)
    · refine wpAny_bind (wpAny_pure ?_); simp only [↓reduceIte]
      refine last ?_ f1 r1 ld ?_
      · intro b z W y; cases b <;> first | exact wpAny_pure y | exact wpAny_rule y
      · intro z sb r; dsimp only; exact wpAny_pure (fin z sb r)
end
end Ev
set_option maxHeartbeats 4000000
namespace Ev
open PySem PySem.Spec PyProof.Rows L2
/-- one turn of a block's loop: the next thing, its store, the tests, then the body -/
def oneTurn (c : Code) (ip : Pos) (tg : Expr) (ifs : List Expr) (it : Value) (env : Env) (body : Sem PySem.Fin) : Sem PySem.Fin := standAt ip >>= fun _ => pyNext it >>= fun r => match r with
  | none => pure (.done .next)
  | some v => letOwnedTupleGo tg it v >>= fun _ => assign tg env v >>= fun _ => (forIn ifs true fun c r => if r = true then (do let ok ← isTrue c env (eval c env); pure (ForInStep.yield ok)) else pure (ForInStep.yield r)) >>= fun ok => if ok = true then body else again c
theorem turn_set1 (elt tg iter : Expr) (ifs : List Expr) (scope : Scope) (pos : Pos) (it acc : Value) (env : Env) :
    compTurn (.SetComp elt [⟨tg, iter, ifs, 0⟩] scope pos) 0 it acc env = oneTurn (.compLoop (.SetComp elt [⟨tg, iter, ifs, 0⟩] scope pos) 0 it acc env) iter.pos tg ifs it env ((eval elt env >>= fun v => standAt elt.pos >>= fun _ => call (.builtin "set.add") [acc, v] >>= fun _ => pure ()) >>= fun _ => again (.compLoop (.SetComp elt [⟨tg, iter, ifs, 0⟩] scope pos) 0 it acc env)) := by
  unfold oneTurn
  rfl
theorem turn_set2i (elt t0 i0 t1 i1 : Expr) (ifs0 ifs1 : List Expr) (scope : Scope) (pos : Pos) (it acc : Value) (env : Env) :
    compTurn (.SetComp elt [⟨t0, i0, ifs0, 0⟩, ⟨t1, i1, ifs1, 0⟩] scope pos) 1 it acc env = oneTurn (.compLoop (.SetComp elt [⟨t0, i0, ifs0, 0⟩, ⟨t1, i1, ifs1, 0⟩] scope pos) 1 it acc env) i1.pos t1 ifs1 it env ((eval elt env >>= fun v => standAt elt.pos >>= fun _ => call (.builtin "set.add") [acc, v] >>= fun _ => pure ()) >>= fun _ => again (.compLoop (.SetComp elt [⟨t0, i0, ifs0, 0⟩, ⟨t1, i1, ifs1, 0⟩] scope pos) 1 it acc env)) := by
  unfold oneTurn
  rfl
theorem turn_set2o (elt t0 i0 t1 i1 : Expr) (ifs0 ifs1 : List Expr) (scope : Scope) (pos : Pos) (it acc : Value) (env : Env) :
    compTurn (.SetComp elt [⟨t0, i0, ifs0, 0⟩, ⟨t1, i1, ifs1, 0⟩] scope pos) 0 it acc env = oneTurn (.compLoop (.SetComp elt [⟨t0, i0, ifs0, 0⟩, ⟨t1, i1, ifs1, 0⟩] scope pos) 0 it acc env) i0.pos t0 ifs0 it env
      (eval i1 env >>= fun x => standAt i1.pos >>= fun _ => foldedSetIterable i1 env x >>= fun x => holding [x] (pyIter x) >>= fun j => runOwn (.compStart (.SetComp elt [⟨t0, i0, ifs0, 0⟩, ⟨t1, i1, ifs1, 0⟩] scope pos) 1 j acc env) env >>= fun _ => again (.compLoop (.SetComp elt [⟨t0, i0, ifs0, 0⟩, ⟨t1, i1, ifs1, 0⟩] scope pos) 0 it acc env)) := by
  unfold oneTurn
  rfl
section
variable {Y : Cx} {e : Expr} {ci : Nat} {it : Addr} {acc : Value} {ip : Pos} {tg : Expr} {ifs : List Expr} {body : Sem PySem.Fin} {J : It} {fp : List Addr} {tn : Nat → Heap → Prop} {R : Result → Shared → Prop} {pins : List (Addr × Obj)} {σ : L2.St} {vs : List Nat} {g : TG} {tt : TT}
/-- what a body says of the slots: those that were wiped may be anything -/
def Slots (σ τ : L2.St) (vs : List Nat) : Prop := τ.length = σ.length ∧ ∀ (j : Nat) v, (wipe σ vs)[j]? = some (some v) → τ[j]? = some (some v)
/-- a block's loop over what is walked: W at each turn, and the body's own word B -/
theorem loop_any (B : L2.St → Hp → (Hp → Prop) → Prop) (hden : (model Y.prog Y.w).den (.compLoop e ci (.ref it) acc Y.env) = (oneTurn (.compLoop e ci (.ref it) acc Y.env) ip tg ifs (.ref it) Y.env body).onRaise (fun x => do noteFrame x Y.env; theTreesLotGoes x))
    (hu : Y.A.under (.compLoop e ci (.ref it) acc Y.env) = Y.A) (hq : (Code.compLoop e ci (.ref it) acc Y.env).quiet = true) (hc : Y.calm = true) (T : Turn Y.prog Y.w Y.K tg J fp it tn) (pg : PG Y tg g) (pt : PTs Y ifs tt) (hA : ∀ x s, ¬ Y.xe x s)
    (hb : ∀ (pins' : List (Addr × Obj)) s τ H (N : Hp → Prop), (∀ p ∈ pins, p ∈ pins') → Inv Y pins' τ H s → B τ H N → wpAny (model Y.prog Y.w) Y.A body (fun r s' => r = .again (.compLoop e ci (.ref it) acc Y.env) ∧ ∃ τ' H', Inv Y pins' τ' H' s' ∧ Slots τ τ' vs ∧ N H') Y.xe s)
    (fok : ∀ {H : Hp}, (∀ b ∈ fp, H b = none) → ∀ b ∈ fp, FpOk Y pins H b) (W : Nat → Nat → Hp → Prop) (F : Hp → Prop)
    (turn : ∀ i m H, W i m H → (J.stop i H ∧ F H) ∨ (J.go i H ∧ ∃ N : Hp → Prop, (∀ H', N H' → ∃ m', m' < m ∧ W (i + 1) m' H') ∧ ∀ x H', J.yld i H x H' → g x (wipe σ vs) H' fun σ2 H2 => wipe σ2 vs = wipe σ vs ∧ tt σ2 H2 fun b H3 => if b = true then B σ2 H3 N else N H3))
    (fin : ∀ s' H', Inv Y pins (wipe σ vs) H' s' → F H' → R (.ok .next) s') (m0 : Nat) (s : Shared) (H : Hp) (w0 : W 0 m0 H) (I : Inv Y pins (wipe σ vs) H s) (t0 : tn 0 s.heap) (n0 : ∀ b ∈ fp, H b = none) :
    codeAny (model Y.prog Y.w) Y.A (.compLoop e ci (.ref it) acc Y.env) R s := by
  have th : ∀ {α : Type} {t : Sem α} {Q Q' : α → Shared → Prop} {E : Value → Shared → Prop} {s : Shared}, wpAny (model Y.prog Y.w) Y.A t Q Y.xe s → (∀ a s, Q a s → Q' a s) → wpAny (model Y.prog Y.w) Y.A t Q' E s := fun h q => wpAny_mono h q fun x s z => (hA x s z).elim
  refine codeAny_loop hq (fun m s' => ∃ i H', W i m H' ∧ Inv Y pins (wipe σ vs) H' s' ∧ tn i s'.heap ∧ ∀ b ∈ fp, H' b = none) (fun m s1 hI => ?_) m0 ⟨0, H, w0, I, t0, n0⟩
  obtain ⟨i, H1, w1, I1, t1, n1⟩ := hI
  rw [hden, hu]
  refine wpAny_noted ?_
  unfold oneTurn
  refine wpAny_bind (wpAny_standAt (wpAny_bind ?_))
  rcases turn i m H1 w1 with ⟨stop, f1⟩ | ⟨go, N, hN, step⟩
  · refine thnF (T.done Y rfl rfl rfl hc i pins s1 _ H1 (fun _ _ => False) I1 (fok n1) t1 stop) fun r s2 ⟨er, I2⟩ => ?_
    subst er
    exact wpAny_pure (fin s2 H1 I2 f1)
  · refine thnF (T.item Y rfl rfl rfl hc i pins s1 _ H1 (fun _ _ => False) I1 (fok n1) t1 go) fun r s2 ⟨u, er, h2⟩ => ?_
    subst er
    refine wpAny_bind (thnF h2 fun _ s3 ⟨x, H3, I3, r3, y3, t3, n3⟩ => wpAny_bind ?_)
    have J3 := I3.pinned (fok n3) (T.obj _ _ t3)
    refine th (pg.run _ s3 _ H3 x u _ J3 r3 (step x H3 y3)) fun _ s4 ⟨τ, H4, I4, e4, q4⟩ => wpAny_bind ?_
    refine th (pt.run _ s4 τ H4 _ I4 q4) fun b s5 ⟨H5, I5, q5⟩ => ?_
    have back : ∀ {τ' : L2.St} {s' : Shared} {H' : Hp}, Inv Y (pins ++ pinsAt fp s3.heap) τ' H' s' → Slots τ τ' vs → N H' → ∃ m', m' < m ∧ ∃ i H', W i m' H' ∧ Inv Y pins (wipe σ vs) H' s' ∧ tn i s'.heap ∧ ∀ b ∈ fp, H' b = none := fun {τ' s' H'} I' sl nx => by
      obtain ⟨m', lm, w'⟩ := hN H' nx
      have pin : ∀ b ∈ fp, ∀ o, s3.heap.get? b = some o → s'.heap.get? b = some o ∧ H' b = none := fun b hb o eo => let z := I'.pin (b, o) (List.mem_append_right _ (List.mem_append_right _ (mem_pinsAt hb eo))); ⟨z.1, z.2.1⟩
      refine ⟨m', lm, i + 1, H', w', I'.unpinned.weak ?_ (fun j v ev => sl.2 j v (by rw [e4] <;> exact ev)), T.keep _ _ _ t3 fun b hb o eo => (pin b hb o eo).1, fun b hb => ?_⟩
      · rw [sl.1, ← wipe_length τ vs, e4] <;> rfl
      · obtain ⟨o, eo, _⟩ := T.obj _ _ t3 b hb
        exact (pin b hb o eo).2
    cases b with
    | false =>
      simp only [Bool.false_eq_true, if_false] at q5 ⊢
      exact wpAny_pure ⟨rfl, back I5 ⟨rfl, fun j v ev => (wipe_some ev).1⟩ q5⟩
    | true =>
      simp only [if_true] at q5 ⊢
      exact th (hb _ s5 τ H5 N (fun p hp => List.mem_append_left _ hp) I5 q5) fun r s6 ⟨er, τ', H6, I6, sl, q6⟩ => by subst er; exact ⟨rfl, back I6 sl q6⟩
end
end Ev
set_option maxHeartbeats 4000000
namespace Ev
open PySem PySem.Spec PyProof.Rows L2
theorem setG_add {P : Program} {w : World} {K : Type} [DecidableEq K] {κ : KeyKind P w K} {A : Around} {E : Value → Shared → Prop} {s : Shared} {a : Addr} {S : K → Bool} {n : Nat} {k : K} {v : Value} {Q : Value → Shared → Prop} (hv : κ.is k v = true) (sc : v.scannable = true) (R : SetG κ s.heap a S n) (room : n + 1 < scanBound)
    (q : ∀ z, Heap.SameBut a s.heap z → SetG κ z a (fun j => S j || decide (j = k)) (if S k = true then n else n + 1) → Q .none { s with heap := z, toks := s.toks + 1 }) : wpAny (model P w) A (call (.builtin "set.add") [.ref a, v]) Q E s := by
  refine wpAny_call_entry F.slot_set_add R.of.typeIs F.entry_set_add ?_ (F.args_set_add_2 _ _)
  unfold Builtin.«set.add»; unfold Builtin.Frozenset.oneOther
  simp only [List.isEmpty_nil, bind_assoc]; unfold Builtin.Frozenset.addrOf; unfold setAdd
  refine wpAny_bind (wpAny_pure ?_); try dsimp only
  refine wpAny_bind (wpAny_pure ?_); try dsimp only
  refine wpAny_bind (wpAny_holding (wpAny_bind (κ.pyHash hv (setG_hashed (s := { s with toks := s.toks + 1 }) hv sc R room fun z sb r => ?_))))
  show wpAny _ _ (ret Value.none) _ _ _; exact wpAny_pure ⟨_, rfl, q z sb r⟩
/-- the set of keys at a, that can be walked -/
def SetX (P : Program) (w : World) (a : Addr) (S : Key → Bool) (n : Nat) : HO := .ext fun h => SetG (mixKind P w) h a S n
theorem setX_new {P : Program} {w : World} {H : Hp} {h : Heap} {a : Addr} {S : Key → Bool} {n : Nat} (R : SetG (mixKind P w) h a S n) : ObjOk P w H h a (SetX P w a S n) := by
  have ⟨o, _, _, _, ho, _⟩ := R
  exact ⟨R, ⟨o, ho⟩, fun h1 h2 p k => SetG.keep p k⟩
/-- the set with one more -/
def put1 (P : Program) (w : World) (D : Addr) (S : Key → Bool) (n : Nat) (k : Key) : HO := SetX P w D (fun j => S j || decide (j = k)) (if S k = true then n else n + 1)
section
variable {X : Cx} {pins : List (Addr × Obj)} {σ : L2.St} {H : Hp} {s : Shared}
theorem setX_get {a : Addr} {S : Key → Bool} {n : Nat} (I : Inv X pins σ H s) (ha : H a = some (SetX X.prog X.w a S n)) : SetG (mixKind X.prog X.w) s.heap a S n := (I.hok a _ ha).1
/-- set.add of a key -/
theorem addX_ok {E : Value → Shared → Prop} {D : Addr} {S : Key → Bool} {n : Nat} {k : Key} {v : Value} {Q : Value → Shared → Prop} (I : Inv X pins σ H s) (r : RelV (kV k) v) (hD : H D = some (SetX X.prog X.w D S n)) (room : n + 1 < scanBound)
    (h : ∀ s', Inv X pins σ (upd H D (put1 X.prog X.w D S n k)) s' → Q .none s') : wpAny (model X.prog X.w) X.A (call (.builtin "set.add") [.ref D, v]) Q E s := by
  refine setG_add (kV_is r) (key_scan r) (setX_get I hD) room fun z sb new => ?_
  have ⟨o, _, _, _, ho, _⟩ := new
  exact h _ (I.write (e := D) (t' := s.toks + 1) (by rw [hD] <;> trivial) (.inl rfl) (fun b u hb hu => (sb.2 b hb).trans hu) ⟨o, ho⟩ (setX_new new))
end
/-- what a body asks that puts one key more into D -/
def bAdd (P : Program) (w : World) (D : Addr) (te : TE) : L2.St → Hp → (Hp → Prop) → Prop := fun τ H N => te τ H fun y H4 => ∃ (k : Key) (S : Key → Bool) (n : Nat), y = kV k ∧ H4 D = some (SetX P w D S n) ∧ n + 1 < scanBound ∧ N (upd H4 D (put1 P w D S n k))
theorem body_add {Y : Cx} {elt : Expr} {te : TE} {c : Code} {D : Addr} {vs : List Nat} (pe : PE Y elt te) (pins' : List (Addr × Obj)) (s : Shared) (τ : L2.St) (H : Hp) (N : Hp → Prop) (I : Inv Y pins' τ H s) (h : bAdd Y.prog Y.w D te τ H N) :
    wpAny (model Y.prog Y.w) Y.A ((eval elt Y.env >>= fun v => standAt elt.pos >>= fun _ => call (.builtin "set.add") [.ref D, v] >>= fun _ => pure ()) >>= fun _ => again c) (fun r s' => r = .again c ∧ ∃ τ' H', Inv Y pins' τ' H' s' ∧ Slots τ τ' vs ∧ N H') Y.xe s := by
  refine wpAny_bind (wpAny_bind (thn (pe.run pins' s τ H _ I h) fun v s1 ⟨y, H1, I1, r1, k, S, n, ey, hD, room, nx⟩ => wpAny_bind (wpAny_standAt (wpAny_bind ?_))))
  subst ey
  exact addX_ok I1 r1 hD room fun s2 I2 => wpAny_pure (wpAny_pure ⟨rfl, τ, _, I2, ⟨rfl, fun j v e => (wipe_some e).1⟩, nx⟩)
/-- over anything that is walked -/
theorem wk {J : It} {n : Nat} {G : Hp → Prop} {Y : Nat → Hp → V → Hp → Prop} (w : Walk J n G Y) {F : Hp → Prop} {H0 : Hp} {T : V → Hp → (Hp → Prop) → Prop} (Pv : Nat → Hp → Prop) (h0 : Pv 0 H0) (hG : ∀ i H, i ≤ n → Pv i H → G H)
    (hs : ∀ i x H H', i < n → Pv i H → Y i H x H' → T x H' (Pv (i + 1))) (hd : ∀ H, Pv n H → F H) :
    ∃ W : Nat → Nat → Hp → Prop, (∃ m, W 0 m H0) ∧ ∀ i m H, W i m H → (J.stop i H ∧ F H) ∨ (J.go i H ∧ ∃ N : Hp → Prop, (∀ H', N H' → ∃ m', m' < m ∧ W (i + 1) m' H') ∧ ∀ x H', J.yld i H x H' → T x H' N) := by
  refine ⟨fun i m H => i ≤ n ∧ m + i = n ∧ Pv i H, ⟨n, Nat.zero_le _, rfl, h0⟩, fun i m H ⟨hi, em, p⟩ => ?_⟩
  rcases Nat.lt_or_ge i n with hlt | hge
  · exact .inr ⟨w.goes i H hlt (hG i H hi p), Pv (i + 1), fun H' p' => ⟨m - 1, by omega, hlt, by omega, p'⟩, fun x H' y => hs i x H H' hlt p (w.yields i H x H' hlt (hG i H hi p) y)⟩
  · obtain rfl : i = n := Nat.le_antisymm hi hge
    exact .inl ⟨w.stops H (hG i H hi p), hd H p⟩
end Ev
set_option maxHeartbeats 4000000
namespace Ev
open PySem PySem.Spec PyProof.Rows L2
/-- an empty set, new at the heap's end -/
abbrev emptyS (w : World) : Obj := { cls := .type "set", dict := none, data := .set #[] 0 (.fresh 0 0 (!w.params.followText "set-order")) }
theorem setG_new {P : Program} {w : World} {K : Type} [DecidableEq K] {κ : KeyKind P w K} {h : Heap} : SetG κ (h.push (emptyS w)) h.objs.size (fun _ => false) 0 := by
  refine ⟨_, #[], 0, _, Heap.get?_push_size _ rfl, ⟨⟨rfl, rfl, rfl⟩, rfl⟩, ⟨fun e he => by simp at he, List.Pairwise.nil⟩, fun k => by simp, ⟨by decide, by rfl, rfl⟩, List.Pairwise.nil, ?_⟩
  show _ ∨ (!w.params.followText "set-order") = true
  cases w.params.followText "set-order" with
  | true => exact .inl rfl
  | false => exact .inr rfl
/-- {.. for tg in iter if ..}, B: what each turn's body asks, D the new set -/
def tScG (P : Program) (w : World) (wi : TI) (g : TG) (tt : TT) (B : Addr → L2.St → Hp → (Hp → Prop) → Prop) (vs : List Nat) : TE := fun σ H Q => wi σ H fun J H1 => ∀ D, H1 D = none → ∃ W : Nat → Nat → Hp → Prop, (∃ m, W 0 m (upd H1 D (SetX P w D (fun _ => false) 0))) ∧ ∀ i m H, W i m H → (J.stop i H ∧ Q (.ref D) H) ∨ (J.go i H ∧ ∃ N : Hp → Prop, (∀ H', N H' → ∃ m', m' < m ∧ W (i + 1) m' H') ∧ ∀ x H', J.yld i H x H' → g x (wipe σ vs) H' fun σ2 H2 => wipe σ2 vs = wipe σ vs ∧ tt σ2 H2 fun b H3 => if b = true then B D σ2 H3 N else N H3)
/-- what an inner clause asks -/
def bIn (P : Program) (w : World) (wi1 : TI) (g1 : TG) (tt1 : TT) (te : TE) (vs1 : List Nat) (D : Addr) : L2.St → Hp → (Hp → Prop) → Prop := fun τ H N => wi1 τ H fun J1 H4 => ∃ W1 : Nat → Nat → Hp → Prop, (∃ m, W1 0 m H4) ∧ ∀ j k H, W1 j k H → (J1.stop j H ∧ N H) ∨ (J1.go j H ∧ ∃ N1 : Hp → Prop, (∀ H', N1 H' → ∃ k', k' < k ∧ W1 (j + 1) k' H') ∧ ∀ x H', J1.yld j H x H' → g1 x (wipe τ vs1) H' fun σ3 H5 => wipe σ3 vs1 = wipe τ vs1 ∧ tt1 σ3 H5 fun b H6 => if b = true then bAdd P w D te σ3 H6 N1 else N1 H6)
/-- the block that a comprehension runs in -/
abbrev blkC (X : Cx) (s : Shared) (H : Hp) (scope : Scope) (fp : List Addr) : Cx := X.blk s H scope (compEnvC scope (cellsFrom (s.heap.objs.size + 1) scope.names (cloFrom X.env.cells scope.names [])) s.heap.objs.size X.env) fp
section
variable {X : Cx} {elt tg iter : Expr} {ifs : List Expr} {rest : List Comprehension} {scope : Scope} {own : List (Str × Nat)} {pos pos' : Pos} {wi : TI} {g : TG} {tt : TT} {B : Addr → L2.St → Hp → (Hp → Prop) → Prop}
theorem scG_core (bodyK : Addr → Addr → Env → Sem PySem.Fin) (hc : X.calm = true) (hN : X.N.Nodup) (hi : PI X tg iter wi) (ok : BlkOk X.N X.env.scope scope own)
    (hg : ∀ s H fp, PG (blkC X s H scope fp) tg g) (ht : ∀ s H fp, PTs (blkC X s H scope fp) ifs tt) (hs : ∀ x, foldedSetIterable iter X.env x = pure x)
    (hden : ∀ (it D : Addr) (env : Env), compTurn (.SetComp elt (⟨tg, iter, ifs, 0⟩ :: rest) scope pos) 0 (.ref it) (.ref D) env = oneTurn (.compLoop (.SetComp elt (⟨tg, iter, ifs, 0⟩ :: rest) scope pos) 0 (.ref it) (.ref D) env) iter.pos tg ifs (.ref it) env (bodyK it D env))
    (hb : ∀ (s0 : Shared) (H0 : Hp) (fp : List Addr) (it D : Addr) pins' s τ H (N : Hp → Prop), Inv (blkC X s0 H0 scope fp) pins' τ H s → B D τ H N →
      wpAny (model X.prog X.w) X.A (bodyK it D (blkC X s0 H0 scope fp).env) (fun r s' => r = .again (.compLoop (.SetComp elt (⟨tg, iter, ifs, 0⟩ :: rest) scope pos) 0 (.ref it) (.ref D) (blkC X s0 H0 scope fp).env) ∧ ∃ τ' H', Inv (blkC X s0 H0 scope fp) pins' τ' H' s' ∧ Slots τ τ' (own.map (·.2)) ∧ N H') (blkC X s0 H0 scope fp).xe s) :
    PE X (.SetComp elt (⟨tg, iter, ifs, 0⟩ :: rest) scope pos) (tScG X.prog X.w wi g tt B (own.map (·.2))) := by
  refine ⟨fun pins s σ H Q I h => ?_⟩
  show wpAny _ _ (comprehension (.SetComp elt (⟨tg, iter, ifs, 0⟩ :: rest) scope pos) scope X.env _ (newSet (.type "set")) false (eval iter X.env) none) _ _ _
  have free : ∀ y ∈ scope.names, y.2 = .free → ∃ c, X.env.cells.lookup y.1 = some c := fun y hy e => (ok.free y hy e).elim (fun k => I.ok.has _ (.inl k)) fun k => I.ok.has _ (.inr k)
  refine wpAny_comprehension_free (use := none) rfl hs (closure_ok free) ok.kind (fun y hy e => by rw [ok.uniq y hy, e]) (thn (hi.run pins s σ H _ I h) fun xv s1 hx => thn hx fun itv s2 ⟨it, fp, tn, J, H2, eit, I2, T, t2, f2, q⟩ => PpSet.newSet_ok (newEnv_comp ?_))
  subst eit
  have fresh : H2 s2.heap.objs.size = none := I2.hok.fresh (Nat.le_refl _)
  obtain ⟨W, ⟨m0, w0⟩, turn⟩ := q _ fresh
  have old : ∀ b ∈ fp, b < s2.heap.objs.size := fun b hb => let ⟨o, e, _⟩ := T.obj _ _ t2 b hb; Heap.lt_size e
  -- with the new set
  obtain ⟨D, eD⟩ : ∃ D, s2.heap.objs.size = D := ⟨_, rfl⟩
  obtain ⟨s3, e3⟩ : ∃ s3 : Shared, s3 = { s2 with heap := s2.heap.push (emptyS X.w) } := ⟨_, rfl⟩
  have h3 : s3.heap = s2.heap.push (emptyS X.w) := by rw [e3]
  obtain ⟨H3, eH⟩ : ∃ H3, H3 = upd H2 s2.heap.objs.size (SetX X.prog X.w s2.heap.objs.size (fun _ => false) 0) := ⟨_, rfl⟩
  have I3 : Inv X pins σ H3 s3 := by
    rw [eH, e3]
    exact I2.laid (t' := s2.toks) (fun b o e => Heap.get?_push_of_some _ e) (Nat.le_refl _) (setX_new setG_new)
  have f3 : ∀ b ∈ fp, FpOk X pins H3 b ∧ b < s3.heap.objs.size := fun b hb => by
    have lt := old b hb
    refine ⟨⟨?_, (f2 b hb).2⟩, by rw [h3, Heap.size_push] <;> exact Nat.lt_succ_of_lt lt⟩
    rw [eH, upd_ne (Nat.ne_of_lt lt)] <;> exact (f2 b hb).1
  have t3 : tn 0 s3.heap := T.keep _ _ _ t2 fun b _ o e => by rw [h3] <;> exact Heap.get?_push_of_some _ e
  rw [← eH] at w0
  rw [eD] at turn
  show codeAny _ _ (.compStart (.SetComp elt (⟨tg, iter, ifs, 0⟩ :: rest) scope pos) 0 (.ref it) (.ref s2.heap.objs.size) _) (compPost _ _ _ _ _ (.ref s2.heap.objs.size) _) _
  rw [eD]
  have I4 := block_start I3 ok hN f3
  have goal : codeAny (model X.prog X.w) X.A (.compStart (.SetComp elt (⟨tg, iter, ifs, 0⟩ :: rest) scope pos) 0 (.ref it) (.ref D) (blkC X s3 H3 scope fp).env) (compPost (model X.prog X.w) X.A X.xe none (EP X pins σ Q) (.ref D) s3.heap.objs.size) { s3 with heap := pushCells (s3.heap.push { cls := .type "dict", data := .dict #[] }) scope.names } := by
    have t4 : tn 0 ({ s3 with heap := pushCells (s3.heap.push { cls := .type "dict", data := .dict #[] }) scope.names } : Shared).heap := T.keep _ _ _ t3 fun b _ o e => pushCells_keeps _ _ _ _ (Heap.get?_push_of_some _ e)
    revert I4 t4
    generalize ({ s3 with heap := pushCells (s3.heap.push { cls := .type "dict", data := .dict #[] }) scope.names } : Shared) = s4
    intro I4 t4
    have stat : ∀ {H' : Hp}, (∀ b ∈ fp, H' b = none) → ∀ b ∈ fp, FpOk (blkC X s3 H3 scope fp) [] H' b := fun hn b hb =>
      ⟨hn b hb, (I4.ok.exf b hb).1, I4.ok.exfs b hb, .inl hb, fun x c e => (I4.ok.exf b hb).2 x c e, fun p hp => nomatch (show p ∈ ([] : List (Addr × Obj)) from hp)⟩
    have loop := loop_any (Y := blkC X s3 H3 scope fp) (e := .SetComp elt (⟨tg, iter, ifs, 0⟩ :: rest) scope pos) (ci := 0) (it := it) (acc := .ref D) (ip := iter.pos) (body := bodyK it D (blkC X s3 H3 scope fp).env) (R := compPost (model X.prog X.w) X.A X.xe none (EP X pins σ Q) (.ref D) s3.heap.objs.size) (σ := σ) (vs := own.map (·.2)) (pins := []) (B D)
      (by show (compTurn _ 0 (.ref it) (.ref D) _).onRaise _ = _; rw [hden]) rfl rfl hc T (hg s3 H3 fp) (ht s3 H3 fp) (fun _ _ z => z) (fun pins' s τ H N _ I' b => hb s3 H3 fp it D pins' s τ H N I' b) stat W (fun H => Q (.ref D) H) turn (fun s' H' I' qq => ?_) m0 s4 H3 w0 I4 t4 (fun b hb => (f3 b hb).1.1)
    · exact PpSet.codeAny_compStart_set loop (T.self X.A 0 _ _ _ t4 loop)
    · have J' : Inv X pins σ H' s' := I3.call' (ch := fp) I'.os I'.base I'.hok I'.bare fun b hb => let z := (f3 b hb).1.2; ⟨z.2.2.1, z.1, z.2.2.2.1, z.2.2.2.2⟩
      obtain ⟨m, hm, _⟩ := I'.loc
      have f := I3.fpOk (H' := H') (Nat.le_refl _) I'.free
      exact ⟨m, hm, fun z sb => ⟨.ref D, H', J'.turned (t' := s'.toks) (fun b o hb e => (sb.2 b hb).trans e) f.1 f.2.1 f.2.2.2.1 f.2.2.2.2.1 f.2.2.2.2.2, rfl, qq⟩⟩
  subst e3
  exact goal
/-- one clause -/
theorem pe_sc1 {te : TE} (hc : X.calm = true) (hN : X.N.Nodup) (hi : PI X tg iter wi) (ok : BlkOk X.N X.env.scope scope own) (hg : ∀ s H fp, PG (blkC X s H scope fp) tg g) (ht : ∀ s H fp, PTs (blkC X s H scope fp) ifs tt) (he : ∀ s H fp, PE (blkC X s H scope fp) elt te)
    (hs : ∀ x, foldedSetIterable iter X.env x = pure x := by intro _; rfl) : PE X (.SetComp elt [⟨tg, iter, ifs, 0⟩] scope pos) (tScG X.prog X.w wi g tt (fun D => bAdd X.prog X.w D te) (own.map (·.2))) :=
  scG_core (B := fun D => bAdd X.prog X.w D te) _ hc hN hi ok hg ht hs (fun it D env => turn_set1 elt tg iter ifs scope pos (.ref it) (.ref D) env) fun s0 H0 fp it D pins' s τ H N I b => body_add (Y := blkC X s0 H0 scope fp) (he s0 H0 fp) pins' s τ H N I b
end
end Ev
set_option maxHeartbeats 4000000
namespace Ev
open PySem PySem.Spec PyProof.Rows L2
theorem start_in {prog : Program} {w : World} {A : Around} {R : Result → Shared → Prop} {s : Shared} {env : Env} {elt t0 i0 t1 i1 : Expr} {ifs0 ifs1 : List Expr} {scope : Scope} {pos : Pos} {it acc : Value}
    (h0 : codeAny (model prog w) A (.compLoop (.SetComp elt [⟨t0, i0, ifs0, 0⟩, ⟨t1, i1, ifs1, 0⟩] scope pos) 1 it acc env) R s)
    (h : wpAny (model prog w) A (pyIter it) (fun j s' => codeAny (model prog w) A (.compLoop (.SetComp elt [⟨t0, i0, ifs0, 0⟩, ⟨t1, i1, ifs1, 0⟩] scope pos) 1 j acc env) R s') (notedBy (model prog w) A env fun x s' => R (.error x) s') s) :
    codeAny (model prog w) A (.compStart (.SetComp elt [⟨t0, i0, ifs0, 0⟩, ⟨t1, i1, ifs1, 0⟩] scope pos) 1 it acc env) R s := by
  refine codeAny_of_tree ?_
  show wpAny _ _ ((compStart _ 1 it acc env).onRaise (fun x => do noteFrame x env; standAt theWindowsPlace)) _ _ s
  refine wpAny_notedAt ?_; unfold compStart
  show wpAny _ _ (ask >>= _) _ _ s
  refine wpAny_bind (wpAny_askSetting (wpAny_ite ?_)); split
  · first | exact wpAny_bind (wpAny_pure (wpAny_pure ⟨rfl, h0⟩)) | exact wpAny_pure ⟨rfl, h0⟩
  · have go : ∀ {W : PySem.Fin → Shared → Prop}, (∀ j s', codeAny (model prog w) A (.compLoop (.SetComp elt [⟨t0, i0, ifs0, 0⟩, ⟨t1, i1, ifs1, 0⟩] scope pos) 1 j acc env) R s' → W (.again (.compLoop (.SetComp elt [⟨t0, i0, ifs0, 0⟩, ⟨t1, i1, ifs1, 0⟩] scope pos) 1 j acc env)) s') → wpAny (model prog w) A (pyIter it >>= fun j => again (.compLoop (.SetComp elt [⟨t0, i0, ifs0, 0⟩, ⟨t1, i1, ifs1, 0⟩] scope pos) 1 j acc env)) W (notedBy (model prog w) A env fun x s' => R (.error x) s') s := fun k => wpAny_bind (wpAny_mono h (fun j s' z => wpAny_pure (k j s' z)) fun _ _ x => x)
    refine wpAny_bind (wpAny_rule ?_)
    show wpAny _ _ (standAt i1.pos >>= _) _ _ s
    exact wpAny_bind (wpAny_standAt (go fun j s' z => ⟨rfl, z⟩))
section
variable {X : Cx} {elt tg iter tg1 iter1 : Expr} {ifs ifs1 : List Expr} {scope : Scope} {own : List (Str × Nat)} {vs1 : List Nat} {pos : Pos} {wi wi1 : TI} {g g1 : TG} {tt tt1 : TT} {te : TE}
theorem body_in (hc : X.calm = true) (hv : ∀ i ∈ vs1, i ∈ own.map (·.2)) (hi1 : ∀ s H fp, PI (blkC X s H scope fp) tg1 iter1 wi1) (hg1 : ∀ s H fp, PG (blkC X s H scope fp) tg1 g1) (ht1 : ∀ s H fp, PTs (blkC X s H scope fp) ifs1 tt1) (he : ∀ s H fp, PE (blkC X s H scope fp) elt te) (hs1 : ∀ env x, foldedSetIterable iter1 env x = pure x)
    (s0 : Shared) (H0 : Hp) (fp : List Addr) (it D : Addr) pins' s τ H (N : Hp → Prop) (I : Inv (blkC X s0 H0 scope fp) pins' τ H s) (b : bIn X.prog X.w wi1 g1 tt1 te vs1 D τ H N) :
    wpAny (model X.prog X.w) X.A (eval iter1 (blkC X s0 H0 scope fp).env >>= fun x => standAt iter1.pos >>= fun _ => foldedSetIterable iter1 (blkC X s0 H0 scope fp).env x >>= fun x => holding [x] (pyIter x) >>= fun j => runOwn (.compStart (.SetComp elt [⟨tg, iter, ifs, 0⟩, ⟨tg1, iter1, ifs1, 0⟩] scope pos) 1 j (.ref D) (blkC X s0 H0 scope fp).env) (blkC X s0 H0 scope fp).env >>= fun _ => again (.compLoop (.SetComp elt [⟨tg, iter, ifs, 0⟩, ⟨tg1, iter1, ifs1, 0⟩] scope pos) 0 (.ref it) (.ref D) (blkC X s0 H0 scope fp).env))
      (fun r s' => r = .again (.compLoop (.SetComp elt [⟨tg, iter, ifs, 0⟩, ⟨tg1, iter1, ifs1, 0⟩] scope pos) 0 (.ref it) (.ref D) (blkC X s0 H0 scope fp).env) ∧ ∃ τ' H', Inv (blkC X s0 H0 scope fp) pins' τ' H' s' ∧ Slots τ τ' (own.map (·.2)) ∧ N H') (blkC X s0 H0 scope fp).xe s := by
  refine wpAny_bind (thn ((hi1 s0 H0 fp).run pins' s τ H _ I b) fun x s1 hx => wpAny_bind (wpAny_standAt (wpAny_bind (wpAny_of_eq (hs1 _ x) (wpAny_bind (wpAny_holding (thn hx fun j s2 h2 => ?_)))))))
  obtain ⟨it1, fp1, tn1, J1, H2, ej, I2, T1, t2, f2, W1, ⟨m1, w1⟩, turn1⟩ := h2
  subst ej
  have loop := loop_any (Y := blkC X s0 H0 scope fp) (e := .SetComp elt [⟨tg, iter, ifs, 0⟩, ⟨tg1, iter1, ifs1, 0⟩] scope pos) (ci := 1) (it := it1) (acc := .ref D) (ip := iter1.pos) (R := fun r s' => match r with | .ok _ => ∃ τ' H', Inv (blkC X s0 H0 scope fp) pins' τ' H' s' ∧ Slots τ τ' (own.map (·.2)) ∧ N H' | .error _ => False) (σ := τ) (vs := vs1) (pins := pins') (bAdd X.prog X.w D te)
    (by show (compTurn _ 1 (.ref it1) (.ref D) _).onRaise _ = _; rw [turn_set2i]) rfl rfl hc T1 (hg1 s0 H0 fp) (ht1 s0 H0 fp) (fun _ _ z => z) (fun pins' s τ H N _ I' b => body_add (Y := blkC X s0 H0 scope fp) (he s0 H0 fp) pins' s τ H N I' b) (fun hn b hb => ⟨hn b hb, (f2 b hb).2⟩) W1 N turn1 (fun s' H' I' nx => ⟨wipe τ vs1, H', I', ⟨wipe_length τ vs1, fun i v e => ?_⟩, nx⟩) m1 s2 H2 w1 (I2.weak (wipe_length _ _) fun i v e => (wipe_some e).1) t2 (fun b hb => (f2 b hb).1)
  · refine wpAny_bind (wpAny_runOwn ?_)
    rw [Around.mark_none]
    refine codeAny_mono (start_in loop (T1.self X.A 0 _ _ _ t2 loop)) fun r s' hr => ?_
    cases r with
    | ok f => first | exact wpAny_pure ⟨rfl, hr⟩ | exact wpAny_bind (wpAny_pure (wpAny_pure ⟨rfl, hr⟩))
    | error x => exact hr.elim
  · obtain ⟨e1, e2⟩ := wipe_some e
    rw [wipe_out fun z => e2 (hv i z)] <;> exact e1
/-- two clauses -/
theorem pe_sc2 (hc : X.calm = true) (hN : X.N.Nodup) (hi : PI X tg iter wi) (ok : BlkOk X.N X.env.scope scope own) (hv : ∀ i ∈ vs1, i ∈ own.map (·.2)) (hg : ∀ s H fp, PG (blkC X s H scope fp) tg g) (ht : ∀ s H fp, PTs (blkC X s H scope fp) ifs tt)
    (hi1 : ∀ s H fp, PI (blkC X s H scope fp) tg1 iter1 wi1) (hg1 : ∀ s H fp, PG (blkC X s H scope fp) tg1 g1) (ht1 : ∀ s H fp, PTs (blkC X s H scope fp) ifs1 tt1) (he : ∀ s H fp, PE (blkC X s H scope fp) elt te)
    (hs : ∀ x, foldedSetIterable iter X.env x = pure x := by intro _; rfl) (hs1 : ∀ env x, foldedSetIterable iter1 env x = pure x := by intro _ _; rfl) :
    PE X (.SetComp elt [⟨tg, iter, ifs, 0⟩, ⟨tg1, iter1, ifs1, 0⟩] scope pos) (tScG X.prog X.w wi g tt (bIn X.prog X.w wi1 g1 tt1 te vs1) (own.map (·.2))) :=
  scG_core (B := bIn X.prog X.w wi1 g1 tt1 te vs1) _ hc hN hi ok hg ht hs (fun it D env => turn_set2o elt tg iter tg1 iter1 ifs ifs1 scope pos (.ref it) (.ref D) env) (body_in hc hv hi1 hg1 ht1 he hs1)
end
end Ev
set_option maxHeartbeats 4000000
namespace Ev
open PySem PySem.Spec PyProof.Rows L2
/-! sorted, any number: texts, and the members of a set -/
abbrev ltC (x y : Str) : Prop := x.cps.toList < y.cps.toList
def ltSv (v u : Value) : Bool := decide (ltC (strOf v) (strOf u))
theorem swo_str : SrtO.Swo ltSv := by
  refine ⟨fun x y h => decide_eq_false fun z => ?_, fun x y z h1 h2 => decide_eq_false fun h => ?_⟩
  · exact List.lt_irrefl _ (List.lt_trans (of_decide_eq_true h : ltC (strOf x) (strOf y)) z)
  · have a : ¬ ltC (strOf y) (strOf x) := of_decide_eq_false h1
    have b : ¬ ltC (strOf z) (strOf y) := of_decide_eq_false h2
    exact absurd h (List.not_lt.mpr (List.le_trans (List.not_lt.mp a) (List.not_lt.mp b)))
section
variable {prog : Program} {w : World} {A : Around} {E : Value → Shared → Prop} {s : Shared}
theorem str_cmp {vs : List Value} (hI : ∀ v ∈ vs, ∃ x t, v = Value.str x t) : SrtO.Cmp prog w A s oneType' (fun p => p.1 ∈ vs) (SrtO.lt2 ltSv) := fun p q hm hm' => by
  obtain ⟨a, t, e⟩ := hI _ hm
  obtain ⟨b, u, e'⟩ := hI _ hm'
  show wpAny (model prog w) A (keyLt' oneType' p.1 q.1) (fun r s' => s' = s ∧ r = ltSv p.1 q.1) (fun _ _ => False) s
  rw [e, e']
  exact PySem.W.kas_lt_str ⟨rfl, rfl⟩
theorem strs_sortable {a : Addr} {vs : List Value} (hI : ∀ v ∈ vs, ∃ x t, v = Value.str x t) (h2 : 2 ≤ vs.length) : SrtO.SortableO prog w A s a vs ltSv := fun h' _ => by
  refine ⟨oneType', fun Q E hq => ?_, str_cmp hI⟩
  have hS := strsAre_map vs hI
  revert hS h2
  rcases vs with _ | ⟨v, _ | ⟨u, r⟩⟩
  · intro h2; exact absurd h2 (by decide)
  · intro h2; exact absurd h2 (by simp)
  · intro h2 hS; rw [keyKind_strs hS]; exact wpAny_pure hq
theorem ints_sortable2 {a : Addr} {vs : List Value} (hI : ∀ v ∈ vs, ∃ i t, v = Value.int i t) (h2 : 2 ≤ vs.length) : SrtO.SortableO prog w A s a vs SrtO.ltIv := SrtO.ints_sortable (SrtO.ints_iv hI) h2
/-- sorted of a set: its members by ltv, at a new place -/
theorem sorted_setG {K : Type} [DecidableEq K] {κ : KeyKind prog w K} {a : Addr} {S : K → Bool} {n : Nat} {ltv : Value → Value → Bool} {Q : Value → Shared → Prop} (O : SrtO.Swo ltv) (R : SetG κ s.heap a S n) (hh : A.handled = none)
    (so : ∀ (vs : List Value), (∀ v ∈ vs, ∃ k, κ.is k v = true ∧ S k = true) → 2 ≤ vs.length → ∀ (A' : Around) (z : Shared) (d : Addr), SrtO.SortableO prog w A' z d vs ltv)
    (q : ∀ (z : Shared) (p : Addr) (out : List Value) (c : Nat), (∀ b o, s.heap.get? b = some o → z.heap.get? b = some o) → z.gens = s.gens → z.os = s.os → s.heap.objs.size ≤ p → z.heap.get? p = some (seqObj "list" out.toArray c) → SrtO.Srtd ltv out →
      (∀ v ∈ out, ∃ k, κ.is k v = true ∧ S k = true) → (∀ k, S k = true → ∃ v ∈ out, κ.is k v = true) → out.Pairwise (fun u v => ∀ k, κ.is k u = true → κ.is k v = true → False) → out.length = n → Q (.ref p) z) :
    wpAny (model prog w) A (call (.builtin "sorted") [.ref a]) Q E s := by
  obtain ⟨o, es, ep, t, ho, ⟨xs, hd⟩, ⟨hel, nd⟩, hm, ⟨hb, hf, hn⟩, hr, hl⟩ := R
  refine Calls.call_function_entry kind_sorted plain_sorted entry_sorted (args_sorted1 _) ?_; unfold Builtin.«sorted»
  refine wpAny_bind (m := checkCount "sorted" 1 1 _) (wpAny_pure (wpAny_bind (collect_set (A := A.in1) hh ⟨o, ho, xs.1, hd⟩ hf hb hr hl fun s1 vs k1 hz g1 o1 pm => ?_)))
  have len : vs.length = n := by rw [pm.length_eq, List.length_map, Array.length_toList] <;> exact hn
  have small : vs.length ≤ sizeLine := by rw [len, ← hn] <;> exact fits_of_scanBound hb
  have mem : ∀ v ∈ vs, ∃ k, κ.is k v = true ∧ S k = true := fun v hv => by
    obtain ⟨e, he, ev⟩ := List.mem_map.mp (pm.mem_iff.mp hv)
    obtain ⟨⟨k, hk, _⟩, _⟩ := hel e he
    exact ⟨k, by rw [← ev] <;> exact hk, (hm k).mpr ⟨e, he, hk⟩⟩
  have all : ∀ k, S k = true → ∃ v ∈ vs, κ.is k v = true := fun k hk => let ⟨e, he, z⟩ := (hm k).mp hk; ⟨e.2, pm.mem_iff.mpr (List.mem_map.mpr ⟨e, he, rfl⟩), z⟩
  have apart : vs.Pairwise (fun u v => ∀ k, κ.is k u = true → κ.is k v = true → False) := List.Perm.pairwise pm.symm (List.pairwise_map.mpr nd) fun {u v} z k h1 h2 => z k h2 h1
  refine wpAny_bind (wpAny_newList ?_ small)
  have hoL : (s1.heap.push (seqObj "list" vs.toArray 0)).get? s1.heap.objs.size = some (seqObj "list" vs.toArray 0) := Heap.get?_push_size _ rfl
  refine wpAny_bind (wpAny_holding (wpAny_call_entry slot_list_sort ⟨_, hoL, rfl⟩ entry_list_sort (SrtO.list_sort_ord O hoL small (fun h2 => so vs mem h2 _ _ _) fun out h1 h2 => ⟨_, rfl, ?_⟩) (args_list_sort _)))
  obtain ⟨c, hc⟩ := sortedHeap_at (vs := vs) (out := out.toArray) hoL
  have p2 : out.Perm vs := h2.perm
  refine wpAny_pure ⟨_, rfl, q _ s1.heap.objs.size out c (fun b u e => ?_) g1 o1 hz hc h1 (fun v hv => mem v (p2.mem_iff.mp hv)) (fun k hk => let ⟨v, hv, z⟩ := all k hk; ⟨v, p2.mem_iff.mpr hv, z⟩) (List.Perm.pairwise p2.symm apart fun {u v} z k h1 h2 => z k h2 h1) (by rw [p2.length_eq] <;> exact len)⟩
  have e1 := k1 b u e
  have lt := Heap.lt_size e1
  show (sortedHeap (s1.heap.push (seqObj "list" vs.toArray 0)) s1.heap.objs.size vs out.toArray).get? b = some u
  rw [sortedHeap_old (Nat.ne_of_lt lt) (by rw [size_push'] <;> exact Nat.lt_succ_of_lt lt)]; exact Heap.get?_push_of_some _ e1
end
section
variable {X : Cx}
/-- sorted(xs), texts, any number of them -/
def rSortedTx (K : PySem.W.Frag) : List V → Hp → VK → Prop := fun vs H Q => ∃ (a : Addr) (ss : List Str), vs = [V.ref a] ∧ SqL K H a (ss.map V.str) ∧ ∀ (zs : List Str) (p : Addr), zs.Perm ss → zs.Pairwise (fun x y => ¬ ltC y x) → H p = none → Q (.ref p) (upd H p (.lst (zs.map V.str)))
theorem vals_strs : ∀ {out : List Value}, (∀ v ∈ out, ∃ x t, v = Value.str x t) → Vals ((out.map strOf).map V.str) out
  | [], _ => .nil
  | v :: out, h => by
    obtain ⟨x, t, e⟩ := h v List.mem_cons_self
    subst e
    exact .cons ⟨t, rfl⟩ (vals_strs fun u hu => h u (List.mem_cons_of_mem _ hu))
theorem strs_vals : ∀ {ss : List Str} {us : List Value}, Vals (ss.map V.str) us → (∀ v ∈ us, ∃ x t, v = Value.str x t) ∧ us.map strOf = ss
  | [], _, .nil => ⟨fun v h => absurd h (by simp), rfl⟩
  | z :: ss, _, .cons r t => by
    obtain ⟨tk, rfl⟩ := r
    obtain ⟨h1, h2⟩ := strs_vals t
    exact ⟨fun v hv => (List.mem_cons.mp hv).elim (fun e => ⟨z, tk, e⟩) (h1 v), congrArg (z :: ·) h2⟩
theorem cr_sortedTx : CallR X (.builtin "sorted") (rSortedTx X.K) := fun pins s σ H vs us Q I r h => by
  obtain ⟨a, ss, rfl, hs, q⟩ := h
  obtain ⟨its, rv, hl, hz⟩ := I.list hs
  rw [Vals.ref1 r]
  obtain ⟨hI, es⟩ := strs_vals rv
  have lz : its.length ≤ sizeLine := by rw [← rv.length] <;> exact hz
  refine SrtO.sorted_ord swo_str hl.isList lz (fun h2 h₁ a' _ _ => strs_sortable hI h2) fun out h1 h2 => ?_
  obtain ⟨ep, he⟩ := PyProof.Rows.sortedAll_at s.heap its out.toArray
  have hO : ∀ v ∈ out, ∃ x t, v = Value.str x t := fun v hv => hI v (h2.perm.mem_iff.mp hv)
  have lo : ((out.map strOf).map V.str).length ≤ sizeLine := by rw [List.length_map, List.length_map, h2.perm.length_eq] <;> exact lz
  refine ⟨.ref _, upd H (s.heap.objs.size + 1) (.lst ((out.map strOf).map V.str)), I.laid (t' := s.toks) (fun _ _ => PyProof.Rows.sortedAll_old) (Nat.le_succ _) ⟨lo, out, ep, vals_strs hO, he⟩, rfl, q _ _ ?_ ?_ (I.hok.fresh (Nat.le_succ _))⟩
  · rw [← es] <;> exact h2.perm.map strOf
  · exact List.pairwise_map.mpr (h1.imp fun {x y} h => of_decide_eq_false h)
/-- sorted(s), s a set of texts: ascending -/
def rSortedSx (P : Program) (w : World) : List V → Hp → VK → Prop := fun vs H Q => ∃ (a : Addr) (S : Key → Bool) (n : Nat), vs = [V.ref a] ∧ H a = some (SetX P w a S n) ∧ (∀ k, S k = true → ∃ z, k = Sum.inr z) ∧
  ∀ (zs : List Str) (p : Addr), zs.Pairwise ltC → (∀ z, z ∈ zs ↔ S (Sum.inr z) = true) → zs.length = n → H p = none → Q (.ref p) (upd H p (.lst (zs.map V.str)))
theorem ltC_str {x y : Str} (h : ¬ ltC y x) (ne : x ≠ y) : ltC x y := by
  rcases Decidable.em (ltC x y) with z | z
  · exact z
  · refine absurd ?_ ne
    have e : x.cps.toList = y.cps.toList := List.le_antisymm (List.not_lt.mp h) (List.not_lt.mp z)
    cases x; cases y; exact congrArg Str.mk (Array.toList_inj.mp e)
theorem cr_sortedSx (hc : X.calm = true) : CallR X (.builtin "sorted") (rSortedSx X.prog X.w) := fun pins s σ H vs us Q I r h => by
  obtain ⟨a, S, n, rfl, ha, hS, q⟩ := h
  rw [Vals.ref1 r]
  have isS : ∀ v, (∃ k, (mixKind X.prog X.w).is k v = true ∧ S k = true) → ∃ x t, v = Value.str x t ∧ S (.inr x) = true := fun v ⟨k, h1, h2⟩ => by
    obtain ⟨z, rfl⟩ := hS k h2
    rcases keyIs_shape (show keyIs (.inr z) v = true from h1) with ⟨i, t, e1, e2⟩ | ⟨x, t, e1, e2⟩
    · cases e1
    · cases e1; exact ⟨z, t, e2, h2⟩
  refine sorted_setG swo_str (setX_get I ha) (I.ok.hd hc) (fun vs mem h2 A' z d => strs_sortable (fun v hv => let ⟨x, t, e, _⟩ := isS v (mem v hv); ⟨x, t, e⟩) h2) fun z p out c k g o hp hg hs mem all ap hl => ?_
  have hO : ∀ v ∈ out, ∃ x t, v = Value.str x t ∧ S (.inr x) = true := fun v hv => isS v (mem v hv)
  have hV := vals_strs fun v hv => let ⟨x, t, e, _⟩ := hO v hv; ⟨x, t, e⟩
  have lo : ((out.map strOf).map V.str).length ≤ sizeLine := by
    obtain ⟨o, es, ep, t, ho, _, _, _, ⟨hb, hf, hn⟩, _⟩ := setX_get I ha
    rw [List.length_map, List.length_map, hl, ← hn] <;> exact fits_of_scanBound hb
  have hn : H p = none := I.hok.fresh hp
  have J : Inv X pins σ (upd H p (.lst ((out.map strOf).map V.str))) z := I.call' (ch := []) o (Un.laid k hp hn) (I.hok.laid k hp ⟨lo, out, c, hV, hg⟩) (by rw [g] <;> exact I.bare) (fun _ z => nomatch z)
  refine ⟨.ref p, _, J, rfl, q _ p ?_ (fun y => ⟨fun hy => ?_, fun hy => ?_⟩) (by rw [List.length_map] <;> exact hl) hn⟩
  · refine List.pairwise_map.mpr (List.Pairwise.imp_of_mem (fun {u v} hu hv w => ?_) (hs.and ap))
    obtain ⟨x, t, rfl, _⟩ := hO u hu
    obtain ⟨y, t', rfl, _⟩ := hO v hv
    refine ltC_str (of_decide_eq_false w.1) fun e => w.2 (.inr x) (mixKind_str _ _ x t) ?_
    have e : x = y := e
    rw [e] <;> exact mixKind_str _ _ y t'
  · obtain ⟨v, hv, rfl⟩ := List.mem_map.mp hy
    obtain ⟨x, t, rfl, z⟩ := hO v hv
    exact z
  · obtain ⟨v, hv, z⟩ := all _ hy
    obtain ⟨x, t, rfl, _⟩ := hO v hv
    refine List.mem_map.mpr ⟨_, hv, ?_⟩
    have := (mixKind X.prog X.w).inj _ _ _ z (mixKind_str X.prog X.w x t)
    exact (Sum.inr.inj this).symm
/-- len(s) of a set -/
def rLenSx (P : Program) (w : World) : List V → Hp → VK → Prop := fun vs H Q => ∃ (a : Addr) (S : Key → Bool) (n : Nat), vs = [V.ref a] ∧ H a = some (SetX P w a S n) ∧ Q (.int (n : Nat)) H
theorem cr_lenSx : CallR X (.builtin "len") (rLenSx X.prog X.w) := fun pins s σ H vs us Q I r h => by
  obtain ⟨a, S, n, rfl, ha, q⟩ := h
  rw [Vals.ref1 r]
  obtain ⟨o, es, ep, t, ho, ⟨xs, hd⟩, _, _, ⟨hb, hf, hn⟩, _⟩ := setX_get I ha
  subst hn
  have lz : es.size ≤ 16777216 := fits_of_scanBound hb
  exact call_len_set ho xs hd hf (by omega) ⟨.int (es.size : Nat), H, I.tok _, ⟨_, rfl⟩, q⟩
end
end Ev
set_option maxHeartbeats 4000000
namespace LawK
open PySem PySem.Spec L2 Ev
def totN (r : List (List Nat)) : Nat := (r.map List.length).sum
theorem tot_cons (b : List Nat) (r : List (List Nat)) : totN (b :: r) = b.length + totN r := rfl
theorem tot_sq {z : Str} : ∀ (m : Nat) (b : List Nat), b.length ≤ m → totN (b :: lvsN z b) ≤ b.length * b.length
  | 0, b, h => by
    rw [lvs_no (by omega)]
    have : totN [b] = b.length := by show b.length + 0 = _; omega
    rw [this, show b.length = 0 by omega]
    exact Nat.le_refl _
  | m + 1, b, h => by
    by_cases g : 1 < b.length
    · rw [lvs_go g, tot_cons]
      have lt := next_less (z := z) g
      have ih := tot_sq (z := z) m (nextB z b) (by omega)
      have mu : (nextB z b).length * (nextB z b).length ≤ (b.length - 1) * (b.length - 1) := Nat.mul_le_mul (by omega) (by omega)
      obtain ⟨k, ek⟩ : ∃ k, b.length = k + 1 := ⟨b.length - 1, by omega⟩
      rw [ek] at mu ⊢
      rw [show k + 1 - 1 = k from rfl] at mu
      have : (k + 1) * (k + 1) = k * k + 2 * k + 1 := by rw [Nat.add_mul, Nat.mul_add]; omega
      omega
    · rw [lvs_no g]
      have : totN [b] = b.length := by show b.length + 0 = _; omega
      rw [this]
      rcases Nat.eq_zero_or_pos b.length with e | e
      · omega
      · exact Nat.le_mul_of_pos_left _ e
theorem tot_le {z : Str} : ∀ (m : Nat) (b : List Nat), b.length ≤ m → totN (b :: lvsN z b) ≤ 4 * b.length + 121
  | 0, b, h => by
    have := tot_sq (z := z) 0 b h
    have e : b.length = 0 := by omega
    rw [e] at this ⊢
    omega
  | m + 1, b, h => by
    by_cases g : b.length < 12
    · have := tot_sq (z := z) (m + 1) b h
      have mu : b.length * b.length ≤ 11 * 11 := Nat.mul_le_mul (by omega) (by omega)
      omega
    · rw [lvs_go (by omega), tot_cons]
      have lt := next_less (z := z) (b := b) (by omega)
      have th := next_thirds (z := z) b
      have ih := tot_le (z := z) m (nextB z b) (by omega)
      omega
theorem tot_all (z : Str) : totN (List.range z.length :: lvsN z (List.range z.length)) ≤ 4 * z.length + 121 := by
  have := tot_le (z := z) _ (List.range z.length) (Nat.le_refl _)
  rw [List.length_range] at this
  exact this
theorem tot_take (r : List (List Nat)) (i : Nat) {b : List Nat} (h : r[i]? = some b) : totN (r.take (i + 1)) = totN (r.take i) + b.length := by
  unfold totN
  rw [take_succ' h, List.map_append, List.sum_append]
  rfl
theorem tot_part (r : List (List Nat)) (i : Nat) : totN (r.take i) ≤ totN r := by
  unfold totN
  have e : r.map List.length = (r.take i).map List.length ++ (r.drop i).map List.length := by rw [← List.map_append, List.take_append_drop]
  rw [e, List.sum_append]
  omega
theorem str_ext {x y : Str} (e : x.cps.toList = y.cps.toList) : x = y := by
  cases x
  cases y
  exact congrArg Str.mk (Array.toList_inj.mp e)
theorem ltC_irr (x : Str) : ¬ ltC x x := List.lt_irrefl _
theorem ltC_trans {x y w : Str} (h : ltC x y) (g : ltC y w) : ltC x w := List.lt_trans h g
/-- ascending rows of texts with the same members are one -/
theorem asc_one : ∀ {xs ys : List Str}, xs.Pairwise ltC → ys.Pairwise ltC → (∀ z, z ∈ xs ↔ z ∈ ys) → xs = ys
  | [], [], _, _, _ => rfl
  | [], y :: ys, _, _, h => absurd ((h y).mpr (by simp)) (by simp)
  | x :: xs, [], _, _, h => absurd ((h x).mp (by simp)) (by simp)
  | x :: xs, y :: ys, h1, h2, h => by
    obtain ⟨a1, a2⟩ := List.pairwise_cons.mp h1
    obtain ⟨b1, b2⟩ := List.pairwise_cons.mp h2
    have e : x = y := by
      rcases List.mem_cons.mp ((h x).mp (by simp)) with e | m
      · exact e
      · rcases List.mem_cons.mp ((h y).mpr (by simp)) with e | m2
        · exact e.symm
        · exact absurd (ltC_trans (a1 y m2) (b1 x m)) (ltC_irr _)
    subst e
    congr 1
    refine asc_one a2 b2 fun z => ⟨fun m => ?_, fun m => ?_⟩
    · rcases List.mem_cons.mp ((h z).mp (by simp [m])) with e | k
      · rw [e] at m
        exact absurd (a1 x m) (ltC_irr _)
      · exact k
    · rcases List.mem_cons.mp ((h z).mpr (by simp [m])) with e | k
      · rw [e] at m
        exact absurd (b1 x m) (ltC_irr _)
      · exact k
theorem asc_of {zs ss : List Str} (p : zs.Perm ss) (h : zs.Pairwise (fun x y => ¬ ltC y x)) (nd : ss.Nodup) : zs.Pairwise ltC := by
  have nd2 : zs.Nodup := p.nodup_iff.mpr nd
  exact (h.and nd2).imp fun {x y} w => ltC_str w.1 w.2
end LawK
set_option maxHeartbeats 4000000
namespace LawK
open PySem PySem.Spec PyProof.Rows L2 Ev

def spPBlocks : Sp := fun vs H Q E => ∃ (z : Str) (k : Nat) (r : List Nat), vs = [.str z, iN k] ∧ sgB z = true ∧ z.length ≤ 2000 ∧ (lvAll z)[k]? = some r ∧ ∀ t H', H' t = some (.tup ((namesAt z r).map V.str)) → Same H H' → Q (.ref t) H'
def spPBlockLot : Sp := fun vs H Q E => ∃ (z : Str), vs = [.str z] ∧ sgB z = true ∧ z.length ≤ 900 ∧ ∀ L (ws : List Str) H', H' L = some (.lst (ws.map V.str)) → ws.Pairwise ltC → (∀ y, y ∈ ws ↔ ∃ r ∈ lvAll z, y ∈ namesAt z r) → ws.length ≤ 4000 → Same H H' → Q (.ref L) H'
theorem lv_begs {z : Str} {k : Nat} {r : List Nat} (h : (lvAll z)[k]? = some r) : Begs z r := (chain_all z).begs h
/-- which names stand in a set that is being made -/
def inLv (z : Str) (i : Nat) (k : Key) : Prop := ∃ y, k = .inr y ∧ ∃ r ∈ (lvAll z).take i, y ∈ namesAt z r
section
variable {P : Program} {w : World} {K : PySem.W.Frag} {mg : Str → Option Value} {base : Heap}
variable {PE cN cL : Addr}
abbrev sPBlocks : Stmt := topS 22
theorem scPBlocks : FnScope ["text", "level", "found"] ["text", "level"] (defScope sPBlocks) := ⟨rfl, rfl, rfl, by decide +kernel, rfl, by decide +kernel, by decide +kernel⟩
theorem ok_PBlocks {f : Addr} {fd : FuncData} (F : Fun K "blocks" "blocks" sPBlocks f fd) (ENoText : Cls0 P K mg PE "NoText" cN) (ENoLevel : Cls0 P K mg PE "NoLevel" cL) {fQNames : Addr} {fdQNames : FuncData} (DQNames : Dk P w K mg base "_names" sQNames ["text", "begins"] 1 spNames fQNames fdQNames) {fQLevels : Addr} {fdQLevels : FuncData} (DQLevels : Dk P w K mg base "_levels" sQLevels ["text"] 5 spLevels fQLevels fdQLevels) {fPNumber : Addr} {fdPNumber : FuncData} (DPNumber : Dk P w K mg base "is_number" sPNumber ["thing"] 1 spNumI fPNumber fdPNumber) {fPText : Addr} {fdPText : FuncData} (DPText : Dk P w K mg base "is_text" sPText ["thing"] 2 spTextY fPText fdPText) (T : Glob mg) : FnOk P w K mg base (L2.CX P w) 6 f fd ["text", "level"] spPBlocks := by
  obtain ⟨fN, SNoText⟩ := ENoText.sup
  obtain ⟨fL, SNoLevel⟩ := ENoLevel.sup
  refine F.okX scPBlocks (fun vs H Q E h => ?_) (fun cdv A outer s H vs Q E hr h => ?_)
  · obtain ⟨z, k, r, rfl, _⟩ := h
    rfl
  · refine ⟨_, (pss_cons (ps_if (pt_not (pt_val (pe_call DPText.ok (hr.mono (by decide)) (by rfl) DPText.g DPText.F.kp DPText.b .nil pass0 (pa_cons (pv 0) pa_nil))))
      (pss_one (ps_raise rfl (takes_of rfl rfl rfl rfl) (pmk_exc0 SNoText hr (by rfl) ENoText.g)))
      pss_nil)
      (pss_cons (ps_set (i := 2) scPBlocks.nd rfl (.inl rfl) (pe_call DQLevels.ok (hr.mono (by decide)) (by rfl) DQLevels.g DQLevels.F.kp DQLevels.b .nil pass0 (pa_cons (pv 0) pa_nil)))
      (pss_cons (ps_if (PW.pt (pw_or (pt_not (pt_val (pe_call DPNumber.ok (hr.mono (by decide)) (by rfl) DPNumber.g DPNumber.F.kp DPNumber.b .nil pass0 (pa_cons (pv 1) pa_nil)))) (pw_or1 (pt_cmpR op_ge (pv 1) (pe_callB call_len_seq (by rfl) T.len PySem.boot_len (pa_cons (pv 2) pa_nil)) (nomark _)))))
      (pss_one (ps_raise rfl (takes_of rfl rfl rfl rfl) (pmk_exc0 SNoLevel hr (by rfl) ENoLevel.g)))
      pss_nil)
      (pss_one (ps_ret (pe_callTy call_tuple_of (by rfl) T.tuple (by decide +kernel) (pa_cons (pe_call DQNames.ok (hr.mono (by decide)) (by rfl) DQNames.g DQNames.F.kp DQNames.b .nil pass0 (pa_cons (pv 0) (pa_cons (pe_ix ix_list (pv 2) (pv 1) (fun _ _ => rfl)) pa_nil))) pa_nil))))))), ?_⟩
    obtain ⟨z, k, r, rfl, hz, lz, hk, q⟩ := h
    refine ⟨.str z, rfl, z, rfl, hz, lz, _, rfl, iteF ?_⟩
    refine ⟨.str z, rfl, z, rfl, hz, lz, fun L xs H1 hL hall lx k1 => ?_⟩
    have len := All2.len hall
    have lk := (List.getElem?_eq_some_iff.mp hk).1
    have hx : xs[k]? = some xs[k] := List.getElem?_eq_getElem (by omega)
    obtain ⟨r2, hr2, c, ec, ncL, hc⟩ := All2.at hall hx
    rw [hk] at hr2
    cases hr2
    rw [ec] at hx
    have fb := (lv_begs hk).few
    refine ⟨iN k, rfl, (k : Int), rfl, _, rfl, ?_⟩
    refine ite2 (fun e => ?_) (fun _ => ?_)
    · rw [decide_eq_true (Int.natCast_nonneg k)] at e
      cases e
    refine ⟨iN k, rfl, .ref L, rfl, L, _, rfl, .inl (sq_of hL), _, _, rfl, rfl, _, rfl, ?_⟩
    refine ite2 (fun e => ?_) (fun _ => ?_)
    · have := of_decide_eq_true e
      omega
    dsimp only [tNext, tDrop]
    refine ⟨.str z, rfl, .ref L, rfl, iN k, rfl, L, _, _, _, rfl, rfl, sq_of hL, atI_nat hx, z, c, r, rfl, hc, lz, by omega, fun o H2 no ho k2 => ⟨o, _, rfl, .inl ⟨sq_of ho, fun t nt => ?_⟩⟩⟩
    exact q t _ upd_same ((k1.trans k2).trans (Same.new nt))
abbrev sPBlockLot : Stmt := topS 23
theorem scPBlockLot : FnScope ["text", "begins", "name"] ["text"] (defScope sPBlockLot) := ⟨rfl, rfl, rfl, by decide +kernel, rfl, by decide +kernel, by decide +kernel⟩
theorem ok_PBlockLot {f : Addr} {fd : FuncData} (F : Fun K "block_lot" "block_lot" sPBlockLot f fd) (ENoText : Cls0 P K mg PE "NoText" cN) {fQNames : Addr} {fdQNames : FuncData} (DQNames : Dk P w K mg base "_names" sQNames ["text", "begins"] 1 spNames fQNames fdQNames) {fQLevels : Addr} {fdQLevels : FuncData} (DQLevels : Dk P w K mg base "_levels" sQLevels ["text"] 5 spLevels fQLevels fdQLevels) {fPText : Addr} {fdPText : FuncData} (DPText : Dk P w K mg base "is_text" sPText ["thing"] 2 spTextY fPText fdPText) (T : Glob mg) : FnOk P w K mg base (L2.CX P w) 6 f fd ["text"] spPBlockLot := by
  obtain ⟨fN, SNoText⟩ := ENoText.sup
  refine F.okX scPBlockLot (fun vs H Q E h => ?_) (fun cdv A outer s H vs Q E hr h => ?_)
  · obtain ⟨z, rfl, _⟩ := h
    rfl
  · refine ⟨_, (pss_cons (ps_if (pt_not (pt_val (pe_call DPText.ok (hr.mono (by decide)) (by rfl) DPText.g DPText.F.kp DPText.b .nil pass0 (pa_cons (pv 0) pa_nil))))
      (pss_one (ps_raise rfl (takes_of rfl rfl rfl rfl) (pmk_exc0 SNoText hr (by rfl) ENoText.g)))
      pss_nil)
      (pss_one (ps_ret (pe_callB (cr_sortedSx (by rfl)) (by rfl) T.sorted (by decide +kernel) (pa_cons (pe_sc2 (own := [("begins", 1), ("name", 2)]) (vs1 := [2]) (wi1 := iList K _) (g := gName 1) (g1 := gName 2) (by rfl) scPBlockLot.nd (pi_list (pe_call DQLevels.ok (hr.mono (by decide)) (by rfl) DQLevels.g DQLevels.F.kp DQLevels.b .nil pass0 (pa_cons (pv 0) pa_nil))) (blkOk_by (N := ["text", "begins", "name"]) (sc := defScope sPBlockLot) (by decide +kernel)) (by decide) (fun _ _ _ => pg_name (i := 1) scPBlockLot.nd rfl (.inl rfl)) (fun _ _ _ => pts_nil)
        (fun _ _ _ => pi_list (pe_call DQNames.ok (hr.mono (by decide)) (by rfl) DQNames.g DQNames.F.kp DQNames.b .nil pass0 (pa_cons (pv 0) (pa_cons (pv 1) pa_nil)))) (fun _ _ _ => pg_name (i := 2) scPBlockLot.nd rfl (.inl rfl)) (fun _ _ _ => pts_nil) (fun _ _ _ => pv 2)) pa_nil))))), ?_⟩
    obtain ⟨z, rfl, hz, lz, q⟩ := h
    have tot : totN (lvAll z) ≤ 4 * z.length + 121 := tot_all z
    refine ⟨.str z, rfl, z, rfl, hz, by omega, _, rfl, iteF ?_⟩
    refine ⟨.str z, rfl, z, rfl, hz, by omega, fun L xs H1 hL hall lx k1 => ⟨L, rfl, ⟨_, sq_of hL⟩, fun D nD => wk (walk_list (xs := xs)) (fun i H2 => Same H1 H2 ∧ ∃ (S : Key → Bool) (n : Nat), H2 D = some (SetX P w D S n) ∧ (∀ k, S k = true ↔ inLv z i k) ∧ n ≤ totN ((lvAll z).take i)) ⟨Same.new nD, _, 0, upd_same, fun k => ⟨fun e => (by cases e), fun ⟨y, e, r, m, _⟩ => absurd m (by simp)⟩, Nat.zero_le _⟩ (fun i H2 _ w => sq_of (w.1 _ _ hL)) ?_ ?_⟩⟩
    · rintro i v H2 H2' hi ⟨k2, S, n, hD, hS, hn⟩ ⟨eH, hv⟩
      subst eH
      obtain ⟨r, hr1, c, rfl, ncL, hc⟩ := All2.at hall hv
      have fb := (lv_begs hr1).few
      have tk := tot_take (lvAll z) i hr1
      have tp := tot_part (lvAll z) (i + 1)
      refine ⟨rfl, .str z, rfl, .ref c, rfl, z, c, r, rfl, k2 _ _ hc, by omega, by omega, fun o H3 no ho k3 => ⟨o, rfl, ⟨_, sq_of ho⟩, ?_⟩⟩
      have noD : o ≠ D := fun e => by rw [e, hD] at no; cases no
      refine wk (walk_list (xs := (namesAt z r).map V.str)) (fun j H4 => Same H1 H4 ∧ H4 o = some (.lst ((namesAt z r).map V.str)) ∧ ∃ (S : Key → Bool) (n : Nat), H4 D = some (SetX P w D S n) ∧ (∀ k, S k = true ↔ inLv z i k ∨ ∃ y, k = .inr y ∧ y ∈ (namesAt z r).take j) ∧ n ≤ totN ((lvAll z).take i) + j) ⟨k2.trans k3, ho, S, n, k3 _ _ hD, fun k => ⟨fun e => .inl ((hS k).mp e), fun e => e.elim (hS k).mpr fun ⟨y, _, m⟩ => absurd m (by simp)⟩, hn⟩ (fun j H4 _ w => sq_of w.2.1) ?_ ?_
      · rintro j v H4 H4' hj ⟨k4, ho4, S4, n4, hD4, hS4, hn4⟩ ⟨eH, hv4⟩
        subst eH
        rw [List.getElem?_map] at hv4
        obtain ⟨y, hy, rfl⟩ := Option.map_eq_some_iff.mp hv4
        have lj := (List.getElem?_eq_some_iff.mp hy).1
        rw [namesAt_len] at lj
        refine ⟨rfl, .str y, rfl, .inr y, S4, n4, rfl, hD4, by show _ < 4096; omega, sameAt k4 nD, by rw [upd_ne noD]; exact ho4, _, _, upd_same, fun k => ?_, by split <;> omega⟩
        rw [Bool.or_eq_true, decide_eq_true_eq, hS4 k, take_succ' hy]
        constructor
        · rintro ((h | ⟨u, e, m⟩) | h)
          · exact .inl h
          · exact .inr ⟨u, e, List.mem_append_left _ m⟩
          · exact .inr ⟨y, h, List.mem_append_right _ (by simp)⟩
        · rintro (h | ⟨u, e, m⟩)
          · exact .inl (.inl h)
          · rcases List.mem_append.mp m with m | m
            · exact .inl (.inr ⟨u, e, m⟩)
            · rw [List.mem_singleton.mp m] at e
              exact .inr e
      · rintro H4 ⟨k4, ho4, S4, n4, hD4, hS4, hn4⟩
        rw [List.length_map, List.take_of_length_le (Nat.le_refl _)] at hS4
        rw [List.length_map, namesAt_len] at hn4
        refine ⟨k4, S4, n4, hD4, fun k => (hS4 k).trans ?_, by omega⟩
        unfold inLv
        rw [take_succ' hr1]
        constructor
        · rintro (⟨u, e, r', m, m2⟩ | ⟨u, e, m⟩)
          · exact ⟨u, e, r', List.mem_append_left _ m, m2⟩
          · exact ⟨u, e, r, List.mem_append_right _ (by simp), m⟩
        · rintro ⟨u, e, r', m, m2⟩
          rcases List.mem_append.mp m with m | m
          · exact .inl ⟨u, e, r', m, m2⟩
          · rw [List.mem_singleton.mp m] at m2
            exact .inr ⟨u, e, m2⟩
    · rintro H2 ⟨k2, S, n, hD, hS, hn⟩
      rw [All2.len hall] at hS hn
      have tp := tot_part (lvAll z) (lvAll z).length
      have tp2 : totN (lvAll z) ≤ 4 * z.length + 121 := tot
      refine ⟨D, S, n, rfl, hD, fun k e => let ⟨y, ey, _⟩ := (hS k).mp e; ⟨y, ey⟩, fun zs p hs hm hl np => q p zs _ upd_same hs (fun y => (hm y).trans ((hS _).trans ?_)) (by omega) ((k1.trans k2).trans (Same.new np))⟩
      unfold inLv
      rw [List.take_of_length_le (Nat.le_refl _)]
      exact ⟨fun ⟨u, e, r⟩ => by cases e; exact r, fun r => ⟨y, rfl, r⟩⟩
end
end LawK
set_option maxHeartbeats 4000000
namespace LawK
open PySem PySem.Spec PyProof.Rows L2 Ev

def textV : V → Bool
  | .str z => sgB z && decide ((z.length : Int) ≤ 2000)
  | _ => false
theorem textV_str {x : V} (h : textV x = true) : ∃ z : Str, x = .str z ∧ sgB z = true ∧ z.length ≤ 2000 := by
  cases x with
  | str z =>
    obtain ⟨h1, h2⟩ := Bool.and_eq_true_iff.mp (show (sgB z && decide ((z.length : Int) ≤ 2000)) = true from h)
    have := of_decide_eq_true h2
    exact ⟨z, rfl, h1, by omega⟩
  | _ => exact Bool.noConfusion h
theorem numV_int {x : V} (h : numV x = true) : ∃ i : Nat, x = .int (i : Nat) := by
  cases x with
  | int i =>
    have : 0 ≤ i := of_decide_eq_true h
    exact ⟨i.toNat, by rw [Int.toNat_of_nonneg this]⟩
  | _ => exact Bool.noConfusion h
theorem sgV_str {x : V} (h : sgV x = true) : ∃ z : Str, x = .str z ∧ sgB z = true := by
  cases x with
  | str z => exact ⟨z, rfl, h⟩
  | _ => exact Bool.noConfusion h
def spTextK : Sp := fun vs H Q _ => ∃ x k, vs = [x] ∧ Kd H x k ∧ Vs x ∧ Q (.bl (textV x)) H
def spRLevels (cN : Addr) : Sp := fun vs H Q E => ∃ x k, vs = [x] ∧ Kd H x k ∧ Vs x ∧ (textV x = true → ∀ v H', Same H H' → Q v H') ∧ (textV x = false → ∀ H', Same H H' → E (.ref cN) none H')
/-- a text of few unlike names -/
def FewN (x : V) : Prop := ∀ z, x = .str z → textV x = true → ∃ ns : List Str, ns.length ≤ 4000 ∧ ∀ r ∈ lvAll z, ∀ y ∈ namesAt z r, y ∈ ns
def spRLot (cN : Addr) : Sp := fun vs H Q E => ∃ x k, vs = [x] ∧ Kd H x k ∧ Vs x ∧ FewN x ∧ (textV x = true → ∀ v H', Same H H' → Q v H') ∧ (textV x = false → ∀ H', Same H H' → E (.ref cN) none H')
/-- how many levels a text has -/
def manyL : V → Int
  | .str z => ((lvAll z).length : Nat)
  | _ => 0
def levelR (x y : V) : Nat := if textV x = true then (if inV2 0 (manyL x - 1) y = true then 0 else 2) else 1
def spRBlocks (cN cL : Addr) : Sp := fun vs H Q E => ∃ x y k j, vs = [x, y] ∧ Kd H x k ∧ Vs x ∧ Kd H y j ∧ (levelR x y = 0 → ∀ v H', Same H H' → Q v H') ∧ (levelR x y = 1 → ∀ H', Same H H' → E (.ref cN) none H') ∧ (levelR x y = 2 → ∀ H', Same H H' → E (.ref cL) none H')
def lenV : V → Int
  | .str z => (z.length : Nat)
  | _ => 0
def intV : V → Int
  | .int i => i
  | _ => 0
def newR (x a m s : V) : Nat := if textV x = true then (if (inV2 0 (lenV x) a && inV2 0 (lenV x - intV a) m) = true then (if (sgV s && decide (lenV x - intV m + lenV s ≤ 2000)) = true then 0 else 1) else 2) else 1
def spRNew (cN cM : Addr) : Sp := fun vs H Q E => ∃ x a m s kx ka km ks, vs = [x, a, m, s] ∧ Kd H x kx ∧ Kd H a ka ∧ Kd H m km ∧ Kd H s ks ∧ Vs x ∧ (∀ z, s = .str z → z.length ≤ 2100) ∧ (newR x a m s = 0 → ∀ v H', Same H H' → Q v H') ∧ (newR x a m s = 1 → ∀ H', Same H H' → E (.ref cN) none H') ∧ (newR x a m s = 2 → ∀ H', Same H H' → E (.ref cM) none H')
theorem nodup_le : ∀ {ms ns : List Str}, ms.Nodup → (∀ y ∈ ms, y ∈ ns) → ms.length ≤ ns.length
  | [], _, _, _ => Nat.zero_le _
  | m :: ms, ns, h, g => by
    obtain ⟨h1, h2⟩ := List.nodup_cons.mp h
    have mm := g m List.mem_cons_self
    have := nodup_le (ns := ns.erase m) h2 fun y hy => (List.mem_erase_of_ne fun e => h1 (by rw [← e]; exact hy)).mpr (g y (List.mem_cons_of_mem _ hy))
    rw [List.length_erase_of_mem mm] at this
    have : 0 < ns.length := List.length_pos_iff.mpr fun e => by rw [e] at mm; cases mm
    rw [List.length_cons]
    omega
/-- a set of names among few has few members -/
def InS (ns : List Str) (S : Key → Bool) (n : Nat) : Prop := ∃ ms : List Str, ms.Nodup ∧ n = ms.length ∧ (∀ y ∈ ms, y ∈ ns) ∧ ∀ y, S (.inr y) = true ↔ y ∈ ms
theorem InS.nil {ns : List Str} : InS ns (fun _ => false) 0 := ⟨[], List.nodup_nil, rfl, fun y m => absurd m (by simp), fun y => ⟨(fun e => by cases e), (fun m => absurd m (by simp))⟩⟩
theorem InS.le {ns : List Str} {S : Key → Bool} {n : Nat} (h : InS ns S n) : n ≤ ns.length := by
  obtain ⟨ms, h1, rfl, h3, _⟩ := h
  exact nodup_le h1 h3
theorem InS.put {ns : List Str} {S : Key → Bool} {n : Nat} (h : InS ns S n) {y : Str} (hy : y ∈ ns) : InS ns (fun k => S k || decide (k = .inr y)) (if S (.inr y) = true then n else n + 1) := by
  obtain ⟨ms, h1, rfl, h3, h4⟩ := h
  by_cases g : S (.inr y) = true
  · rw [if_pos g]
    refine ⟨ms, h1, rfl, h3, fun u => ?_⟩
    rw [Bool.or_eq_true, h4 u, decide_eq_true_iff]
    exact ⟨fun e => e.elim id fun e => by cases e; exact (h4 y).mp g, .inl⟩
  · rw [if_neg g]
    have ny : y ∉ ms := fun m => g ((h4 y).mpr m)
    refine ⟨y :: ms, List.nodup_cons.mpr ⟨ny, h1⟩, rfl, fun u hu => ?_, fun u => ?_⟩
    · rcases List.mem_cons.mp hu with e | hu
      · rw [e]
        exact hy
      · exact h3 u hu
    · rw [Bool.or_eq_true, h4 u, decide_eq_true_iff, List.mem_cons]
      exact ⟨fun e => e.elim .inr fun e => by cases e; exact .inl rfl, fun e => e.elim (fun e => .inr (by rw [e])) .inl⟩
section
variable {P : Program} {w : World} {K : PySem.W.Frag} {mg : Str → Option Value} {base : Heap}
variable {PE cN cL cM : Addr}
abbrev sRText : Stmt := topS 10
theorem scRText : FnScope ["thing"] ["thing"] (defScope sRText) := ⟨rfl, rfl, rfl, by decide +kernel, rfl, by decide +kernel, by decide +kernel⟩
theorem ok_RText {f : Addr} {fd : FuncData} (F : Fun K "is_text" "is_text" sRText f fd) {tM : Tok} (gM : mg "MOST_SIGNS" = some (.int 2000 tM)) {fPSigns : Addr} {fdPSigns : FuncData} (DPSigns : Dk P w K mg base "is_signs" sPSigns ["thing"] 1 spSg fPSigns fdPSigns) (T : Glob mg) : FnOk P w K mg base CX0 2 f fd ["thing"] spTextK := by
  refine F.ok scRText (fun vs H Q E h => ?_) (fun cdv A outer s H vs Q E hr h => ?_)
  · obtain ⟨x, k, rfl, _⟩ := h
    rfl
  · refine ⟨_, (pss_one (ps_ret (pe_and (pe_call DPSigns.ok (hr.mono (by decide)) (by rfl) DPSigns.g DPSigns.F.kp DPSigns.b .nil pass0 (pa_cons (pv 0) pa_nil)) (pe_one (pe_cmpR op_le (pe_callB call_len (by rfl) T.len PySem.boot_len (pa_cons (pv 0) pa_nil)) (pe_glob (v := .int 2000) (by rfl) gM ⟨_, rfl⟩) (nomark _)))))), ?_⟩
    obtain ⟨x, k, rfl, hk, hv, q⟩ := h
    refine ⟨x, rfl, x, k, rfl, hk, hv, _, rfl, ?_⟩
    cases x with
    | str z =>
      have lz := hv z rfl
      refine ite2 (fun c => ?_) (fun c => ?_)
      · refine ⟨.str z, rfl, .str z, z.length, rfl, ⟨len5 lz, rfl⟩, _, _, rfl, rfl, ?_⟩
        have q' : Q (.bl (sgB z && decide ((z.length : Int) ≤ 2000))) H := q
        rw [show sgB z = true from c, Bool.true_and] at q'
        exact q'
      · have c' : sgB z = false := by
          cases h : sgB z with
          | false => rfl
          | true => exact absurd h c
        have q' : Q (.bl (sgB z && decide ((z.length : Int) ≤ 2000))) H := q
        rw [c', Bool.false_and] at q'
        exact q'
    | _ => exact iteF q
abbrev sRLevels : Stmt := topS 21
theorem scRLevels : FnScope ["text", "begins"] ["text"] (defScope sRLevels) := ⟨rfl, rfl, rfl, by decide +kernel, rfl, by decide +kernel, by decide +kernel⟩
theorem ok_RLevels {f : Addr} {fd : FuncData} (F : Fun K "levels" "levels" sRLevels f fd) (ENoText : Cls0 P K mg PE "NoText" cN) {fRText : Addr} {fdRText : FuncData} (DRText : Dk P w K mg base "is_text" sRText ["thing"] 2 spTextK fRText fdRText) {fQLevels : Addr} {fdQLevels : FuncData} (DQLevels : Dk P w K mg base "_levels" sQLevels ["text"] 5 spLevels fQLevels fdQLevels) (T : Glob mg) : FnOk P w K mg base (L2.CX P w) 6 f fd ["text"] (spRLevels cN) := by
  obtain ⟨fN, SNoText⟩ := ENoText.sup
  refine F.okX scRLevels (fun vs H Q E h => ?_) (fun cdv A outer s H vs Q E hr h => ?_)
  · obtain ⟨x, k, rfl, _⟩ := h
    rfl
  · refine ⟨_, (pss_cons (ps_if (pt_not (pt_val (pe_call DRText.ok (hr.mono (by decide)) (by rfl) DRText.g DRText.F.kp DRText.b .nil pass0 (pa_cons (pv 0) pa_nil))))
      (pss_one (ps_raise rfl (takes_of rfl rfl rfl rfl) (pmk_exc0 SNoText hr (by rfl) ENoText.g)))
      pss_nil)
      (pss_one (ps_ret (pe_lc (own := [("begins", 1)]) (g := gName 1) (by rfl) scRLevels.nd (pi_list (pe_call DQLevels.ok (hr.mono (by decide)) (by rfl) DQLevels.g DQLevels.F.kp DQLevels.b .nil pass0 (pa_cons (pv 0) pa_nil))) (blkOk_by (N := ["text", "begins"]) (sc := defScope sRLevels) (by decide +kernel)) (fun _ _ _ _ _ => pg_name (i := 1) scRLevels.nd rfl (.inl rfl)) (fun _ _ _ _ _ => pts_nil) (fun _ _ _ _ _ => (pe_callTy (r := rTpl K) call_tuple_of (by rfl) T.tuple (by decide +kernel) (pa_cons (pv 1) pa_nil))))))), ?_⟩
    obtain ⟨x, k, rfl, hk, hv, q1, q2⟩ := h
    refine ⟨x, rfl, x, k, rfl, hk, hv, _, rfl, ?_⟩
    cases tx : textV x with
    | false => exact iteT (q2 tx H (Same.refl H))
    | true =>
    refine iteF ?_
    obtain ⟨z, rfl, hz, lz⟩ := textV_str tx
    refine ⟨.str z, rfl, z, rfl, hz, lz, fun L xs H1 hL hall lx k1 => ⟨L, rfl, ⟨_, sq_of hL⟩, fun D nD => lc_list (xs := xs) (fun i H2 => Same H1 H2 ∧ ∃ ys, H2 D = some (.lst ys) ∧ ys.length = i) ⟨Same.new nD, [], upd_same, rfl⟩ (fun i H2 _ w => sq_of (w.1 _ _ hL)) ?_ ?_⟩⟩
    · rintro i v H2 hv ⟨k2, ys, hD, ly⟩
      obtain ⟨r, hr1, c, rfl, ncL, hc⟩ := All2.at hall hv
      have li := (List.getElem?_eq_some_iff.mp hv).1
      refine ⟨rfl, .ref c, rfl, c, _, rfl, .inl ⟨sq_of (k2 _ _ hc), fun t nt => ?_⟩⟩
      have kt := Same.new (o := .tup (r.map iN)) nt
      exact ⟨_, kt _ _ hD, by show _ < 16777216; omega, sameAt (k2.trans kt) nD, ys ++ [.ref t], upd_same, by rw [List.length_append, ly]; rfl⟩
    · rintro H2 ⟨k2, ys, hD, ly⟩
      exact q1 tx _ H2 (k1.trans k2)
abbrev sRBlocks : Stmt := topS 22
theorem scRBlocks : FnScope ["text", "level", "found"] ["text", "level"] (defScope sRBlocks) := ⟨rfl, rfl, rfl, by decide +kernel, rfl, by decide +kernel, by decide +kernel⟩
theorem ok_RBlocks {f : Addr} {fd : FuncData} (F : Fun K "blocks" "blocks" sRBlocks f fd) (ENoText : Cls0 P K mg PE "NoText" cN) (ENoLevel : Cls0 P K mg PE "NoLevel" cL) {fRText : Addr} {fdRText : FuncData} (DRText : Dk P w K mg base "is_text" sRText ["thing"] 2 spTextK fRText fdRText) {fQNames : Addr} {fdQNames : FuncData} (DQNames : Dk P w K mg base "_names" sQNames ["text", "begins"] 1 spNames fQNames fdQNames) {fQLevels : Addr} {fdQLevels : FuncData} (DQLevels : Dk P w K mg base "_levels" sQLevels ["text"] 5 spLevels fQLevels fdQLevels) {fPNumber : Addr} {fdPNumber : FuncData} (DPNumber : Dk P w K mg base "is_number" sPNumber ["thing"] 1 spNum fPNumber fdPNumber) (T : Glob mg) : FnOk P w K mg base (L2.CX P w) 6 f fd ["text", "level"] (spRBlocks cN cL) := by
  obtain ⟨fN, SNoText⟩ := ENoText.sup
  obtain ⟨fL, SNoLevel⟩ := ENoLevel.sup
  refine F.okX scRBlocks (fun vs H Q E h => ?_) (fun cdv A outer s H vs Q E hr h => ?_)
  · obtain ⟨x, y, k, j, rfl, _⟩ := h
    rfl
  · refine ⟨_, (pss_cons (ps_if (pt_not (pt_val (pe_call DRText.ok (hr.mono (by decide)) (by rfl) DRText.g DRText.F.kp DRText.b .nil pass0 (pa_cons (pv 0) pa_nil))))
      (pss_one (ps_raise rfl (takes_of rfl rfl rfl rfl) (pmk_exc0 SNoText hr (by rfl) ENoText.g)))
      pss_nil)
      (pss_cons (ps_set (i := 2) scRBlocks.nd rfl (.inl rfl) (pe_call DQLevels.ok (hr.mono (by decide)) (by rfl) DQLevels.g DQLevels.F.kp DQLevels.b .nil pass0 (pa_cons (pv 0) pa_nil)))
      (pss_cons (ps_if (PW.pt (pw_or (pt_not (pt_val (pe_call DPNumber.ok (hr.mono (by decide)) (by rfl) DPNumber.g DPNumber.F.kp DPNumber.b .nil pass0 (pa_cons (pv 1) pa_nil)))) (pw_or1 (pt_cmpR op_ge (pv 1) (pe_callB call_len_seq (by rfl) T.len PySem.boot_len (pa_cons (pv 2) pa_nil)) (nomark _)))))
      (pss_one (ps_raise rfl (takes_of rfl rfl rfl rfl) (pmk_exc0 SNoLevel hr (by rfl) ENoLevel.g)))
      pss_nil)
      (pss_one (ps_ret (pe_callTy call_tuple_of (by rfl) T.tuple (by decide +kernel) (pa_cons (pe_call DQNames.ok (hr.mono (by decide)) (by rfl) DQNames.g DQNames.F.kp DQNames.b .nil pass0 (pa_cons (pv 0) (pa_cons (pe_ix ix_list (pv 2) (pv 1) (fun _ _ => rfl)) pa_nil))) pa_nil))))))), ?_⟩
    obtain ⟨x, y, k, j, rfl, hk, hv, hy, q0, q1, q2⟩ := h
    refine ⟨x, rfl, x, k, rfl, hk, hv, _, rfl, ?_⟩
    cases tx : textV x with
    | false => exact iteT (q1 (by unfold levelR; rw [tx]; rfl) H (Same.refl H))
    | true =>
    refine iteF ?_
    have tx' := tx
    obtain ⟨z, rfl, hz, lz⟩ := textV_str tx
    refine ⟨.str z, rfl, z, rfl, hz, lz, fun L xs H1 hL hall lx k1 => ?_⟩
    have len := All2.len hall
    have hy1 := hy.same k1
    refine ⟨y, rfl, y, j, rfl, hy1, _, rfl, ?_⟩
    cases ny : numV y with
    | false =>
      refine iteT (q2 ?_ H1 k1)
      unfold levelR
      rw [if_pos tx', if_neg]
      intro e
      cases y with
      | int i =>
        obtain ⟨e1, _⟩ := Bool.and_eq_true_iff.mp (show (decide (0 ≤ i) && decide (i ≤ manyL (.str z) - 1)) = true from e)
        rw [show numV (.int i) = decide (0 ≤ i) from rfl, e1] at ny
        cases ny
      | _ => exact Bool.noConfusion e
    | true =>
    refine iteF ?_
    obtain ⟨i, rfl⟩ := numV_int ny
    have lr : levelR (.str z) (iN i) = if i < (lvAll z).length then 0 else 2 := by
      unfold levelR
      rw [if_pos tx']
      have e : inV2 0 (manyL (.str z) - 1) (iN i) = decide (i < (lvAll z).length) := by
        show (decide ((0 : Int) ≤ (i : Int)) && decide ((i : Int) ≤ ((lvAll z).length : Int) - 1)) = _
        rw [decide_eq_true (by omega), Bool.true_and]
        exact decide_eq_decide.mpr ⟨fun h => by omega, fun h => by omega⟩
      rw [e]
      by_cases h : i < (lvAll z).length
      · rw [decide_eq_true h, if_pos rfl, if_pos h]
      · rw [decide_eq_false h, if_neg (by decide), if_neg h]
    refine ⟨iN i, rfl, .ref L, rfl, L, _, rfl, .inl (sq_of hL), _, _, rfl, rfl, _, rfl, ite2 (fun c => ?_) (fun c => ?_)⟩
    · have c' : ¬ i < (lvAll z).length := by
        have := of_decide_eq_true c
        omega
      exact q2 (by show levelR (.str z) (iN i) = 2; rw [lr, if_neg c']) H1 k1
    have c' : i < (lvAll z).length := Nat.lt_of_not_le fun n => c (decide_eq_true (by omega))
    have hx : xs[i]? = some xs[i] := List.getElem?_eq_getElem (by omega)
    obtain ⟨r, hr2, c, ec, ncL, hc⟩ := All2.at hall hx
    rw [ec] at hx
    have fb := (lv_begs hr2).few
    dsimp only [tNext, tDrop]
    refine ⟨.str z, rfl, .ref L, rfl, iN i, rfl, L, _, _, _, rfl, rfl, sq_of hL, atI_nat hx, z, c, r, rfl, hc, lz, by omega, fun o H2 no ho k2 => ⟨o, _, rfl, .inl ⟨sq_of ho, fun t nt => ?_⟩⟩⟩
    exact q0 (by show levelR (.str z) (iN i) = 0; rw [lr, if_pos c']) _ _ ((k1.trans k2).trans (Same.new nt))
abbrev sRBlockLot : Stmt := topS 23
theorem scRBlockLot : FnScope ["text", "begins", "name"] ["text"] (defScope sRBlockLot) := ⟨rfl, rfl, rfl, by decide +kernel, rfl, by decide +kernel, by decide +kernel⟩
theorem ok_RBlockLot {f : Addr} {fd : FuncData} (F : Fun K "block_lot" "block_lot" sRBlockLot f fd) (ENoText : Cls0 P K mg PE "NoText" cN) {fQNames : Addr} {fdQNames : FuncData} (DQNames : Dk P w K mg base "_names" sQNames ["text", "begins"] 1 spNames fQNames fdQNames) {fQLevels : Addr} {fdQLevels : FuncData} (DQLevels : Dk P w K mg base "_levels" sQLevels ["text"] 5 spLevels fQLevels fdQLevels) {fRText : Addr} {fdRText : FuncData} (DRText : Dk P w K mg base "is_text" sRText ["thing"] 2 spTextK fRText fdRText) (T : Glob mg) : FnOk P w K mg base (L2.CX P w) 6 f fd ["text"] (spRLot cN) := by
  obtain ⟨fN, SNoText⟩ := ENoText.sup
  refine F.okX scRBlockLot (fun vs H Q E h => ?_) (fun cdv A outer s H vs Q E hr h => ?_)
  · obtain ⟨x, k, rfl, _⟩ := h
    rfl
  · refine ⟨_, (pss_cons (ps_if (pt_not (pt_val (pe_call DRText.ok (hr.mono (by decide)) (by rfl) DRText.g DRText.F.kp DRText.b .nil pass0 (pa_cons (pv 0) pa_nil))))
      (pss_one (ps_raise rfl (takes_of rfl rfl rfl rfl) (pmk_exc0 SNoText hr (by rfl) ENoText.g)))
      pss_nil)
      (pss_one (ps_ret (pe_callB (cr_sortedSx (by rfl)) (by rfl) T.sorted (by decide +kernel) (pa_cons (pe_sc2 (own := [("begins", 1), ("name", 2)]) (vs1 := [2]) (wi1 := iList K _) (g := gName 1) (g1 := gName 2) (by rfl) scRBlockLot.nd (pi_list (pe_call DQLevels.ok (hr.mono (by decide)) (by rfl) DQLevels.g DQLevels.F.kp DQLevels.b .nil pass0 (pa_cons (pv 0) pa_nil))) (blkOk_by (N := ["text", "begins", "name"]) (sc := defScope sRBlockLot) (by decide +kernel)) (by decide) (fun _ _ _ => pg_name (i := 1) scRBlockLot.nd rfl (.inl rfl)) (fun _ _ _ => pts_nil)
        (fun _ _ _ => pi_list (pe_call DQNames.ok (hr.mono (by decide)) (by rfl) DQNames.g DQNames.F.kp DQNames.b .nil pass0 (pa_cons (pv 0) (pa_cons (pv 1) pa_nil)))) (fun _ _ _ => pg_name (i := 2) scRBlockLot.nd rfl (.inl rfl)) (fun _ _ _ => pts_nil) (fun _ _ _ => pv 2)) pa_nil))))), ?_⟩
    obtain ⟨x, k, rfl, hk, hv, hf, q1, q2⟩ := h
    refine ⟨x, rfl, x, k, rfl, hk, hv, _, rfl, ?_⟩
    cases tx : textV x with
    | false => exact iteT (q2 tx H (Same.refl H))
    | true =>
    refine iteF ?_
    have tx' := tx
    obtain ⟨z, rfl, hz, lz⟩ := textV_str tx
    obtain ⟨ns, lns, hns⟩ := hf z rfl tx'
    refine ⟨.str z, rfl, z, rfl, hz, by omega, fun L xs H1 hL hall lx k1 => ⟨L, rfl, ⟨_, sq_of hL⟩, fun D nD => wk (walk_list (xs := xs)) (fun i H2 => Same H1 H2 ∧ ∃ (S : Key → Bool) (n : Nat), H2 D = some (SetX P w D S n) ∧ (∀ k, S k = true ↔ inLv z i k) ∧ InS ns S n) ⟨Same.new nD, _, 0, upd_same, fun k => ⟨fun e => (by cases e), fun ⟨y, e, r, m, _⟩ => absurd m (by simp)⟩, InS.nil⟩ (fun i H2 _ w => sq_of (w.1 _ _ hL)) ?_ ?_⟩⟩
    · rintro i v H2 H2' hi ⟨k2, S, n, hD, hS, hn⟩ ⟨eH, hv⟩
      subst eH
      obtain ⟨r, hr1, c, rfl, ncL, hc⟩ := All2.at hall hv
      have fb := (lv_begs hr1).few
      have tk := tot_take (lvAll z) i hr1
      have tp := tot_part (lvAll z) (i + 1)
      refine ⟨rfl, .str z, rfl, .ref c, rfl, z, c, r, rfl, k2 _ _ hc, by omega, by omega, fun o H3 no ho k3 => ⟨o, rfl, ⟨_, sq_of ho⟩, ?_⟩⟩
      have noD : o ≠ D := fun e => by rw [e, hD] at no; cases no
      refine wk (walk_list (xs := (namesAt z r).map V.str)) (fun j H4 => Same H1 H4 ∧ H4 o = some (.lst ((namesAt z r).map V.str)) ∧ ∃ (S : Key → Bool) (n : Nat), H4 D = some (SetX P w D S n) ∧ (∀ k, S k = true ↔ inLv z i k ∨ ∃ y, k = .inr y ∧ y ∈ (namesAt z r).take j) ∧ InS ns S n) ⟨k2.trans k3, ho, S, n, k3 _ _ hD, fun k => ⟨fun e => .inl ((hS k).mp e), fun e => e.elim (hS k).mpr fun ⟨y, _, m⟩ => absurd m (by simp)⟩, hn⟩ (fun j H4 _ w => sq_of w.2.1) ?_ ?_
      · rintro j v H4 H4' hj ⟨k4, ho4, S4, n4, hD4, hS4, hn4⟩ ⟨eH, hv4⟩
        subst eH
        rw [List.getElem?_map] at hv4
        obtain ⟨y, hy, rfl⟩ := Option.map_eq_some_iff.mp hv4
        have lj := (List.getElem?_eq_some_iff.mp hy).1
        rw [namesAt_len] at lj
        refine ⟨rfl, .str y, rfl, .inr y, S4, n4, rfl, hD4, by have := hn4.le; show _ < 4096; omega, sameAt k4 nD, by rw [upd_ne noD]; exact ho4, _, _, upd_same, fun k => ?_, hn4.put (hns r (List.mem_of_getElem? hr1) y (List.mem_of_getElem? hy))⟩
        rw [Bool.or_eq_true, decide_eq_true_eq, hS4 k, take_succ' hy]
        constructor
        · rintro ((h | ⟨u, e, m⟩) | h)
          · exact .inl h
          · exact .inr ⟨u, e, List.mem_append_left _ m⟩
          · exact .inr ⟨y, h, List.mem_append_right _ (by simp)⟩
        · rintro (h | ⟨u, e, m⟩)
          · exact .inl (.inl h)
          · rcases List.mem_append.mp m with m | m
            · exact .inl (.inr ⟨u, e, m⟩)
            · rw [List.mem_singleton.mp m] at e
              exact .inr e
      · rintro H4 ⟨k4, ho4, S4, n4, hD4, hS4, hn4⟩
        rw [List.length_map, List.take_of_length_le (Nat.le_refl _)] at hS4
        refine ⟨k4, S4, n4, hD4, fun k => (hS4 k).trans ?_, hn4⟩
        unfold inLv
        rw [take_succ' hr1]
        constructor
        · rintro (⟨u, e, r', m, m2⟩ | ⟨u, e, m⟩)
          · exact ⟨u, e, r', List.mem_append_left _ m, m2⟩
          · exact ⟨u, e, r, List.mem_append_right _ (by simp), m⟩
        · rintro ⟨u, e, r', m, m2⟩
          rcases List.mem_append.mp m with m | m
          · exact .inl ⟨u, e, r', m, m2⟩
          · rw [List.mem_singleton.mp m] at m2
            exact .inr ⟨u, e, m2⟩
    · rintro H2 ⟨k2, S, n, hD, hS, hn⟩
      rw [All2.len hall] at hS
      have := hn.le
      exact ⟨D, S, n, rfl, hD, (fun k e => let ⟨y, ey, _⟩ := (hS k).mp e; ⟨y, ey⟩), fun zs p hs hm hl np => q1 tx' _ _ ((k1.trans k2).trans (Same.new np))⟩
abbrev sRNew : Stmt := topS 26
theorem scRNew : FnScope ["text", "at", "many", "signs", "later", "elder", "counts", "level", "row", "here", "kept", "block"] ["text", "at", "many", "signs"] (defScope sRNew) := ⟨rfl, rfl, rfl, by decide +kernel, rfl, by decide +kernel, by decide +kernel⟩
theorem ok_RNew {f : Addr} {fd : FuncData} (F : Fun K "new_blocks" "new_blocks" sRNew f fd) (ENoText : Cls0 P K mg PE "NoText" cN) (ENoNumber : Cls0 P K mg PE "NoNumber" cM) {fRText : Addr} {fdRText : FuncData} (DRText : Dk P w K mg base "is_text" sRText ["thing"] 2 spTextK fRText fdRText) {fQStr : Addr} {fdQStr : FuncData} (DQStr : Dk P w K mg base "_stretches" sQStr ["text"] 6 spStr fQStr fdQStr) {fQKept : Addr} {fdQKept : FuncData} (DQKept : Dk P w K mg base "_kept_stretches" sQKept ["row", "at", "behind", "longer"] 1 spKept fQKept fdQKept) {fPNumber : Addr} {fdPNumber : FuncData} (DPNumber : Dk P w K mg base "is_number" sPNumber ["thing"] 1 spNum fPNumber fdPNumber) {fPSigns : Addr} {fdPSigns : FuncData} (DPSigns : Dk P w K mg base "is_signs" sPSigns ["thing"] 1 spSg fPSigns fdPSigns) (T : Glob mg) : FnOk P w K mg base (L2.CX P w) 7 f fd ["text", "at", "many", "signs"] (spRNew cN cM) := by
  obtain ⟨fN, SNoText⟩ := ENoText.sup
  obtain ⟨fM, SNoNumber⟩ := ENoNumber.sup
  refine F.okX scRNew (fun vs H Q E h => ?_) (fun cdv A outer s H vs Q E hr h => ?_)
  · obtain ⟨x, a0, m0, s0, kx, ka, km, ks, rfl, _⟩ := h
    rfl
  · refine ⟨_, (pss_cons (ps_if (pt_not (pt_val (pe_call DRText.ok (hr.mono (by decide)) (by rfl) DRText.g DRText.F.kp DRText.b .nil pass0 (pa_cons (pv 0) pa_nil))))
      (pss_one (ps_raise rfl (takes_of rfl rfl rfl rfl) (pmk_exc0 SNoText hr (by rfl) ENoText.g)))
      pss_nil)
      (pss_cons (ps_if (PW.pt (pw_or (pt_not (pt_val (pe_call DPNumber.ok (hr.mono (by decide)) (by rfl) DPNumber.g DPNumber.F.kp DPNumber.b .nil pass0 (pa_cons (pv 1) pa_nil)))) (pw_or1 (pt_cmpR op_gt (pv 1) (pe_callB call_lenZ (by rfl) T.len PySem.boot_len (pa_cons (pv 0) pa_nil)) (nomark _)))))
      (pss_one (ps_raise rfl (takes_of rfl rfl rfl rfl) (pmk_exc0 SNoNumber hr (by rfl) ENoNumber.g)))
      pss_nil)
      (pss_cons (ps_if (PW.pt (pw_or (pt_not (pt_val (pe_call DPNumber.ok (hr.mono (by decide)) (by rfl) DPNumber.g DPNumber.F.kp DPNumber.b .nil pass0 (pa_cons (pv 2) pa_nil)))) (pw_or1 (pt_cmpR op_gt (pv 2) (pe_op op_sub (pe_callB call_lenZ (by rfl) T.len PySem.boot_len (pa_cons (pv 0) pa_nil)) (pv 1)) (nomark _)))))
      (pss_one (ps_raise rfl (takes_of rfl rfl rfl rfl) (pmk_exc0 SNoNumber hr (by rfl) ENoNumber.g)))
      pss_nil)
      (pss_cons (ps_if (pt_not (pt_val (pe_call DPSigns.ok (hr.mono (by decide)) (by rfl) DPSigns.g DPSigns.F.kp DPSigns.b .nil pass0 (pa_cons (pv 3) pa_nil))))
      (pss_one (ps_raise rfl (takes_of rfl rfl rfl rfl) (pmk_exc0 SNoText hr (by rfl) ENoText.g)))
      pss_nil)
      (pss_cons (ps_set (i := 4) scRNew.nd rfl (.inl rfl) (pe_op op_add_str (pe_op op_add_str (pe_slice sl_str (pv 0) po_none (po_some (pv 1))) (pv 3)) (pe_slice sl_str (pv 0) (po_some (pe_op op_add (pv 1) (pv 2))) po_none)))
      (pss_cons (ps_if (pt_not (pt_val (pe_call DRText.ok (hr.mono (by decide)) (by rfl) DRText.g DRText.F.kp DRText.b .nil pass0 (pa_cons (pv 4) pa_nil))))
      (pss_one (ps_raise rfl (takes_of rfl rfl rfl rfl) (pmk_exc0 SNoText hr (by rfl) ENoText.g)))
      pss_nil)
      (pss_cons (ps_set (i := 5) scRNew.nd rfl (.inl rfl) (pe_call DQStr.ok (hr.mono (by decide)) (by rfl) DQStr.g DQStr.F.kp DQStr.b .nil pass0 (pa_cons (pv 0) pa_nil)))
      (pss_cons (ps_set (i := 6) scRNew.nd rfl (.inl rfl) (pe_lst pa_nil))
      (pss_cons (ps_for (passes_of rfl) rfl (pi_enum (by rfl) T.enumerate (pa_cons (pe_call DQStr.ok (hr.mono (by decide)) (by rfl) DQStr.g DQStr.F.kp DQStr.b .nil pass0 (pa_cons (pv 4) pa_nil)) pa_nil)) (pg_tup (by rfl) (pgs_cons (pg_name (i := 7) scRNew.nd rfl (.inl rfl)) (pgs_cons (pg_name (i := 8) scRNew.nd rfl (.inl rfl)) pgs_nil)))
      (pss_cons (ps_set (i := 9) scRNew.nd rfl (.inl rfl) (pe_ifExp (pt_cmpR op_lt (pv 7) (pe_callB call_len_seq (by rfl) T.len PySem.boot_len (pa_cons (pv 5) pa_nil)) (nomark _)) (pe_ix ix_list (pv 5) (pv 7) (fun _ _ => rfl)) (pe_lst pa_nil)))
        (pss_cons (ps_set (i := 10) scRNew.nd rfl (.inr rfl) (pe_call DQKept.ok (hr.mono (by decide)) (by rfl) DQKept.g DQKept.F.kp DQKept.b .nil pass0 (pa_cons (pv 9) (pa_cons (pv 1) (pa_cons (pe_op op_add (pv 1) (pv 2)) (pa_cons (pe_op op_sub (pe_callB call_lenZ (by rfl) T.len PySem.boot_len (pa_cons (pv 3) pa_nil)) (pv 2)) pa_nil))))))
        (pss_one (ps_expr (pe_bm PySem.F.plainAttrs_list PySem.F.slot_list_append PySem.F.type_list_append mt_append (pv 6) (pa_cons (pe_callB call_len_seq (by rfl) T.len PySem.boot_len (pa_cons (pe_lc (own := [("block", 11)]) (g := gName 11) (by rfl) scRNew.nd (pi_list (pv 8)) (blkOk_by (N := ["text", "at", "many", "signs", "later", "elder", "counts", "level", "row", "here", "kept", "block"]) (sc := defScope sRNew) (by decide +kernel)) (fun _ _ _ _ _ => pg_name (i := 11) scRNew.nd rfl (.inl rfl)) (fun _ _ _ _ _ => (pts_one (pt_cmp (pc_dnotin (hu_of hr) (pv 11) (pv 10)) (by rfl)))) (fun _ _ _ _ _ => (pv 11))) pa_nil)) pa_nil)))))))
      (pss_one (ps_ret (pv 6)))))))))))), ?_⟩
    obtain ⟨x, a0, m0, s0, kx, ka, km, ks, rfl, hx, ha, hm, hs, vx, vs, q0, q1, q2⟩ := h
    refine ⟨x, rfl, x, kx, rfl, hx, vx, _, rfl, ?_⟩
    cases tx : textV x with
    | false => exact iteT (q1 (by unfold newR; rw [tx]; rfl) H (Same.refl H))
    | true =>
    refine iteF ?_
    have tx' := tx
    obtain ⟨z, rfl, hz, lz⟩ := textV_str tx
    refine ⟨a0, rfl, a0, ka, rfl, ha, _, rfl, ?_⟩
    cases na : numV a0 with
    | false =>
      refine iteT (q2 ?_ H (Same.refl H))
      unfold newR
      rw [if_pos tx', if_neg]
      intro e
      have e := (Bool.and_eq_true_iff.mp e).1
      cases a0 with
      | int i =>
        have e1 := (Bool.and_eq_true_iff.mp (show (decide (0 ≤ i) && decide (i ≤ lenV (.str z))) = true from e)).1
        rw [show numV (.int i) = decide (0 ≤ i) from rfl, e1] at na
        cases na
      | _ => exact Bool.noConfusion e
    | true =>
    refine iteF ?_
    obtain ⟨a, rfl⟩ := numV_int na
    refine ⟨iN a, rfl, .str z, rfl, z, rfl, len5 (by omega), _, _, rfl, rfl, _, rfl, ite2 (fun c => ?_) fun c => ?_⟩
    · have c' : (z.length : Int) < (a : Int) := of_decide_eq_true c
      refine q2 ?_ H (Same.refl H)
      unfold newR
      rw [if_pos tx', if_neg]
      intro e
      have e := (Bool.and_eq_true_iff.mp e).1
      have e1 := of_decide_eq_true (Bool.and_eq_true_iff.mp (show (decide ((0 : Int) ≤ (a : Int)) && decide ((a : Int) ≤ (z.length : Nat))) = true from e)).2
      omega
    have ca : a ≤ z.length := Nat.le_of_not_lt fun n => c (decide_eq_true (by omega))
    have ia : inV2 0 (lenV (.str z)) (iN a) = true := by
      show (decide ((0 : Int) ≤ (a : Int)) && decide ((a : Int) ≤ (z.length : Nat))) = true
      rw [decide_eq_true (by omega), decide_eq_true (by omega)]
      rfl
    refine ⟨m0, rfl, m0, km, rfl, hm, _, rfl, ?_⟩
    cases nm : numV m0 with
    | false =>
      refine iteT (q2 ?_ H (Same.refl H))
      unfold newR
      rw [if_pos tx', if_neg]
      intro e
      have e := (Bool.and_eq_true_iff.mp e).2
      cases m0 with
      | int i =>
        have e1 := (Bool.and_eq_true_iff.mp (show (decide (0 ≤ i) && decide (i ≤ lenV (.str z) - intV (iN a))) = true from e)).1
        rw [show numV (.int i) = decide (0 ≤ i) from rfl, e1] at nm
        cases nm
      | _ => exact Bool.noConfusion e
    | true =>
    refine iteF ?_
    obtain ⟨many, rfl⟩ := numV_int nm
    refine ⟨iN many, rfl, .str z, rfl, z, rfl, len5 (by omega), iN a, rfl, _, _, rfl, rfl, _, _, rfl, rfl, _, rfl, ite2 (fun c => ?_) fun c => ?_⟩
    · have c' : (z.length : Int) - (a : Int) < (many : Int) := of_decide_eq_true c
      refine q2 ?_ H (Same.refl H)
      unfold newR
      rw [if_pos tx', if_neg]
      intro e
      have e := (Bool.and_eq_true_iff.mp e).2
      have e1 := of_decide_eq_true (Bool.and_eq_true_iff.mp (show (decide ((0 : Int) ≤ (many : Int)) && decide ((many : Int) ≤ (z.length : Nat) - (a : Int))) = true from e)).2
      omega
    have fit : a + many ≤ z.length := Nat.le_of_not_lt fun n => c (decide_eq_true (by omega))
    have im : inV2 0 (lenV (.str z) - intV (iN a)) (iN many) = true := by
      show (decide ((0 : Int) ≤ (many : Int)) && decide ((many : Int) ≤ (z.length : Nat) - (a : Int))) = true
      rw [decide_eq_true (by omega), decide_eq_true (by omega)]
      rfl
    have nr : newR (.str z) (iN a) (iN many) s0 = if (sgV s0 && decide (lenV (.str z) - intV (iN many) + lenV s0 ≤ 2000)) = true then 0 else 1 := by
      unfold newR
      rw [if_pos tx', ia, im]
      exact if_pos rfl
    have q0 : newR (.str z) (iN a) (iN many) s0 = 0 → ∀ v H', Same H H' → Q v H' := q0
    have q1 : newR (.str z) (iN a) (iN many) s0 = 1 → ∀ H', Same H H' → E (.ref cN) none H' := q1
    refine ⟨s0, rfl, s0, ks, rfl, hs, (fun u e => Nat.le_trans (vs u e) (by decide)), _, rfl, ?_⟩
    cases ss : sgV s0 with
    | false => exact iteT (q1 (by rw [nr, ss]; rfl) H (Same.refl H))
    | true =>
    refine iteF ?_
    obtain ⟨w, rfl, hw⟩ := sgV_str ss
    have lw := vs w rfl
    have ed := edit_ed (w := w) fit
    have la := app_len (cutS z none (some (a : Int))) w
    have l1 := cut_len (z := z) none (some (a : Int))
    have l2 := cut_len (z := z) (some ((a : Int) + (many : Int))) none
    refine ⟨.str z, rfl, iN a, rfl, _, rfl, z, rfl, len5 (by omega), .str w, rfl, _, _, rfl, rfl, len5 (by omega), .str z, rfl, iN a, rfl, iN many, rfl, _, _, rfl, rfl, _, rfl, z, rfl, len5 (by omega), _, _, rfl, rfl, ?_, ?_⟩
    · show (cutS z none (some (a : Int)) ++ w).length + _ ≤ sizeLine
      exact Nat.le_trans (Nat.add_le_add_left l2 _) (len5' (by omega))
    have hz2 := edit_sg (a := a) (many := many) hz hw
    rw [show cutS z none (some (a : Int)) ++ w ++ cutS z (some ((a : Int) + (many : Int))) none = editZ z a many w from rfl]
    generalize ez : editZ z a many w = z2 at ed hz2 ⊢
    have szl := sizeLine_eq
    have el := ed.len
    have nr2 : newR (.str z) (iN a) (iN many) (.str w) = if z2.length ≤ 2000 then 0 else 1 := by
      rw [nr, ss, Bool.true_and]
      have : decide (lenV (.str z) - intV (iN many) + lenV (.str w) ≤ 2000) = decide (z2.length ≤ 2000) := decide_eq_decide.mpr ⟨fun h => by
        have h : (z.length : Int) - (many : Int) + (w.length : Int) ≤ 2000 := h
        omega, fun h => by
        show (z.length : Int) - (many : Int) + (w.length : Int) ≤ 2000
        omega⟩
      rw [this]
      by_cases g : z2.length ≤ 2000
      · rw [decide_eq_true g, if_pos rfl, if_pos g]
      · rw [decide_eq_false g, if_neg (by decide), if_neg g]
    refine ⟨.str z2, rfl, .str z2, .str, rfl, .str z2, (fun u e => by cases e; omega), _, rfl, ?_⟩
    cases t2 : textV (.str z2) with
    | false =>
      refine iteT (q1 ?_ H (Same.refl H))
      rw [nr2, if_neg]
      intro g
      have t2 : (sgB z2 && decide ((z2.length : Int) ≤ 2000)) = false := t2
      rw [hz2, Bool.true_and, decide_eq_true (show (z2.length : Int) ≤ 2000 by omega)] at t2
      cases t2
    | true =>
    refine iteF ?_
    have le : z2.length ≤ 2000 := by
      have t2 : (sgB z2 && decide ((z2.length : Int) ≤ 2000)) = true := t2
      rw [hz2, Bool.true_and] at t2
      have := of_decide_eq_true t2
      omega
    have q : ∀ L H', H L = none → H' L = some (.lst ((dueN z z2 a many w.length (lvAll z2).length).map V.int)) → Same H H' → Q (.ref L) H' := fun L H' _ _ k => q0 (by rw [nr2, if_pos le]) _ _ k
    dsimp only [tNext, tDrop]
    refine ⟨.str z, rfl, z, rfl, hz, lz, fun M xs H1 nM hM hxs lx k1 => ?_⟩
    refine ⟨by show 0 ≤ sizeLine; decide, fun D nD => ?_⟩
    have kD := Same.new (o := .lst []) nD
    have hD : upd H1 D (.lst []) D = some (.lst ((dueN z z2 a many w.length 0).map V.int)) := upd_same
    have nDH := Same.free k1 nD
    have hM2 := kD _ _ hM
    have hxs2 : All2 (fun v b => StL (upd H1 D (.lst [])) v z b ∧ v ≠ .ref D) xs (lvAll z) := All2.imp (fun v b r => ⟨StL.same r.1 kD, fun e => by
      obtain ⟨⟨c, ts, e', hc, _⟩, _⟩ := r
      rw [e] at e'
      cases e'
      rw [nD] at hc
      cases hc⟩) hxs
    have k2 := k1.trans kD
    revert hD hM2 hxs2 k2
    generalize upd H1 D (.lst []) = H2
    intro hD hM2 hxs2 k2
    refine ⟨.str z2, rfl, z2, rfl, hz2, le, fun N ys H3 nN hN hys ly k3 => ?_⟩
    have k23 := k2.trans k3
    have hD3 := k3 _ _ hD
    have hM3 := k3 _ _ hM2
    have hxs3 := All2.imp (fun v b r => And.intro (StL.same r.1 k3) r.2) hxs2
    have nND : N ≠ D := fun e => by rw [e, hD] at nN; cases nN
    have nMD : M ≠ D := fun e => by rw [e] at hM; rw [hM] at nD; cases nD
    have lenx := All2.len hxs3
    have leny := All2.len hys
    have off : ∀ {H H' : Hp} {v : V} {u : Str} {b : List Nat}, StL H v u b → (∀ c o, c ≠ D → H c = some o → H' c = some o) → (∃ zs, H D = some (.lst zs) ∧ v ≠ .ref D) → StL H' v u b := fun {H H' v u b} r k ⟨zs, hz, nv⟩ => by
      obtain ⟨c, ts, rfl, hc, lt, ht⟩ := r
      exact ⟨c, ts, rfl, k _ _ (fun e => nv (by rw [e])) hc, lt, fun j t e => k _ _ (fun w => by have := ht j t e; rw [w, hz] at this; cases this) (ht j t e)⟩
    refine ⟨N, ys, rfl, sq_of hN, for_it (walk_enum (K := K) (a := N) (xs := ys)) (fun i σ H' => ∃ u7 u8 u9 u10 u11 : Option V, σ = [some (.str z), some (iN a), some (iN many), some (.str w), some (.str z2), some (.ref M), some (.ref D), u7, u8, u9, u10, u11] ∧ (∀ c o, c ≠ D → H3 c = some o → H' c = some o) ∧ H' D = some (.lst ((dueN z z2 a many w.length i).map V.int))) ⟨_, _, _, _, _, rfl, fun _ _ _ h => h, hD3⟩ (fun i σ H' _ ⟨_, _, _, _, _, _, w, _⟩ => sq_of (w _ _ nND hN)) ?_ ?_⟩
    · rintro i v σ H4 H5 hi ⟨u7, u8, u9, u10, u11, rfl, k4, hD4⟩ ⟨T', x1, x2, rfl, nT, rfl, e1, e2⟩
      cases e1
      have e2 : ys[i]? = some x2 := e2
      obtain ⟨b2, hb2, w2⟩ := All2.at hys e2
      have li : i < (lvAll z2).length := (List.getElem?_eq_some_iff.mp hb2).1
      have eb2 : b2 = lvO z2 i := Option.some.inj (hb2.symm.trans (lvO_at li))
      subst eb2
      have B1 := lvO_begs z i
      have B2 := lvO_begs z2 i
      have f1 := B1.few
      have f2 := B2.few
      have kT : Same H4 (upd H4 T' (.tup [.int (i : Nat), x2])) := Same.new nT
      have hD5 := kT _ _ hD4
      have k5 : ∀ c o, c ≠ D → H3 c = some o → upd H4 T' (.tup [.int (i : Nat), x2]) c = some o := fun c o n h => kT _ _ (k4 c o n h)
      have nx2 : x2 ≠ .ref D := fun e => by
        obtain ⟨c, e', hc⟩ := w2.2
        rw [e] at e'
        cases e'
        rw [hD] at hc
        cases hc
      have w5 := off w2.1 k5 ⟨_, hD3, nx2⟩
      have hT : upd H4 T' (.tup [.int (i : Nat), x2]) T' = some (.tup [.int (i : Nat), x2]) := upd_same
      revert w5 hD5 k5 hT
      generalize upd H4 T' (.tup [.int (i : Nat), x2]) = H5
      intro hD5 k5 w5 hT
      refine ⟨T', _, rfl, SqT.of hT, rfl, _, _, rfl, _, _, rfl, rfl, ?_⟩
      refine (?_ : ∀ Q : V → Hp → Prop, (∀ v H', Same H5 H' → StL H' v z (lvO z i) → v ≠ .ref D → Q v H') → tIf _ _ _ _ H5 Q) _ fun v H6 k6 hv nv => ?_
      · intro Q hQ
        refine ⟨_, rfl, .ref M, rfl, M, _, rfl, .inl (sq_of (k5 _ _ nMD hM3)), _, _, rfl, rfl, _, rfl, ite2 (fun c => ?_) (fun c => ?_)⟩
        · have c' : i < (lvAll z).length := by
            have := of_decide_eq_true c
            rw [← lenx]
            omega
          have lx' : i < xs.length := by omega
          have ex : xs[i]? = some xs[i] := List.getElem?_eq_getElem lx'
          obtain ⟨b, hb, r⟩ := All2.at hxs3 ex
          have eb : b = lvO z i := Option.some.inj (hb.symm.trans (lvO_at c'))
          subst eb
          refine ⟨.ref M, rfl, _, rfl, M, _, _, _, rfl, rfl, sq_of (k5 _ _ nMD hM3), atI_nat ex, hQ _ _ (Same.refl _) (off r.1 k5 ⟨_, hD3, r.2⟩) r.2⟩
        · have c' : ¬ i < (lvAll z).length := fun w => c (decide_eq_true (by rw [lenx]; omega))
          rw [lvO_no c'] at hQ
          refine ⟨by show 0 ≤ sizeLine; decide, fun o no => ?_⟩
          exact hQ _ _ (Same.new no) ⟨o, [], rfl, upd_same, rfl, fun k t e => by simp at e⟩ fun e => by cases e; rw [hD5] at no; cases no
      have hD6 := k6 _ _ hD5
      have k36 : ∀ c o, c ≠ D → H3 c = some o → H6 c = some o := fun c o n h => k6 _ _ (k5 c o n h)
      have w6 := w5.same k6
      refine ⟨v, rfl, iN a, rfl, iN a, rfl, iN many, rfl, _, _, rfl, rfl, .str w, rfl, w, rfl, len5 (by omega), iN many, rfl, _, _, rfl, rfl, ?_⟩
      refine ⟨v, z, lvO z i, a, a + many, (w.length : Int) - (many : Int), rfl, hv, by omega, fun d kvs H7 nd hd hp k7 => ?_⟩
      have hD7 := k7 _ _ hD6
      have w7 := w6.same k7
      obtain ⟨c, ts, rfl, hc, lts, hts⟩ := w7
      refine ⟨.ref D, rfl, .inl ⟨rfl, _, sq_of hD7⟩, .ref c, rfl, c, rfl, ⟨_, sq_of hc⟩, fun F nF => ?_⟩
      have F0 := nF
      let p : Nat → Bool := fun k => !(valV kvs (kk2 ((lvO z2 i).getD k 0 : Nat) (endB z2 (lvO z2 i) k : Nat))).isSome
      have hnew : newN z (lvO z i) a many w.length z2 (lvO z2 i) = ((List.range (lvO z2 i).length).filter p).length := newN_eq fun k hk => by
        have e := (hp (blk z2 (lvO z2 i) k).1 (blk z2 (lvO z2 i) k).2).trans (kept_iff B1)
        show (!(valV kvs (kk2 (blk z2 (lvO z2 i) k).1 (blk z2 (lvO z2 i) k).2)).isSome) = true ↔ _
        rw [← e]
        cases (valV kvs (kk2 (blk z2 (lvO z2 i) k).1 (blk z2 (lvO z2 i) k).2)).isSome <;> simp
      refine lc_list (xs := ts.map V.ref) (fun j H8 => Same H7 H8 ∧ ∃ acc, H8 F = some (.lst acc) ∧ acc.length = ((List.range j).filter p).length) ⟨Same.new nF, [], upd_same, rfl⟩ (fun j H8 _ r => sq_of (r.1 _ _ hc)) ?_ ?_
      · rintro j x H8 hx ⟨k8, acc, hF8, lacc⟩
        rw [List.getElem?_map] at hx
        obtain ⟨t, ht, rfl⟩ := Option.map_eq_some_iff.mp hx
        have lj := (List.getElem?_eq_some_iff.mp ht).1
        have e8 := k8 _ _ (hts j t ht)
        have lf := List.length_filter_le p (List.range j)
        rw [List.length_range] at lf
        have er : ∀ c : Bool, c = p j → ((List.range (j + 1)).filter p).length = ((List.range j).filter p).length + (if c = true then 1 else 0) := fun c hc => by
          subst hc
          rw [List.range_succ, List.filter_append, List.length_append, List.filter_cons]
          split <;> rfl
        refine ⟨rfl, .ref t, rfl, .ref d, rfl, d, _, rfl, DGet.t (k := kk2 ((lvO z2 i).getD j 0 : Nat) (endB z2 (lvO z2 i) j : Nat)) (k8 _ _ hd) e8, _, rfl, ite2 (fun c => ?_) (fun c => ?_)⟩
        · refine ⟨.ref t, rfl, acc, hF8, by show _ < 16777216; omega, sameAt k8 F0, _, upd_same, ?_⟩
          rw [List.length_append, er true c.symm, lacc]
          rfl
        · refine ⟨k8, acc, hF8, ?_⟩
          rw [er false (by cases h : p j with | false => rfl | true => exact absurd h c), lacc]
          rfl
      · rintro H8 ⟨k8, acc, hF8, lacc⟩
        rw [List.length_map, lts, ← hnew] at lacc
        have hD8 := k8 _ _ hD7
        refine ⟨F, _, rfl, .inl (sq_of hF8), D, _, _, rfl, rfl, hD8, ?_, ?_⟩
        · rw [List.length_map]
          unfold dueN
          rw [List.length_map, List.length_range]
          show _ < 16777216
          omega
        refine ⟨_, _, _, _, _, rfl, fun c o n h => by rw [upd_ne n]; exact k8 _ _ (k7 _ _ (k36 c o n h)), ?_⟩
        rw [upd_same, lacc]
        unfold dueN
        rw [List.range_succ, List.map_append, List.map_append]
        rfl
    rintro σ H4 ⟨u7, u8, u9, u10, u11, rfl, k4, hD4⟩
    rw [leny] at hD4
    exact ⟨_, rfl, q D H4 nDH hD4 fun c o e => k4 _ _ (fun w => by rw [w, nDH] at e; cases e) (k23 _ _ e)⟩
end
end LawK
set_option maxHeartbeats 4000000
namespace LawK
open PySem PySem.Spec PyProof.Rows L2 Ev

/-- all signs are the same one -/
def AllA (z : Str) : Prop := ∀ c ∈ z.cps.toList, c = 97
theorem mul_all (n : Int) : AllA (Txt.mul (Str.ofString "a") n) := by
  unfold Txt.mul
  intro c hc
  by_cases h1 : n < 1
  · rw [if_pos h1] at hc
    cases hc
  · rw [if_neg h1] at hc
    have one : ∀ c ∈ (Str.ofString "a").cps.toList, c = 97 := by decide +kernel
    by_cases h2 : (n == 1 || (Str.ofString "a").length == 0) = true
    · rw [if_pos h2] at hc
      exact one c hc
    · rw [if_neg h2] at hc
      obtain ⟨_, r2⟩ := rep_all (Str.ofString "a").cps n.toNat #[]
      rcases r2 c hc with q | q
      · cases q
      · exact one c q
theorem all_cod {z : Str} (h : AllA z) : codZ z = List.replicate z.length 97 := by
  rw [len_S]
  exact List.eq_replicate_iff.mpr ⟨rfl, h⟩
theorem all_name {z : Str} (h : AllA z) {k : Nat} (hk : k < z.length) : cutZ z k (k + 1) = Str.ofString "a" := by
  apply codZ_inj
  rw [cut_cod (by omega), all_cod h, List.drop_replicate, List.take_replicate, show min (k + 1 - k) (z.length - k) = 1 by omega]
  decide +kernel
theorem all_nm {z : Str} (h : AllA z) {k : Nat} (hk : k < z.length) : nmA (namesAt z (List.range z.length)) k = Str.ofString "a" := by
  have e := nmE (z := z) (b := List.range z.length) (k := k) (by rw [List.length_range]; exact hk)
  rw [e, range_getD hk]
  have : endB z (List.range z.length) k = k + 1 := by
    unfold endB
    rw [List.length_range]
    split
    · rename_i g
      exact range_getD g
    · omega
  rw [this]
  exact all_name h hk
theorem all_next {z : Str} (h : AllA z) (hz : 1 < z.length) : nextB z (List.range z.length) = [0] := by
  have ln : (namesAt z (List.range z.length)).length = z.length := by rw [namesAt_len, List.length_range]
  have new : ∀ k, k < z.length → newB (namesAt z (List.range z.length)) k = decide (k = 0) := fun k hk => by
    unfold newB
    rw [all_nm h hk, all_nm h (by omega)]
    rw [decide_eq_true (rfl : Str.ofString "a" = Str.ofString "a"), Bool.not_true, Bool.or_false]
  have al : ∀ k, k < z.length → alB (namesAt z (List.range z.length)) k = false := fun k hk => by
    unfold alB
    rw [new k hk, ln]
    by_cases g : k = 0
    · subst g
      rw [new 1 hz, decide_eq_false (show ¬ 0 + 1 = z.length by omega)]
      rfl
    · rw [decide_eq_false g, Bool.false_and]
  have eg : groupsN (namesAt z (List.range z.length)) = [0] := by
    unfold groupsN groupsTo
    rw [ln]
    have : (List.range z.length).filter (begB (namesAt z (List.range z.length))) = (List.range z.length).filter fun k => decide (k = 0) := List.filter_congr fun k hk => by
      have hk := List.mem_range.mp hk
      unfold begB
      rw [if_neg (by rw [al k hk]; decide), new k hk]
    rw [this]
    obtain ⟨m, e⟩ : ∃ m, z.length = m + 1 := ⟨z.length - 1, by omega⟩
    rw [e, List.range_succ_eq_map, List.filter_cons_of_pos (by decide), List.filter_eq_nil_iff.mpr]
    intro x hx
    obtain ⟨y, _, rfl⟩ := List.mem_map.mp hx
    simp
  unfold nextB
  rw [eg]
  show [(List.range z.length).getD 0 0] = [0]
  rw [range_getD (by omega)]
theorem few_all {z : Str} (h : AllA z) (hz : 1 < z.length) : ∃ ns : List Str, ns.length ≤ 4000 ∧ ∀ r ∈ lvAll z, ∀ y ∈ namesAt z r, y ∈ ns := by
  have e : lvAll z = [List.range z.length, [0]] := by
    unfold lvAll
    rw [lvs_go (by rw [List.length_range]; exact hz), all_next h hz, lvs_no (by decide)]
  refine ⟨[Str.ofString "a", cutZ z 0 z.length], by show 2 ≤ 4000; decide, fun r hr y hy => ?_⟩
  rw [e] at hr
  rcases List.mem_cons.mp hr with rfl | hr
  · obtain ⟨k, hk⟩ := List.getElem?_of_mem hy
    have lk := (List.getElem?_eq_some_iff.mp hk).1
    rw [namesAt_len, List.length_range] at lk
    have : nmA (namesAt z (List.range z.length)) k = y := by
      unfold nmA
      rw [List.getD_eq_getElem?_getD, hk]
      rfl
    rw [← this, all_nm h lk]
    exact List.mem_cons_self
  · rw [List.mem_singleton.mp hr] at hy
    have e1 : namesAt z [0] = [cutZ z 0 z.length] := rfl
    rw [e1] at hy
    exact List.mem_cons_of_mem _ hy
theorem few_short {z : Str} (hz : z.length ≤ 900) : ∃ ns : List Str, ns.length ≤ 4000 ∧ ∀ r ∈ lvAll z, ∀ y ∈ namesAt z r, y ∈ ns := by
  refine ⟨((lvAll z).map (namesAt z)).flatten, ?_, fun r hr y hy => List.mem_flatten.mpr ⟨_, List.mem_map.mpr ⟨r, hr, rfl⟩, hy⟩⟩
  have t : totN (lvAll z) ≤ 4 * z.length + 121 := tot_all z
  have e : ((lvAll z).map (namesAt z)).flatten.length = totN (lvAll z) := by
    unfold totN
    rw [List.length_flatten, List.map_map]
    congr 1
    exact List.map_congr_left fun r _ => namesAt_len z r
  omega
/-- a text that is drawn -/
def SomeT (x : V) : Prop := ∀ z, x = .str z → z.length ≤ 2001 ∧ (z.length ≤ 900 ∨ AllA z)
theorem SomeT.vs {x : V} (h : SomeT x) : Vs x := fun z e => Nat.le_trans (h z e).1 (by decide)
theorem SomeT.few {x : V} (h : SomeT x) : FewN x := fun z e _ => by
  obtain ⟨_, h2⟩ := h z e
  by_cases g : z.length ≤ 900
  · exact few_short g
  · exact few_all (h2.resolve_left g) (by omega)
def spSome : Sp := fun vs H Q _ => ∃ (p : Addr), vs = [.ref p] ∧ ∃ l, HandL H p l ∧ ∀ v k H', Kd H' v k → SomeT v → HandL H' p l → But p H H' → Q v H'
def toldS : Nat → Str → Str
  | 0, _ => Str.ofString "told"
  | 1, _ => Str.ofString "NoText"
  | _, s => s
def spToldL : Sp := fun vs H Q _ => ∃ x k, vs = [x] ∧ Kd H x k ∧ Vs x ∧ ∀ H', Same H H' → Q (.str (toldS (if textV x = true then 0 else 1) (Str.ofString ""))) H'
def spToldLot : Sp := fun vs H Q _ => ∃ x k, vs = [x] ∧ Kd H x k ∧ Vs x ∧ FewN x ∧ ∀ H', Same H H' → Q (.str (toldS (if textV x = true then 0 else 1) (Str.ofString ""))) H'
def spToldB : Sp := fun vs H Q _ => ∃ x y k j, vs = [x, y] ∧ Kd H x k ∧ Vs x ∧ Kd H y j ∧ ∀ H', Same H H' → Q (.str (toldS (levelR x y) (Str.ofString "NoLevel"))) H'
def spToldN : Sp := fun vs H Q _ => ∃ x a m s kx ka km ks, vs = [x, a, m, s] ∧ Kd H x kx ∧ Kd H a ka ∧ Kd H m km ∧ Kd H s ks ∧ Vs x ∧ (∀ z, s = .str z → z.length ≤ 2100) ∧ ∀ H', Same H H' → Q (.str (toldS (newR x a m s) (Str.ofString "NoNumber"))) H'
theorem levelR_lt (x y : V) : levelR x y = 0 ∨ levelR x y = 1 ∨ levelR x y = 2 := by
  unfold levelR
  split
  · split
    · exact .inl rfl
    · exact .inr (.inr rfl)
  · exact .inr (.inl rfl)
theorem newR_lt (x a m s : V) : newR x a m s = 0 ∨ newR x a m s = 1 ∨ newR x a m s = 2 := by
  unfold newR
  split
  · split
    · split
      · exact .inl rfl
      · exact .inr (.inl rfl)
    · exact .inr (.inr rfl)
  · exact .inr (.inl rfl)
section
variable {P : Program} {w : World} {K : PySem.W.Frag} {mg : Str → Option Value} {base : Heap}
variable {PE cN cL cM : Addr}
abbrev sIsText : Stmt := topS 45
theorem scIsText : FnScope ["thing"] ["thing"] (defScope sIsText) := ⟨rfl, rfl, rfl, by decide +kernel, rfl, by decide +kernel, by decide +kernel⟩
theorem ok_IsText {f : Addr} {fd : FuncData} (F : Fun K "_law_is_text" "_law_is_text" sIsText f fd)  {fAreSigns : Addr} {fdAreSigns : FuncData} (DAreSigns : Dk P w K mg base "_law_are_signs" sAreSigns ["thing"] 1 spSg fAreSigns fdAreSigns) (T : Glob mg) : FnOk P w K mg base CX0 2 f fd ["thing"] spTextK := by
  refine F.ok scIsText (fun vs H Q E h => ?_) (fun cdv A outer s H vs Q E hr h => ?_)
  · obtain ⟨x, k, rfl, _⟩ := h
    rfl
  · refine ⟨_, (pss_one (ps_ret (pe_and (pe_call DAreSigns.ok (hr.mono (by decide)) (by rfl) DAreSigns.g DAreSigns.F.kp DAreSigns.b .nil pass0 (pa_cons (pv 0) pa_nil)) (pe_one (pe_cmpR op_le (pe_callB call_len (by rfl) T.len PySem.boot_len (pa_cons (pv 0) pa_nil)) pe_int (nomark _)))))), ?_⟩
    obtain ⟨x, k, rfl, hk, hv, q⟩ := h
    refine ⟨x, rfl, x, k, rfl, hk, hv, _, rfl, ?_⟩
    cases x with
    | str z =>
      have lz := hv z rfl
      refine ite2 (fun c => ?_) (fun c => ?_)
      · refine ⟨.str z, rfl, .str z, z.length, rfl, ⟨len5 lz, rfl⟩, _, _, rfl, rfl, ?_⟩
        have q' : Q (.bl (sgB z && decide ((z.length : Int) ≤ 2000))) H := q
        rw [show sgB z = true from c, Bool.true_and] at q'
        exact q'
      · have c' : sgB z = false := by
          cases h : sgB z with
          | false => rfl
          | true => exact absurd h c
        have q' : Q (.bl (sgB z && decide ((z.length : Int) ≤ 2000))) H := q
        rw [c', Bool.false_and] at q'
        exact q'
    | _ => exact iteF q
abbrev sSomeText : Stmt := topS 46
theorem scSomeText : FnScope ["hand", "way"] ["hand"] (defScope sSomeText) := ⟨rfl, rfl, rfl, by decide +kernel, rfl, by decide +kernel, by decide +kernel⟩
theorem ok_SomeText {f : Addr} {fd : FuncData} (F : Fun K "_law_some_text" "_law_some_text" sSomeText f fd)  {fTake : Addr} {fdTake : FuncData} (DTake : Dk P w K mg base "_law_take" sTake ["hand", "many"] 1 spTake fTake fdTake) {fOdd : Addr} {fdOdd : FuncData} (DOdd : Dk P w K mg base "_law_odd" sOdd ["hand"] 2 spOdd fOdd fdOdd) {fAlphabet : Addr} {fdAlphabet : FuncData} (DAlphabet : Dk P w K mg base "_law_alphabet" sAlphabet ["hand"] 2 spAlpha fAlphabet fdAlphabet) {fText : Addr} {fdText : FuncData} (DText : Dk P w K mg base "_law_text" sText ["hand", "signs", "most"] 3 spText fText fdText) (T : Glob mg) : FnOk P w K mg base CX0 5 f fd ["hand"] spSome := by
  refine F.ok scSomeText (fun vs H Q E h => ?_) (fun cdv A outer s H vs Q E hr h => ?_)
  · obtain ⟨p, rfl, _⟩ := h
    rfl
  · refine ⟨_, (pss_cons (ps_set (i := 1) scSomeText.nd rfl (.inl rfl) (pe_call DTake.ok (hr.mono (by decide)) (by rfl) DTake.g DTake.F.kp DTake.b .nil pass0 (pa_cons (pv 0) (pa_cons pe_int pa_nil))))
      (pss_cons (ps_if (pt_cmpR op_eq (pv 1) pe_int (nomark _))
      (pss_one (ps_ret (pe_call DOdd.ok (hr.mono (by decide)) (by rfl) DOdd.g DOdd.F.kp DOdd.b .nil pass0 (pa_cons (pv 0) pa_nil))))
      pss_nil)
      (pss_cons (ps_if (pt_cmpR op_eq (pv 1) pe_int (nomark _))
      (pss_one (ps_ret (pe_op op_mulS pe_str (pe_op op_add pe_int (pe_call DTake.ok (hr.mono (by decide)) (by rfl) DTake.g DTake.F.kp DTake.b .nil pass0 (pa_cons (pv 0) (pa_cons pe_int pa_nil)))))))
      pss_nil)
      (pss_one (ps_ret (pe_call DText.ok (hr.mono (by decide)) (by rfl) DText.g DText.F.kp DText.b .nil pass0 (pa_cons (pv 0) (pa_cons (pe_call DAlphabet.ok (hr.mono (by decide)) (by rfl) DAlphabet.g DAlphabet.F.kp DAlphabet.b .nil pass0 (pa_cons (pv 0) pa_nil)) (pa_cons pe_int pa_nil))))))))), ?_⟩
    obtain ⟨p, rfl, l, h0, q⟩ := h
    refine ⟨.ref p, rfl, p, 7, rfl, by decide, by decide, l, h0, fun v H1 v0 v1 h1 b1 => ?_⟩
    refine ⟨.int v, rfl, rfl, _, rfl, ite2 (fun _ => ?_) (fun _ => ?_)⟩
    · refine ⟨.ref p, rfl, p, rfl, l, h1, fun x d H2 hd hs h2 b2 => ?_⟩
      obtain ⟨k, hk⟩ := hd.kd
      refine q x k H2 hk (fun z e => ?_) h2 (b1.trans b2)
      subst e
      cases hd with
      | str z =>
        have : z.length ≤ 100 := of_decide_eq_true (Bool.and_eq_true_iff.mp hs).1
        exact ⟨by omega, .inl (by omega)⟩
    dsimp only [tNext, tDrop]
    refine ⟨.int v, rfl, rfl, _, rfl, ite2 (fun _ => ?_) (fun _ => ?_)⟩
    · refine ⟨.ref p, rfl, p, 3, rfl, by decide, by decide, l, h1, fun w H2 w0 w1 h2 b2 => ?_⟩
      refine ⟨_, _, rfl, rfl, Str.ofString "a", _, rfl, rfl, by omega, by omega, by decide +kernel, ?_⟩
      have mf := (mul_facts (Str.ofString "a") (1999 + w)).1
      rw [show (Str.ofString "a").length = 1 by decide +kernel, Nat.one_mul] at mf
      exact q _ _ H2 (.str _) (fun z e => by cases e; exact ⟨by omega, .inr (mul_all _)⟩) h2 (b1.trans b2)
    dsimp only [tNext, tDrop]
    refine ⟨.ref p, rfl, .ref p, rfl, p, rfl, l, h1, fun z H2 sz z0 z1 h2 b2 => ?_⟩
    refine ⟨p, z, 12, rfl, sz, z0, z1, by decide, by decide, l, h2, fun y H3 sy ly h3 b3 => ?_⟩
    exact q _ _ H3 (.str y) (fun z e => by cases e; exact ⟨by omega, .inl (by omega)⟩) h3 ((b1.trans b2).trans b3)
abbrev sLevelsTold : Stmt := topS 47
theorem scLevelsTold : FnScope ["text"] ["text"] (defScope sLevelsTold) := ⟨rfl, rfl, rfl, by decide +kernel, rfl, by decide +kernel, by decide +kernel⟩
theorem ok_LevelsTold {f fS : Addr} {fd fdS : FuncData} (F : Fun K "_law_levels_told" "_law_levels_told" sLevelsTold f fd) (EN : Cls0 P K mg PE "NoText" cN) 
    (FS : Fun K "levels" "levels" sRLevels fS fdS) (bS : Binds K fdS ["text"] []) (gS : mg "levels" = some (.ref fS)) (GS : FnOk P w K mg base (L2.CX P w) 6 fS fdS ["text"] (spRLevels cN)) (T : Glob mg) :
    FnOk P w K mg base CX0 7 f fd ["text"] spToldL := by
  refine F.ok scLevelsTold (fun vs H Q E h => ?_) (fun cdv A outer s H vs Q E hr h => ?_)
  · obtain ⟨x, k, rfl, _⟩ := h
    rfl
  · refine ⟨_, pss_one (ps_try_many (tb := fun W => tSeq (tDrop (tCallS (spRLevels cN) (fun σ => WE W σ) (tCons (tVar 0) tNil))) (tRet (tC (.str (Str.ofString "told"))))) (Wout := fun _ _ _ _ => False) rfl rfl takes0
        (fun W pn xe tk _ => pss_cons (ps_expr (pe_callS (E := fun σ => WE W σ) GS (hr.mono (by decide)) (by rfl) gS FS.kp bS (fun σ => passAt tk σ) (pa_cons (pv 0) pa_nil))) (pss_one (ps_ret pe_str)))
        (HdsOk.cons ⟨rfl, by decide, .inl EN.g⟩ (fun a oe cls d pn hz hf => pss_one (ps_ret pe_str)) HdsOk.nil)), ?_⟩
    obtain ⟨x, k, rfl, hk, hv, q⟩ := h
    refine ⟨x, rfl, x, k, rfl, hk, hv, (fun e v H' k => ?_), fun e H' k => ?_⟩
    · have q' := q H' k
      rw [if_pos e] at q'
      exact q'
    · have q' := q H' k
      rw [if_neg (by rw [e]; decide)] at q'
      exact ⟨true, (exm_at EN.er EN.er EN.ne).trans (congrArg some (decide_eq_true rfl)), (fun _ a na => q'), fun z => Bool.noConfusion z⟩
abbrev sLotTold : Stmt := topS 48
theorem scLotTold : FnScope ["text"] ["text"] (defScope sLotTold) := ⟨rfl, rfl, rfl, by decide +kernel, rfl, by decide +kernel, by decide +kernel⟩
theorem ok_LotTold {f fS : Addr} {fd fdS : FuncData} (F : Fun K "_law_lot_told" "_law_lot_told" sLotTold f fd) (EN : Cls0 P K mg PE "NoText" cN) 
    (FS : Fun K "block_lot" "block_lot" sRBlockLot fS fdS) (bS : Binds K fdS ["text"] []) (gS : mg "block_lot" = some (.ref fS)) (GS : FnOk P w K mg base (L2.CX P w) 6 fS fdS ["text"] (spRLot cN)) (T : Glob mg) :
    FnOk P w K mg base CX0 7 f fd ["text"] spToldLot := by
  refine F.ok scLotTold (fun vs H Q E h => ?_) (fun cdv A outer s H vs Q E hr h => ?_)
  · obtain ⟨x, k, rfl, _⟩ := h
    rfl
  · refine ⟨_, pss_one (ps_try_many (tb := fun W => tSeq (tDrop (tCallS (spRLot cN) (fun σ => WE W σ) (tCons (tVar 0) tNil))) (tRet (tC (.str (Str.ofString "told"))))) (Wout := fun _ _ _ _ => False) rfl rfl takes0
        (fun W pn xe tk _ => pss_cons (ps_expr (pe_callS (E := fun σ => WE W σ) GS (hr.mono (by decide)) (by rfl) gS FS.kp bS (fun σ => passAt tk σ) (pa_cons (pv 0) pa_nil))) (pss_one (ps_ret pe_str)))
        (HdsOk.cons ⟨rfl, by decide, .inl EN.g⟩ (fun a oe cls d pn hz hf => pss_one (ps_ret pe_str)) HdsOk.nil)), ?_⟩
    obtain ⟨x, k, rfl, hk, hv, hf, q⟩ := h
    refine ⟨x, rfl, x, k, rfl, hk, hv, hf, (fun e v H' k => ?_), fun e H' k => ?_⟩
    · have q' := q H' k
      rw [if_pos e] at q'
      exact q'
    · have q' := q H' k
      rw [if_neg (by rw [e]; decide)] at q'
      exact ⟨true, (exm_at EN.er EN.er EN.ne).trans (congrArg some (decide_eq_true rfl)), (fun _ a na => q'), fun z => Bool.noConfusion z⟩
abbrev sBlocksTold : Stmt := topS 49
theorem scBlocksTold : FnScope ["text", "level"] ["text", "level"] (defScope sBlocksTold) := ⟨rfl, rfl, rfl, by decide +kernel, rfl, by decide +kernel, by decide +kernel⟩
theorem ok_BlocksTold {f fS : Addr} {fd fdS : FuncData} (F : Fun K "_law_blocks_told" "_law_blocks_told" sBlocksTold f fd) (EN : Cls0 P K mg PE "NoText" cN) (EL : Cls0 P K mg PE "NoLevel" cL) (ne : cN ≠ cL)
    (FS : Fun K "blocks" "blocks" sRBlocks fS fdS) (bS : Binds K fdS ["text", "level"] []) (gS : mg "blocks" = some (.ref fS)) (GS : FnOk P w K mg base (L2.CX P w) 6 fS fdS ["text", "level"] (spRBlocks cN cL)) (T : Glob mg) :
    FnOk P w K mg base CX0 7 f fd ["text", "level"] spToldB := by
  refine F.ok scBlocksTold (fun vs H Q E h => ?_) (fun cdv A outer s H vs Q E hr h => ?_)
  · obtain ⟨x, y, k, j, rfl, _⟩ := h
    rfl
  · refine ⟨_, pss_one (ps_try_many (tb := fun W => tSeq (tDrop (tCallS (spRBlocks cN cL) (fun σ => WE W σ) (tCons (tVar 0) (tCons (tVar 1) tNil)))) (tRet (tC (.str (Str.ofString "told"))))) (Wout := fun _ _ _ _ => False) rfl rfl takes0
        (fun W pn xe tk _ => pss_cons (ps_expr (pe_callS (E := fun σ => WE W σ) GS (hr.mono (by decide)) (by rfl) gS FS.kp bS (fun σ => passAt tk σ) (pa_cons (pv 0) (pa_cons (pv 1) pa_nil)))) (pss_one (ps_ret pe_str)))
        (HdsOk.cons ⟨rfl, by decide, .inl EN.g⟩ (fun a oe cls d pn hz hf => pss_one (ps_ret pe_str)) (HdsOk.cons ⟨rfl, by decide, .inl EL.g⟩ (fun a oe cls d pn hz hf => pss_one (ps_ret pe_str)) HdsOk.nil))), ?_⟩
    obtain ⟨x, y, k, j, rfl, hk, hv, hy, q⟩ := h
    refine ⟨x, rfl, y, rfl, x, y, k, j, rfl, hk, hv, hy, (fun e v H' k => ?_), (fun e H' k => ?_), fun e H' k => ?_⟩
    · have q' := q H' k
      rw [e] at q'
      exact q'
    · have q' := q H' k
      rw [e] at q'
      exact ⟨true, (exm_at EN.er EN.er EN.ne).trans (congrArg some (decide_eq_true rfl)), (fun _ a na => q'), fun z => Bool.noConfusion z⟩
    · have q' := q H' k
      rw [e] at q'
      exact ⟨false, (exm_at EN.er EL.er EN.ne).trans (congrArg some (decide_eq_false (Ne.symm ne))), (fun z => Bool.noConfusion z), fun _ => ⟨true, (exm_at EL.er EL.er EL.ne).trans (congrArg some (decide_eq_true rfl)), (fun _ a na => q'), fun z => Bool.noConfusion z⟩⟩
abbrev sNewTold : Stmt := topS 50
theorem scNewTold : FnScope ["text", "at", "many", "signs"] ["text", "at", "many", "signs"] (defScope sNewTold) := ⟨rfl, rfl, rfl, by decide +kernel, rfl, by decide +kernel, by decide +kernel⟩
theorem ok_NewTold {f fS : Addr} {fd fdS : FuncData} (F : Fun K "_law_new_told" "_law_new_told" sNewTold f fd) (EN : Cls0 P K mg PE "NoText" cN) (EM : Cls0 P K mg PE "NoNumber" cM) (ne : cN ≠ cM)
    (FS : Fun K "new_blocks" "new_blocks" sRNew fS fdS) (bS : Binds K fdS ["text", "at", "many", "signs"] []) (gS : mg "new_blocks" = some (.ref fS)) (GS : FnOk P w K mg base (L2.CX P w) 7 fS fdS ["text", "at", "many", "signs"] (spRNew cN cM)) (T : Glob mg) :
    FnOk P w K mg base CX0 8 f fd ["text", "at", "many", "signs"] spToldN := by
  refine F.ok scNewTold (fun vs H Q E h => ?_) (fun cdv A outer s H vs Q E hr h => ?_)
  · obtain ⟨x, a0, m0, s0, kx, ka, km, ks, rfl, _⟩ := h
    rfl
  · refine ⟨_, pss_one (ps_try_many (tb := fun W => tSeq (tDrop (tCallS (spRNew cN cM) (fun σ => WE W σ) (tCons (tVar 0) (tCons (tVar 1) (tCons (tVar 2) (tCons (tVar 3) tNil)))))) (tRet (tC (.str (Str.ofString "told"))))) (Wout := fun _ _ _ _ => False) rfl rfl takes0
        (fun W pn xe tk _ => pss_cons (ps_expr (pe_callS (E := fun σ => WE W σ) GS (hr.mono (by decide)) (by rfl) gS FS.kp bS (fun σ => passAt tk σ) (pa_cons (pv 0) (pa_cons (pv 1) (pa_cons (pv 2) (pa_cons (pv 3) pa_nil)))))) (pss_one (ps_ret pe_str)))
        (HdsOk.cons ⟨rfl, by decide, .inl EN.g⟩ (fun a oe cls d pn hz hf => pss_one (ps_ret pe_str)) (HdsOk.cons ⟨rfl, by decide, .inl EM.g⟩ (fun a oe cls d pn hz hf => pss_one (ps_ret pe_str)) HdsOk.nil))), ?_⟩
    obtain ⟨x, a0, m0, s0, kx, ka, km, ks, rfl, hx, ha, hm, hs, vx, vs, q⟩ := h
    refine ⟨x, rfl, a0, rfl, m0, rfl, s0, rfl, x, a0, m0, s0, kx, ka, km, ks, rfl, hx, ha, hm, hs, vx, vs, (fun e v H' k => ?_), (fun e H' k => ?_), fun e H' k => ?_⟩
    · have q' := q H' k
      rw [e] at q'
      exact q'
    · have q' := q H' k
      rw [e] at q'
      exact ⟨true, (exm_at EN.er EN.er EN.ne).trans (congrArg some (decide_eq_true rfl)), (fun _ a na => q'), fun z => Bool.noConfusion z⟩
    · have q' := q H' k
      rw [e] at q'
      exact ⟨false, (exm_at EN.er EM.er EN.ne).trans (congrArg some (decide_eq_false (Ne.symm ne))), (fun z => Bool.noConfusion z), fun _ => ⟨true, (exm_at EM.er EM.er EM.ne).trans (congrArg some (decide_eq_true rfl)), (fun _ a na => q'), fun z => Bool.noConfusion z⟩⟩
end
end LawK
set_option maxHeartbeats 4000000
/-! The law's own def, called by the caller of claims alone: what runs around it is known (no repr is under way). -/
namespace Ev
open PySem PySem.Spec PyProof.Rows L2
/-- the def at f keeps sp, called where A runs around it -/
structure FnAt (A : Around) (P : Program) (w : World) (K : PySem.W.Frag) (mg : Str → Option Value) (base : Heap) (CX : CXT) (f : Addr) (fd : FuncData) (ps : List Str) (sp : Sp) : Prop where
  len : ∀ vs H Q E, sp vs H Q E → vs.length = ps.length
  run : ∀ (outer : List Env) (s : Shared) (H : Hp) (args : Args) (us : List Value) (vs : List V) (Q : VK) (E : XK), Env0 P w K mg base A outer s H → BindsTo s fd args (ps.zip us) → Vals vs us → sp vs H Q E →
    codeAny (model P w) A (.call (.ref f) args) (CR CX outer P w H s Q E) s
section
variable {A : Around} {CX : CXT} {P : Program} {w : World} {K : PySem.W.Frag} {mg : Str → Option Value} {base : Heap} {k : Nat}
theorem fun_at {x qual : Str} {st : Stmt} {f : Addr} {fd : FuncData} {N ps : List Str} {sp : Sp} (F : Fun K x qual st f fd) (S : FnScope N ps (defScope st)) (hr : Room (k + 1) A) (len : ∀ vs H Q E, sp vs H Q E → vs.length = ps.length)
    (hbody : ∀ (cdv : Value) (outer : List Env) (s : Shared) (H : Hp) (vs : List V) (Q : VK) (E : XK), Room k (A.deeper (envOfC qual (defScope st) s.heap.objs.size f cdv)) → sp vs H Q E →
      ∃ t, PSs (cxOf CX P w K mg base N qual (defScope st) f cdv A outer s H E).nox (defBody st) t ∧ t { nx := fun _ H' => Q .non H', rt := Q } (start N vs) H) : FnAt A P w K mg base CX f fd ps sp := by
  obtain ⟨oc, od, kV, doc, pm, an, cdv, ct, osl, rfl, lk, hcd⟩ := F.ex
  refine ⟨len, fun outer s H args us vs Q E e0 hb r hsp => ?_⟩
  have lim : s.heap.NoLimit := e0.mod.nolimit.keeps fun b o e => (e0.bs b o e).1
  have KX : K.In s.heap := e0.mod.kin.keeps fun b o e => (e0.bs b o e).1
  have kinds : ∀ y ∈ ps.zip us, (defScope st).names.lookup y.1 = some .local ∨ ((defScope st).names.lookup y.1 = some .cell ∧ ((cellsFrom (s.heap.objs.size + 1) (defScope st).names []).lookup y.1).isSome = true) := by
    rintro ⟨n, v⟩ hy
    exact (S.par n (List.of_mem_zip hy).1).imp id fun q => ⟨q, PySem.W.cellsFrom_some _ _ _ (.inl q)⟩
  refine codeAny_call_function hr.depth (KX _ _ lk) rfl S.co S.gen rfl (PySem.W.codeRec_of KX hcd) (hb _ _ _ _ (wpAny_newFunctionEnv_cells S.kind kinds fun env he s1 x => ?_))
  subst he
  obtain ⟨t, ht, hq⟩ := hbody cdv outer s H vs Q E (hr.deeper _) hsp
  have I := inv_start (CX := CX) (P := P) (w := w) (mg := mg) (base := base) (E := E) S hr.hd e0 (len _ _ _ _ hsp) r x
  refine ⟨lim.keeps x.toInCall.keep, codeAny_func (wpAny_mono (ht.nox.run [] s1 (start N vs) H _ I hq) (fun fl s' hs => ?_) fun e s' hs => hs)⟩
  cases fl with
  | ret u =>
    obtain ⟨v, σ', H', J, rv, q⟩ := hs
    exact ⟨v, H', J.os, J.bare, J.base, J.hok, rv, q⟩
  | next =>
    obtain ⟨σ', H', J, q⟩ := hs
    exact ⟨V.non, H', J.os, J.bare, J.base, J.hok, rfl, q⟩
  | brk => exact hs.elim fun _ z => z.elim fun _ y => y.2.elim
  | cont => exact hs.elim fun _ z => z.elim fun _ y => y.2.elim
end
section
variable {P : Program} {w : World} {K : PySem.W.Frag} {mg mb : Str → Option Value} {fa a : Addr} {fd : FuncData} {x : Str} {sp : Sp} {s₁ : Shared} {vs : List Value} {ns : List Int}
/-- from one abstract heap: nothing is tracked but, perhaps, the script -/
theorem law_at0 {H : Hp} (KX : K.In s₁.heap) (hns : s₁.heap.Ns mainGlobals mg) (hb : s₁.heap.Ns builtinsNs mb) (hbb : ∀ y : Str, y ≠ "__name__" → mb y = bootBuiltins y) (hlim : s₁.heap.NoLimit) (hg : s₁.gens = #[])
    (ha : s₁.heap.get? a = some { cls := .type "list", data := .seq vs.toArray }) (F : ∀ base : Heap, K.In base → base.Ns mainGlobals mg → FnAt callerA P w K mg base CX0 fa fd [x] sp)
    (hbind : ∀ (s : Shared) (u : Value), BindsTo s fd ⟨[u], []⟩ [(x, u)]) (hO : Only H) (hok : HOk P w H s₁.heap) (hA : ∀ b, H b ≠ none → b = a) (hK : H a ≠ none → K.lookup a = none)
    (hsp : sp [.ref a] H (fun v _ => v = .bl true) fun _ _ _ => False) :
    codeAny (model P w) callerA (.call (.ref fa) ⟨[.ref a], []⟩) (fun r s' => r = .ok (.ret (.bool true)) ∧ OldK s₁.heap s'.heap ∧ s'.os = s₁.os ∧ AllBare s'.gens) s₁ := by
  have off : ∀ {b : Addr} {o : Obj}, s₁.heap.get? b = some o → o ≠ { cls := .type "list", data := .seq vs.toArray } → H b = none := fun {b o} e n => by
    refine Classical.byContradiction fun z => n ?_
    have eb := hA b z
    rw [eb, ha] at e
    exact (Option.some.inj e).symm
  have nsK : ∀ {b : Addr} {m : Str → Option Value}, s₁.heap.Ns b m → (hidT s₁.heap H).Ns b m := fun {b m} ⟨o, es, ep, e, d, r⟩ => ⟨o, es, ep, hidT_get e (off e fun z => by rw [z] at d; cases d), d, r⟩
  have hKb : K.In (hidT s₁.heap H) := fun b o e => hidT_get (KX b o e) (Classical.byContradiction fun z => by
    have eb := hA b z
    rw [eb] at e z
    rw [hK z] at e
    cases e)
  have hM : Mod K mg (hidT s₁.heap H) := ⟨hKb, nsK hns, ⟨mb, nsK hb, hbb⟩, hlim.elim fun mc z => ⟨mc, nsK z.1, z.2⟩⟩
  have e0 : Env0 P w K mg (hidT s₁.heap H) callerA [] s₁ H := ⟨rfl, hM, fun b o e => of_hidT e, Nat.le_of_eq (hidT_size _ _), trivial, fun b hb => absurd (show b ∈ ([] : List Addr) from hb) (by simp), hok, .of_eq hg⟩
  refine codeAny_mono ((F _ hKb (nsK hns)).run [] s₁ H ⟨[.ref a], []⟩ [.ref a] [.ref a] _ _ e0 (hbind s₁ (.ref a)) (.cons rfl .nil) hsp) fun r s' h => ?_
  rcases r with e | fl
  · exact False.elim h
  cases fl with
  | next => exact False.elim h
  | brk => exact False.elim h
  | cont => exact False.elim h
  | ret u =>
    obtain ⟨v, H', os, bare, un, hok', r', rfl⟩ := h
    obtain rfl : u = Value.bool true := r'
    refine ⟨rfl, OldK.of_keep fun b o e => ?_, os, bare⟩
    rcases hO b with z | ⟨ob, xs, z⟩
    · exact un.keep b o e z (fun y => absurd (show b ∈ ([] : List Addr) from y) (by simp)) (by simp)
    · have e1 := (hok b _ z).1
      rw [e] at e1
      cases e1
      exact (hok' b _ (un.frzs b _ _ z)).1
theorem law_at (KX : K.In s₁.heap) (hns : s₁.heap.Ns mainGlobals mg) (hb : s₁.heap.Ns builtinsNs mb) (hbb : ∀ y : Str, y ≠ "__name__" → mb y = bootBuiltins y) (hlim : s₁.heap.NoLimit) (hg : s₁.gens = #[])
    (ha : s₁.heap.get? a = some { cls := .type "list", data := .seq vs.toArray }) (hi : IntsAre vs ns) (hl : ns.length ≤ sizeLine)
    (F : ∀ base : Heap, K.In base → base.Ns mainGlobals mg → FnAt callerA P w K mg base CX0 fa fd [x] sp) (hbind : ∀ (s : Shared) (u : Value), BindsTo s fd ⟨[u], []⟩ [(x, u)])
    (hsp : ∀ H : Hp, Only H → SqL K H a (ns.map V.int) → sp [.ref a] H (fun v _ => v = .bl true) fun _ _ _ => False) :
    codeAny (model P w) callerA (.call (.ref fa) ⟨[.ref a], []⟩) (fun r s' => r = .ok (.ret (.bool true)) ∧ OldK s₁.heap s'.heap ∧ s'.os = s₁.os ∧ AllBare s'.gens) s₁ := by
  have rv := vals_ints hi
  cases hk : K.lookup a with
  | some o =>
    have e := KX a o hk
    rw [ha] at e
    cases e
    have hO : Only (fun _ => none) := fun _ => .inl rfl
    exact law_at0 KX hns hb hbb hlim hg ha F hbind hO (fun b u z => by cases z) (fun b z => absurd rfl z) (fun z => absurd rfl z)
      (hsp _ hO (.inr ⟨_, vs.toArray, _, hk, rfl, rfl, rfl, by rw [List.size_toArray, hi.length]; exact hl, by simpa using rv⟩))
  | none =>
    have same : upd (fun _ => none) a (.frz { cls := .type "list", data := .seq vs.toArray } (.lst (ns.map V.int))) a = some (.frz { cls := .type "list", data := .seq vs.toArray } (.lst (ns.map V.int))) := upd_same
    have hO : Only (upd (fun _ => none) a (.frz { cls := .type "list", data := .seq vs.toArray } (.lst (ns.map V.int)))) := fun b => by
      by_cases h : b = a
      · exact .inr ⟨_, _, by rw [h]; exact same⟩
      · exact .inl (by rw [upd_ne h])
    refine law_at0 KX hns hb hbb hlim hg ha F hbind hO (fun b u z => ?_) (fun b z => ?_) (fun _ => hk) (hsp _ hO (.inl (.inr ⟨_, same⟩)))
    · by_cases h : b = a
      · subst h
        rw [same] at z
        cases z
        exact ⟨ha, by rw [List.length_map]; exact hl, vs, _, rv, ha⟩
      · rw [upd_ne h] at z
        cases z
    · exact Classical.byContradiction fun h => z (by rw [upd_ne h])
end
/-- the end of a law's row -/
theorem walk_at {l : PySem.W.OpenLaw} {n : Nat} {q : Program} {loose : List Str} {XP : (Str → Option Value) → Heap → Prop} {YP : World → Heap → Prop} {d : DefRec} {K : Params → PySem.W.Frag} {sp : PySem.W.Frag → Sp} {x : Str}
    (hn : l.most = some n) (hn2 : n ≤ sizeLine) (hdf : d.params.defaults = []) (hY : ∀ (w : World) (h : Heap), YP w h → (K w.params).In h)
    (F : ∀ (w : World) (mg : Str → Option Value) (fa : Addr) (h : Heap), (K w.params).In h → h.Ns mainGlobals mg → mg d.name = some (.ref fa) →
      ∃ fd : FuncData, (∀ (s : Shared) (u : Value), BindsTo s fd ⟨[u], []⟩ [(x, u)]) ∧ ∀ base : Heap, (K w.params).In base → base.Ns mainGlobals mg → FnAt callerA l.prog w (K w.params) mg base CX0 fa fd [x] (sp (K w.params)))
    (hsp : ∀ (K : PySem.W.Frag) (H : Hp) (a : Addr) (ns : List Int), ns.length ≤ n → Only H → SqL K H a (ns.map V.int) → sp K [.ref a] H (fun v _ => v = .bl true) fun _ _ _ => False) :
    PySem.W.WalkO q loose XP YP l.row.toRowW d [] (fun f vs => PySem.call f vs) :=
  Att.attach_call hn hdf fun w s₀ s₁ mg mb fa o pm cd doc a vs ns G Y ho hd hcd hmg hobj hints hlen hg => by
    obtain ⟨fd, hb, hF⟩ := F w mg fa _ (hY w _ Y) G.T.g hmg
    exact law_at (hY w _ Y) G.T.g G.T.b G.T.builtins G.T.nolimit hg hobj hints (Nat.le_trans hlen hn2) hF hb fun H hO hS => hsp _ H a ns hlen hO hS
/-- C() of an own error class without an __init__ of its own -/
theorem pe_excP {X : Cx} {x : Str} {C : Addr} {p pos : Pos} {bmB : List Value} {B newId initId : String} (F : ExcBaseFacts B newId initId bmB) (q : PySem.W.excIn X.K C bmB newId = true) (kC : PySem.W.keepIn X.K (.ref C) = true) (hg : Gl X x) (hm : X.mg x = some (.ref C))
    (hdb : (x == ("__debug__" : Str)) = false := by decide) : PE X (.Call (.Name x p) [] [] pos) (fun _ H Q => ∀ a, H a = none → Q (.ref a) (upd H a (exo a C none))) := by
  refine ⟨fun pins s σ H Q I h => ?_⟩
  refine wpAny_Call_Name_kw (ld_glob I hg hm ?_ hdb)
  refine PySem.W.callWith_K0 I.kIn kC ?_
  show wpAny _ _ (call (.ref C) []) _ _ _
  obtain ⟨bm, N, nm, qn, bs, hdct, sn, sub, ab, col, dd, k0, k1, k2, k3, k5, mN, hC, hN, hni, T⟩ := exc_obj I.kIn q
  refine wpAny_call_exc_subT F T hC hN hni (fun h' a hm => ?_) (by show 0 ≤ sizeLine; decide)
  have hn : H a = none := I.hok.gone hm.new
  obtain ⟨t, ht, _, _⟩ := hm.there
  exact ⟨.ref a, upd H a (exo a C none), I.laidN hm.keeps hm.new hn (exo_ok ht), rfl, h a hn⟩
end Ev
set_option maxHeartbeats 4000000
namespace LawK
open PySem PySem.Spec PyProof.Rows L2 Ev

def spDueN : Sp := fun vs H Q _ => ∃ x a m s kx ka km ks, vs = [x, a, m, s] ∧ Kd H x kx ∧ Kd H a ka ∧ Kd H m km ∧ Kd H s ks ∧ Vs x ∧ (∀ z, s = .str z → z.length ≤ 2100) ∧ Q (.str (toldS (newR x a m s) (Str.ofString "NoNumber"))) H
theorem inV2_int {a b : Int} {x : V} (h : inV2 a b x = true) : ∃ i : Int, x = .int i ∧ a ≤ i ∧ i ≤ b := by
  cases x with
  | int i =>
    obtain ⟨h1, h2⟩ := Bool.and_eq_true_iff.mp (show (decide (a ≤ i) && decide (i ≤ b)) = true from h)
    exact ⟨i, rfl, of_decide_eq_true h1, of_decide_eq_true h2⟩
  | _ => exact Bool.noConfusion h
theorem kd_but {H H' : Hp} {p l : Addr} {v : V} {k : Kn} (h : Kd H v k) (hp : HandL H p l) (hp' : HandL H' p l) (b : But p H H') : Kd H' v k := by
  cases h with
  | non => exact .non
  | bl b => exact .bl b
  | int i => exact .int i
  | str z => exact .str z
  | @lst a xs e =>
    by_cases g : a = p
    · subst g
      obtain ⟨cells, i, r, s, n, h1, _⟩ := hp'
      exact .lst h1
    · exact .lst (b _ _ g e)
  | tup e => exact .tup (b _ _ (hand_ne hp e fun _ _ _ _ _ z => by cases z) e)
  | dic e => exact .dic (b _ _ (hand_ne hp e fun _ _ _ _ _ z => by cases z) e)
theorem lv_empty : (lvAll (Str.ofString "")).length = 1 := by
  unfold lvAll
  rw [lvs_no (by decide +kernel)]
  rfl
section
variable {P : Program} {w : World} {K : PySem.W.Frag} {mg : Str → Option Value} {base : Heap}
variable {PE cN cL cM : Addr}
abbrev sNewDue : Stmt := topS 51
theorem scNewDue : FnScope ["text", "at", "many", "signs"] ["text", "at", "many", "signs"] (defScope sNewDue) := ⟨rfl, rfl, rfl, by decide +kernel, rfl, by decide +kernel, by decide +kernel⟩
theorem ok_NewDue {f : Addr} {fd : FuncData} (F : Fun K "_law_new_due" "_law_new_due" sNewDue f fd)  {fIsWithin : Addr} {fdIsWithin : FuncData} (DIsWithin : Dk P w K mg base "_law_is_within" sIsWithin ["thing", "least", "most"] 2 spIn fIsWithin fdIsWithin) {fAreSigns : Addr} {fdAreSigns : FuncData} (DAreSigns : Dk P w K mg base "_law_are_signs" sAreSigns ["thing"] 1 spSg fAreSigns fdAreSigns) {fIsText : Addr} {fdIsText : FuncData} (DIsText : Dk P w K mg base "_law_is_text" sIsText ["thing"] 2 spTextK fIsText fdIsText) (T : Glob mg) : FnOk P w K mg base CX0 3 f fd ["text", "at", "many", "signs"] spDueN := by
  refine F.ok scNewDue (fun vs H Q E h => ?_) (fun cdv A outer s H vs Q E hr h => ?_)
  · obtain ⟨x, a0, m0, s0, kx, ka, km, ks, rfl, _⟩ := h
    rfl
  · refine ⟨_, (pss_cons (ps_if (pt_not (pt_val (pe_call DIsText.ok (hr.mono (by decide)) (by rfl) DIsText.g DIsText.F.kp DIsText.b .nil pass0 (pa_cons (pv 0) pa_nil))))
      (pss_one (ps_ret pe_str))
      pss_nil)
      (pss_cons (ps_if (PW.pt (pw_or (pt_not (pt_val (pe_call DIsWithin.ok (hr.mono (by decide)) (by rfl) DIsWithin.g DIsWithin.F.kp DIsWithin.b .nil pass0 (pa_cons (pv 1) (pa_cons pe_int (pa_cons (pe_callB call_len (by rfl) T.len PySem.boot_len (pa_cons (pv 0) pa_nil)) pa_nil)))))) (pw_or1 (pt_not (pt_val (pe_call DIsWithin.ok (hr.mono (by decide)) (by rfl) DIsWithin.g DIsWithin.F.kp DIsWithin.b .nil pass0 (pa_cons (pv 2) (pa_cons pe_int (pa_cons (pe_op op_sub (pe_callB call_len (by rfl) T.len PySem.boot_len (pa_cons (pv 0) pa_nil)) (pv 1)) pa_nil)))))))))
      (pss_one (ps_ret pe_str))
      pss_nil)
      (pss_cons (ps_if (PW.pt (pw_or (pt_not (pt_val (pe_call DAreSigns.ok (hr.mono (by decide)) (by rfl) DAreSigns.g DAreSigns.F.kp DAreSigns.b .nil pass0 (pa_cons (pv 3) pa_nil)))) (pw_or1 (pt_cmpR op_gt (pe_op op_add (pe_op op_sub (pe_callB call_len (by rfl) T.len PySem.boot_len (pa_cons (pv 0) pa_nil)) (pv 2)) (pe_callB call_len (by rfl) T.len PySem.boot_len (pa_cons (pv 3) pa_nil))) pe_int (nomark _)))))
      (pss_one (ps_ret pe_str))
      pss_nil)
      (pss_one (ps_ret pe_str))))), ?_⟩
    obtain ⟨x, a0, m0, s0, kx, ka, km, ks, rfl, hx, ha, hm, hs, vx, vs, q⟩ := h
    refine ⟨x, rfl, x, kx, rfl, hx, vx, _, rfl, ?_⟩
    cases tx : textV x with
    | false =>
      have e : newR x a0 m0 s0 = 1 := by unfold newR; rw [tx]; rfl
      rw [e] at q
      exact iteT q
    | true =>
    refine iteF ?_
    have tx' := tx
    obtain ⟨z, rfl, hz, lz⟩ := textV_str tx
    have nr0 : newR (.str z) a0 m0 s0 = (if (inV2 0 (lenV (.str z)) a0 && inV2 0 (lenV (.str z) - intV a0) m0) = true then (if (sgV s0 && decide (lenV (.str z) - intV m0 + lenV s0 ≤ 2000)) = true then 0 else 1) else 2) := by
      unfold newR
      exact if_pos tx'
    refine ⟨a0, rfl, .str z, rfl, .str z, z.length, rfl, ⟨len5 (by omega), rfl⟩, a0, ka, 0, _, rfl, ha, _, rfl, ?_⟩
    have ez : ((z.length : Nat) : Int) = lenV (.str z) := rfl
    rw [ez]
    cases ia : inV2 0 (lenV (.str z)) a0 with
    | false =>
      rw [nr0, ia] at q
      exact iteT q
    | true =>
    refine iteF ?_
    obtain ⟨a, rfl, a1, a2⟩ := inV2_int ia
    refine ⟨m0, rfl, .str z, rfl, .str z, z.length, rfl, ⟨len5 (by omega), rfl⟩, .int a, rfl, _, _, rfl, rfl, m0, km, 0, _, rfl, hm, _, rfl, ?_⟩
    have ez2 : ((z.length : Nat) : Int) - a = lenV (.str z) - intV (.int a) := rfl
    rw [ez2]
    cases im : inV2 0 (lenV (.str z) - intV (.int a)) m0 with
    | false =>
      rw [nr0, ia, im] at q
      exact iteT q
    | true =>
    refine iteF ?_
    obtain ⟨m, rfl, m1, m2⟩ := inV2_int im
    refine ⟨s0, rfl, s0, ks, rfl, hs, (fun u e => Nat.le_trans (vs u e) (by decide)), _, rfl, ?_⟩
    cases ss : sgV s0 with
    | false =>
      rw [nr0, ia, im, ss] at q
      exact iteT q
    | true =>
    refine iteF ?_
    obtain ⟨w, rfl, hw⟩ := sgV_str ss
    have lw := vs w rfl
    refine ⟨.str z, rfl, .str z, z.length, rfl, ⟨len5 (by omega), rfl⟩, .int m, rfl, _, _, rfl, rfl, .str w, rfl, .str w, w.length, rfl, ⟨len5 (by omega), rfl⟩, _, _, rfl, rfl, _, _, rfl, rfl, _, rfl, ite2 (fun c => ?_) (fun c => ?_)⟩
    · have c' : ¬ (lenV (.str z) - intV (.int m) + lenV (.str w) ≤ 2000) := Int.not_le.mpr (of_decide_eq_true c)
      rw [nr0, ia, im, ss, decide_eq_false c'] at q
      exact q
    · have c' : lenV (.str z) - intV (.int m) + lenV (.str w) ≤ 2000 := Int.not_lt.mp fun n => c (decide_eq_true n)
      rw [nr0, ia, im, ss, decide_eq_true c'] at q
      exact q
abbrev sLaw : Stmt := topS 52
theorem scLaw : FnScope ["script", "hand", "k", "text", "due", "level", "at", "many", "signs"] ["script"] (defScope sLaw) := ⟨rfl, rfl, rfl, by decide +kernel, rfl, by decide +kernel, by decide +kernel⟩
def spLaw (K : PySem.W.Frag) : Sp := fun vs H Q _ => ∃ (a : Addr) (ns : List Int), vs = [.ref a] ∧ SqL K H a (ns.map V.int) ∧ ∀ H', Q (.bl true) H'
theorem ok_law {f : Addr} {fd : FuncData} (F : Fun K "law" "law" sLaw f fd) {fHand : Addr} {fdHand : FuncData} (DHand : Dk P w K mg base "_law_hand" sHand ["script"] 1 (spHand K) fHand fdHand) {fPick : Addr} {fdPick : FuncData} (DPick : Dk P w K mg base "_law_pick" sPick ["hand", "things"] 2 (spPick K) fPick fdPick) {fIsWithin : Addr} {fdIsWithin : FuncData} (DIsWithin : Dk P w K mg base "_law_is_within" sIsWithin ["thing", "least", "most"] 2 spIn fIsWithin fdIsWithin) {fOdd : Addr} {fdOdd : FuncData} (DOdd : Dk P w K mg base "_law_odd" sOdd ["hand"] 2 spOdd fOdd fdOdd) {fLevels : Addr} {fdLevels : FuncData} (DLevels : Dk P w K mg base "_law_levels" sLevels ["text"] 4 spLawLevels fLevels fdLevels) {fIsText : Addr} {fdIsText : FuncData} (DIsText : Dk P w K mg base "_law_is_text" sIsText ["thing"] 2 spTextK fIsText fdIsText) {fSomeText : Addr} {fdSomeText : FuncData} (DSomeText : Dk P w K mg base "_law_some_text" sSomeText ["hand"] 5 spSome fSomeText fdSomeText) {fLevelsTold : Addr} {fdLevelsTold : FuncData} (DLevelsTold : Dk P w K mg base "_law_levels_told" sLevelsTold ["text"] 7 spToldL fLevelsTold fdLevelsTold) {fLotTold : Addr} {fdLotTold : FuncData} (DLotTold : Dk P w K mg base "_law_lot_told" sLotTold ["text"] 7 spToldLot fLotTold fdLotTold) {fBlocksTold : Addr} {fdBlocksTold : FuncData} (DBlocksTold : Dk P w K mg base "_law_blocks_told" sBlocksTold ["text", "level"] 7 spToldB fBlocksTold fdBlocksTold) {fNewTold : Addr} {fdNewTold : FuncData} (DNewTold : Dk P w K mg base "_law_new_told" sNewTold ["text", "at", "many", "signs"] 8 spToldN fNewTold fdNewTold) {fNewDue : Addr} {fdNewDue : FuncData} (DNewDue : Dk P w K mg base "_law_new_due" sNewDue ["text", "at", "many", "signs"] 3 spDueN fNewDue fdNewDue)
    (T : Glob mg) : FnAt callerA P w K mg base CX0 f fd ["script"] (spLaw K) := by
  refine fun_at (k := 12) F scLaw ⟨rfl, by decide, by decide⟩ (fun vs H Q E h => ?_) (fun cdv outer s H vs Q E hr h => ?_)
  · obtain ⟨a, ns, rfl, _⟩ := h
    rfl
  · refine ⟨_, (pss_cons (ps_set (i := 1) scLaw.nd rfl (.inl rfl) (pe_call DHand.ok (hr.mono (by decide)) (by rfl) DHand.g DHand.F.kp DHand.b .nil pass0 (pa_cons (pv 0) pa_nil)))
      (pss_cons (ps_for PassesOwn.never rfl (pi_range1 (by rfl) T.range (pa_cons pe_int pa_nil)) (pg_name (i := 2) scLaw.nd rfl (.inl rfl))
      (pss_cons (ps_set (i := 3) scLaw.nd rfl (.inl rfl) (pe_call DSomeText.ok (hr.mono (by decide)) (by rfl) DSomeText.g DSomeText.F.kp DSomeText.b .nil pass0 (pa_cons (pv 1) pa_nil)))
        (pss_cons (ps_set (i := 4) scLaw.nd rfl (.inl rfl) (pe_ix ix_list (pe_lst (pa_cons pe_str (pa_cons pe_str pa_nil))) (pe_callTy call_int1 (by rfl) T.int (by decide +kernel) (pa_cons (pe_call DIsText.ok (hr.mono (by decide)) (by rfl) DIsText.g DIsText.F.kp DIsText.b .nil pass0 (pa_cons (pv 3) pa_nil)) pa_nil)) (fun _ _ => rfl)))
        (pss_cons (ps_if (PW.pt (pw_or (pt_cmpR op_ne (pe_call DLevelsTold.ok (hr.mono (by decide)) (by rfl) DLevelsTold.g DLevelsTold.F.kp DLevelsTold.b .nil pass0 (pa_cons (pv 3) pa_nil)) (pv 4) (nomark _)) (pw_or1 (pt_cmpR op_ne (pe_call DLotTold.ok (hr.mono (by decide)) (by rfl) DLotTold.g DLotTold.F.kp DLotTold.b .nil pass0 (pa_cons (pv 3) pa_nil)) (pv 4) (nomark _)))))
        (pss_one (ps_ret pe_bl))
        pss_nil)
        (pss_cons (ps_set (i := 5) scLaw.nd rfl (.inl rfl) (pe_call DPick.ok (hr.mono (by decide)) (by rfl) DPick.g DPick.F.kp DPick.b .nil pass0 (pa_cons (pv 1) (pa_cons (pe_lst (pa_cons pe_int (pa_cons pe_int (pa_cons pe_int (pa_cons pe_int (pa_cons (pe_un un_neg pe_int) (pa_cons pe_bl (pa_cons pe_non (pa_cons pe_int (pa_cons (pe_call DOdd.ok (hr.mono (by decide)) (by rfl) DOdd.g DOdd.F.kp DOdd.b .nil pass0 (pa_cons (pv 1) pa_nil)) pa_nil)))))))))) pa_nil))))
        (pss_cons (ps_if (PW.pt (pw_and (pt_cmpR op_eq (pv 4) pe_str (nomark _)) (pw_and1 (pt_not (pt_val (pe_call DIsWithin.ok (hr.mono (by decide)) (by rfl) DIsWithin.g DIsWithin.F.kp DIsWithin.b .nil pass0 (pa_cons (pv 5) (pa_cons pe_int (pa_cons (pe_op op_sub (pe_callB call_len_seq (by rfl) T.len PySem.boot_len (pa_cons (pe_call DLevels.ok (hr.mono (by decide)) (by rfl) DLevels.g DLevels.F.kp DLevels.b .nil pass0 (pa_cons (pv 3) pa_nil)) pa_nil)) pe_int) pa_nil)))))))))
        (pss_one (ps_set (i := 4) scLaw.nd rfl (.inl rfl) pe_str))
        pss_nil)
        (pss_cons (ps_if (pt_cmpR op_ne (pe_call DBlocksTold.ok (hr.mono (by decide)) (by rfl) DBlocksTold.g DBlocksTold.F.kp DBlocksTold.b .nil pass0 (pa_cons (pv 3) (pa_cons (pv 5) pa_nil))) (pv 4) (nomark _))
        (pss_one (ps_ret pe_bl))
        pss_nil)
        (pss_cons (ps_set (i := 6) scLaw.nd rfl (.inl rfl) (pe_call DPick.ok (hr.mono (by decide)) (by rfl) DPick.g DPick.F.kp DPick.b .nil pass0 (pa_cons (pv 1) (pa_cons (pe_lst (pa_cons pe_int (pa_cons pe_int (pa_cons pe_int (pa_cons pe_int (pa_cons pe_int (pa_cons (pe_un un_neg pe_int) (pa_cons pe_int (pa_cons pe_int (pa_cons pe_bl (pa_cons pe_non pa_nil))))))))))) pa_nil))))
        (pss_cons (ps_set (i := 7) scLaw.nd rfl (.inl rfl) (pe_call DPick.ok (hr.mono (by decide)) (by rfl) DPick.g DPick.F.kp DPick.b .nil pass0 (pa_cons (pv 1) (pa_cons (pe_lst (pa_cons pe_int (pa_cons pe_int (pa_cons pe_int (pa_cons pe_int (pa_cons pe_int (pa_cons (pe_un un_neg pe_int) (pa_cons pe_int (pa_cons pe_bl (pa_cons pe_str pa_nil)))))))))) pa_nil))))
        (pss_cons (ps_set (i := 8) scLaw.nd rfl (.inl rfl) (pe_call DPick.ok (hr.mono (by decide)) (by rfl) DPick.g DPick.F.kp DPick.b .nil pass0 (pa_cons (pv 1) (pa_cons (pe_lst (pa_cons pe_str (pa_cons pe_str (pa_cons pe_str (pa_cons pe_str (pa_cons pe_non (pa_cons (pe_tup (pa_cons pe_str pa_nil)) (pa_cons (pe_op op_mulS pe_str pe_int) (pa_cons (pe_op op_mulS pe_str pe_int) (pa_cons (pe_op op_mulS pe_str pe_int) pa_nil)))))))))) pa_nil))))
        (pss_one (ps_if (pt_cmpR op_ne (pe_call DNewTold.ok (hr.mono (by decide)) (by rfl) DNewTold.g DNewTold.F.kp DNewTold.b .nil pass0 (pa_cons (pv 3) (pa_cons (pv 6) (pa_cons (pv 7) (pa_cons (pv 8) pa_nil))))) (pe_call DNewDue.ok (hr.mono (by decide)) (by rfl) DNewDue.g DNewDue.F.kp DNewDue.b .nil pass0 (pa_cons (pv 3) (pa_cons (pv 6) (pa_cons (pv 7) (pa_cons (pv 8) pa_nil))))) (nomark _))
        (pss_one (ps_ret pe_bl))
        pss_nil))))))))))))
      (pss_one (ps_ret (pe_and (pe_cmpR op_eq (pe_call DLevelsTold.ok (hr.mono (by decide)) (by rfl) DLevelsTold.g DLevelsTold.F.kp DLevelsTold.b .nil pass0 (pa_cons pe_str pa_nil)) pe_str (nomark _)) (pe_and (pe_cmpR op_eq (pe_call DBlocksTold.ok (hr.mono (by decide)) (by rfl) DBlocksTold.g DBlocksTold.F.kp DBlocksTold.b .nil pass0 (pa_cons pe_str (pa_cons pe_int pa_nil))) pe_str (nomark _)) (pe_one (pe_cmpR op_eq (pe_call DBlocksTold.ok (hr.mono (by decide)) (by rfl) DBlocksTold.g DBlocksTold.F.kp DBlocksTold.b .nil pass0 (pa_cons pe_str (pa_cons pe_int pa_nil))) pe_str (nomark _))))))))), ?_⟩
    obtain ⟨a, ns, rfl, hS, q⟩ := h
    have s0 : (0 : Nat) ≤ sizeLine := by decide
    refine ⟨.ref a, rfl, a, ns, rfl, hS, fun p l H1 np nl h1 k1 => ?_⟩
    refine ⟨_, rfl, by omega, by omega, for_range (fun i σ H' => ∃ u2 u3 u4 u5 u6 u7 u8 : Option V, σ = [some (.ref a), some (.ref p), u2, u3, u4, u5, u6, u7, u8] ∧ HandL H' p l) ⟨_, _, _, _, _, _, _, rfl, h1⟩ ?_ ?_⟩
    · rintro i σ H2 hi ⟨u2, u3, u4, u5, u6, u7, u8, rfl, h2⟩
      refine ⟨.ref p, rfl, p, rfl, l, h2, fun x k H3 hk st h3 b3 => ?_⟩
      refine ⟨by show 2 ≤ sizeLine; decide, fun o no => ?_⟩
      have ko := Same.new (o := .lst [.str (Str.ofString "NoText"), .str (Str.ofString "told")]) no
      have ho : upd H3 o (.lst [.str (Str.ofString "NoText"), .str (Str.ofString "told")]) o = some (.lst [.str (Str.ofString "NoText"), .str (Str.ofString "told")]) := upd_same
      have hk4 := hk.same ko
      have h4 := h3.same ko
      revert ho hk4 h4
      generalize upd H3 o (.lst [.str (Str.ofString "NoText"), .str (Str.ofString "told")]) = H4
      intro ho hk4 h4
      refine ⟨x, rfl, x, k, rfl, hk4, st.vs, .inr ⟨_, rfl, o, _, _, _, rfl, rfl, sq_of ho, (show atI _ _ = some (.str (toldS (if textV x = true then 0 else 1) (Str.ofString ""))) by cases textV x <;> rfl), ?_⟩⟩
      refine ⟨x, rfl, x, k, rfl, hk4, st.vs, fun H5 k5 => ⟨_, rfl, rfl, _, rfl, ?_⟩⟩
      rw [decide_eq_true rfl]
      refine iteF ?_
      have hk5 := hk4.same k5
      have h5 := h4.same k5
      refine ⟨x, rfl, x, k, rfl, hk5, st.vs, st.few, fun H6 k6 => ⟨_, rfl, rfl, _, rfl, ?_⟩⟩
      rw [decide_eq_true rfl]
      refine iteF ?_
      have hk6 := hk5.same k6
      have h6 := h5.same k6
      refine ⟨.ref p, rfl, _, rfl, .ref p, rfl, p, rfl, l, h6, fun y d H7 hd hds h7 b7 => ⟨by show 9 ≤ sizeLine; decide, fun o2 no2 => ?_⟩⟩
      have ko2 := Same.new (o := .lst [.int 0, .int 1, .int 2, .int 9, .int (-1), .bl true, .non, .int 100, y]) no2
      have h7' := h7.same ko2
      have hk7 := (kd_but hk6 h6 h7 b7).same ko2
      have hd7 := hd.keep ko2
      refine ⟨p, o2, _, rfl, sq_of upd_same, (h7.ne no2).1, by show 0 < 9; decide, by show 9 < 1000000; decide, l, h7', fun lv H8 hx h8 b8 => ?_⟩
      have hk8 := kd_but hk7 h7' h8 b8
      obtain ⟨j, hj⟩ : ∃ j, Kd H8 lv j := by
        rcases List.mem_cons.mp hx with rfl | hx
        · exact ⟨_, .int _⟩
        rcases List.mem_cons.mp hx with rfl | hx
        · exact ⟨_, .int _⟩
        rcases List.mem_cons.mp hx with rfl | hx
        · exact ⟨_, .int _⟩
        rcases List.mem_cons.mp hx with rfl | hx
        · exact ⟨_, .int _⟩
        rcases List.mem_cons.mp hx with rfl | hx
        · exact ⟨_, .int _⟩
        rcases List.mem_cons.mp hx with rfl | hx
        · exact ⟨_, .bl _⟩
        rcases List.mem_cons.mp hx with rfl | hx
        · exact ⟨_, .non⟩
        rcases List.mem_cons.mp hx with rfl | hx
        · exact ⟨_, .int _⟩
        rw [List.mem_singleton.mp hx]
        exact (dt_but hd7 h7' b8).kd
      dsimp only [tSeq, tAsg, gName]
      refine (?_ : ∀ Dn : Ends, (∀ H', Same H8 H' → Dn.nx [some (.ref a), some (.ref p), some (.int (0 + (i : Int))), some x, some (.str (toldS (levelR x lv) (Str.ofString "NoLevel"))), some lv, u6, u7, u8] H') → tIfS _ _ _ Dn _ _) _ fun H9 k9 => ?_
      · intro Dn hDn
        refine ⟨_, rfl, rfl, _, rfl, ?_⟩
        cases tx : textV x with
        | false =>
          refine ite2 (fun c => absurd (of_decide_eq_true c) (by decide +kernel)) fun _ => ?_
          have e : levelR x lv = 1 := by unfold levelR; rw [tx]; rfl
          rw [e] at hDn
          exact hDn H8 (Same.refl _)
        | true =>
          refine ite2 (fun _ => ?_) fun c => absurd (decide_eq_true rfl) c
          have tx' := tx
          obtain ⟨z, rfl, hz, lz⟩ := textV_str tx
          refine ⟨lv, rfl, .str z, rfl, z, rfl, hz, lz, fun M xs H9 nM hM hxs lx k9 => ?_⟩
          refine ⟨M, _, rfl, .inl (sq_of hM), _, _, rfl, rfl, lv, j, 0, _, rfl, hj.same k9, _, rfl, ?_⟩
          have ex : ((xs.length : Nat) : Int) - 1 = manyL (.str z) - 1 := by rw [All2.len hxs]; rfl
          rw [ex]
          have le : levelR (.str z) lv = (if inV2 0 (manyL (.str z) - 1) lv = true then 0 else 2) := if_pos tx'
          cases il : inV2 0 (manyL (.str z) - 1) lv with
          | false =>
            rw [il] at le
            rw [le] at hDn
            exact iteT (hDn H9 k9)
          | true =>
            rw [il] at le
            rw [le] at hDn
            exact iteF (hDn H9 k9)
      have hk9 := hk8.same k9
      have hj9 := hj.same k9
      have h9 := h8.same k9
      refine ⟨x, rfl, lv, rfl, x, lv, k, j, rfl, hk9, st.vs, hj9, fun H10 k10 => ⟨_, rfl, rfl, _, rfl, ?_⟩⟩
      rw [decide_eq_true rfl]
      refine iteF ?_
      have hk10 := hk9.same k10
      have h10 := h9.same k10
      refine ⟨.ref p, rfl, _, rfl, by show 10 ≤ sizeLine; decide, fun o3 no3 => ?_⟩
      have ko3 := Same.new (o := .lst [.int 0, .int 1, .int 5, .int 12, .int 13, .int (-1), .int 2000, .int 2001, .bl true, .non]) no3
      have h10' := h10.same ko3
      refine ⟨p, o3, _, rfl, sq_of upd_same, (h10.ne no3).1, by show 0 < 10; decide, by show 10 < 1000000; decide, l, h10', fun va H11 hx h11 b11 => ?_⟩
      have hk11 := kd_but (hk10.same ko3) h10' h11 b11
      obtain ⟨ka, ha⟩ : ∃ j, Kd H11 va j := by
        rcases List.mem_cons.mp hx with rfl | hx
        · exact ⟨_, .int _⟩
        rcases List.mem_cons.mp hx with rfl | hx
        · exact ⟨_, .int _⟩
        rcases List.mem_cons.mp hx with rfl | hx
        · exact ⟨_, .int _⟩
        rcases List.mem_cons.mp hx with rfl | hx
        · exact ⟨_, .int _⟩
        rcases List.mem_cons.mp hx with rfl | hx
        · exact ⟨_, .int _⟩
        rcases List.mem_cons.mp hx with rfl | hx
        · exact ⟨_, .int _⟩
        rcases List.mem_cons.mp hx with rfl | hx
        · exact ⟨_, .int _⟩
        rcases List.mem_cons.mp hx with rfl | hx
        · exact ⟨_, .int _⟩
        rcases List.mem_cons.mp hx with rfl | hx
        · exact ⟨_, .bl _⟩
        rw [List.mem_singleton.mp hx]
        exact ⟨_, .non⟩
      refine ⟨.ref p, rfl, _, rfl, by show 9 ≤ sizeLine; decide, fun o4 no4 => ?_⟩
      have ko4 := Same.new (o := .lst [.int 0, .int 0, .int 1, .int 2, .int 12, .int (-1), .int 2001, .bl false, .str (Str.ofString "1")]) no4
      have h11' := h11.same ko4
      refine ⟨p, o4, _, rfl, sq_of upd_same, (h11.ne no4).1, by show 0 < 9; decide, by show 9 < 1000000; decide, l, h11', fun vm H12 hx h12 b12 => ?_⟩
      have hk12 := kd_but (hk11.same ko4) h11' h12 b12
      have ha12 := kd_but (ha.same ko4) h11' h12 b12
      obtain ⟨km, hm⟩ : ∃ j, Kd H12 vm j := by
        rcases List.mem_cons.mp hx with rfl | hx
        · exact ⟨_, .int _⟩
        rcases List.mem_cons.mp hx with rfl | hx
        · exact ⟨_, .int _⟩
        rcases List.mem_cons.mp hx with rfl | hx
        · exact ⟨_, .int _⟩
        rcases List.mem_cons.mp hx with rfl | hx
        · exact ⟨_, .int _⟩
        rcases List.mem_cons.mp hx with rfl | hx
        · exact ⟨_, .int _⟩
        rcases List.mem_cons.mp hx with rfl | hx
        · exact ⟨_, .int _⟩
        rcases List.mem_cons.mp hx with rfl | hx
        · exact ⟨_, .int _⟩
        rcases List.mem_cons.mp hx with rfl | hx
        · exact ⟨_, .bl _⟩
        rw [List.mem_singleton.mp hx]
        exact ⟨_, .str _⟩
      have mf : ∀ (c : Str) (n : Int), c.length = 1 → (Txt.mul c n).length ≤ n.toNat := fun c n e => by
        have := (mul_facts c n).1
        rw [e, Nat.one_mul] at this
        exact this
      have la : (Str.ofString "a").length = 1 := by decide +kernel
      have lb : (Str.ofString "b").length = 1 := by decide +kernel
      have lc : (Str.ofString "c").length = 1 := by decide +kernel
      refine ⟨.ref p, rfl, by show 1 ≤ sizeLine; decide, fun tp ntp => ?_⟩
      have kt := Same.new (o := .tup [.str (Str.ofString "a")]) ntp
      have ht : upd H12 tp (.tup [.str (Str.ofString "a")]) tp = some (.tup [.str (Str.ofString "a")]) := upd_same
      have h12' := h12.same kt
      have hk12' := hk12.same kt
      have ha12' := ha12.same kt
      have hm12' := hm.same kt
      revert ht h12' hk12' ha12' hm12'
      generalize upd H12 tp (.tup [.str (Str.ofString "a")]) = H13
      intro ht h13 hk13 ha13 hm13
      refine ⟨Str.ofString "a", 1988, rfl, rfl, by omega, by omega, by omega, Str.ofString "b", 2000, rfl, rfl, by omega, by omega, by omega, Str.ofString "c", 2001, rfl, rfl, by omega, by omega, by omega, by show 9 ≤ sizeLine; decide, fun o5 no5 => ?_⟩
      have ko5 := Same.new (o := .lst [.str (Str.ofString ""), .str (Str.ofString "a"), .str (Str.ofString "ab"), .str (Str.ofString "\n"), .non, .ref tp, .str (Txt.mul (Str.ofString "a") 1988), .str (Txt.mul (Str.ofString "b") 2000), .str (Txt.mul (Str.ofString "c") 2001)]) no5
      have h13' := h13.same ko5
      refine ⟨p, o5, _, rfl, sq_of upd_same, (h13.ne no5).1, by show 0 < 9; decide, by show 9 < 1000000; decide, l, h13', fun vsg H14 hx h14 b14 => ?_⟩
      have hk14 := kd_but (hk13.same ko5) h13' h14 b14
      have ha14 := kd_but (ha13.same ko5) h13' h14 b14
      have hm14 := kd_but (hm13.same ko5) h13' h14 b14
      obtain ⟨⟨ksg, hsg⟩, hsl⟩ : (∃ j, Kd H14 vsg j) ∧ ∀ z, vsg = .str z → z.length ≤ 2100 := by
        rcases List.mem_cons.mp hx with rfl | hx
        · exact ⟨⟨_, .str _⟩, fun z e => by cases e; decide +kernel⟩
        rcases List.mem_cons.mp hx with rfl | hx
        · exact ⟨⟨_, .str _⟩, fun z e => by cases e; decide +kernel⟩
        rcases List.mem_cons.mp hx with rfl | hx
        · exact ⟨⟨_, .str _⟩, fun z e => by cases e; decide +kernel⟩
        rcases List.mem_cons.mp hx with rfl | hx
        · exact ⟨⟨_, .str _⟩, fun z e => by cases e; decide +kernel⟩
        rcases List.mem_cons.mp hx with rfl | hx
        · exact ⟨⟨_, .non⟩, fun z e => by cases e⟩
        rcases List.mem_cons.mp hx with rfl | hx
        · exact ⟨⟨_, kd_but (.tup (ko5 _ _ ht)) h13' h14 b14⟩, fun z e => by cases e⟩
        rcases List.mem_cons.mp hx with e0 | hx
        · exact ⟨⟨.str, by rw [e0]; exact .str _⟩, fun z e => by rw [e0] at e; rw [← V.str.inj e]; exact Nat.le_trans (mf _ _ la) (by omega)⟩
        rcases List.mem_cons.mp hx with e0 | hx
        · exact ⟨⟨.str, by rw [e0]; exact .str _⟩, fun z e => by rw [e0] at e; rw [← V.str.inj e]; exact Nat.le_trans (mf _ _ lb) (by omega)⟩
        have e0 := List.mem_singleton.mp hx
        exact ⟨⟨.str, by rw [e0]; exact .str _⟩, fun z e => by rw [e0] at e; rw [← V.str.inj e]; exact Nat.le_trans (mf _ _ lc) (by omega)⟩
      refine ⟨x, rfl, va, rfl, vm, rfl, vsg, rfl, x, va, vm, vsg, k, ka, km, ksg, rfl, hk14, ha14, hm14, hsg, st.vs, hsl, fun H15 k15 => ?_⟩
      refine ⟨x, rfl, va, rfl, vm, rfl, vsg, rfl, x, va, vm, vsg, k, ka, km, ksg, rfl, hk14.same k15, ha14.same k15, hm14.same k15, hsg.same k15, st.vs, hsl, rfl, _, rfl, ?_⟩
      rw [decide_eq_true rfl]
      exact iteF ⟨_, _, _, _, _, _, _, rfl, h14.same k15⟩
    rintro σ H2 ⟨u2, u3, u4, u5, u6, u7, u8, rfl, h2⟩
    have te : textV (.str (Str.ofString "")) = true := by decide +kernel
    have ve : Vs (.str (Str.ofString "")) := fun z e => by cases e; decide +kernel
    refine ⟨.str (Str.ofString ""), .str, rfl, .str _, ve, fun H3 k3 => ?_⟩
    rw [if_pos te]
    refine ⟨rfl, _, rfl, iteT ?_⟩
    have me : manyL (.str (Str.ofString "")) = 1 := by
      show ((lvAll (Str.ofString "")).length : Int) = 1
      rw [lv_empty]
      rfl
    refine ⟨.str (Str.ofString ""), .int 0, .str, .int, rfl, .str _, ve, .int _, fun H4 k4 => ?_⟩
    have l0 : levelR (.str (Str.ofString "")) (.int 0) = 0 := by
      unfold levelR
      rw [if_pos te, me]
      rfl
    rw [l0]
    refine ⟨rfl, _, rfl, iteT ?_⟩
    refine ⟨.str (Str.ofString ""), .int 1, .str, .int, rfl, .str _, ve, .int _, fun H5 k5 => ?_⟩
    have l1 : levelR (.str (Str.ofString "")) (.int 1) = 2 := by
      unfold levelR
      rw [if_pos te, me]
      rfl
    rw [l1]
    exact ⟨rfl, q H5⟩
end
end LawK
set_option maxHeartbeats 8000000
namespace LawK
open PySem PySem.Spec PyProof.Rows L2 Ev
structure Df (K : PySem.W.Frag) (mg : Str → Option Value) (x : Str) (st : Stmt) (ps : List Str) (f : Addr) (fd : FuncData) : Prop where
  F : Fun K x x st f fd
  b : Binds K fd ps []
  g : mg x = some (.ref f)
section
variable {P : Program} {w : World} {K : PySem.W.Frag} {mg : Str → Option Value} {h : Heap} {x : Str}
theorem df_mk {st : Stmt} {ps : List Str} {oc kV dc pm cd ct : Value} {od an : Option Addr} {sl : Array (Option Value)} {fa : Addr} (X : K.In h) (G : h.Ns mainGlobals mg)
    (hb : ∀ (kV doc pm : Value) (an : Option Addr) (cdv ct : Value) (us : List Value), us.length = ps.length → bindArgs (PySem.W.fnOf x x (defArgs st) (defBody st) (defScope st) .none kV doc pm an cdv ct) ⟨us, []⟩ = pure (ps.zip us))
    (a : PySem.W.nsIn K mainGlobals x = some (some (.ref fa))) (l : K.lookup fa = some ⟨oc, od, .func (PySem.W.fnOf x x (defArgs st) (defBody st) (defScope st) .none kV dc pm an cd ct), sl⟩)
    (ck : (PySem.W.codeIn K cd x && PySem.W.keepIn K (.ref fa)) = true) : ∃ fd, Df K mg x st ps fa fd := by
  obtain ⟨c1, c2⟩ := Bool.and_eq_true_iff.mp ck
  have F1 := fun_mk (st := st) l c1 c2
  exact ⟨_, F1, F1.binds (ps := ps) hb, PySem.W.mg_of X G a⟩
end
theorem end_mk {P : Program} {w : World} {K : PySem.W.Frag} {mg : Str → Option Value} {h : Heap} {fa f PE cEN cEL cEM fPNumber fPSigns fRText fQNumber fQNextCoins fQCoins fQPeaks fQGroups fQNames fQLevels fRLevels fRBlocks fRBlockLot fQStr fQKept fRNew fHand fTake fPick fIsInteger fIsWithin fOdd fAlphabet fWord fText fAreSigns fNameNumber fUnlikeBit fCoins fLike fGroups fNamesAt fLevels fIsText fSomeText fLevelsTold fLotTold fBlocksTold fNewTold fNewDue : Addr} {oc kV dc pm cd ct : Value} {od an : Option Addr} {sl : Array (Option Value)} (X : K.In h) (G : h.Ns mainGlobals mg) (hfa : mg "law" = some (.ref fa))
    (aL : PySem.W.nsIn K mainGlobals "law" = some (some (.ref f))) (lL : K.lookup f = some ⟨oc, od, .func (PySem.W.fnOf "law" "law" (defArgs sLaw) (defBody sLaw) (defScope sLaw) .none kV dc pm an cd ct), sl⟩) (ck : (PySem.W.codeIn K cd "law" && PySem.W.keepIn K (.ref f)) = true)
    {tBASE : Tok} (aBASE : PySem.W.nsIn K mainGlobals "BASE" = some (some (.int 128 tBASE)))
    {tROUNDS : Tok} (aROUNDS : PySem.W.nsIn K mainGlobals "ROUNDS" = some (some (.int 5 tROUNDS)))
    {tMOST_SIGNS : Tok} (aMOST_SIGNS : PySem.W.nsIn K mainGlobals "MOST_SIGNS" = some (some (.int 2000 tMOST_SIGNS)))
    (DPNumber : ∃ fd, Df K mg "is_number" sPNumber ["thing"] fPNumber fd)
    (DPSigns : ∃ fd, Df K mg "is_signs" sPSigns ["thing"] fPSigns fd)
    (DRText : ∃ fd, Df K mg "is_text" sRText ["thing"] fRText fd)
    (DQNumber : ∃ fd, Df K mg "_number" sQNumber ["name"] fQNumber fd)
    (DQNextCoins : ∃ fd, Df K mg "_next_coins" sQNextCoins ["row"] fQNextCoins fd)
    (DQCoins : ∃ fd, Df K mg "_coins" sQCoins ["names"] fQCoins fd)
    (DQPeaks : ∃ fd, Df K mg "_peaks" sQPeaks ["names"] fQPeaks fd)
    (DQGroups : ∃ fd, Df K mg "_groups" sQGroups ["names"] fQGroups fd)
    (DQNames : ∃ fd, Df K mg "_names" sQNames ["text", "begins"] fQNames fd)
    (DQLevels : ∃ fd, Df K mg "_levels" sQLevels ["text"] fQLevels fd)
    (DRLevels : ∃ fd, Df K mg "levels" sRLevels ["text"] fRLevels fd)
    (DRBlocks : ∃ fd, Df K mg "blocks" sRBlocks ["text", "level"] fRBlocks fd)
    (DRBlockLot : ∃ fd, Df K mg "block_lot" sRBlockLot ["text"] fRBlockLot fd)
    (DQStr : ∃ fd, Df K mg "_stretches" sQStr ["text"] fQStr fd)
    (DQKept : ∃ fd, Df K mg "_kept_stretches" sQKept ["row", "at", "behind", "longer"] fQKept fd)
    (DRNew : ∃ fd, Df K mg "new_blocks" sRNew ["text", "at", "many", "signs"] fRNew fd)
    (DHand : ∃ fd, Df K mg "_law_hand" sHand ["script"] fHand fd)
    (DTake : ∃ fd, Df K mg "_law_take" sTake ["hand", "many"] fTake fd)
    (DPick : ∃ fd, Df K mg "_law_pick" sPick ["hand", "things"] fPick fd)
    (DIsInteger : ∃ fd, Df K mg "_law_is_integer" sIsInteger ["thing"] fIsInteger fd)
    (DIsWithin : ∃ fd, Df K mg "_law_is_within" sIsWithin ["thing", "least", "most"] fIsWithin fd)
    (DOdd : ∃ fd, Df K mg "_law_odd" sOdd ["hand"] fOdd fd)
    (DAlphabet : ∃ fd, Df K mg "_law_alphabet" sAlphabet ["hand"] fAlphabet fd)
    (DWord : ∃ fd, Df K mg "_law_word" sWord ["hand", "signs", "least", "most"] fWord fd)
    (DText : ∃ fd, Df K mg "_law_text" sText ["hand", "signs", "most"] fText fd)
    (DAreSigns : ∃ fd, Df K mg "_law_are_signs" sAreSigns ["thing"] fAreSigns fd)
    (DNameNumber : ∃ fd, Df K mg "_law_name_number" sNameNumber ["name"] fNameNumber fd)
    (DUnlikeBit : ∃ fd, Df K mg "_law_unlike_bit" sUnlikeBit ["one", "other"] fUnlikeBit fd)
    (DCoins : ∃ fd, Df K mg "_law_coins" sCoins ["names"] fCoins fd)
    (DLike : ∃ fd, Df K mg "_law_like" sLike ["names", "k"] fLike fd)
    (DGroups : ∃ fd, Df K mg "_law_groups" sGroups ["names"] fGroups fd)
    (DNamesAt : ∃ fd, Df K mg "_law_names_at" sNamesAt ["text", "begins"] fNamesAt fd)
    (DLevels : ∃ fd, Df K mg "_law_levels" sLevels ["text"] fLevels fd)
    (DIsText : ∃ fd, Df K mg "_law_is_text" sIsText ["thing"] fIsText fd)
    (DSomeText : ∃ fd, Df K mg "_law_some_text" sSomeText ["hand"] fSomeText fd)
    (DLevelsTold : ∃ fd, Df K mg "_law_levels_told" sLevelsTold ["text"] fLevelsTold fd)
    (DLotTold : ∃ fd, Df K mg "_law_lot_told" sLotTold ["text"] fLotTold fd)
    (DBlocksTold : ∃ fd, Df K mg "_law_blocks_told" sBlocksTold ["text", "level"] fBlocksTold fd)
    (DNewTold : ∃ fd, Df K mg "_law_new_told" sNewTold ["text", "at", "many", "signs"] fNewTold fd)
    (DNewDue : ∃ fd, Df K mg "_law_new_due" sNewDue ["text", "at", "many", "signs"] fNewDue fd)
    (EN : Cls0 P K mg PE "NoText" cEN) (EL : Cls0 P K mg PE "NoLevel" cEL) (EM : Cls0 P K mg PE "NoNumber" cEM) (neL : cEN ≠ cEL) (neM : cEN ≠ cEM) (T : Glob mg) :
    ∃ fd : FuncData, (∀ (s : Shared) (u : Value), BindsTo s fd ⟨[u], []⟩ [("script", u)]) ∧ ∀ base : Heap, K.In base → base.Ns mainGlobals mg → FnAt callerA P w K mg base CX0 fa fd ["script"] (spLaw K) := by
  have e := hfa.symm.trans (PySem.W.mg_of X G aL)
  cases e
  obtain ⟨fdPNumber, DPNumber⟩ := DPNumber
  obtain ⟨fdPSigns, DPSigns⟩ := DPSigns
  obtain ⟨fdRText, DRText⟩ := DRText
  obtain ⟨fdQNumber, DQNumber⟩ := DQNumber
  obtain ⟨fdQNextCoins, DQNextCoins⟩ := DQNextCoins
  obtain ⟨fdQCoins, DQCoins⟩ := DQCoins
  obtain ⟨fdQPeaks, DQPeaks⟩ := DQPeaks
  obtain ⟨fdQGroups, DQGroups⟩ := DQGroups
  obtain ⟨fdQNames, DQNames⟩ := DQNames
  obtain ⟨fdQLevels, DQLevels⟩ := DQLevels
  obtain ⟨fdRLevels, DRLevels⟩ := DRLevels
  obtain ⟨fdRBlocks, DRBlocks⟩ := DRBlocks
  obtain ⟨fdRBlockLot, DRBlockLot⟩ := DRBlockLot
  obtain ⟨fdQStr, DQStr⟩ := DQStr
  obtain ⟨fdQKept, DQKept⟩ := DQKept
  obtain ⟨fdRNew, DRNew⟩ := DRNew
  obtain ⟨fdHand, DHand⟩ := DHand
  obtain ⟨fdTake, DTake⟩ := DTake
  obtain ⟨fdPick, DPick⟩ := DPick
  obtain ⟨fdIsInteger, DIsInteger⟩ := DIsInteger
  obtain ⟨fdIsWithin, DIsWithin⟩ := DIsWithin
  obtain ⟨fdOdd, DOdd⟩ := DOdd
  obtain ⟨fdAlphabet, DAlphabet⟩ := DAlphabet
  obtain ⟨fdWord, DWord⟩ := DWord
  obtain ⟨fdText, DText⟩ := DText
  obtain ⟨fdAreSigns, DAreSigns⟩ := DAreSigns
  obtain ⟨fdNameNumber, DNameNumber⟩ := DNameNumber
  obtain ⟨fdUnlikeBit, DUnlikeBit⟩ := DUnlikeBit
  obtain ⟨fdCoins, DCoins⟩ := DCoins
  obtain ⟨fdLike, DLike⟩ := DLike
  obtain ⟨fdGroups, DGroups⟩ := DGroups
  obtain ⟨fdNamesAt, DNamesAt⟩ := DNamesAt
  obtain ⟨fdLevels, DLevels⟩ := DLevels
  obtain ⟨fdIsText, DIsText⟩ := DIsText
  obtain ⟨fdSomeText, DSomeText⟩ := DSomeText
  obtain ⟨fdLevelsTold, DLevelsTold⟩ := DLevelsTold
  obtain ⟨fdLotTold, DLotTold⟩ := DLotTold
  obtain ⟨fdBlocksTold, DBlocksTold⟩ := DBlocksTold
  obtain ⟨fdNewTold, DNewTold⟩ := DNewTold
  obtain ⟨fdNewDue, DNewDue⟩ := DNewDue
  obtain ⟨c1, c2⟩ := Bool.and_eq_true_iff.mp ck
  have F1 := fun_mk (st := sLaw) lL c1 c2
  refine ⟨PySem.W.fnOf "law" "law" (defArgs sLaw) (defBody sLaw) (defScope sLaw) .none kV dc pm an cd ct, fun s u => .of_eq rfl, fun base _ _ => ?_⟩
  have THand : Dk P w K mg base "_law_hand" sHand ["script"] 1 (spHand K) fHand fdHand := ⟨DHand.F, DHand.b, DHand.g, ok_hand DHand.F T⟩
  have TTake : Dk P w K mg base "_law_take" sTake ["hand", "many"] 1 spTake fTake fdTake := ⟨DTake.F, DTake.b, DTake.g, ok_take DTake.F T⟩
  have TPick : Dk P w K mg base "_law_pick" sPick ["hand", "things"] 2 (spPick K) fPick fdPick := ⟨DPick.F, DPick.b, DPick.g, ok_Pick DPick.F  (DTake := TTake) (T := T)⟩
  have TIsInteger : Dk P w K mg base "_law_is_integer" sIsInteger ["thing"] 1 spInt fIsInteger fdIsInteger := ⟨DIsInteger.F, DIsInteger.b, DIsInteger.g, ok_IsInteger DIsInteger.F   (T := T)⟩
  have TIsWithin : Dk P w K mg base "_law_is_within" sIsWithin ["thing", "least", "most"] 2 spIn fIsWithin fdIsWithin := ⟨DIsWithin.F, DIsWithin.b, DIsWithin.g, ok_IsWithin DIsWithin.F  (DIsInteger := TIsInteger) (T := T)⟩
  have TOdd : Dk P w K mg base "_law_odd" sOdd ["hand"] 2 spOdd fOdd fdOdd := ⟨DOdd.F, DOdd.b, DOdd.g, ok_odd DOdd.F DTake.F DTake.b DTake.g T⟩
  have TNameNumber : Dk P w K mg base "_law_name_number" sNameNumber ["name"] 1 spNameNumber fNameNumber fdNameNumber := ⟨DNameNumber.F, DNameNumber.b, DNameNumber.g, ok_NameNumber DNameNumber.F   (T := T)⟩
  have TUnlikeBit : Dk P w K mg base "_law_unlike_bit" sUnlikeBit ["one", "other"] 1 spUnlikeBit fUnlikeBit fdUnlikeBit := ⟨DUnlikeBit.F, DUnlikeBit.b, DUnlikeBit.g, ok_UnlikeBit DUnlikeBit.F   (T := T)⟩
  have TCoins : Dk P w K mg base "_law_coins" sCoins ["names"] 2 spCoins fCoins fdCoins := ⟨DCoins.F, DCoins.b, DCoins.g, ok_Coins DCoins.F  (DNameNumber := TNameNumber) (DUnlikeBit := TUnlikeBit) (T := T)⟩
  have TLike : Dk P w K mg base "_law_like" sLike ["names", "k"] 1 spLike fLike fdLike := ⟨DLike.F, DLike.b, DLike.g, ok_Like DLike.F   (T := T)⟩
  have TLCoins : Dk P w K mg base "_law_coins" sCoins ["names"] 2 spCoinsL fCoins fdCoins := ⟨DCoins.F, DCoins.b, DCoins.g, ok_LCoins DCoins.F (DNameNumber := TNameNumber) (DUnlikeBit := TUnlikeBit) (T := T)⟩
  have TLLike : Dk P w K mg base "_law_like" sLike ["names", "k"] 1 spLikeL fLike fdLike := ⟨DLike.F, DLike.b, DLike.g, ok_LLike DLike.F (T := T)⟩
  have TGroups : Dk P w K mg base "_law_groups" sGroups ["names"] 3 spGroupsL fGroups fdGroups := ⟨DGroups.F, DGroups.b, DGroups.g, ok_LGroups DGroups.F (DCoins := TLCoins) (DLike := TLLike) (T := T)⟩
  have TNamesAt : Dk P w K mg base "_law_names_at" sNamesAt ["text", "begins"] 1 spNamesAt fNamesAt fdNamesAt := ⟨DNamesAt.F, DNamesAt.b, DNamesAt.g, ok_NamesAt DNamesAt.F   (T := T)⟩
  have TLevels : Dk P w K mg base "_law_levels" sLevels ["text"] 4 spLawLevels fLevels fdLevels := ⟨DLevels.F, DLevels.b, DLevels.g, ok_Levels DLevels.F  (DGroups := TGroups) (DNamesAt := TNamesAt) (T := T)⟩
  have TAreSigns : Dk P w K mg base "_law_are_signs" sAreSigns ["thing"] 1 spSg fAreSigns fdAreSigns := ⟨DAreSigns.F, DAreSigns.b, DAreSigns.g, ok_AreSigns DAreSigns.F   (T := T)⟩
  have TIsText : Dk P w K mg base "_law_is_text" sIsText ["thing"] 2 spTextK fIsText fdIsText := ⟨DIsText.F, DIsText.b, DIsText.g, ok_IsText DIsText.F  (DAreSigns := TAreSigns) (T := T)⟩
  have TAlphabet : Dk P w K mg base "_law_alphabet" sAlphabet ["hand"] 2 spAlpha fAlphabet fdAlphabet := ⟨DAlphabet.F, DAlphabet.b, DAlphabet.g, ok_Alphabet DAlphabet.F  (DTake := TTake) (T := T)⟩
  have TWord : Dk P w K mg base "_law_word" sWord ["hand", "signs", "least", "most"] 2 spWord fWord fdWord := ⟨DWord.F, DWord.b, DWord.g, ok_Word DWord.F  (DTake := TTake) (T := T)⟩
  have TText : Dk P w K mg base "_law_text" sText ["hand", "signs", "most"] 3 spText fText fdText := ⟨DText.F, DText.b, DText.g, ok_Text DText.F  (DTake := TTake) (DWord := TWord) (T := T)⟩
  have TSomeText : Dk P w K mg base "_law_some_text" sSomeText ["hand"] 5 spSome fSomeText fdSomeText := ⟨DSomeText.F, DSomeText.b, DSomeText.g, ok_SomeText DSomeText.F  (DTake := TTake) (DOdd := TOdd) (DAlphabet := TAlphabet) (DText := TText) (T := T)⟩
  have TPSigns : Dk P w K mg base "is_signs" sPSigns ["thing"] 1 spSg fPSigns fdPSigns := ⟨DPSigns.F, DPSigns.b, DPSigns.g, ok_PSigns DPSigns.F   (T := T)⟩
  have TRText : Dk P w K mg base "is_text" sRText ["thing"] 2 spTextK fRText fdRText := ⟨DRText.F, DRText.b, DRText.g, ok_RText DRText.F (gM := PySem.W.mg_of X G aMOST_SIGNS) (DPSigns := TPSigns) (T := T)⟩
  have TQNumber : Dk P w K mg base "_number" sQNumber ["name"] 1 spNumber fQNumber fdQNumber := ⟨DQNumber.F, DQNumber.b, DQNumber.g, ok_QNumber DQNumber.F (gB := PySem.W.mg_of X G aBASE)  (T := T)⟩
  have TQNextCoins : Dk P w K mg base "_next_coins" sQNextCoins ["row"] 1 spNext fQNextCoins fdQNextCoins := ⟨DQNextCoins.F, DQNextCoins.b, DQNextCoins.g, ok_QNextCoins DQNextCoins.F   (T := T)⟩
  have TQCoins : Dk P w K mg base "_coins" sQCoins ["names"] 2 spCoins fQCoins fdQCoins := ⟨DQCoins.F, DQCoins.b, DQCoins.g, ok_QCoins DQCoins.F (gR := PySem.W.mg_of X G aROUNDS) (DQNumber := TQNumber) (DQNextCoins := TQNextCoins) (T := T)⟩
  have TQPeaks : Dk P w K mg base "_peaks" sQPeaks ["names"] 3 spPeaks fQPeaks fdQPeaks := ⟨DQPeaks.F, DQPeaks.b, DQPeaks.g, ok_QPeaks DQPeaks.F  (DQCoins := TQCoins) (T := T)⟩
  have TQGroups : Dk P w K mg base "_groups" sQGroups ["names"] 4 spGroups fQGroups fdQGroups := ⟨DQGroups.F, DQGroups.b, DQGroups.g, ok_QGroups DQGroups.F  (DQPeaks := TQPeaks) (T := T)⟩
  have TQNames : Dk P w K mg base "_names" sQNames ["text", "begins"] 1 spNames fQNames fdQNames := ⟨DQNames.F, DQNames.b, DQNames.g, ok_QNames DQNames.F   (T := T)⟩
  have TQCoinsL : Dk P w K mg base "_coins" sQCoins ["names"] 2 spCoinsL fQCoins fdQCoins := ⟨DQCoins.F, DQCoins.b, DQCoins.g, ok_QCoinsL DQCoins.F (gR := PySem.W.mg_of X G aROUNDS) (DQNumber := TQNumber) (DQNextCoins := TQNextCoins) (T := T)⟩
  have TQPeaksL : Dk P w K mg base "_peaks" sQPeaks ["names"] 3 spPeaksL fQPeaks fdQPeaks := ⟨DQPeaks.F, DQPeaks.b, DQPeaks.g, ok_QPeaksL DQPeaks.F (DQCoins := TQCoinsL) (T := T)⟩
  have TQGroupsL : Dk P w K mg base "_groups" sQGroups ["names"] 4 spGroupsL fQGroups fdQGroups := ⟨DQGroups.F, DQGroups.b, DQGroups.g, ok_QGroupsL DQGroups.F (DQPeaks := TQPeaksL) (T := T)⟩
  have TQLevels : Dk P w K mg base "_levels" sQLevels ["text"] 5 spLevels fQLevels fdQLevels := ⟨DQLevels.F, DQLevels.b, DQLevels.g, ok_QLevels DQLevels.F (DQGroups := TQGroupsL) (DQNames := TQNames) (T := T)⟩
  have GLe : FnOk P w K mg base (L2.CX P w) 6 fRLevels fdRLevels ["text"] (spRLevels cEN) := ok_RLevels DRLevels.F (ENoText := EN) (DRText := TRText) (DQLevels := TQLevels) (T := T)
  have TLevelsTold : Dk P w K mg base "_law_levels_told" sLevelsTold ["text"] 7 spToldL fLevelsTold fdLevelsTold := ⟨DLevelsTold.F, DLevelsTold.b, DLevelsTold.g, ok_LevelsTold DLevelsTold.F EN DRLevels.F DRLevels.b DRLevels.g GLe  (T := T)⟩
  have GLo : FnOk P w K mg base (L2.CX P w) 6 fRBlockLot fdRBlockLot ["text"] (spRLot cEN) := ok_RBlockLot DRBlockLot.F (ENoText := EN) (DRText := TRText) (DQNames := TQNames) (DQLevels := TQLevels) (T := T)
  have TLotTold : Dk P w K mg base "_law_lot_told" sLotTold ["text"] 7 spToldLot fLotTold fdLotTold := ⟨DLotTold.F, DLotTold.b, DLotTold.g, ok_LotTold DLotTold.F EN DRBlockLot.F DRBlockLot.b DRBlockLot.g GLo  (T := T)⟩
  have TPNumber : Dk P w K mg base "is_number" sPNumber ["thing"] 1 spNum fPNumber fdPNumber := ⟨DPNumber.F, DPNumber.b, DPNumber.g, ok_PNumber DPNumber.F   (T := T)⟩
  have GBl : FnOk P w K mg base (L2.CX P w) 6 fRBlocks fdRBlocks ["text", "level"] (spRBlocks cEN cEL) := ok_RBlocks DRBlocks.F (ENoText := EN) (ENoLevel := EL) (DPNumber := TPNumber) (DRText := TRText) (DQNames := TQNames) (DQLevels := TQLevels) (T := T)
  have TBlocksTold : Dk P w K mg base "_law_blocks_told" sBlocksTold ["text", "level"] 7 spToldB fBlocksTold fdBlocksTold := ⟨DBlocksTold.F, DBlocksTold.b, DBlocksTold.g, ok_BlocksTold DBlocksTold.F EN EL neL DRBlocks.F DRBlocks.b DRBlocks.g GBl  (T := T)⟩
  have TQStr : Dk P w K mg base "_stretches" sQStr ["text"] 6 spStr fQStr fdQStr := ⟨DQStr.F, DQStr.b, DQStr.g, ok_QStr DQStr.F  (DQLevels := TQLevels) (T := T)⟩
  have TQKept : Dk P w K mg base "_kept_stretches" sQKept ["row", "at", "behind", "longer"] 1 spKept fQKept fdQKept := ⟨DQKept.F, DQKept.b, DQKept.g, ok_QKept DQKept.F   (T := T)⟩
  have GNe : FnOk P w K mg base (L2.CX P w) 7 fRNew fdRNew ["text", "at", "many", "signs"] (spRNew cEN cEM) := ok_RNew DRNew.F (ENoText := EN) (ENoNumber := EM) (DPNumber := TPNumber) (DPSigns := TPSigns) (DRText := TRText) (DQStr := TQStr) (DQKept := TQKept) (T := T)
  have TNewTold : Dk P w K mg base "_law_new_told" sNewTold ["text", "at", "many", "signs"] 8 spToldN fNewTold fdNewTold := ⟨DNewTold.F, DNewTold.b, DNewTold.g, ok_NewTold DNewTold.F EN EM neM DRNew.F DRNew.b DRNew.g GNe  (T := T)⟩
  have TNewDue : Dk P w K mg base "_law_new_due" sNewDue ["text", "at", "many", "signs"] 3 spDueN fNewDue fdNewDue := ⟨DNewDue.F, DNewDue.b, DNewDue.g, ok_NewDue DNewDue.F  (DIsWithin := TIsWithin) (DAreSigns := TAreSigns) (DIsText := TIsText) (T := T)⟩
  exact ok_law F1 (DHand := THand) (DPick := TPick) (DIsWithin := TIsWithin) (DOdd := TOdd) (DLevels := TLevels) (DIsText := TIsText) (DSomeText := TSomeText) (DLevelsTold := TLevelsTold) (DLotTold := TLotTold) (DBlocksTold := TBlocksTold) (DNewTold := TNewTold) (DNewDue := TNewDue)  (T := T)
end LawK
open PySem PySem.W PyProof.Rows L2
set_option maxRecDepth 100000 in
set_option maxHeartbeats 0 in
theorem PySem.Challenge.cw_everypiece_k10_refusals_of_blocks_holds : PySem.Challenge.rw_everypiece_k10_refusals_of_blocks.Holds := by
  w_on; o_law; k_head; (case hw => w_witness2)
  k_fill
  refine Ev.walk_at (l := PySem.Challenge.rw_everypiece_k10_refusals_of_blocks) (n := 63) (x := "script") (sp := LawK.spLaw) rfl (by decide) rfl (fun w h Y => PySem.W.kIn_of Y) ?F (fun K H a ns hl _ hS => ⟨a, ns, rfl, hS, fun _ => rfl⟩)
  case F =>
    intro w mg fa h KX G hmg
    have hfa : mg "law" = some (.ref fa) := hmg
    clear hmg
    refine LawK.say KX (fun K => LawK.Sh0 (PySem.W.OpenLaw.prog PySem.Challenge.rw_everypiece_k10_refusals_of_blocks) K mg) (by
      refine' LawK.sh0_mk KX G ?kq1a ?kq1b ?kq1c ?kq1d ?kq1e
      (case kq1a => k_is); (case kq1b => k_is); (case kq1c => k_is); (case kq1d => decide +kernel); (case kq1e => k_is)) ?_
    intro S
    refine LawK.say KX (fun K => LawK.Cls0 (PySem.W.OpenLaw.prog PySem.Challenge.rw_everypiece_k10_refusals_of_blocks) K mg 24 "NoText" 46) (by
      refine' LawK.cls0_mk (qual := "NoText.__init__") KX G S ?kq2a ?kq2l ?kq2i ?kq2f ?kq2d ?kq2e ?kq2v ?kq2w ?kq2p ?kq2c
      (case kq2a => k_is); (case kq2l => k_is); (case kq2i => k_is); (case kq2f => k_is); (case kq2d => k_is); (case kq2e => k_is); (case kq2v => rfl); (case kq2w => rfl); (case kq2p => rfl); (case kq2c => kernel_rfl)) ?_
    intro EN
    refine LawK.say KX (fun K => LawK.Cls0 (PySem.W.OpenLaw.prog PySem.Challenge.rw_everypiece_k10_refusals_of_blocks) K mg 24 "NoLevel" 67) (by
      refine' LawK.cls0_mk (qual := "NoLevel.__init__") KX G S ?kq3a ?kq3l ?kq3i ?kq3f ?kq3d ?kq3e ?kq3v ?kq3w ?kq3p ?kq3c
      (case kq3a => k_is); (case kq3l => k_is); (case kq3i => k_is); (case kq3f => k_is); (case kq3d => k_is); (case kq3e => k_is); (case kq3v => rfl); (case kq3w => rfl); (case kq3p => rfl); (case kq3c => kernel_rfl)) ?_
    intro EL
    refine LawK.say KX (fun K => LawK.Cls0 (PySem.W.OpenLaw.prog PySem.Challenge.rw_everypiece_k10_refusals_of_blocks) K mg 24 "NoNumber" 88) (by
      refine' LawK.cls0_mk (qual := "NoNumber.__init__") KX G S ?kq4a ?kq4l ?kq4i ?kq4f ?kq4d ?kq4e ?kq4v ?kq4w ?kq4p ?kq4c
      (case kq4a => k_is); (case kq4l => k_is); (case kq4i => k_is); (case kq4f => k_is); (case kq4d => k_is); (case kq4e => k_is); (case kq4v => rfl); (case kq4w => rfl); (case kq4p => rfl); (case kq4c => kernel_rfl)) ?_
    intro EM
    refine LawK.say KX (fun K => ∃ fd, LawK.Df K mg "is_number" LawK.sPNumber ["thing"] 97 fd) (by
      refine' LawK.df_mk KX G (fun _ _ _ _ _ _ us hl => match us, hl with | [_], _ => rfl) ?kq5a ?kq5l ?kq5c
      (case kq5a => k_is); (case kq5l => k_is); (case kq5c => kernel_rfl)) ?_
    intro DPNumber
    refine LawK.say KX (fun K => ∃ fd, LawK.Df K mg "is_signs" LawK.sPSigns ["thing"] 104 fd) (by
      refine' LawK.df_mk KX G (fun _ _ _ _ _ _ us hl => match us, hl with | [_], _ => rfl) ?kq6a ?kq6l ?kq6c
      (case kq6a => k_is); (case kq6l => k_is); (case kq6c => kernel_rfl)) ?_
    intro DPSigns
    refine LawK.say KX (fun K => ∃ fd, LawK.Df K mg "is_text" LawK.sRText ["thing"] 111 fd) (by
      refine' LawK.df_mk KX G (fun _ _ _ _ _ _ us hl => match us, hl with | [_], _ => rfl) ?kq7a ?kq7l ?kq7c
      (case kq7a => k_is); (case kq7l => k_is); (case kq7c => kernel_rfl)) ?_
    intro DRText
    refine LawK.say KX (fun K => ∃ fd, LawK.Df K mg "_number" LawK.sQNumber ["name"] 118 fd) (by
      refine' LawK.df_mk KX G (fun _ _ _ _ _ _ us hl => match us, hl with | [_], _ => rfl) ?kq8a ?kq8l ?kq8c
      (case kq8a => k_is); (case kq8l => k_is); (case kq8c => kernel_rfl)) ?_
    intro DQNumber
    refine LawK.say KX (fun K => ∃ fd, LawK.Df K mg "_next_coins" LawK.sQNextCoins ["row"] 125 fd) (by
      refine' LawK.df_mk KX G (fun _ _ _ _ _ _ us hl => match us, hl with | [_], _ => rfl) ?kq9a ?kq9l ?kq9c
      (case kq9a => k_is); (case kq9l => k_is); (case kq9c => kernel_rfl)) ?_
    intro DQNextCoins
    refine LawK.say KX (fun K => ∃ fd, LawK.Df K mg "_coins" LawK.sQCoins ["names"] 130 fd) (by
      refine' LawK.df_mk KX G (fun _ _ _ _ _ _ us hl => match us, hl with | [_], _ => rfl) ?kq10a ?kq10l ?kq10c
      (case kq10a => k_is); (case kq10l => k_is); (case kq10c => kernel_rfl)) ?_
    intro DQCoins
    refine LawK.say KX (fun K => ∃ fd, LawK.Df K mg "_peaks" LawK.sQPeaks ["names"] 135 fd) (by
      refine' LawK.df_mk KX G (fun _ _ _ _ _ _ us hl => match us, hl with | [_], _ => rfl) ?kq11a ?kq11l ?kq11c
      (case kq11a => k_is); (case kq11l => k_is); (case kq11c => kernel_rfl)) ?_
    intro DQPeaks
    refine LawK.say KX (fun K => ∃ fd, LawK.Df K mg "_groups" LawK.sQGroups ["names"] 140 fd) (by
      refine' LawK.df_mk KX G (fun _ _ _ _ _ _ us hl => match us, hl with | [_], _ => rfl) ?kq12a ?kq12l ?kq12c
      (case kq12a => k_is); (case kq12l => k_is); (case kq12c => kernel_rfl)) ?_
    intro DQGroups
    refine LawK.say KX (fun K => ∃ fd, LawK.Df K mg "_names" LawK.sQNames ["text", "begins"] 145 fd) (by
      refine' LawK.df_mk KX G (fun _ _ _ _ _ _ us hl => match us, hl with | [_, _], _ => rfl) ?kq13a ?kq13l ?kq13c
      (case kq13a => k_is); (case kq13l => k_is); (case kq13c => kernel_rfl)) ?_
    intro DQNames
    refine LawK.say KX (fun K => ∃ fd, LawK.Df K mg "_levels" LawK.sQLevels ["text"] 150 fd) (by
      refine' LawK.df_mk KX G (fun _ _ _ _ _ _ us hl => match us, hl with | [_], _ => rfl) ?kq14a ?kq14l ?kq14c
      (case kq14a => k_is); (case kq14l => k_is); (case kq14c => kernel_rfl)) ?_
    intro DQLevels
    refine LawK.say KX (fun K => ∃ fd, LawK.Df K mg "levels" LawK.sRLevels ["text"] 155 fd) (by
      refine' LawK.df_mk KX G (fun _ _ _ _ _ _ us hl => match us, hl with | [_], _ => rfl) ?kq15a ?kq15l ?kq15c
      (case kq15a => k_is); (case kq15l => k_is); (case kq15c => kernel_rfl)) ?_
    intro DRLevels
    refine LawK.say KX (fun K => ∃ fd, LawK.Df K mg "blocks" LawK.sRBlocks ["text", "level"] 162 fd) (by
      refine' LawK.df_mk KX G (fun _ _ _ _ _ _ us hl => match us, hl with | [_, _], _ => rfl) ?kq16a ?kq16l ?kq16c
      (case kq16a => k_is); (case kq16l => k_is); (case kq16c => kernel_rfl)) ?_
    intro DRBlocks
    refine LawK.say KX (fun K => ∃ fd, LawK.Df K mg "block_lot" LawK.sRBlockLot ["text"] 167 fd) (by
      refine' LawK.df_mk KX G (fun _ _ _ _ _ _ us hl => match us, hl with | [_], _ => rfl) ?kq17a ?kq17l ?kq17c
      (case kq17a => k_is); (case kq17l => k_is); (case kq17c => kernel_rfl)) ?_
    intro DRBlockLot
    refine LawK.say KX (fun K => ∃ fd, LawK.Df K mg "_stretches" LawK.sQStr ["text"] 172 fd) (by
      refine' LawK.df_mk KX G (fun _ _ _ _ _ _ us hl => match us, hl with | [_], _ => rfl) ?kq18a ?kq18l ?kq18c
      (case kq18a => k_is); (case kq18l => k_is); (case kq18c => kernel_rfl)) ?_
    intro DQStr
    refine LawK.say KX (fun K => ∃ fd, LawK.Df K mg "_kept_stretches" LawK.sQKept ["row", "at", "behind", "longer"] 179 fd) (by
      refine' LawK.df_mk KX G (fun _ _ _ _ _ _ us hl => match us, hl with | [_, _, _, _], _ => rfl) ?kq19a ?kq19l ?kq19c
      (case kq19a => k_is); (case kq19l => k_is); (case kq19c => kernel_rfl)) ?_
    intro DQKept
    refine LawK.say KX (fun K => ∃ fd, LawK.Df K mg "new_blocks" LawK.sRNew ["text", "at", "many", "signs"] 184 fd) (by
      refine' LawK.df_mk KX G (fun _ _ _ _ _ _ us hl => match us, hl with | [_, _, _, _], _ => rfl) ?kq20a ?kq20l ?kq20c
      (case kq20a => k_is); (case kq20l => k_is); (case kq20c => kernel_rfl)) ?_
    intro DRNew
    refine LawK.say KX (fun K => ∃ fd, LawK.Df K mg "_law_hand" LawK.sHand ["script"] 191 fd) (by
      refine' LawK.df_mk KX G (fun _ _ _ _ _ _ us hl => match us, hl with | [_], _ => rfl) ?kq21a ?kq21l ?kq21c
      (case kq21a => k_is); (case kq21l => k_is); (case kq21c => kernel_rfl)) ?_
    intro DHand
    refine LawK.say KX (fun K => ∃ fd, LawK.Df K mg "_law_take" LawK.sTake ["hand", "many"] 198 fd) (by
      refine' LawK.df_mk KX G (fun _ _ _ _ _ _ us hl => match us, hl with | [_, _], _ => rfl) ?kq22a ?kq22l ?kq22c
      (case kq22a => k_is); (case kq22l => k_is); (case kq22c => kernel_rfl)) ?_
    intro DTake
    refine LawK.say KX (fun K => ∃ fd, LawK.Df K mg "_law_pick" LawK.sPick ["hand", "things"] 205 fd) (by
      refine' LawK.df_mk KX G (fun _ _ _ _ _ _ us hl => match us, hl with | [_, _], _ => rfl) ?kq23a ?kq23l ?kq23c
      (case kq23a => k_is); (case kq23l => k_is); (case kq23c => kernel_rfl)) ?_
    intro DPick
    refine LawK.say KX (fun K => ∃ fd, LawK.Df K mg "_law_is_integer" LawK.sIsInteger ["thing"] 212 fd) (by
      refine' LawK.df_mk KX G (fun _ _ _ _ _ _ us hl => match us, hl with | [_], _ => rfl) ?kq24a ?kq24l ?kq24c
      (case kq24a => k_is); (case kq24l => k_is); (case kq24c => kernel_rfl)) ?_
    intro DIsInteger
    refine LawK.say KX (fun K => ∃ fd, LawK.Df K mg "_law_is_within" LawK.sIsWithin ["thing", "least", "most"] 219 fd) (by
      refine' LawK.df_mk KX G (fun _ _ _ _ _ _ us hl => match us, hl with | [_, _, _], _ => rfl) ?kq25a ?kq25l ?kq25c
      (case kq25a => k_is); (case kq25l => k_is); (case kq25c => kernel_rfl)) ?_
    intro DIsWithin
    refine LawK.say KX (fun K => ∃ fd, LawK.Df K mg "_law_odd" LawK.sOdd ["hand"] 226 fd) (by
      refine' LawK.df_mk KX G (fun _ _ _ _ _ _ us hl => match us, hl with | [_], _ => rfl) ?kq26a ?kq26l ?kq26c
      (case kq26a => k_is); (case kq26l => k_is); (case kq26c => kernel_rfl)) ?_
    intro DOdd
    refine LawK.say KX (fun K => ∃ fd, LawK.Df K mg "_law_alphabet" LawK.sAlphabet ["hand"] 233 fd) (by
      refine' LawK.df_mk KX G (fun _ _ _ _ _ _ us hl => match us, hl with | [_], _ => rfl) ?kq27a ?kq27l ?kq27c
      (case kq27a => k_is); (case kq27l => k_is); (case kq27c => kernel_rfl)) ?_
    intro DAlphabet
    refine LawK.say KX (fun K => ∃ fd, LawK.Df K mg "_law_word" LawK.sWord ["hand", "signs", "least", "most"] 238 fd) (by
      refine' LawK.df_mk KX G (fun _ _ _ _ _ _ us hl => match us, hl with | [_, _, _, _], _ => rfl) ?kq28a ?kq28l ?kq28c
      (case kq28a => k_is); (case kq28l => k_is); (case kq28c => kernel_rfl)) ?_
    intro DWord
    refine LawK.say KX (fun K => ∃ fd, LawK.Df K mg "_law_text" LawK.sText ["hand", "signs", "most"] 245 fd) (by
      refine' LawK.df_mk KX G (fun _ _ _ _ _ _ us hl => match us, hl with | [_, _, _], _ => rfl) ?kq29a ?kq29l ?kq29c
      (case kq29a => k_is); (case kq29l => k_is); (case kq29c => kernel_rfl)) ?_
    intro DText
    refine LawK.say KX (fun K => ∃ fd, LawK.Df K mg "_law_are_signs" LawK.sAreSigns ["thing"] 252 fd) (by
      refine' LawK.df_mk KX G (fun _ _ _ _ _ _ us hl => match us, hl with | [_], _ => rfl) ?kq30a ?kq30l ?kq30c
      (case kq30a => k_is); (case kq30l => k_is); (case kq30c => kernel_rfl)) ?_
    intro DAreSigns
    refine LawK.say KX (fun K => ∃ fd, LawK.Df K mg "_law_name_number" LawK.sNameNumber ["name"] 259 fd) (by
      refine' LawK.df_mk KX G (fun _ _ _ _ _ _ us hl => match us, hl with | [_], _ => rfl) ?kq31a ?kq31l ?kq31c
      (case kq31a => k_is); (case kq31l => k_is); (case kq31c => kernel_rfl)) ?_
    intro DNameNumber
    refine LawK.say KX (fun K => ∃ fd, LawK.Df K mg "_law_unlike_bit" LawK.sUnlikeBit ["one", "other"] 266 fd) (by
      refine' LawK.df_mk KX G (fun _ _ _ _ _ _ us hl => match us, hl with | [_, _], _ => rfl) ?kq32a ?kq32l ?kq32c
      (case kq32a => k_is); (case kq32l => k_is); (case kq32c => kernel_rfl)) ?_
    intro DUnlikeBit
    refine LawK.say KX (fun K => ∃ fd, LawK.Df K mg "_law_coins" LawK.sCoins ["names"] 271 fd) (by
      refine' LawK.df_mk KX G (fun _ _ _ _ _ _ us hl => match us, hl with | [_], _ => rfl) ?kq33a ?kq33l ?kq33c
      (case kq33a => k_is); (case kq33l => k_is); (case kq33c => kernel_rfl)) ?_
    intro DCoins
    refine LawK.say KX (fun K => ∃ fd, LawK.Df K mg "_law_like" LawK.sLike ["names", "k"] 278 fd) (by
      refine' LawK.df_mk KX G (fun _ _ _ _ _ _ us hl => match us, hl with | [_, _], _ => rfl) ?kq34a ?kq34l ?kq34c
      (case kq34a => k_is); (case kq34l => k_is); (case kq34c => kernel_rfl)) ?_
    intro DLike
    refine LawK.say KX (fun K => ∃ fd, LawK.Df K mg "_law_groups" LawK.sGroups ["names"] 283 fd) (by
      refine' LawK.df_mk KX G (fun _ _ _ _ _ _ us hl => match us, hl with | [_], _ => rfl) ?kq35a ?kq35l ?kq35c
      (case kq35a => k_is); (case kq35l => k_is); (case kq35c => kernel_rfl)) ?_
    intro DGroups
    refine LawK.say KX (fun K => ∃ fd, LawK.Df K mg "_law_names_at" LawK.sNamesAt ["text", "begins"] 290 fd) (by
      refine' LawK.df_mk KX G (fun _ _ _ _ _ _ us hl => match us, hl with | [_, _], _ => rfl) ?kq36a ?kq36l ?kq36c
      (case kq36a => k_is); (case kq36l => k_is); (case kq36c => kernel_rfl)) ?_
    intro DNamesAt
    refine LawK.say KX (fun K => ∃ fd, LawK.Df K mg "_law_levels" LawK.sLevels ["text"] 295 fd) (by
      refine' LawK.df_mk KX G (fun _ _ _ _ _ _ us hl => match us, hl with | [_], _ => rfl) ?kq37a ?kq37l ?kq37c
      (case kq37a => k_is); (case kq37l => k_is); (case kq37c => kernel_rfl)) ?_
    intro DLevels
    refine LawK.say KX (fun K => ∃ fd, LawK.Df K mg "_law_is_text" LawK.sIsText ["thing"] 302 fd) (by
      refine' LawK.df_mk KX G (fun _ _ _ _ _ _ us hl => match us, hl with | [_], _ => rfl) ?kq38a ?kq38l ?kq38c
      (case kq38a => k_is); (case kq38l => k_is); (case kq38c => kernel_rfl)) ?_
    intro DIsText
    refine LawK.say KX (fun K => ∃ fd, LawK.Df K mg "_law_some_text" LawK.sSomeText ["hand"] 309 fd) (by
      refine' LawK.df_mk KX G (fun _ _ _ _ _ _ us hl => match us, hl with | [_], _ => rfl) ?kq39a ?kq39l ?kq39c
      (case kq39a => k_is); (case kq39l => k_is); (case kq39c => kernel_rfl)) ?_
    intro DSomeText
    refine LawK.say KX (fun K => ∃ fd, LawK.Df K mg "_law_levels_told" LawK.sLevelsTold ["text"] 316 fd) (by
      refine' LawK.df_mk KX G (fun _ _ _ _ _ _ us hl => match us, hl with | [_], _ => rfl) ?kq40a ?kq40l ?kq40c
      (case kq40a => k_is); (case kq40l => k_is); (case kq40c => kernel_rfl)) ?_
    intro DLevelsTold
    refine LawK.say KX (fun K => ∃ fd, LawK.Df K mg "_law_lot_told" LawK.sLotTold ["text"] 323 fd) (by
      refine' LawK.df_mk KX G (fun _ _ _ _ _ _ us hl => match us, hl with | [_], _ => rfl) ?kq41a ?kq41l ?kq41c
      (case kq41a => k_is); (case kq41l => k_is); (case kq41c => kernel_rfl)) ?_
    intro DLotTold
    refine LawK.say KX (fun K => ∃ fd, LawK.Df K mg "_law_blocks_told" LawK.sBlocksTold ["text", "level"] 330 fd) (by
      refine' LawK.df_mk KX G (fun _ _ _ _ _ _ us hl => match us, hl with | [_, _], _ => rfl) ?kq42a ?kq42l ?kq42c
      (case kq42a => k_is); (case kq42l => k_is); (case kq42c => kernel_rfl)) ?_
    intro DBlocksTold
    refine LawK.say KX (fun K => ∃ fd, LawK.Df K mg "_law_new_told" LawK.sNewTold ["text", "at", "many", "signs"] 337 fd) (by
      refine' LawK.df_mk KX G (fun _ _ _ _ _ _ us hl => match us, hl with | [_, _, _, _], _ => rfl) ?kq43a ?kq43l ?kq43c
      (case kq43a => k_is); (case kq43l => k_is); (case kq43c => kernel_rfl)) ?_
    intro DNewTold
    refine LawK.say KX (fun K => ∃ fd, LawK.Df K mg "_law_new_due" LawK.sNewDue ["text", "at", "many", "signs"] 344 fd) (by
      refine' LawK.df_mk KX G (fun _ _ _ _ _ _ us hl => match us, hl with | [_, _, _, _], _ => rfl) ?kq44a ?kq44l ?kq44c
      (case kq44a => k_is); (case kq44l => k_is); (case kq44c => kernel_rfl)) ?_
    intro DNewDue
    have GL : LawK.Glob mg := ⟨mg_none_of KX G (by k_is), mg_none_of KX G (by k_is), mg_none_of KX G (by k_is), mg_none_of KX G (by k_is), mg_none_of KX G (by k_is), mg_none_of KX G (by k_is), mg_none_of KX G (by k_is), mg_none_of KX G (by k_is), mg_none_of KX G (by k_is), mg_none_of KX G (by k_is), mg_none_of KX G (by k_is), mg_none_of KX G (by k_is), mg_none_of KX G (by k_is), mg_none_of KX G (by k_is), mg_none_of KX G (by k_is), mg_none_of KX G (by k_is), mg_none_of KX G (by k_is), mg_none_of KX G (by k_is)⟩
    refine' LawK.end_mk KX G hfa ?kq45a ?kq45l ?kq45c ?kq45b ?kq45d ?kq45e DPNumber DPSigns DRText DQNumber DQNextCoins DQCoins DQPeaks DQGroups DQNames DQLevels DRLevels DRBlocks DRBlockLot DQStr DQKept DRNew DHand DTake DPick DIsInteger DIsWithin DOdd DAlphabet DWord DText DAreSigns DNameNumber DUnlikeBit DCoins DLike DGroups DNamesAt DLevels DIsText DSomeText DLevelsTold DLotTold DBlocksTold DNewTold DNewDue EN EL EM (by decide) (by decide) GL
    (case kq45a => k_is); (case kq45l => k_is); (case kq45c => kernel_rfl); (case kq45b => k_is); (case kq45d => k_is); (case kq45e => k_is)
