import PyProof.Rows.All
import Wide.All
import OpenK.AllK
import Wide.FinOn
import HandS.ForMost
import HandS.ForExc
import PyProof.ReprRoads
import PyProof.ReprLen
import HandS.Dict
import HandS.ExcInit
import PyProof.StrBlock2
import HandS.IsInst
import HandS.Codes
import HandS.StrMore
import HandS.TupMul
import HandS.Style
import HandS.TupAny
import HandS.Zip
import KE.KExcSuper
import KE.KExcMake
import HandS.ExcValue
import HandS.ExcIs
import KE.KExcIs
import HandS.ExcField
import HandS.TryMany
import HandS.TryOnly
import KE.GoesEnum
import HandS.Walk
import HandS.Iter
import HandS.Text
import HandS.OwnEq
import PyProof.Rows.StrRev
import PySem.Challenge.RW_everypiece_k43_whole_phrases
set_option Elab.async false
set_option linter.all false
set_option maxRecDepth 100000
set_option maxHeartbeats 4000000
/-! repr of nested data that the law has made. -/
namespace Ev
open PySem PySem.Spec PyProof.Rows L2

/-- a display of a list; its place is not the table of modules -/
def tLstN (t : TA) : TE := fun σ H Q => t σ H fun xs H1 => xs.length ≤ sizeLine ∧ ∀ p, H1 p = none → p ≠ sysModules → Q (.ref p) (upd H1 p (.lst xs))
theorem pe_lstN {X : Cx} {es : List Expr} {pos : Pos} {t : TA} (h : PA X es t) : PE X (.List es pos) (tLstN t) := by
  refine ⟨fun pins s σ H Q I hq => ?_⟩
  refine wpAny_List_spliced (thn (h.run pos pins s σ H _ I hq) fun us s1 hh => ?_)
  obtain ⟨xs, H1, I1, r, z, q⟩ := hh
  have hf : H1 s1.heap.objs.size = none := I1.hok.fresh (Nat.le_refl _)
  refine ⟨by rw [← r.length]; exact z, .ref s1.heap.objs.size, upd H1 s1.heap.objs.size (.lst xs), I1.laid (t' := s1.toks) (o := .lst xs) (fun b u e => Heap.get?_push_of_some _ e) (Nat.le_refl _) ⟨z, us, 0, r, Heap.get?_push_size _ rfl⟩, rfl, q _ hf (Ne.symm (Nat.ne_of_lt I1.big))⟩

/-- the datum d is told by v -/
inductive Dt (H : Hp) : V → PyData → Prop
  | non : Dt H .non .none
  | bl (b : Bool) : Dt H (.bl b) (.bool b)
  | int (i : Int) : Dt H (.int i) (.int i)
  | str (x : Str) : Dt H (.str x) (.str x)
  | dic {a : Addr} : H a = some (.dK []) → Dt H (.ref a) (.dict [])
  | l0 {a : Addr} : H a = some (.lst []) → a ≠ sysModules → Dt H (.ref a) (.list [])
  | l1 {a : Addr} {x : V} {d : PyData} : H a = some (.lst [x]) → a ≠ sysModules → Dt H x d → Dt H (.ref a) (.list [d])
  | l2 {a : Addr} {x y : V} {d e : PyData} : H a = some (.lst [x, y]) → a ≠ sysModules → Dt H x d → Dt H y e → Dt H (.ref a) (.list [d, e])
  | t0 {a : Addr} : H a = some (.tup []) → Dt H (.ref a) (.tuple [])
  | t1 {a : Addr} {x : V} {d : PyData} : H a = some (.tup [x]) → Dt H x d → Dt H (.ref a) (.tuple [d])
  | t2 {a : Addr} {x y : V} {d e : PyData} : H a = some (.tup [x, y]) → Dt H x d → Dt H y e → Dt H (.ref a) (.tuple [d, e])
theorem Dt.keep {H H' : Hp} {v : V} {d : PyData} (h : Dt H v d) (k : ∀ b o, H b = some o → H' b = some o) : Dt H' v d := by
  induction h with
  | non => exact .non
  | bl b => exact .bl b
  | int i => exact .int i
  | str x => exact .str x
  | dic e => exact .dic (k _ _ e)
  | l0 e n => exact .l0 (k _ _ e) n
  | l1 e n _ ih => exact .l1 (k _ _ e) n ih
  | l2 e n _ _ i1 i2 => exact .l2 (k _ _ e) n i1 i2
  | t0 e => exact .t0 (k _ _ e)
  | t1 e _ ih => exact .t1 (k _ _ e) ih
  | t2 e _ _ i1 i2 => exact .t2 (k _ _ e) i1 i2
section
variable {X : Cx} {pins : List (Addr × Obj)} {σ : L2.St} {H : Hp} {s : Shared}
theorem lst_at (I : L2.Inv X pins σ H s) {a : Addr} {xs : List V} (h : H a = some (.lst xs)) : ∃ (its : List Value) (n : Nat), Vals xs its ∧ s.heap.get? a = some { cls := .type "list", data := .seq its.toArray n } := by
  obtain ⟨_, its, n, r, e⟩ := (show ObjOk X.prog X.w H s.heap a (.lst xs) from I.hok a _ h)
  exact ⟨its, n, r, e⟩
theorem tup_at (I : L2.Inv X pins σ H s) {a : Addr} {xs : List V} (h : H a = some (.tup xs)) : ∃ (its : List Value) (o : Obj) (n : Nat), Vals xs its ∧ s.heap.get? a = some o ∧ o.cls = .type "tuple" ∧ o.data = .seq its.toArray n := by
  obtain ⟨_, its, r, o, e, c, n, d⟩ := (show ObjOk X.prog X.w H s.heap a (.tup xs) from I.hok a _ h)
  exact ⟨its, o, n, r, e, c, d⟩
theorem Dt.reads (I : L2.Inv X pins σ H s) {v : V} {d : PyData} (h : Dt H v d) : ∀ {u : Value}, RelV v u → ∃ as, Reads s.heap u d as ∧ sysModules ∉ as := by
  induction h with
  | non => intro u r; cases r; exact ⟨_, .none, by simp⟩
  | bl b => intro u r; cases r; exact ⟨_, .bool b, by simp⟩
  | int i => intro u r; obtain ⟨t, rfl⟩ := r; exact ⟨_, .int i t, by simp⟩
  | str x => intro u r; obtain ⟨t, rfl⟩ := r; exact ⟨_, .str x t, by simp⟩
  | @dic a e =>
    intro u r
    cases r
    obtain ⟨_, hs, vs, kv, o, es, ep, ho, hx, hd, hk, hp, _⟩ := (show ObjOk X.prog X.w H s.heap a (.dK []) from I.hok a _ e)
    cases kv
    have he : es.toList = [] := by
      generalize es.toList = l at hp
      cases hp
      rfl
    refine ⟨a :: [] ++ [], .dict (as := []) (bs := []) ho hx.1 hd ?_ ?_, ?_⟩
    · rw [he]; exact .nil
    · rw [he]; exact .nil
    · have : a ≠ sysModules := by simpa using hs
      simp [Ne.symm this]
  | @l0 a e n =>
    intro u r
    cases r
    obtain ⟨its, m, rv, ho⟩ := lst_at I e
    cases rv
    exact ⟨_, .list ho rfl rfl .nil, by simp [Ne.symm n]⟩
  | @l1 a x d e n hx ih =>
    intro u r
    cases r
    obtain ⟨its, m, rv, ho⟩ := lst_at I e
    cases rv with
    | cons r1 rr =>
      cases rr
      obtain ⟨as, q, nq⟩ := ih r1
      exact ⟨_, .list ho rfl rfl (.cons q .nil), by simp [Ne.symm n, nq]⟩
  | @l2 a x y d e2 e n hx hy ih1 ih2 =>
    intro u r
    cases r
    obtain ⟨its, m, rv, ho⟩ := lst_at I e
    cases rv with
    | cons r1 rr =>
      cases rr with
      | cons r2 rr =>
        cases rr
        obtain ⟨as, q, nq⟩ := ih1 r1
        obtain ⟨bs, q2, nq2⟩ := ih2 r2
        exact ⟨_, .list ho rfl rfl (.cons q (.cons q2 .nil)), by simp [Ne.symm n, nq, nq2]⟩
  | @t0 a e =>
    intro u r
    cases r
    obtain ⟨its, o, m, rv, ho, hc, hd⟩ := tup_at I e
    cases rv
    exact ⟨_, .tuple ho hc hd .nil, by simp⟩
  | @t1 a x d e hx ih =>
    intro u r
    cases r
    obtain ⟨its, o, m, rv, ho, hc, hd⟩ := tup_at I e
    cases rv with
    | cons r1 rr =>
      cases rr
      obtain ⟨as, q, nq⟩ := ih r1
      exact ⟨_, .tuple ho hc hd (.cons q .nil), by simp [nq]⟩
  | @t2 a x y d e2 e hx hy ih1 ih2 =>
    intro u r
    cases r
    obtain ⟨its, o, m, rv, ho, hc, hd⟩ := tup_at I e
    cases rv with
    | cons r1 rr =>
      cases rr with
      | cons r2 rr =>
        cases rr
        obtain ⟨as, q, nq⟩ := ih1 r1
        obtain ⟨bs, q2, nq2⟩ := ih2 r2
        exact ⟨_, .tuple ho hc hd (.cons q (.cons q2 .nil)), by simp [nq, nq2]⟩
end
/-- repr(x), x a datum of small depth and size -/
def rRepr : List V → Hp → VK → Prop := fun xs H Q => ∃ (x : V) (d : PyData), xs = [x] ∧ Dt H x d ∧ d.showable = true ∧ d.depth ≤ 100 ∧ d.shown.length ≤ 100000 ∧ Q (.str d.shown) H
theorem call_repr {X : Cx} {k : Nat} (hg : X.A.guards = some []) (hr : Room k X.A) : CallR X (.builtin "repr") rRepr := by
  intro pins s σ H xs us Q I r h
  obtain ⟨x, d, rfl, hd, hs, hdp, hz, q⟩ := h
  obtain ⟨u, rfl, ru⟩ := vals1 r
  have hz' : d.shown.length ≤ sizeLine := Nat.le_trans hz (by decide)
  obtain ⟨as, rd, ns⟩ := hd.reads I ru
  have hu : X.A.units + (d.depth + 1) < cLine := by have := hr.un; omega
  have viaRef : ∀ a, u = .ref a → wpAny (model X.prog X.w) X.A (call (.builtin "repr") [u]) (EP X pins σ Q) X.xe s := fun a e => by
    subst e
    exact repr_of_reads' rd hs (fun _ => ns) hg hu (fun _ _ e => e) (fun h' u tk k => ⟨.str d.shown, H, I.kept k, ⟨_, rfl⟩, q⟩) hz'
  cases hd with
  | non => cases ru; exact PySem.P.repr_of_none ⟨.str _, H, I.tok _, ⟨_, rfl⟩, by simpa only [PyData.shown] using q⟩
  | bl b => cases ru; exact PySem.P.repr_of_bool ⟨.str _, H, I.tok _, ⟨_, rfl⟩, by simpa only [PyData.shown] using q⟩
  | int i => obtain ⟨t, rfl⟩ := ru; exact PySem.P.repr_of_int (by simpa [PyData.showable] using hs) ⟨.str _, H, I.tok _, ⟨_, rfl⟩, by simpa only [PyData.shown] using q⟩
  | str x => obtain ⟨t, rfl⟩ := ru; exact PySem.P.repr_of_str ⟨.str _, H, I.tok _, ⟨_, rfl⟩, by simpa only [PyData.shown] using q⟩ (by simpa only [PyData.shown] using hz')
  | dic e => exact viaRef _ ru
  | l0 e n => exact viaRef _ ru
  | l1 e n h1 => exact viaRef _ ru
  | l2 e n h1 h2 => exact viaRef _ ru
  | t0 e => exact viaRef _ ru
  | t1 e h1 => exact viaRef _ ru
  | t2 e h1 h2 => exact viaRef _ ru
/-- what is told of a datum: it may be shown, so deep, so long -/
def Small (d : PyData) (n m : Nat) : Prop := d.showable = true ∧ d.depth ≤ n ∧ d.shown.length ≤ m
theorem int_len {k : Int} (hk : 0 ≤ k ∧ k < 100) : (PyData.shown (.int k)).length ≤ 3 := by
  have e : (toString k).length ≤ 2 + 1 := int_text_length_le10 (by decide) (by omega)
  simp only [PyData.shown]
  rw [PySem.ofString_length]
  exact e
theorem int_show {k : Int} (hk : 0 ≤ k ∧ k < 100) : k.natAbs.log2 < 1920 := by
  have := Nat.log2_le_self k.natAbs
  omega
theorem small_tup {d : PyData} {n m : Nat} {k : Int} (h : Small d n m) (hk : 0 ≤ k ∧ k < 100) : Small (.tuple [d, .int k]) (n + 1) (m + 10) := by
  obtain ⟨h1, h2, h3⟩ := h
  refine ⟨by simp [PyData.showable, PyData.showableAll, h1, int_show hk], by simp only [PyData.depth, PyData.depthAll]; omega, ?_⟩
  have e := tupleText_len_le (PyData.shownAll [d, .int k])
  have e2 := int_len hk
  simp only [PyData.shownAll, List.map_cons, List.map_nil, List.sum_cons, List.sum_nil, List.length_cons, List.length_nil] at e
  show (tupleText (PyData.shownAll [d, .int k])).length ≤ m + 10
  simp only [PyData.shownAll]
  omega
theorem small_lst {d : PyData} {n m : Nat} {k : Int} (h : Small d n m) (hk : 0 ≤ k ∧ k < 100) : Small (.list [.int k, d]) (n + 1) (m + 10) := by
  obtain ⟨h1, h2, h3⟩ := h
  refine ⟨by simp [PyData.showable, PyData.showableAll, h1, int_show hk], by simp only [PyData.depth, PyData.depthAll]; omega, ?_⟩
  have e := listText_len_le (PyData.shownAll [.int k, d])
  have e2 := int_len hk
  simp only [PyData.shownAll, List.map_cons, List.map_nil, List.sum_cons, List.sum_nil, List.length_cons, List.length_nil] at e
  show (listText (PyData.shownAll [.int k, d])).length ≤ m + 10
  simp only [PyData.shownAll]
  omega
theorem Small.mono {d : PyData} {n m n' m' : Nat} (h : Small d n m) (h1 : n ≤ n') (h2 : m ≤ m') : Small d n' m' := ⟨h.1, Nat.le_trans h.2.1 h1, Nat.le_trans h.2.2 h2⟩
end Ev
set_option maxHeartbeats 4000000
namespace LawK
open PySem PySem.Spec PyProof.Rows L2 Ev

def topS (i : Nat) : Stmt := PySem.Challenge.pw_everypiece_k43_whole_phrases.main.body.getD i (.Pass ⟨0, 0, 0, 0⟩)
abbrev sHand : Stmt := topS 22
theorem scHand : FnScope ["script", "cells", "cell"] ["script"] (defScope sHand) := ⟨rfl, rfl, rfl, by decide +kernel, rfl, by decide +kernel, by decide +kernel⟩
abbrev sDraw : Stmt := topS 23
theorem scDraw : FnScope ["hand", "many", "cell", "digit", "number"] ["hand", "many"] (defScope sDraw) := ⟨rfl, rfl, rfl, by decide +kernel, rfl, by decide +kernel, by decide +kernel⟩
/-! ### the hand of a law: what is left of the script, and a seed -/
def HandL (H : Hp) (p l : Addr) : Prop := ∃ (cells : List Int) (i r s n : Int), H p = some (.lst [.ref l, .int i, .int r, .int s, .int n]) ∧ H l = some (.lst (cells.map V.int)) ∧ l ≠ p ∧ 0 ≤ i ∧ 0 ≤ s ∧ s < 2147483647
/-- nothing but the hand at p has changed -/
def But (p : Addr) (H H' : Hp) : Prop := ∀ b o, b ≠ p → H b = some o → H' b = some o
theorem But.refl (p : Addr) (H : Hp) : But p H H := fun _ _ _ h => h
theorem But.trans {p : Addr} {H H1 H2 : Hp} (a : But p H H1) (b : But p H1 H2) : But p H H2 := fun c o n h => b c o n (a c o n h)
theorem But.new {p q : Addr} {H H1 : Hp} {o : HO} (a : But p H H1) (h : H1 q = none) : But p H (upd H1 q o) := fun c u n e => by
  have z := a c u n e
  rw [upd_ne (ne_of_none z h)]
  exact z
theorem But.same {p : Addr} {H H' : Hp} (a : Same H H') : But p H H' := fun c o _ e => a c o e
def spDraw : Sp := fun vs H Q _ => ∃ (p : Addr) (m : Int), vs = [.ref p, .int m] ∧ 0 < m ∧ m < 1000000 ∧ ∃ l, HandL H p l ∧ ∀ v H', 0 ≤ v → v < m → HandL H' p l → But p H H' → Q (.int v) H'
def spHand (K : PySem.W.Frag) : Sp := fun vs H Q _ => ∃ (a : Addr) (ns : List Int), vs = [.ref a] ∧ SqL K H a (ns.map V.int) ∧ ∀ p l H', H p = none → H l = none → HandL H' p l → Same H H' → Q (.ref p) H'
structure Glob (mg : Str → Option Value) : Prop where
  abs : mg "abs" = none
  any : mg "any" = none
  repr : mg "repr" = none
  reversed : mg "reversed" = none
  len : mg "len" = none
  int : mg "int" = none
  list : mg "list" = none
  range : mg "range" = none
  isinstance : mg "isinstance" = none
  bool : mg "bool" = none
  str : mg "str" = none
  tuple : mg "tuple" = none
  sum : mg "sum" = none
  ord : mg "ord" = none
  zip : mg "zip" = none
  max : mg "max" = none
  min : mg "min" = none
  all : mg "all" = none
  enumerate : mg "enumerate" = none
  sorted : mg "sorted" = none

theorem sq_of {K : PySem.W.Frag} {H : Hp} {a : Addr} {xs : List V} (h : H a = some (.lst xs)) : SqL K H a xs := .inl (.inl h)
theorem atI_in {α : Type} {xs : List α} {i : Int} (h0 : 0 ≤ i) (h1 : i < xs.length) : ∃ v, atI xs i = some v ∧ v ∈ xs := by
  obtain ⟨j, rfl⟩ := Int.eq_ofNat_of_zero_le h0
  have hj : j < xs.length := by omega
  exact ⟨xs[j], atI_nat (by rw [List.getElem?_eq_getElem hj]), List.getElem_mem hj⟩
theorem atI_int {xs : List Int} {i : Int} (h0 : 0 ≤ i) (h1 : i < xs.length) : ∃ c : Int, atI (xs.map V.int) i = some (.int c) := by
  obtain ⟨v, e, hm⟩ := atI_in (xs := xs.map V.int) h0 (by rw [List.length_map]; exact h1)
  obtain ⟨c, _, rfl⟩ := List.mem_map.mp hm
  exact ⟨c, e⟩
theorem Same.new {H : Hp} {q : Addr} {o : HO} (h : H q = none) : Same H (upd H q o) := fun b u e => by
  rw [upd_ne (ne_of_none e h)]
  exact e
theorem sameAt {H H' : Hp} {q : Addr} {o : HO} (k : Same H H') (h : H q = none) : Same H (upd H' q o) := fun b u e => by
  rw [upd_ne (ne_of_none e h)]
  exact k b u e
theorem Same.free {H H' : Hp} (k : Same H H') {a : Addr} (h : H' a = none) : H a = none := by
  cases e : H a with
  | none => rfl
  | some o =>
    rw [k _ _ e] at h
    cases h
theorem cells_cut {ns : List Int} {h : Option Int} : ∃ ms : List Int, cutV (ns.map V.int) none h = ms.map V.int ∧ ms.length ≤ ns.length := by
  refine ⟨(ns.drop (HT.sIx (ns.map V.int).length 0 none)).take (HT.sIx (ns.map V.int).length (ns.map V.int).length h - HT.sIx (ns.map V.int).length 0 none), ?_, ?_⟩
  · show ((ns.map V.int).drop _).take _ = _
    rw [← List.map_drop, ← List.map_take]
  · rw [List.length_take, List.length_drop]
    omega
theorem PSs.imp {X : Cx} {st : List Stmt} {t u : TS} (h : PSs X st u) (k : ∀ D σ H, t D σ H → u D σ H) : PSs X st t := ⟨fun pins s σ H D I q => h.run pins s σ H D I (k D σ H q)⟩
theorem PE.imp {X : Cx} {e : Expr} {t u : TE} (h : PE X e u) (k : ∀ σ H Q, t σ H Q → u σ H Q) : PE X e t := ⟨fun pins s σ H Q I q => h.run pins s σ H Q I (k σ H Q q)⟩
theorem PS.imp {X : Cx} {st : Stmt} {t u : TS} (h : PS X st u) (k : ∀ D σ H, t D σ H → u D σ H) : PS X st t := ⟨fun pins s σ H D I q => h.run pins s σ H D I (k D σ H q)⟩
def tTail : TS := fun D σ H => ∃ (p : Addr) (m : Int) (l : Addr) (cells : List Int) (i r s n : Int) (c f x : Option V), σ = [some (.ref p), some (.int m), c, f, x] ∧ 0 < m ∧ m < 1000000 ∧ H p = some (.lst [.ref l, .int i, .int r, .int s, .int n]) ∧ H l = some (.lst (cells.map V.int)) ∧ l ≠ p ∧ 0 ≤ i ∧ 0 ≤ s ∧ s < 2147483647 ∧
  ∀ v H', 0 ≤ v → v < m → HandL H' p l → But p H H' → D.rt (.int v) H'
theorem HandL.mk {H : Hp} {p l : Addr} {cells : List Int} {i r s n : Int} (hp : H p = some (.lst [.ref l, .int i, .int r, .int s, .int n])) (hl : H l = some (.lst (cells.map V.int))) (n0 : l ≠ p) (h1 : 0 ≤ i) (h2 : 0 ≤ s) (h3 : s < 2147483647) : HandL H p l := ⟨cells, i, r, s, n, hp, hl, n0, h1, h2, h3⟩
theorem but_upd {p : Addr} {H : Hp} {o : HO} : But p H (upd H p o) := fun b u n e => by
  rw [upd_ne n]
  exact e
theorem boot_ty_int : bootBuiltins "int" = some (.type "int") := by decide +kernel
section
variable {P : Program} {w : World} {K : PySem.W.Frag} {mg : Str → Option Value} {base : Heap}

theorem ok_Hand {f : Addr} {fd : FuncData} (F : Fun K "_law_hand" "_law_hand" sHand f fd) (T : Glob mg) : FnOk P w K mg base CX0 1 f fd ["script"] (spHand K) := by
  refine F.ok scHand (fun vs H Q E h => ?_) (fun cdv A outer s H vs Q E hr h => ?_)
  · obtain ⟨a, ns, rfl, _⟩ := h
    rfl
  · obtain ⟨a, ns, rfl, hS, q⟩ := h
    refine ⟨_, (pss_cons (ps_setLc (i := 1) (own := [("cell", 2)]) (g := gName 2) (by rfl) scHand.nd rfl rfl (sw_true rfl rfl rfl (by decide +kernel)) (pi_list (pe_slice sl_list (pv 0) po_none (po_some pe_int))) (blkOk_by (N := ["script", "cells", "cell"]) (sc := defScope sHand) (by decide +kernel)) (fun _ _ _ _ _ => pg_name (i := 2) scHand.nd rfl (.inl rfl)) (fun _ _ _ _ _ => pts_nil) (fun _ _ _ _ _ => (pe_callB call_abs (by rfl) T.abs (by decide +kernel) (pa_cons (pe_callTy call_int1 (by rfl) T.int boot_ty_int (pa_cons (pv 2) pa_nil)) pa_nil))))
      (pss_one (ps_ret (pe_lst (pa_cons (pv 1) (pa_cons pe_int (pa_cons pe_int (pa_cons (pe_op op_add pe_int (pe_callB call_len_seq (by rfl) T.len PySem.boot_len (pa_cons (pv 1) pa_nil))) (pa_cons pe_int pa_nil))))))))), ?_⟩
    obtain ⟨ms, ec, lm⟩ := cells_cut (ns := ns) (h := some 63)
    have lc : (cutV (ns.map V.int) none (some (63 : Int))).length ≤ 63 := by
      show (((ns.map V.int).drop _).take _).length ≤ 63
      rw [List.length_take]
      have : HT.sIx (ns.map V.int).length (ns.map V.int).length (some (63 : Int)) ≤ 63 := Nat.min_le_left _ _
      omega
    refine ⟨.ref a, rfl, 63, rfl, a, _, rfl, hS, fun c nc => ?_⟩
    rw [ec]
    rw [ec, List.length_map] at lc
    have kc := Same.new (o := .lst (ms.map V.int)) nc
    have hc : upd H c (.lst (ms.map V.int)) c = some (.lst (ms.map V.int)) := upd_same
    revert kc hc
    generalize upd H c (.lst (ms.map V.int)) = H1
    intro kc hc
    refine ⟨c, rfl, ⟨_, sq_of hc⟩, fun l nl => lc_list (xs := ms.map V.int) (fun i H' => Same H1 H' ∧ ∃ zs : List Int, H' l = some (.lst (zs.map V.int)) ∧ zs.length = i) ⟨Same.new nl, [], upd_same, rfl⟩ (fun i H' _ w => sq_of (w.1 _ _ hc)) ?_ ?_⟩
    · rintro i x H2 hx ⟨k2, zs, hl, lz⟩
      rw [List.getElem?_map] at hx
      obtain ⟨y, hy, rfl⟩ := Option.map_eq_some_iff.mp hx
      have li := (List.getElem?_eq_some_iff.mp hy).1
      refine ⟨rfl, .int y, rfl, .inl ⟨y, rfl, y, rfl, _, hl, ?_, sameAt k2 nl, zs ++ [if y < 0 then -y else y], ?_, by rw [List.length_append, lz]; rfl⟩⟩
      · rw [List.length_map, lz, sizeLine_eq]
        omega
      · rw [upd_same, List.map_append]
        rfl
    · rintro H2 ⟨k2, zs, hl, lz⟩
      rw [List.length_map] at lz
      refine ⟨.ref l, rfl, .ref l, rfl, l, _, rfl, .inl (sq_of hl), _, _, rfl, rfl, by show 5 ≤ sizeLine; decide, fun p hp => ?_⟩
      have nlp : l ≠ p := fun e => by
        rw [e] at hl
        rw [hl] at hp
        cases hp
      have kH2 : Same H H2 := kc.trans k2
      have ncl : H l = none := Same.free kc nl
      refine q p l _ (Same.free kH2 hp) ncl ⟨zs, 0, 0, 1 + (((zs.map V.int).length : Nat) : Int), 0, upd_same, by rw [upd_ne nlp]; exact hl, nlp, by decide, by omega, ?_⟩ (sameAt kH2 (Same.free kH2 hp))
      rw [List.length_map]
      omega
theorem ok_Draw {f : Addr} {fd : FuncData} (F : Fun K "_law_draw" "_law_draw" sDraw f fd) (T : Glob mg) : FnOk P w K mg base CX0 1 f fd ["hand", "many"] spDraw := by
  refine F.ok scDraw (fun vs H Q E h => ?_) (fun cdv A outer s H vs Q E hr h => ?_)
  · obtain ⟨p, m, rfl, _⟩ := h
    rfl
  · obtain ⟨p, m, rfl, m0, m1, l, ⟨cells, i, r, s0, n, hp, hl, npl, hi, hs0, hs1⟩, q⟩ := h
    refine ⟨_, (pss_cons (ps_if (PW.pt (pw_and (pt_cmpR op_eq (pe_ix ix_list (pv 0) pe_int (fun _ _ => rfl)) pe_int (nomark _)) (pw_and1 (pt_cmpR op_lt (pe_ix ix_list (pv 0) pe_int (fun _ _ => rfl)) (pe_callB call_len_seq (by rfl) T.len PySem.boot_len (pa_cons (pe_ix ix_list (pv 0) pe_int (fun _ _ => rfl)) pa_nil)) (nomark _)))))
      (pss_cons (ps_set (i := 2) scDraw.nd rfl (.inl rfl) (pe_ix ix_list (pe_ix ix_list (pv 0) pe_int (fun _ _ => rfl)) (pe_ix ix_list (pv 0) pe_int (fun _ _ => rfl)) (fun _ _ => rfl)))
        (pss_cons (ps_asg (pe_op op_add (pe_ix ix_list (pv 0) pe_int (fun _ _ => rfl)) pe_int) (pg_sub (pv 0) pe_int set_list))
        (pss_cons (ps_asg (pe_op op_mod (pe_callTy call_int1 (by rfl) T.int boot_ty_int (pa_cons (pe_op op_add (pe_op op_add (pe_op op_mul (pe_ix ix_list (pv 0) pe_int (fun _ _ => rfl)) pe_int) (pv 2)) pe_int) pa_nil)) pe_int) (pg_sub (pv 0) pe_int set_list))
        (pss_one (ps_if (pt_cmpR op_ge (pv 2) (pe_op op_pow pe_int pe_int) (nomark _))
        (pss_one (ps_asg (pv 2) (pg_sub (pv 0) pe_int set_list)))
        pss_nil)))))
      pss_nil)
      (PSs.imp (t := tTail) (pss_cons (ps_if (pt_cmpR op_gt (pe_ix ix_list (pv 0) pe_int (fun _ _ => rfl)) pe_int (nomark _))
      (pss_cons (ps_set (i := 3) scDraw.nd rfl (.inl rfl) (pe_op op_mod (pe_callTy call_int1 (by rfl) T.int boot_ty_int (pa_cons (pe_ix ix_list (pv 0) pe_int (fun _ _ => rfl)) pa_nil)) (pv 1)))
        (pss_cons (ps_asg (pe_op op_fdiv (pe_ix ix_list (pv 0) pe_int (fun _ _ => rfl)) (pv 1)) (pg_sub (pv 0) pe_int set_list))
        (pss_one (ps_ret (pv 3)))))
      pss_nil)
      (pss_cons (ps_asg (pe_op op_add (pe_ix ix_list (pv 0) pe_int (fun _ _ => rfl)) pe_int) (pg_sub (pv 0) pe_int set_list))
      (pss_cons (ps_set (i := 4) scDraw.nd rfl (.inl rfl) (pe_op op_mod (pe_callTy call_int1 (by rfl) T.int boot_ty_int (pa_cons (pe_op op_mul (pe_callTy call_int1 (by rfl) T.int boot_ty_int (pa_cons (pe_op op_add (pe_ix ix_list (pv 0) pe_int (fun _ _ => rfl)) (pe_op op_mul pe_int (pe_ix ix_list (pv 0) pe_int (fun _ _ => rfl)))) pa_nil)) pe_int) pa_nil)) pe_int))
      (pss_cons (ps_set (i := 4) scDraw.nd rfl (.inl rfl) (pe_op op_mod (pe_callTy call_int1 (by rfl) T.int boot_ty_int (pa_cons (pe_op op_mul (pv 4) (pe_op op_add (pe_op op_fdiv (pv 4) pe_int) pe_int)) pa_nil)) pe_int))
      (pss_cons (ps_set (i := 4) scDraw.nd rfl (.inl rfl) (pe_op op_mod (pe_callTy call_int1 (by rfl) T.int boot_ty_int (pa_cons (pe_op op_mul (pv 4) (pe_op op_add (pe_op op_fdiv (pv 4) pe_int) pe_int)) pa_nil)) pe_int))
      (pss_one (ps_ret (pe_op op_mod (pe_callTy call_int1 (by rfl) T.int boot_ty_int (pa_cons (pe_op op_fdiv (pv 4) pe_int) pa_nil)) (pv 1))))))))) ?tail)), ?_⟩
    case tail =>
      rintro D σ H ⟨p, m, l, cells, i, r, s, n, c, f, x, rfl, m0, m1, hp, hl, npl, hi, hs0, hs1, q⟩
      refine ⟨.ref p, rfl, p, _, 2, _, rfl, rfl, sq_of hp, rfl, _, _, rfl, rfl, _, rfl, ite2 (fun e => ?_) (fun e => ?_)⟩
      · refine ⟨.ref p, rfl, p, _, 2, _, rfl, rfl, sq_of hp, rfl, .inl ⟨r, rfl, .int m, rfl, _, _, rfl, rfl, m0, ?_⟩⟩
        refine ⟨.ref p, rfl, p, _, 2, _, rfl, rfl, sq_of hp, rfl, .int m, rfl, _, _, rfl, rfl, ⟨m0, by omega⟩, ?_⟩
        refine ⟨.ref p, rfl, p, _, 2, 2, rfl, rfl, hp, rfl, ?_⟩
        refine ⟨_, rfl, ?_⟩
        refine q _ _ (Int.emod_nonneg _ (by omega)) (Int.emod_lt_of_pos _ m0) (.mk upd_same (by rw [upd_ne npl]; exact hl) npl hi hs0 hs1) but_upd
      · dsimp only [tNext, tDrop]
        refine ⟨.ref p, rfl, p, _, 4, _, rfl, rfl, sq_of hp, rfl, _, _, rfl, rfl, .ref p, rfl, p, _, 4, 4, rfl, rfl, hp, rfl, ?_⟩
        dsimp only
        have hp2 : upd H p (.lst (List.set [.ref l, .int i, .int r, .int s, .int n] 4 (.int (n + 1)))) p = some (.lst [.ref l, .int i, .int r, .int s, .int (n + 1)]) := upd_same
        have hl2 : upd H p (.lst (List.set [.ref l, .int i, .int r, .int s, .int n] 4 (.int (n + 1)))) l = some (.lst (cells.map V.int)) := by rw [upd_ne npl]; exact hl
        have b2 : But p H (upd H p (.lst (List.set [.ref l, .int i, .int r, .int s, .int n] 4 (.int (n + 1))))) := but_upd
        generalize upd H p (.lst (List.set [.ref l, .int i, .int r, .int s, .int n] 4 (.int (n + 1)))) = H2 at hp2 hl2 b2 ⊢
        refine ⟨.ref p, rfl, p, _, 3, _, rfl, rfl, sq_of hp2, rfl, .ref p, rfl, p, _, 4, _, rfl, rfl, sq_of hp2, rfl, 7919, n + 1, rfl, rfl, .inl ⟨by decide, by decide⟩, _, _, rfl, rfl, .inl ⟨_, rfl, _, _, rfl, rfl, .inr ⟨by decide, by decide⟩, .inl ⟨_, rfl, _, _, rfl, rfl, (by show (0 : Int) < 2147483647; decide), ?_⟩⟩⟩
        dsimp only
        have a2 : 0 ≤ ((s + 7919 * (n + 1)) * 48271) % 2147483647 := Int.emod_nonneg _ (by decide)
        have a3 : ((s + 7919 * (n + 1)) * 48271) % 2147483647 < 2147483647 := Int.emod_lt_of_pos _ (by decide)
        generalize ((s + 7919 * (n + 1)) * 48271) % 2147483647 = y at a2 a3 ⊢
        refine ⟨.int y, rfl, .int y, rfl, _, _, rfl, rfl, ⟨by decide, by decide⟩, _, _, rfl, rfl, _, _, rfl, rfl, .inl ⟨by omega, by omega⟩, .inl ⟨_, rfl, _, _, rfl, rfl, (by show (0 : Int) < 2147483647; decide), ?_⟩⟩
        dsimp only
        have a4 : 0 ≤ (y * (y / 1009 + 69621)) % 2147483647 := Int.emod_nonneg _ (by decide)
        have a5 : (y * (y / 1009 + 69621)) % 2147483647 < 2147483647 := Int.emod_lt_of_pos _ (by decide)
        generalize (y * (y / 1009 + 69621)) % 2147483647 = z at a4 a5 ⊢
        refine ⟨.int z, rfl, .int z, rfl, _, _, rfl, rfl, ⟨by decide, by decide⟩, _, _, rfl, rfl, _, _, rfl, rfl, .inl ⟨by omega, by omega⟩, .inl ⟨_, rfl, _, _, rfl, rfl, (by show (0 : Int) < 2147483399; decide), ?_⟩⟩
        refine ⟨_, rfl, _, _, rfl, rfl, ⟨by decide, by decide⟩, .inl ⟨_, rfl, .int m, rfl, _, _, rfl, rfl, m0, ?_⟩⟩
        exact q _ _ (Int.emod_nonneg _ (by omega)) (Int.emod_lt_of_pos _ m0) (.mk hp2 hl2 npl hi hs0 hs1) b2
    have fin : ∀ {H2 : Hp} {i r s n : Int} {c : Option V}, H2 p = some (.lst [.ref l, .int i, .int r, .int s, .int n]) → H2 l = some (.lst (cells.map V.int)) → 0 ≤ i → 0 ≤ s → s < 2147483647 → But p H H2 →
        tTail { nx := fun _ H' => Q .non H', rt := Q } [some (.ref p), some (.int m), c, none, none] H2 := fun {H2 i r s n c} h1 h2 h3 h4 h5 h6 =>
      ⟨p, m, l, cells, i, r, s, n, c, none, none, rfl, m0, m1, h1, h2, npl, h3, h4, h5, fun v H' g1 g2 g3 g4 => q v H' g1 g2 g3 (h6.trans g4)⟩
    refine ⟨.ref p, rfl, p, _, 2, _, rfl, rfl, sq_of hp, rfl, rfl, _, rfl, ite2 (fun e => ?_) (fun e => ?_)⟩
    · refine ⟨.ref p, rfl, p, _, 1, _, rfl, rfl, sq_of hp, rfl, .ref p, rfl, p, _, 0, _, rfl, rfl, sq_of hp, rfl, l, _, rfl, .inl (sq_of hl), _, _, rfl, rfl, _, rfl, ite2 (fun e2 => ?_) (fun e2 => ?_)⟩
      · have hlt : i < (cells.length : Int) := by
          have z := of_decide_eq_true e2
          rw [List.length_map] at z
          exact z
        obtain ⟨c, hc⟩ := atI_int hi hlt
        refine ⟨.ref p, rfl, p, _, 0, _, rfl, rfl, sq_of hp, rfl, .ref p, rfl, p, _, 1, _, rfl, rfl, sq_of hp, rfl, l, _, i, _, rfl, rfl, sq_of hl, hc, ?_⟩
        refine ⟨.ref p, rfl, p, _, 1, _, rfl, rfl, sq_of hp, rfl, _, _, rfl, rfl, .ref p, rfl, p, _, 1, 1, rfl, rfl, hp, rfl, ?_⟩
        dsimp only
        have hp2 : upd H p (.lst (List.set [.ref l, .int i, .int r, .int s0, .int n] 1 (.int (i + 1)))) p = some (.lst [.ref l, .int (i + 1), .int r, .int s0, .int n]) := upd_same
        have hl2 : upd H p (.lst (List.set [.ref l, .int i, .int r, .int s0, .int n] 1 (.int (i + 1)))) l = some (.lst (cells.map V.int)) := by rw [upd_ne npl]; exact hl
        have b2 : But p H (upd H p (.lst (List.set [.ref l, .int i, .int r, .int s0, .int n] 1 (.int (i + 1))))) := but_upd
        generalize upd H p (.lst (List.set [.ref l, .int i, .int r, .int s0, .int n] 1 (.int (i + 1)))) = H2 at hp2 hl2 b2 ⊢
        refine ⟨.ref p, rfl, p, _, 3, _, rfl, rfl, sq_of hp2, rfl, s0, 69621, rfl, rfl, .inl ⟨by omega, by omega⟩, .int c, rfl, _, _, rfl, rfl, _, _, rfl, rfl, .inl ⟨_, rfl, _, _, rfl, rfl, (by show (0 : Int) < 2147483629; decide), .ref p, rfl, p, _, 3, 3, rfl, rfl, hp2, rfl, ?_⟩⟩
        dsimp only
        have a0 : 0 ≤ (s0 * 69621 + c + 11) % 2147483629 := Int.emod_nonneg _ (by decide)
        have a1 : (s0 * 69621 + c + 11) % 2147483629 < 2147483629 := Int.emod_lt_of_pos _ (by decide)
        generalize (s0 * 69621 + c + 11) % 2147483629 = s2 at a0 a1 ⊢
        have hp3 : upd H2 p (.lst (List.set [.ref l, .int (i + 1), .int r, .int s0, .int n] 3 (.int s2))) p = some (.lst [.ref l, .int (i + 1), .int r, .int s2, .int n]) := upd_same
        have hl3 : upd H2 p (.lst (List.set [.ref l, .int (i + 1), .int r, .int s0, .int n] 3 (.int s2))) l = some (.lst (cells.map V.int)) := by rw [upd_ne npl]; exact hl2
        have b3 : But p H (upd H2 p (.lst (List.set [.ref l, .int (i + 1), .int r, .int s0, .int n] 3 (.int s2)))) := b2.trans but_upd
        generalize upd H2 p (.lst (List.set [.ref l, .int (i + 1), .int r, .int s0, .int n] 3 (.int s2))) = H3 at hp3 hl3 b3 ⊢
        refine ⟨.int c, rfl, _, _, rfl, rfl, ⟨by decide, by decide, by decide⟩, _, _, rfl, rfl, _, rfl, ite2 (fun _ => ?_) (fun _ => ?_)⟩
        · refine ⟨.int c, rfl, .ref p, rfl, p, _, 2, 2, rfl, rfl, hp3, rfl, ?_⟩
          exact fin upd_same (by rw [upd_ne npl]; exact hl3) (by omega) a0 (by omega) (b3.trans but_upd)
        · dsimp only [tNext, tDrop]
          exact fin hp3 hl3 (by omega) a0 (by omega) b3
      · dsimp only [tNext, tDrop]
        exact fin hp hl hi hs0 hs1 (But.refl _ _)
    · dsimp only [tNext, tDrop]
      exact fin hp hl hi hs0 hs1 (But.refl _ _)
end
end LawK
set_option maxHeartbeats 4000000
/-! Texts: how long, so many times, which signs; kinds of values. -/
namespace Ev
open PySem PySem.Spec PyProof.Rows L2
def rLenZ : List V → Hp → VK → Prop := fun xs H Q => ∃ z : Str, xs = [.str z] ∧ z.length ≤ sizeLine ∧ Q (.int z.length) H
theorem call_lenZ {X : Cx} : CallR X (.builtin "len") rLenZ := fun pins s σ H xs us Q I r h =>
  call_len pins s σ H xs us Q I r (let ⟨z, e, hz, q⟩ := h; ⟨.str z, z.length, e, ⟨hz, rfl⟩, q⟩)
def rMulS : R2 := fun x y H Q => ∃ (z : Str) (n : Int), x = .str z ∧ y = .int n ∧ 0 ≤ n ∧ n ≤ 3000 ∧ z.length ≤ 1000 ∧ Q (.str (Txt.mul z n)) H
theorem mul_ok {z : Str} {n : Int} (h0 : 0 ≤ n) (h1 : n ≤ 3000) (h2 : z.length ≤ 1000) : MulOk z n := by
  refine ⟨by simp; omega, fun a _ => ?_, fun _ _ => ?_⟩
  · have e : (1000 : Int) ≤ (2 ^ 63 - 1) / n := by
      refine Int.le_ediv_of_mul_le (by omega) ?_
      have : (2 : Int) ^ 63 - 1 = 9223372036854775807 := by decide
      omega
    omega
  · have e : z.length * n.toNat ≤ 1000 * 3000 := Nat.mul_le_mul h2 (by omega)
    have h3 : sizeLine = 16777216 := sizeLine_eq
    show decide (z.length * n.toNat > sizeLine) = false
    exact decide_eq_false (by omega)
theorem op_mulS {X : Cx} : OpR X (binaryOp .Mult) rMulS := by
  intro pins s σ H x y v u Q I rx ry h
  obtain ⟨z, n, rfl, rfl, h0, h1, h2, q⟩ := h
  obtain ⟨t, rfl⟩ := rx
  obtain ⟨t', rfl⟩ := ry
  exact SB.mul (mul_ok h0 h1 h2) fun t' k => ⟨.str _, H, I.tok _, ⟨_, rfl⟩, q⟩
/-- every sign of the text is one from the blank to the tilde -/
def sgC (c : Nat) : Bool := decide (32 ≤ c) && decide (c ≤ 126)
def sgB (z : Str) : Bool := z.cps.toList.all sgC
theorem prn128 : ∀ c : Fin 128, Unicode.isPrintable c.val = sgC c.val := by decide +kernel
theorem sgC_of (c : Nat) : (decide (c < 128) && Unicode.isPrintable c) = sgC c := by
  by_cases h : c < 128
  · rw [decide_eq_true h, Bool.true_and]
    exact prn128 ⟨c, h⟩
  · rw [decide_eq_false h, Bool.false_and]
    unfold sgC
    rw [decide_eq_false (show ¬ c ≤ 126 by omega), Bool.and_false]
theorem sgB_of (z : Str) : (Txt.isascii z && Txt.isprintable z) = sgB z := by
  unfold Txt.isascii Txt.isprintable sgB
  rw [← Array.all_toList, ← Array.all_toList]
  generalize z.cps.toList = l
  induction l with
  | nil => rfl
  | cons c l ih =>
    rw [List.all_cons, List.all_cons, List.all_cons, ← sgC_of, ← ih]
    cases decide (c < 128) <;> cases Unicode.isPrintable c <;> cases l.all (fun c => decide (c < 128)) <;> rfl
/-! ### kinds -/
inductive Kn | non | bl | int | str | lst | tup | dic
  deriving DecidableEq
def Kn.name : Kn → String
  | .non => "NoneType"
  | .bl => "bool"
  | .int => "int"
  | .str => "str"
  | .lst => "list"
  | .tup => "tuple"
  | .dic => "dict"
def kitB : Kn → Kn → Bool
  | .bl, .int => true
  | a, b => decide (a = b)
inductive Kd (H : Hp) : V → Kn → Prop
  | non : Kd H .non .non
  | bl (b : Bool) : Kd H (.bl b) .bl
  | int (i : Int) : Kd H (.int i) .int
  | str (z : Str) : Kd H (.str z) .str
  | lst {a : Addr} {xs : List V} (e : H a = some (.lst xs)) : Kd H (.ref a) .lst
  | tup {a : Addr} {xs : List V} (e : H a = some (.tup xs)) : Kd H (.ref a) .tup
  | dic {a : Addr} {kvs : List (Key × V)} (e : H a = some (.dK kvs)) : Kd H (.ref a) .dic
theorem Kd.tyx {K : PySem.W.Frag} {H : Hp} {x : V} {k : Kn} (h : Kd H x k) : TyX K H x (.type k.name) := by
  cases h with
  | non => exact .base .non
  | bl b => exact .base (.bl b)
  | int i => exact .base (.int i)
  | str z => exact .base (.str z)
  | lst e => exact .base (.lst e)
  | tup e => exact .base (.tup e)
  | dic e => exact .base (.dK e)
theorem Kd.same {H H' : Hp} (s : ∀ b o, H b = some o → H' b = some o) {x : V} {k : Kn} (h : Kd H x k) : Kd H' x k := by
  cases h with
  | non => exact .non
  | bl b => exact .bl b
  | int i => exact .int i
  | str z => exact .str z
  | lst e => exact .lst (s _ _ e)
  | tup e => exact .tup (s _ _ e)
  | dic e => exact .dic (s _ _ e)
theorem kit_kn {K : PySem.W.Frag} : ∀ a b : Kn, PySem.W.kitOne K (.type a.name) (.type b.name) = some (kitB a b) := by
  intro a b
  cases a <;> cases b <;> exact kit_ty (by decide +kernel)
theorem rd_isi {K : PySem.W.Frag} {H : Hp} {x : V} {k : Kn} {Q : VK} (T : Kn) (h : Kd H x k) (q : Q (.bl (kitB k T)) H) : rIsi K [x, .ty T.name] H Q :=
  ⟨x, .ty T.name, .type k.name, .type T.name, kitB k T, rfl, .ty _, h.tyx, kit_kn k T, q⟩
/-- for c in s -/
theorem for_strZ {z : Str} {g : TG} {tb : TS} {D : Ends} {σ : L2.St} {H : Hp} (Pv : Nat → L2.St → Hp → Prop) (h0 : Pv 0 σ H)
    (hs : ∀ i c σ H, z.cps[i]? = some c → Pv i σ H → g (.str ⟨#[c]⟩) σ H fun σ2 H2 => tb { D with nx := Pv (i + 1), ct := Pv (i + 1), bk := D.nx } σ2 H2) (hd : ∀ σ H, Pv z.cps.size σ H → D.nx σ H) :
    ∃ W : Nat → Nat → L2.St → Hp → Prop, (∃ m, W 0 m σ H) ∧ ∀ i m σ H, W i m σ H →
      ((Its z).stop i H ∧ D.nx σ H) ∨ ((Its z).go i H ∧ ∃ N : L2.St → Hp → Prop, (∀ σ' H', N σ' H' → ∃ m', m' < m ∧ W (i + 1) m' σ' H') ∧ ∀ x H', (Its z).yld i H x H' → g x σ H' fun σ2 H2 => tb { D with nx := N, ct := N, bk := D.nx } σ2 H2) := by
  refine ⟨fun i m σ H => m = z.cps.size - i ∧ i ≤ z.cps.size ∧ Pv i σ H, ⟨z.cps.size, by simp, Nat.zero_le _, h0⟩, ?_⟩
  rintro i m σ H ⟨rfl, hi, p⟩
  by_cases hlt : i < z.cps.size
  · refine .inr ⟨hlt, Pv (i + 1), fun σ' H' p' => ⟨z.cps.size - (i + 1), by omega, rfl, hlt, p'⟩, fun x H' y => ?_⟩
    obtain ⟨e, c, hc, ex⟩ := y
    subst e ex
    exact hs i c σ _ hc p
  · have e : i = z.cps.size := by omega
    subst e
    exact .inl ⟨Nat.le_refl _, hd σ H p⟩
def sgV : V → Bool
  | .str z => sgB z
  | _ => false
def wordV : V → Bool
  | .str z => sgB z && decide ((0 : Int) < (z.length : Int))
  | _ => false
/-- no text is too long -/
def Vs (x : V) : Prop := ∀ z, x = .str z → z.length ≤ 5000
theorem len5 {n : Nat} (h : n ≤ 5000) : n ≤ sizeLine := by
  have h3 : sizeLine = 16777216 := sizeLine_eq
  omega
def spSg : Sp := fun vs H Q _ => ∃ x k, vs = [x] ∧ Kd H x k ∧ Vs x ∧ Q (.bl (sgV x)) H
def spWd : Sp := fun vs H Q _ => ∃ x k, vs = [x] ∧ Kd H x k ∧ Vs x ∧ Q (.bl (wordV x)) H
def spInt : Sp := fun vs H Q _ => ∃ x k, vs = [x] ∧ Kd H x k ∧ Q (.bl (decide (k = .int))) H
def numV : V → Bool
  | .int i => decide (0 ≤ i)
  | _ => false
def spNum : Sp := fun vs H Q _ => ∃ x k, vs = [x] ∧ Kd H x k ∧ Q (.bl (numV x)) H
def inV2 (a b : Int) : V → Bool
  | .int i => decide (a ≤ i) && decide (i ≤ b)
  | _ => false
def spIn : Sp := fun vs H Q _ => ∃ x k a b, vs = [x, .int a, .int b] ∧ Kd H x k ∧ Q (.bl (inV2 a b x)) H
theorem sgB_at {z : Str} {i c : Nat} (h : z.cps[i]? = some c) (n : sgC c = false) : sgB z = false := by
  unfold sgB
  rw [List.all_eq_false]
  refine ⟨c, ?_, by simp [n]⟩
  rw [← Array.getElem?_toList] at h
  exact List.mem_of_getElem? h
theorem sgB_all {z : Str} (h : ∀ i c : Nat, z.cps[i]? = some c → sgC c = true) : sgB z = true := by
  unfold sgB
  rw [List.all_eq_true]
  intro c hc
  obtain ⟨i, hi, e⟩ := List.mem_iff_getElem.mp hc
  refine h i c ?_
  rw [← Array.getElem?_toList, List.getElem?_eq_getElem hi, e]
end Ev
set_option maxHeartbeats 4000000
/-! Things that are judged: what they are, as far as it is asked. -/
namespace Ev
open PySem PySem.Spec PyProof.Rows L2
def dsm0 : PyData → Bool
  | .str z => decide (z.length ≤ 100) && PyData.strOk z
  | _ => true
/-- no text in it is long -/
def dsm : PyData → Bool
  | .list ds => ds.all dsm0
  | .tuple ds => ds.all dsm0
  | d => dsm0 d
theorem Dt.kd {H : Hp} {v : V} {d : PyData} (h : Dt H v d) : ∃ k, Kd H v k := by
  cases h with
  | non => exact ⟨_, .non⟩
  | bl b => exact ⟨_, .bl b⟩
  | int i => exact ⟨_, .int i⟩
  | str x => exact ⟨_, .str x⟩
  | dic e => exact ⟨_, .dic e⟩
  | l0 e n => exact ⟨_, .lst e⟩
  | l1 e n _ => exact ⟨_, .lst e⟩
  | l2 e n _ _ => exact ⟨_, .lst e⟩
  | t0 e => exact ⟨_, .tup e⟩
  | t1 e _ => exact ⟨_, .tup e⟩
  | t2 e _ _ => exact ⟨_, .tup e⟩
theorem Dt.vs {H : Hp} {v : V} {d : PyData} (h : Dt H v d) (s : dsm0 d = true) : Vs v := by
  cases h with
  | str x =>
    intro z e
    cases e
    have q : x.length ≤ 100 := of_decide_eq_true (Bool.and_eq_true_iff.mp s).1
    exact Nat.le_trans q (by decide)
  | non => exact fun z e => by cases e
  | bl b => exact fun z e => by cases e
  | int i => exact fun z e => by cases e
  | dic e => exact fun z e => by cases e
  | l0 e n => exact fun z e => by cases e
  | l1 e n _ => exact fun z e => by cases e
  | l2 e n _ _ => exact fun z e => by cases e
  | t0 e => exact fun z e => by cases e
  | t1 e _ => exact fun z e => by cases e
  | t2 e _ _ => exact fun z e => by cases e
/-- a thing; some xs: a tuple of xs -/
inductive Tg (H : Hp) : V → Option (List V) → Prop
  | no {x : V} {k : Kn} (h : Kd H x k) (n : k ≠ .tup) (s : Vs x) : Tg H x none
  | tup {a : Addr} {xs : List V} (e : H a = some (.tup xs)) (n : xs.length ≤ 30) (h : ∀ y ∈ xs, (∃ k, Kd H y k) ∧ Vs y) : Tg H (.ref a) (some xs)
theorem Tg.kd {H : Hp} {x : V} {o : Option (List V)} (h : Tg H x o) : ∃ k, Kd H x k ∧ (k = .tup ↔ o.isSome = true) := by
  cases h with
  | no h n s => exact ⟨_, h, fun e => absurd e n, fun e => by cases e⟩
  | tup e n h => exact ⟨_, .tup e, fun _ => rfl, fun _ => rfl⟩
theorem Tg.vs {H : Hp} {x : V} {o : Option (List V)} (h : Tg H x o) : Vs x := by
  cases h with
  | no h n s => exact s
  | tup e n h => exact fun z e => by cases e
theorem Tg.same {H H' : Hp} (s : ∀ b o, H b = some o → H' b = some o) {x : V} {o : Option (List V)} (h : Tg H x o) : Tg H' x o := by
  cases h with
  | no h n z => exact .no (h.same s) n z
  | tup e n h => exact .tup (s _ _ e) n fun y hy => ⟨let ⟨k, q⟩ := (h y hy).1; ⟨k, q.same s⟩, (h y hy).2⟩
theorem Dt.tg {H : Hp} {v : V} {d : PyData} (h : Dt H v d) (s : dsm d = true) : ∃ o, Tg H v o := by
  cases h with
  | non => exact ⟨_, .no .non (by decide) fun z e => by cases e⟩
  | bl b => exact ⟨_, .no (.bl b) (by decide) fun z e => by cases e⟩
  | int i => exact ⟨_, .no (.int i) (by decide) fun z e => by cases e⟩
  | str x => exact ⟨_, .no (.str x) (by decide) (Dt.vs (.str (H := H) x) s)⟩
  | dic e => exact ⟨_, .no (.dic e) (by decide) fun z e => by cases e⟩
  | l0 e n => exact ⟨_, .no (.lst e) (by decide) fun z e => by cases e⟩
  | l1 e n _ => exact ⟨_, .no (.lst e) (by decide) fun z e => by cases e⟩
  | l2 e n _ _ => exact ⟨_, .no (.lst e) (by decide) fun z e => by cases e⟩
  | t0 e => exact ⟨_, .tup e (by decide) fun y hy => absurd hy (by simp)⟩
  | @t1 a x d e hx =>
    have s1 : dsm0 d = true := List.all_eq_true.mp s d (by simp)
    exact ⟨_, .tup e (by simp) fun y hy => by
      obtain rfl := List.mem_singleton.mp hy
      exact ⟨hx.kd, hx.vs s1⟩⟩
  | @t2 a x z d1 d2 e hx hz =>
    have s1 : dsm0 d1 = true := List.all_eq_true.mp s d1 (by simp)
    have s2 : dsm0 d2 = true := List.all_eq_true.mp s d2 (by simp)
    refine ⟨_, .tup e (by simp) fun y hy => ?_⟩
    rcases List.mem_cons.mp hy with g | g
    · rw [g]
      exact ⟨hx.kd, hx.vs s1⟩
    · rw [List.mem_singleton.mp g]
      exact ⟨hz.kd, hz.vs s2⟩
def slen : V → Nat
  | .str z => z.length
  | _ => 0
/-- what is wrong with a thing that is to be texts -/
def badOf : Option (List V) → V
  | none => .int (-1)
  | some xs => if xs.length > 8 then .int (-1) else match xs.findIdx? (fun y => !sgV y) with
    | some k => .int (k : Int)
    | none => if (xs.map slen).sum > 2000 then .str (Str.ofString "long") else .non
/-- whether a thing is a place of these texts -/
def placeV (ts : List Str) : Option (List V) → Bool
  | some [x, y] => inV2 0 ((ts.length : Int) - 1) x && (match x with
    | .int i => inV2 0 (((ts.getD i.toNat Str.empty).length : Int) - 1) y
    | _ => false)
  | _ => false
end Ev
set_option maxHeartbeats 4000000
namespace Ev
open PySem PySem.Spec PyProof.Rows L2
theorem bad1 {xs : List V} (h : xs.length > 8) : badOf (some xs) = .int (-1) := if_pos h
theorem bad2 {xs : List V} {i : Nat} {y : V} (h : ¬ xs.length > 8) (hy : xs[i]? = some y) (b : sgV y = false) (g : ∀ (j : Nat) c, j < i → xs[j]? = some c → sgV c = true) : badOf (some xs) = .int (i : Int) := by
  obtain ⟨hi, ey⟩ := List.getElem?_eq_some_iff.mp hy
  have e : xs.findIdx? (fun y => !sgV y) = some i := by
    rw [List.findIdx?_eq_some_iff_getElem]
    refine ⟨hi, by rw [ey, b]; rfl, fun j hj => ?_⟩
    rw [g j xs[j] hj (List.getElem?_eq_getElem (by omega))]
    simp
  show (if xs.length > 8 then V.int (-1) else match xs.findIdx? (fun y => !sgV y) with
    | some k => V.int (k : Int)
    | none => if (xs.map slen).sum > 2000 then V.str (Str.ofString "long") else V.non) = _
  rw [if_neg h, e]
theorem good_none {xs : List V} (g : ∀ c ∈ xs, sgV c = true) : xs.findIdx? (fun y => !sgV y) = none := by
  rw [List.findIdx?_eq_none_iff]
  intro c hc
  rw [g c hc]
  rfl
theorem bad3 {xs : List V} (h : ¬ xs.length > 8) (g : ∀ c ∈ xs, sgV c = true) (s : (xs.map slen).sum > 2000) : badOf (some xs) = .str (Str.ofString "long") := by
  show (if xs.length > 8 then V.int (-1) else match xs.findIdx? (fun y => !sgV y) with
    | some k => V.int (k : Int)
    | none => if (xs.map slen).sum > 2000 then V.str (Str.ofString "long") else V.non) = _
  rw [if_neg h, good_none g]
  exact if_pos s
theorem bad4 {xs : List V} (h : ¬ xs.length > 8) (g : ∀ c ∈ xs, sgV c = true) (s : ¬ (xs.map slen).sum > 2000) : badOf (some xs) = .non := by
  show (if xs.length > 8 then V.int (-1) else match xs.findIdx? (fun y => !sgV y) with
    | some k => V.int (k : Int)
    | none => if (xs.map slen).sum > 2000 then V.str (Str.ofString "long") else V.non) = _
  rw [if_neg h, good_none g]
  exact if_neg s
/-- what is right: at most eight texts of signs -/
theorem bad_non {o : Option (List V)} (h : badOf o = .non) : ∃ xs, o = some xs ∧ xs.length ≤ 8 ∧ (∀ c ∈ xs, sgV c = true) ∧ (xs.map slen).sum ≤ 2000 := by
  cases o with
  | none => cases h
  | some xs =>
    by_cases h1 : xs.length > 8
    · rw [bad1 h1] at h
      cases h
    · cases e : xs.findIdx? (fun y => !sgV y) with
      | some k =>
        have h' : (if xs.length > 8 then V.int (-1) else match xs.findIdx? (fun y => !sgV y) with
          | some k => V.int (k : Int)
          | none => if (xs.map slen).sum > 2000 then V.str (Str.ofString "long") else V.non) = V.non := h
        rw [if_neg h1, e] at h'
        cases h'
      | none =>
        have g : ∀ c ∈ xs, sgV c = true := fun c hc => by
          have := List.findIdx?_eq_none_iff.mp e c hc
          simpa using this
        refine ⟨xs, rfl, by omega, g, ?_⟩
        by_cases s : (xs.map slen).sum > 2000
        · rw [bad3 h1 g s] at h
          cases h
        · omega
theorem sg_str {y : V} (h : sgV y = true) : ∃ z, y = .str z := by
  cases y with
  | str z => exact ⟨z, rfl⟩
  | non => cases h
  | bl b => cases h
  | int i => cases h
  | byt b => cases h
  | flt b => cases h
  | ref a => cases h
  | ty n => cases h
theorem bad_strs {xs : List V} (g : ∀ c ∈ xs, sgV c = true) : ∃ ts : List Str, xs = ts.map V.str ∧ ∀ t ∈ ts, sgB t = true := by
  induction xs with
  | nil => exact ⟨[], rfl, fun t h => absurd h (by simp)⟩
  | cons y xs ih =>
    obtain ⟨z, rfl⟩ := sg_str (g y (by simp))
    obtain ⟨ts, rfl, h⟩ := ih fun c hc => g c (List.mem_cons_of_mem _ hc)
    refine ⟨z :: ts, rfl, fun t ht => ?_⟩
    rcases List.mem_cons.mp ht with e | e
    · rw [e]
      exact g (.str z) (by simp)
    · exact h t e
theorem sum_cast (ns : List Nat) : (ns.map fun n : Nat => (n : Int)).sum = ((ns.sum : Nat) : Int) := by
  induction ns with
  | nil => rfl
  | cons n ns ih =>
    rw [List.map_cons, List.sum_cons, List.sum_cons, ih]
    simp
/-- the lengths of the texts of a tuple -/
theorem lc_lens {K : PySem.W.Frag} {a : Addr} {ts : List Str} {i : Nat} {σ : L2.St} {H1 : Hp} {D : Addr} {Qd : Hp → Prop} (hi : i < σ.length) (ha : H1 a = some (.tup (ts.map V.str))) (nD : H1 D = none) (hlen : ∀ t ∈ ts, t.length ≤ 5000) (hn : ts.length ≤ 1000)
    (hd : ∀ H, H D = some (.lst ((ts.map fun t => (t.length : Int)).map V.int)) → Same H1 H → Qd H) :
    ∃ W : Nat → Nat → Hp → Prop, (∃ m, W 0 m (upd H1 D (.lst []))) ∧ ∀ j m H, W j m H →
      ((Itt K a).stop j H ∧ Qd H) ∨ ((Itt K a).go j H ∧ ∃ Nx : Hp → Prop, (∀ H', Nx H' → ∃ m', m' < m ∧ W (j + 1) m' H') ∧ ∀ x H', (Itt K a).yld j H x H' → gName i x (wipe σ [i]) H' fun σ2 H2 => wipe σ2 [i] = wipe σ [i] ∧ tYes σ2 H2 fun b H3 =>
        if b = true then tCB rLenZ (tCons (tVar i) tNil) σ2 H3 fun y H4 => ∃ acc, H4 D = some (.lst acc) ∧ acc.length < sizeLine ∧ Nx (upd H4 D (.lst (acc ++ [y]))) else Nx H3) := by
  have sAt : ∀ {H' : Hp} {o : HO}, Same H1 H' → Same H1 (upd H' D o) := fun {H' o} k b u e => by
    rw [upd_ne (ne_of_none e nD)]
    exact k b u e
  refine lc_tup (K := K) (xs := ts.map V.str) (fun j H => H D = some (.lst (((ts.take j).map fun t => (t.length : Int)).map V.int)) ∧ Same H1 H) ⟨upd_same, sAt (Same.refl _)⟩ (fun j H _ p => SqT.of (p.2 _ _ ha)) (fun j x H hx p => ?_) (fun H p => ?_)
  · rw [List.getElem?_map] at hx
    cases e : ts[j]? with
    | none => rw [e] at hx; cases hx
    | some t =>
      rw [e] at hx
      obtain rfl : V.str t = x := Option.some.inj hx
      have hm := List.mem_of_getElem? e
      obtain ⟨hD, hs⟩ := p
      have hw : ((wipe σ [i]).set i (some (V.str t)))[i]? = some (some (V.str t)) := by
        rw [List.getElem?_set_self]
        show i < (σ.set i none).length
        rw [List.length_set]
        exact hi
      refine ⟨?_, .str t, hw, t, rfl, len5 (hlen t hm), _, hD, ?_, ?_, sAt hs⟩
      · show ((σ.set i none).set i (some (V.str t))).set i none = σ.set i none
        rw [List.set_set, List.set_set]
      · have h3 : sizeLine = 16777216 := sizeLine_eq
        rw [List.length_map, List.length_map, List.length_take]
        omega
      · rw [upd_same]
        have et : ts.take (j + 1) = ts.take j ++ [t] := by
          rw [List.take_add_one, e]
          rfl
        rw [et, List.map_append, List.map_append]
        rfl
  · obtain ⟨hD, hs⟩ := p
    rw [List.length_map, List.take_length] at hD
    exact hd H hD hs
theorem lens_sum (ts : List Str) : (ts.map fun t => (t.length : Int)).sum = ((((ts.map V.str).map slen).sum : Nat) : Int) := by
  rw [List.map_map, ← sum_cast, List.map_map]
  rfl
end Ev
set_option maxHeartbeats 4000000
namespace Ev
open PySem PySem.Spec PyProof.Rows L2
theorem joinL1 : ∀ cs : List Nat, TL.joinL [] (cs.map fun c => [c]) = cs
  | [] => rfl
  | [c] => rfl
  | c :: d :: r => by
    have e := joinL1 (d :: r)
    show [c] ++ ([] ++ TL.joinL [] ((d :: r).map fun c => [c])) = c :: d :: r
    rw [e]
    rfl
theorem join1 (cs : List Nat) : Txt.join (Str.ofString "") (cs.map fun c => SX.S [c]) = SX.S cs := by
  have e := SX.join_S [] (cs.map fun c => [c])
  rw [List.map_map, joinL1] at e
  exact e
theorem sgB_S (cs : List Nat) : sgB (SX.S cs) = cs.all sgC := rfl
theorem S_eta (z : Str) : SX.S z.cps.toList = z := SX.S_tl z
theorem len_S (z : Str) : z.length = z.cps.toList.length := by simp [Str.length]
theorem sgB_mem {z : Str} (h : sgB z = true) {c : Nat} (hc : c ∈ z.cps.toList) : sgC c = true := List.all_eq_true.mp h c hc
theorem sgB_of_mem {z : Str} (h : ∀ c ∈ z.cps.toList, sgC c = true) : sgB z = true := List.all_eq_true.mpr h
theorem sgB_cut {z : Str} (h : sgB z = true) (lo hi : Option Int) : sgB (cutS z lo hi) = true := by
  refine sgB_of_mem fun c hc => sgB_mem h ?_
  have hc' : c ∈ (z.cps.toList.drop (HT.sIx z.length 0 lo)).take (HT.sIx z.length z.length hi - HT.sIx z.length 0 lo) := by
    simpa [cutS] using hc
  exact List.mem_of_mem_drop (List.mem_of_mem_take hc')
theorem cut_len {z : Str} (lo hi : Option Int) : (cutS z lo hi).length ≤ z.length := by
  rw [len_S, len_S]
  have e : (cutS z lo hi).cps.toList = (z.cps.toList.drop (HT.sIx z.length 0 lo)).take (HT.sIx z.length z.length hi - HT.sIx z.length 0 lo) := by simp [cutS]
  rw [e, List.length_take, List.length_drop]
  omega
theorem cut_len2 {z : Str} (lo hi : Option Int) : (cutS z lo hi).length ≤ HT.sIx z.length z.length hi - HT.sIx z.length 0 lo := by
  rw [len_S]
  have e : (cutS z lo hi).cps.toList = (z.cps.toList.drop (HT.sIx z.length 0 lo)).take (HT.sIx z.length z.length hi - HT.sIx z.length 0 lo) := by simp [cutS]
  rw [e, List.length_take]
  omega
theorem sgB_app {a b : Str} (h1 : sgB a = true) (h2 : sgB b = true) : sgB (a ++ b) = true := by
  refine sgB_of_mem fun c hc => ?_
  have e : (a ++ b).cps.toList = a.cps.toList ++ b.cps.toList := TL.tl_append a b
  rw [e] at hc
  rcases List.mem_append.mp hc with h | h
  · exact sgB_mem h1 h
  · exact sgB_mem h2 h
theorem app_len (a b : Str) : (a ++ b).length = a.length + b.length := by
  have e : (a ++ b).cps.toList = a.cps.toList ++ b.cps.toList := TL.tl_append a b
  rw [len_S, e, List.length_append, ← len_S, ← len_S]
theorem rep_all (x : Array Nat) : ∀ (n : Nat) (acc : Array Nat), ((List.replicate n x).foldl (· ++ ·) acc).size = acc.size + n * x.size ∧ ∀ c ∈ ((List.replicate n x).foldl (· ++ ·) acc).toList, c ∈ acc.toList ∨ c ∈ x.toList
  | 0, acc => ⟨by simp, fun c h => .inl h⟩
  | n + 1, acc => by
    obtain ⟨h1, h2⟩ := rep_all x n (acc ++ x)
    rw [List.replicate_succ, List.foldl_cons]
    refine ⟨by rw [h1, Array.size_append, Nat.succ_mul]; omega, fun c hc => ?_⟩
    rcases h2 c hc with h | h
    · rw [Array.toList_append] at h
      exact List.mem_append.mp h
    · exact .inr h
theorem mul_facts (z : Str) (n : Int) : (Txt.mul z n).length ≤ z.length * n.toNat ∧ (sgB z = true → sgB (Txt.mul z n) = true) := by
  unfold Txt.mul
  by_cases h1 : n < 1
  · rw [if_pos h1]
    exact ⟨Nat.zero_le _, fun _ => rfl⟩
  · rw [if_neg h1]
    by_cases h2 : (n == 1 || z.length == 0) = true
    · rw [if_pos h2]
      exact ⟨Nat.le_mul_of_pos_right _ (by omega), fun h => h⟩
    · rw [if_neg h2]
      obtain ⟨r1, r2⟩ := rep_all z.cps n.toNat #[]
      refine ⟨?_, fun h => sgB_of_mem fun c hc => ?_⟩
      · show Array.size _ ≤ _
        rw [r1, Nat.mul_comm]
        show 0 + _ ≤ _
        rw [Nat.zero_add]
        exact Nat.le_refl _
      · rcases r2 c hc with q | q
        · cases q
        · exact sgB_mem h q
theorem cut_hi {z : Str} {lo : Option Int} {u : Int} (h : 0 ≤ u) : ((cutS z lo (some u)).length : Int) ≤ u := by
  have e := cut_len2 (z := z) lo (some u)
  have e2 : HT.sIx z.length z.length (some u) ≤ u.toNat := by
    show (if u < 0 then (u + (z.length : Int)).toNat else min u.toNat z.length) ≤ u.toNat
    rw [if_neg (by omega)]
    exact Nat.min_le_left _ _
  omega
theorem cut_lohi {z : Str} {b e : Int} (h : 0 ≤ b) (h2 : b ≤ e) : ((cutS z (some b) (some e)).length : Int) ≤ e - b := by
  have q := cut_len2 (z := z) (some b) (some e)
  have e1 : HT.sIx z.length z.length (some e) = min e.toNat z.length := by
    show (if e < 0 then (e + (z.length : Int)).toNat else min e.toNat z.length) = _
    rw [if_neg (by omega)]
  have e2 : HT.sIx z.length 0 (some b) = min b.toNat z.length := by
    show (if b < 0 then (b + (z.length : Int)).toNat else min b.toNat z.length) = _
    rw [if_neg (by omega)]
  rw [e1, e2] at q
  omega
end Ev
set_option maxHeartbeats 4000000
/-! Tuples put together and cut, the heap only growing. -/
namespace Ev
open PySem PySem.Spec PyProof.Rows L2
def rCatM : R2 := fun x y H Q => ∃ a b xs ys, x = .ref a ∧ y = .ref b ∧ H a = some (.tup xs) ∧ H b = some (.tup ys) ∧ xs.length + ys.length ≤ 1000 ∧ ∀ p H', Same H H' → H' p = some (.tup (xs ++ ys)) → Q (.ref p) H'
theorem sameNew {H : Hp} {q : Addr} {o : HO} (h : H q = none) : Same H (upd H q o) := fun b u e => by
  rw [upd_ne (ne_of_none e h)]
  exact e
theorem op_catM {X : Cx} : OpR X (binaryOp .Add) rCatM := fun pins s σ H x y v u Q I rx ry h =>
  op_catA pins s σ H x y v u Q I rx ry (by
    obtain ⟨a, b, xs, ys, ex, ey, ha, hb, hz, q⟩ := h
    refine ⟨a, b, xs, ys, ex, ey, SqT.of ha, SqT.of hb, ?_, fun e => ?_, fun _ e => ?_, fun _ _ p np => ?_⟩
    · have h3 : sizeLine = 16777216 := sizeLine_eq
      omega
    · refine q b H (Same.refl H) ?_
      rw [e, List.nil_append]
      exact hb
    · refine q a H (Same.refl H) ?_
      rw [e, List.append_nil]
      exact ha
    · exact q p _ (sameNew np) upd_same)
def rSlM : V → Option Int → Option Int → Hp → VK → Prop := fun x lo hi H Q => ∃ a xs, x = .ref a ∧ H a = some (.tup xs) ∧ ∀ p H', Same H H' → H' p = some (.tup (cutV xs lo hi)) → Q (.ref p) H'
theorem sl_tupM {X : Cx} : SlR X rSlM := fun pins s σ H x v vl vu lo hi sl Q I rx hs pl pu h =>
  sl_tupA pins s σ H x v vl vu lo hi sl Q I rx hs pl pu (by
    obtain ⟨a, xs, ex, ha, q⟩ := h
    refine ⟨a, xs, ex, SqT.of ha, fun e => ?_, fun _ p np => q p _ (sameNew np) upd_same⟩
    refine q a H (Same.refl H) ?_
    have ec : cutV xs lo hi = xs := by
      unfold cutV
      rw [e.1, e.2, List.drop_zero, Nat.sub_zero, List.take_length]
    rw [ec]
    exact ha)
theorem cutV_mem {xs : List V} {lo hi : Option Int} {y : V} (h : y ∈ cutV xs lo hi) : y ∈ xs := List.mem_of_mem_drop (List.mem_of_mem_take h)
/-- the place that is one -/
theorem place_true {ts : List Str} {o : Option (List V)} (h : placeV ts o = true) : ∃ (i j : Int), o = some [.int i, .int j] ∧ 0 ≤ i ∧ i < ts.length ∧ 0 ≤ j ∧ j < ((ts.getD i.toNat Str.empty).length : Int) := by
  unfold placeV at h
  split at h
  · rename_i x y
    obtain ⟨h1, h2⟩ := Bool.and_eq_true_iff.mp h
    cases x with
    | int i =>
      obtain ⟨a1, a2⟩ := Bool.and_eq_true_iff.mp (show (decide (0 ≤ i) && decide (i ≤ (ts.length : Int) - 1)) = true from h1)
      have a1 := of_decide_eq_true a1
      have a2 := of_decide_eq_true a2
      cases y with
      | int j =>
        obtain ⟨b1, b2⟩ := Bool.and_eq_true_iff.mp (show (decide (0 ≤ j) && decide (j ≤ ((ts.getD i.toNat Str.empty).length : Int) - 1)) = true from h2)
        have b1 := of_decide_eq_true b1
        have b2 := of_decide_eq_true b2
        exact ⟨i, j, rfl, a1, by omega, b1, by omega⟩
      | non => cases h2
      | bl b => cases h2
      | str b => cases h2
      | byt b => cases h2
      | flt b => cases h2
      | ref b => cases h2
      | ty b => cases h2
    | non => cases h1
    | bl b => cases h1
    | str b => cases h1
    | byt b => cases h1
    | flt b => cases h1
    | ref b => cases h1
    | ty b => cases h1
  · cases h
theorem text_at {ts : List Str} {i : Int} (h0 : 0 ≤ i) (h1 : i < ts.length) : atI (ts.map V.str) i = some (.str (ts.getD i.toNat Str.empty)) ∧ ts.getD i.toNat Str.empty ∈ ts := by
  have hi : i.toNat < ts.length := by omega
  constructor
  · have e1 : i = ((i.toNat : Nat) : Int) := by omega
    rw [e1]
    refine atI_nat ?_
    rw [List.getElem?_map, List.getD_eq_getElem?_getD, Int.toNat_natCast, List.getElem?_eq_getElem hi]
    rfl
  · rw [List.getD_eq_getElem?_getD, List.getElem?_eq_getElem hi]
    exact List.getElem_mem hi
end Ev
set_option maxHeartbeats 4000000
namespace Ev
open PySem PySem.Spec PyProof.Rows L2
/-- x is True, x is False, x any value of a kind -/
def rIsT : R2 := fun x y H Q => ∃ (b : Bool) (k : Kn), y = .bl b ∧ Kd H x k ∧ Q (.bl (decide (x = .bl b))) H
theorem op_isT {X : Cx} : OpR X (compareOp .Is) rIsT := by
  intro pins s σ H x y v u Q I rx ry h
  obtain ⟨b, k, rfl, hk, q⟩ := h
  cases (show u = Value.bool b from ry)
  cases hk with
  | bl a =>
    refine op_isBl pins s σ H _ (.bl b) v _ Q I rx rfl ⟨a, b, rfl, rfl, ?_⟩
    have e : decide (V.bl a = V.bl b) = decide (a = b) := by
      by_cases z : a = b
      · subst z
        simp
      · rw [decide_eq_false z, decide_eq_false fun w => z (V.bl.inj w)]
    rw [e] at q
    exact q
  | non =>
    cases rx
    exact wpAny_is_other rfl (fun z => by cases z) ⟨.bl false, H, I, rfl, by simpa using q⟩
  | int i =>
    obtain ⟨t, rfl⟩ := rx
    exact wpAny_is_other rfl (fun z => by cases z) ⟨.bl false, H, I, rfl, by simpa using q⟩
  | str i =>
    obtain ⟨t, rfl⟩ := rx
    exact wpAny_is_other rfl (fun z => by cases z) ⟨.bl false, H, I, rfl, by simpa using q⟩
  | lst e =>
    cases rx
    exact wpAny_is_other rfl (fun z => by cases z) ⟨.bl false, H, I, rfl, by simpa using q⟩
  | tup e =>
    cases rx
    exact wpAny_is_other rfl (fun z => by cases z) ⟨.bl false, H, I, rfl, by simpa using q⟩
  | dic e =>
    cases rx
    exact wpAny_is_other rfl (fun z => by cases z) ⟨.bl false, H, I, rfl, by simpa using q⟩
end Ev
set_option maxHeartbeats 4000000
namespace LawK
open PySem PySem.Spec PyProof.Rows L2 Ev
theorem HandL.same {H H' : Hp} {p l : Addr} (k : Same H H') (h : HandL H p l) : HandL H' p l := by
  obtain ⟨cells, i, r, s, n, h1, h2, h3⟩ := h
  exact ⟨cells, i, r, s, n, k _ _ h1, k _ _ h2, h3⟩
theorem But.and {p : Addr} {H H1 H2 : Hp} (a : But p H H1) (k : Same H1 H2) : But p H H2 := fun b o n e => k b o (a b o n e)
theorem hand_ne {H : Hp} {p l' a : Addr} {o : HO} (h : HandL H p l') (e : H a = some o) (n : ∀ x1 x2 x3 x4 x5, o ≠ .lst [x1, x2, x3, x4, x5]) : a ≠ p := fun z => by
  obtain ⟨cells, i, r, s, m, h1, _⟩ := h
  rw [z, h1] at e
  exact n _ _ _ _ _ (Option.some.inj e).symm
theorem dt_but {H H' : Hp} {p l' : Addr} {v : V} {d : PyData} (h : Dt H v d) (hp : HandL H p l') (k : But p H H') : Dt H' v d := by
  induction h with
  | non => exact .non
  | bl b => exact .bl b
  | int i => exact .int i
  | str x => exact .str x
  | dic e => exact .dic (k _ _ (hand_ne hp e fun _ _ _ _ _ z => by cases z) e)
  | l0 e n => exact .l0 (k _ _ (hand_ne hp e fun _ _ _ _ _ z => by cases z) e) n
  | l1 e n _ ih => exact .l1 (k _ _ (hand_ne hp e fun _ _ _ _ _ z => by cases z) e) n ih
  | l2 e n _ _ i1 i2 => exact .l2 (k _ _ (hand_ne hp e fun _ _ _ _ _ z => by cases z) e) n i1 i2
  | t0 e => exact .t0 (k _ _ (hand_ne hp e fun _ _ _ _ _ z => by cases z) e)
  | t1 e _ ih => exact .t1 (k _ _ (hand_ne hp e fun _ _ _ _ _ z => by cases z) e) ih
  | t2 e _ _ i1 i2 => exact .t2 (k _ _ (hand_ne hp e fun _ _ _ _ _ z => by cases z) e) i1 i2
structure Hn (p l : Addr) (H H' : Hp) : Prop where
  at_ : HandL H' p l
  but : But p H H'
theorem HandL.ne {H : Hp} {p l q : Addr} (h : HandL H p l) (n : H q = none) : q ≠ p ∧ q ≠ l := by
  obtain ⟨cells, i, r, s, m, h1, h2, _⟩ := h
  exact ⟨fun z => (by rw [z, h1] at n; cases n), fun z => (by rw [z, h2] at n; cases n)⟩
theorem Hn.new {p l q : Addr} {H H' : Hp} {o : HO} (h : Hn p l H H') (n : H' q = none) : Hn p l H (upd H' q o) := ⟨h.at_.same (Same.new n), h.but.and (Same.new n)⟩
theorem Hn.trans {p l : Addr} {H H1 H2 : Hp} (a : Hn p l H H1) (b : Hn p l H1 H2) : Hn p l H H2 := ⟨b.at_, a.but.trans b.but⟩
theorem Hn.refl {p l : Addr} {H : Hp} (h : HandL H p l) : Hn p l H H := ⟨h, But.refl p H⟩
theorem Hn.go {p l : Addr} {H H1 H2 : Hp} (a : Hn p l H H1) (h : HandL H2 p l) (b : But p H1 H2) : Hn p l H H2 := ⟨h, a.but.trans b⟩
theorem Hn.same {p l : Addr} {H H1 H2 : Hp} (a : Hn p l H H1) (k : Same H1 H2) : Hn p l H H2 := ⟨a.at_.same k, a.but.and k⟩
/-- an object that is new since H, at q, changes -/
theorem Hn.at {p l q : Addr} {H H' : Hp} {o : HO} (h : Hn p l H H') (h0 : HandL H p l) (n : H q = none) : Hn p l H (upd H' q o) := by
  obtain ⟨n1, n2⟩ := h0.ne n
  refine ⟨?_, fun b u nb e => ?_⟩
  · obtain ⟨cells, i, r, s, m, h1, h2, h3⟩ := h.at_
    exact ⟨cells, i, r, s, m, by rw [upd_ne (Ne.symm n1)]; exact h1, by rw [upd_ne (Ne.symm n2)]; exact h2, h3⟩
  · rw [upd_ne (ne_of_none e n)]
    exact h.but b u nb e
theorem sqBut {K : PySem.W.Frag} {H H' : Hp} {p a : Addr} {xs : List V} (h : SqL K H a xs) (n : a ≠ p) (b : But p H H') : SqL K H' a xs := by
  rcases h with (h | ⟨o, h⟩) | h
  · exact .inl (.inl (b _ _ n h))
  · exact .inl (.inr ⟨o, b _ _ n h⟩)
  · exact .inr h
structure Dk (P : Program) (w : World) (K : PySem.W.Frag) (mg : Str → Option Value) (base : Heap) (x : Str) (st : Stmt) (ps : List Str) (k : Nat) (sp : Sp) (f : Addr) (fd : FuncData) : Prop where
  F : Fun K x x st f fd
  b : Binds K fd ps []
  g : mg x = some (.ref f)
  ok : FnOk P w K mg base CX0 k f fd ps sp
theorem len6 {z : Str} {n : Nat} (h : z.length ≤ n) (hn : n ≤ 5000 := by decide) : z.length ≤ sizeLine := len5 (Nat.le_trans h hn)
theorem sg_at {z : Str} {v : Int} (hz : sgB z = true) (h0 : 0 ≤ v) (h1 : v < (z.length : Int)) : ∃ c, atI z.cps.toList v = some c ∧ sgC c = true := by
  obtain ⟨c, e, hm⟩ := atI_in (xs := z.cps.toList) h0 (by rw [← len_S]; exact h1)
  exact ⟨c, e, sgB_mem hz hm⟩
theorem str_ok {ts : List Str} (hts : ∀ t ∈ ts, t.length ≤ 5000) {H : Hp} {y : V} (h : y ∈ ts.map V.str) : (∃ k, Kd H y k) ∧ Vs y := by
  obtain ⟨z, hz, rfl⟩ := List.mem_map.mp h
  refine ⟨⟨_, .str z⟩, fun w e => ?_⟩
  cases e
  exact hts z hz
theorem lit_ok {z : Str} (h : z.length ≤ 5000) {H : Hp} : (∃ k, Kd H (.str z) k) ∧ Vs (.str z) := ⟨⟨_, .str z⟩, fun w e => by
  cases e
  exact h⟩
theorem int_ok {i : Int} {H : Hp} : (∃ k, Kd H (.int i) k) ∧ Vs (.int i) := ⟨⟨_, .int i⟩, fun w e => by cases e⟩
theorem tup_ne {H : Hp} {p l a : Addr} {xs : List V} (h : HandL H p l) (e : H a = some (.tup xs)) : a ≠ p := hand_ne h e fun _ _ _ _ _ z => by cases z
theorem Kd.but {H H' : Hp} {p l : Addr} {x : V} {k : Kn} (h : Kd H x k) (h0 : HandL H p l) (h1 : HandL H' p l) (b : But p H H') : Kd H' x k := by
  cases h with
  | non => exact .non
  | bl b => exact .bl b
  | int i => exact .int i
  | str z => exact .str z
  | @lst a xs e =>
    by_cases z : a = p
    · obtain ⟨cells, i, r, s, m, h2, _⟩ := h1
      rw [z]
      exact .lst h2
    · exact .lst (b _ _ z e)
  | tup e => exact .tup (b _ _ (tup_ne h0 e) e)
  | dic e => exact .dic (b _ _ (hand_ne h0 e fun _ _ _ _ _ z => by cases z) e)
theorem Tg.but {H H' : Hp} {p l : Addr} {x : V} {o : Option (List V)} (h : Tg H x o) (h0 : HandL H p l) (h1 : HandL H' p l) (b : But p H H') : Tg H' x o := by
  cases h with
  | no h n s => exact .no (Kd.but h h0 h1 b) n s
  | tup e n h => exact .tup (b _ _ (tup_ne h0 e) e) n fun y hy => ⟨let ⟨k, q⟩ := (h y hy).1; ⟨k, Kd.but q h0 h1 b⟩, (h y hy).2⟩
/-- what a thing's texts may be -/
inductive All2 {α β : Type} (R : α → β → Prop) : List α → List β → Prop
  | nil : All2 R [] []
  | cons {x : α} {y : β} {xs : List α} {ys : List β} (h : R x y) (t : All2 R xs ys) : All2 R (x :: xs) (y :: ys)
theorem All2.imp {α β : Type} {R S : α → β → Prop} {xs : List α} {ys : List β} (f : ∀ x y, R x y → S x y) (h : All2 R xs ys) : All2 S xs ys := by
  induction h with
  | nil => exact .nil
  | cons h _ ih => exact .cons (f _ _ h) ih
theorem All2.len {α β : Type} {R : α → β → Prop} {xs : List α} {ys : List β} (h : All2 R xs ys) : xs.length = ys.length := by
  induction h with
  | nil => rfl
  | cons _ _ ih => exact congrArg (· + 1) ih
theorem All2.at {α β : Type} {R : α → β → Prop} {xs : List α} {ys : List β} (h : All2 R xs ys) : ∀ {i : Nat} {x : α}, xs[i]? = some x → ∃ y, ys[i]? = some y ∧ R x y := by
  induction h with
  | nil => intro i x e; simp at e
  | cons r _ ih =>
    intro i x e
    cases i with
    | zero => cases e; exact ⟨_, rfl, r⟩
    | succ i => exact ih e
theorem All2.snoc {α β : Type} {R : α → β → Prop} {xs : List α} {ys : List β} {x : α} {y : β} (h : All2 R xs ys) (r : R x y) : All2 R (xs ++ [x]) (ys ++ [y]) := by
  induction h with
  | nil => exact .cons r .nil
  | cons r1 _ ih => exact .cons r1 ih
theorem sne {a b : Str} (h : a ≠ b) {A B : Prop} (k : B) : if decide (V.str a = V.str b) = true then A else B := by
  rw [decide_eq_false (fun z => h (V.str.inj z))]
  exact iteF k
theorem seq {a : Str} {A B : Prop} (k : A) : if decide (V.str a = V.str a) = true then A else B := by
  rw [decide_eq_true rfl]
  exact iteT k
end LawK
set_option maxHeartbeats 4000000
namespace LawK
open PySem PySem.Spec PyProof.Rows L2 Ev

def signV : V → Bool
  | .str z => sgB z && decide ((z.length : Int) = 1)
  | _ => false
theorem dec_int {a b : Int} : decide (V.int a = V.int b) = decide (a = b) := by
  by_cases h : a = b
  · rw [h, decide_eq_true rfl, decide_eq_true rfl]
  · rw [decide_eq_false h, decide_eq_false (fun e => h (V.int.inj e))]
theorem dec_str {a b : Str} : decide (V.str a = V.str b) = decide (a = b) := by
  by_cases h : a = b
  · rw [h, decide_eq_true rfl, decide_eq_true rfl]
  · rw [decide_eq_false h, decide_eq_false (fun e => h (V.str.inj e))]
def spSign : Sp := fun vs H Q _ => ∃ x k, vs = [x] ∧ Kd H x k ∧ Vs x ∧ Q (.bl (signV x)) H
/-- is x a tuple of m? -/
def tupO (o : Option (List V)) (m : Int) : Bool := match o with
  | none => false
  | some xs => decide ((xs.length : Int) = m)
def spTuple : Sp := fun vs H Q _ => ∃ x m o, vs = [x, .int m] ∧ Tg H x o ∧ Q (.bl (tupO o m)) H
def spTextY : Sp := fun vs H Q _ => ∃ (z : Str), vs = [.str z] ∧ sgB z = true ∧ z.length ≤ 2000 ∧ Q (.bl true) H
def blV (b : Bool) : V → Bool
  | .bl c => decide (c = b)
  | _ => false
def spFlag : Sp := fun vs H Q _ => ∃ (x b : Bool), vs = [.bl x, .bl b] ∧ Q (.bl (decide (x = b))) H
/-- a tuple within tuples -/
inductive Nest (H : Hp) : Nat → V → Prop
  | zero {a : Addr} (e : H a = some (.tup [])) : Nest H 0 (.ref a)
  | succ {a : Addr} {n : Nat} {x : V} (e : H a = some (.tup [x])) (h : Nest H n x) : Nest H (n + 1) (.ref a)
theorem Nest.same {H H' : Hp} {n : Nat} {x : V} (h : Nest H n x) (k : Same H H') : Nest H' n x := by
  induction h with
  | zero e => exact .zero (k _ _ e)
  | succ e _ ih => exact .succ (k _ _ e) ih
def spDeep : Sp := fun vs H Q _ => ∃ (m : Int), vs = [.int m] ∧ 0 ≤ m ∧ m ≤ 100 ∧ ∀ x H', Nest H' m.toNat x → Same H H' → Q x H'
section
variable {P : Program} {w : World} {K : PySem.W.Frag} {mg : Str → Option Value} {base : Heap}
abbrev sPSigns : Stmt := topS 6
theorem scPSigns : FnScope ["thing"] ["thing"] (defScope sPSigns) := ⟨rfl, rfl, rfl, by decide +kernel, rfl, by decide +kernel, by decide +kernel⟩
theorem ok_PSigns {f : Addr} {fd : FuncData} (F : Fun K "is_signs" "is_signs" sPSigns f fd)  (T : Glob mg) : FnOk P w K mg base CX0 1 f fd ["thing"] spSg := by
  refine F.ok scPSigns (fun vs H Q E h => ?_) (fun cdv A outer s H vs Q E hr h => ?_)
  · obtain ⟨x, k, rfl, _⟩ := h
    rfl
  · refine ⟨_, (pss_one (ps_ret (pe_and (pe_callB call_isi (by rfl) T.isinstance PyProof.Rows.boot_isinstance (pa_cons (pv 0) (pa_cons (pe_bltn (v := .ty "str") (by rfl) T.str (by decide +kernel) rfl) pa_nil))) (pe_and (pe_bm0 PySem.F.plainAttrs_str PySem.F.slot_str_isascii PySem.F.type_str_isascii mt_isascii (pv 0)) (pe_one (pe_bm0 PySem.F.plainAttrs_str PySem.F.slot_str_isprintable PySem.F.type_str_isprintable mt_isprintable (pv 0))))))), ?_⟩
    obtain ⟨x, k, rfl, hk, hz, q⟩ := h
    refine ⟨x, rfl, x, .ty "str", .type (Kn.name k), .type "str", kitB k .str, rfl, .ty _, Kd.tyx hk, kit_kn k .str, _, rfl, ?_⟩
    cases hk with
    | str z =>
      refine iteT ⟨.str z, rfl, rfl, z, rfl, rfl, trivial, _, rfl, ite2 (fun e => ⟨.str z, rfl, rfl, z, rfl, rfl, trivial, ?_⟩) (fun e => ?_)⟩
      · have q' : Q (.bl (sgB z)) H := q
        rw [← sgB_of, e, Bool.true_and] at q'
        exact q'
      · have e' : Txt.isascii z = false := by simpa using e
        have q' : Q (.bl (sgB z)) H := q
        rw [← sgB_of, e', Bool.false_and] at q'
        exact q'
    | non => exact iteF q
    | bl b => exact iteF q
    | int i => exact iteF q
    | lst e => exact iteF q
    | tup e => exact iteF q
    | dic e => exact iteF q
abbrev sPNumber : Stmt := topS 5
theorem scPNumber : FnScope ["thing"] ["thing"] (defScope sPNumber) := ⟨rfl, rfl, rfl, by decide +kernel, rfl, by decide +kernel, by decide +kernel⟩
theorem ok_PNumber {f : Addr} {fd : FuncData} (F : Fun K "is_number" "is_number" sPNumber f fd)   (T : Glob mg) : FnOk P w K mg base CX0 1 f fd ["thing"] spNum := by
  refine F.ok scPNumber (fun vs H Q E h => ?_) (fun cdv A outer s H vs Q E hr h => ?_)
  · obtain ⟨x, k, rfl, _⟩ := h
    rfl
  · refine ⟨_, (pss_one (ps_ret (pe_and (pe_callB call_isi (by rfl) T.isinstance PyProof.Rows.boot_isinstance (pa_cons (pv 0) (pa_cons (pe_bltn (v := .ty "int") (by rfl) T.int (by decide +kernel) rfl) pa_nil))) (pe_and (pe_not (pe_callB call_isi (by rfl) T.isinstance PyProof.Rows.boot_isinstance (pa_cons (pv 0) (pa_cons (pe_bltn (v := .ty "bool") (by rfl) T.bool (by decide +kernel) rfl) pa_nil)))) (pe_one (pe_cmpR op_ge (pv 0) pe_int (nomark _))))))), ?_⟩
    obtain ⟨x, k, rfl, hk, q⟩ := h
    refine ⟨x, rfl, x, .ty "int", .type (Kn.name k), .type "int", kitB k .int, rfl, .ty _, Kd.tyx hk, kit_kn k .int, _, rfl, ?_⟩
    cases hk with
    | int i => exact iteT ⟨.int i, rfl, .int i, .ty "bool", .type (Kn.name .int), .type "bool", kitB .int .bl, rfl, .ty _, Kd.tyx (.int i), kit_kn .int .bl, _, rfl, _, rfl, iteT ⟨.int i, rfl, _, _, rfl, rfl, q⟩⟩
    | bl b => exact iteT ⟨.bl b, rfl, .bl b, .ty "bool", .type (Kn.name .bl), .type "bool", kitB .bl .bl, rfl, .ty _, Kd.tyx (.bl b), kit_kn .bl .bl, _, rfl, _, rfl, iteF q⟩
    | str z => exact iteF q
    | non => exact iteF q
    | lst e => exact iteF q
    | tup e => exact iteF q
    | dic e => exact iteF q
abbrev sPSign : Stmt := topS 7
theorem scPSign : FnScope ["thing"] ["thing"] (defScope sPSign) := ⟨rfl, rfl, rfl, by decide +kernel, rfl, by decide +kernel, by decide +kernel⟩
theorem ok_PSign {f : Addr} {fd : FuncData} (F : Fun K "is_sign" "is_sign" sPSign f fd)  {fPSigns : Addr} {fdPSigns : FuncData} (DPSigns : Dk P w K mg base "is_signs" sPSigns ["thing"] 1 spSg fPSigns fdPSigns) (T : Glob mg) : FnOk P w K mg base CX0 2 f fd ["thing"] spSign := by
  refine F.ok scPSign (fun vs H Q E h => ?_) (fun cdv A outer s H vs Q E hr h => ?_)
  · obtain ⟨x, k, rfl, _⟩ := h
    rfl
  · refine ⟨_, (pss_one (ps_ret (pe_and (pe_call DPSigns.ok (hr.mono (by decide)) (by rfl) DPSigns.g DPSigns.F.kp DPSigns.b .nil pass0 (pa_cons (pv 0) pa_nil)) (pe_one (pe_cmpR op_eq (pe_callB call_len (by rfl) T.len PySem.boot_len (pa_cons (pv 0) pa_nil)) pe_int (nomark _)))))), ?_⟩
    obtain ⟨x, k, rfl, hk, hz, q⟩ := h
    refine ⟨x, rfl, x, k, rfl, hk, hz, _, rfl, ite2 (fun e => ?_) (fun e => ?_)⟩
    · cases hk with
      | str z =>
        refine ⟨.str z, rfl, .str z, z.length, rfl, ⟨len5 (hz z rfl), rfl⟩, rfl, ?_⟩
        have e' : sgB z = true := e
        have q' : Q (.bl (sgB z && decide ((z.length : Int) = 1))) H := q
        rw [e', Bool.true_and] at q'
        rw [dec_int]
        exact q'
      | non => exact Bool.noConfusion e
      | bl b => exact Bool.noConfusion e
      | int i => exact Bool.noConfusion e
      | lst e2 => exact Bool.noConfusion e
      | tup e2 => exact Bool.noConfusion e
      | dic e2 => exact Bool.noConfusion e
    · have e' : sgV x = false := by simpa using e
      cases hk with
      | str z =>
        have e2 : sgB z = false := e'
        have q' : Q (.bl (sgB z && decide ((z.length : Int) = 1))) H := q
        rw [e2, Bool.false_and] at q'
        exact q'
      | non => exact q
      | bl b => exact q
      | int i => exact q
      | lst e2 => exact q
      | tup e2 => exact q
      | dic e2 => exact q
abbrev sPTuple : Stmt := topS 8
theorem scPTuple : FnScope ["thing", "many"] ["thing", "many"] (defScope sPTuple) := ⟨rfl, rfl, rfl, by decide +kernel, rfl, by decide +kernel, by decide +kernel⟩
theorem ok_PTuple {f : Addr} {fd : FuncData} (F : Fun K "is_tuple" "is_tuple" sPTuple f fd)   (T : Glob mg) : FnOk P w K mg base CX0 1 f fd ["thing", "many"] spTuple := by
  refine F.ok scPTuple (fun vs H Q E h => ?_) (fun cdv A outer s H vs Q E hr h => ?_)
  · obtain ⟨x, m, o, rfl, _⟩ := h
    rfl
  · refine ⟨_, (pss_one (ps_ret (pe_and (pe_callB call_isi (by rfl) T.isinstance PyProof.Rows.boot_isinstance (pa_cons (pv 0) (pa_cons (pe_bltn (v := .ty "tuple") (by rfl) T.tuple (by decide +kernel) rfl) pa_nil))) (pe_one (pe_cmpR op_eq (pe_callB call_len_seq (by rfl) T.len PySem.boot_len (pa_cons (pv 0) pa_nil)) (pv 1) (nomark _)))))), ?_⟩
    obtain ⟨x, m, o, rfl, ht, q⟩ := h
    cases ht with
    | @no _ k hk n s =>
      refine ⟨x, rfl, x, .ty "tuple", .type (Kn.name k), .type "tuple", kitB k .tup, rfl, .ty _, Kd.tyx hk, kit_kn k .tup, _, rfl, ?_⟩
      cases hk with
      | tup e => exact absurd rfl n
      | int i => exact iteF q
      | bl b => exact iteF q
      | str z => exact iteF q
      | non => exact iteF q
      | lst e => exact iteF q
      | dic e => exact iteF q
    | @tup a xs e n h =>
      refine ⟨.ref a, rfl, .ref a, .ty "tuple", .type (Kn.name .tup), .type "tuple", kitB .tup .tup, rfl, .ty _, Kd.tyx (.tup e), kit_kn .tup .tup, _, rfl, iteT ?_⟩
      refine ⟨.ref a, rfl, a, xs, rfl, .inr (SqT.of e), .int m, rfl, rfl, ?_⟩
      rw [dec_int]
      exact q
abbrev sPText : Stmt := topS 11
theorem scPText : FnScope ["thing"] ["thing"] (defScope sPText) := ⟨rfl, rfl, rfl, by decide +kernel, rfl, by decide +kernel, by decide +kernel⟩
theorem ok_PText {f : Addr} {fd : FuncData} (F : Fun K "is_text" "is_text" sPText f fd) {tM : Tok} (gM : mg "MOST_SIGNS" = some (.int 2000 tM)) {fPSigns : Addr} {fdPSigns : FuncData} (DPSigns : Dk P w K mg base "is_signs" sPSigns ["thing"] 1 spSg fPSigns fdPSigns) (T : Glob mg) : FnOk P w K mg base CX0 2 f fd ["thing"] spTextY := by
  refine F.ok scPText (fun vs H Q E h => ?_) (fun cdv A outer s H vs Q E hr h => ?_)
  · obtain ⟨z, rfl, _⟩ := h
    rfl
  · refine ⟨_, (pss_one (ps_ret (pe_and (pe_call DPSigns.ok (hr.mono (by decide)) (by rfl) DPSigns.g DPSigns.F.kp DPSigns.b .nil pass0 (pa_cons (pv 0) pa_nil)) (pe_one (pe_cmpR op_le (pe_callB call_len (by rfl) T.len PySem.boot_len (pa_cons (pv 0) pa_nil)) (pe_glob (v := .int 2000) (by rfl) gM ⟨_, rfl⟩) (nomark _)))))), ?_⟩
    obtain ⟨z, rfl, hz, hl, q⟩ := h
    refine ⟨.str z, rfl, .str z, .str, rfl, .str z, (fun w e => by cases e; omega), _, rfl, ?_⟩
    refine ite2 (fun _ => ?_) (fun c => absurd hz c)
    refine ⟨.str z, rfl, .str z, z.length, rfl, ⟨len5 (by omega), rfl⟩, _, _, rfl, rfl, ?_⟩
    have e : decide ((z.length : Int) ≤ 2000) = true := decide_eq_true (by omega)
    show Q (.bl (decide ((z.length : Int) ≤ 2000))) H
    rw [e]
    exact q
abbrev sIsInt : Stmt := topS 25
theorem scIsInt : FnScope ["thing", "least", "most"] ["thing", "least", "most"] (defScope sIsInt) := ⟨rfl, rfl, rfl, by decide +kernel, rfl, by decide +kernel, by decide +kernel⟩
theorem ok_IsInt {f : Addr} {fd : FuncData} (F : Fun K "_law_is_int" "_law_is_int" sIsInt f fd)   (T : Glob mg) : FnOk P w K mg base CX0 1 f fd ["thing", "least", "most"] spIn := by
  refine F.ok scIsInt (fun vs H Q E h => ?_) (fun cdv A outer s H vs Q E hr h => ?_)
  · obtain ⟨x, k, a, b, rfl, _⟩ := h
    rfl
  · refine ⟨_, (pss_one (ps_ret (pe_and (pe_callB call_isi (by rfl) T.isinstance PyProof.Rows.boot_isinstance (pa_cons (pv 0) (pa_cons (pe_bltn (v := .ty "int") (by rfl) T.int (by decide +kernel) rfl) pa_nil))) (pe_and (pe_not (pe_callB call_isi (by rfl) T.isinstance PyProof.Rows.boot_isinstance (pa_cons (pv 0) (pa_cons (pe_bltn (v := .ty "bool") (by rfl) T.bool (by decide +kernel) rfl) pa_nil)))) (pe_one (pe_chain op_le op_le (pv 1) (pv 0) (pv 2))))))), ?_⟩
    obtain ⟨x, k, a, b, rfl, hk, q⟩ := h
    refine ⟨x, rfl, x, .ty "int", .type (Kn.name k), .type "int", kitB k .int, rfl, .ty _, Kd.tyx hk, kit_kn k .int, _, rfl, ?_⟩
    cases hk with
    | int i =>
      refine iteT ⟨.int i, rfl, .int i, .ty "bool", .type (Kn.name .int), .type "bool", kitB .int .bl, rfl, .ty _, Kd.tyx (.int i), kit_kn .int .bl, _, rfl, _, rfl, iteT ?_⟩
      refine ⟨.int a, rfl, .int i, rfl, a, i, rfl, rfl, _, rfl, ite2 (fun e => ?_) (fun e => ?_)⟩
      · have q' : Q (.bl (decide (a ≤ i) && decide (i ≤ b))) H := q
        rw [e, Bool.true_and] at q'
        exact ⟨.int b, rfl, i, b, rfl, rfl, q'⟩
      · have e' : decide (a ≤ i) = false := by simpa using e
        have q' : Q (.bl (decide (a ≤ i) && decide (i ≤ b))) H := q
        rw [e', Bool.false_and] at q'
        exact q'
    | bl b => exact iteT ⟨.bl b, rfl, .bl b, .ty "bool", .type (Kn.name .bl), .type "bool", kitB .bl .bl, rfl, .ty _, Kd.tyx (.bl b), kit_kn .bl .bl, _, rfl, _, rfl, iteF q⟩
    | str z => exact iteF q
    | non => exact iteF q
    | lst e => exact iteF q
    | tup e => exact iteF q
    | dic e => exact iteF q
abbrev sDeep : Stmt := topS 26
theorem scDeep : FnScope ["many", "found", "turn"] ["many"] (defScope sDeep) := ⟨rfl, rfl, rfl, by decide +kernel, rfl, by decide +kernel, by decide +kernel⟩
theorem ok_Deep {f : Addr} {fd : FuncData} (F : Fun K "_law_deep" "_law_deep" sDeep f fd)   (T : Glob mg) : FnOk P w K mg base CX0 1 f fd ["many"] spDeep := by
  refine F.ok scDeep (fun vs H Q E h => ?_) (fun cdv A outer s H vs Q E hr h => ?_)
  · obtain ⟨m, rfl, _⟩ := h
    rfl
  · refine ⟨_, (pss_cons (ps_set (i := 1) scDeep.nd rfl (.inl rfl) (pe_tup pa_nil))
      (pss_cons (ps_for PassesOwn.never rfl (pi_range1 (by rfl) T.range (pa_cons (pv 0) pa_nil)) (pg_name (i := 2) scDeep.nd rfl (.inl rfl))
      (pss_one (ps_set (i := 1) scDeep.nd rfl (.inl rfl) (pe_tup (pa_cons (pv 1) pa_nil)))))
      (pss_one (ps_ret (pv 1))))), ?_⟩
    obtain ⟨m, rfl, m0, m1, q⟩ := h
    refine ⟨by show 0 ≤ sizeLine; decide, fun a0 na0 => ?_⟩
    refine ⟨.int m, rfl, m, rfl, by omega, by omega, for_range (fun i σ H' => ∃ x u, σ = [some (.int m), some x, u] ∧ Nest H' i x ∧ Same H H') ⟨_, _, rfl, .zero upd_same, Same.new na0⟩ ?_ ?_⟩
    · rintro i σ H1 hi ⟨x, u, rfl, hx, k1⟩
      refine ⟨x, rfl, by show 1 ≤ sizeLine; decide, fun a1 na1 => ?_⟩
      exact ⟨_, _, rfl, .succ upd_same (hx.same (Same.new na1)), sameAt k1 (Same.free k1 na1)⟩
    · rintro σ H1 ⟨x, u, rfl, hx, k1⟩
      exact ⟨x, rfl, q _ _ hx k1⟩
abbrev sIsFlag : Stmt := topS 29
theorem scIsFlag : FnScope ["told", "due"] ["told", "due"] (defScope sIsFlag) := ⟨rfl, rfl, rfl, by decide +kernel, rfl, by decide +kernel, by decide +kernel⟩
theorem ok_IsFlag {f : Addr} {fd : FuncData} (F : Fun K "_law_is_flag" "_law_is_flag" sIsFlag f fd)   (T : Glob mg) : FnOk P w K mg base CX0 1 f fd ["told", "due"] spFlag := by
  refine F.ok scIsFlag (fun vs H Q E h => ?_) (fun cdv A outer s H vs Q E hr h => ?_)
  · obtain ⟨x, b, rfl, _⟩ := h
    rfl
  · refine ⟨_, (pss_one (ps_ret (pe_and (pe_callB call_isi (by rfl) T.isinstance PyProof.Rows.boot_isinstance (pa_cons (pv 0) (pa_cons (pe_bltn (v := .ty "bool") (by rfl) T.bool (by decide +kernel) rfl) pa_nil))) (pe_one (pe_cmpR op_eq (pv 0) (pv 1) (nomark _)))))), ?_⟩
    obtain ⟨x, b, rfl, q⟩ := h
    refine ⟨.bl x, rfl, .bl x, .ty "bool", .type (Kn.name .bl), .type "bool", kitB .bl .bl, rfl, .ty _, Kd.tyx (.bl x), kit_kn .bl .bl, _, rfl, iteT ?_⟩
    refine ⟨.bl x, rfl, .bl b, rfl, rfl, ?_⟩
    show Q (.bl (decide (V.bl x = V.bl b))) H
    have e : decide (V.bl x = V.bl b) = decide (x = b) := by cases x <;> cases b <;> rfl
    rw [e]
    exact q
end
end LawK
set_option maxHeartbeats 4000000
/-! Where a text stands in another within bounds; a text so many times. -/
namespace Ev
open PySem PySem.Spec PyProof.Rows L2 PySem.Builtin.Str
theorem occ_size {x y : Str} {hi lim : Nat} : ∀ (l : List Nat) (a : Array Nat) (k : Nat), 0 < a.size → 0 < ((forIn (m := Id) l (a, k) (StrLaws.occBody x y hi lim)).run.fst).size := by
  intro l
  induction l with
  | nil => intro a k h; exact h
  | cons i r ih =>
    intro a k h
    simp only [List.forIn_cons, StrLaws.occBody]
    split
    · exact ih _ _ (by rw [Array.size_push]; omega)
    · exact ih _ _ h
theorem occ_some {x y : Str} {lo hi i : Nat} (h0 : lo ≤ i) (h1 : i + y.length ≤ hi) (h2 : subAt x y i = true) : occurrences x y lo hi 1 ≠ [] := by
  rw [StrLaws.occ_eq]
  have hm : i ∈ List.range' lo (hi + 1 - lo) := by
    rw [List.mem_range'_1]
    omega
  have hlo : ∀ j ∈ List.range' lo (hi + 1 - lo), lo ≤ j := fun j hj => (List.mem_range'_1.mp hj).1
  revert hm hlo
  generalize List.range' lo (hi + 1 - lo) = l
  suffices H : ∀ (l : List Nat), i ∈ l → (∀ j ∈ l, lo ≤ j) → 0 < ((forIn (m := Id) l ((#[] : Array Nat), lo) (StrLaws.occBody x y hi 1)).run.fst).size by
    intro hm hlo e
    have := H l hm hlo
    rw [← Array.length_toList, e] at this
    exact absurd this (by simp)
  intro l
  induction l with
  | nil => intro h; cases h
  | cons j r ih =>
    intro hm hlo
    simp only [List.forIn_cons, StrLaws.occBody]
    split
    · exact occ_size r _ _ (by rw [Array.size_push]; omega)
    · rename_i hn
      refine ih ?_ (fun j hj => hlo j (List.mem_cons_of_mem _ hj))
      rcases List.mem_cons.mp hm with e | e
      · subst e
        exact absurd ⟨⟨⟨by decide, hlo i (List.mem_cons_self ..)⟩, h1⟩, h2⟩ hn
      · exact e
theorem subAt_iff {x y : Str} {k : Nat} : subAt x y k = true ↔ (x.cps.toList.drop k).take y.length = y.cps.toList := by
  unfold subAt
  rw [beq_iff_eq, ← Array.toList_inj, Array.toList_extract, List.extract_eq_take_drop]
  have : k + y.length - k = y.length := by omega
  rw [this]
/-- the place of y in x ahead of j, or -1 -/
theorem findIn_of {x y : Str} {j : Int} (h : 0 ≤ j) : (∃ k : Nat, Txt.findIn x y 0 j = (k : Int) ∧ (k : Int) + (y.length : Int) ≤ j ∧ (x.cps.toList.drop k).take y.length = y.cps.toList) ∨
    (Txt.findIn x y 0 j = -1 ∧ ∀ k : Nat, (k : Int) + (y.length : Int) ≤ j → k + y.length ≤ x.length → (x.cps.toList.drop k).take y.length ≠ y.cps.toList) := by
  unfold Txt.findIn
  have e0 : fromIndex x.length 0 = 0 := rfl
  have e1 : toIndexW x.length j = min j.toNat x.length := by
    unfold toIndexW
    rw [if_neg (by omega), Int.max_eq_right h]
  rw [e0, e1]
  cases e : occurrences x y 0 (min j.toNat x.length) 1 with
  | nil =>
    refine .inr ⟨rfl, fun k h1 h2 h3 => ?_⟩
    exact occ_some (Nat.zero_le k) (by omega) (subAt_iff.mpr h3) e
  | cons k r =>
    have := StrLaws.occ_spec x y 0 (min j.toNat x.length) 1 k (by rw [e]; exact List.mem_cons_self ..)
    exact .inl ⟨k, rfl, by omega, subAt_iff.mp this.2⟩
theorem fold_rep (x : Array Nat) : ∀ (n : Nat) (acc : Array Nat), ((List.replicate n x).foldl (· ++ ·) acc).toList = acc.toList ++ (List.replicate n x.toList).flatten
  | 0, acc => by simp
  | n + 1, acc => by
    rw [List.replicate_succ, List.foldl_cons, fold_rep x n, Array.toList_append, List.replicate_succ, List.flatten_cons, List.append_assoc]
theorem mul_list {z : Str} {n : Int} (h : 0 ≤ n) : (Txt.mul z n).cps.toList = (List.replicate n.toNat z.cps.toList).flatten := by
  unfold Txt.mul
  by_cases h1 : n < 1
  · rw [if_pos h1]
    have : n.toNat = 0 := by omega
    rw [this]
    rfl
  · rw [if_neg h1]
    split
    · rename_i hc
      rw [Bool.or_eq_true, beq_iff_eq, beq_iff_eq] at hc
      rcases hc with e | e
      · rw [e]
        show _ = (List.replicate 1 _).flatten
        simp
      · have en : z.cps.toList = [] := List.eq_nil_of_length_eq_zero (by rw [← len_S]; exact e)
        rw [en]
        generalize n.toNat = m
        clear h h1
        induction m with
        | zero => rfl
        | succ m ih => rw [List.replicate_succ, List.flatten_cons, List.nil_append]; exact ih
    · show ((List.replicate n.toNat z.cps).foldl (· ++ ·) #[]).toList = _
      rw [fold_rep]
      rfl
theorem rep_at {l : List Nat} (hl : 0 < l.length) : ∀ (n i : Nat), i < n * l.length → ((List.replicate n l).flatten)[i]? = l[i % l.length]?
  | 0, i, h => by omega
  | n + 1, i, h => by
    rw [List.replicate_succ, List.flatten_cons]
    by_cases c : i < l.length
    · rw [List.getElem?_append_left c, Nat.mod_eq_of_lt c]
    · rw [List.getElem?_append_right (by omega), rep_at hl n (i - l.length) (by rw [Nat.succ_mul] at h; omega)]
      have e : i % l.length = (i - l.length) % l.length := Nat.mod_eq_sub_mod (by omega)
      rw [e]
theorem rep_len {l : List Nat} : ∀ (n : Nat), ((List.replicate n l).flatten).length = n * l.length
  | 0 => by simp
  | n + 1 => by rw [List.replicate_succ, List.flatten_cons, List.length_append, rep_len n, Nat.succ_mul]; omega
/-- a text so many times -/
def rMulL : R2 := fun x y H Q => ∃ (z : Str) (n : Int), x = .str z ∧ y = .int n ∧ 0 ≤ n ∧ n ≤ 3000 ∧ z.length ≤ 5000 ∧ Q (.str (Txt.mul z n)) H
theorem op_mulL {X : Cx} : OpR X (binaryOp .Mult) rMulL := by
  intro pins s σ H x y v u Q I rx ry h
  obtain ⟨z, n, rfl, rfl, h0, h1, h2, q⟩ := h
  obtain ⟨t, rfl⟩ := rx
  obtain ⟨t', rfl⟩ := ry
  exact SB.mul (mulOk_of 5000 3000 h2 h1 (by omega) (by decide) (by decide)) fun t' k => ⟨.str _, H, I.tok _, ⟨_, rfl⟩, q⟩
end Ev
set_option maxHeartbeats 4000000
/-! Slices by natural bounds. -/
namespace Ev
open PySem PySem.Spec PyProof.Rows L2
theorem sIx_int {n d : Nat} {i : Int} (h : 0 ≤ i) : HT.sIx n d (some i) = min i.toNat n := by
  show (if i < 0 then (i + (n : Int)).toNat else min i.toNat n) = _
  rw [if_neg (by omega)]
theorem cutV_to {xs : List V} {i : Int} (h : 0 ≤ i) : cutV xs none (some i) = xs.take i.toNat := by
  unfold cutV
  rw [sIx_int h]
  show (xs.drop 0).take (min i.toNat xs.length - 0) = _
  rw [List.drop_zero, Nat.sub_zero, ← List.take_eq_take_min]
theorem cutV_from {xs : List V} {i : Int} (h : 0 ≤ i) : cutV xs (some i) none = xs.drop i.toNat := by
  unfold cutV
  rw [sIx_int h]
  show (xs.drop (min i.toNat xs.length)).take (xs.length - min i.toNat xs.length) = _
  rw [List.take_of_length_le (by rw [List.length_drop]; exact Nat.le_refl _)]
  by_cases g : i.toNat ≤ xs.length
  · rw [Nat.min_eq_left g]
  · rw [Nat.min_eq_right (by omega), List.drop_length, List.drop_of_length_le (by omega)]
theorem cutV_set {xs : List V} {i : Int} {z : V} (h : 0 ≤ i) (h2 : i < xs.length) : cutV xs none (some i) ++ [z] ++ cutV xs (some (i + 1)) none = xs.set i.toNat z := by
  rw [cutV_to h, cutV_from (by omega)]
  have e : (i + 1).toNat = i.toNat + 1 := by omega
  rw [e, List.set_eq_take_append_cons_drop, if_pos (by omega)]
  simp
theorem cutS_to {z : Str} {i : Int} (h : 0 ≤ i) : (cutS z none (some i)).cps.toList = z.cps.toList.take i.toNat := by
  have e : (cutS z none (some i)).cps.toList = (z.cps.toList.drop 0).take (HT.sIx z.length z.length (some i) - 0) := by simp [cutS, HT.sIx]
  rw [e, sIx_int h, List.drop_zero, Nat.sub_zero, len_S, ← List.take_eq_take_min]
theorem cutS_from {z : Str} {i : Int} (h : 0 ≤ i) : (cutS z (some i) none).cps.toList = z.cps.toList.drop i.toNat := by
  have e : (cutS z (some i) none).cps.toList = (z.cps.toList.drop (HT.sIx z.length 0 (some i))).take (z.length - HT.sIx z.length 0 (some i)) := by simp [cutS, HT.sIx]
  rw [e, sIx_int h, len_S]
  rw [List.take_of_length_le (by rw [List.length_drop]; exact Nat.le_refl _)]
  by_cases g : i.toNat ≤ z.cps.toList.length
  · rw [Nat.min_eq_left g]
  · rw [Nat.min_eq_right (by omega), List.drop_length, List.drop_of_length_le (by omega)]
theorem cutS_of {z : Str} {i j : Int} (h : 0 ≤ i) (h2 : i ≤ j) : (cutS z (some i) (some j)).cps.toList = (z.cps.toList.drop i.toNat).take (j - i).toNat := by
  have e : (cutS z (some i) (some j)).cps.toList = (z.cps.toList.drop (HT.sIx z.length 0 (some i))).take (HT.sIx z.length z.length (some j) - HT.sIx z.length 0 (some i)) := by simp [cutS]
  rw [e, sIx_int h, sIx_int (by omega), len_S]
  apply List.ext_getElem?
  intro k
  rw [List.getElem?_take, List.getElem?_take, List.getElem?_drop, List.getElem?_drop]
  by_cases g : i.toNat ≤ z.cps.toList.length
  · rw [Nat.min_eq_left g]
    by_cases a : k < (j - i).toNat
    · rw [if_pos a]
      by_cases b : k < min j.toNat z.cps.toList.length - i.toNat
      · rw [if_pos b]
      · rw [if_neg b]
        exact (List.getElem?_eq_none (by omega)).symm
    · rw [if_neg a, if_neg (by omega)]
  · rw [List.getElem?_eq_none (show z.cps.toList.length ≤ i.toNat + k by omega), if_neg (by omega)]
    split <;> rfl
end Ev
set_option maxHeartbeats 4000000
/-! Phrases: what they tell, the fewest of them. -/
namespace LawK
open PySem PySem.Spec PyProof.Rows L2 Ev
abbrev zl (z : Str) : List Nat := z.cps.toList
theorem zlen (z : Str) : z.length = (zl z).length := len_S z
/-! ### what a phrase makes of a text -/
/-- a text with so many of its signs from a place on behind it -/
def extS (z : Str) (a m : Int) : Str := z ++ cutS (Txt.mul (cutS z (some a) none) (m / (((cutS z (some a) none).length : Nat) : Int) + 1)) none (some m)
theorem zl_app (a b : Str) : zl (a ++ b) = zl a ++ zl b := TL.tl_append a b
theorem extS_ring {z : Str} {a m : Int} (h0 : 0 ≤ a) (h1 : a < (z.length : Int)) (hm : 0 ≤ m) : zl (extS z a m) = zl z ++ ((List.replicate (m.toNat / (z.length - a.toNat) + 1) ((zl z).drop a.toNat)).flatten).take m.toNat := by
  have lr : (cutS z (some a) none).length = z.length - a.toNat := by
    rw [len_S, cutS_from h0, List.length_drop, ← len_S]
  unfold extS
  rw [zl_app, lr]
  congr 1
  show (cutS _ none (some m)).cps.toList = _
  have hd : (0 : Int) ≤ m / (((z.length - a.toNat : Nat)) : Int) := Int.ediv_nonneg hm (by omega)
  rw [cutS_to hm, mul_list (by omega), cutS_from h0]
  congr 3
  have e : m = ((m.toNat : Nat) : Int) := by omega
  have e2 : m / (((z.length - a.toNat : Nat)) : Int) = ((m.toNat / (z.length - a.toNat) : Nat) : Int) := by
    rw [e, Int.toNat_natCast, Int.natCast_ediv]
  omega
theorem extS_len {z : Str} {a m : Int} (h0 : 0 ≤ a) (h1 : a < (z.length : Int)) (hm : 0 ≤ m) : (extS z a m).length = z.length + m.toNat := by
  rw [zlen, extS_ring h0 h1 hm, List.length_append, List.length_take, rep_len, List.length_drop, ← zlen]
  have hp : 0 < z.length - a.toNat := by omega
  have := Nat.lt_div_mul_add (a := m.toNat) hp
  have e : (m.toNat / (z.length - a.toNat) + 1) * (z.length - a.toNat) = m.toNat / (z.length - a.toNat) * (z.length - a.toNat) + (z.length - a.toNat) := Nat.succ_mul ..
  rw [e]
  omega
theorem extS_sg {z : Str} {a m : Int} (h : sgB z = true) : sgB (extS z a m) = true := by
  unfold extS
  exact sgB_app h (sgB_cut ((mul_facts _ _).2 (sgB_cut h _ _)) _ _)
/-- so many signs from two places on are the same -/
def Eqs (t : List Nat) (b a m : Nat) : Prop := a + m ≤ t.length ∧ ∀ i, i < m → t[b + i]? = t[a + i]?
theorem Eqs.le {t : List Nat} {b a m n : Nat} (h : Eqs t b a m) (l : n ≤ m) : Eqs t b a n := ⟨by have := h.1; omega, fun i hi => h.2 i (by omega)⟩
theorem ring_at {t : List Nat} {b a m : Nat} (hb : b < a) (h : Eqs t b a m) : ∀ i, i < m → t[a + i]? = t[b + i % (a - b)]? := by
  intro i
  induction i using Nat.strongRecOn with
  | ind i ih =>
    intro hi
    rw [← h.2 i hi]
    by_cases c : i < a - b
    · rw [Nat.mod_eq_of_lt c]
    · have e : b + i = a + (i - (a - b)) := by omega
      rw [e, ih (i - (a - b)) (by omega) (by omega)]
      have e2 : i % (a - b) = (i - (a - b)) % (a - b) := Nat.mod_eq_sub_mod (by omega)
      rw [e2]
/-- a phrase that repeats makes a beginning of the text of a shorter one -/
theorem extS_take {t z : Str} {b a m : Nat} (hz : zl z = (zl t).take a) (hb : b < a) (hm : 0 < m) (h : Eqs (zl t) b a m) : zl (extS z (b : Int) (m : Int)) = (zl t).take (a + m) := by
  have h1 := h.1
  have lz : z.length = a := by rw [zlen, hz, List.length_take]; omega
  rw [extS_ring (by omega) (by omega) (by omega), Int.toNat_natCast, Int.toNat_natCast, lz, hz, List.take_add]
  congr 1
  apply List.ext_getElem?
  intro i
  rw [List.getElem?_take, List.getElem?_take]
  split
  · rename_i hi
    have ld : ((List.take a (zl t)).drop b).length = a - b := by rw [List.length_drop, List.length_take]; omega
    have hp : 0 < a - b := by omega
    have := Nat.lt_div_mul_add (a := m) hp
    have e : (m / (a - b) + 1) * (a - b) = m / (a - b) * (a - b) + (a - b) := Nat.succ_mul ..
    rw [rep_at (by rw [ld]; exact hp) _ _ (by rw [ld, e]; omega), ld, List.getElem?_drop, List.getElem?_take, if_pos (by have := Nat.mod_lt i hp; omega), List.getElem?_drop]
    exact (ring_at hb h i hi).symm
  · rfl
/-! ### what phrases tell -/
/-- a thing with what it is -/
abbrev Thing := V × Option (List V)
/-- a text with a phrase behind it, if it is one and not too long -/
def stepT (z : Str) : Thing → Option Str
  | (.str s, _) => if signV (.str s) = true ∧ z.length < 2000 then some (z ++ s) else none
  | (_, some [.int a, .int m]) => if 0 ≤ a ∧ a < (z.length : Int) ∧ 0 < m ∧ m ≤ 2000 - (z.length : Int) then some (extS z a m) else none
  | _ => none
/-- the text of phrases, or the index of the first that is none -/
def tellT : Str → Nat → List Thing → Int ⊕ Str
  | z, _, [] => .inr z
  | z, k, p :: ps => match stepT z p with
    | none => .inl (k : Int)
    | some y => tellT y (k + 1) ps
theorem tellT_app {ps qs : List Thing} : ∀ {z : Str} {k : Nat}, tellT z k (ps ++ qs) = match tellT z k ps with
    | .inl i => .inl i
    | .inr y => tellT y (k + ps.length) qs := by
  induction ps with
  | nil => intro z k; rfl
  | cons p ps ih =>
    intro z k
    show (match stepT z p with | none => (.inl (k : Int) : Int ⊕ Str) | some y => tellT y (k + 1) (ps ++ qs)) = (match (match stepT z p with | none => (.inl (k : Int) : Int ⊕ Str) | some y => tellT y (k + 1) ps) with | .inl i => .inl i | .inr y => tellT y (k + (ps.length + 1)) qs)
    cases stepT z p with
    | none => rfl
    | some y =>
      show tellT y (k + 1) (ps ++ qs) = _
      rw [ih]
      have e : k + 1 + ps.length = k + (ps.length + 1) := by omega
      rw [e]
theorem tellT_snoc {ps : List Thing} {p : Thing} {z y : Str} (h : tellT z 0 ps = .inr y) : tellT z 0 (ps ++ [p]) = match stepT y p with | none => .inl (ps.length : Int) | some w => .inr w := by
  rw [tellT_app, h]
  show tellT y (0 + ps.length) [p] = _
  rw [Nat.zero_add]
  rfl
theorem tellT_bad {ps : List Thing} {i : Nat} {p : Thing} {z y : Str} (hp : ps[i]? = some p) (h : tellT z 0 (ps.take i) = .inr y) (n : stepT y p = none) : tellT z 0 ps = .inl (i : Int) := by
  have hi := (List.getElem?_eq_some_iff.mp hp).1
  have e : ps = ps.take i ++ (p :: ps.drop (i + 1)) := by
    conv => lhs; rw [← List.take_append_drop i ps]
    rw [List.drop_eq_getElem_cons hi]
    have : ps[i] = p := (List.getElem?_eq_some_iff.mp hp).2
    rw [this]
  rw [e, tellT_app, h]
  show (match stepT y p with | none => (.inl ((0 + (ps.take i).length : Nat) : Int) : Int ⊕ Str) | some y => tellT y (0 + (ps.take i).length + 1) (ps.drop (i + 1))) = _
  rw [n, List.length_take, Nat.zero_add]
  have : min i ps.length = i := by omega
  rw [this]
/-- told: a right text of at most 2000 signs -/
structure Okz (z : Str) : Prop where
  sg : sgB z = true
  few : z.length ≤ 2000
theorem stepT_ok {z y : Str} {p : Thing} (h : Okz z) (e : stepT z p = some y) : Okz y := by
  obtain ⟨x, o⟩ := p
  unfold stepT at e
  split at e
  · rename_i s _ heq
    split at e
    · rename_i c
      cases e
      have hs : sgB s = true ∧ (s.length : Int) = 1 := by
        have := c.1
        unfold signV at this
        exact ⟨(Bool.and_eq_true_iff.mp this).1, of_decide_eq_true (Bool.and_eq_true_iff.mp this).2⟩
      refine ⟨sgB_app h.sg hs.1, ?_⟩
      rw [app_len]
      omega
    · cases e
  · split at e
    · rename_i c
      cases e
      refine ⟨extS_sg h.sg, ?_⟩
      rw [extS_len c.1 c.2.1 (by omega)]
      omega
    · cases e
  · cases e
end LawK
set_option maxHeartbeats 4000000
/-! Right phrases; the longest; the fewest. -/
namespace LawK
open PySem PySem.Spec PyProof.Rows L2 Ev
theorem zl_inj {a b : Str} (h : zl a = zl b) : a = b := by rw [← S_eta a, ← S_eta b]; exact congrArg SX.S h
/-- phrases that make the beginning of a text up to a place -/
inductive Runs (t : List Nat) : List Thing → Nat → Prop
  | nil : Runs t [] 0
  | sign {ps : List Thing} {a c : Nat} {o : Option (List V)} (h : Runs t ps a) (e : t[a]? = some c) : Runs t (ps ++ [(.str (SX.S [c]), o)]) (a + 1)
  | rep {ps : List Thing} {a b m : Nat} {r : Addr} (h : Runs t ps a) (l : b < a) (p : 0 < m) (e : Eqs t b a m) : Runs t (ps ++ [(.ref r, some [.int (b : Int), .int (m : Int)])]) (a + m)
theorem Runs.tell {t : Str} (ht : Okz t) {ps : List Thing} {a : Nat} (h : Runs (zl t) ps a) : a ≤ t.length ∧ ∃ y, tellT "" 0 ps = .inr y ∧ zl y = (zl t).take a := by
  induction h with
  | nil => exact ⟨Nat.zero_le _, _, rfl, rfl⟩
  | @sign ps a c o h e ih =>
    obtain ⟨l, y, e1, e2⟩ := ih
    have la : a < (zl t).length := (List.getElem?_eq_some_iff.mp e).1
    have ly : y.length = a := by rw [zlen, e2, List.length_take]; omega
    have few := ht.few
    rw [← zlen] at la
    refine ⟨la, y ++ SX.S [c], ?_, ?_⟩
    · rw [tellT_snoc e1]
      have sc : signV (.str (SX.S [c])) = true := by
        show (sgB (SX.S [c]) && decide (((SX.S [c]).length : Int) = 1)) = true
        rw [sgB_S, List.all_cons, List.all_nil, Bool.and_true, sgB_mem ht.sg (List.mem_of_getElem? e)]
        rfl
      show (match (if signV (.str (SX.S [c])) = true ∧ y.length < 2000 then some (y ++ SX.S [c]) else none) with | none => _ | some w => _) = _
      rw [if_pos ⟨sc, by omega⟩]
    · rw [zl_app, e2]
      show (zl t).take a ++ [c] = _
      rw [List.take_succ, e]
      rfl
  | @rep ps a b m r h l p e ih =>
    obtain ⟨la, y, e1, e2⟩ := ih
    have lm := e.1
    rw [← zlen] at lm
    have ly : y.length = a := by rw [zlen, e2, List.length_take, ← zlen]; omega
    have few := ht.few
    refine ⟨lm, extS y (b : Int) (m : Int), ?_, extS_take e2 l p e⟩
    rw [tellT_snoc e1]
    show (match (if 0 ≤ (b : Int) ∧ (b : Int) < (y.length : Int) ∧ 0 < (m : Int) ∧ (m : Int) ≤ 2000 - (y.length : Int) then some (extS y (b : Int) (m : Int)) else none) with | none => _ | some w => _) = _
    rw [if_pos ⟨by omega, by omega, by omega, by omega⟩]
theorem Runs.told {t : Str} (ht : Okz t) {ps : List Thing} (h : Runs (zl t) ps t.length) : tellT "" 0 ps = .inr t := by
  obtain ⟨_, y, e1, e2⟩ := h.tell ht
  rw [e1]
  congr 1
  refine zl_inj ?_
  rw [e2, zlen, List.take_length]
/-! ### the longest that stands from a place ahead, too -/
def lcp : List Nat → List Nat → Nat
  | x :: xs, y :: ys => if x = y then lcp xs ys + 1 else 0
  | _, _ => 0
theorem lcp_le : ∀ xs ys : List Nat, lcp xs ys ≤ ys.length
  | [], ys => Nat.zero_le _
  | x :: xs, [] => Nat.zero_le _
  | x :: xs, y :: ys => by
    unfold lcp
    split
    · have := lcp_le xs ys
      rw [List.length_cons]
      omega
    · exact Nat.zero_le _
theorem lcp_eq : ∀ (xs ys : List Nat) (i : Nat), i < lcp xs ys → xs[i]? = ys[i]?
  | [], ys, i, h => by unfold lcp at h; omega
  | x :: xs, [], i, h => by unfold lcp at h; omega
  | x :: xs, y :: ys, i, h => by
    unfold lcp at h
    split at h
    · rename_i e
      cases i with
      | zero => rw [e]; rfl
      | succ i => exact lcp_eq xs ys i (by omega)
    · omega
theorem lcp_max : ∀ (xs ys : List Nat) (n : Nat), n ≤ ys.length → (∀ i, i < n → xs[i]? = ys[i]?) → n ≤ lcp xs ys
  | xs, ys, 0, _, _ => Nat.zero_le _
  | [], y :: ys, n + 1, h, g => by have := g 0 (by omega); cases this
  | [], [], n + 1, h, g => by have : n + 1 ≤ 0 := h; omega
  | x :: xs, [], n + 1, h, g => by have : n + 1 ≤ 0 := h; omega
  | x :: xs, y :: ys, n + 1, h, g => by
    have e : x = y := by
      have := g 0 (by omega)
      exact Option.some.inj this
    unfold lcp
    rw [if_pos e]
    have := lcp_max xs ys n (by rw [List.length_cons] at h; omega) (fun i hi => g (i + 1) (by omega))
    omega
theorem eqs_lcp {t : List Nat} {b a m : Nat} (ha : a ≤ t.length) : Eqs t b a m ↔ m ≤ lcp (t.drop b) (t.drop a) := by
  constructor
  · intro h
    refine lcp_max _ _ m (by rw [List.length_drop]; have := h.1; omega) fun i hi => ?_
    rw [List.getElem?_drop, List.getElem?_drop]
    exact h.2 i hi
  · intro h
    have l := lcp_le (t.drop b) (t.drop a)
    rw [List.length_drop] at l
    refine ⟨by omega, fun i hi => ?_⟩
    have := lcp_eq (t.drop b) (t.drop a) i (by omega)
    rw [List.getElem?_drop, List.getElem?_drop] at this
    exact this
def Lm (t : List Nat) (a : Nat) : Nat → Nat
  | 0 => 0
  | b + 1 => max (Lm t a b) (lcp (t.drop b) (t.drop a))
def Lz (t : List Nat) (a : Nat) : Nat := Lm t a a
theorem Lm_ge {t : List Nat} {a : Nat} : ∀ (n b : Nat), b < n → lcp (t.drop b) (t.drop a) ≤ Lm t a n
  | n + 1, b, h => by
    unfold Lm
    by_cases e : b = n
    · rw [e]; exact Nat.le_max_right _ _
    · exact Nat.le_trans (Lm_ge n b (by omega)) (Nat.le_max_left _ _)
theorem Lm_is {t : List Nat} {a : Nat} : ∀ n, Lm t a n = 0 ∨ ∃ b, b < n ∧ Lm t a n = lcp (t.drop b) (t.drop a)
  | 0 => .inl rfl
  | n + 1 => by
    unfold Lm
    rcases Nat.le_total (Lm t a n) (lcp (t.drop n) (t.drop a)) with h | h
    · exact .inr ⟨n, Nat.lt_succ_self n, Nat.max_eq_right h⟩
    · rw [Nat.max_eq_left h]
      rcases Lm_is n with e | ⟨b, hb, e⟩
      · exact .inl e
      · exact .inr ⟨b, by omega, e⟩
theorem Lz_ge {t : List Nat} {b a m : Nat} (hb : b < a) (h : Eqs t b a m) : m ≤ Lz t a := Nat.le_trans ((eqs_lcp (by have := h.1; omega)).mp h) (Lm_ge a b hb)
theorem Lz_is {t : List Nat} {a : Nat} (ha : a ≤ t.length) : Lz t a = 0 ∨ ∃ b, b < a ∧ Eqs t b a (Lz t a) := by
  rcases Lm_is (t := t) (a := a) a with e | ⟨b, hb, e⟩
  · exact .inl e
  · exact .inr ⟨b, hb, (eqs_lcp ha).mpr (Nat.le_of_eq e)⟩
theorem Lz_le {t : List Nat} {a : Nat} (ha : a ≤ t.length) : a + Lz t a ≤ t.length := by
  rcases Lz_is ha with e | ⟨b, _, h⟩
  · omega
  · exact h.1
theorem Lz_next {t : List Nat} {a : Nat} (ha : a < t.length) : Lz t a ≤ Lz t (a + 1) + 1 := by
  rcases Lz_is (t := t) (a := a) (by omega) with e | ⟨b, hb, h⟩
  · omega
  · rcases Nat.eq_zero_or_pos (Lz t a) with z | p
    · omega
    · have : Eqs t (b + 1) (a + 1) (Lz t a - 1) := ⟨by have := h.1; omega, fun i hi => by
        have := h.2 (i + 1) (by omega)
        have e1 : b + 1 + i = b + (i + 1) := by omega
        have e2 : a + 1 + i = a + (i + 1) := by omega
        rw [e1, e2]
        exact this⟩
      have := Lz_ge (show b + 1 < a + 1 by omega) this
      omega
/-! ### the fewest phrases -/
def stepN (t : List Nat) (a : Nat) : Nat := max 1 (Lz t a)
theorem stepN_le {t : List Nat} {a : Nat} (ha : a < t.length) : a + stepN t a ≤ t.length := by
  have := Lz_le (t := t) (a := a) (by omega)
  unfold stepN
  omega
def Gf (t : List Nat) : Nat → Nat → Nat
  | 0, _ => 0
  | f + 1, a => if a < t.length then 1 + Gf t f (a + stepN t a) else 0
theorem Gf_fuel {t : List Nat} : ∀ (f g a : Nat), t.length ≤ a + f → t.length ≤ a + g → Gf t f a = Gf t g a
  | 0, 0, a, _, _ => rfl
  | 0, g + 1, a, h, _ => by unfold Gf; rw [if_neg (by omega)]
  | f + 1, 0, a, _, h => by unfold Gf; rw [if_neg (by omega)]
  | f + 1, g + 1, a, h1, h2 => by
    unfold Gf
    have s1 : 1 ≤ stepN t a := Nat.le_max_left _ _
    split
    · rw [Gf_fuel f g (a + stepN t a) (by omega) (by omega)]
    · rfl
def Gn (t : List Nat) (a : Nat) : Nat := Gf t t.length a
theorem Gn_at {t : List Nat} {a : Nat} (h : a < t.length) : Gn t a = 1 + Gn t (a + stepN t a) := by
  unfold Gn
  rw [Gf_fuel t.length (t.length + 1) a (by omega) (by omega)]
  conv => lhs; unfold Gf
  rw [if_pos h]
theorem Gn_end {t : List Nat} {a : Nat} (h : t.length ≤ a) : Gn t a = 0 := by
  unfold Gn
  rw [Gf_fuel t.length 0 a (by omega) (by omega)]
  rfl
theorem anti_of {f : Nat → Nat} {k : Nat} (h : ∀ i, k ≤ i → f (i + 1) ≤ f i) : ∀ (j i : Nat), k ≤ i → f (i + j) ≤ f i
  | 0, i, _ => Nat.le_refl _
  | j + 1, i, hi => Nat.le_trans (h (i + j) (by omega)) (anti_of h j i hi)
theorem Gn_next {t : List Nat} : ∀ (n a : Nat), t.length - a ≤ n → Gn t (a + 1) ≤ Gn t a
  | 0, a, h => by rw [Gn_end (show t.length ≤ a + 1 by omega)]; exact Nat.zero_le _
  | n + 1, a, h => by
    by_cases c : t.length ≤ a + 1
    · rw [Gn_end c]; exact Nat.zero_le _
    · rw [Gn_at (show a < t.length by omega), Gn_at (show a + 1 < t.length by omega)]
      have s1 : 1 ≤ stepN t a := Nat.le_max_left _ _
      have l : stepN t a ≤ 1 + stepN t (a + 1) := by
        have := Lz_next (t := t) (a := a) (by omega)
        unfold stepN
        omega
      have an := anti_of (f := Gn t) (k := a + 1) (fun i hi => by
        by_cases z : t.length ≤ i
        · rw [Gn_end (show t.length ≤ i + 1 by omega)]; exact Nat.zero_le _
        · exact Gn_next n i (by omega)) (1 + stepN t (a + 1) - stepN t a) (a + stepN t a) (by omega)
      have e : a + stepN t a + (1 + stepN t (a + 1) - stepN t a) = a + 1 + stepN t (a + 1) := by omega
      rw [e] at an
      omega
theorem Gn_anti {t : List Nat} {i j : Nat} (h : i ≤ j) : Gn t j ≤ Gn t i := by
  have := anti_of (f := Gn t) (k := 0) (fun a _ => Gn_next t.length a (by omega)) (j - i) i (Nat.zero_le _)
  have e : i + (j - i) = j := by omega
  rw [e] at this
  exact this
/-- the fewest from each place on -/
def bestL (t : List Nat) (a : Nat) : List Int := (List.range (t.length + 1 - a)).map fun i => (Gn t (a + i) : Int)
theorem bestL_end {t : List Nat} : bestL t t.length = [0] := by
  unfold bestL
  have : t.length + 1 - t.length = 1 := by omega
  rw [this]
  show [((Gn t (t.length + 0) : Nat) : Int)] = [0]
  rw [Gn_end (by omega)]
  rfl
theorem bestL_cons {t : List Nat} {a : Nat} (h : a < t.length) : bestL t a = (Gn t a : Int) :: bestL t (a + 1) := by
  unfold bestL
  have : t.length + 1 - a = (t.length + 1 - (a + 1)) + 1 := by omega
  rw [this, List.range_succ_eq_map, List.map_cons, List.map_map]
  congr 1
  refine List.map_congr_left fun i _ => ?_
  show ((Gn t (a + (i + 1)) : Nat) : Int) = ((Gn t (a + 1 + i) : Nat) : Int)
  have : a + (i + 1) = a + 1 + i := by omega
  rw [this]
theorem bestL_min {t : List Nat} {a : Nat} (h : a < t.length) {m : Int} (hm : m ∈ (bestL t (a + 1)).take (stepN t a)) (hle : ∀ x ∈ (bestL t (a + 1)).take (stepN t a), m ≤ x) : 1 + m = (Gn t a : Int) := by
  have sl := stepN_le h
  have s1 : 1 ≤ stepN t a := Nat.le_max_left _ _
  rw [Gn_at h]
  unfold bestL at hm hle
  rw [← List.map_take, List.take_range] at hm hle
  have e : min (stepN t a) (t.length + 1 - (a + 1)) = stepN t a := by omega
  rw [e] at hm hle
  obtain ⟨i, hi, rfl⟩ := List.mem_map.mp hm
  have hi2 := List.mem_range.mp hi
  have l1 := hle _ (List.mem_map.mpr ⟨stepN t a - 1, List.mem_range.mpr (by omega), rfl⟩)
  have e2 : a + 1 + (stepN t a - 1) = a + stepN t a := by omega
  rw [e2] at l1
  have l2 : Gn t (a + stepN t a) ≤ Gn t (a + 1 + i) := Gn_anti (by omega)
  omega
/-! ### great ones -/
theorem G_one {t : List Nat} {n c : Nat} (hn : 2 ≤ n) (h : t = List.replicate n c) : Gn t 0 = 2 := by
  have lt : t.length = n := by rw [h, List.length_replicate]
  have at_ : ∀ i, i < n → t[i]? = some c := fun i hi => by rw [h, List.getElem?_replicate, if_pos hi]
  have s0 : stepN t 0 = 1 := rfl
  have l1 : Lz t 1 = n - 1 := by
    have a1 := Lz_ge (t := t) (b := 0) (a := 1) (m := n - 1) (by decide) ⟨by omega, fun i hi => by rw [at_ _ (by omega), at_ _ (by omega)]⟩
    have a2 := Lz_le (t := t) (a := 1) (by omega)
    omega
  have s1 : stepN t 1 = n - 1 := by unfold stepN; rw [l1]; omega
  rw [Gn_at (by omega), s0, Gn_at (by omega), s1, Gn_end (by omega)]
theorem G_two {t : List Nat} {n c d : Nat} (hn : 3 ≤ n) (hc : c ≠ d) (lt : t.length = n) (at_ : ∀ i, i < n → t[i]? = some (if i % 2 = 0 then c else d)) : Gn t 0 = 3 := by
  have s0 : stepN t 0 = 1 := rfl
  have l1 : Lz t 1 = 0 := by
    rcases Lz_is (t := t) (a := 1) (by omega) with e | ⟨b, hb, h⟩
    · exact e
    · rcases Nat.eq_zero_or_pos (Lz t 1) with z | p
      · exact z
      · have := h.2 0 p
        have b0 : b = 0 := by omega
        rw [b0, at_ _ (by omega), at_ _ (by omega)] at this
        exact absurd (Option.some.inj this) hc
  have s1 : stepN t 1 = 1 := by unfold stepN; rw [l1]; rfl
  have l2 : Lz t 2 = n - 2 := by
    have a1 := Lz_ge (t := t) (b := 0) (a := 2) (m := n - 2) (by decide) ⟨by omega, fun i hi => by
      rw [at_ _ (by omega), at_ _ (by omega)]
      have : (2 + i) % 2 = (0 + i) % 2 := by omega
      rw [this]⟩
    have a2 := Lz_le (t := t) (a := 2) (by omega)
    omega
  have s2 : stepN t 2 = n - 2 := by unfold stepN; rw [l2]; omega
  rw [Gn_at (by omega), s0, Gn_at (by omega), s1, Gn_at (by omega), s2, Gn_end (by omega)]
end LawK
set_option maxHeartbeats 4000000
namespace LawK
open PySem PySem.Spec PyProof.Rows L2 Ev

def spAny (K : PySem.W.Frag) : Sp := fun vs H Q _ => ∃ (p a : Addr) (xs : List V), vs = [.ref p, .ref a] ∧ SqL K H a xs ∧ a ≠ p ∧ 0 < xs.length ∧ xs.length < 1000000 ∧ ∃ l, HandL H p l ∧ ∀ x H', x ∈ xs → HandL H' p l → But p H H' → Q x H'
/-- one sign of a text -/
def spAnyS : Sp := fun vs H Q _ => ∃ (p : Addr) (z : Str), vs = [.ref p, .str z] ∧ sgB z = true ∧ 0 < z.length ∧ z.length ≤ 100 ∧ ∃ l, HandL H p l ∧ ∀ c H', sgC c = true → HandL H' p l → But p H H' → Q (.str (SX.S [c])) H'
def spSigns : Sp := fun vs H Q _ => ∃ (p : Addr), vs = [.ref p] ∧ ∃ l, HandL H p l ∧ ∀ z H', sgB z = true → 0 < z.length → z.length ≤ 100 → HandL H' p l → But p H H' → Q (.str z) H'
def spLText : Sp := fun vs H Q _ => ∃ (p : Addr) (z : Str) (m : Int), vs = [.ref p, .str z, .int m] ∧ sgB z = true ∧ 0 < z.length ∧ z.length ≤ 100 ∧ 0 ≤ m ∧ ∃ l, HandL H p l ∧
  ∀ y H', sgB y = true → (y.length : Int) ≤ m → HandL H' p l → But p H H' → Q (.str y) H'
section
variable {P : Program} {w : World} {K : PySem.W.Frag} {mg : Str → Option Value} {base : Heap}
abbrev sAny : Stmt := topS 24
theorem scAny : FnScope ["hand", "some"] ["hand", "some"] (defScope sAny) := ⟨rfl, rfl, rfl, by decide +kernel, rfl, by decide +kernel, by decide +kernel⟩
theorem ok_Any {f : Addr} {fd : FuncData} (F : Fun K "_law_any" "_law_any" sAny f fd)  {fDraw : Addr} {fdDraw : FuncData} (DDraw : Dk P w K mg base "_law_draw" sDraw ["hand", "many"] 1 spDraw fDraw fdDraw) (T : Glob mg) : FnOk P w K mg base CX0 2 f fd ["hand", "some"] (spAny K) := by
  refine F.ok scAny (fun vs H Q E h => ?_) (fun cdv A outer s H vs Q E hr h => ?_)
  · obtain ⟨p, a, xs, rfl, _⟩ := h
    rfl
  · refine ⟨_, (pss_one (ps_ret (pe_ix ix_list (pv 1) (pe_call DDraw.ok (hr.mono (by decide)) (by rfl) DDraw.g DDraw.F.kp DDraw.b .nil pass0 (pa_cons (pv 0) (pa_cons (pe_callB call_len_seq (by rfl) T.len PySem.boot_len (pa_cons (pv 1) pa_nil)) pa_nil))) (fun _ _ => rfl)))), ?_⟩
    obtain ⟨p, a, xs, rfl, ha, nap, h0, h1, lh, hH, q⟩ := h
    refine ⟨.ref a, rfl, .ref p, rfl, .ref a, rfl, a, xs, rfl, .inl ha, p, (xs.length : Int), rfl, by omega, by omega, lh, hH, fun v H1 v0 v1 h2 b2 => ?_⟩
    obtain ⟨x, e, hm⟩ := atI_in v0 v1
    exact ⟨a, xs, v, x, rfl, rfl, sqBut ha nap b2, e, q x H1 hm h2 b2⟩
abbrev sSigns : Stmt := topS 28
theorem scSigns : FnScope ["hand"] ["hand"] (defScope sSigns) := ⟨rfl, rfl, rfl, by decide +kernel, rfl, by decide +kernel, by decide +kernel⟩
theorem ok_Signs {f : Addr} {fd : FuncData} (F : Fun K "_law_signs" "_law_signs" sSigns f fd)  {fAny : Addr} {fdAny : FuncData} (DAny : Dk P w K mg base "_law_any" sAny ["hand", "some"] 2 (spAny K) fAny fdAny) (T : Glob mg) : FnOk P w K mg base CX0 3 f fd ["hand"] spSigns := by
  refine F.ok scSigns (fun vs H Q E h => ?_) (fun cdv A outer s H vs Q E hr h => ?_)
  · obtain ⟨p, rfl, _⟩ := h
    rfl
  · refine ⟨_, (pss_one (ps_ret (pe_call DAny.ok (hr.mono (by decide)) (by rfl) DAny.g DAny.F.kp DAny.b .nil pass0 (pa_cons (pv 0) (pa_cons (pe_lst (pa_cons pe_str (pa_cons pe_str (pa_cons pe_str (pa_cons pe_str (pa_cons pe_str (pa_cons pe_str (pa_cons pe_str pa_nil)))))))) pa_nil))))), ?_⟩
    obtain ⟨p, rfl, lh, hH, q⟩ := h
    refine ⟨.ref p, rfl, by show 7 ≤ sizeLine; decide, fun a na => ?_⟩
    refine ⟨p, a, _, rfl, sq_of upd_same, (hH.ne na).1, by decide, by decide, lh, hH.same (Same.new na), fun x H' hx h1 b1 => ?_⟩
    have b2 := (But.same (p := p) (Same.new (o := .lst [.str "a", .str "ab", .str "ab", .str "abc", .str "ab ~", .str "xyzw", .str "0123456789"]) na)).trans b1
    have fin : ∀ z : Str, sgB z = true ∧ 0 < z.length ∧ z.length ≤ 100 → x = .str z → Q x H' := fun z w e => by
      rw [e]
      exact q z H' w.1 w.2.1 w.2.2 h1 b2
    simp only [List.mem_cons, List.not_mem_nil, or_false] at hx
    rcases hx with e | e | e | e | e | e | e
    all_goals exact fin _ ⟨by decide +kernel, by decide +kernel, by decide +kernel⟩ e
theorem ok_AnyS {f : Addr} {fd : FuncData} (F : Fun K "_law_any" "_law_any" sAny f fd)  {fDraw : Addr} {fdDraw : FuncData} (DDraw : Dk P w K mg base "_law_draw" sDraw ["hand", "many"] 1 spDraw fDraw fdDraw) (T : Glob mg) : FnOk P w K mg base CX0 2 f fd ["hand", "some"] spAnyS := by
  refine F.ok scAny (fun vs H Q E h => ?_) (fun cdv A outer s H vs Q E hr h => ?_)
  · obtain ⟨p, z, rfl, _⟩ := h
    rfl
  · refine ⟨_, (pss_one (ps_ret (pe_ix ix_str (pv 1) (pe_call DDraw.ok (hr.mono (by decide)) (by rfl) DDraw.g DDraw.F.kp DDraw.b .nil pass0 (pa_cons (pv 0) (pa_cons (pe_callB call_lenZ (by rfl) T.len PySem.boot_len (pa_cons (pv 1) pa_nil)) pa_nil))) (fun _ _ => rfl)))), ?_⟩
    obtain ⟨p, z, rfl, hz, z0, z1, lh, hH, q⟩ := h
    refine ⟨.str z, rfl, .ref p, rfl, .str z, rfl, z, rfl, len6 z1, p, (z.length : Int), rfl, by omega, by omega, lh, hH, fun v H1 v0 v1 h2 b2 => ?_⟩
    obtain ⟨c, ec, hc⟩ := sg_at hz v0 v1
    exact ⟨z, v, c, rfl, rfl, len6 z1, ec, q c H1 hc h2 b2⟩
abbrev sText : Stmt := topS 27
theorem scText : FnScope ["hand", "signs", "most", "found", "turn", "begin", "sign"] ["hand", "signs", "most"] (defScope sText) := ⟨rfl, rfl, rfl, by decide +kernel, rfl, by decide +kernel, by decide +kernel⟩
theorem ok_Text {f : Addr} {fd : FuncData} (F : Fun K "_law_text" "_law_text" sText f fd)  {fDraw : Addr} {fdDraw : FuncData} (DDraw : Dk P w K mg base "_law_draw" sDraw ["hand", "many"] 1 spDraw fDraw fdDraw) {fAny : Addr} {fdAny : FuncData} (DAny : Dk P w K mg base "_law_any" sAny ["hand", "some"] 2 spAnyS fAny fdAny) (T : Glob mg) : FnOk P w K mg base CX0 3 f fd ["hand", "signs", "most"] spLText := by
  refine F.ok scText (fun vs H Q E h => ?_) (fun cdv A outer s H vs Q E hr h => ?_)
  · obtain ⟨p, z, m, rfl, _⟩ := h
    rfl
  · refine ⟨_, (pss_cons (ps_set (i := 3) scText.nd rfl (.inl rfl) pe_str)
      (pss_cons (ps_for PassesOwn.never rfl (pi_range1 (by rfl) T.range (pa_cons (pe_call DDraw.ok (hr.mono (by decide)) (by rfl) DDraw.g DDraw.F.kp DDraw.b .nil pass0 (pa_cons (pv 0) (pa_cons pe_int pa_nil))) pa_nil)) (pg_name (i := 4) scText.nd rfl (.inl rfl))
      (pss_one (ps_if (PW.pt (pw_and (pt_cmpR op_ne (pv 3) pe_str (nomark _)) (pw_and1 (pt_cmpR op_eq (pe_call DDraw.ok (hr.mono (by decide)) (by rfl) DDraw.g DDraw.F.kp DDraw.b .nil pass0 (pa_cons (pv 0) (pa_cons pe_int pa_nil))) pe_int (nomark _)))))
        (pss_cons (ps_set (i := 5) scText.nd rfl (.inl rfl) (pe_call DDraw.ok (hr.mono (by decide)) (by rfl) DDraw.g DDraw.F.kp DDraw.b .nil pass0 (pa_cons (pv 0) (pa_cons (pe_callB call_lenZ (by rfl) T.len PySem.boot_len (pa_cons (pv 3) pa_nil)) pa_nil))))
          (pss_one (ps_set (i := 3) scText.nd rfl (.inl rfl) (pe_op op_add_str (pv 3) (pe_slice sl_str (pv 3) (po_some (pv 5)) (po_some (pe_op op_add (pe_op op_add (pv 5) pe_int) (pe_call DDraw.ok (hr.mono (by decide)) (by rfl) DDraw.g DDraw.F.kp DDraw.b .nil pass0 (pa_cons (pv 0) (pa_cons pe_int pa_nil))))))))))
        (pss_one (ps_set (i := 3) scText.nd rfl (.inl rfl) (pe_op op_add_str (pv 3) (pe_join pe_str (pe_lc (own := [("sign", 6)]) (g := gName 6) (by rfl) scText.nd (pi_range1 (by rfl) T.range (pa_cons (pe_op op_add pe_int (pe_call DDraw.ok (hr.mono (by decide)) (by rfl) DDraw.g DDraw.F.kp DDraw.b .nil pass0 (pa_cons (pv 0) (pa_cons pe_int pa_nil)))) pa_nil)) (blkOk_by (N := ["hand", "signs", "most", "found", "turn", "begin", "sign"]) (sc := defScope sText) (by decide +kernel)) (fun _ _ _ _ _ => pg_name (i := 6) scText.nd rfl (.inl rfl)) (fun _ _ _ _ _ => pts_nil) (fun _ _ _ _ _ => (pe_call DAny.ok (hr.mono (by decide)) (by rfl) DAny.g DAny.F.kp DAny.b .nil pass0 (pa_cons (pv 0) (pa_cons (pv 1) pa_nil))))))))))))
      (pss_one (ps_ret (pe_slice sl_str (pv 3) po_none (po_some (pv 2))))))), ?_⟩
    obtain ⟨p, z, m, rfl, hz, z0, z1, m0, lh, hH, q⟩ := h
    refine ⟨.ref p, rfl, p, 9, rfl, by decide, by decide, lh, hH, fun v H1 v0 v1 h1 b1 => ?_⟩
    refine ⟨v, rfl, by omega, by omega, for_range (fun i σ H' => ∃ (y : Str) (u1 u2 : Option V), σ = [some (.ref p), some (.str z), some (.int m), some (.str y), u1, u2, none] ∧ sgB y = true ∧ y.length ≤ 12 * i ∧ Hn p lh H1 H') ⟨_, none, none, rfl, rfl, Nat.zero_le _, Hn.refl h1⟩ ?_ ?_⟩
    · rintro i σ H2 hi ⟨y, u1, u2, rfl, sy, ly, hn⟩
      have hi2 : i < 9 := by omega
      refine (?_ : ∀ Q : Bool → Hp → Prop, (∀ b H3, Hn p lh H1 H3 → (b = true → 0 < y.length) → Q b H3) → tAnd _ _ _ H2 Q) _ ?_
      · intro Q0 k0
        refine ⟨.str y, rfl, rfl, _, rfl, ite2 (fun e => ?_) (fun e => k0 _ _ hn (fun w => Bool.noConfusion w))⟩
        have ly0 : 0 < y.length := by
          rcases Nat.eq_zero_or_pos y.length with z0 | z0
          · have : y = "" := by
              have en : y.cps.toList = [] := List.eq_nil_of_length_eq_zero (by rw [← len_S]; exact z0)
              rw [← S_eta y, en]
              rfl
            rw [this] at e
            exact absurd e (by decide)
          · exact z0
        refine ⟨.ref p, rfl, p, 2, rfl, by decide, by decide, lh, hn.at_, fun u H3 w0 w1 h3 b3 => ⟨rfl, _, rfl, k0 _ _ (hn.go h3 b3) (fun _ => ly0)⟩⟩
      · intro b H3 hn3 hb
        cases b with
        | true =>
          have ly0 := hb rfl
          refine iteT ⟨.ref p, rfl, .str y, rfl, y, rfl, len6 (n := 108) (by omega), p, (y.length : Int), rfl, by omega, by omega, lh, hn3.at_, fun u H4 w0 w1 h4 b4 => ?_⟩
          have hn4 := hn3.go h4 b4
          refine ⟨.str y, rfl, .str y, rfl, .int u, rfl, u, rfl, .int u, rfl, _, _, rfl, rfl, .ref p, rfl, p, 12, rfl, by decide, by decide, lh, hn4.at_, fun x H5 x0 x1 h5 b5 => ?_⟩
          have hn5 := hn4.go h5 b5
          have cc := cut_lohi (z := y) (b := u) (e := u + 1 + x) w0 (by omega)
          refine ⟨_, _, rfl, rfl, u + 1 + x, rfl, y, rfl, len6 (n := 108) (by omega), y, cutS y (some u) (some (u + 1 + x)), rfl, rfl, ?_, ?_⟩
          · rw [sizeLine_eq]
            omega
          · exact ⟨_, _, _, rfl, sgB_app sy (sgB_cut sy _ _), by rw [app_len]; omega, hn5⟩
        | false =>
          refine iteF ?_
          refine ⟨.str y, rfl, ⟨_, rfl⟩, .ref p, rfl, p, 6, rfl, by decide, by decide, lh, hn3.at_, fun u H4 w0 w1 h4 b4 => ?_⟩
          have hn4 := hn3.go h4 b4
          refine ⟨_, _, rfl, rfl, 1 + u, rfl, by omega, by omega, fun D nD => lc_range (fun i H' => ∃ cs : List Nat, H' D = some (.lst (cs.map fun c => V.str (SX.S [c]))) ∧ cs.length = i ∧ (∀ c ∈ cs, sgC c = true) ∧ Hn p lh H4 H') ⟨[], upd_same, rfl, fun c hc => absurd hc (by simp), (Hn.refl h4).new nD⟩ ?_ ?_⟩
          · rintro i H' hi ⟨cs, hD, hl, hs, hn⟩
            refine ⟨rfl, .ref p, rfl, .str z, rfl, p, z, rfl, hz, z0, z1, lh, hn.at_, fun c H2 hc h2 b2 => ?_⟩
            have nDp := (h4.ne nD).1
            refine ⟨_, b2 _ _ nDp hD, ?_, cs ++ [c], ?_, ?_, ?_, (hn.go h2 b2).at h4 nD⟩
            · rw [List.length_map, hl, sizeLine_eq]
              omega
            · rw [upd_same, List.map_append]
              rfl
            · rw [List.length_append, hl]
              rfl
            · intro d hd
              rcases List.mem_append.mp hd with g | g
              · exact hs d g
              · rw [List.mem_singleton.mp g]
                exact hc
          · rintro H' ⟨cs, hD, hl, hs, hn⟩
            have e1 : (cs.map fun c => V.str (SX.S [c])) = (cs.map fun c => SX.S [c]).map V.str := by rw [List.map_map]; rfl
            have hln : cs.length ≤ 6 := by omega
            have hsum : ((cs.map fun c => SX.S [c]).map (·.length)).sum ≤ cs.length := by
              clear hD hl hs e1 hln
              induction cs with
              | nil => exact Nat.le_refl _
              | cons c cs ih =>
                simp only [List.map_cons, List.sum_cons, List.length_cons]
                have : (SX.S [c]).length = 1 := rfl
                omega
            have sj : sgB (SX.S cs) = true := by rw [sgB_S]; exact List.all_eq_true.mpr hs
            have lj : (SX.S cs).length = cs.length := rfl
            refine ⟨_, D, cs.map (fun c => SX.S [c]), rfl, rfl, .inl (sq_of (e1 ▸ hD)), ?_, ?_⟩
            · rw [List.length_map]
              have : (Str.ofString "").length = 0 := by decide +kernel
              rw [this]
              omega
            · rw [join1]
              refine ⟨y, SX.S cs, rfl, rfl, ?_, ?_⟩
              · rw [lj, sizeLine_eq]
                omega
              · exact ⟨_, _, _, rfl, sgB_app sy sj, by rw [app_len, lj]; omega, hn4.trans hn⟩
    · rintro σ H2 ⟨y, u1, u2, rfl, sy, ly, hn⟩
      have c1 := cut_hi (z := y) (lo := none) (u := m) (by omega)
      exact ⟨.str y, rfl, .int m, rfl, m, rfl, y, rfl, len5 (by omega), q _ H2 (sgB_cut sy _ _) (by omega) hn.at_ (b1.trans hn.but)⟩
end
end LawK
set_option maxHeartbeats 4000000
/-! Own errors whose __init__ says super().__init__() and nothing else. -/
namespace Ev
open PySem PySem.W PySem.Calls PyProof.Rows L2

abbrev supArgs (p : Pos) : Arguments := { posonlyargs := [], args := [{ arg := "self", annotation := none, pos := p }], vararg := none, kwonlyargs := [], kw_defaults := [], kwarg := none, defaults := [] }
abbrev supBody (p0 p1 p2 p3 p4 : Pos) : List Stmt := [.Expr (.Call (.Attribute (.Call (.Name "super" p0) [] [] p1) "__init__" p2) [] [] p3) p4]

abbrev supScope : Scope := { kind := .function, names := [(PySem.Str.ofString "self", .local), (PySem.Str.ofString "__class__", .free), (PySem.Str.ofString "super", .globalImplicit)], isGenerator := false, isCoroutine := false, more := [] }
theorem sup_l1 : supScope.names.lookup ("self" : Str) = some .local := by decide +kernel
theorem sup_l2 : supScope.names.lookup ("super" : Str) = some .globalImplicit := by decide +kernel
theorem sup_l3 : supScope.names.lookup ("__class__" : Str) = some .free := by decide +kernel
/-- what the written part tells of such a class at C, whose __init__ stands at fI -/
structure SupC (P : Program) (K : Frag) (mg : Str → Option Value) (C fI : Addr) : Prop where
  oex : OexC K C
  ini : findIn K (.ref C) "__init__" = some (some (.ref fI))
  tyI : typeIn K (.ref fI) = some (.type "function")
  fn : ∃ (oc : Value) (od : Option Addr) (qual : Str) (kV doc pm ct : Value) (an : Option Addr) (cda cc : Addr) (osl : Array (Option Value)) (p p0 p1 p2 p3 p4 : Pos) (ccl : Value) (cdd : Option Addr) (vs : Array Value) (ccs : Array (Option Value)) (file : Str) (tf : Tok) (cl : Value) (cld : Option Addr) (csl : Array (Option Value)),
    K.lookup fI = some ⟨oc, od, .func (ksFn "__init__" qual (supArgs p) (supBody p0 p1 p2 p3 p4) supScope .none kV doc pm an (.ref cda) ct cc), osl⟩ ∧ codeIn K (.ref cda) qual = true ∧
    K.lookup cda = some ⟨ccl, cdd, .fields vs, ccs⟩ ∧ vs[2]? = some (.str file tf) ∧ ((P.main.file : Str) == file) = true ∧ K.lookup cc = some ⟨cl, cld, .cell (some (.ref C)), csl⟩ ∧
    (p2.endLine == p3.line) = true
  gs : mg "super" = none
  top : (P.main.scope.names.lookup ("super" : Str)).isSome = false
  third : nsIn K cStatics "thirdparty.any" = some none
  sup : ks_superIn K C C "__init__" = some (some (.builtin "ValueError.__init__"))
  ve : subIn K (.ref C) (.type "ValueError") = some true
  me : mroIn K C (.ref C) = some true

theorem sup_eval {env : Env} {p0 p1 p2 p3 : Pos} (h : (p2.endLine == p3.line) = true) : eval (.Call (.Attribute (.Call (.Name "super" p0) [] [] p1) "__init__" p2) [] [] p3) env = (do
      let ov ← attributeBase (.Call (.Name "super" p0) [] [] p1) "__init__" env (eval (.Call (.Name "super" p0) [] [] p1) env)
      standAt p2.atName
      let (f, first) ← holding [ov] (getMethod ov "__init__" (do return (← importBound (.Call (.Name "super" p0) [] [] p1) env).getD true))
      callWith p3 f first (backTo p3 (starEach [] env)) []) := by
  have e : methodCallPos true (.Call (.Name "super" p0) [] [] p1) env p2 p3 = pure p3 := by
    unfold methodCallPos
    rw [h]
    rfl
  show (do
    let ov ← attributeBase (.Call (.Name "super" p0) [] [] p1) "__init__" env (eval (.Call (.Name "super" p0) [] [] p1) env)
    standAt p2.atName
    let (f, first) ← holding [ov] (getMethod ov "__init__" (do return (← importBound (.Call (.Name "super" p0) [] [] p1) env).getD true))
    let callPos ← methodCallPos true (.Call (.Name "super" p0) [] [] p1) env p2 p3
    callWith callPos f first (backTo p3 (starEach [] env)) []) = _
  rw [e]
  rfl
theorem boot_super : bootBuiltins "super" = some (.type "super") := by first | boot_by_name | rfl | kernel_rfl

section
variable {P : Program} {w : World} {A : Around} {E : Value → Shared → Prop} {K : Frag} {mg mb : Str → Option Value} {C fI x t0 : Addr} {h : Heap} {g : Array GenState} {d : Drawn} {tk : Nat} {os : OsState}

/-- the wrapper that super().__init__ gives, called: the args are laid anew -/
theorem bound_init {u : Addr} {Q : Value → Shared → Prop} (T : OexC K C) (X : K.In h) (hu : h.get? u = some (kxs_mw "ValueError.__init__" x)) (hx : h.get? x = some (PySem.HandSPX.excO C t0))
    (hq : ∀ h' t1, (∀ b o, b ≠ x → h.get? b = some o → h'.get? b = some o) → h'.get? x = some (PySem.HandSPX.excO C t1) → Q .none ⟨h', g, d, tk, os⟩) :
    wpAny (model P w) A (call (.ref u) []) Q E ⟨h, g, d, tk, os⟩ := by
  obtain ⟨nm, q, N, bs, bm, sn, sub, ab, col, dd, k0, k1, k2, k3, k5, hC, hbm⟩ := T.cls
  refine wpAny_call (codeAny_of_tree ?_)
  show wpAny _ A.in1 (callAny (.ref u) ⟨[], []⟩) _ _ _
  simp only [callAny]
  refine wpAny_bind (wpAny_load hu ?_)
  simp only [kxs_mw, show (Value.type "method-wrapper" == Value.type "method" || Value.type "method-wrapper" == Value.type "builtin_function_or_method" || Value.type "method-wrapper" == Value.type "method-wrapper") = true by decide, if_true]
  refine KFB.if_so (by decide) ?_
  refine wpAny_bind (check_bound_init F.excBase_ValueError.toExcCallFacts (X _ _ hC) hx rfl ?_)
  refine wpAny_bind (wpAny_pure (wpAny_pure ?_))
  refine ⟨plainId_quiet F.excBase_ValueError.init.plain _, codeAny_builtin F.excBase_ValueError.initEntry ?_⟩
  exact exc_init_tree (cls := .ref C) (t0 := t0) (dv := none) (c2 := .none) (c3 := .none) (b4 := .bool false) hx (by rw [sizeLine_eq]; exact Nat.zero_le _) fun h' k e _ => hq h' h.objs.size k e

theorem sup_init {R : Result → Shared → Prop} {s : Shared} (T : SupC P K mg C fI) (hroom : A.depth < recursionLimit) (X : K.In s.heap) (hlim : s.heap.NoLimit) (G : s.heap.Ns mainGlobals mg) (B : s.heap.Ns builtinsNs mb)
    (hbb : ∀ y : Str, y ≠ "__name__" → mb y = bootBuiltins y) (hx : s.heap.get? x = some (PySem.HandSPX.excO C t0))
    (hq : ∀ h' t' t1, (∀ b o, b ≠ x → s.heap.get? b = some o → h'.get? b = some o) → h'.get? x = some (PySem.HandSPX.excO C t1) → R (.ok (.ret .none)) { s with heap := h', toks := t' }) :
    codeAny (model P w) A (.call (.ref fI) ⟨[.ref x], []⟩) R s := by
  obtain ⟨oc, od, qual, kV, doc, pm, ct, an, cda, cc, osl, p, p0, p1, p2, p3, p4, ccl, cdd, vs, ccs, file, tf, cl, cld, csl, ho, hcd, hcode, hvs, hfile, hcell, hline⟩ := T.fn
  refine ks_codeAny_call_defAt (fd := ksFn "__init__" qual (supArgs p) (supBody p0 p1 p2 p3 p4) supScope .none kV doc pm an (.ref cda) ct cc) (body := supBody p0 p1 p2 p3 p4) (binds := [("self", .ref x)]) hroom (X _ _ ho) rfl hlim (codeRec_of X hcd) rfl
    (BindsTo.of_eq rfl) (by show ∀ y ∈ supScope.names, y.2 ≠ .cell; decide) (fun y hy => ?_) (fun h₁ hns k₁ => ?_)
  · obtain rfl : y = (("self" : Str), Value.ref x) := List.mem_singleton.mp hy
    exact sup_l1
  obtain ⟨hp, g, d, tk, os⟩ := s
  have X₁ : K.In h₁ := X.keeps k₁
  have hx₁ : h₁.get? x = some (PySem.HandSPX.excO C t0) := k₁ _ _ hx
  have G₁ : h₁.Ns mainGlobals mg := G.keeps k₁
  have B₁ : h₁.Ns builtinsNs mb := B.keeps k₁
  obtain ⟨nm, q, N, bs, bm, sn, sub, ab, col, dd, q0, q1, q2, q3, q5, hC, hbm⟩ := T.oex.cls
  show _root_.PySem.wpAt _ _ _ (execs (supBody p0 p1 p2 p3 p4) (ksEnv qual supScope hp.objs.size fI (.ref cda) cc)) _ _ _
  refine ks_wpAt_execs_cons (ks_wpAt_Expr_any (ks_wpAt_MethodCall ?_ (sup_eval hline)))
  refine ks_wpAt_super_base (env := ksEnv qual supScope hp.objs.size fI (.ref cda) cc) sup_l2 sup_l3 (by decide) rfl (X₁ _ _ ho) rfl rfl rfl (X₁ _ _ hcode) rfl hvs hfile T.top ?_
  refine ks_loadName_global rfl sup_l2 (loadGlobal_builtin (env := ksEnv qual supScope hp.objs.size fI (.ref cda) cc) G₁ T.gs B₁ ((hbb _ (by decide +kernel)).trans boot_super) ⟨rfl, ?_⟩)
  refine wpAny_loadName_free rfl sup_l3 rfl ⟨_, X₁ _ _ hcell, rfl⟩ ?_
  refine wpAny_loadName_local rfl sup_l1 hns (v := .ref x) (by show List.lookup ("self" : Str) [(("self" : Str), Value.ref x)] = some (Value.ref x); simp [List.lookup]) ?_
  refine ks_wpAny_isType_cls (X₁ _ _ hC) rfl ⟨rfl, ?_⟩
  have I : InstAt h₁ x (PySem.HandSPX.excO C t0) C none := ⟨hx₁, rfl, rfl, trivial⟩
  refine ks_wpAny_call_super (X₁ _ _ hC) rfl I.at_ I.cls (fun c e => by cases e) (looks_mroIn X₁ T.me) (fun h' e k => ?_)
  have X₂ : K.In h' := X₁.keeps k
  have hx₂ : h'.get? x = some (PySem.HandSPX.excO C t0) := k _ _ hx₁
  have I₂ : InstAt h' x (PySem.HandSPX.excO C t0) C none := ⟨hx₂, rfl, rfl, trivial⟩
  have hsu := T.sup
  unfold ks_superIn at hsu
  have hcl : clsIn K C = some { name := nm, bases := bs, mro := .ref C :: bm, ns := N, qualname := q, hasDict := true, slotNames := sn, subclasses := sub, abstract := ab, collection := col, hasDel := false } := by unfold clsIn; rw [hC] <;> rfl
  rw [hcl] at hsu
  refine kxs_getMethod kxs_ValueError e (looks_opaque X₂ T.third) (l₀ := .ref C :: bm) ?_ rfl X₂ hsu (I₂.type.andThen (looks_subIn X₂ T.ve)) (ks_ne X₂ I₂ hcl) (by decide) ?_
  · exact fun A Q E s k q => wpAny_bind ((looks_clsIn X₂ hcl) A _ E s k (wpAny_pure q))
  have hne : h'.objs.size ≠ x := Nat.ne_of_gt (Heap.lt_size hx₂)
  have k2 : ∀ b o, h'.get? b = some o → (h'.push (kxs_mw "ValueError.__init__" x)).get? b = some o := fun b o z => Heap.get?_push_of_some _ z
  have hmw : (h'.push (kxs_mw "ValueError.__init__" x)).get? h'.objs.size = some (kxs_mw "ValueError.__init__" x) := Heap.get?_push_at rfl rfl
  refine kxs_callWith (i := "ValueError.__init__") (x := x) rfl (evalArgs_empty ⟨hmw, ?_⟩)
  refine bound_init T.oex (X₂.keeps k2) hmw (k2 _ _ hx₂) fun h3 t1 k3 hx3 => ?_
  exact wpAt_of_wpAny (wpAny_execs_nil (hq h3 _ t1 (fun b o hb z => k3 b o hb (k2 b o (k b o (k₁ b o z)))) hx3))
end
end Ev
set_option maxHeartbeats 4000000
/-! Rules for own errors as values: made, asked by isinstance, their fields read. -/
namespace Ev
open PySem PySem.Spec PyProof.Rows L2

section
variable {X : Cx} {x : Str} {C fI : Addr} {p pos : Pos}
theorem make_room {k : Nat} {A : Around} (hr : Room k A) {us : List Value} : (A.under (.builtin "type.__call__" ⟨.ref C :: us, []⟩)).depth < recursionLimit := by
  rw [make_depth]
  have := hr.dp
  omega
/-- C() of a class whose __init__ is super().__init__(): what stands behind it -/
theorem run_exc0 {pins : List (Addr × Obj)} {s : Shared} {σ : L2.St} {H : Hp} {k : Nat} {Q : Value → Shared → Prop} (T : SupC X.prog X.K X.mg C fI) (hr : Room k X.A) (I : Inv X pins σ H s)
    (h : ∀ h' tk a t1, s.heap.objs.size ≤ a → (∀ b o, s.heap.get? b = some o → h'.get? b = some o) → h'.get? a = some (PySem.HandSPX.excO C t1) → Q (.ref a) { s with heap := h', toks := tk }) :
    wpAny (model X.prog X.w) X.A (call (.ref C) []) Q X.xe s := by
  obtain ⟨nm, q, N, bs, bm, sn, sub, ab, col, dd, k0, k1, k2, k3, k5, hC, hbm⟩ := T.oex.cls
  obtain ⟨mb, hb1, hb2⟩ := I.mod.blt
  have kX := I.kIn
  have lim := I.nolimit
  have g1 := I.mod.glob.keeps I.bk
  have b1 := hb1.keeps I.bk
  obtain ⟨hp, g, dr, tk, os⟩ := s
  have kk : ∀ b o, hp.get? b = some o → ((hp.push (PySem.W.kdv_tup [])).push (PySem.HandSPX.excO C hp.objs.size)).get? b = some o := fun b o e => Heap.get?_push_of_some _ (Heap.get?_push_of_some _ e)
  have hget : ((hp.push (PySem.W.kdv_tup [])).push (PySem.HandSPX.excO C hp.objs.size)).get? (hp.objs.size + 1) = some (PySem.HandSPX.excO C hp.objs.size) := by heap_get
  refine wpAny_call (PySem.HandSPX.call_own F.excBase_ValueError (fun Y => PySem.HandSPX.refsVE_contains Y bm hbm) (kX _ _ hC) (PySem.W.looks_findIn kX T.ini) (fun self => PySem.W.bind_fn kX self T.tyI) (by rw [sizeLine_eq]; exact Nat.zero_le _)
    (sup_init (s := ⟨(hp.push (PySem.W.kdv_tup [])).push (PySem.HandSPX.excO C hp.objs.size), g, dr, tk, os⟩) T (make_room hr) (kX.keeps kk) (lim.keeps kk) (g1.keeps kk) (b1.keeps kk) hb2 hget fun h' t' t1 k' hx => ⟨rfl, ?_⟩))
  exact h h' t' (hp.objs.size + 1) t1 (Nat.le_succ _) (fun b o e => k' b o (Nat.ne_of_lt (Nat.lt_succ_of_lt (Heap.lt_size e))) (kk b o e)) hx
def tExc0 (C : Addr) : TE := fun _ H Q => ∀ a, H a = none → Q (.ref a) (upd H a (exo a C none))
theorem pe_exc0 {k : Nat} (T : SupC X.prog X.K X.mg C fI) (hr : Room k X.A) (hg : Gl X x) (hm : X.mg x = some (.ref C)) (hdb : (x == ("__debug__" : Str)) = false := by decide) : PE X (.Call (.Name x p) [] [] pos) (tExc0 C) := by
  refine ⟨fun pins s σ H Q I h => ?_⟩
  refine wpAny_Call_Name_kw (ld_glob I hg hm ?_ hdb)
  refine PySem.W.callWith_K0 I.kIn T.oex.kC ?_
  show wpAny _ _ (call (.ref C) []) _ _ _
  refine run_exc0 T hr I fun h' tk a t1 ha k e => ?_
  exact ⟨.ref a, upd H a (exo a C none), I.laid k ha (exo_ok e), rfl, h a (I.hok.fresh ha)⟩
/-- raised at once -/
theorem pmk_exc0 {k : Nat} (T : SupC X.prog X.K X.mg C fI) (hr : Room k X.A) (hg : Gl X x) (hm : X.mg x = some (.ref C)) (hdb : (x == ("__debug__" : Str)) = false := by decide) : PMk X (.Call (.Name x p) [] [] pos) (fun _ H Q => Q (.ref C) none H) := by
  intro pins s σ H Q I h
  refine wpAny_Call_Name_kw (ld_glob I hg hm ?_ hdb)
  refine PySem.W.callWith_K0 I.kIn T.oex.kC ?_
  show wpAny _ _ (call (.ref C) []) _ _ _
  refine run_exc0 T hr I fun h' tk a t1 ha k e => ?_
  refine ⟨a, _, _, s, H, .ref C, none, rfl, I, k, ?_, e, ⟨rfl, rfl⟩, rfl, rfl, I.hok.fresh ha, rfl, I.bare, raises_own T.oex.exC T.oex.tyC, h⟩
  exact Heap.get?_none_of_le ha
end

/-! ### __init__(self, f): self.f = f -/
structure Ini1 (st : Stmt) (f : Str) : Prop where
  body : ∃ q1 q2 q3 q4, defBody st = [.Assign [.Attribute (.Name "self" q1) f q2] (.Name f q3) q4]
  sc : FnScope ["self", f] ["self", f] (defScope st)
  l0 : (defScope st).names.lookup ("self" : Str) = some .local
  l1 : (defScope st).names.lookup f = some .local
  d1 : (f == ("__debug__" : Str)) = false
  d2 : (f == ("__classdict__" : Str)) = false
def spIni1 (C : Addr) (f : Str) : Sp := fun vs H Q _ => ∃ (a : Addr) (v : V), vs = [.ref a, v] ∧ H a = some (exo a C none) ∧ ∀ dx, H dx = none → dx ≠ a → Q .non (upd (upd H dx (exd dx [(f, v)])) a (exo a C (some dx)))
section
variable {P : Program} {w : World} {K : PySem.W.Frag} {mg : Str → Option Value} {base : Heap} {C : Addr}
theorem ok_ini1 {qual f : Str} {st : Stmt} {fI : Addr} {fd : FuncData} (F : Fun K "__init__" qual st fI fd) (S : Ini1 st f) (T : OexC K C) (hno : PySem.W.findIn K (.ref C) f = some none) : FnOk P w K mg base CX0 1 fI fd ["self", f] (spIni1 C f) := by
  refine F.ok S.sc (fun vs H Q E h => ?_) (fun cdv A outer s H vs Q E hr h => ?_)
  · obtain ⟨a, v, rfl, _⟩ := h
    rfl
  · obtain ⟨a, v, rfl, ha, q⟩ := h
    obtain ⟨q1, q2, q3, q4, hb⟩ := S.body
    rw [hb]
    refine ⟨_, pss_one (ps_ost (pv 0 rfl (.inl S.l0)) (pv 1 rfl (.inl S.l1) S.d1 S.d2)), ?_⟩
    exact ⟨v, rfl, .ref a, rfl, a, C, rfl, T, hno, .inl ⟨ha, fun dx n ne => q dx n ne⟩⟩
end
theorem upd3 {H : Hp} {a d : Addr} {o1 o2 o3 : HO} (h : d ≠ a) : upd (upd (upd H a o1) d o2) a o3 = upd (upd H d o2) a o3 := by
  funext b
  by_cases e : b = a
  · rw [e, upd_same, upd_same]
  · rw [upd_ne e, upd_ne e]
    by_cases e2 : b = d
    · rw [e2, upd_same, upd_same]
    · rw [upd_ne e2, upd_ne e2, upd_ne e]
def tExc1 (C : Addr) (f : Str) (ta : TA) : TE := fun σ H Q => ta σ H fun vs H1 => ∃ v, vs = [v] ∧ ∀ a d, H1 a = none → H1 d = none → d ≠ a → Q (.ref a) (upd (upd H1 d (exd d [(f, v)])) a (exo a C (some d)))
section
variable {X : Cx} {x f : Str} {C fI : Addr} {p pos : Pos} {e : Expr} {ta : TA} {fd : FuncData}
theorem pe_exc1 {k : Nat} (T : OexC X.K C) (iC : PySem.W.findIn X.K (.ref C) "__init__" = some (some (.ref fI))) (tI : PySem.W.typeIn X.K (.ref fI) = some (.type "function")) (F1 : FnOk X.prog X.w X.K X.mg X.base CX0 1 fI fd ["self", f] (spIni1 C f)) (hr : Room (k + 2) X.A)
    (hb : Binds X.K fd ["self", f] []) (hg : Gl X x) (hm : X.mg x = some (.ref C)) (ha : PA X [e] ta) (hdb : (x == ("__debug__" : Str)) = false := by decide) (he : starEach (e :: []) X.env = (false, eval e X.env) :: starEach [] X.env := by rfl)
    (hpl : (backTo pos (starEach [] X.env)).any (·.1) = false := by rfl) : PE X (.Call (.Name x p) [e] [] pos) (tExc1 C f ta) := by
  refine ⟨fun pins s σ H Q I h => ?_⟩
  obtain ⟨nm, q, N, bs, bm, sn, sub, ab, col, dd, k0, k1, k2, k3, k5, hC, hbm⟩ := T.cls
  refine wpAny_Call_Name_kw (ld_glob I hg hm ?_ hdb)
  refine PySem.W.callWith_K (h₀ := X.base) I.ok.mod.kin T.kC (thn (ha.run pos pins s σ H _ I h) fun us s1 ⟨vs, H1, I1, r1, v, ev, q1⟩ => ⟨I1.kIn, ?_⟩) he hpl
  subst ev
  show wpAny _ _ (call (.ref C) us) _ _ _
  obtain ⟨hp, g, dr, tk, os⟩ := s1
  have hsz : hp.objs.size ≤ hp.objs.size + 1 := Nat.le_succ _
  have hn : H1 (hp.objs.size + 1) = none := I1.hok.fresh hsz
  have kk : ∀ b o, hp.get? b = some o → ((hp.push (PySem.W.kdv_tup us)).push (PySem.HandSPX.excO C hp.objs.size)).get? b = some o := fun b o e => Heap.get?_push_of_some _ (Heap.get?_push_of_some _ e)
  have hget : ((hp.push (PySem.W.kdv_tup us)).push (PySem.HandSPX.excO C hp.objs.size)).get? (hp.objs.size + 1) = some (PySem.HandSPX.excO C hp.objs.size) := by heap_get
  have I2 : Inv X pins σ (upd H1 (hp.objs.size + 1) (exo (hp.objs.size + 1) C none)) ⟨(hp.push (PySem.W.kdv_tup us)).push (PySem.HandSPX.excO C hp.objs.size), g, dr, tk, os⟩ :=
    I1.laid (t' := tk) (a := hp.objs.size + 1) (o := exo (hp.objs.size + 1) C none) (h' := (hp.push (PySem.W.kdv_tup us)).push (PySem.HandSPX.excO C hp.objs.size)) kk hsz (exo_ok hget)
  have r2 : Vals [V.ref (hp.objs.size + 1), v] (Value.ref (hp.objs.size + 1) :: us) := .cons rfl r1
  have hl1 : us.length = 1 := by rw [← Paired.length r1] <;> rfl
  have hl : (Value.ref (hp.objs.size + 1) :: us ++ []).length = (["self", f] : List Str).length := by
    rw [List.append_nil, List.length_cons, hl1] <;> rfl
  have hus : us.length ≤ sizeLine := by
    rw [hl1, sizeLine_eq]
    omega
  have b2 := hb _ (Value.ref (hp.objs.size + 1) :: us) I2.kIn hl
  rw [List.append_nil] at b2
  have hq : spIni1 C f [V.ref (hp.objs.size + 1), v] (upd H1 (hp.objs.size + 1) (exo (hp.objs.size + 1) C none)) (fun z H2 => z = .non ∧ Q (.ref (hp.objs.size + 1)) H2) E0 := by
    refine ⟨_, v, rfl, upd_same, fun dx n ne => ⟨rfl, ?_⟩⟩
    rw [upd_ne ne] at n
    rw [upd3 ne]
    exact q1 _ dx hn n ne
  refine wpAny_call (PySem.HandSPX.call_own F.excBase_ValueError (fun Y => PySem.HandSPX.refsVE_contains Y bm hbm) (I1.kIn _ _ hC) (PySem.W.looks_findIn I1.kIn iC) (fun self => PySem.W.bind_fn I1.kIn self tI) hus
    (codeAny_mono (F1.run _ X.stack _ _ ⟨Value.ref (hp.objs.size + 1) :: us, []⟩ (Value.ref (hp.objs.size + 1) :: us) _ _ E0 ((hr.mono (by omega : 1 + 1 ≤ k + 2)).make C us []) (I2.env0.make C us []) b2 r2 hq) fun r s' hq' => ?_))
  cases r with
  | error er => exact False.elim hq'
  | ok fl =>
    cases fl with
    | ret u =>
      obtain ⟨z, H', I3, rz, ez, q3⟩ := I2.after hq'
      subst ez
      exact ⟨rz, ⟨V.ref (hp.objs.size + 1), H', I3, rfl, q3⟩⟩
    | next => exact False.elim hq'
    | brk => exact False.elim hq'
    | cont => exact False.elim hq'
end

/-! ### isinstance -/
/-- at a stands an own error of the class at C -/
def ErrAt (H : Hp) (a C : Addr) : Prop := H a = some (exo a C none) ∨ ∃ d fs, H a = some (exo a C (some d)) ∧ H d = some (exd d fs)
theorem err_inst {X : Cx} {pins : List (Addr × Obj)} {σ : L2.St} {H : Hp} {s : Shared} {a C : Addr} (I : Inv X pins σ H s) (h : ErrAt H a C) : ∃ ox od, PySem.W.InstAt s.heap a ox C od := by
  rcases h with h | ⟨d, fs, h, hd⟩
  · obtain ⟨t1, e⟩ := exo_at I.hok h
    exact ⟨_, none, e, rfl, rfl, trivial⟩
  · obtain ⟨t1, e⟩ := exo_at I.hok h
    obtain ⟨mA, ⟨o, es, ep, ho, _⟩, _⟩ := exd_at I.hok hd
    exact ⟨_, some o, e, rfl, rfl, ho⟩
/-- isinstance(e, c), e an own error -/
def rIsX (K : PySem.W.Frag) : List V → Hp → VK → Prop := fun xs H Q => ∃ (a C : Addr) (c : V) (cv : Value) (b : Bool), xs = [.ref a, c] ∧ ErrAt H a C ∧ ExcC K C ∧ ClsV c cv ∧ PySem.W.kitOne K (.ref C) cv = some b ∧ Q (.bl b) H
theorem call_isX {X : Cx} : CallR X (.builtin "isinstance") (rIsX X.K) := by
  intro pins s σ H xs us Q I r h
  obtain ⟨a, C, c, cv, b, rfl, ea, T, k, e, q⟩ := h
  obtain ⟨u1, u2, rfl, r1, r2⟩ := vals2 r
  have e2 := k.eq r2
  subst e2
  obtain rfl : u1 = Value.ref a := r1
  obtain ⟨ox, od, J⟩ := err_inst I ea
  have hcl : (PySem.W.clsIn X.K C).isSome = true := by
    obtain ⟨cd, hc, _⟩ := PySem.W.any_some T.hd
    rw [hc]
    rfl
  exact PySem.W.kia_one (PySem.W.kitx_exc hcl T.hg T.hk T.hs T.ha T.hn T.ht T.hm) I.kIn J e (fun z => nomatch z) fun tk => ⟨.bl b, H, I.tok tk, rfl, q⟩
/-- e.n, e an own error -/
def tErrF (K : PySem.W.Frag) (n : Str) (te : TE) : TE := fun σ H Q => te σ H fun x H1 => ∃ (a C d : Addr) (fs : List (Str × V)) (v : V), x = .ref a ∧ H1 a = some (exo a C (some d)) ∧ H1 d = some (exd d fs) ∧ fs.lookup n = some v ∧ XfC K C ∧ PySem.W.findIn K (.ref C) n = some none ∧ Q v H1
theorem pe_errF {X : Cx} {e : Expr} {te : TE} {pos : Pos} {n : Str} (he : PE X e te) (hb : attributeBase e n X.env (eval e X.env) = eval e X.env := by rfl) : PE X (.Attribute e n pos) (tErrF X.K n te) := by
  refine ⟨fun pins s σ H Q I h => ?_⟩
  refine attr_of hb (thn (he.run pins s σ H _ I h) fun u s1 hh => ?_)
  obtain ⟨x, H1, I1, rx, a, C, d, fs, v, ex, ea, ed, l, T, hno, q⟩ := hh
  subst ex
  obtain rfl : u = Value.ref a := rx
  obtain ⟨t1, e1⟩ := exo_at I1.hok ea
  obtain ⟨mA, hns, hr⟩ := exd_at I1.hok ed
  obtain ⟨od, ho, hl⟩ := lookIn_ns hns
  obtain ⟨u, hu, ru⟩ := RelO.some_of (v := v) (o := mA n) (by rw [← l]; exact hr n)
  have J : PySem.W.InstAt s1.heap a _ C (some od) := ⟨e1, rfl, rfl, ho⟩
  exact HandSPX.exc_get I1.kIn J T.ga T.gg T.exC (PySem.W.findObj_own T.hdC hno rfl (by rw [hl, hu])) (handed_of ru) ⟨v, H1, I1.tok _, ru, q⟩
end Ev
set_option maxHeartbeats 4000000
/-! try with several clauses «except X as n», the name the same in all of them. -/
namespace Ev
open PySem PySem.Spec PyProof.Rows L2
/-- behind a suite the name's slot (i) is empty -/
def offS (i : Nat) (D : Ends) : Ends := { nx := fun σ' H' => D.nx (σ'.set i none) H', rt := D.rt, bk := fun σ' H' => D.bk (σ'.set i none) H', ct := fun σ' H' => D.ct (σ'.set i none) H' }
def wManyAs (K : PySem.W.Frag) (i : Nat) (Wout : WX) (D : Ends) : List (Value × (Addr → Value → Option Addr → TS)) → WX
  | [] => Wout
  | (c, ts) :: r => fun cls d σ H => ∃ b, PySem.W.exmOne K cls c = some b ∧ (b = true → ∀ a, H a = none → ts a cls d (offS i D) (σ.set i (some (.ref a))) H) ∧ (b = false → wManyAs K i Wout D r cls d σ H)
inductive HdsAs (X : Cx) (n : Str) : List ExceptHandler → List (Value × (Addr → Value → Option Addr → TS)) → Prop
  | nil : HdsAs X n [] []
  | cons {x : Str} {c : Value} {ts : Addr → Value → Option Addr → TS} {b₀ : Stmt} {suite : List Stmt} {np pos' : Pos} {hds : List ExceptHandler} {l : List (Value × (Addr → Value → Option Addr → TS))} (hc : Names X x c)
      (hsu : ∀ (a : Addr) (oe : Obj) (cls : Value) (d : Option Addr) (pn : List (Addr × Obj)), Zc cls d oe → (∃ vs, oe.data = .fields vs) → PSs (X.suite a ((a, oe) :: pn)) (b₀ :: suite) (ts a cls d)) (r : HdsAs X n hds l) :
      HdsAs X n (.ExceptHandler (some (.Name x np)) (some n) (b₀ :: suite) pos' :: hds) ((c, ts) :: l)
section
variable {X : Cx} {body : List Stmt} {h₀ : ExceptHandler} {hds : List ExceptHandler} {l : List (Value × (Addr → Value → Option Addr → TS))} {pos : Pos} {tb : WX → TS} {Wout : WX} {n : Str} {i : Nat}
theorem ps_try_manyAs (hs : X.stack = X.env :: X.outer) (hf : X.env.frame = some X.env.locals) (hN : X.N.Nodup) (hi : X.N[i]? = some n) (hln : X.env.kindOf n = some .local) (tk : Takes X Wout)
    (hb : ∀ (W : WX) (pn : List (Addr × Obj)) (xe : Value → Shared → Prop), Takes (X.tr pn xe) W → PassesOwn (model X.prog X.w) X.A X.env xe → PSs (X.tr pn xe) body (tb W))
    (hh : HdsAs X n (h₀ :: hds) l) : PS X (.Try body (h₀ :: hds) [] [] pos) (fun D σ H => tb (wManyAs X.K i Wout D l) D σ H) := by
  refine ⟨fun pins s σ H D I h => ?_⟩
  have ok := I.ok
  have hfr : X.A.frames = some (X.env :: X.outer) := by rw [ok.frames, hs]
  have hloc : Loc X.env.scope n := .inl hln
  refine wpAny_Try_except (wpAny_mono ((hb (wManyAs X.K i Wout D l) (X.pn ++ pins) (fun e s₁ => wpAny (model X.prog X.w) X.A (noteFrame e X.env) (fun _ s₂ => wpAny (model X.prog X.w) X.A (setFlight e none) (fun _ s₃ =>
    wpAny (model X.prog X.w) X.A (handleBy e X.env (h₀ :: hds)) (SP X pins D) X.xe s₃) X.xe s₂) X.xe s₁) (fun u s' xx => ?_) PassesOwn.looking).run [] s σ H D (I.toTry _) h) (fun f s1 hsp => ?_) (fun e s1 he => he))
  · obtain ⟨a, B, sI, pins', σ', H', cls, d, rfl, J', nb, up, sky, na, os, ag, w⟩ := xx
    have J : L2.Inv X pins σ' H' sI := J'.ofTry ok
    have sky' : Sky B (X.env :: X.outer) a (Zc cls d) X.env.locals s'.heap := by rw [← hs]; exact sky
    refine Sky.land Zc.steady hfr hf sky' fun h3 fl3 up3 => ?_
    have J3 : L2.Inv X pins σ' H' { s' with heap := h3 } := J.landed nb fl3.1 (up.trans up3) os ag
    obtain ⟨oe3, vs3, he3, hz3, hd3⟩ := fl3.there
    have nfr : a ∉ frs (X.env :: X.outer) := fun hm => by
      obtain ⟨_, o', e', hnf⟩ := fl3.2.2.1.mem hm
      rw [he3] at e'; cases e'
      exact hnf _ hd3
    have nL : a ≠ X.env.locals := fun z => nfr (List.mem_filterMap.mpr ⟨X.env, List.mem_cons_self, by rw [hf, z]⟩)
    have nF : a ∉ X.fs := fun hm => by
      obtain ⟨e, he, q⟩ := List.mem_filterMap.mp hm
      exact nfr (List.mem_filterMap.mpr ⟨e, List.mem_cons_of_mem _ he, q⟩)
    have S3 := J3.suite he3 hd3 na nL nF
    have LT : PySem.W.Looks (model X.prog X.w) h3 (typeOf (.ref a)) cls := fun A Q E s k q => wpAny_typeOf_ref (k _ _ he3) (by rw [hz3.1]; exact q)
    have go : ∀ {hds' : List ExceptHandler} {l' : List (Value × (Addr → Value → Option Addr → TS))}, HdsAs X n hds' l' → wManyAs X.K i Wout D l' cls d σ' H' →
        wpAny (model X.prog X.w) X.A (handleBy (.ref a) X.env hds') (SP X pins D) X.xe { s' with heap := h3 } := by
      intro hds' l' hk
      induction hk with
      | nil =>
        intro w
        refine wpAny_handleBy_nil ?_
        obtain ⟨k1, k2, k3, oe, vs, T, oT, ts', he, hz, hd, h1, hr⟩ := id fl3
        unfold PySem.passOn
        refine wpAny_bind (wpAny_field he hd h1 ?_)
        rw [if_neg (show ¬ ((Value.ref T == Value.none) = true) from by simp)]
        have fin : wpAny (model X.prog X.w) X.A (setFlight (.ref a) X.env.frame) (fun _ s4 => wpAny (model X.prog X.w) X.A (throw (.ref a) : Sem Flow) (SP X pins D) X.xe s4) X.xe { s' with heap := h3 } := by
          rw [hf]
          refine HandSPX.setFlight_upZ fl3 fun h4 hh4 up4 => wpAny_throw (tk _ _ ?_)
          exact ⟨a, B, sI, pins, σ', H', cls, d, rfl, J, nb, (up.trans up3).trans up4, .inr (.inr (by rw [hs]; exact hh4)), na, os, ag, w⟩
        first
          | exact wpAny_bind (wpAny_pure (wpAny_bind fin))
          | exact wpAny_bind fin
      | @cons x c ts b₀ suite np pos' hds2 l2 hc hsu r ih =>
        intro w
        obtain ⟨b, hb1, hyes, hno⟩ := w
        refine wpAny_handleBy_cons (codeAny_handlers_test ?_) (by intro q; cases q)
        have LM := PySem.W.exm_one (M := model X.prog X.w) (J3.kIn) LT hb1
        have test : ∀ {Q : Value → Shared → Prop} {E : Value → Shared → Prop}, Q c { s' with heap := h3 } → wpAny (model X.prog X.w) (X.A.mark (some (.ref a))) (eval (.Name x np) X.env) Q E { s' with heap := h3 } := fun {Q E} q => by
          obtain ⟨hg, hdbg, hm | ⟨hm, hv, hnn⟩⟩ := hc
          · exact ld_glob (X := X.suite a ((a, oe3) :: (X.pn ++ pins))) S3 hg hm q hdbg
          · exact ld_blt (X := X.suite a ((a, oe3) :: (X.pn ++ pins))) S3 hg hm hv q hnn hdbg
        refine test (LM.here ?_)
        cases b with
        | true =>
          refine codeAny_handlers_suite_as (HandSPX.lands_againZ fl3 fun h4 fl4 up4 => ?_)
          have J4 : L2.Inv X pins σ' H' { s' with heap := h4 } := J.landed nb fl4.1 ((up.trans up3).trans up4) os ag
          obtain ⟨oe4, vs4, he4, hz4, hd4⟩ := fl4.there
          refine store_ok (X := X.suite a ((a, oe4) :: (X.pn ++ pins))) (v := .ref a) (J4.suite he4 hd4 na nL nF) hN hi hloc rfl (fun s5 S5 => ?_) (.inr hln)
          refine wpAny_mono ((hsu a oe4 cls d (X.pn ++ pins) hz4 ⟨_, hd4⟩).run [] s5 _ H' _ S5 (hyes rfl a na)) (fun f s6 hsp => ?_) (fun _ _ z => False.elim z)
          cases f with
          | next =>
            obtain ⟨σ6, H6, S6, q6⟩ := hsp
            exact gone_ok (S6.unsuite ok) hN hi hln fun s7 J7 => ⟨_, _, J7, q6⟩
          | brk =>
            obtain ⟨σ6, H6, S6, q6⟩ := hsp
            exact gone_ok (S6.unsuite ok) hN hi hln fun s7 J7 => ⟨_, _, J7, q6⟩
          | cont =>
            obtain ⟨σ6, H6, S6, q6⟩ := hsp
            exact gone_ok (S6.unsuite ok) hN hi hln fun s7 J7 => ⟨_, _, J7, q6⟩
          | ret u =>
            obtain ⟨v6, σ6, H6, S6, r6, q6⟩ := hsp
            exact gone_ok (S6.unsuite ok) hN hi hln fun s7 J7 => ⟨_, _, _, J7, r6, q6⟩
        | false => exact ih (hno rfl)
    exact go hh w
  · cases f with
    | next =>
      obtain ⟨σ', H', J', q⟩ := hsp
      exact wpAny_execs_nil ⟨σ', H', J'.ofTry ok, q⟩
    | brk =>
      obtain ⟨σ', H', J', q⟩ := hsp
      exact ⟨σ', H', J'.ofTry ok, q⟩
    | cont =>
      obtain ⟨σ', H', J', q⟩ := hsp
      exact ⟨σ', H', J'.ofTry ok, q⟩
    | ret u =>
      obtain ⟨v, σ', H', J', r, q⟩ := hsp
      exact ⟨v, σ', H', J'.ofTry ok, r, q⟩
end
end Ev
set_option maxHeartbeats 8000000
namespace LawK
open PySem PySem.Spec PyProof.Rows L2 Ev
abbrev veT : List Value := [.type "ValueError", .type "Exception", .type "BaseException", .type "object"]
/-- an own error class at C, over the one at PE -/
structure ErC (K : PySem.W.Frag) (PE C : Addr) : Prop where
  oex : OexC K C
  isx : ExcC K C
  xf : XfC K C
  mro : ∃ cd, PySem.W.clsIn K C = some cd ∧ cd.mro = .ref C :: .ref PE :: veT
  isT : PySem.W.typeIn K (.ref C) = some (.type "type")
section
variable {K : PySem.W.Frag} {PE C D : Addr}
theorem ErC.sub (T : ErC K PE C) (b : Value) : PySem.W.subIn K (.ref C) b = some ((Value.ref C :: .ref PE :: veT).contains b) := by
  obtain ⟨cd, h1, h2⟩ := T.mro
  show (PySem.W.clsIn K C).bind _ = _
  rw [h1, Option.bind_some, h2]
  rfl
theorem kit_at (TD : ErC K PE D) (T : ErC K PE C) (n : D ≠ PE) : PySem.W.kitOne K (.ref C) (.ref D) = some (decide (C = D)) := by
  unfold PySem.W.kitOne
  by_cases e : C = D
  · subst e
    rw [if_pos (by simp), decide_eq_true rfl]
  · rw [if_neg (by simpa using e), decide_eq_false e]
    obtain ⟨cd, h1, h2⟩ := TD.mro
    show (if ((PySem.W.clsIn K D).isSome && PySem.W.typeIn K (.ref D) == some (.type "type")) = true then PySem.W.subIn K (.ref C) (.ref D) else none) = some false
    rw [if_pos (by rw [h1, TD.isT]; rfl), T.sub]
    have e2 : D ≠ C := fun z => e z.symm
    simp [veT, e2, n]
end
/-- an error class without a field -/
structure Cls0 (P : Program) (K : PySem.W.Frag) (mg : Str → Option Value) (PE : Addr) (x : Str) (C : Addr) : Prop where
  er : ErC K PE C
  ne : C ≠ PE
  sup : ∃ fI, SupC P K mg C fI
  g : mg x = some (.ref C)
/-- an error class with the field f -/
structure Cls1 (K : PySem.W.Frag) (mg : Str → Option Value) (PE : Addr) (x f : Str) (C : Addr) : Prop where
  er : ErC K PE C
  ne : C ≠ PE
  g : mg x = some (.ref C)
  ini : ∃ (fI : Addr) (fd : FuncData) (st : Stmt) (qual : Str), Fun K "__init__" qual st fI fd ∧ Ini1 st f ∧ Binds K fd ["self", f] [] ∧ PySem.W.findIn K (.ref C) "__init__" = some (some (.ref fI)) ∧ PySem.W.typeIn K (.ref fI) = some (.type "function")
  hno : PySem.W.findIn K (.ref C) f = some none
section
variable {X : Cx} {x f : Str} {PE C : Addr} {p pos : Pos} {e : Expr} {ta : TA} {k : Nat}
theorem pe_c0 (T : Cls0 X.prog X.K X.mg PE x C) (hr : Room k X.A) (hg : Gl X x := by rfl) (hdb : (x == ("__debug__" : Str)) = false := by decide) : L2.PE X (.Call (.Name x p) [] [] pos) (tExc0 C) := by
  obtain ⟨fI, S⟩ := T.sup
  exact pe_exc0 S hr hg T.g hdb
theorem pe_c1 (T : Cls1 X.K X.mg PE x f C) (hr : Room (k + 2) X.A) (ha : PA X [e] ta) (hg : Gl X x := by rfl) (hdb : (x == ("__debug__" : Str)) = false := by decide) (he : starEach (e :: []) X.env = (false, eval e X.env) :: starEach [] X.env := by rfl)
    (hpl : (backTo pos (starEach [] X.env)).any (·.1) = false := by rfl) : L2.PE X (.Call (.Name x p) [e] [] pos) (tExc1 C f ta) := by
  obtain ⟨fI, fd, st, qual, F1, S1, b1, iC, tI⟩ := T.ini
  exact pe_exc1 T.er.oex iC tI (ok_ini1 F1 S1 T.er.oex T.hno) hr b1 hg T.g ha hdb he hpl
def tMk1 (C : Addr) (f : Str) (ta : TA) : L2.St → Hp → XK → Prop := fun σ H Q => ta σ H fun vs H1 => ∃ v, vs = [v] ∧ ∀ d, H1 d = none → Q (.ref C) (some d) (upd H1 d (.xd [(f, v)]))
theorem del_upd {H : Hp} {a d : Addr} {o1 o2 o3 u : HO} (ha : H a = none) (hd : d ≠ a) : upd (del (upd (upd (upd H a o1) d o2) a o3) a) d u = upd H d u := by
  funext b
  by_cases e : b = d
  · rw [e, upd_same, upd_same]
  · rw [upd_ne e, upd_ne e]
    by_cases e2 : b = a
    · rw [e2, del_same, ha]
    · rw [del_ne e2, upd_ne e2, upd_ne e, upd_ne e2]
theorem pmk_c1 (T : Cls1 X.K X.mg PE x f C) (hr : Room (k + 2) X.A) (ha : PA X [e] ta) (hg : Gl X x := by rfl) (hdb : (x == ("__debug__" : Str)) = false := by decide) (he : starEach (e :: []) X.env = (false, eval e X.env) :: starEach [] X.env := by rfl)
    (hpl : (backTo pos (starEach [] X.env)).any (·.1) = false := by rfl) (hm : ∀ {σ : L2.St} {H : Hp} {Q1 Q2 : List V → Hp → Prop}, (∀ vs H1, Q1 vs H1 → Q2 vs H1) → ta σ H Q1 → ta σ H Q2) : PMk X (.Call (.Name x p) [e] [] pos) (tMk1 C f ta) := by
  obtain ⟨fI, fd, st, qual, F1, S1, b1, iC, tI⟩ := T.ini
  intro pins s σ H Q I h
  refine pmk_oex (CX := CX0) (k := 1) (sp := spIni1 C f) (ds := []) (dvs := []) T.er.oex iC tI (ok_ini1 F1 S1 T.er.oex T.hno) (hr.mono (by omega)) b1 .nil (fun _ _ _ _ _ _ _ z => z.elim) hg T.g ha hdb he hpl pins s σ H Q I (hm (fun vs H1 q => ?_) h)
  obtain ⟨v, rfl, q⟩ := q
  refine ⟨by show 1 ≤ 1000; decide, fun a na => ⟨a, v, rfl, upd_same, fun dx n ne => ⟨rfl, dx, _, upd_same, by rw [upd_ne ne, upd_same], ?_, ?_⟩⟩⟩
  · rw [upd_ne ne] at n
    exact n
  · rw [del_upd na ne]
    rw [upd_ne ne] at n
    exact q dx n
end
structure BaseX (K : PySem.W.Frag) (PE : Addr) : Prop where
  sub : PySem.W.subIn K (.ref PE) (.type "BaseException") = some true
  hd : PySem.W.hasDictIn K PE = true
  isT : PySem.W.typeIn K (.ref PE) = some (.type "type")
section
variable {K : PySem.W.Frag} {PE : Addr}
theorem exm_at {C D : Addr} (TD : ErC K PE D) (T : ErC K PE C) (n : D ≠ PE) : PySem.W.exmOne K (.ref C) (.ref D) = some (decide (C = D)) := by
  refine PySem.W.exm_ref TD.isx.hs TD.isx.hd TD.isT ?_
  rw [T.sub]
  by_cases e : C = D
  · subst e
    simp
  · have e2 : D ≠ C := fun z => e z.symm
    rw [decide_eq_false e]
    simp [veT, e2, n]
theorem exm_base {C : Addr} (B : BaseX K PE) (T : ErC K PE C) : PySem.W.exmOne K (.ref C) (.ref PE) = some true := by
  refine PySem.W.exm_ref B.sub B.hd B.isT ?_
  rw [T.sub]
  simp [veT]
theorem tCons1 {i j : Nat} {σ : L2.St} {H : Hp} {Q1 Q2 : List V → Hp → Prop} (h : ∀ vs H1, Q1 vs H1 → Q2 vs H1) : tCons (tVar i) tNil σ H Q1 → tCons (tVar i) tNil σ H Q2 := fun ⟨v, e, q⟩ => ⟨v, e, h _ _ q⟩
end
def chkE (K : PySem.W.Frag) (C : Addr) : Bool := xfB K C && (decide (PySem.W.typeIn K (.ref C) = some (.type "type")) && (PySem.W.keepIn K (.ref C) && (decide (PySem.W.findIn K (.ref C) "__class__" = some (some (.builtin "object.__class__"))) && decide (PySem.W.mroIn K C (.type "object") = some true))))
def chkC (K : PySem.W.Frag) (PE C : Addr) : Bool := chkE K C && (decide (PySem.W.findIn K (.ref C) "__setattr__" = some (some (.builtin "object.__setattr__"))) && decide (C ≠ PE))
structure Sh (K : PySem.W.Frag) : Prop where
  hn : PySem.W.specialIn K (.builtin "object.__class__") "__get__" = some (some (.builtin "getset_descriptor.__get__"))
  ht : PySem.W.takesIn K (.builtin "object.__class__") = some true
structure Sh0 (P : Program) (K : PySem.W.Frag) (mg : Str → Option Value) : Prop extends Sh K where
  gs : mg "super" = none
  top : (P.main.scope.names.lookup ("super" : Str)).isSome = false
  third : PySem.W.nsIn K cStatics "thirdparty.any" = some none
structure CkE (K : PySem.W.Frag) (C : Addr) : Prop where
  xf : XfC K C
  isT : PySem.W.typeIn K (.ref C) = some (.type "type")
  kp : PySem.W.keepIn K (.ref C) = true
  ha : PySem.W.findIn K (.ref C) "__class__" = some (some (.builtin "object.__class__"))
  hm : PySem.W.mroIn K C (.type "object") = some true
theorem chkE_ok {K : PySem.W.Frag} {C : Addr} (h : chkE K C = true) : CkE K C := by
  obtain ⟨h1, h⟩ := Bool.and_eq_true_iff.mp h
  obtain ⟨h2, h⟩ := Bool.and_eq_true_iff.mp h
  obtain ⟨h3, h⟩ := Bool.and_eq_true_iff.mp h
  obtain ⟨h4, h5⟩ := Bool.and_eq_true_iff.mp h
  exact ⟨xfB_ok h1, of_decide_eq_true h2, h3, of_decide_eq_true h4, of_decide_eq_true h5⟩
theorem CkE.isx {K : PySem.W.Frag} {C : Addr} (T : CkE K C) (S : Sh K) : ExcC K C := ⟨T.xf.ga, T.xf.gg, T.xf.exC, T.xf.hdC, T.ha, S.hn, S.ht, T.hm⟩
section
variable {P : Program} {w : World} {K : PySem.W.Frag} {mg : Str → Option Value} {h : Heap} {PE C fI : Addr} {x f qual : Str} {nm q : Str} {N : Addr} {bs : List Value} {sn : List Str} {sub : List Value} {ab : Bool} {col : Option Bool} {dd : Option Addr} {k0 k1 k2 k3 k5 : Option Value}
theorem mro_of {bm : List Value} {id : String} (lC : K.lookup C = some (excClassObj nm q C N bs bm true sn sub ab col dd k0 k1 k2 k3 k5 id)) : ∃ cd, PySem.W.clsIn K C = some cd ∧ cd.mro = .ref C :: bm := by
  have e : PySem.W.clsIn K C = some { name := nm, bases := bs, mro := .ref C :: bm, ns := N, qualname := q, hasDict := true, slotNames := sn, subclasses := sub, abstract := ab, collection := col, hasDel := false } := by
    unfold PySem.W.clsIn
    rw [lC]
  exact ⟨_, e, rfl⟩
theorem er_mk (S : Sh K) (lC : K.lookup C = some (excClassObj nm q C N bs (.ref PE :: veT) true sn sub ab col dd k0 k1 k2 k3 k5 "ValueError.__new__")) (ck : chkC K PE C = true) : ErC K PE C ∧ C ≠ PE := by
  obtain ⟨c1, c2⟩ := Bool.and_eq_true_iff.mp ck
  obtain ⟨c2, c3⟩ := Bool.and_eq_true_iff.mp c2
  have T := chkE_ok c1
  exact ⟨⟨⟨⟨nm, q, N, bs, _, sn, sub, ab, col, dd, k0, k1, k2, k3, k5, lC, (show PySem.HandSPX.refsVE veT = true by decide +kernel)⟩, of_decide_eq_true c2, T.xf.exC, T.isT, T.kp⟩, T.isx S, T.xf, mro_of lC, T.isT⟩, of_decide_eq_true c3⟩
theorem say {K : PySem.W.Frag} {h : Heap} (X : K.In h) (T : PySem.W.Frag → Prop) {g : Prop} (a : T K) (k : T K → g) : g := k a
def chk1 (K : PySem.W.Frag) (PE C fI : Addr) (f : Str) (cd : Value) (qual : Str) : Bool := chkC K PE C && (decide (PySem.W.typeIn K (.ref fI) = some (.type "function")) && (PySem.W.codeIn K cd qual && (PySem.W.keepIn K (.ref fI) && decide (PySem.W.findIn K (.ref C) f = some none))))
theorem cls1_mk {st : Stmt} {oc kV dc pm cd ct : Value} {od an : Option Addr} {sl : Array (Option Value)} (X : K.In h) (G : h.Ns mainGlobals mg) (S : Sh K)
    (i1 : Ini1 st f) (hb : ∀ (kV doc pm : Value) (an : Option Addr) (cdv ct : Value) (us : List Value), us.length = 2 → bindArgs (PySem.W.fnOf "__init__" qual (defArgs st) (defBody st) (defScope st) .none kV doc pm an cdv ct) ⟨us, []⟩ = pure ((["self", f] : List Str).zip us))
    (aC : PySem.W.nsIn K mainGlobals x = some (some (.ref C))) (lC : K.lookup C = some (excClassObj nm q C N bs (.ref PE :: veT) true sn sub ab col dd k0 k1 k2 k3 k5 "ValueError.__new__"))
    (iC : PySem.W.findIn K (.ref C) "__init__" = some (some (.ref fI))) (lI : K.lookup fI = some ⟨oc, od, .func (PySem.W.fnOf "__init__" qual (defArgs st) (defBody st) (defScope st) .none kV dc pm an cd ct), sl⟩)
    (ck : chk1 K PE C fI f cd qual = true) : Cls1 K mg PE x f C := by
  obtain ⟨c1, c2⟩ := Bool.and_eq_true_iff.mp ck
  obtain ⟨c2, c3⟩ := Bool.and_eq_true_iff.mp c2
  obtain ⟨c3, c4⟩ := Bool.and_eq_true_iff.mp c3
  obtain ⟨c4, c5⟩ := Bool.and_eq_true_iff.mp c4
  obtain ⟨e, n⟩ := er_mk S lC c1
  have F1 := fun_mk (st := st) lI c3 c4
  exact ⟨e, n, PySem.W.mg_of X G aC, ⟨fI, _, st, qual, F1, i1, F1.binds (ps := ["self", f]) hb, iC, of_decide_eq_true c2⟩, of_decide_eq_true c5⟩
def chk0 (K : PySem.W.Frag) (PE C fI : Addr) (cd : Value) (qual : Str) : Bool := chkC K PE C && (decide (PySem.W.typeIn K (.ref fI) = some (.type "function")) && (PySem.W.codeIn K cd qual && (decide (PySem.W.ks_superIn K C C "__init__" = some (some (.builtin "ValueError.__init__"))) && (decide (PySem.W.subIn K (.ref C) (.type "ValueError") = some true) && decide (PySem.W.mroIn K C (.ref C) = some true)))))
theorem cls0_mk {oc kV dc pm ct : Value} {od an : Option Addr} {cda cc : Addr} {osl : Array (Option Value)} {p p0 p1 p2 p3 p4 : Pos} {ccl : Value} {cdd : Option Addr} {vs : Array Value} {ccs : Array (Option Value)} {file : Str} {tf : Tok} {cl : Value} {cld : Option Addr} {csl : Array (Option Value)}
    (X : K.In h) (G : h.Ns mainGlobals mg) (S : Sh0 P K mg)
    (aC : PySem.W.nsIn K mainGlobals x = some (some (.ref C))) (lC : K.lookup C = some (excClassObj nm q C N bs (.ref PE :: veT) true sn sub ab col dd k0 k1 k2 k3 k5 "ValueError.__new__"))
    (iC : PySem.W.findIn K (.ref C) "__init__" = some (some (.ref fI)))
    (lI : K.lookup fI = some ⟨oc, od, .func (PySem.W.ksFn "__init__" qual (supArgs p) (supBody p0 p1 p2 p3 p4) supScope .none kV dc pm an (.ref cda) ct cc), osl⟩)
    (lD : K.lookup cda = some ⟨ccl, cdd, .fields vs, ccs⟩) (lc : K.lookup cc = some ⟨cl, cld, .cell (some (.ref C)), csl⟩)
    (v2 : vs[2]? = some (.str file tf)) (vf : ((P.main.file : Str) == file) = true) (pl : (p2.endLine == p3.line) = true)
    (ck : chk0 K PE C fI (.ref cda) qual = true) : Cls0 P K mg PE x C := by
  obtain ⟨c1, c2⟩ := Bool.and_eq_true_iff.mp ck
  obtain ⟨c2, c3⟩ := Bool.and_eq_true_iff.mp c2
  obtain ⟨c3, c4⟩ := Bool.and_eq_true_iff.mp c3
  obtain ⟨c4, c5⟩ := Bool.and_eq_true_iff.mp c4
  obtain ⟨c5, c6⟩ := Bool.and_eq_true_iff.mp c5
  obtain ⟨e, n⟩ := er_mk S.toSh lC c1
  exact ⟨e, n, ⟨fI, e.oex, iC, of_decide_eq_true c2, ⟨oc, od, qual, kV, dc, pm, ct, an, cda, cc, osl, p, p0, p1, p2, p3, p4, ccl, cdd, vs, ccs, file, tf, cl, cld, csl, lI, c3, lD, v2, vf, lc, pl⟩, S.gs, S.top, S.third, of_decide_eq_true c4, of_decide_eq_true c5, of_decide_eq_true c6⟩, PySem.W.mg_of X G aC⟩
theorem sh0_mk (X : K.In h) (G : h.Ns mainGlobals mg) (hn : PySem.W.specialIn K (.builtin "object.__class__") "__get__" = some (some (.builtin "getset_descriptor.__get__"))) (ht : PySem.W.takesIn K (.builtin "object.__class__") = some true)
    (gs : PySem.W.nsIn K mainGlobals "super" = some none) (top : (P.main.scope.names.lookup ("super" : Str)).isSome = false) (third : PySem.W.nsIn K cStatics "thirdparty.any" = some none) : Sh0 P K mg := ⟨⟨hn, ht⟩, PySem.W.mg_none_of X G gs, top, third⟩
end
end LawK
set_option maxHeartbeats 8000000
/-! enumerate over a tuple, as a walk. -/
namespace Ev
open PySem PySem.Spec PyProof.Rows L2
abbrev enObj (it : Addr) : Obj := { cls := .type "enumerate", data := .fields #[.none, .bool false, .ref it, rawInt 0, .none, .none] }
theorem enum_new1 {v : Value} {o : Obj} {Hh : Heap → Prop} (B : Begins v o Hh) :
    Meets (Builtin.«enumerate.__new__» ⟨[.type "enumerate", v], []⟩)
      (fun _ R s => Hh s.heap ∧ R (.ok (.ret (.ref (s.heap.push o).objs.size))) { s with heap := (s.heap.push o).push (enObj s.heap.objs.size) }) := by
  refine .of_wp fun prog w A R s hh => ?_
  obtain ⟨hp, g, d, tk, os⟩ := s
  obtain ⟨hv, hR⟩ := hh
  have hs := sub_enumerate
  have qi : ∀ {B' : Around} {E : Value → Shared → Prop} {Q : Value → Shared → Prop}, Q (.ref hp.objs.size) ⟨hp.push o, g, d, tk, os⟩ →
      wpAny (model prog w) B' (pyIter v) Q E ⟨hp, g, d, tk, os⟩ := fun q => B.iter prog w _ _ ⟨hp, g, d, tk, os⟩ _ hv q
  wp_walk using qi
  apply wpAny_stack_any
  intro st
  apply wpAny_pure
  split
  · rename_i c _ _ _ _ _
    cases (c == Value.type "enumerate") <;> (wp_walk using qi; exact ⟨_, rfl, hR⟩)
  · wp_walk using qi
    exact ⟨_, rfl, hR⟩
theorem enum_call {prog : Program} {w : World} {A : Around} {E : Value → Shared → Prop} {s : Shared} {v : Value} {o : Obj} {Hh : Heap → Prop} {Q : Value → Shared → Prop} (B : Begins v o Hh) (hv : Hh s.heap)
    (h : ∀ h', IsEnum h' (s.heap.objs.size + 1) s.heap.objs.size 0 .none → h'.get? s.heap.objs.size = some o → (∀ b u, s.heap.get? b = some u → h'.get? b = some u) →
      Q (.ref (s.heap.objs.size + 1)) { s with heap := h' }) : wpAny (model prog w) A (call (.type "enumerate") [v]) Q E s := by
  have m := enum_new1 B
  refine callType_new F.called_enumerate (by decide) (F.typeCall_enumerate_1 _) (F.newCall_enumerate_1 _) (fun obj => F.args_object_init_2 obj _) F.entry_enumerate_new m ⟨hv, ?_⟩
  have hsz : (s.heap.push o).objs.size = s.heap.objs.size + 1 := Heap.size_push ..
  show _ ∧ _
  rw [hsz]
  have hat : ((s.heap.push o).push (enObj s.heap.objs.size)).get? (s.heap.objs.size + 1) = some (enObj s.heap.objs.size) := by
    have z := Heap.get?_push_size (s.heap.push o) (o := enObj s.heap.objs.size) rfl
    rw [hsz] at z
    exact z
  exact ⟨⟨_, hat, rfl⟩, h _ hat (Heap.get?_push_of_some _ (Heap.get?_push_size _ B.free)) fun b u x => Heap.get?_push_of_some _ (Heap.get?_push_of_some _ x)⟩
/-- the tuple at a as it stands at each turn, each item in a new pair -/
def Iten (K : PySem.W.Frag) (a : Addr) : It :=
  ⟨fun i H => ∃ (xs : List V) (x : V), SqT K H a xs ∧ xs[i]? = some x,
   fun i H v H' => ∃ T x, v = .ref T ∧ H T = none ∧ H' = upd H T (.tup [.int (i : Nat), x]) ∧ ∀ xs, SqT K H a xs → xs[i]? = some x,
   fun i H => ∃ xs : List V, SqT K H a xs ∧ xs.length ≤ i⟩
theorem turn_en {P : Program} {w : World} {K : PySem.W.Frag} {elts : List Expr} {kk : Nat} {tpos : Pos} (a e it : Addr) :
    Turn P w K (.Tuple elts kk tpos) (Iten K a) [e, it] e (fun i h => (∃ old, IsEnum h e it ((i : Nat) : Int) old) ∧ h.IsTupleIter it a i ∧ e ≠ it ∧ a ≠ it ∧ a ≠ e) where
  mem := List.mem_cons_self
  obj := by
    rintro i h ⟨⟨old, he⟩, ⟨o, ho, hc, hd⟩, _⟩ b hb
    rcases List.mem_cons.mp hb with rfl | hb
    · exact ⟨_, he, fun v q => by cases q⟩
    · obtain rfl := List.mem_singleton.mp hb
      exact ⟨o, ho, fun v q => by rw [hd] at q; cases q⟩
  keep := by
    rintro i h h' ⟨⟨old, he⟩, hi, hn⟩ k
    exact ⟨⟨old, k e (by simp) _ he⟩, hi.at fun o q => k it (by simp) o q, hn⟩
  item := by
    intro X hP hw hK hc i pins s σ H E I hf st hg
    subst hP hw hK
    obtain ⟨⟨old, he⟩, hit, hne, hai, hae⟩ := st
    obtain ⟨xs, x, hq, hx⟩ := hg
    obtain ⟨its, rv, p, hz⟩ := I.tuple hq
    obtain ⟨u, hu, ru⟩ := rv.get hx
    have hel : e < s.heap.objs.size := Heap.lt_size he
    have hil : it < s.heap.objs.size := by
      obtain ⟨_, q, _⟩ := hit
      exact Heap.lt_size q
    have hlt : i < its.toArray.size := by
      rw [List.size_toArray]
      exact (List.getElem?_eq_some_iff.mp hu).1
    have D := Draws.tuple (prog := X.prog) (w := X.w) (A := X.A.in1) (I.ok.hd hc) it a hai its.toArray
    refine wpAny_pyNext_enum_itemD D he ⟨hit, (show s.heap.IsTuple a its.toArray from p)⟩ hlt hne (by simp [hne, Ne.symm hae]) fun y h' tk hy ho hst hT hsz hk => ?_
    have ey : y = u := by
      have z : its.toArray[i]? = some y := hy
      rw [List.getElem?_toArray, hu] at z
      exact (Option.some.inj z).symm
    subst ey
    refine ⟨_, rfl, ?_⟩
    refine wpAny_letOwnedTupleGo_enum (s := ⟨h', s.gens, s.drawn, tk + 1, s.os⟩) ho ?_
    intro h2 he2 sb
    have at2 : h2.get? s.heap.objs.size = some { cls := .type "tuple", data := .seq #[.int i tk, y] } := by
      rw [sb.2 _ (Nat.ne_of_gt hel)]
      exact hT
    have cell : ObjOk X.prog X.w (upd H s.heap.objs.size (.tup [.int (i : Nat), x])) h2 s.heap.objs.size (.tup [.int (i : Nat), x]) := by
      refine ⟨by show 2 ≤ sizeLine; decide, [.int i tk, y], .cons ⟨_, rfl⟩ (.cons ru .nil), ⟨_, at2, rfl, _, rfl⟩⟩
    have far : ∀ b ob, b ∉ [e, it] → s.heap.get? b = some ob → h2.get? b = some ob := fun b ob hb q => by
      have n1 : b ≠ e := fun z => hb (by simp [z])
      have n2 : b ≠ it := fun z => hb (by simp [z])
      rw [sb.2 b n1]
      exact hk b ob n1 n2 q
    have J := I.turnedNew (ch := [e, it]) (t' := tk + 1) far hf (Nat.le_refl _) cell
    refine ⟨.ref s.heap.objs.size, _, J, rfl, ⟨_, x, rfl, I.hok.fresh (Nat.le_refl _), rfl, fun ys hy => by rw [I.tuple_inj hy hq]; exact hx⟩, ⟨⟨y, ?_⟩, ?_, hne, hai, hae⟩, fun b hb => ?_⟩
    · have e1 : ((i + 1 : Nat) : Int) = (i : Int) + 1 := by omega
      rw [e1]
      exact he2
    · exact hst.1.at fun o q => by
        rw [sb.2 it (Ne.symm hne)]
        exact q
    · have lt : b < s.heap.objs.size := by
        rcases List.mem_cons.mp hb with rfl | hb
        · exact hel
        · obtain rfl := List.mem_singleton.mp hb
          exact hil
      rw [upd_ne (Nat.ne_of_lt lt)]
      exact (hf b hb).1
  done := by
    intro X hP hw hK hc i pins s σ H E I hf st hg
    subst hP hw hK
    obtain ⟨⟨old, he⟩, hit, hne, hai, hae⟩ := st
    obtain ⟨xs, hq, hx⟩ := hg
    obtain ⟨its, rv, p, hz⟩ := I.tuple hq
    obtain ⟨f0, f1, f2, f3, f4, f5⟩ := hf it (by simp)
    have hl := rv.length
    have none_i : its.toArray[i]? = none := by
      rw [List.getElem?_toArray, List.getElem?_eq_none_iff]
      omega
    have D : Draws X.prog X.w X.A.in1 it [it, a] i (fun j v => its.toArray[j]? = some v) (fun j h => (h.IsTupleIter it a j ∧ h.IsTuple a its.toArray) ∧ i ≤ j) :=
      { live := fun _ _ st => let ⟨o, ho, _⟩ := st.1.1; ⟨o, ho⟩
        frame := fun _ _ _ st hk => ⟨⟨st.1.1.at fun o e => hk it (by simp) o e, st.1.2.at fun o e => hk a (by simp) o e⟩, st.2⟩
        item := fun j _ _ _ hj st _ => absurd st.2 (by omega)
        done := fun s Q E st hE => wpAny_nextOf_tuple_end (I.ok.hd hc) st.1.1 st.1.2 none_i hE }
    refine wpAny_pyNext_enum_endD D he ⟨⟨hit, (show s.heap.IsTuple a its.toArray from p)⟩, Nat.le_refl _⟩ fun h' eb => ⟨rfl, ?_⟩
    exact I.turned (t' := s.toks) (fun b o hb q => eb b o hb q) f0 f1 f3 f4 f5
  self := fun A i s Q E st h => by
    obtain ⟨⟨_, he⟩, _⟩ := st
    exact wpAny_pyIter_enum he h
def iEnumT (K : PySem.W.Frag) (ta : TA) : TI := fun σ H R => ta σ H fun vs H1 => ∃ a xs, vs = [.ref a] ∧ SqT K H1 a xs ∧ R (Iten K a) H1
theorem pi_enumT {X : Cx} {e : Expr} {ta : TA} {p pos tpos : Pos} {elts : List Expr} {kk : Nat} (hg : Gl X "enumerate") (hm : X.mg "enumerate" = none) (ha : PA X [e] ta) (hs : starEach [e] X.env = [(false, eval e X.env)] := by rfl) :
    PI X (.Tuple elts kk tpos) (.Call (.Name "enumerate" p) [e] [] pos) (iEnumT X.K ta) := by
  constructor
  intro pins s σ H R I h
  refine Call_ (ld_blt I hg hm boot_enumerate (PyProof.Rows.callWith_type1 (thn (ha.run pos pins s σ H _ I h) ?_) hs rfl))
  rintro us s1 ⟨vs, H1, I1, r1, a, xs, rfl, hq, q⟩
  obtain ⟨u, rfl, ru⟩ := vals1 r1
  cases ru
  obtain ⟨its, rv, p', hz⟩ := I1.tuple hq
  have hal : a < s1.heap.objs.size := by
    obtain ⟨o, ho, _⟩ := p'
    exact Heap.lt_size ho
  refine enum_call (begins_tuple a its.toArray) (show s1.heap.IsTuple a its.toArray from p') fun h' he hit hk => wpAny_pyIter_enum he ?_
  have I2 : Inv X pins σ H1 { s1 with heap := h' } := I1.kept (t' := s1.toks) hk
  refine ⟨s1.heap.objs.size + 1, [s1.heap.objs.size + 1, s1.heap.objs.size], _, _, H1, rfl, I2, turn_en a (s1.heap.objs.size + 1) s1.heap.objs.size, ⟨⟨.none, he⟩, ⟨_, hit, rfl, rfl⟩, Nat.succ_ne_self _, Nat.ne_of_lt hal, Nat.ne_of_lt (Nat.lt_succ_of_lt hal)⟩, fun b hb => ?_, q⟩
  have hle : s1.heap.objs.size ≤ b := by
    rcases List.mem_cons.mp hb with rfl | hb
    · exact Nat.le_succ _
    · obtain rfl := List.mem_singleton.mp hb
      exact Nat.le_refl _
  exact I1.fpOk hle (I1.hok.fresh hle)
/-- for i, x in enumerate(t) -/
theorem for_enT {K : PySem.W.Frag} {a : Addr} {xs : List V} {g : TG} {tb : TS} {D : Ends} {σ : L2.St} {H : Hp} (Pv : Nat → L2.St → Hp → Prop) (h0 : Pv 0 σ H) (hl : ∀ i σ H, Pv i σ H → SqT K H a xs)
    (hs : ∀ (i : Nat) x σ H, xs[i]? = some x → Pv i σ H → ∀ T, H T = none → g (.ref T) σ (upd H T (.tup [.int (i : Nat), x])) fun σ2 H2 => tb { D with nx := Pv (i + 1), ct := Pv (i + 1), bk := D.nx } σ2 H2) (hd : ∀ σ H, Pv xs.length σ H → D.nx σ H) :
    ∃ W : Nat → Nat → L2.St → Hp → Prop, (∃ m, W 0 m σ H) ∧ ∀ i m σ H, W i m σ H →
      ((Iten K a).stop i H ∧ D.nx σ H) ∨ ((Iten K a).go i H ∧ ∃ N : L2.St → Hp → Prop, (∀ σ' H', N σ' H' → ∃ m', m' < m ∧ W (i + 1) m' σ' H') ∧ ∀ x H', (Iten K a).yld i H x H' → g x σ H' fun σ2 H2 => tb { D with nx := N, ct := N, bk := D.nx } σ2 H2) := by
  refine ⟨fun i m σ H => m = xs.length - i ∧ i ≤ xs.length ∧ Pv i σ H, ⟨xs.length, by simp, Nat.zero_le _, h0⟩, ?_⟩
  rintro i m σ H ⟨rfl, hi, p⟩
  have q := hl i σ H p
  by_cases hlt : i < xs.length
  · refine .inr ⟨⟨xs, xs[i], q, List.getElem?_eq_getElem hlt⟩, Pv (i + 1), fun σ' H' p' => ⟨xs.length - (i + 1), by omega, rfl, hlt, p'⟩, fun v H' y => ?_⟩
    obtain ⟨T, x, rfl, nT, rfl, hx⟩ := y
    exact hs i x σ H (hx xs q) p T nT
  · have e : i = xs.length := by omega
    subst e
    exact .inl ⟨⟨xs, q, Nat.le_refl _⟩, hd σ H p⟩
end Ev
set_option maxHeartbeats 4000000
namespace Ev
open PySem PySem.Spec PyProof.Rows L2
/-- either way to walk -/
theorem PI.or {X : Cx} {tg e : Expr} {u v : TI} (h : PI X tg e u) (k : PI X tg e v) : PI X tg e (fun σ H R => u σ H R ∨ v σ H R) :=
  ⟨fun pins s σ H R I q => q.elim (fun z => h.run pins s σ H R I z) (fun z => k.run pins s σ H R I z)⟩
theorem for_enL {K : PySem.W.Frag} {a : Addr} {xs : List V} {g : TG} {tb : TS} {D : Ends} {σ : L2.St} {H : Hp} (Pv : Nat → L2.St → Hp → Prop) (h0 : Pv 0 σ H) (hl : ∀ i σ H, Pv i σ H → SqL K H a xs)
    (hs : ∀ (i : Nat) x σ H, xs[i]? = some x → Pv i σ H → ∀ T, H T = none → g (.ref T) σ (upd H T (.tup [.int (i : Nat), x])) fun σ2 H2 => tb { D with nx := Pv (i + 1), ct := Pv (i + 1), bk := D.nx } σ2 H2) (hd : ∀ σ H, Pv xs.length σ H → D.nx σ H) :
    ∃ W : Nat → Nat → L2.St → Hp → Prop, (∃ m, W 0 m σ H) ∧ ∀ i m σ H, W i m σ H →
      ((Ite K a).stop i H ∧ D.nx σ H) ∨ ((Ite K a).go i H ∧ ∃ N : L2.St → Hp → Prop, (∀ σ' H', N σ' H' → ∃ m', m' < m ∧ W (i + 1) m' σ' H') ∧ ∀ x H', (Ite K a).yld i H x H' → g x σ H' fun σ2 H2 => tb { D with nx := N, ct := N, bk := D.nx } σ2 H2) :=
  for_it walk_enum Pv h0 (fun i σ H _ p => hl i σ H p) (fun i x σ H H' _ p y => by
    obtain ⟨T, x1, x2, rfl, nT, rfl, e1, e2⟩ := y
    cases e1
    exact hs i x2 σ H e2 p T nT) hd
theorem kit_seq {K : PySem.W.Frag} (k : Kn) : PySem.W.kitAny K (.type k.name) [.type "list", .type "tuple"] = some (decide (k = .lst) || decide (k = .tup)) := by
  cases k <;> rfl
end Ev
set_option maxHeartbeats 4000000
namespace LawK
open PySem PySem.Spec PyProof.Rows L2 Ev

def pairB (n : Int) : Option (List V) → Bool
  | some [.int a, .int m] => decide (0 ≤ a) && decide (a < n) && decide (0 < m)
  | _ => false
def phB (x : V) (o : Option (List V)) (n : Int) : Bool := signV x || pairB n o
def spIsPhrase : Sp := fun vs H Q _ => ∃ (x : V) (o : Option (List V)) (n : Int), vs = [x, .int n] ∧ Tg H x o ∧ Q (.bl (phB x o n)) H
def spWith : Sp := fun vs H Q _ => ∃ (z : Str) (x : V), vs = [.str z, x] ∧ z.length ≤ 2000 ∧ ((∃ s : Str, x = .str s ∧ s.length = 1 ∧ Q (.str (z ++ s)) H) ∨
  ∃ (r : Addr) (a m : Int), x = .ref r ∧ H r = some (.tup [.int a, .int m]) ∧ 0 ≤ a ∧ a < (z.length : Int) ∧ 0 < m ∧ m ≤ 2000 - (z.length : Int) ∧ Q (.str (extS z a m)) H)
/-- a thing as phrases: none for no tuple -/
inductive Th (H : Hp) : V → Option (List Thing) → Prop
  | no {x : V} {k : Kn} (h : Kd H x k) (n : k ≠ .tup) : Th H x none
  | tup {a : Addr} {ps : List Thing} (e : H a = some (.tup (ps.map (·.1)))) (l : ps.length ≤ 3000) (h : ∀ p ∈ ps, Tg H p.1 p.2) : Th H (.ref a) (some ps)
theorem Th.same {H H' : Hp} {x : V} {r : Option (List Thing)} (h : Th H x r) (k : Same H H') : Th H' x r := by
  cases h with
  | no h n => exact .no (h.same k) n
  | tup e l h => exact .tup (k _ _ e) l fun p hp => (h p hp).same k
def toldR : Option (List Thing) → Int ⊕ Str
  | none => .inl (-1)
  | some ps => tellT "" 0 ps
def spPTold (cE : Addr) : Sp := fun vs H Q E => ∃ (x : V) (r : Option (List Thing)), vs = [x] ∧ Th H x r ∧
  (∀ z H', toldR r = .inr z → Okz z → Same H H' → Q (.str z) H') ∧
  (∀ i d H', toldR r = .inl i → Same H H' → H' d = none → E (.ref cE) (some d) (upd H' d (.xd [("index", .int i)])))
theorem numV_int {y : V} (h : numV y = true) : ∃ i : Int, y = .int i ∧ 0 ≤ i := by
  cases y with
  | int i => exact ⟨i, rfl, of_decide_eq_true h⟩
  | _ => cases h
theorem signV_str {x : V} (h : signV x = true) : ∃ s : Str, x = .str s ∧ sgB s = true ∧ s.length = 1 := by
  cases x with
  | str s =>
    have := Bool.and_eq_true_iff.mp h
    have l := of_decide_eq_true this.2
    exact ⟨s, rfl, this.1, by omega⟩
  | _ => cases h
/-- a phrase is a sign or a pair -/
theorem phB_cases {H : Hp} {x : V} {o : Option (List V)} {n : Int} (ht : Tg H x o) (h : phB x o n = true) : (∃ s : Str, x = .str s ∧ signV x = true ∧ sgB s = true ∧ s.length = 1) ∨ ∃ (r : Addr) (a m : Int), x = .ref r ∧ H r = some (.tup [.int a, .int m]) ∧ o = some [.int a, .int m] ∧ 0 ≤ a ∧ a < n ∧ 0 < m := by
  unfold phB at h
  rcases Bool.or_eq_true_iff.mp h with s | s
  · obtain ⟨z, e, h1, h2⟩ := signV_str s
    exact .inl ⟨z, e, s, h1, h2⟩
  · unfold pairB at s
    split at s
    · rename_i a m
      have s1 := Bool.and_eq_true_iff.mp s
      have s2 := Bool.and_eq_true_iff.mp s1.1
      cases ht with
      | tup e l hh => exact .inr ⟨_, a, m, rfl, e, rfl, of_decide_eq_true s2.1, of_decide_eq_true s2.2, of_decide_eq_true s1.2⟩
    · cases s
theorem stepT_no {H : Hp} {z : Str} {x : V} {o : Option (List V)} (ht : Tg H x o) (h : phB x o (z.length : Int) = false) : stepT z (x, o) = none := by
  unfold phB at h
  obtain ⟨h1, h2⟩ := Bool.or_eq_false_iff.mp h
  unfold stepT
  split
  · rename_i s _ heq
    cases heq
    rw [if_neg (fun c => by rw [h1] at c; cases c.1)]
  · rename_i a m hn heq
    cases heq
    split
    · rename_i c
      have : pairB (z.length : Int) (some [.int a, .int m]) = true := by
        show (decide (0 ≤ a) && decide (a < (z.length : Int)) && decide (0 < m)) = true
        rw [decide_eq_true c.1, decide_eq_true c.2.1, decide_eq_true c.2.2.1]
        rfl
      rw [h2] at this
      cases this
    · rfl
  · rfl
theorem stepT_str {z s : Str} {o : Option (List V)} (h : signV (.str s) = true) : stepT z (.str s, o) = if z.length < 2000 then some (z ++ s) else none := by
  show (if signV (.str s) = true ∧ z.length < 2000 then some (z ++ s) else none) = _
  by_cases c : z.length < 2000
  · rw [if_pos c, if_pos ⟨h, c⟩]
  · rw [if_neg c, if_neg (fun w => c w.2)]
theorem stepT_ref {z : Str} {r : Addr} {a m : Int} (h0 : 0 ≤ a) (h1 : a < (z.length : Int)) (h2 : 0 < m) : stepT z (.ref r, some [.int a, .int m]) = if m ≤ 2000 - (z.length : Int) then some (extS z a m) else none := by
  show (if 0 ≤ a ∧ a < (z.length : Int) ∧ 0 < m ∧ m ≤ 2000 - (z.length : Int) then some (extS z a m) else none) = _
  by_cases c : m ≤ 2000 - (z.length : Int)
  · rw [if_pos c, if_pos ⟨h0, h1, h2, c⟩]
  · rw [if_neg c, if_neg (fun w => c w.2.2.2)]
section
variable {P : Program} {w : World} {K : PySem.W.Frag} {mg : Str → Option Value} {base : Heap}
variable {PE cN cE : Addr}
abbrev sQIsPhrase : Stmt := topS 13
theorem scQIsPhrase : FnScope ["thing", "many"] ["thing", "many"] (defScope sQIsPhrase) := ⟨rfl, rfl, rfl, by decide +kernel, rfl, by decide +kernel, by decide +kernel⟩
theorem ok_QIsPhrase {f : Addr} {fd : FuncData} (F : Fun K "_is_phrase" "_is_phrase" sQIsPhrase f fd)  {fPNumber : Addr} {fdPNumber : FuncData} (DPNumber : Dk P w K mg base "is_number" sPNumber ["thing"] 1 spNum fPNumber fdPNumber) {fPSign : Addr} {fdPSign : FuncData} (DPSign : Dk P w K mg base "is_sign" sPSign ["thing"] 2 spSign fPSign fdPSign) {fPTuple : Addr} {fdPTuple : FuncData} (DPTuple : Dk P w K mg base "is_tuple" sPTuple ["thing", "many"] 1 spTuple fPTuple fdPTuple) (T : Glob mg) : FnOk P w K mg base CX0 3 f fd ["thing", "many"] spIsPhrase := by
  refine F.ok scQIsPhrase (fun vs H Q E h => ?_) (fun cdv A outer s H vs Q E hr h => ?_)
  · obtain ⟨x, o, n, rfl, _⟩ := h
    rfl
  · refine ⟨_, (pss_cons (ps_if (pt_val (pe_call DPSign.ok (hr.mono (by decide)) (by rfl) DPSign.g DPSign.F.kp DPSign.b .nil pass0 (pa_cons (pv 0) pa_nil)))
      (pss_one (ps_ret pe_bl))
      pss_nil)
      (pss_one (ps_ret (pe_and (pe_call DPTuple.ok (hr.mono (by decide)) (by rfl) DPTuple.g DPTuple.F.kp DPTuple.b .nil pass0 (pa_cons (pv 0) (pa_cons pe_int pa_nil))) (pe_and (pe_call DPNumber.ok (hr.mono (by decide)) (by rfl) DPNumber.g DPNumber.F.kp DPNumber.b .nil pass0 (pa_cons (pe_ix ix_tup (pv 0) pe_int (fun _ _ => rfl)) pa_nil)) (pe_and (pe_cmpR op_lt (pe_ix ix_tup (pv 0) pe_int (fun _ _ => rfl)) (pv 1) (nomark _)) (pe_and (pe_call DPNumber.ok (hr.mono (by decide)) (by rfl) DPNumber.g DPNumber.F.kp DPNumber.b .nil pass0 (pa_cons (pe_ix ix_tup (pv 0) pe_int (fun _ _ => rfl)) pa_nil)) (pe_one (pe_cmpR op_gt (pe_ix ix_tup (pv 0) pe_int (fun _ _ => rfl)) pe_int (nomark _)))))))))), ?_⟩
    obtain ⟨x, o, n, rfl, ht, q⟩ := h
    obtain ⟨k, hk, _⟩ := ht.kd
    refine ⟨x, rfl, x, k, rfl, hk, ht.vs, _, rfl, ite2 (fun e => ?_) (fun e => ?_)⟩
    · have : phB x o n = true := by unfold phB; rw [e, Bool.true_or]
      rw [this] at q
      exact q
    · have e1 : signV x = false := by simpa using e
      dsimp only [tNext, tDrop]
      have q1 : ∀ b, pairB n o = b → Q (.bl b) H := fun b eb => by
        rw [← eb]
        have : phB x o n = pairB n o := by unfold phB; rw [e1, Bool.false_or]
        rw [this] at q
        exact q
      refine ⟨x, rfl, x, 2, o, rfl, ht, _, rfl, ite2 (fun e2 => ?_) (fun e2 => ?_)⟩
      · cases ht with
        | no h1 n1 s1 => cases e2
        | @tup a xs ea l hh =>
          have l2 : xs.length = 2 := by have := of_decide_eq_true e2; omega
          obtain ⟨y0, y1, rfl⟩ : ∃ y0 y1, xs = [y0, y1] := by
            match xs, l2 with
            | [y0, y1], _ => exact ⟨y0, y1, rfl⟩
          obtain ⟨⟨k0, hk0⟩, v0⟩ := hh y0 (by simp)
          obtain ⟨⟨k1, hk1⟩, v1⟩ := hh y1 (by simp)
          refine ⟨.ref a, rfl, a, [y0, y1], 0, y0, rfl, rfl, SqT.of ea, rfl, y0, k0, rfl, hk0, _, rfl, ite2 (fun e3 => ?_) (fun e3 => ?_)⟩
          · obtain ⟨i0, rfl, p0⟩ := numV_int e3
            refine ⟨.ref a, rfl, a, [.int i0, y1], 0, .int i0, rfl, rfl, SqT.of ea, rfl, .int n, rfl, i0, n, rfl, rfl, _, rfl, ite2 (fun e4 => ?_) (fun e4 => ?_)⟩
            · refine ⟨.ref a, rfl, a, [.int i0, y1], 1, y1, rfl, rfl, SqT.of ea, rfl, y1, k1, rfl, hk1, _, rfl, ite2 (fun e5 => ?_) (fun e5 => ?_)⟩
              · obtain ⟨i1, rfl, p1⟩ := numV_int e5
                refine ⟨.ref a, rfl, a, [.int i0, .int i1], 1, .int i1, rfl, rfl, SqT.of ea, rfl, i1, 0, rfl, rfl, q1 _ ?_⟩
                show (decide (0 ≤ i0) && decide (i0 < n) && decide (0 < i1)) = _
                rw [e4, decide_eq_true p0]
                rfl
              · have e6 : numV y1 = false := by simpa using e5
                refine q1 _ ?_
                cases y1 with
                | int j =>
                  show (decide (0 ≤ i0) && decide (i0 < n) && decide (0 < j)) = false
                  have : ¬ 0 ≤ j := fun z => by
                    have : numV (.int j) = true := decide_eq_true z
                    rw [e6] at this
                    cases this
                  rw [decide_eq_false (show ¬ 0 < j by omega), Bool.and_false]
                | _ => rfl
            · have e6 : decide (i0 < n) = false := by simpa using e4
              refine q1 _ ?_
              cases y1 with
              | int j =>
                show (decide (0 ≤ i0) && decide (i0 < n) && decide (0 < j)) = false
                rw [e6, Bool.and_false, Bool.false_and]
              | _ => rfl
          · have e6 : numV y0 = false := by simpa using e3
            refine q1 _ ?_
            cases y0 with
            | int j =>
              cases y1 with
              | int j1 =>
                show (decide (0 ≤ j) && decide (j < n) && decide (0 < j1)) = false
                have : decide (0 ≤ j) = false := e6
                rw [this, Bool.false_and, Bool.false_and]
              | _ => rfl
            | _ => rfl
      · have e6 : tupO o 2 = false := by simpa using e2
        refine q1 _ ?_
        cases o with
        | none => rfl
        | some xs =>
          match xs, e6 with
          | [], _ => rfl
          | [_], _ =>
            unfold pairB
            split
            · rename_i heq; cases heq
            · rfl
          | [_, _], h => cases h
          | _ :: _ :: _ :: _, _ =>
            unfold pairB
            split
            · rename_i heq; cases heq
            · rfl
abbrev sQWith : Stmt := topS 14
theorem scQWith : FnScope ["text", "phrase", "first", "many", "ring"] ["text", "phrase"] (defScope sQWith) := ⟨rfl, rfl, rfl, by decide +kernel, rfl, by decide +kernel, by decide +kernel⟩
theorem ok_QWith {f : Addr} {fd : FuncData} (F : Fun K "_with_phrase" "_with_phrase" sQWith f fd)   (T : Glob mg) : FnOk P w K mg base CX0 1 f fd ["text", "phrase"] spWith := by
  refine F.ok scQWith (fun vs H Q E h => ?_) (fun cdv A outer s H vs Q E hr h => ?_)
  · obtain ⟨z, x, rfl, _⟩ := h
    rfl
  · refine ⟨_, (pss_cons (ps_if (pt_val (pe_callB call_isi (by rfl) T.isinstance PyProof.Rows.boot_isinstance (pa_cons (pv 1) (pa_cons (pe_bltn (v := .ty "str") (by rfl) T.str (by decide +kernel) rfl) pa_nil))))
      (pss_one (ps_ret (pe_op op_add_str (pv 0) (pv 1))))
      pss_nil)
      (pss_cons (ps_asg (pv 1) (pg_tup (by rfl) (pgs_cons (pg_name (i := 2) scQWith.nd rfl (.inl rfl)) (pgs_cons (pg_name (i := 3) scQWith.nd rfl (.inl rfl)) pgs_nil))))
      (pss_cons (ps_set (i := 4) scQWith.nd rfl (.inl rfl) (pe_slice sl_str (pv 0) (po_some (pv 2)) po_none))
      (pss_one (ps_ret (pe_op op_add_str (pv 0) (pe_slice sl_str (pe_op op_mulL (pv 4) (pe_op op_add (pe_op op_fdiv (pv 3) (pe_callB call_lenZ (by rfl) T.len PySem.boot_len (pa_cons (pv 4) pa_nil))) pe_int)) po_none (po_some (pv 3))))))))), ?_⟩
    obtain ⟨z, x, rfl, few, hx⟩ := h
    rcases hx with ⟨s, rfl, h1, q⟩ | ⟨r, a, m, rfl, ea, c1, c2, c3, c4, q⟩
    · refine ⟨.str s, rfl, .str s, .ty "str", .type (Kn.name .str), .type "str", kitB .str .str, rfl, .ty _, Kd.tyx (.str s), kit_kn .str .str, _, rfl, iteT ?_⟩
      refine ⟨.str z, rfl, .str s, rfl, z, s, rfl, rfl, ?_, q⟩
      rw [sizeLine_eq]
      omega
    · refine ⟨.ref r, rfl, .ref r, .ty "str", .type (Kn.name .tup), .type "str", kitB .tup .str, rfl, .ty _, Kd.tyx (.tup ea), kit_kn .tup .str, _, rfl, iteF ?_⟩
      dsimp only [tNext, tDrop]
      refine ⟨.ref r, rfl, r, _, rfl, SqT.of ea, rfl, .int a, _, rfl, .int m, _, rfl, rfl, ?_⟩
      have lr : (cutS z (some a) none).length = z.length - a.toNat := by rw [len_S, cutS_from c1, List.length_drop, ← len_S]
      have ld0 : 0 ≤ (m / (((cutS z (some a) none).length : Nat) : Int)) := Int.ediv_nonneg (by omega) (by omega)
      have ld : (m / (((cutS z (some a) none).length : Nat) : Int)) ≤ 2000 := by
        refine Int.le_trans (Int.ediv_le_self _ (by omega)) (by omega)
      have el := extS_len c1 c2 (by omega : 0 ≤ m)
      have lm : (Txt.mul (cutS z (some a) none) (m / (((cutS z (some a) none).length : Nat) : Int) + 1)).length ≤ sizeLine := by
        have f := (mul_facts (cutS z (some a) none) (m / (((cutS z (some a) none).length : Nat) : Int) + 1)).1
        have f2 : (cutS z (some a) none).length * (m / (((cutS z (some a) none).length : Nat) : Int) + 1).toNat ≤ 2000 * 2001 := Nat.mul_le_mul (by omega) (by omega)
        rw [sizeLine_eq]
        omega
      have q2 : Q (.str (z ++ cutS (Txt.mul (cutS z (some a) none) (m / (((cutS z (some a) none).length : Nat) : Int) + 1)) none (some m))) H := q
      have el2 : (z ++ cutS (Txt.mul (cutS z (some a) none) (m / (((cutS z (some a) none).length : Nat) : Int) + 1)) none (some m)).length = z.length + m.toNat := el
      rw [app_len] at el2
      refine ⟨.str z, rfl, .int a, rfl, a, rfl, z, rfl, len5 (by omega), ?_⟩
      revert lr ld0 ld lm q2 el2
      generalize cutS z (some a) none = ring
      intro lr ld0 ld lm q2 el2
      refine ⟨.str z, rfl, .str ring, rfl, .int m, rfl, .str ring, rfl, ring, rfl, len5 (by omega), _, _, rfl, rfl, ⟨by omega, by omega⟩, _, _, rfl, rfl, ring, _, rfl, rfl, by omega, by omega, by omega, .int m, rfl, m, rfl, _, rfl, lm, z, _, rfl, rfl, ?_, q2⟩
      rw [sizeLine_eq]
      omega
abbrev sPTold : Stmt := topS 15
theorem scPTold : FnScope ["phrases", "text", "index", "phrase"] ["phrases"] (defScope sPTold) := ⟨rfl, rfl, rfl, by decide +kernel, rfl, by decide +kernel, by decide +kernel⟩
theorem ok_PTold {f : Addr} {fd : FuncData} (F : Fun K "told_by" "told_by" sPTold f fd) {tM : Tok} (gM : mg "MOST_SIGNS" = some (.int 2000 tM)) (EE : Cls1 K mg PE "NoPhrases" "index" cE) {fQIsPhrase : Addr} {fdQIsPhrase : FuncData} (DQIsPhrase : Dk P w K mg base "_is_phrase" sQIsPhrase ["thing", "many"] 3 spIsPhrase fQIsPhrase fdQIsPhrase) {fQWith : Addr} {fdQWith : FuncData} (DQWith : Dk P w K mg base "_with_phrase" sQWith ["text", "phrase"] 1 spWith fQWith fdQWith) (T : Glob mg) : FnOk P w K mg base (L2.CX P w) 4 f fd ["phrases"] (spPTold cE) := by
  refine F.okX scPTold (fun vs H Q E h => ?_) (fun cdv A outer s H vs Q E hr h => ?_)
  · obtain ⟨x, r, rfl, _⟩ := h
    rfl
  · refine ⟨_, (pss_cons (ps_if (pt_not (pt_val (pe_callB call_isi (by rfl) T.isinstance PyProof.Rows.boot_isinstance (pa_cons (pv 0) (pa_cons (pe_bltn (v := .ty "tuple") (by rfl) T.tuple (by decide +kernel) rfl) pa_nil)))))
      (pss_one (ps_raise rfl (takes_of rfl rfl rfl rfl) (pmk_c1 EE hr (pa_cons (pe_un un_neg pe_int) pa_nil) (hm := fun h ⟨i, e, q⟩ => ⟨i, e, h _ _ q⟩))))
      pss_nil)
      (pss_cons (ps_set (i := 1) scPTold.nd rfl (.inl rfl) pe_str)
      (pss_cons (ps_for (passes_of rfl) rfl (pi_enumT (by rfl) T.enumerate (pa_cons (pv 0) pa_nil)) (pg_tup (by rfl) (pgs_cons (pg_name (i := 2) scPTold.nd rfl (.inl rfl)) (pgs_cons (pg_name (i := 3) scPTold.nd rfl (.inl rfl)) pgs_nil)))
      (pss_cons (ps_if (pt_not (pt_val (pe_call DQIsPhrase.ok (hr.mono (by decide)) (by rfl) DQIsPhrase.g DQIsPhrase.F.kp DQIsPhrase.b .nil pass0 (pa_cons (pv 3) (pa_cons (pe_callB call_lenZ (by rfl) T.len PySem.boot_len (pa_cons (pv 1) pa_nil)) pa_nil)))))
        (pss_one (ps_raise rfl (takes_of rfl rfl rfl rfl) (pmk_c1 EE hr (pa_cons (pv 2) pa_nil) (hm := tCons1 (j := 0)))))
        pss_nil)
        (pss_cons (ps_if (pt_cmpR op_gt (pe_op op_add (pe_callB call_lenZ (by rfl) T.len PySem.boot_len (pa_cons (pv 1) pa_nil)) (pe_ifExp (pt_val (pe_callB call_isi (by rfl) T.isinstance PyProof.Rows.boot_isinstance (pa_cons (pv 3) (pa_cons (pe_bltn (v := .ty "str") (by rfl) T.str (by decide +kernel) rfl) pa_nil)))) pe_int (pe_ix ix_tup (pv 3) pe_int (fun _ _ => rfl)))) (pe_glob (v := .int 2000) (by rfl) gM ⟨_, rfl⟩) (nomark _))
        (pss_one (ps_raise rfl (takes_of rfl rfl rfl rfl) (pmk_c1 EE hr (pa_cons (pv 2) pa_nil) (hm := tCons1 (j := 0)))))
        pss_nil)
        (pss_one (ps_set (i := 1) scPTold.nd rfl (.inl rfl) (pe_call DQWith.ok (hr.mono (by decide)) (by rfl) DQWith.g DQWith.F.kp DQWith.b .nil pass0 (pa_cons (pv 1) (pa_cons (pv 3) pa_nil))))))))
      (pss_one (ps_ret (pv 1)))))), ?_⟩
    obtain ⟨x, r, rfl, hT, q1, q2⟩ := h
    cases hT with
    | @no _ k hk n =>
      refine ⟨x, rfl, x, .ty "tuple", .type (Kn.name k), .type "tuple", kitB k .tup, rfl, .ty _, Kd.tyx hk, kit_kn k .tup, _, rfl, ?_⟩
      have e : kitB k .tup = false := by cases k <;> first | rfl | exact absurd rfl n
      rw [e]
      exact iteT ⟨_, rfl, _, rfl, fun d nd => q2 (-1) d H rfl (Same.refl H) nd⟩
    | @tup a ps e l hps =>
      refine ⟨.ref a, rfl, .ref a, .ty "tuple", .type (Kn.name .tup), .type "tuple", kitB .tup .tup, rfl, .ty _, Kd.tyx (.tup e), kit_kn .tup .tup, _, rfl, iteF ?_⟩
      dsimp only [tNext, tDrop]
      have ok0 : Okz "" := ⟨rfl, by decide⟩
      refine ⟨.ref a, rfl, a, _, rfl, SqT.of e, for_enT (xs := ps.map (·.1)) (fun i σ H' => ∃ (z : Str) (u1 u2 : Option V), σ = [some (.ref a), some (.str z), u1, u2] ∧ Same H H' ∧ Okz z ∧ tellT "" 0 (ps.take i) = .inr z) ⟨"", none, none, rfl, Same.refl H, ok0, rfl⟩ (fun i σ H' p => by obtain ⟨z, u1, u2, _, kk, _⟩ := p; exact SqT.of (kk _ _ e)) ?_ ?_⟩
      · rintro i x1 σ H' hx ⟨z, u1, u2, rfl, kH, hz, hl⟩ t nt
        rw [List.getElem?_map] at hx
        obtain ⟨⟨x1, o1⟩, hp, rfl⟩ := Option.map_eq_some_iff.mp hx
        have ht0 := hps _ (List.mem_of_getElem? hp)
        have k2 := kH.trans (Same.new (o := .tup [.int (i : Nat), x1]) nt)
        have ht := ht0.same k2
        have few := hz.few
        have lz : z.length ≤ sizeLine := len5 (by omega)
        have bad : stepT z (x1, o1) = none → toldR (some ps) = .inl (i : Int) := fun n => tellT_bad hp hl n
        have good : ∀ y, stepT z (x1, o1) = some y → tellT "" 0 (ps.take (i + 1)) = .inr y := fun y ey => by
          rw [List.take_succ, hp]
          show tellT "" 0 (ps.take i ++ [(x1, o1)]) = _
          rw [tellT_snoc hl, ey]
        refine ⟨t, [.int (i : Nat), x1], rfl, SqT.of upd_same, rfl, .int (i : Nat), [x1], rfl, x1, [], rfl, rfl, ?_⟩
        dsimp only at k2 ht ⊢
        revert k2 ht
        generalize upd H' t (.tup [.int (i : Nat), x1]) = H2
        intro k2 ht
        refine ⟨x1, rfl, .str z, rfl, z, rfl, lz, x1, o1, _, rfl, ht, _, rfl, ?_⟩
        cases eb : phB x1 o1 (z.length : Int) with
        | false => exact iteT ⟨_, rfl, _, rfl, fun d nd => q2 _ d H2 (bad (stepT_no ht eb)) k2 nd⟩
        | true =>
          refine iteF ?_
          dsimp only [tNext, tDrop]
          rcases phB_cases ht eb with ⟨s, rfl, sv, hs, ls⟩ | ⟨r, b, m, rfl, hr, rfl, b0, b1, m0⟩
          · have st := stepT_str (z := z) (o := o1) sv
            refine ⟨.str z, rfl, z, rfl, lz, .str s, rfl, .str s, .ty "str", .type (Kn.name .str), .type "str", kitB .str .str, rfl, .ty _, Kd.tyx (.str s), kit_kn .str .str, _, rfl, iteT ⟨_, _, rfl, rfl, _, _, rfl, rfl, _, rfl, ite2 (fun e3 => ?_) (fun e3 => ?_)⟩⟩
            · have e4 := of_decide_eq_true e3
              rw [if_neg (by omega)] at st
              exact ⟨_, rfl, _, rfl, fun d nd => q2 _ d H2 (bad st) k2 nd⟩
            · have e4 : ¬ 2000 < (z.length : Int) + 1 := fun w => e3 (decide_eq_true w)
              rw [if_pos (by omega)] at st
              dsimp only [tNext, tDrop]
              refine ⟨.str z, rfl, .str s, rfl, z, .str s, rfl, by omega, .inl ⟨s, rfl, ls, ?_⟩⟩
              exact ⟨_, _, _, rfl, k2, stepT_ok hz st, good _ st⟩
          · have st := stepT_ref (z := z) (r := r) b0 b1 m0
            refine ⟨.str z, rfl, z, rfl, lz, .ref r, rfl, .ref r, .ty "str", .type (Kn.name .tup), .type "str", kitB .tup .str, rfl, .ty _, Kd.tyx (.tup hr), kit_kn .tup .str, _, rfl, iteF ⟨.ref r, rfl, r, _, 1, .int m, rfl, rfl, SqT.of hr, rfl, _, _, rfl, rfl, _, _, rfl, rfl, _, rfl, ite2 (fun e3 => ?_) (fun e3 => ?_)⟩⟩
            · have e4 := of_decide_eq_true e3
              rw [if_neg (by omega)] at st
              exact ⟨_, rfl, _, rfl, fun d nd => q2 _ d H2 (bad st) k2 nd⟩
            · have e4 : ¬ 2000 < (z.length : Int) + m := fun w => e3 (decide_eq_true w)
              rw [if_pos (by omega)] at st
              dsimp only [tNext, tDrop]
              refine ⟨.str z, rfl, .ref r, rfl, z, .ref r, rfl, by omega, .inr ⟨r, b, m, rfl, hr, b0, b1, m0, by omega, ?_⟩⟩
              exact ⟨_, _, _, rfl, k2, stepT_ok hz st, good _ st⟩
      · rintro σ H' ⟨z, u1, u2, rfl, kH, hz, hl⟩
        rw [List.length_map, List.take_length] at hl
        exact ⟨_, rfl, q1 z H' hl hz kH⟩
end
end LawK
set_option maxHeartbeats 4000000
namespace LawK
open PySem PySem.Spec PyProof.Rows L2 Ev

/-- the phrase of n signs from a place on (0: the sign there alone) -/
def ItemAt (H : Hp) (t : List Nat) (a n : Nat) (x : V) : Prop := (n = 0 ∧ ∃ c, x = .str (SX.S [c]) ∧ t[a]? = some c) ∨ (0 < n ∧ ∃ (r : Addr) (b : Nat), x = .ref r ∧ H r = some (.tup [.int (b : Int), .int (n : Int)]) ∧ b < a ∧ Eqs t b a n)
theorem ItemAt.same {H H' : Hp} {t : List Nat} {a n : Nat} {x : V} (h : ItemAt H t a n x) (k : Same H H') : ItemAt H' t a n x := by
  rcases h with h | ⟨p, r, b, e, hr, q⟩
  · exact .inl h
  · exact .inr ⟨p, r, b, e, k _ _ hr, q⟩
theorem eqs_cut {t : List Nat} {b a m : Nat} (h : a + m ≤ t.length) : (t.drop b).take m = (t.drop a).take m ↔ Eqs t b a m := by
  constructor
  · intro e
    refine ⟨h, fun i hi => ?_⟩
    have := congrArg (fun l : List Nat => l[i]?) e
    simp only [List.getElem?_take, if_pos hi, List.getElem?_drop] at this
    exact this
  · intro e
    apply List.ext_getElem?
    intro i
    rw [List.getElem?_take, List.getElem?_take]
    split
    · rename_i hi
      rw [List.getElem?_drop, List.getElem?_drop]
      exact e.2 i hi
    · rfl
theorem sign_at {z : Str} {a : Nat} (h : a < z.length) : ∃ c, (zl z)[a]? = some c ∧ atI z.cps.toList (a : Int) = some c := by
  rw [zlen] at h
  exact ⟨_, List.getElem?_eq_getElem h, atI_nat (List.getElem?_eq_getElem h)⟩
theorem iteFI {b : Int} {P Q : Prop} (h : ¬ b < 0) (k : Q) : if decide (b < 0) = true then P else Q := by
  rw [if_neg (fun z => h (of_decide_eq_true z))]
  exact k
theorem iteTI {b : Int} {P Q : Prop} (h : b < 0) (k : P) : if decide (b < 0) = true then P else Q := by
  rw [if_pos (decide_eq_true h)]
  exact k
/-- an item of phrases: a sign, or a pair -/
def PhI (H : Hp) (p : Thing) : Prop := (∃ s : Str, p = (.str s, none) ∧ s.length = 1) ∨ ∃ (r : Addr) (a m : Int), p = (.ref r, some [.int a, .int m]) ∧ H r = some (.tup [.int a, .int m])
theorem PhI.tg {H : Hp} {p : Thing} (h : PhI H p) : Tg H p.1 p.2 := by
  rcases h with ⟨s, rfl, l⟩ | ⟨r, a, m, rfl, e⟩
  · exact .no (.str s) (by decide) fun w e => by cases e; omega
  · refine .tup e (by show 2 ≤ 30; decide) fun y hy => ?_
    rcases List.mem_cons.mp hy with rfl | hy
    · exact int_ok
    · rw [List.mem_singleton.mp hy]
      exact int_ok
theorem PhI.keep {H H' : Hp} {L : Addr} {xs : List V} (hL : H L = some (.lst xs)) (k : ∀ c o, c ≠ L → H c = some o → H' c = some o) {p : Thing} (h : PhI H p) : PhI H' p := by
  rcases h with h | ⟨r, a, m, rfl, e⟩
  · exact .inl h
  · exact .inr ⟨r, a, m, rfl, k _ _ (fun z => by rw [z, hL] at e; cases e) e⟩
theorem PhI.same {H H' : Hp} (k : Same H H') {p : Thing} (h : PhI H p) : PhI H' p := by
  rcases h with h | ⟨r, a, m, rfl, e⟩
  · exact .inl h
  · exact .inr ⟨r, a, m, rfl, k _ _ e⟩
/-- the item that the longest phrase is -/
theorem ItemAt.item {H : Hp} {t : List Nat} {a n : Nat} {x : V} (h : ItemAt H t a n x) {ps : List Thing} (R : Runs t ps a) : ∃ p : Thing, p.1 = x ∧ PhI H p ∧ Runs t (ps ++ [p]) (a + max 1 n) ∧ ((∃ s : Str, x = .str s ∧ max 1 n = 1) ∨ ∃ (r : Addr) (b : Int), x = .ref r ∧ H r = some (.tup [.int b, .int (n : Int)]) ∧ max 1 n = n) := by
  rcases h with ⟨rfl, c, rfl, e⟩ | ⟨p0, r, b, rfl, e, lb, hE⟩
  · exact ⟨(.str (SX.S [c]), none), rfl, .inl ⟨_, rfl, rfl⟩, R.sign e, .inl ⟨_, rfl, rfl⟩⟩
  · have em : max 1 n = n := by omega
    refine ⟨(.ref r, some [.int (b : Int), .int (n : Int)]), rfl, .inr ⟨r, _, _, rfl, e⟩, ?_, .inr ⟨r, b, rfl, e, em⟩⟩
    rw [em]
    exact R.rep lb p0 hE
def spLongest : Sp := fun vs H Q _ => ∃ (z : Str) (a : Nat), vs = [.str z, .int (a : Int)] ∧ a < z.length ∧ z.length ≤ 2000 ∧ ∀ x H', ItemAt H' (zl z) a (Lz (zl z) a) x → Same H H' → Q x H'
/-- the phrases at a, as a tuple -/
def PhT (t : Str) (ps : List Thing) : Prop := Runs (zl t) ps t.length
def spPhrasing : Sp := fun vs H Q _ => ∃ (z : Str), vs = [.str z] ∧ z.length ≤ 2000 ∧ ∀ (a : Addr) (ps : List Thing) H', H' a = some (.tup (ps.map (·.1))) → (∀ p ∈ ps, Tg H' p.1 p.2) → Runs (zl z) ps z.length → ps.length = Gn (zl z) 0 → Same H H' → Q (.ref a) H'
/-- phrasing of a right text -/
def spPPhrasing : Sp := fun vs H Q _ => ∃ (z : Str), vs = [.str z] ∧ Okz z ∧ ∀ (a : Addr) (ps : List Thing) H', H' a = some (.tup (ps.map (·.1))) → (∀ p ∈ ps, Tg H' p.1 p.2) → Runs (zl z) ps z.length → ps.length = Gn (zl z) 0 → Same H H' → Q (.ref a) H'
def spPFewest : Sp := fun vs H Q _ => ∃ (z : Str), vs = [.str z] ∧ Okz z ∧ ∀ H', Same H H' → Q (.int (Gn (zl z) 0 : Nat)) H'
section
variable {P : Program} {w : World} {K : PySem.W.Frag} {mg : Str → Option Value} {base : Heap}
variable {PE cN cE : Addr}
abbrev sQLongest : Stmt := topS 16
theorem scQLongest : FnScope ["text", "first", "phrase", "many", "begin"] ["text", "first"] (defScope sQLongest) := ⟨rfl, rfl, rfl, by decide +kernel, rfl, by decide +kernel, by decide +kernel⟩
theorem ok_QLongest {f : Addr} {fd : FuncData} (F : Fun K "_longest_phrase" "_longest_phrase" sQLongest f fd)   (T : Glob mg) : FnOk P w K mg base CX0 1 f fd ["text", "first"] spLongest := by
  refine F.ok scQLongest (fun vs H Q E h => ?_) (fun cdv A outer s H vs Q E hr h => ?_)
  · obtain ⟨z, a, rfl, _⟩ := h
    rfl
  · refine ⟨_, (pss_cons (ps_set (i := 2) scQLongest.nd rfl (.inl rfl) (pe_ix ix_str (pv 0) (pv 1) (fun _ _ => rfl)))
      (pss_cons (ps_set (i := 3) scQLongest.nd rfl (.inl rfl) pe_int)
      (pss_cons (ps_while PassesOwn.never (pt_cmpR op_le (pe_op op_add (pv 1) (pv 3)) (pe_callB call_lenZ (by rfl) T.len PySem.boot_len (pa_cons (pv 0) pa_nil)) (nomark _))
      (pss_cons (ps_set (i := 4) scQLongest.nd rfl (.inl rfl) (pe_bm PySem.F.plainAttrs_str PySem.F.slot_str_find PySem.F.type_str_find mt_find4 (pv 0) (pa_cons (pe_slice sl_str (pv 0) (po_some (pv 1)) (po_some (pe_op op_add (pv 1) (pv 3)))) (pa_cons pe_int (pa_cons (pe_op op_sub (pe_op op_add (pv 1) (pv 3)) pe_int) pa_nil)))))
        (pss_cons (ps_if (pt_cmpR op_lt (pv 4) pe_int (nomark _))
        (pss_one ps_break)
        pss_nil)
        (pss_cons (ps_set (i := 2) scQLongest.nd rfl (.inl rfl) (pe_tup (pa_cons (pv 4) (pa_cons (pv 3) pa_nil))))
        (pss_one (ps_aug (i := 3) scQLongest.nd rfl (.inl rfl) pe_int ip_add))))))
      (pss_one (ps_ret (pv 2)))))), ?_⟩
    obtain ⟨z, a, rfl, la, few, q⟩ := h
    obtain ⟨c0, hc0, ec0⟩ := sign_at la
    have lz : z.length ≤ sizeLine := len5 (by omega)
    refine ⟨.str z, rfl, .int (a : Int), rfl, z, (a : Int), c0, rfl, rfl, lz, ec0, ?_⟩
    have lL := Lz_le (t := zl z) (a := a) (by rw [← zlen]; omega)
    rw [← zlen] at lL
    refine ⟨fun m σ H' => ∃ (x : V) (n : Nat) (u : Option V), σ = [some (.str z), some (.int (a : Int)), some x, some (.int ((n : Int) + 1)), u] ∧ m = z.length - n ∧ ItemAt H' (zl z) a n x ∧ n ≤ Lz (zl z) a ∧ Same H H', ⟨_, _, 0, none, rfl, rfl, .inl ⟨rfl, c0, rfl, hc0⟩, Nat.zero_le _, Same.refl H⟩, ?_⟩
    rintro m σ H1 ⟨x, n, u, rfl, rfl, hx, ln, k1⟩
    have fin : Lz (zl z) a ≤ n → Q x H1 := fun l => by
      have e : n = Lz (zl z) a := by omega
      rw [e] at hx
      exact q x H1 hx k1
    refine ⟨.int (a : Int), rfl, .int ((n : Int) + 1), rfl, _, _, rfl, rfl, .str z, rfl, z, rfl, lz, _, _, rfl, rfl, _, rfl, ite2 (fun e => ?_) (fun e => ?_)⟩
    · have l1 : a + (n + 1) ≤ z.length := by have := of_decide_eq_true e; omega
      refine ⟨fun σ' H' => ∃ (x : V) (n' : Nat) (u : Option V), n' = n + 1 ∧ σ' = [some (.str z), some (.int (a : Int)), some x, some (.int ((n' : Int) + 1)), u] ∧ ItemAt H' (zl z) a n' x ∧ n' ≤ Lz (zl z) a ∧ Same H H', ?_, ?_⟩
      · rintro σ' H' ⟨x, n', u, rfl, rfl, hx, ln, k⟩
        exact ⟨_, by omega, x, n + 1, u, rfl, rfl, hx, ln, k⟩
      · have cl : (cutS z (some (a : Int)) (some ((a : Int) + ((n : Int) + 1)))).cps.toList = ((zl z).drop a).take (n + 1) := by
          rw [cutS_of (by omega) (by omega)]
          have e1 : ((a : Int) + ((n : Int) + 1) - (a : Int)).toNat = n + 1 := by omega
          have e2 : (a : Int).toNat = a := by omega
          rw [e1, e2]
        have cn : (cutS z (some (a : Int)) (some ((a : Int) + ((n : Int) + 1)))).length = n + 1 := by
          rw [len_S, cl, List.length_take, List.length_drop, ← zlen]
          omega
        refine ⟨.str z, rfl, rfl, .str z, rfl, .int (a : Int), rfl, (a : Int), rfl, .int (a : Int), rfl, .int ((n : Int) + 1), rfl, _, _, rfl, rfl, (a : Int) + ((n : Int) + 1), rfl, z, rfl, lz, .int (a : Int), rfl, .int ((n : Int) + 1), rfl, _, _, rfl, rfl, _, _, rfl, rfl, z, cutS z (some (a : Int)) (some ((a : Int) + ((n : Int) + 1))), 0, (a : Int) + ((n : Int) + 1) - 1, rfl, rfl, ?_⟩
        rcases findIn_of (x := z) (y := cutS z (some (a : Int)) (some ((a : Int) + ((n : Int) + 1)))) (j := (a : Int) + ((n : Int) + 1) - 1) (by omega) with ⟨b, eb, lb, hb⟩ | ⟨eb, hb⟩
        · rw [cn] at lb hb
          rw [cl] at hb
          have hE := (eqs_cut (by rw [← zlen]; exact l1)).mp hb
          have lba : b < a := by omega
          rw [eb]
          refine ⟨_, rfl, _, _, rfl, rfl, _, rfl, iteFI (by omega) ?_⟩
          dsimp only [tNext, tDrop]
          refine ⟨_, rfl, _, rfl, by show 2 ≤ sizeLine; decide, fun r nr => ?_⟩
          refine ⟨_, rfl, _, _, rfl, rfl, ?_⟩
          exact ⟨_, n + 1, _, rfl, rfl, .inr ⟨by omega, r, b, rfl, upd_same, lba, hE⟩, Lz_ge lba hE, sameAt k1 (Same.free k1 nr)⟩
        · rw [cn] at hb
          rw [cl] at hb
          rw [eb]
          refine ⟨_, rfl, _, _, rfl, rfl, _, rfl, iteTI (by decide) ?_⟩
          refine ⟨_, rfl, fin ?_⟩
          rcases Nat.lt_or_ge n (Lz (zl z) a) with c | c
          · rcases Lz_is (t := zl z) (a := a) (by rw [← zlen]; omega) with e0 | ⟨b, lb, hE⟩
            · omega
            · have := (eqs_cut (t := zl z) (b := b) (a := a) (m := n + 1) (by rw [← zlen]; exact l1)).mpr (hE.le (by omega))
              exact absurd this (hb b (by omega) (by omega))
          · exact c
    · have l1 : ¬ (a : Int) + ((n : Int) + 1) ≤ (z.length : Int) := fun w => e (decide_eq_true w)
      exact ⟨_, rfl, fin (by omega)⟩
abbrev sQPhrasing : Stmt := topS 17
theorem scQPhrasing : FnScope ["text", "found", "first", "phrase"] ["text"] (defScope sQPhrasing) := ⟨rfl, rfl, rfl, by decide +kernel, rfl, by decide +kernel, by decide +kernel⟩
theorem ok_QPhrasing {f : Addr} {fd : FuncData} (F : Fun K "_phrasing" "_phrasing" sQPhrasing f fd)  {fQLongest : Addr} {fdQLongest : FuncData} (DQLongest : Dk P w K mg base "_longest_phrase" sQLongest ["text", "first"] 1 spLongest fQLongest fdQLongest) (T : Glob mg) : FnOk P w K mg base CX0 2 f fd ["text"] spPhrasing := by
  refine F.ok scQPhrasing (fun vs H Q E h => ?_) (fun cdv A outer s H vs Q E hr h => ?_)
  · obtain ⟨z, rfl, _⟩ := h
    rfl
  · refine ⟨_, (pss_cons (ps_set (i := 1) scQPhrasing.nd rfl (.inl rfl) (pe_lst pa_nil))
      (pss_cons (ps_set (i := 2) scQPhrasing.nd rfl (.inl rfl) pe_int)
      (pss_cons (ps_while PassesOwn.never (pt_cmpR op_lt (pv 2) (pe_callB call_lenZ (by rfl) T.len PySem.boot_len (pa_cons (pv 0) pa_nil)) (nomark _))
      (pss_cons (ps_set (i := 3) scQPhrasing.nd rfl (.inl rfl) (pe_call DQLongest.ok (hr.mono (by decide)) (by rfl) DQLongest.g DQLongest.F.kp DQLongest.b .nil pass0 (pa_cons (pv 0) (pa_cons (pv 2) pa_nil))))
        (pss_cons (ps_expr (pe_bm PySem.F.plainAttrs_list PySem.F.slot_list_append PySem.F.type_list_append mt_append (pv 1) (pa_cons (pv 3) pa_nil)))
        (pss_one (ps_aug (i := 2) scQPhrasing.nd rfl (.inl rfl) (pe_ifExp (pt_val (pe_callB call_isi (by rfl) T.isinstance PyProof.Rows.boot_isinstance (pa_cons (pv 3) (pa_cons (pe_bltn (v := .ty "str") (by rfl) T.str (by decide +kernel) rfl) pa_nil)))) pe_int (pe_ix ix_tup (pv 3) pe_int (fun _ _ => rfl))) ip_add)))))
      (pss_one (ps_ret (pe_callTy call_tuple_of (by rfl) T.tuple (by decide +kernel) (pa_cons (pv 1) pa_nil))))))), ?_⟩
    obtain ⟨z, rfl, few, q⟩ := h
    have lz : z.length ≤ sizeLine := len5 (by omega)
    refine ⟨by show 0 ≤ sizeLine; decide, fun L nL => ?_⟩
    refine ⟨fun m σ H' => ∃ (a : Nat) (ps : List Thing) (u : Option V), σ = [some (.str z), some (.ref L), some (.int (a : Int)), u] ∧ m = z.length - a ∧ a ≤ z.length ∧ H' L = some (.lst (ps.map (·.1))) ∧ (∀ p ∈ ps, PhI H' p) ∧ Runs (zl z) ps a ∧ ps.length + Gn (zl z) a = Gn (zl z) 0 ∧ ps.length ≤ a ∧ Same H H', ⟨_, 0, [], none, rfl, rfl, Nat.zero_le _, upd_same, (fun p hp => absurd hp (by simp)), .nil, Nat.zero_add _, Nat.zero_le _, Same.new nL⟩, ?_⟩
    rintro m σ H1 ⟨a, ps, u, rfl, rfl, la, hL, hps, hR, hG, lp, k1⟩
    refine ⟨.int (a : Int), rfl, .str z, rfl, z, rfl, lz, _, _, rfl, rfl, _, rfl, ite2 (fun e => ?_) (fun e => ?_)⟩
    · have l1 : a < z.length := by have := of_decide_eq_true e; omega
      have sN := stepN_le (t := zl z) (a := a) (by rw [← zlen]; exact l1)
      rw [← zlen] at sN
      have s1 : 1 ≤ stepN (zl z) a := Nat.le_max_left _ _
      refine ⟨fun σ' H' => ∃ (a' : Nat) (ps : List Thing) (u : Option V), a < a' ∧ σ' = [some (.str z), some (.ref L), some (.int (a' : Int)), u] ∧ a' ≤ z.length ∧ H' L = some (.lst (ps.map (·.1))) ∧ (∀ p ∈ ps, PhI H' p) ∧ Runs (zl z) ps a' ∧ ps.length + Gn (zl z) a' = Gn (zl z) 0 ∧ ps.length ≤ a' ∧ Same H H', ?_, ?_⟩
      · rintro σ' H' ⟨a', ps, u, l, rfl, r⟩
        exact ⟨z.length - a', by omega, a', ps, u, rfl, rfl, r⟩
      · refine ⟨.str z, rfl, .int (a : Int), rfl, z, a, rfl, l1, few, fun x H2 hx k2 => ?_⟩
        obtain ⟨p, rfl, hp, hR2, hsz⟩ := hx.item hR
        have hL2 := k2 _ _ hL
        have fin : ∀ u, ∃ (a' : Nat) (ps' : List Thing) (u' : Option V), a < a' ∧ [some (.str z), some (.ref L), some (.int ((a : Int) + (stepN (zl z) a : Nat))), u] = [some (.str z), some (.ref L), some (.int (a' : Int)), u'] ∧ a' ≤ z.length ∧ upd H2 L (.lst (ps.map (·.1) ++ [p.1])) L = some (.lst (ps'.map (·.1))) ∧ (∀ p' ∈ ps', PhI (upd H2 L (.lst (ps.map (·.1) ++ [p.1]))) p') ∧ Runs (zl z) ps' a' ∧ ps'.length + Gn (zl z) a' = Gn (zl z) 0 ∧ ps'.length ≤ a' ∧ Same H (upd H2 L (.lst (ps.map (·.1) ++ [p.1]))) := fun u => by
          refine ⟨a + stepN (zl z) a, ps ++ [p], u, by omega, rfl, sN, by rw [upd_same, List.map_append]; rfl, ?_, hR2, ?_, ?_, sameAt (k1.trans k2) nL⟩
          · intro p' hp'
            have kk : ∀ c o, c ≠ L → H2 c = some o → upd H2 L (.lst (ps.map (·.1) ++ [p.1])) c = some o := fun c o n w => by rw [upd_ne n]; exact w
            rcases List.mem_append.mp hp' with h | h
            · exact ((hps _ h).same k2).keep hL2 kk
            · rw [List.mem_singleton.mp h]
              exact hp.keep hL2 kk
          · rw [Gn_at (by rw [← zlen]; exact l1)] at hG
            rw [List.length_append]
            show ps.length + 1 + _ = _
            omega
          · rw [List.length_append]
            show ps.length + 1 ≤ _
            omega
        refine ⟨.ref L, rfl, .inl ⟨rfl, _, sq_of hL2⟩, p.1, rfl, L, _, _, rfl, rfl, hL2, by rw [List.length_map, sizeLine_eq]; omega, ?_⟩
        have kk : ∀ c o, c ≠ L → H2 c = some o → upd H2 L (.lst (ps.map (·.1) ++ [p.1])) c = some o := fun c o n w => by rw [upd_ne n]; exact w
        rcases hsz with ⟨s, es, em⟩ | ⟨r, b, es, hr, em⟩
        · have fin2 := fin (some p.1)
          have e2 : stepN (zl z) a = 1 := em
          rw [e2] at fin2
          rw [es] at fin2 ⊢
          exact ⟨_, rfl, .str s, rfl, .str s, .ty "str", .type (Kn.name .str), .type "str", kitB .str .str, rfl, .ty _, Kd.tyx (.str s), kit_kn .str .str, _, rfl, iteT ⟨_, _, rfl, rfl, fin2⟩⟩
        · have fin2 := fin (some p.1)
          have e2 : stepN (zl z) a = Lz (zl z) a := em
          rw [e2] at fin2
          rw [es] at fin2 kk ⊢
          have hr2 := kk _ _ (fun w => by rw [w, hL2] at hr; cases hr) hr
          exact ⟨_, rfl, .ref r, rfl, .ref r, .ty "str", .type (Kn.name .tup), .type "str", kitB .tup .str, rfl, .ty _, Kd.tyx (.tup hr2), kit_kn .tup .str, _, rfl, iteF ⟨.ref r, rfl, r, _, 1, .int (Lz (zl z) a : Nat), rfl, rfl, SqT.of hr2, rfl, _, _, rfl, rfl, fin2⟩⟩
    · have l1 : a = z.length := by
        have : ¬ (a : Int) < (z.length : Int) := fun w => e (decide_eq_true w)
        omega
      refine ⟨.ref L, rfl, L, _, rfl, .inl ⟨sq_of hL, fun b nb => ?_⟩⟩
      have kb := Same.new (o := .tup (ps.map (·.1))) nb
      refine q b ps _ upd_same (fun p hp => ((hps p hp).same kb).tg) (l1 ▸ hR) ?_ (k1.trans kb)
      rw [Gn_end (by rw [← zlen]; omega)] at hG
      exact hG
abbrev sPPhrasing : Stmt := topS 18
theorem scPPhrasing : FnScope ["text"] ["text"] (defScope sPPhrasing) := ⟨rfl, rfl, rfl, by decide +kernel, rfl, by decide +kernel, by decide +kernel⟩
theorem ok_PPhrasing {f : Addr} {fd : FuncData} (F : Fun K "phrasing" "phrasing" sPPhrasing f fd) (ENoText : Cls0 P K mg PE "NoText" cN) {fPText : Addr} {fdPText : FuncData} (DPText : Dk P w K mg base "is_text" sPText ["thing"] 2 spTextY fPText fdPText) {fQPhrasing : Addr} {fdQPhrasing : FuncData} (DQPhrasing : Dk P w K mg base "_phrasing" sQPhrasing ["text"] 2 spPhrasing fQPhrasing fdQPhrasing) (T : Glob mg) : FnOk P w K mg base (L2.CX P w) 3 f fd ["text"] spPPhrasing := by
  obtain ⟨fN, SNoText⟩ := ENoText.sup
  refine F.okX scPPhrasing (fun vs H Q E h => ?_) (fun cdv A outer s H vs Q E hr h => ?_)
  · obtain ⟨z, rfl, _⟩ := h
    rfl
  · refine ⟨_, (pss_cons (ps_if (pt_not (pt_val (pe_call DPText.ok (hr.mono (by decide)) (by rfl) DPText.g DPText.F.kp DPText.b .nil pass0 (pa_cons (pv 0) pa_nil))))
      (pss_one (ps_raise rfl (takes_of rfl rfl rfl rfl) (pmk_exc0 SNoText hr (by rfl) ENoText.g)))
      pss_nil)
      (pss_one (ps_ret (pe_call DQPhrasing.ok (hr.mono (by decide)) (by rfl) DQPhrasing.g DQPhrasing.F.kp DQPhrasing.b .nil pass0 (pa_cons (pv 0) pa_nil))))), ?_⟩
    obtain ⟨z, rfl, hz, q⟩ := h
    refine ⟨.str z, rfl, z, rfl, hz.sg, hz.few, _, rfl, iteF ?_⟩
    exact ⟨.str z, rfl, z, rfl, hz.few, fun a ps H' h1 h2 h3 h4 k => q a ps H' h1 h2 h3 h4 k⟩
abbrev sPFewest : Stmt := topS 20
theorem scPFewest : FnScope ["text"] ["text"] (defScope sPFewest) := ⟨rfl, rfl, rfl, by decide +kernel, rfl, by decide +kernel, by decide +kernel⟩
theorem ok_PFewest {f : Addr} {fd : FuncData} (F : Fun K "fewest_phrases" "fewest_phrases" sPFewest f fd) (ENoText : Cls0 P K mg PE "NoText" cN) {fPText : Addr} {fdPText : FuncData} (DPText : Dk P w K mg base "is_text" sPText ["thing"] 2 spTextY fPText fdPText) {fQPhrasing : Addr} {fdQPhrasing : FuncData} (DQPhrasing : Dk P w K mg base "_phrasing" sQPhrasing ["text"] 2 spPhrasing fQPhrasing fdQPhrasing) (T : Glob mg) : FnOk P w K mg base (L2.CX P w) 3 f fd ["text"] spPFewest := by
  obtain ⟨fN, SNoText⟩ := ENoText.sup
  refine F.okX scPFewest (fun vs H Q E h => ?_) (fun cdv A outer s H vs Q E hr h => ?_)
  · obtain ⟨z, rfl, _⟩ := h
    rfl
  · refine ⟨_, (pss_cons (ps_if (pt_not (pt_val (pe_call DPText.ok (hr.mono (by decide)) (by rfl) DPText.g DPText.F.kp DPText.b .nil pass0 (pa_cons (pv 0) pa_nil))))
      (pss_one (ps_raise rfl (takes_of rfl rfl rfl rfl) (pmk_exc0 SNoText hr (by rfl) ENoText.g)))
      pss_nil)
      (pss_one (ps_ret (pe_callB call_len_seq (by rfl) T.len PySem.boot_len (pa_cons (pe_call DQPhrasing.ok (hr.mono (by decide)) (by rfl) DQPhrasing.g DQPhrasing.F.kp DQPhrasing.b .nil pass0 (pa_cons (pv 0) pa_nil)) pa_nil))))), ?_⟩
    obtain ⟨z, rfl, hz, q⟩ := h
    refine ⟨.str z, rfl, z, rfl, hz.sg, hz.few, _, rfl, iteF ?_⟩
    refine ⟨.str z, rfl, z, rfl, hz.few, fun a ps H' h1 h2 h3 h4 k => ⟨a, _, rfl, .inr (SqT.of h1), ?_⟩⟩
    rw [List.length_map, h4]
    exact q H' k
abbrev sPIsPhrasing : Stmt := topS 19
theorem scPIsPhrasing : FnScope ["text", "thing"] ["text", "thing"] (defScope sPIsPhrasing) := ⟨rfl, rfl, rfl, by decide +kernel, rfl, by decide +kernel, by decide +kernel⟩
def spPIsPhrasing : Sp := fun vs H Q _ => ∃ (z : Str) (x : V) (r : Option (List Thing)), vs = [.str z, x] ∧ Okz z ∧ Th H x r ∧ ∀ H', Same H H' → Q (.bl (decide (toldR r = .inr z))) H'
theorem toldR_okz {r : Option (List Thing)} {z : Str} (h : toldR r = .inr z) (hz : Okz z) : Okz z := hz
theorem ok_PIsPhrasing {f fS : Addr} {fd fdS : FuncData} (F : Fun K "is_phrasing" "is_phrasing" sPIsPhrasing f fd) (ENoText : Cls0 P K mg PE "NoText" cN) (EE : Cls1 K mg PE "NoPhrases" "index" cE)
    (FS : Fun K "told_by" "told_by" sPTold fS fdS) (bS : Binds K fdS ["phrases"] []) (gS : mg "told_by" = some (.ref fS)) (GS : FnOk P w K mg base (L2.CX P w) 4 fS fdS ["phrases"] (spPTold cE))
    {fPText : Addr} {fdPText : FuncData} (DPText : Dk P w K mg base "is_text" sPText ["thing"] 2 spTextY fPText fdPText) (T : Glob mg) :
    FnOk P w K mg base (L2.CX P w) 5 f fd ["text", "thing"] spPIsPhrasing := by
  obtain ⟨fN, SNoText⟩ := ENoText.sup
  refine F.okX scPIsPhrasing (fun vs H Q E h => ?_) (fun cdv A outer s H vs Q E hr h => ?_)
  · obtain ⟨z, x, r, rfl, _⟩ := h
    rfl
  · refine ⟨_, (pss_cons (ps_if (pt_not (pt_val (pe_call DPText.ok (hr.mono (by decide)) (by rfl) DPText.g DPText.F.kp DPText.b .nil pass0 (pa_cons (pv 0) pa_nil))))
      (pss_one (ps_raise rfl (takes_of rfl rfl rfl rfl) (pmk_exc0 SNoText hr (by rfl) ENoText.g)))
      pss_nil)
      (pss_one (ps_try_many (Wout := fun _ _ _ _ => False) rfl rfl takes0 (fun W pn xe tk _ => pss_one (ps_ret (pe_cmpR op_eq (pe_callS (E := fun σ => WE W σ) GS hr rfl gS FS.kp bS (fun σ => passAt tk σ) (pa_cons (pv 1) pa_nil)) (pv 0) (nomark _)))) (HdsOk.cons ⟨rfl, by decide, .inl EE.g⟩ (fun a oe cls d pn hz hf => pss_one (ps_ret pe_bl)) HdsOk.nil)))), ?_⟩
    obtain ⟨z, x, r, rfl, hz, ht, q⟩ := h
    refine ⟨.str z, rfl, z, rfl, hz.sg, hz.few, _, rfl, iteF ?_⟩
    dsimp only [tNext, tDrop]
    refine ⟨x, rfl, x, r, rfl, ht, fun y H1 e hy k1 => ?_, fun i d H1 e k1 nd => ?_⟩
    · refine ⟨.str z, rfl, rfl, ?_⟩
      rw [dec_str]
      have q2 := q H1 k1
      have : decide (toldR r = .inr z) = decide (y = z) := by
        rw [e]
        by_cases c : y = z
        · rw [c, decide_eq_true rfl, decide_eq_true rfl]
        · rw [decide_eq_false c, decide_eq_false (fun w => c (Sum.inr.inj w))]
      rw [this] at q2
      exact q2
    · refine ⟨true, (exm_at EE.er EE.er EE.ne).trans (congrArg some (decide_eq_true rfl)), (fun _ a na => ?_), fun z => Bool.noConfusion z⟩
      have q2 := q _ (k1.trans (Same.new (o := .xd [("index", .int i)]) nd))
      have : decide (toldR r = .inr z) = false := decide_eq_false (fun w => by rw [e] at w; cases w)
      rw [this] at q2
      exact q2
end
end LawK
set_option maxHeartbeats 4000000
namespace LawK
open PySem PySem.Spec PyProof.Rows L2 Ev

theorem S1_inj {c d : Nat} (h : SX.S [c] = SX.S [d]) : c = d := by
  have := congrArg zl h
  have e : [c] = [d] := this
  exact (List.cons.inj e).1
instance {t : List Nat} {b a m : Nat} : Decidable (Eqs t b a m) := by
  unfold Eqs
  infer_instance
def spLongestL : Sp := fun vs H Q _ => ∃ (z : Str) (a : Nat), vs = [.str z, .int (a : Int)] ∧ a ≤ z.length ∧ z.length ≤ 2000 ∧ Q (.int (Lz (zl z) a : Nat)) H
def spFewestL : Sp := fun vs H Q _ => ∃ (z : Str), vs = [.str z] ∧ z.length ≤ 2000 ∧ ∀ H', Same H H' → Q (.int (Gn (zl z) 0 : Nat)) H'
section
variable {P : Program} {w : World} {K : PySem.W.Frag} {mg : Str → Option Value} {base : Heap}
abbrev sLongest : Stmt := topS 30
theorem scLongest : FnScope ["text", "at", "found", "begin", "many"] ["text", "at"] (defScope sLongest) := ⟨rfl, rfl, rfl, by decide +kernel, rfl, by decide +kernel, by decide +kernel⟩
theorem ok_Longest {f : Addr} {fd : FuncData} (F : Fun K "_law_longest" "_law_longest" sLongest f fd)   (T : Glob mg) : FnOk P w K mg base CX0 1 f fd ["text", "at"] spLongestL := by
  refine F.ok scLongest (fun vs H Q E h => ?_) (fun cdv A outer s H vs Q E hr h => ?_)
  · obtain ⟨z, a, rfl, _⟩ := h
    rfl
  · refine ⟨_, (pss_cons (ps_set (i := 2) scLongest.nd rfl (.inl rfl) pe_int)
      (pss_cons (ps_for PassesOwn.never rfl (pi_range1 (by rfl) T.range (pa_cons (pv 1) pa_nil)) (pg_name (i := 3) scLongest.nd rfl (.inl rfl))
      (pss_cons (ps_set (i := 4) scLongest.nd rfl (.inl rfl) pe_int)
        (pss_cons (ps_while PassesOwn.never (PW.pt (pw_and (pt_cmpR op_lt (pe_op op_add (pv 1) (pv 4)) (pe_callB call_lenZ (by rfl) T.len PySem.boot_len (pa_cons (pv 0) pa_nil)) (nomark _)) (pw_and1 (pt_cmpR op_eq (pe_ix ix_str (pv 0) (pe_op op_add (pv 3) (pv 4)) (fun _ _ => rfl)) (pe_ix ix_str (pv 0) (pe_op op_add (pv 1) (pv 4)) (fun _ _ => rfl)) (nomark _)))))
        (pss_one (ps_set (i := 4) scLongest.nd rfl (.inl rfl) (pe_op op_add (pv 4) pe_int))))
        (pss_one (ps_set (i := 2) scLongest.nd rfl (.inl rfl) (pe_callB (call_max2 rfl) (by rfl) T.max (by decide +kernel) (pa_cons (pv 2) (pa_cons (pv 4) pa_nil))))))))
      (pss_one (ps_ret (pv 2))))), ?_⟩
    obtain ⟨z, a, rfl, la, few, q⟩ := h
    have lz : z.length ≤ sizeLine := len5 (by omega)
    refine ⟨.int (a : Int), rfl, (a : Int), rfl, by omega, by omega, for_range (fun i σ H' => ∃ (u1 u2 : Option V), σ = [some (.str z), some (.int (a : Int)), some (.int (Lm (zl z) a i : Nat)), u1, u2] ∧ H' = H) ⟨none, none, rfl, rfl⟩ ?_ ?_⟩
    · rintro b σ H1 hb ⟨u1, u2, rfl, rfl⟩
      have hb2 : b < a := by omega
      have z0 : (0 : Int) + (b : Int) = (b : Int) := Int.zero_add _
      rw [z0]
      have ala : a ≤ (zl z).length := by rw [← zlen]; exact la
      refine ⟨fun m σ H' => ∃ (n : Nat), σ = [some (.str z), some (.int (a : Int)), some (.int (Lm (zl z) a b : Nat)), some (.int (b : Int)), some (.int (n : Int))] ∧ m = z.length - n ∧ Eqs (zl z) b a n ∧ H' = H1, ⟨_, 0, rfl, rfl, ⟨ala, fun i hi => by omega⟩, rfl⟩, ?_⟩
      rintro m σ H2 ⟨n, rfl, rfl, hE, rfl⟩
      have fin : ¬ Eqs (zl z) b a (n + 1) → ∃ (u1 u2 : Option V), [some (.str z), some (.int (a : Int)), some (.int (if (n : Int) > ((Lm (zl z) a b : Nat) : Int) then (n : Int) else ((Lm (zl z) a b : Nat) : Int))), some (.int (b : Int)), some (.int (n : Int))] = [some (.str z), some (.int (a : Int)), some (.int (Lm (zl z) a (b + 1) : Nat)), u1, u2] ∧ H2 = H2 := fun no => by
        refine ⟨some (.int (b : Int)), some (.int (n : Int)), ?_, rfl⟩
        have e1 : n = lcp ((zl z).drop b) ((zl z).drop a) := by
          have h1 := (eqs_lcp ala).mp hE
          rcases Nat.lt_or_ge n (lcp ((zl z).drop b) ((zl z).drop a)) with c | c
          · exact absurd ((eqs_lcp ala).mpr c) no
          · omega
        have e2 : (if (n : Int) > ((Lm (zl z) a b : Nat) : Int) then (n : Int) else ((Lm (zl z) a b : Nat) : Int)) = ((Lm (zl z) a (b + 1) : Nat) : Int) := by
          show _ = ((max (Lm (zl z) a b) (lcp ((zl z).drop b) ((zl z).drop a)) : Nat) : Int)
          rw [← e1]
          split <;> omega
        rw [e2]
      refine (?_ : ∀ Q : Bool → Hp → Prop, Q (decide (Eqs (zl z) b a (n + 1))) H2 → tAnd _ _ _ H2 Q) _ ?_
      · intro Q0 k0
        refine ⟨.int (a : Int), rfl, .int (n : Int), rfl, _, _, rfl, rfl, .str z, rfl, z, rfl, lz, _, _, rfl, rfl, _, rfl, ite2 (fun e => ?_) (fun e => ?_)⟩
        · have l1 : a + n < z.length := by have := of_decide_eq_true e; omega
          obtain ⟨c, hc, ec⟩ := sign_at (z := z) (a := a + n) l1
          obtain ⟨d, hd, ed⟩ := sign_at (z := z) (a := b + n) (by omega)
          have ea : (a : Int) + (n : Int) = ((a + n : Nat) : Int) := by omega
          have eb : (b : Int) + (n : Int) = ((b + n : Nat) : Int) := by omega
          refine ⟨.str z, rfl, .int (b : Int), rfl, .int (n : Int), rfl, _, _, rfl, rfl, z, _, d, rfl, rfl, lz, by rw [eb]; exact ed, .str z, rfl, .int (a : Int), rfl, .int (n : Int), rfl, _, _, rfl, rfl, z, _, c, rfl, rfl, lz, by rw [ea]; exact ec, rfl, _, rfl, ?_⟩
          have : decide (V.str (SX.S [d]) = V.str (SX.S [c])) = decide (Eqs (zl z) b a (n + 1)) := by
            rw [dec_str]
            by_cases g : d = c
            · rw [g, decide_eq_true rfl]
              refine (decide_eq_true ⟨by rw [← zlen]; omega, fun i hi => ?_⟩).symm
              by_cases hn : i = n
              · rw [hn, hc, hd, g]
              · exact hE.2 i (by omega)
            · rw [decide_eq_false (fun w => g (S1_inj w))]
              refine (decide_eq_false fun w => g ?_).symm
              have := w.2 n (by omega)
              rw [hc, hd] at this
              exact Option.some.inj this
          rw [this]
          exact k0
        · have : decide (Eqs (zl z) b a (n + 1)) = false := decide_eq_false (fun w => e (decide_eq_true (by have := w.1; rw [← zlen] at this; omega)))
          rw [this] at k0
          exact k0
      · refine ite2 (fun e => ?_) (fun e => ?_)
        · have hE2 := of_decide_eq_true e
          have l2 := hE2.1
          rw [← zlen] at l2
          refine ⟨fun σ' H' => ∃ (n' : Nat), n' = n + 1 ∧ σ' = [some (.str z), some (.int (a : Int)), some (.int (Lm (zl z) a b : Nat)), some (.int (b : Int)), some (.int (n' : Int))] ∧ Eqs (zl z) b a n' ∧ H' = H2, ?_, ?_⟩
          · rintro σ' H' ⟨n', rfl, rfl, h1, rfl⟩
            exact ⟨_, by omega, n + 1, rfl, rfl, h1, rfl⟩
          · exact ⟨.int (n : Int), rfl, _, _, rfl, rfl, n + 1, rfl, rfl, hE2, rfl⟩
        · refine ⟨_, rfl, .int (n : Int), rfl, _, _, rfl, ?_⟩
          exact fin (fun w => e (decide_eq_true w))
    · rintro σ H1 ⟨u1, u2, rfl, rfl⟩
      exact ⟨_, rfl, q⟩
abbrev sFewest : Stmt := topS 31
theorem scFewest : FnScope ["text", "best", "at", "many"] ["text"] (defScope sFewest) := ⟨rfl, rfl, rfl, by decide +kernel, rfl, by decide +kernel, by decide +kernel⟩
theorem ok_Fewest {f : Addr} {fd : FuncData} (F : Fun K "_law_fewest" "_law_fewest" sFewest f fd)  {fLongest : Addr} {fdLongest : FuncData} (DLongest : Dk P w K mg base "_law_longest" sLongest ["text", "at"] 1 spLongestL fLongest fdLongest) (T : Glob mg) : FnOk P w K mg base CX0 2 f fd ["text"] spFewestL := by
  refine F.ok scFewest (fun vs H Q E h => ?_) (fun cdv A outer s H vs Q E hr h => ?_)
  · obtain ⟨z, rfl, _⟩ := h
    rfl
  · refine ⟨_, (pss_cons (ps_set (i := 1) scFewest.nd rfl (.inl rfl) (pe_lst (pa_cons pe_int pa_nil)))
      (pss_cons (ps_for PassesOwn.never rfl (pi_range3 (by rfl) T.range (pa_cons (pe_op op_sub (pe_callB call_lenZ (by rfl) T.len PySem.boot_len (pa_cons (pv 0) pa_nil)) pe_int) (pa_cons (pe_un un_neg pe_int) (pa_cons (pe_un un_neg pe_int) pa_nil)))) (pg_name (i := 2) scFewest.nd rfl (.inl rfl))
      (pss_cons (ps_set (i := 3) scFewest.nd rfl (.inl rfl) (pe_callB (call_max2 rfl) (by rfl) T.max (by decide +kernel) (pa_cons pe_int (pa_cons (pe_call DLongest.ok (hr.mono (by decide)) (by rfl) DLongest.g DLongest.F.kp DLongest.b .nil pass0 (pa_cons (pv 0) (pa_cons (pv 2) pa_nil))) pa_nil))))
        (pss_one (ps_set (i := 1) scFewest.nd rfl (.inl rfl) (pe_op op_cat (pe_lst (pa_cons (pe_op op_add pe_int (pe_callB (cr_min rfl) (by rfl) T.min (by decide +kernel) (pa_cons (pe_slice sl_list (pv 1) po_none (po_some (pv 3))) pa_nil))) pa_nil)) (pv 1))))))
      (pss_one (ps_ret (pe_ix ix_list (pv 1) pe_int (fun _ _ => rfl)))))), ?_⟩
    obtain ⟨z, rfl, few, q⟩ := h
    have lz : z.length ≤ sizeLine := len5 (by omega)
    refine ⟨by show 1 ≤ sizeLine; decide, fun L0 nL0 => ?_⟩
    refine ⟨.str z, rfl, z, rfl, lz, _, _, rfl, rfl, 1, rfl, 1, rfl, _, _, _, z.length, rfl, ?_, ?_⟩
    · have := RgC.neg (i := (z.length : Int) - 1) (j := -1) (by omega) (by omega) (by omega) (by omega)
      have e : ((z.length : Int) - 1 - (-1)).toNat = z.length := by omega
      rw [e] at this
      exact this
    refine for_rangeC (fun i σ H' => ∃ (L : Addr) (u1 u2 : Option V), σ = [some (.str z), some (.ref L), u1, u2] ∧ H' L = some (.lst ((bestL (zl z) (z.length - i)).map V.int)) ∧ Same H H') ⟨L0, none, none, rfl, ?_, Same.new nL0⟩ ?_ ?_
    · rw [Nat.sub_zero, zlen, bestL_end]
      exact upd_same
    · rintro i σ H1 hi ⟨L, u1, u2, rfl, hL, k1⟩
      have ea : ((z.length : Int) - 1 + ((i : Nat) : Int) * (-1)) = ((z.length - (i + 1) : Nat) : Int) := by omega
      rw [ea]
      have e1 : z.length - i = z.length - (i + 1) + 1 := by omega
      rw [e1] at hL
      have la : z.length - (i + 1) < z.length := by omega
      revert hL la
      generalize z.length - (i + 1) = a
      intro hL la
      have la2 : a < (zl z).length := by rw [← zlen]; exact la
      have sN := stepN_le la2
      rw [← zlen] at sN
      have s1 : 1 ≤ stepN (zl z) a := Nat.le_max_left _ _
      refine ⟨.str z, rfl, .int (a : Int), rfl, z, a, rfl, by omega, few, _, _, rfl, ?_⟩
      have em : (if ((Lz (zl z) a : Nat) : Int) > 1 then ((Lz (zl z) a : Nat) : Int) else 1) = ((stepN (zl z) a : Nat) : Int) := by
        unfold stepN
        split <;> omega
      rw [em]
      refine ⟨.ref L, rfl, .int (stepN (zl z) a : Nat), rfl, _, rfl, L, _, rfl, sq_of hL, fun C nC => ?_⟩
      have ec : cutV ((bestL (zl z) (a + 1)).map V.int) none (some ((stepN (zl z) a : Nat) : Int)) = ((bestL (zl z) (a + 1)).take (stepN (zl z) a)).map V.int := by
        rw [cutV_to (by omega), List.map_take, Int.toNat_natCast]
      rw [ec]
      have kC := Same.new (o := .lst (((bestL (zl z) (a + 1)).take (stepN (zl z) a)).map V.int)) nC
      have lb : (bestL (zl z) (a + 1)).length = z.length - a := by
        unfold bestL
        rw [List.length_map, List.length_range, ← zlen]
        omega
      refine ⟨C, _, rfl, sq_of upd_same, by rw [List.length_take, lb]; omega, fun m hm hle => ?_⟩
      have hmin := bestL_min la2 hm hle
      refine ⟨_, _, rfl, rfl, by show 1 ≤ sizeLine; decide, fun B nB => ?_⟩
      dsimp only at nB ⊢
      have kB := Same.new (o := .lst [.int (1 + m)]) nB
      refine ⟨.ref L, rfl, B, L, _, _, rfl, rfl, upd_same, (kC.trans kB) _ _ hL, ?_, fun R nR => ?_⟩
      · rw [List.length_map, lb]
        show _ ≤ 16777216
        show 1 + (z.length - a) ≤ 16777216
        omega
      · refine ⟨R, _, _, rfl, ?_, ((k1.trans kC).trans kB).trans (Same.new nR)⟩
        rw [upd_same, bestL_cons la2, hmin]
        rfl
    · rintro σ H1 ⟨L, u1, u2, rfl, hL, k1⟩
      rw [Nat.sub_self] at hL
      refine ⟨.ref L, rfl, L, _, 0, .int (Gn (zl z) 0 : Nat), rfl, rfl, sq_of hL, ?_, q H1 k1⟩
      rcases Nat.eq_zero_or_pos (zl z).length with c | c
      · have : bestL (zl z) 0 = [0] := by
          have e := bestL_end (t := zl z)
          rw [c] at e
          exact e
        rw [this, Gn_end (by omega)]
        rfl
      · rw [bestL_cons c]
        exact atI_nat (xs := ((Gn (zl z) 0 : Int) :: bestL (zl z) (0 + 1)).map V.int) (j := 0) rfl
end
end LawK
set_option maxHeartbeats 4000000
namespace LawK
open PySem PySem.Spec PyProof.Rows L2 Ev

theorem PhI.but {H H' : Hp} {p l : Addr} {x : Thing} (h : PhI H x) (h0 : HandL H p l) (b : But p H H') : PhI H' x := by
  rcases h with h | ⟨r, a, m, e, hr⟩
  · exact .inl h
  · exact .inr ⟨r, a, m, e, b _ _ (tup_ne h0 hr) hr⟩
def spDrawn : Sp := fun vs H Q _ => ∃ (p : Addr) (z : Str), vs = [.ref p, .str z] ∧ z.length ≤ 2000 ∧ ∃ l, HandL H p l ∧ ∀ (a : Addr) (ps : List Thing) H', H' a = some (.tup (ps.map (·.1))) → (∀ x ∈ ps, PhI H' x) → Runs (zl z) ps z.length → ps.length ≤ z.length → HandL H' p l → But p H H' → Q (.ref a) H'
section
variable {P : Program} {w : World} {K : PySem.W.Frag} {mg : Str → Option Value} {base : Heap}
abbrev sDrawn : Stmt := topS 32
theorem scDrawn : FnScope ["hand", "text", "found", "at", "some", "begin", "many"] ["hand", "text"] (defScope sDrawn) := ⟨rfl, rfl, rfl, by decide +kernel, rfl, by decide +kernel, by decide +kernel⟩
theorem ok_Drawn {f : Addr} {fd : FuncData} (F : Fun K "_law_drawn" "_law_drawn" sDrawn f fd)  {fDraw : Addr} {fdDraw : FuncData} (DDraw : Dk P w K mg base "_law_draw" sDraw ["hand", "many"] 1 spDraw fDraw fdDraw) {fAny : Addr} {fdAny : FuncData} (DAny : Dk P w K mg base "_law_any" sAny ["hand", "some"] 2 (spAny K) fAny fdAny) (T : Glob mg) : FnOk P w K mg base CX0 3 f fd ["hand", "text"] spDrawn := by
  refine F.ok scDrawn (fun vs H Q E h => ?_) (fun cdv A outer s H vs Q E hr h => ?_)
  · obtain ⟨p, z, rfl, _⟩ := h
    rfl
  · refine ⟨_, (pss_cons (ps_asg (pe_tup (pa_cons (pe_lst pa_nil) (pa_cons pe_int pa_nil))) (pg_tup (by rfl) (pgs_cons (pg_name (i := 2) scDrawn.nd rfl (.inl rfl)) (pgs_cons (pg_name (i := 3) scDrawn.nd rfl (.inr rfl)) pgs_nil))))
      (pss_cons (ps_while PassesOwn.never (pt_cmpR op_lt (pv 3) (pe_callB call_lenZ (by rfl) T.len PySem.boot_len (pa_cons (pv 1) pa_nil)) (nomark _))
      (pss_cons (ps_setLc (i := 4) (own := [("begin", 5)]) (g := gName 5) (by rfl) scDrawn.nd rfl rfl (sw_true rfl rfl rfl (by decide +kernel)) (pi_range1 (by rfl) T.range (pa_cons (pv 3) pa_nil)) (blkOk_by (N := ["hand", "text", "found", "at", "some", "begin", "many"]) (sc := defScope sDrawn) (by decide +kernel)) (fun _ _ _ _ _ => pg_name (i := 5) scDrawn.nd rfl (.inl rfl)) (fun _ _ _ _ _ => (pts_one (pt_cmpR op_eq (pe_ix ix_str (pv 1) (pv 5) (fun _ _ => rfl)) (pe_ix ix_str (pv 1) (pv 3) (fun _ _ => rfl)) (nomark _)))) (fun _ _ _ _ _ => (pv 5)))
        (pss_one (ps_if (PW.pt (pw_or (pt_cmpR op_eq (pe_callB call_len_seq (by rfl) T.len PySem.boot_len (pa_cons (pv 4) pa_nil)) pe_int (nomark _)) (pw_or1 (pt_cmpR op_eq (pe_call DDraw.ok (hr.mono (by decide)) (by rfl) DDraw.g DDraw.F.kp DDraw.b .nil pass0 (pa_cons (pv 0) (pa_cons pe_int pa_nil))) pe_int (nomark _)))))
        (pss_one (ps_asg (pe_tup (pa_cons (pe_op op_cat (pv 2) (pe_lst (pa_cons (pe_ix ix_str (pv 1) (pv 3) (fun _ _ => rfl)) pa_nil))) (pa_cons (pe_op op_add (pv 3) pe_int) pa_nil))) (pg_tup (by rfl) (pgs_cons (pg_name (i := 2) scDrawn.nd rfl (.inl rfl)) (pgs_cons (pg_name (i := 3) scDrawn.nd rfl (.inr rfl)) pgs_nil)))))
        (pss_cons (ps_par (i := 5) (j := 6) (by rfl) scDrawn.nd rfl rfl (by decide) rfl rfl (pa_cons (pe_call DAny.ok (hr.mono (by decide)) (by rfl) DAny.g DAny.F.kp DAny.b .nil pass0 (pa_cons (pv 0) (pa_cons (pv 4) pa_nil))) (pa_cons pe_int pa_nil)) (by rfl))
          (pss_cons (ps_while PassesOwn.never (PW.pt (pw_and (pt_cmpR op_lt (pe_op op_add (pv 3) (pv 6)) (pe_callB call_lenZ (by rfl) T.len PySem.boot_len (pa_cons (pv 1) pa_nil)) (nomark _)) (pw_and (pt_cmpR op_eq (pe_ix ix_str (pv 1) (pe_op op_add (pv 5) (pv 6)) (fun _ _ => rfl)) (pe_ix ix_str (pv 1) (pe_op op_add (pv 3) (pv 6)) (fun _ _ => rfl)) (nomark _)) (pw_and1 (pt_cmpR op_gt (pe_call DDraw.ok (hr.mono (by decide)) (by rfl) DDraw.g DDraw.F.kp DDraw.b .nil pass0 (pa_cons (pv 0) (pa_cons pe_int pa_nil))) pe_int (nomark _))))))
          (pss_one (ps_set (i := 6) scDrawn.nd rfl (.inl rfl) (pe_op op_add (pv 6) pe_int))))
          (pss_one (ps_asg (pe_tup (pa_cons (pe_op op_cat (pv 2) (pe_lst (pa_cons (pe_tup (pa_cons (pv 5) (pa_cons (pv 6) pa_nil))) pa_nil))) (pa_cons (pe_op op_add (pv 3) (pv 6)) pa_nil))) (pg_tup (by rfl) (pgs_cons (pg_name (i := 2) scDrawn.nd rfl (.inl rfl)) (pgs_cons (pg_name (i := 3) scDrawn.nd rfl (.inr rfl)) pgs_nil)))))))))))
      (pss_one (ps_ret (pe_callTy call_tuple_of (by rfl) T.tuple (by decide +kernel) (pa_cons (pv 2) pa_nil)))))), ?_⟩
    obtain ⟨p, z, rfl, few, l, hH, q⟩ := h
    have lz : z.length ≤ sizeLine := len5 (by omega)
    refine ⟨by show 0 ≤ sizeLine; decide, fun L0 nL0 => ⟨by show 2 ≤ sizeLine; decide, fun t0 nt0 => ?_⟩⟩
    have hn0 := (((Hn.refl hH).new (o := .lst []) nL0).new (o := .tup [.ref L0, .int 0]) nt0)
    have hL0 : upd (upd H L0 (.lst [])) t0 (.tup [.ref L0, .int 0]) L0 = some (.lst []) := by rw [upd_ne (fun e => by rw [← e, upd_same] at nt0; cases nt0)]; exact upd_same
    refine ⟨t0, _, rfl, SqT.of upd_same, rfl, _, _, rfl, _, _, rfl, rfl, ?_⟩
    have nL0p := (hH.ne nL0).1
    revert hn0 hL0
    generalize upd (upd H L0 (.lst [])) t0 (.tup [.ref L0, .int 0]) = H0
    intro hn0 hL0
    refine ⟨fun m σ H' => ∃ (a : Nat) (L : Addr) (ps : List Thing) (u4 u5 u6 : Option V), σ = [some (.ref p), some (.str z), some (.ref L), some (.int (a : Int)), u4, u5, u6] ∧ m = z.length - a ∧ a ≤ z.length ∧ L ≠ p ∧ H' L = some (.lst (ps.map (·.1))) ∧ (∀ x ∈ ps, PhI H' x) ∧ Runs (zl z) ps a ∧ ps.length ≤ a ∧ Hn p l H H', ⟨_, 0, L0, [], none, none, none, rfl, rfl, Nat.zero_le _, nL0p, hL0, (fun x hx => absurd hx (by simp)), .nil, Nat.zero_le _, hn0⟩, ?_⟩
    rintro m σ H1 ⟨a, L, ps, u4, u5, u6, rfl, rfl, la, nLp, hL, hps, hR, lp, hn⟩
    refine ⟨.int (a : Int), rfl, .str z, rfl, z, rfl, lz, _, _, rfl, rfl, _, rfl, ite2 (fun e => ?_) (fun e => ?_)⟩
    · have l1 : a < z.length := by have := of_decide_eq_true e; omega
      obtain ⟨c, hc, ec⟩ := sign_at l1
      refine ⟨fun σ' H' => ∃ (a' : Nat) (L : Addr) (ps : List Thing) (u4 u5 u6 : Option V), a < a' ∧ σ' = [some (.ref p), some (.str z), some (.ref L), some (.int (a' : Int)), u4, u5, u6] ∧ a' ≤ z.length ∧ L ≠ p ∧ H' L = some (.lst (ps.map (·.1))) ∧ (∀ x ∈ ps, PhI H' x) ∧ Runs (zl z) ps a' ∧ ps.length ≤ a' ∧ Hn p l H H', ?_, ?_⟩
      · rintro σ' H' ⟨a', L, ps, u4, u5, u6, lt, rfl, r⟩
        exact ⟨z.length - a', by omega, a', L, ps, u4, u5, u6, rfl, rfl, r⟩
      -- a further item
      have fin : ∀ {H2 H3 : Hp} {x : Thing} {n : Nat} {L2 : Addr} (u4 u5 u6 : Option V), Hn p l H H2 → L2 ≠ p → H3 L2 = some (.lst (ps.map (·.1) ++ [x.1])) → (∀ y ∈ ps, PhI H3 y) → PhI H3 x → Runs (zl z) (ps ++ [x]) (a + n) → 0 < n → a + n ≤ z.length → Hn p l H H3 →
          ∃ (a' : Nat) (L : Addr) (ps : List Thing) (w4 w5 w6 : Option V), a < a' ∧ [some (.ref p), some (.str z), some (.ref L2), some (.int ((a : Int) + (n : Int))), u4, u5, u6] = [some (.ref p), some (.str z), some (.ref L), some (.int (a' : Int)), w4, w5, w6] ∧ a' ≤ z.length ∧ L ≠ p ∧ H3 L = some (.lst (ps.map (·.1))) ∧ (∀ x ∈ ps, PhI H3 x) ∧ Runs (zl z) ps a' ∧ ps.length ≤ a' ∧ Hn p l H H3 :=
        fun {H2 H3 x n L2} u4 u5 u6 _ h1 h2 h3 h4 h5 h6 h7 h8 => by
          refine ⟨a + n, L2, ps ++ [x], u4, u5, u6, by omega, rfl, h7, h1, by rw [h2, List.map_append]; rfl, fun y hy => ?_, h5, ?_, h8⟩
          · rcases List.mem_append.mp hy with h | h
            · exact h3 y h
            · rw [List.mem_singleton.mp h]; exact h4
          · rw [List.length_append]
            show ps.length + 1 ≤ a + n
            omega
      refine ⟨.int (a : Int), rfl, (a : Int), rfl, by omega, by omega, fun D nD => lc_range (fun i H' => Same H1 H' ∧ ∃ bs : List Nat, H' D = some (.lst (bs.map fun (b : Nat) => V.int (b : Int))) ∧ bs.length ≤ i ∧ ∀ b ∈ bs, b < i ∧ (zl z)[b]? = (zl z)[a]?) ⟨Same.new nD, [], upd_same, Nat.le_refl _, fun b hb => absurd hb (by simp)⟩ ?_ ?_⟩
      · rintro i H2 hi ⟨k2, bs, hD, lb, hb⟩
        have hi2 : i < a := by omega
        have z0 : (0 : Int) + (i : Int) = (i : Int) := Int.zero_add _
        rw [z0]
        obtain ⟨d, hd, ed⟩ := sign_at (z := z) (a := i) (by omega)
        refine ⟨rfl, .str z, rfl, .int (i : Int), rfl, z, _, d, rfl, rfl, lz, ed, .str z, rfl, .int (a : Int), rfl, z, _, c, rfl, rfl, lz, ec, rfl, _, rfl, ite2 (fun e2 => ?_) (fun e2 => ?_)⟩
        · have ecd : d = c := by
            have := of_decide_eq_true e2
            exact S1_inj (V.str.inj this)
          refine ⟨.int (i : Int), rfl, _, hD, by rw [List.length_map, sizeLine_eq]; omega, sameAt k2 nD, bs ++ [i], by rw [upd_same, List.map_append]; rfl, by rw [List.length_append]; show bs.length + 1 ≤ i + 1; omega, fun b hb2 => ?_⟩
          rcases List.mem_append.mp hb2 with h | h
          · exact ⟨by have := (hb b h).1; omega, (hb b h).2⟩
          · rw [List.mem_singleton.mp h]
            exact ⟨by omega, by rw [hd, hc, ecd]⟩
        · exact ⟨k2, bs, hD, by omega, fun b h => ⟨by have := (hb b h).1; omega, (hb b h).2⟩⟩
      · rintro H2 ⟨k2, bs, hD, lb, hb⟩
        rw [show ((a : Nat) : Int).toNat = a from Int.toNat_natCast _] at lb hb
        have hn2 := hn.same k2
        have hL2 := k2 _ _ hL
        have nDp := (hn.at_.ne nD).1
        dsimp only [gName, tIfS]
        refine (?_ : ∀ Q : Bool → Hp → Prop, (∀ b H3, Hn p l H2 H3 → (b = false → 0 < bs.length) → Q b H3) → tOr _ _ _ H2 Q) _ ?_
        · intro Q0 k0
          refine ⟨.ref D, rfl, D, _, rfl, .inl (sq_of hD), rfl, _, rfl, ite2 (fun e3 => k0 _ _ (Hn.refl hn2.at_) (fun w => Bool.noConfusion w)) (fun e3 => ?_)⟩
          have lb0 : 0 < bs.length := by
            rcases Nat.eq_zero_or_pos bs.length with z0 | z0
            · rw [List.length_map, z0] at e3
              exact absurd rfl e3
            · exact z0
          exact ⟨.ref p, rfl, p, 4, rfl, by decide, by decide, l, hn2.at_, fun v H3 v0 v1 h3 b3 => ⟨rfl, _, rfl, k0 _ _ ⟨h3, b3⟩ (fun _ => lb0)⟩⟩
        · intro b H3 hn23 hb0
          have hn3 := hn2.trans hn23
          have hL3 := hn23.but _ _ nLp hL2
          have hD3 := hn23.but _ _ nDp hD
          have hps3 : ∀ x ∈ ps, PhI H3 x := fun x hx => ((hps x hx).same k2).but hn2.at_ hn23.but
          cases b with
          | true =>
            refine iteT ?_
            refine ⟨.ref L, rfl, .str z, rfl, .int (a : Int), rfl, z, (a : Int), c, rfl, rfl, lz, ec, by show 1 ≤ sizeLine; decide, fun B nB => ?_⟩
            have kB := Same.new (o := .lst [.str (SX.S [c])]) nB
            refine ⟨L, B, _, _, rfl, rfl, kB _ _ hL3, upd_same, ?_, fun R nR => ?_⟩
            · rw [List.length_map]
              show ps.length + 1 ≤ 16777216
              omega
            have kR := Same.new (o := .lst (ps.map (·.1) ++ [.str (SX.S [c])])) nR
            have hR3 : upd (upd H3 B (.lst [.str (SX.S [c])])) R (.lst (ps.map (·.1) ++ [.str (SX.S [c])])) R = some (.lst (ps.map (·.1) ++ [.str (SX.S [c])])) := upd_same
            have nRp := ((hn3.same kB).at_.ne nR).1
            revert kR hR3
            generalize upd (upd H3 B (.lst [.str (SX.S [c])])) R (.lst (ps.map (·.1) ++ [.str (SX.S [c])])) = H4
            intro kR hR3
            refine ⟨.int (a : Int), rfl, _, _, rfl, rfl, by show 2 ≤ sizeLine; decide, fun t1 nt1 => ?_⟩
            have kt := Same.new (o := .tup [.ref R, .int ((a : Int) + 1)]) nt1
            refine ⟨t1, _, rfl, SqT.of upd_same, rfl, _, _, rfl, _, _, rfl, rfl, ?_⟩
            have k34 := (kB.trans kR).trans kt
            exact fin (x := (.str (SX.S [c]), none)) (n := 1) _ _ _ hn3 nRp (kt _ _ hR3) (fun x hx => (hps3 x hx).same k34) (.inl ⟨_, rfl, rfl⟩) (hR.sign hc) (by decide) l1 (hn3.same k34)
          | false =>
            have lb0 := hb0 rfl
            refine iteF ?_
            refine ⟨.ref p, rfl, .ref D, rfl, p, D, _, rfl, sq_of hD3, nDp, by rw [List.length_map]; exact lb0, by rw [List.length_map]; omega, l, hn3.at_, fun x H4 hx h4 b4 => ?_⟩
            obtain ⟨b0, hb1, rfl⟩ := List.mem_map.mp hx
            obtain ⟨lb1, eb1⟩ := hb b0 hb1
            have hn4 := hn3.go h4 b4
            have hL4 := b4 _ _ nLp hL3
            have hps4 : ∀ x ∈ ps, PhI H4 x := fun x hx => (hps3 x hx).but hn3.at_ b4
            refine ⟨_, _, rfl, ?_⟩
            refine ⟨fun m σ H' => ∃ (n : Nat), σ = [some (.ref p), some (.str z), some (.ref L), some (.int (a : Int)), some (.ref D), some (.int (b0 : Int)), some (.int (n : Int))] ∧ m = z.length - n ∧ 0 < n ∧ Eqs (zl z) b0 a n ∧ HandL H' p l ∧ But p H4 H', ⟨_, 1, rfl, rfl, by decide, ⟨by rw [← zlen]; omega, fun i hi => ?_⟩, h4, But.refl _ _⟩, ?_⟩
            · have : i = 0 := by omega
              rw [this]
              exact eb1
            rintro m σ H5 ⟨n, rfl, rfl, n0, hE, h5, b5⟩
            have hn5 := hn4.go h5 b5
            have lE := hE.1
            rw [← zlen] at lE
            refine (?_ : ∀ Q : Bool → Hp → Prop, (∀ b H6, HandL H6 p l → But p H5 H6 → (b = true → Eqs (zl z) b0 a (n + 1)) → Q b H6) → tAnd _ _ _ H5 Q) _ ?_
            · intro Q0 k0
              refine ⟨.int (a : Int), rfl, .int (n : Int), rfl, _, _, rfl, rfl, .str z, rfl, z, rfl, lz, _, _, rfl, rfl, _, rfl, ite2 (fun e5 => ?_) (fun e5 => k0 _ _ h5 (But.refl _ _) (fun w => Bool.noConfusion w))⟩
              have l5 : a + n < z.length := by have := of_decide_eq_true e5; omega
              obtain ⟨c1, hc1, ec1⟩ := sign_at (z := z) (a := a + n) l5
              obtain ⟨d1, hd1, ed1⟩ := sign_at (z := z) (a := b0 + n) (by omega)
              have ea : (a : Int) + (n : Int) = ((a + n : Nat) : Int) := by omega
              have eb : (b0 : Int) + (n : Int) = ((b0 + n : Nat) : Int) := by omega
              refine ⟨.str z, rfl, .int (b0 : Int), rfl, .int (n : Int), rfl, _, _, rfl, rfl, z, _, d1, rfl, rfl, lz, by rw [eb]; exact ed1, .str z, rfl, .int (a : Int), rfl, .int (n : Int), rfl, _, _, rfl, rfl, z, _, c1, rfl, rfl, lz, by rw [ea]; exact ec1, rfl, _, rfl, ite2 (fun e6 => ?_) (fun e6 => k0 _ _ h5 (But.refl _ _) (fun w => Bool.noConfusion w))⟩
              have ecd : d1 = c1 := S1_inj (V.str.inj (of_decide_eq_true e6))
              have hE2 : Eqs (zl z) b0 a (n + 1) := ⟨by rw [← zlen]; omega, fun i hi => by
                by_cases hin : i = n
                · rw [hin, hc1, hd1, ecd]
                · exact hE.2 i (by omega)⟩
              exact ⟨.ref p, rfl, p, 6, rfl, by decide, by decide, l, h5, fun v H6 v0 v1 h6 b6 => ⟨_, _, rfl, rfl, _, rfl, k0 _ _ h6 b6 (fun _ => hE2)⟩⟩
            · intro b H6 h6 b6 hb6
              cases b with
              | true =>
                refine iteT ⟨fun σ' H' => ∃ (n' : Nat), n' = n + 1 ∧ σ' = [some (.ref p), some (.str z), some (.ref L), some (.int (a : Int)), some (.ref D), some (.int (b0 : Int)), some (.int (n' : Int))] ∧ Eqs (zl z) b0 a n' ∧ HandL H' p l ∧ But p H4 H', ?_, ?_⟩
                · rintro σ' H' ⟨n', rfl, rfl, h1, h2, h3⟩
                  have := h1.1
                  rw [← zlen] at this
                  exact ⟨_, by omega, n + 1, rfl, rfl, by omega, h1, h2, h3⟩
                · exact ⟨.int (n : Int), rfl, _, _, rfl, rfl, n + 1, rfl, rfl, hb6 rfl, h6, b5.trans b6⟩
              | false =>
                refine iteF ?_
                have hn6 := hn5.go h6 b6
                have b46 := b5.trans b6
                have hL6 := b46 _ _ nLp hL4
                have hps6 : ∀ x ∈ ps, PhI H6 x := fun x hx => (hps4 x hx).but hn4.at_ b46
                refine ⟨.ref L, rfl, .int (b0 : Int), rfl, .int (n : Int), rfl, by show 2 ≤ sizeLine; decide, fun r nr => ⟨by show 1 ≤ sizeLine; decide, fun B nB => ?_⟩⟩
                have kr := Same.new (o := .tup [.int (b0 : Int), .int (n : Int)]) nr
                have hr1 : upd H6 r (.tup [.int (b0 : Int), .int (n : Int)]) r = some (.tup [.int (b0 : Int), .int (n : Int)]) := upd_same
                have kB := Same.new (o := .lst [.ref r]) nB
                refine ⟨L, B, _, _, rfl, rfl, (kr.trans kB) _ _ hL6, upd_same, ?_, fun R nR => ?_⟩
                · rw [List.length_map]
                  show ps.length + 1 ≤ 16777216
                  omega
                have kR := Same.new (o := .lst (ps.map (·.1) ++ [.ref r])) nR
                have hR3 : upd (upd (upd H6 r (.tup [.int (b0 : Int), .int (n : Int)])) B (.lst [.ref r])) R (.lst (ps.map (·.1) ++ [.ref r])) R = some (.lst (ps.map (·.1) ++ [.ref r])) := upd_same
                have nRp := ((hn6.same (kr.trans kB)).at_.ne nR).1
                have k6 := (kr.trans kB).trans kR
                have hr7 := (kB.trans kR) _ _ hr1
                revert k6 hR3 hr7
                generalize upd (upd (upd H6 r (.tup [.int (b0 : Int), .int (n : Int)])) B (.lst [.ref r])) R (.lst (ps.map (·.1) ++ [.ref r])) = H7
                intro hR3 k6 hr7
                refine ⟨.int (a : Int), rfl, .int (n : Int), rfl, _, _, rfl, rfl, by show 2 ≤ sizeLine; decide, fun t1 nt1 => ?_⟩
                have kt := Same.new (o := .tup [.ref R, .int ((a : Int) + (n : Int))]) nt1
                refine ⟨t1, _, rfl, SqT.of upd_same, rfl, _, _, rfl, _, _, rfl, rfl, ?_⟩
                have k68 := k6.trans kt
                exact fin (x := (.ref r, some [.int (b0 : Int), .int (n : Int)])) (n := n) _ _ _ hn6 nRp (kt _ _ hR3) (fun x hx => (hps6 x hx).same k68) (.inr ⟨r, _, _, rfl, kt _ _ hr7⟩) (hR.rep lb1 n0 hE) n0 lE (hn6.same k68)
    · have l1 : a = z.length := by
        have : ¬ (a : Int) < (z.length : Int) := fun w => e (decide_eq_true w)
        omega
      refine ⟨.ref L, rfl, L, _, rfl, .inl ⟨sq_of hL, fun b nb => ?_⟩⟩
      have kb := Same.new (o := .tup (ps.map (·.1))) nb
      exact q b ps _ upd_same (fun x hx => (hps x hx).same kb) (l1 ▸ hR) (by omega) (hn.same kb).at_ (hn.same kb).but
end
end LawK
set_option maxHeartbeats 4000000
/-! isinstance(e, C), e an error with a field that the handler holds. -/
namespace LawK
open PySem PySem.Spec PyProof.Rows L2 Ev
def rIsEd (K : PySem.W.Frag) (D a : Addr) (cls : Value) (d : Option Addr) : List V → Hp → VK → Prop := fun xs H Q => ∃ (c : V) (cv : Value) (b : Bool) (dd : Addr) (fs : List (Str × V)), xs = [.ref a, c] ∧ cls = .ref D ∧ d = some dd ∧ H dd = some (.xd fs) ∧ ClsV c cv ∧ PySem.W.kitOne K (.ref D) cv = some b ∧ Q (.bl b) H
theorem call_isEd {X : Cx} {a D : Addr} {oe : Obj} {cls : Value} {d : Option Addr} {pn : List (Addr × Obj)} (T : ExcC X.K D) (hz : Zc cls d oe) (hf : ∃ vs, oe.data = .fields vs) : CallR (X.suite a ((a, oe) :: pn)) (.builtin "isinstance") (rIsEd X.K D a cls d) := by
  intro pins s σ H xs us Q I r h
  obtain ⟨c, cv, b, dd, fs, rfl, ec, ed, ea, k, e, q⟩ := h
  obtain ⟨u1, u2, rfl, r1, r2⟩ := vals2 r
  have e2 := k.eq r2
  subst e2
  obtain rfl : u1 = Value.ref a := r1
  subst ec
  subst ed
  obtain ⟨hget, _⟩ := I.pin (a, oe) (List.mem_append_left _ List.mem_cons_self)
  obtain ⟨vs, hd⟩ := hf
  have hx : ObjOk X.prog X.w H s.heap dd (.xd fs) := I.hok dd _ ea
  obtain ⟨mA, hns, hr⟩ := hx
  obtain ⟨od, ho, hl⟩ := lookIn_ns hns
  have J : PySem.W.InstAt s.heap a oe D (some od) := by
    obtain ⟨oc, od2, oda, osl⟩ := oe
    obtain ⟨h1, h2⟩ := hz
    dsimp only at h1 h2 hd
    subst h1 h2 hd
    exact ⟨hget, rfl, rfl, ho⟩
  have hcl : (PySem.W.clsIn X.K D).isSome = true := by
    obtain ⟨cd, hc, _⟩ := PySem.W.any_some T.hd
    rw [hc]
    rfl
  exact PySem.W.kia_one (PySem.W.kitx_exc hcl T.hg T.hk T.hs T.ha T.hn T.ht T.hm) I.kIn J e (fun z => nomatch z) fun tk => ⟨.bl b, H, I.kept (t' := tk) fun _ _ z => z, rfl, q⟩
section
variable {K : PySem.W.Frag} {PE C : Addr}
theorem kit_baseX (B : BaseX K PE) (hc : (PySem.W.clsIn K PE).isSome = true) (T : ErC K PE C) : PySem.W.kitOne K (.ref C) (.ref PE) = some true := by
  unfold PySem.W.kitOne
  by_cases e : C = PE
  · subst e
    rw [if_pos (by simp)]
  · rw [if_neg (by simpa using e)]
    show (if ((PySem.W.clsIn K PE).isSome && PySem.W.typeIn K (.ref PE) == some (.type "type")) = true then PySem.W.subIn K (.ref C) (.ref PE) else none) = some true
    rw [if_pos (by rw [hc, B.isT]; rfl), T.sub]
    simp [veT]
theorem kit_ve (T : ErC K PE C) : PySem.W.kitOne K (.ref C) (.type "ValueError") = some true := by
  have h : PySem.W.kitMeta "ValueError" = true := by decide +kernel
  unfold PySem.W.kitOne
  rw [if_neg (by simp)]
  show (if PySem.W.kitMeta "ValueError" = true then PySem.W.subIn K (.ref C) (.type "ValueError") else none) = some true
  rw [if_pos h, T.sub]
  simp [veT]
end
end LawK
namespace LawK
open PySem PySem.Spec PyProof.Rows L2 Ev
def chkB (K : PySem.W.Frag) (PE : Addr) : Bool := decide (PySem.W.subIn K (.ref PE) (.type "BaseException") = some true) && (PySem.W.hasDictIn K PE && (decide (PySem.W.typeIn K (.ref PE) = some (.type "type")) && (PySem.W.clsIn K PE).isSome))
theorem baseX_mk {K : PySem.W.Frag} {PE : Addr} (h : chkB K PE = true) : BaseX K PE ∧ (PySem.W.clsIn K PE).isSome = true := by
  obtain ⟨h1, h⟩ := Bool.and_eq_true_iff.mp h
  obtain ⟨h2, h⟩ := Bool.and_eq_true_iff.mp h
  obtain ⟨h3, h4⟩ := Bool.and_eq_true_iff.mp h
  exact ⟨⟨of_decide_eq_true h1, h2, of_decide_eq_true h3⟩, h4⟩
end LawK
set_option maxHeartbeats 4000000
namespace LawK
open PySem PySem.Spec PyProof.Rows L2 Ev

def resV : Int ⊕ Str → List V
  | .inl i => [.str "none", .int i]
  | .inr z => [.str "told", .str z]
def spToldL : Sp := fun vs H Q _ => ∃ (x : V) (r : Option (List Thing)), vs = [x] ∧ Th H x r ∧ ∀ (a : Addr) H', Same H H' → H' a = some (.tup (resV (toldR r))) → (∀ z, toldR r = .inr z → Okz z) → Q (.ref a) H'
def pairT (z : Str) : Option (List V) → Option Str
  | some [.int a, .int m] => if 0 ≤ a ∧ a < (z.length : Int) ∧ 0 < m ∧ m ≤ 2000 - (z.length : Int) then some (extS z a m) else none
  | _ => none
theorem stepT_ns {z : Str} {x : V} {o : Option (List V)} (h : ∀ s, x ≠ .str s) : stepT z (x, o) = pairT z o := by
  unfold stepT pairT
  split
  · rename_i s _ heq
    cases heq
    exact absurd rfl (h s)
  · rename_i a m _ heq
    cases heq
    rfl
  · rename_i h1 h2
    split
    · rename_i a m
      exact absurd rfl (h2 _ a m)
    · rfl
theorem lt_one {c d : Nat} : decide ([c] < [d]) = decide (c < d) := by
  by_cases h : c < d
  · exact (decide_eq_true (List.Lex.rel h)).trans (decide_eq_true h).symm
  · refine (decide_eq_false ?_).trans (decide_eq_false h).symm
    intro w
    cases w with
    | rel r => exact h r
    | cons r => cases r
theorem one_sg {s : Str} (h : s.length = 1) : ∃ c, s = SX.S [c] := by
  rw [zlen] at h
  match e : zl s, h with
  | [c], _ => exact ⟨c, by rw [← S_eta s]; exact congrArg SX.S e⟩
theorem signV_one {c : Nat} : signV (.str (SX.S [c])) = sgC c := by
  show (sgB (SX.S [c]) && decide (((SX.S [c]).length : Int) = 1)) = sgC c
  rw [sgB_S, List.all_cons, List.all_nil, Bool.and_true]
  exact Bool.and_true _
section
variable {P : Program} {w : World} {K : PySem.W.Frag} {mg : Str → Option Value} {base : Heap}
abbrev sTold : Stmt := topS 33
theorem scTold : FnScope ["thing", "text", "at", "phrase", "part"] ["thing"] (defScope sTold) := ⟨rfl, rfl, rfl, by decide +kernel, rfl, by decide +kernel, by decide +kernel⟩
theorem ok_Told {f : Addr} {fd : FuncData} (F : Fun K "_law_told" "_law_told" sTold f fd)  {fIsInt : Addr} {fdIsInt : FuncData} (DIsInt : Dk P w K mg base "_law_is_int" sIsInt ["thing", "least", "most"] 1 spIn fIsInt fdIsInt) (T : Glob mg) : FnOk P w K mg base CX0 2 f fd ["thing"] spToldL := by
  refine F.ok scTold (fun vs H Q E h => ?_) (fun cdv A outer s H vs Q E hr h => ?_)
  · obtain ⟨x, r, rfl, _⟩ := h
    rfl
  · refine ⟨_, (pss_cons (ps_if (pt_not (pt_val (pe_callB call_isi (by rfl) T.isinstance PyProof.Rows.boot_isinstance (pa_cons (pv 0) (pa_cons (pe_bltn (v := .ty "tuple") (by rfl) T.tuple (by decide +kernel) rfl) pa_nil)))))
      (pss_one (ps_ret (pe_tup (pa_cons pe_str (pa_cons (pe_un un_neg pe_int) pa_nil)))))
      pss_nil)
      (pss_cons (ps_set (i := 1) scTold.nd rfl (.inl rfl) pe_str)
      (pss_cons (ps_for PassesOwn.never rfl (pi_enumT (by rfl) T.enumerate (pa_cons (pv 0) pa_nil)) (pg_tup (by rfl) (pgs_cons (pg_name (i := 2) scTold.nd rfl (.inl rfl)) (pgs_cons (pg_name (i := 3) scTold.nd rfl (.inl rfl)) pgs_nil)))
      (pss_one (ps_if (pt_val (pe_callB call_isi (by rfl) T.isinstance PyProof.Rows.boot_isinstance (pa_cons (pv 3) (pa_cons (pe_bltn (v := .ty "str") (by rfl) T.str (by decide +kernel) rfl) pa_nil))))
        (pss_cons (ps_if (PW.pt (pw_or (pt_cmpR op_ne (pe_callB call_len (by rfl) T.len PySem.boot_len (pa_cons (pv 3) pa_nil)) pe_int (nomark _)) (pw_or (pt_not (pt_chain op_le_str op_le_str pe_str (pv 3) pe_str)) (pw_or1 (pt_cmpR op_eq (pe_callB call_lenZ (by rfl) T.len PySem.boot_len (pa_cons (pv 1) pa_nil)) pe_int (nomark _))))))
          (pss_one (ps_ret (pe_tup (pa_cons pe_str (pa_cons (pv 2) pa_nil)))))
          pss_nil)
          (pss_one (ps_set (i := 1) scTold.nd rfl (.inl rfl) (pe_op op_add_str (pv 1) (pv 3)))))
        (pss_cons (ps_if (PW.pt (pw_or (pt_not (pt_val (pe_callB call_isi (by rfl) T.isinstance PyProof.Rows.boot_isinstance (pa_cons (pv 3) (pa_cons (pe_bltn (v := .ty "tuple") (by rfl) T.tuple (by decide +kernel) rfl) pa_nil))))) (pw_or (pt_cmpR op_ne (pe_callB call_len_seq (by rfl) T.len PySem.boot_len (pa_cons (pv 3) pa_nil)) pe_int (nomark _)) (pw_or1 (pt_not (pt_val (pe_call DIsInt.ok (hr.mono (by decide)) (by rfl) DIsInt.g DIsInt.F.kp DIsInt.b .nil pass0 (pa_cons (pe_ix ix_tup (pv 3) pe_int (fun _ _ => rfl)) (pa_cons pe_int (pa_cons (pe_op op_sub (pe_callB call_lenZ (by rfl) T.len PySem.boot_len (pa_cons (pv 1) pa_nil)) pe_int) pa_nil))))))))))
          (pss_one (ps_ret (pe_tup (pa_cons pe_str (pa_cons (pv 2) pa_nil)))))
          pss_nil)
          (pss_cons (ps_if (pt_not (pt_val (pe_call DIsInt.ok (hr.mono (by decide)) (by rfl) DIsInt.g DIsInt.F.kp DIsInt.b .nil pass0 (pa_cons (pe_ix ix_tup (pv 3) pe_int (fun _ _ => rfl)) (pa_cons pe_int (pa_cons (pe_op op_sub pe_int (pe_callB call_lenZ (by rfl) T.len PySem.boot_len (pa_cons (pv 1) pa_nil))) pa_nil))))))
          (pss_one (ps_ret (pe_tup (pa_cons pe_str (pa_cons (pv 2) pa_nil)))))
          pss_nil)
          (pss_cons (ps_set (i := 4) scTold.nd rfl (.inl rfl) (pe_slice sl_str (pv 1) (po_some (pe_ix ix_tup (pv 3) pe_int (fun _ _ => rfl))) po_none))
          (pss_one (ps_set (i := 1) scTold.nd rfl (.inl rfl) (pe_op op_add_str (pv 1) (pe_slice sl_str (pe_op op_mulL (pv 4) (pe_op op_add (pe_op op_fdiv (pe_ix ix_tup (pv 3) pe_int (fun _ _ => rfl)) (pe_callB call_lenZ (by rfl) T.len PySem.boot_len (pa_cons (pv 4) pa_nil))) pe_int)) po_none (po_some (pe_ix ix_tup (pv 3) pe_int (fun _ _ => rfl)))))))))))))
      (pss_one (ps_ret (pe_tup (pa_cons pe_str (pa_cons (pv 1) pa_nil)))))))), ?_⟩
    obtain ⟨x, r, rfl, hT, q⟩ := h
    cases hT with
    | @no _ k hk n =>
      refine ⟨x, rfl, x, .ty "tuple", .type (Kn.name k), .type "tuple", kitB k .tup, rfl, .ty _, Kd.tyx hk, kit_kn k .tup, _, rfl, ?_⟩
      have e : kitB k .tup = false := by cases k <;> first | rfl | exact absurd rfl n
      rw [e]
      refine iteT ⟨1, rfl, by show 2 ≤ sizeLine; decide, fun a na => ?_⟩
      exact q a _ (Same.new na) upd_same (fun z w => by cases w)
    | @tup a ps e l hps =>
      refine ⟨.ref a, rfl, .ref a, .ty "tuple", .type (Kn.name .tup), .type "tuple", kitB .tup .tup, rfl, .ty _, Kd.tyx (.tup e), kit_kn .tup .tup, _, rfl, iteF ?_⟩
      dsimp only [tNext, tDrop]
      have ok0 : Okz "" := ⟨rfl, by decide⟩
      refine ⟨.ref a, rfl, a, _, rfl, SqT.of e, for_enT (xs := ps.map (·.1)) (fun i σ H' => ∃ (z : Str) (u1 u2 u3 : Option V), σ = [some (.ref a), some (.str z), u1, u2, u3] ∧ Same H H' ∧ Okz z ∧ tellT "" 0 (ps.take i) = .inr z) ⟨"", none, none, none, rfl, Same.refl H, ok0, rfl⟩ (fun i σ H' p => by obtain ⟨z, u1, u2, u3, _, kk, _⟩ := p; exact SqT.of (kk _ _ e)) ?_ ?_⟩
      · rintro i x1 σ H' hx ⟨z, u1, u2, u3, rfl, kH, hz, hl⟩ t nt
        rw [List.getElem?_map] at hx
        obtain ⟨⟨x1, o1⟩, hp, rfl⟩ := Option.map_eq_some_iff.mp hx
        have ht0 := hps _ (List.mem_of_getElem? hp)
        have k2 := kH.trans (Same.new (o := .tup [.int (i : Nat), x1]) nt)
        have ht := ht0.same k2
        have few := hz.few
        have lz : z.length ≤ sizeLine := len5 (by omega)
        have bad : stepT z (x1, o1) = none → toldR (some ps) = .inl (i : Int) := fun n => tellT_bad hp hl n
        have good : ∀ y, stepT z (x1, o1) = some y → tellT "" 0 (ps.take (i + 1)) = .inr y := fun y ey => by
          rw [List.take_succ, hp]
          show tellT "" 0 (ps.take i ++ [(x1, o1)]) = _
          rw [tellT_snoc hl, ey]
        refine ⟨t, [.int (i : Nat), x1], rfl, SqT.of upd_same, rfl, .int (i : Nat), [x1], rfl, x1, [], rfl, rfl, ?_⟩
        dsimp only at k2 ht ⊢
        revert k2 ht
        generalize upd H' t (.tup [.int (i : Nat), x1]) = H2
        intro k2 ht
        have no : stepT z (x1, o1) = none → ∀ (r : Addr), H2 r = none → Q (.ref r) (upd H2 r (.tup [.str "none", .int (i : Nat)])) := fun n r nr => by
          have b := bad n
          refine q r _ (k2.trans (Same.new nr)) ?_ (fun z w => by rw [b] at w; cases w)
          rw [b, upd_same]
          rfl
        obtain ⟨k, hk, hko⟩ := ht.kd
        have hv := ht.vs
        refine ⟨x1, rfl, x1, .ty "str", .type (Kn.name k), .type "str", kitB k .str, rfl, .ty _, Kd.tyx hk, kit_kn k .str, _, rfl, ?_⟩
        by_cases hs : k = .str
        · obtain ⟨s, rfl⟩ : ∃ s, x1 = .str s := by
            rw [hs] at hk
            cases hk
            exact ⟨_, rfl⟩
          subst hs
          refine iteT ?_
          have ls := len5 (hv s rfl)
          refine (?_ : ∀ Q : Bool → Hp → Prop, Q (decide (stepT z (.str s, o1) = none)) H2 → tOr _ _ _ H2 Q) _ ?_
          · intro Q0 k0
            have st : stepT z (.str s, o1) = if signV (.str s) = true ∧ z.length < 2000 then some (z ++ s) else none := rfl
            refine ⟨.str s, rfl, .str s, s.length, rfl, ⟨ls, rfl⟩, rfl, _, rfl, ite2 (fun e3 => ?_) (fun e3 => ?_)⟩
            · have l1 : s.length ≠ 1 := fun w => by
                rw [w] at e3
                exact absurd e3 (by decide)
              have : stepT z (.str s, o1) = none := by
                rw [st, if_neg]
                intro c
                obtain ⟨s', es, _, hs⟩ := signV_str c.1
                cases es
                exact l1 hs
              rw [this] at k0
              exact k0
            · have l1 : s.length = 1 := by
                by_cases c : s.length = 1
                · exact c
                · exact absurd (by rw [dec_int, decide_eq_false (show ¬ ((s.length : Nat) : Int) = 1 by omega)]; rfl) e3
              obtain ⟨c, rfl⟩ := one_sg l1
              rw [signV_one] at st
              have e32 : (" " : Str).cps.toList = [32] := by decide +kernel
              have e126 : ("~" : Str).cps.toList = [126] := by decide +kernel
              have tl : (SX.S [c]).cps.toList = [c] := rfl
              have kno : sgC c = false → Q0 true H2 := fun w => by
                rw [st, w, if_neg (fun v => by cases v.1)] at k0
                exact k0
              refine ⟨.str (SX.S [c]), rfl, _, _, rfl, rfl, _, rfl, ?_⟩
              rw [tl, e32, lt_one]
              refine ite2 (fun e4 => ?_) (fun e4 => ?_)
              · refine ⟨_, _, rfl, rfl, _, rfl, ?_⟩
                rw [tl, e126, lt_one]
                have c1 : 32 ≤ c := by
                  by_cases w : c < 32
                  · rw [decide_eq_true w] at e4
                    cases e4
                  · omega
                dsimp only
                by_cases c2 : 126 < c
                · rw [decide_eq_true c2]
                  refine iteT (kno ?_)
                  unfold sgC
                  rw [decide_eq_false (show ¬ c ≤ 126 by omega), Bool.and_false]
                · rw [decide_eq_false c2]
                  refine iteF ?_
                  have sg : sgC c = true := by
                    unfold sgC
                    rw [decide_eq_true c1, decide_eq_true (show c ≤ 126 by omega)]
                    rfl
                  rw [sg] at st
                  refine ⟨.str z, rfl, z, rfl, lz, rfl, _, rfl, ?_⟩
                  rw [dec_int]
                  have : decide (stepT z (.str (SX.S [c]), o1) = none) = decide (((z.length : Nat) : Int) = 2000) := by
                    by_cases w : z.length < 2000
                    · rw [st, if_pos ⟨rfl, w⟩, decide_eq_false (show ¬ ((z.length : Nat) : Int) = 2000 by omega)]
                      rfl
                    · rw [st, if_neg (fun v => w v.2), decide_eq_true (show ((z.length : Nat) : Int) = 2000 by omega)]
                      rfl
                  rw [this] at k0
                  exact k0
              · refine ⟨_, rfl, iteT (kno ?_)⟩
                have c1 : ¬ 32 ≤ c := fun w => by
                  rw [decide_eq_false (show ¬ c < 32 by omega)] at e4
                  exact e4 rfl
                unfold sgC
                rw [decide_eq_false c1, Bool.false_and]
          · refine ite2 (fun e5 => ?_) (fun e5 => ?_)
            · have n := of_decide_eq_true e5
              exact ⟨.int (i : Nat), rfl, by show 2 ≤ sizeLine; decide, fun r nr => no n r nr⟩
            · have n : ¬ stepT z (.str s, o1) = none := fun w => e5 (decide_eq_true w)
              dsimp only [tNext, tDrop]
              have st : stepT z (.str s, o1) = if signV (.str s) = true ∧ z.length < 2000 then some (z ++ s) else none := rfl
              by_cases c : signV (.str s) = true ∧ z.length < 2000
              · rw [if_pos c] at st
                obtain ⟨s', es, _, hs⟩ := signV_str c.1
                cases es
                refine ⟨.str z, rfl, .str s, rfl, z, s, rfl, rfl, by rw [sizeLine_eq]; omega, ?_⟩
                exact ⟨_, _, _, _, rfl, k2, stepT_ok hz st, good _ st⟩
              · rw [if_neg c] at st
                exact absurd st n
        · have ne : kitB k .str = false := by cases k <;> first | rfl | exact absurd rfl hs
          rw [ne]
          refine iteF ?_
          have xs : ∀ s, x1 ≠ .str s := fun s w => by
            rw [w] at hk
            cases hk
            exact hs rfl
          have st := stepT_ns (z := z) (o := o1) xs
          refine (?_ : ∀ Q : Bool → Hp → Prop, (∀ b, (b = true → pairT z o1 = none) → (b = false → ∃ (r : Addr) (a : Int) (y1 : V), x1 = .ref r ∧ H2 r = some (.tup [.int a, y1]) ∧ o1 = some [.int a, y1] ∧ 0 ≤ a ∧ a < (z.length : Int) ∧ ∃ k1, Kd H2 y1 k1) → Q b H2) → tOr _ _ _ H2 Q) _ ?_
          · intro Q0 k0
            have yes : pairT z o1 = none → Q0 true H2 := fun w => k0 true (fun _ => w) (fun w => Bool.noConfusion w)
            refine ⟨x1, rfl, x1, .ty "tuple", .type (Kn.name k), .type "tuple", kitB k .tup, rfl, .ty _, Kd.tyx hk, kit_kn k .tup, _, rfl, ?_⟩
            cases ht with
            | @no _ k' h1 n1 s1 =>
              have e0 : kitB k .tup = false := by
                have : k ≠ .tup := fun w => by
                  have := hko.mp w
                  cases this
                cases k <;> first | rfl | exact absurd rfl this
              rw [e0]
              exact iteT (yes rfl)
            | @tup r ys er ly hys =>
              have e0 : k = .tup := hko.mpr rfl
              rw [e0]
              refine iteF ?_
              refine ⟨.ref r, rfl, r, ys, rfl, .inr (SqT.of er), rfl, _, rfl, ?_⟩
              rw [dec_int]
              by_cases l2 : ys.length = 2
              · obtain ⟨y0, y1, rfl⟩ : ∃ y0 y1, ys = [y0, y1] := by
                  match ys, l2 with
                  | [y0, y1], _ => exact ⟨y0, y1, rfl⟩
                refine iteF ?_
                obtain ⟨⟨k0', hk0⟩, v0⟩ := hys y0 (by simp)
                obtain ⟨hk1, v1⟩ := hys y1 (by simp)
                refine ⟨.ref r, rfl, r, _, 0, y0, rfl, rfl, SqT.of er, rfl, .str z, rfl, z, rfl, lz, _, _, rfl, rfl, y0, k0', 0, _, rfl, hk0, _, rfl, ?_⟩
                cases e1 : inV2 0 ((z.length : Int) - 1) y0 with
                | true =>
                  cases y0 with
                  | int a =>
                    have e2 := Bool.and_eq_true_iff.mp e1
                    exact k0 false (fun w => Bool.noConfusion w) fun _ => ⟨r, a, y1, rfl, er, rfl, of_decide_eq_true e2.1, by have := of_decide_eq_true e2.2; omega, hk1⟩
                  | _ => cases e1
                | false =>
                  refine yes ?_
                  cases y0 with
                  | int a =>
                    cases y1 with
                    | int m =>
                      show (if 0 ≤ a ∧ a < (z.length : Int) ∧ 0 < m ∧ m ≤ 2000 - (z.length : Int) then some (extS z a m) else none) = none
                      rw [if_neg]
                      intro c
                      have : inV2 0 ((z.length : Int) - 1) (.int a) = true := by
                        show (decide (0 ≤ a) && decide (a ≤ (z.length : Int) - 1)) = true
                        rw [decide_eq_true c.1, decide_eq_true (show a ≤ (z.length : Int) - 1 by omega)]
                        rfl
                      rw [e1] at this
                      cases this
                    | _ => rfl
                  | _ => rfl
              · rw [decide_eq_false (show ¬ ((ys.length : Nat) : Int) = 2 by omega)]
                refine iteT (yes ?_)
                unfold pairT
                split
                · rename_i heq
                  cases heq
                  exact absurd rfl l2
                · rfl
          · intro b hb1 hb0
            cases b with
            | true =>
              have n := hb1 rfl
              rw [← st] at n
              exact iteT ⟨.int (i : Nat), rfl, by show 2 ≤ sizeLine; decide, fun r nr => no n r nr⟩
            | false =>
              obtain ⟨r, b0, y1, rfl, er, rfl, p0, p1, k1, hk1⟩ := hb0 rfl
              refine iteF ?_
              dsimp only [tNext, tDrop]
              refine ⟨.ref r, rfl, r, _, 1, y1, rfl, rfl, SqT.of er, rfl, .str z, rfl, z, rfl, lz, _, _, rfl, rfl, y1, k1, 1, _, rfl, hk1, _, rfl, ?_⟩
              cases e1 : inV2 1 (2000 - (z.length : Int)) y1 with
              | false =>
                refine iteT ⟨.int (i : Nat), rfl, by show 2 ≤ sizeLine; decide, fun r nr => no ?_ r nr⟩
                rw [st]
                cases y1 with
                | int m =>
                  show (if 0 ≤ b0 ∧ b0 < (z.length : Int) ∧ 0 < m ∧ m ≤ 2000 - (z.length : Int) then some (extS z b0 m) else none) = none
                  rw [if_neg]
                  intro c
                  have : inV2 1 (2000 - (z.length : Int)) (.int m) = true := by
                    show (decide (1 ≤ m) && decide (m ≤ 2000 - (z.length : Int))) = true
                    rw [decide_eq_true (show 1 ≤ m by omega), decide_eq_true c.2.2.2]
                    rfl
                  rw [e1] at this
                  cases this
                | _ => rfl
              | true =>
                cases y1 with
                | int m =>
                  have e2 := Bool.and_eq_true_iff.mp e1
                  have m0 := of_decide_eq_true e2.1
                  have m1 := of_decide_eq_true e2.2
                  have st2 : stepT z (.ref r, some [.int b0, .int m]) = some (extS z b0 m) := by
                    rw [stepT_ref p0 p1 (by omega), if_pos m1]
                  refine iteF ?_
                  dsimp only [tNext, tDrop]
                  have lr : (cutS z (some b0) none).length = z.length - b0.toNat := by rw [len_S, cutS_from p0, List.length_drop, ← len_S]
                  have ld0 : 0 ≤ (m / (((cutS z (some b0) none).length : Nat) : Int)) := Int.ediv_nonneg (by omega) (by omega)
                  have ld : (m / (((cutS z (some b0) none).length : Nat) : Int)) ≤ 2000 := by
                    refine Int.le_trans (Int.ediv_le_self _ (by omega)) (by omega)
                  have el := extS_len p0 p1 (by omega : 0 ≤ m)
                  have lm : (Txt.mul (cutS z (some b0) none) (m / (((cutS z (some b0) none).length : Nat) : Int) + 1)).length ≤ sizeLine := by
                    have f := (mul_facts (cutS z (some b0) none) (m / (((cutS z (some b0) none).length : Nat) : Int) + 1)).1
                    have f2 : (cutS z (some b0) none).length * (m / (((cutS z (some b0) none).length : Nat) : Int) + 1).toNat ≤ 2000 * 2001 := Nat.mul_le_mul (by omega) (by omega)
                    rw [sizeLine_eq]
                    omega
                  have el2 : (z ++ cutS (Txt.mul (cutS z (some b0) none) (m / (((cutS z (some b0) none).length : Nat) : Int) + 1)) none (some m)).length = z.length + m.toNat := el
                  have fin : ∃ (z' : Str) (w1 w2 w3 : Option V), [some (.ref a), some (.str (z ++ cutS (Txt.mul (cutS z (some b0) none) (m / (((cutS z (some b0) none).length : Nat) : Int) + 1)) none (some m))), some (.int (i : Nat)), some (.ref r), some (.str (cutS z (some b0) none))] = [some (.ref a), some (.str z'), w1, w2, w3] ∧ Same H H2 ∧ Okz z' ∧ tellT "" 0 (ps.take (i + 1)) = .inr z' := ⟨extS z b0 m, _, _, _, rfl, k2, stepT_ok hz st2, good _ st2⟩
                  rw [app_len] at el2
                  refine ⟨.str z, rfl, .ref r, rfl, r, _, 0, .int b0, rfl, rfl, SqT.of er, rfl, b0, rfl, z, rfl, lz, ?_⟩
                  revert lr ld0 ld lm fin el2
                  generalize cutS z (some b0) none = ring
                  intro lr ld0 ld lm el2 fin
                  refine ⟨.str z, rfl, .str ring, rfl, .ref r, rfl, r, _, 1, .int m, rfl, rfl, SqT.of er, rfl, .str ring, rfl, ring, rfl, len5 (by omega), _, _, rfl, rfl, ⟨by omega, by omega⟩, _, _, rfl, rfl, ring, _, rfl, rfl, by omega, by omega, by omega, .ref r, rfl, r, _, 1, .int m, rfl, rfl, SqT.of er, rfl, m, rfl, _, rfl, lm, z, _, rfl, rfl, ?_, fin⟩
                  rw [sizeLine_eq]
                  omega
                | _ => cases e1
      · rintro σ H' ⟨z, u1, u2, u3, rfl, kH, hz, hl⟩
        rw [List.length_map, List.take_length] at hl
        refine ⟨.str z, rfl, by show 2 ≤ sizeLine; decide, fun a na => ?_⟩
        have e9 : toldR (some ps) = .inr z := hl
        refine q a _ (kH.trans (Same.new na)) ?_ (fun y w => by rw [e9] at w; cases w; exact hz)
        rw [e9, upd_same]
        rfl
abbrev sOfPackage : Stmt := topS 34
theorem scOfPackage : FnScope ["thing", "found", "e"] ["thing"] (defScope sOfPackage) := ⟨rfl, rfl, rfl, by decide +kernel, rfl, by decide +kernel, by decide +kernel⟩
theorem ok_OfPackage {PE cE : Addr} {f fS : Addr} {fd fdS : FuncData} (F : Fun K "_law_of_package" "_law_of_package" sOfPackage f fd) (EE : Cls1 K mg PE "NoPhrases" "index" cE) (BX : BaseX K PE) (hcP : (PySem.W.clsIn K PE).isSome = true) (gPE : mg "PieceError" = some (.ref PE)) (gVE : mg "ValueError" = none)
    (FS : Fun K "told_by" "told_by" sPTold fS fdS) (bS : Binds K fdS ["phrases"] []) (gS : mg "told_by" = some (.ref fS)) (GS : FnOk P w K mg base (L2.CX P w) 4 fS fdS ["phrases"] (spPTold cE)) (T : Glob mg) :
    FnOk P w K mg base CX0 5 f fd ["thing"] spToldL := by
  refine F.ok scOfPackage (fun vs H Q E h => ?_) (fun cdv A outer s H vs Q E hr h => ?_)
  · obtain ⟨x, r, rfl, _⟩ := h
    rfl
  · obtain ⟨x, r, rfl, ht, q⟩ := h
    refine ⟨_, pss_cons (ps_try_as (i := 2) (tb := fun W => tAsg (tTup (tCons (tC (.str "told")) (tCons (tCallS (spPTold cE) (fun σ => WE W σ) (tCons (tVar 0) tNil)) tNil))) (gName 1)) (Wout := fun _ _ _ _ => False) rfl rfl scOfPackage.nd rfl rfl ⟨rfl, by decide, .inl EE.g⟩ takes0
        (fun W pn xe tk _ => pss_one (ps_set (i := 1) scOfPackage.nd rfl (.inl rfl) (pe_tup (pa_cons pe_str (pa_cons (pe_callS (E := fun σ => WE W σ) GS hr rfl gS FS.kp bS (fun σ => passAt tk σ) (pa_cons (pv 0) pa_nil)) pa_nil)))))
        (fun a oe cls d pn hz hf => pss_one (ps_set (i := 1) scOfPackage.nd rfl (.inl rfl) (pe_ifExp (PW.pt (pw_and (pt_val (pe_callB (call_isEd EE.er.isx hz hf) (by rfl) T.isinstance PyProof.Rows.boot_isinstance (pa_cons (pv 2) (pa_cons (pe_glob (v := .ref PE) (by rfl) gPE rfl) pa_nil)))) (pw_and1 (pt_val (pe_callB (call_isEd EE.er.isx hz hf) (by rfl) T.isinstance PyProof.Rows.boot_isinstance (pa_cons (pv 2) (pa_cons (pe_bltn (v := .ty "ValueError") (by rfl) gVE (by decide +kernel) rfl) pa_nil))))))) (pe_tup (pa_cons pe_str (pa_cons (pe_xf EE.er.xf EE.hno hz hf (pv 2)) pa_nil))) pe_non))))
      (pss_one (ps_ret (pv 1))), ?_⟩
    refine ⟨x, rfl, x, r, rfl, ht, fun z H1 e hz k1 => ?_, fun i d H1 e k1 nd => ?_⟩
    · refine ⟨by show 2 ≤ sizeLine; decide, fun a na => ?_⟩
      refine ⟨.ref a, rfl, q a _ (k1.trans (Same.new na)) ?_ (fun y w => by rw [e] at w; cases w; exact hz)⟩
      rw [e]
      exact upd_same
    · refine ⟨true, (exm_at EE.er EE.er EE.ne).trans (congrArg some (decide_eq_true rfl)), (fun _ a1 na1 => ?_), fun z => Bool.noConfusion z⟩
      have kd := Same.new (o := .xd [("index", .int i)]) nd
      have hd : upd H1 d (.xd [("index", .int i)]) d = some (.xd [("index", .int i)]) := upd_same
      revert kd hd
      generalize upd H1 d (.xd [("index", .int i)]) = H2
      intro kd hd
      refine ⟨.ref a1, rfl, .ref PE, .ref PE, true, d, _, rfl, rfl, rfl, hd, .own PE, kit_baseX BX hcP EE.er, _, rfl, iteT ⟨.ref a1, rfl, .ty "ValueError", .type "ValueError", true, d, _, rfl, rfl, rfl, hd, .ty _, kit_ve EE.er, _, rfl, ?_⟩⟩
      refine iteT ⟨.ref a1, rfl, rfl, rfl, d, _, .int i, rfl, hd, (by simp [List.lookup]), by show 2 ≤ sizeLine; decide, fun r nr => ?_⟩
      refine ⟨.ref r, rfl, q r _ ((k1.trans kd).trans (Same.new nr)) ?_ (fun z w => by rw [e] at w; cases w)⟩
      rw [e]
      exact upd_same
end
end LawK
set_option maxHeartbeats 4000000
namespace LawK
open PySem PySem.Spec PyProof.Rows L2 Ev

theorem Th.but {H H' : Hp} {p l : Addr} {x : V} {r : Option (List Thing)} (h : Th H x r) (h0 : HandL H p l) (h1 : HandL H' p l) (b : But p H H') : Th H' x r := by
  cases h with
  | no h n => exact .no (Kd.but h h0 h1 b) n
  | tup e l h => exact .tup (b _ _ (tup_ne h0 e) e) l fun q hq => Tg.but (h q hq) h0 h1 b
/-- a thing that may be judged as phrases and as one phrase -/
structure Gd (H : Hp) (x : V) : Prop where
  tg : ∃ o, Tg H x o
  th : ∃ r, Th H x r
theorem Gd.same {H H' : Hp} {x : V} (h : Gd H x) (k : Same H H') : Gd H' x := ⟨let ⟨o, q⟩ := h.tg; ⟨o, q.same k⟩, let ⟨r, q⟩ := h.th; ⟨r, q.same k⟩⟩
theorem Gd.but {H H' : Hp} {p l : Addr} {x : V} (h : Gd H x) (h0 : HandL H p l) (h1 : HandL H' p l) (b : But p H H') : Gd H' x := ⟨let ⟨o, q⟩ := h.tg; ⟨o, Tg.but q h0 h1 b⟩, let ⟨r, q⟩ := h.th; ⟨r, Th.but q h0 h1 b⟩⟩
/-- neither tuple nor long -/
structure Sim (x : V) : Prop where
  kd : ∃ k : Kn, k ≠ .tup ∧ ∀ H, Kd H x k
  vs : Vs x
theorem sim_int {i : Int} : Sim (.int i) := ⟨⟨.int, by decide, fun H => .int i⟩, fun z e => by cases e⟩
theorem sim_bl {b : Bool} : Sim (.bl b) := ⟨⟨.bl, by decide, fun H => .bl b⟩, fun z e => by cases e⟩
theorem sim_non : Sim .non := ⟨⟨.non, by decide, fun H => .non⟩, fun z e => by cases e⟩
theorem sim_str {z : Str} (h : z.length ≤ 5000) : Sim (.str z) := ⟨⟨.str, by decide, fun H => .str z⟩, fun w e => by cases e; exact h⟩
theorem Sim.tg {H : Hp} {x : V} (h : Sim x) : ∃ o, Tg H x o := let ⟨k, n, q⟩ := h.kd; ⟨_, .no (q H) n h.vs⟩
theorem Sim.gd {H : Hp} {x : V} (h : Sim x) : Gd H x := ⟨h.tg, let ⟨k, n, q⟩ := h.kd; ⟨_, .no (q H) n⟩⟩
theorem things_of {H : Hp} : ∀ {ys : List V}, (∀ y ∈ ys, ∃ o, Tg H y o) → ∃ ps : List Thing, ps.map (·.1) = ys ∧ ∀ p ∈ ps, Tg H p.1 p.2
  | [], _ => ⟨[], rfl, fun p hp => by cases hp⟩
  | y :: ys, h => by
    obtain ⟨o, ho⟩ := h y (List.mem_cons_self ..)
    obtain ⟨ps, e, hps⟩ := things_of (ys := ys) fun z hz => h z (List.mem_cons_of_mem _ hz)
    refine ⟨(y, o) :: ps, by rw [List.map_cons, e], fun p hp => ?_⟩
    rcases List.mem_cons.mp hp with rfl | hp
    · exact ho
    · exact hps p hp
theorem gd_tup {H : Hp} {t : Addr} {ys : List V} (e : H t = some (.tup ys)) (l : ys.length ≤ 30) (h : ∀ y ∈ ys, ∃ o, Tg H y o) : Gd H (.ref t) := by
  refine ⟨⟨some ys, .tup e l fun y hy => ?_⟩, ?_⟩
  · obtain ⟨o, ho⟩ := h y hy
    obtain ⟨k, hk, _⟩ := ho.kd
    exact ⟨⟨k, hk⟩, ho.vs⟩
  · obtain ⟨ps, e2, hps⟩ := things_of h
    refine ⟨some ps, .tup (by rw [e2]; exact e) ?_ hps⟩
    have := congrArg List.length e2
    rw [List.length_map] at this
    omega
theorem gd_two {H : Hp} {t : Addr} {x y : V} (e : H t = some (.tup [x, y])) (sx : Sim x) (sy : Sim y) : Gd H (.ref t) := gd_tup e (by show 2 ≤ 30; decide) fun z hz => by
  rcases List.mem_cons.mp hz with rfl | hz
  · exact sx.tg
  · rw [List.mem_singleton.mp hz]
    exact sy.tg
theorem gd_lst {H : Hp} {t : Addr} {ys : List V} (e : H t = some (.lst ys)) : Gd H (.ref t) := ⟨⟨_, .no (.lst e) (by decide) fun z w => by cases w⟩, ⟨_, .no (.lst e) (by decide)⟩⟩
theorem Nest.tg {H : Hp} {n : Nat} {x : V} (h : Nest H n x) : ∃ o, Tg H x o := by
  cases h with
  | zero e => exact ⟨_, .tup e (by decide) fun y hy => by cases hy⟩
  | succ e h =>
    refine ⟨_, .tup e (by show 1 ≤ 30; decide) fun y hy => ?_⟩
    rw [List.mem_singleton.mp hy]
    cases h with
    | zero e2 => exact ⟨⟨_, .tup e2⟩, fun z w => by cases w⟩
    | succ e2 _ => exact ⟨⟨_, .tup e2⟩, fun z w => by cases w⟩
theorem Nest.gd {H : Hp} {n : Nat} {x : V} (h : Nest H n x) : Gd H x := by
  cases h with
  | zero e => exact gd_tup e (by decide) fun y hy => by cases hy
  | succ e h =>
    refine gd_tup e (by show 1 ≤ 30; decide) fun y hy => ?_
    rw [List.mem_singleton.mp hy]
    exact h.tg
/-- all of them good -/
def GT (H : Hp) (xs : List V) : Prop := ∀ x ∈ xs, Gd H x
theorem GT.same {H H' : Hp} {xs : List V} (h : GT H xs) (k : Same H H') : GT H' xs := fun x hx => (h x hx).same k
theorem GT.nil {H : Hp} : GT H [] := fun x hx => by cases hx
theorem GT.cons {H : Hp} {x : V} {xs : List V} (h : GT H xs) (g : Gd H x) : GT H (x :: xs) := fun y hy => by
  rcases List.mem_cons.mp hy with rfl | hy
  · exact g
  · exact h y hy
theorem GT.sub {H : Hp} {xs ys : List V} (h : GT H xs) (s : ∀ y ∈ ys, y ∈ xs ∨ Sim y) : GT H ys := fun y hy => (s y hy).elim (h y) fun z => z.gd
theorem GT.app {H : Hp} {xs ys : List V} (h : GT H xs) (g : GT H ys) : GT H (xs ++ ys) := fun x hx => (List.mem_append.mp hx).elim (h x) (g x)
def spBent : Sp := fun vs H Q _ => ∃ (p a : Addr) (ps : List Thing), vs = [.ref p, .ref a] ∧ H a = some (.tup (ps.map (·.1))) ∧ (∀ x ∈ ps, PhI H x) ∧ ps.length ≤ 100 ∧ ∃ l, HandL H p l ∧ ∀ x r H', Th H' x r → HandL H' p l → But p H H' → Q x H'
section
variable {P : Program} {w : World} {K : PySem.W.Frag} {mg : Str → Option Value} {base : Heap}
abbrev sBent : Stmt := topS 35
theorem scBent : FnScope ["hand", "phrases", "at", "odd", "one", "some"] ["hand", "phrases"] (defScope sBent) := ⟨rfl, rfl, rfl, by decide +kernel, rfl, by decide +kernel, by decide +kernel⟩
theorem ok_Bent {f : Addr} {fd : FuncData} (F : Fun K "_law_bent" "_law_bent" sBent f fd)  {fDraw : Addr} {fdDraw : FuncData} (DDraw : Dk P w K mg base "_law_draw" sDraw ["hand", "many"] 1 spDraw fDraw fdDraw) {fAny : Addr} {fdAny : FuncData} (DAny : Dk P w K mg base "_law_any" sAny ["hand", "some"] 2 (spAny K) fAny fdAny) {fDeep : Addr} {fdDeep : FuncData} (DDeep : Dk P w K mg base "_law_deep" sDeep ["many"] 1 spDeep fDeep fdDeep) (T : Glob mg) : FnOk P w K mg base CX0 3 f fd ["hand", "phrases"] spBent := by
  refine F.ok scBent (fun vs H Q E h => ?_) (fun cdv A outer s H vs Q E hr h => ?_)
  · obtain ⟨p, a, ps, rfl, _⟩ := h
    rfl
  · refine ⟨_, (pss_cons (ps_set (i := 2) scBent.nd rfl (.inl rfl) (pe_call DDraw.ok (hr.mono (by decide)) (by rfl) DDraw.g DDraw.F.kp DDraw.b .nil pass0 (pa_cons (pv 0) (pa_cons (pe_op op_add (pe_callB call_len_seq (by rfl) T.len PySem.boot_len (pa_cons (pv 1) pa_nil)) pe_int) pa_nil))))
      (pss_cons (ps_set (i := 3) scBent.nd rfl (.inl rfl) (pe_lst (pa_cons pe_str (pa_cons pe_str (pa_cons pe_str (pa_cons (pe_tup (pa_cons pe_int (pa_cons pe_int pa_nil))) (pa_cons (pe_tup (pa_cons (pe_op op_add (pv 2) pe_int) (pa_cons pe_int pa_nil))) (pa_cons (pe_tup (pa_cons pe_int (pa_cons pe_int pa_nil))) (pa_cons (pe_tup (pa_cons pe_int (pa_cons pe_int pa_nil))) (pa_cons (pe_tup (pa_cons (pe_un un_neg pe_int) (pa_cons pe_int pa_nil))) (pa_cons (pe_tup (pa_cons pe_bl (pa_cons pe_int pa_nil))) (pa_cons (pe_tup (pa_cons pe_int (pa_cons pe_bl pa_nil))) (pa_cons (pe_lst (pa_cons pe_int (pa_cons pe_int pa_nil))) (pa_cons pe_non (pa_cons pe_int pa_nil)))))))))))))))
      (pss_cons (ps_set (i := 4) scBent.nd rfl (.inl rfl) (pe_call DAny.ok (hr.mono (by decide)) (by rfl) DAny.g DAny.F.kp DAny.b .nil pass0 (pa_cons (pv 0) (pa_cons (pe_op op_cat (pv 3) (pe_lst (pa_cons (pe_tup (pa_cons pe_int pa_nil)) (pa_cons (pe_tup (pa_cons pe_str (pa_cons pe_int pa_nil))) (pa_cons (pe_tup (pa_cons pe_int (pa_cons pe_int pa_nil))) (pa_cons pe_str (pa_cons (pe_call DDeep.ok (hr.mono (by decide)) (by rfl) DDeep.g DDeep.F.kp DDeep.b .nil pass0 (pa_cons pe_int pa_nil)) (pa_cons (pe_tup (pa_cons pe_int (pa_cons pe_int (pa_cons pe_int pa_nil)))) (pa_cons (pe_tup (pa_cons pe_int (pa_cons (pe_op op_pow pe_int pe_int) pa_nil))) pa_nil))))))))) pa_nil))))
      (pss_cons (ps_set (i := 5) scBent.nd rfl (.inl rfl) (pe_lst (pa_cons (pe_op op_catM (pe_op op_catM (pe_slice sl_tupM (pv 1) po_none (po_some (pv 2))) (pe_tup (pa_cons (pv 4) pa_nil))) (pe_slice sl_tupM (pv 1) (po_some (pe_op op_add (pv 2) pe_int)) po_none)) (pa_cons (pe_op op_catM (pe_op op_catM (pe_slice sl_tupM (pv 1) po_none (po_some (pv 2))) (pe_tup (pa_cons (pv 4) pa_nil))) (pe_slice sl_tupM (pv 1) (po_some (pv 2)) po_none)) (pa_cons (pe_callTy call_list_of (by rfl) T.list (by decide +kernel) (pa_cons (pv 1) pa_nil)) (pa_cons (pv 4) pa_nil))))))
      (pss_one (ps_ret (pe_call DAny.ok (hr.mono (by decide)) (by rfl) DAny.g DAny.F.kp DAny.b .nil pass0 (pa_cons (pv 0) (pa_cons (pe_op op_cat (pv 5) (pe_lst (pa_cons (pe_ix ix_list (pv 5) pe_int (fun _ _ => rfl)) (pa_cons (pe_ix ix_list (pv 5) pe_int (fun _ _ => rfl)) pa_nil)))) pa_nil))))))))), ?_⟩
    obtain ⟨p, a, ps, rfl, ha, hps, lps, l, hH, q⟩ := h
    refine ⟨.ref p, rfl, .ref a, rfl, a, _, rfl, .inr (SqT.of ha), _, _, rfl, rfl, p, _, rfl, by rw [List.length_map]; omega, by rw [List.length_map]; omega, l, hH, fun v G0 v0 v1 h0 b0 => ?_⟩
    rw [List.length_map] at v1
    have k0 := Same.refl G0
    have g0 : GT G0 [] := GT.nil
    refine ⟨by show 2 ≤ sizeLine; decide, fun t1 n1 => ?_⟩
    have k1 := k0.trans (Same.new (o := .tup [.int 0, .int 0]) n1)
    have g1 := (g0.same (Same.new (o := .tup [.int 0, .int 0]) n1)).cons (gd_two upd_same sim_int sim_int : Gd _ (.ref t1))
    have e1 : upd G0 t1 (.tup [.int 0, .int 0]) t1 = some (.tup [.int 0, .int 0]) := upd_same
    revert k1 g1 e1
    generalize upd G0 t1 (.tup [.int 0, .int 0]) = G1
    intro k1 g1 e1
    refine ⟨.int v, rfl, _, _, rfl, rfl, by show 2 ≤ sizeLine; decide, fun t2 n2 => ?_⟩
    have k2 := k1.trans (Same.new (o := .tup [.int (v + 60), .int 1]) n2)
    have g2 := (g1.same (Same.new (o := .tup [.int (v + 60), .int 1]) n2)).cons (gd_two upd_same sim_int sim_int : Gd _ (.ref t2))
    have e2 : upd G1 t2 (.tup [.int (v + 60), .int 1]) t2 = some (.tup [.int (v + 60), .int 1]) := upd_same
    revert k2 g2 e2
    generalize upd G1 t2 (.tup [.int (v + 60), .int 1]) = G2
    intro k2 g2 e2
    refine ⟨by show 2 ≤ sizeLine; decide, fun t3 n3 => ?_⟩
    have k3 := k2.trans (Same.new (o := .tup [.int 0, .int 2001]) n3)
    have g3 := (g2.same (Same.new (o := .tup [.int 0, .int 2001]) n3)).cons (gd_two upd_same sim_int sim_int : Gd _ (.ref t3))
    have e3 : upd G2 t3 (.tup [.int 0, .int 2001]) t3 = some (.tup [.int 0, .int 2001]) := upd_same
    revert k3 g3 e3
    generalize upd G2 t3 (.tup [.int 0, .int 2001]) = G3
    intro k3 g3 e3
    refine ⟨by show 2 ≤ sizeLine; decide, fun t4 n4 => ?_⟩
    have k4 := k3.trans (Same.new (o := .tup [.int 0, .int 1990]) n4)
    have g4 := (g3.same (Same.new (o := .tup [.int 0, .int 1990]) n4)).cons (gd_two upd_same sim_int sim_int : Gd _ (.ref t4))
    have e4 : upd G3 t4 (.tup [.int 0, .int 1990]) t4 = some (.tup [.int 0, .int 1990]) := upd_same
    revert k4 g4 e4
    generalize upd G3 t4 (.tup [.int 0, .int 1990]) = G4
    intro k4 g4 e4
    refine ⟨1, rfl, by show 2 ≤ sizeLine; decide, fun t5 n5 => ?_⟩
    have k5 := k4.trans (Same.new (o := .tup [.int (-1), .int 1]) n5)
    have g5 := (g4.same (Same.new (o := .tup [.int (-1), .int 1]) n5)).cons (gd_two upd_same sim_int sim_int : Gd _ (.ref t5))
    have e5 : upd G4 t5 (.tup [.int (-1), .int 1]) t5 = some (.tup [.int (-1), .int 1]) := upd_same
    revert k5 g5 e5
    generalize upd G4 t5 (.tup [.int (-1), .int 1]) = G5
    intro k5 g5 e5
    refine ⟨by show 2 ≤ sizeLine; decide, fun t6 n6 => ?_⟩
    have k6 := k5.trans (Same.new (o := .tup [.bl true, .int 1]) n6)
    have g6 := (g5.same (Same.new (o := .tup [.bl true, .int 1]) n6)).cons (gd_two upd_same sim_bl sim_int : Gd _ (.ref t6))
    have e6 : upd G5 t6 (.tup [.bl true, .int 1]) t6 = some (.tup [.bl true, .int 1]) := upd_same
    revert k6 g6 e6
    generalize upd G5 t6 (.tup [.bl true, .int 1]) = G6
    intro k6 g6 e6
    refine ⟨by show 2 ≤ sizeLine; decide, fun t7 n7 => ?_⟩
    have k7 := k6.trans (Same.new (o := .tup [.int 0, .bl true]) n7)
    have g7 := (g6.same (Same.new (o := .tup [.int 0, .bl true]) n7)).cons (gd_two upd_same sim_int sim_bl : Gd _ (.ref t7))
    have e7 : upd G6 t7 (.tup [.int 0, .bl true]) t7 = some (.tup [.int 0, .bl true]) := upd_same
    revert k7 g7 e7
    generalize upd G6 t7 (.tup [.int 0, .bl true]) = G7
    intro k7 g7 e7
    refine ⟨by show 2 ≤ sizeLine; decide, fun t8 n8 => ?_⟩
    have k8 := k7.trans (Same.new (o := .lst [.int 0, .int 1]) n8)
    have g8 := (g7.same (Same.new (o := .lst [.int 0, .int 1]) n8)).cons (gd_lst upd_same : Gd _ (.ref t8))
    have e8 : upd G7 t8 (.lst [.int 0, .int 1]) t8 = some (.lst [.int 0, .int 1]) := upd_same
    revert k8 g8 e8
    generalize upd G7 t8 (.lst [.int 0, .int 1]) = G8
    intro k8 g8 e8
    refine ⟨by show 13 ≤ sizeLine; decide, fun t9 n9 => ?_⟩
    have k9 := k8.trans (Same.new (o := .lst [.str "", .str "ab", .str "\n", .ref t1, .ref t2, .ref t3, .ref t4, .ref t5, .ref t6, .ref t7, .ref t8, .non, .int 0]) n9)
    have g9 := g8.same (Same.new (o := .lst [.str "", .str "ab", .str "\n", .ref t1, .ref t2, .ref t3, .ref t4, .ref t5, .ref t6, .ref t7, .ref t8, .non, .int 0]) n9)
    have e9 : upd G8 t9 (.lst [.str "", .str "ab", .str "\n", .ref t1, .ref t2, .ref t3, .ref t4, .ref t5, .ref t6, .ref t7, .ref t8, .non, .int 0]) t9 = some (.lst [.str "", .str "ab", .str "\n", .ref t1, .ref t2, .ref t3, .ref t4, .ref t5, .ref t6, .ref t7, .ref t8, .non, .int 0]) := upd_same
    revert k9 g9 e9
    generalize upd G8 t9 (.lst [.str "", .str "ab", .str "\n", .ref t1, .ref t2, .ref t3, .ref t4, .ref t5, .ref t6, .ref t7, .ref t8, .non, .int 0]) = G9
    intro k9 g9 e9
    have gO : GT G9 [.str "", .str "ab", .str "\n", .ref t1, .ref t2, .ref t3, .ref t4, .ref t5, .ref t6, .ref t7, .ref t8, .non, .int 0] := by
      refine g9.sub fun y hy => ?_
      simp only [List.mem_cons, List.not_mem_nil, or_false] at hy ⊢
      rcases hy with e | e | e | e | e | e | e | e | e | e | e | e | e
      all_goals first
        | (rw [e]; exact .inr (sim_str (by decide +kernel)))
        | (rw [e]; exact .inr sim_non)
        | (rw [e]; exact .inr sim_int)
        | (rw [e]; exact .inl (by simp))
    refine ⟨.ref p, rfl, .ref t9, rfl, ?_⟩
    have q9 := Same.refl G9
    refine ⟨by show 1 ≤ sizeLine; decide, fun t10 n10 => ?_⟩
    have k10 := k9.trans (Same.new (o := .tup [.int 0]) n10)
    have q10 := q9.trans (Same.new (o := .tup [.int 0]) n10)
    have g10 := (g9.same (Same.new (o := .tup [.int 0]) n10)).cons (gd_tup upd_same (by show 1 ≤ 30; decide) fun y hy => by rw [List.mem_singleton.mp hy]; exact sim_int.tg : Gd _ (.ref t10))
    have e10 : upd G9 t10 (.tup [.int 0]) t10 = some (.tup [.int 0]) := upd_same
    revert k10 q10 g10 e10
    generalize upd G9 t10 (.tup [.int 0]) = G10
    intro k10 q10 g10 e10
    refine ⟨by show 2 ≤ sizeLine; decide, fun t11 n11 => ?_⟩
    have k11 := k10.trans (Same.new (o := .tup [.str "0", .int 1]) n11)
    have q11 := q10.trans (Same.new (o := .tup [.str "0", .int 1]) n11)
    have g11 := (g10.same (Same.new (o := .tup [.str "0", .int 1]) n11)).cons (gd_two upd_same (sim_str (by decide +kernel)) sim_int : Gd _ (.ref t11))
    have e11 : upd G10 t11 (.tup [.str "0", .int 1]) t11 = some (.tup [.str "0", .int 1]) := upd_same
    revert k11 q11 g11 e11
    generalize upd G10 t11 (.tup [.str "0", .int 1]) = G11
    intro k11 q11 g11 e11
    refine ⟨by show 2 ≤ sizeLine; decide, fun t12 n12 => ?_⟩
    have k12 := k11.trans (Same.new (o := .tup [.int 0, .int 3]) n12)
    have q12 := q11.trans (Same.new (o := .tup [.int 0, .int 3]) n12)
    have g12 := (g11.same (Same.new (o := .tup [.int 0, .int 3]) n12)).cons (gd_two upd_same sim_int sim_int : Gd _ (.ref t12))
    have e12 : upd G11 t12 (.tup [.int 0, .int 3]) t12 = some (.tup [.int 0, .int 3]) := upd_same
    revert k12 q12 g12 e12
    generalize upd G11 t12 (.tup [.int 0, .int 3]) = G12
    intro k12 q12 g12 e12
    refine ⟨9, rfl, by decide, by decide, fun d G13 hd kd => ?_⟩
    have k13 := k12.trans kd
    have q13 := q12.trans kd
    have g13 := (g12.same kd).cons (hd.gd : Gd _ d)
    refine ⟨by show 3 ≤ sizeLine; decide, fun t14 n14 => ?_⟩
    have k14 := k13.trans (Same.new (o := .tup [.int 0, .int 1, .int 1]) n14)
    have q14 := q13.trans (Same.new (o := .tup [.int 0, .int 1, .int 1]) n14)
    have g14 := (g13.same (Same.new (o := .tup [.int 0, .int 1, .int 1]) n14)).cons (gd_tup upd_same (by show 3 ≤ 30; decide) fun y hy => by simp only [List.mem_cons, List.not_mem_nil, or_false] at hy; rcases hy with e | e | e <;> rw [e] <;> exact sim_int.tg : Gd _ (.ref t14))
    have e14 : upd G13 t14 (.tup [.int 0, .int 1, .int 1]) t14 = some (.tup [.int 0, .int 1, .int 1]) := upd_same
    revert k14 q14 g14 e14
    generalize upd G13 t14 (.tup [.int 0, .int 1, .int 1]) = G14
    intro k14 q14 g14 e14
    refine ⟨10, 18, rfl, rfl, ⟨by decide, by decide, by decide⟩, by show 2 ≤ sizeLine; decide, fun t15 n15 => ?_⟩
    have k15 := k14.trans (Same.new (o := .tup [.int 0, .int ((10 : Int) ^ (18 : Int).toNat)]) n15)
    have q15 := q14.trans (Same.new (o := .tup [.int 0, .int ((10 : Int) ^ (18 : Int).toNat)]) n15)
    have g15 := (g14.same (Same.new (o := .tup [.int 0, .int ((10 : Int) ^ (18 : Int).toNat)]) n15)).cons (gd_two upd_same sim_int sim_int : Gd _ (.ref t15))
    have e15 : upd G14 t15 (.tup [.int 0, .int ((10 : Int) ^ (18 : Int).toNat)]) t15 = some (.tup [.int 0, .int ((10 : Int) ^ (18 : Int).toNat)]) := upd_same
    revert k15 q15 g15 e15
    generalize upd G14 t15 (.tup [.int 0, .int ((10 : Int) ^ (18 : Int).toNat)]) = G15
    intro k15 q15 g15 e15
    refine ⟨by show 7 ≤ sizeLine; decide, fun t16 n16 => ?_⟩
    have k16 := k15.trans (Same.new (o := .lst [.ref t10, .ref t11, .ref t12, .str "a", d, .ref t14, .ref t15]) n16)
    have q16 := q15.trans (Same.new (o := .lst [.ref t10, .ref t11, .ref t12, .str "a", d, .ref t14, .ref t15]) n16)
    have g16 := g15.same (Same.new (o := .lst [.ref t10, .ref t11, .ref t12, .str "a", d, .ref t14, .ref t15]) n16)
    have e16 : upd G15 t16 (.lst [.ref t10, .ref t11, .ref t12, .str "a", d, .ref t14, .ref t15]) t16 = some (.lst [.ref t10, .ref t11, .ref t12, .str "a", d, .ref t14, .ref t15]) := upd_same
    revert k16 q16 g16 e16
    generalize upd G15 t16 (.lst [.ref t10, .ref t11, .ref t12, .str "a", d, .ref t14, .ref t15]) = G16
    intro k16 q16 g16 e16
    have gM : GT G16 [.ref t10, .ref t11, .ref t12, .str "a", d, .ref t14, .ref t15] := by
      refine g16.sub fun y hy => ?_
      simp only [List.mem_cons, List.not_mem_nil, or_false] at hy ⊢
      rcases hy with e | e | e | e | e | e | e
      all_goals first
        | (rw [e]; exact .inr (sim_str (by decide +kernel)))
        | (rw [e]; exact .inl (by simp))
    have all := (gO.same q16).app gM
    refine ⟨t9, t16, _, _, rfl, rfl, q16 _ _ e9, e16, by show 20 ≤ sizeLine; decide, fun R nR => ?_⟩
    have gR := all.same (Same.new (o := .lst ([.str "", .str "ab", .str "\n", .ref t1, .ref t2, .ref t3, .ref t4, .ref t5, .ref t6, .ref t7, .ref t8, .non, .int 0] ++ [.ref t10, .ref t11, .ref t12, .str "a", d, .ref t14, .ref t15])) nR)
    have kR := k16.trans (Same.new (o := .lst ([.str "", .str "ab", .str "\n", .ref t1, .ref t2, .ref t3, .ref t4, .ref t5, .ref t6, .ref t7, .ref t8, .non, .int 0] ++ [.ref t10, .ref t11, .ref t12, .str "a", d, .ref t14, .ref t15])) nR)
    have eR : upd G16 R (.lst ([.str "", .str "ab", .str "\n", .ref t1, .ref t2, .ref t3, .ref t4, .ref t5, .ref t6, .ref t7, .ref t8, .non, .int 0] ++ [.ref t10, .ref t11, .ref t12, .str "a", d, .ref t14, .ref t15])) R = some (.lst ([.str "", .str "ab", .str "\n", .ref t1, .ref t2, .ref t3, .ref t4, .ref t5, .ref t6, .ref t7, .ref t8, .non, .int 0] ++ [.ref t10, .ref t11, .ref t12, .str "a", d, .ref t14, .ref t15])) := upd_same
    revert gR kR eR
    generalize upd G16 R (.lst ([.str "", .str "ab", .str "\n", .ref t1, .ref t2, .ref t3, .ref t4, .ref t5, .ref t6, .ref t7, .ref t8, .non, .int 0] ++ [.ref t10, .ref t11, .ref t12, .str "a", d, .ref t14, .ref t15])) = G17
    intro gR kR eR
    have h17 := h0.same kR
    have nRp := ((h0.same k16).ne nR).1
    refine ⟨p, R, _, rfl, sq_of eR, nRp, by show 0 < 20; decide, by show 20 < 1000000; decide, l, h17, fun x G18 hx h18 b18 => ?_⟩
    have gx := (gR x hx).but h17 h18 b18
    have b018 := (b0.and kR).trans b18
    clear gR eR gO gM all
    have ha18 := b018 _ _ (tup_ne hH ha) ha
    have hps18 : ∀ y ∈ ps, ∃ o, Tg G18 y.1 o := fun y hy => ⟨_, ((hps y hy).but hH b018).tg⟩
    obtain ⟨c, ec⟩ : ∃ c : Nat, v = (c : Int) := ⟨v.toNat, by omega⟩
    subst ec
    have cut1 : cutV (ps.map (·.1)) none (some (c : Int)) = (ps.take c).map (·.1) := by
      rw [cutV_to (by omega), List.map_take, Int.toNat_natCast]
    have cut2 : cutV (ps.map (·.1)) (some ((c : Int) + 1)) none = (ps.drop (c + 1)).map (·.1) := by
      rw [cutV_from (by omega), List.map_drop]
      rfl
    have cut3 : cutV (ps.map (·.1)) (some (c : Int)) none = (ps.drop c).map (·.1) := by
      rw [cutV_from (by omega), List.map_drop, Int.toNat_natCast]
    refine ⟨.ref a, rfl, .int (c : Int), rfl, (c : Int), rfl, a, _, rfl, ha18, fun s1 F1 kf1 es1 => ?_⟩
    rw [cut1] at es1
    refine ⟨x, rfl, by show 1 ≤ sizeLine; decide, fun s2 ns2 => ?_⟩
    have kf2 := Same.new (o := .tup [x]) ns2
    refine ⟨s1, s2, _, _, rfl, rfl, kf2 _ _ es1, upd_same, ?_, fun s3 F3 kf3 es3 => ?_⟩
    · rw [List.length_map, List.length_take]
      show _ + 1 ≤ 1000
      omega
    have k183 := (kf1.trans kf2).trans kf3
    clear kf1 kf2 kf3 es1
    refine ⟨.ref a, rfl, .int (c : Int), rfl, _, _, rfl, rfl, _, rfl, a, _, rfl, k183 _ _ ha18, fun s4 F4 kf4 es4 => ?_⟩
    rw [cut2] at es4
    refine ⟨s3, s4, _, _, rfl, rfl, kf4 _ _ es3, es4, ?_, fun s5 F5 kf5 es5 => ?_⟩
    · rw [List.length_append, List.length_map, List.length_map, List.length_take, List.length_drop]
      show _ + 1 + _ ≤ 1000
      omega
    have k185 := (k183.trans kf4).trans kf5
    clear k183 kf4 kf5 es3 es4
    refine ⟨.ref a, rfl, .int (c : Int), rfl, _, rfl, a, _, rfl, k185 _ _ ha18, fun s6 F6 kf6 es6 => ?_⟩
    rw [cut1] at es6
    refine ⟨x, rfl, by show 1 ≤ sizeLine; decide, fun s7 ns7 => ?_⟩
    have kf7 := Same.new (o := .tup [x]) ns7
    refine ⟨s6, s7, _, _, rfl, rfl, kf7 _ _ es6, upd_same, ?_, fun s8 F8 kf8 es8 => ?_⟩
    · rw [List.length_map, List.length_take]
      show _ + 1 ≤ 1000
      omega
    have k58 := (kf6.trans kf7).trans kf8
    clear kf6 kf7 kf8 es6
    refine ⟨.ref a, rfl, .int (c : Int), rfl, _, rfl, a, _, rfl, k58 _ _ (k185 _ _ ha18), fun s9 F9 kf9 es9 => ?_⟩
    rw [cut3] at es9
    refine ⟨s8, s9, _, _, rfl, rfl, kf9 _ _ es8, es9, ?_, fun s10 F10 kf10 es10 => ?_⟩
    · rw [List.length_append, List.length_map, List.length_map, List.length_take, List.length_drop]
      show _ + 1 + _ ≤ 1000
      omega
    have k510 := (k58.trans kf9).trans kf10
    clear k58 kf9 kf10 es8 es9
    refine ⟨.ref a, rfl, a, _, rfl, .inr (SqT.of (k510 _ _ (k185 _ _ ha18))), fun s11 ns11 => ?_⟩
    have kf11 := Same.new (o := .lst (ps.map (·.1))) ns11
    have es11 : upd F10 s11 (.lst (ps.map (·.1))) s11 = some (.lst (ps.map (·.1))) := upd_same
    refine ⟨x, rfl, by show 4 ≤ sizeLine; decide, fun S nS => ?_⟩
    have kS := Same.new (o := .lst [.ref s5, .ref s10, .ref s11, x]) nS
    have eS : upd (upd F10 s11 (.lst (ps.map (·.1)))) S (.lst [.ref s5, .ref s10, .ref s11, x]) S = some (.lst [.ref s5, .ref s10, .ref s11, x]) := upd_same
    have k1014 := kf11.trans kS
    have es11' := kS _ _ es11
    revert k1014 es11' eS
    generalize upd (upd F10 s11 (.lst (ps.map (·.1)))) S (.lst [.ref s5, .ref s10, .ref s11, x]) = F14
    intro eS k1014 es11'
    refine ⟨.ref p, rfl, .ref S, rfl, .ref S, rfl, S, _, 0, .ref s5, rfl, rfl, sq_of eS, rfl, .ref S, rfl, S, _, 1, .ref s10, rfl, rfl, sq_of eS, rfl, by show 2 ≤ sizeLine; decide, fun s12 ns12 => ?_⟩
    have k12' := Same.new (o := .lst [.ref s5, .ref s10]) ns12
    refine ⟨S, s12, _, _, rfl, rfl, k12' _ _ eS, upd_same, by show 6 ≤ sizeLine; decide, fun R2 nR2 => ?_⟩
    have kR2 := Same.new (o := .lst ([.ref s5, .ref s10, .ref s11, x] ++ [.ref s5, .ref s10])) nR2
    have eR2 : upd (upd F14 s12 (.lst [.ref s5, .ref s10])) R2 (.lst ([.ref s5, .ref s10, .ref s11, x] ++ [.ref s5, .ref s10])) R2 = some (.lst ([.ref s5, .ref s10, .ref s11, x] ++ [.ref s5, .ref s10])) := upd_same
    have k14 := k12'.trans kR2
    have k1820 := ((k185.trans k510).trans k1014).trans k14
    have nR2p := ((h18.same (((k185.trans k510).trans k1014).trans k12')).ne nR2).1
    have f5 := k14 _ _ (k1014 _ _ (k510 _ _ es5))
    have f10 := k14 _ _ (k1014 _ _ es10)
    have f11 := k14 _ _ es11'
    revert k1820 f5 f10 f11 eR2
    generalize upd (upd F14 s12 (.lst [.ref s5, .ref s10])) R2 (.lst ([.ref s5, .ref s10, .ref s11, x] ++ [.ref s5, .ref s10])) = F20
    intro eR2 k1820 f5 f10 f11
    have h20 := h18.same k1820
    refine ⟨p, R2, _, rfl, sq_of eR2, nR2p, by show 0 < 6; decide, by show 6 < 1000000; decide, l, h20, fun y G21 hy h21 b21 => ?_⟩
    have bAll := (b018.and k1820).trans b21
    have gx21 := (gx.same k1820).but h20 h21 b21
    have tgx : ∀ z ∈ ps, ∃ o, Tg G21 z.1 o := fun z hz => by
      obtain ⟨o, ho⟩ := hps18 z hz
      exact ⟨o, Tg.but (ho.same k1820) h20 h21 b21⟩
    have mk : ∀ {s : Addr} {us ws : List Thing}, F20 s = some (.tup (us.map (·.1) ++ [x] ++ ws.map (·.1))) → (∀ z ∈ us, z ∈ ps) → (∀ z ∈ ws, z ∈ ps) → us.length ≤ 100 → ws.length ≤ 100 → ∃ r, Th G21 (.ref s) r := fun {s us ws} e hu hw lu lw => by
      have e21 := b21 _ _ (tup_ne h20 e) e
      obtain ⟨qs, eq, hqs⟩ := things_of (H := G21) (ys := us.map (·.1) ++ [x] ++ ws.map (·.1)) fun z hz => by
        rcases List.mem_append.mp hz with hz | hz
        · rcases List.mem_append.mp hz with hz | hz
          · obtain ⟨w0, hw0, rfl⟩ := List.mem_map.mp hz
            exact tgx w0 (hu w0 hw0)
          · rw [List.mem_singleton.mp hz]
            exact gx21.tg
        · obtain ⟨w0, hw0, rfl⟩ := List.mem_map.mp hz
          exact tgx w0 (hw w0 hw0)
      refine ⟨some qs, .tup (by rw [eq]; exact e21) ?_ hqs⟩
      have := congrArg List.length eq
      rw [List.length_map, List.length_append, List.length_append, List.length_map, List.length_map] at this
      have l1 : [x].length = 1 := rfl
      omega
    have t5 := mk f5 (fun z hz => List.mem_of_mem_take hz) (fun z hz => List.mem_of_mem_drop hz) (by rw [List.length_take]; omega) (by rw [List.length_drop]; omega)
    have t10 := mk f10 (fun z hz => List.mem_of_mem_take hz) (fun z hz => List.mem_of_mem_drop hz) (by rw [List.length_take]; omega) (by rw [List.length_drop]; omega)
    have fin : (∃ r, Th G21 y r) → Q y G21 := fun ⟨r, hr⟩ => q y r G21 hr h21 bAll
    refine fin ?_
    simp only [List.mem_append, List.mem_cons, List.not_mem_nil, or_false] at hy
    rcases hy with (e | e | e | e) | (e | e)
    · rw [e]; exact t5
    · rw [e]; exact t10
    · rw [e]
      have ns : s11 ≠ p := fun w => by
        have z := b0
        have := (h18.same (k185.trans k510)).ne ns11
        exact this.1 w
      exact ⟨_, .no (.lst (b21 _ _ ns f11)) (by decide)⟩
    · rw [e]; exact gx21.th
    · rw [e]; exact t5
    · rw [e]; exact t10
end
end LawK
set_option maxHeartbeats 4000000
/-! The law's own def, called by the caller of claims alone: what runs around it is known (no repr is under way). -/
namespace Ev
open PySem PySem.Spec PyProof.Rows L2
/-- the def at f keeps sp, called where A runs around it -/
structure FnAt (A : Around) (P : Program) (w : World) (K : PySem.W.Frag) (mg : Str → Option Value) (base : Heap) (CX : CXT) (f : Addr) (fd : FuncData) (ps : List Str) (sp : Sp) : Prop where
  len : ∀ vs H Q E, sp vs H Q E → vs.length = ps.length
  run : ∀ (outer : List Env) (s : Shared) (H : Hp) (args : Args) (us : List Value) (vs : List V) (Q : VK) (E : XK), Env0 P w K mg base A outer s H → BindsTo s fd args (ps.zip us) → Vals vs us → sp vs H Q E →
    codeAny (model P w) A (.call (.ref f) args) (CR CX outer P w H s Q E) s
section
variable {A : Around} {CX : CXT} {P : Program} {w : World} {K : PySem.W.Frag} {mg : Str → Option Value} {base : Heap} {k : Nat}
theorem fun_at {x qual : Str} {st : Stmt} {f : Addr} {fd : FuncData} {N ps : List Str} {sp : Sp} (F : Fun K x qual st f fd) (S : FnScope N ps (defScope st)) (hr : Room (k + 1) A) (len : ∀ vs H Q E, sp vs H Q E → vs.length = ps.length)
    (hbody : ∀ (cdv : Value) (outer : List Env) (s : Shared) (H : Hp) (vs : List V) (Q : VK) (E : XK), Room k (A.deeper (envOfC qual (defScope st) s.heap.objs.size f cdv)) → sp vs H Q E →
      ∃ t, PSs (cxOf CX P w K mg base N qual (defScope st) f cdv A outer s H E).nox (defBody st) t ∧ t { nx := fun _ H' => Q .non H', rt := Q } (start N vs) H) : FnAt A P w K mg base CX f fd ps sp := by
  obtain ⟨oc, od, kV, doc, pm, an, cdv, ct, osl, rfl, lk, hcd⟩ := F.ex
  refine ⟨len, fun outer s H args us vs Q E e0 hb r hsp => ?_⟩
  have lim : s.heap.NoLimit := e0.mod.nolimit.keeps fun b o e => (e0.bs b o e).1
  have KX : K.In s.heap := e0.mod.kin.keeps fun b o e => (e0.bs b o e).1
  have kinds : ∀ y ∈ ps.zip us, (defScope st).names.lookup y.1 = some .local ∨ ((defScope st).names.lookup y.1 = some .cell ∧ ((cellsFrom (s.heap.objs.size + 1) (defScope st).names []).lookup y.1).isSome = true) := by
    rintro ⟨n, v⟩ hy
    exact (S.par n (List.of_mem_zip hy).1).imp id fun q => ⟨q, PySem.W.cellsFrom_some _ _ _ (.inl q)⟩
  refine codeAny_call_function hr.depth (KX _ _ lk) rfl S.co S.gen rfl (PySem.W.codeRec_of KX hcd) (hb _ _ _ _ (wpAny_newFunctionEnv_cells S.kind kinds fun env he s1 x => ?_))
  subst he
  obtain ⟨t, ht, hq⟩ := hbody cdv outer s H vs Q E (hr.deeper _) hsp
  have I := inv_start (CX := CX) (P := P) (w := w) (mg := mg) (base := base) (E := E) S hr.hd e0 (len _ _ _ _ hsp) r x
  refine ⟨lim.keeps x.toInCall.keep, codeAny_func (wpAny_mono (ht.nox.run [] s1 (start N vs) H _ I hq) (fun fl s' hs => ?_) fun e s' hs => hs)⟩
  cases fl with
  | ret u =>
    obtain ⟨v, σ', H', J, rv, q⟩ := hs
    exact ⟨v, H', J.os, J.bare, J.base, J.hok, rv, q⟩
  | next =>
    obtain ⟨σ', H', J, q⟩ := hs
    exact ⟨V.non, H', J.os, J.bare, J.base, J.hok, rfl, q⟩
  | brk => exact hs.elim fun _ z => z.elim fun _ y => y.2.elim
  | cont => exact hs.elim fun _ z => z.elim fun _ y => y.2.elim
end
section
variable {P : Program} {w : World} {K : PySem.W.Frag} {mg mb : Str → Option Value} {fa a : Addr} {fd : FuncData} {x : Str} {sp : Sp} {s₁ : Shared} {vs : List Value} {ns : List Int}
/-- from one abstract heap: nothing is tracked but, perhaps, the script -/
theorem law_at0 {H : Hp} (KX : K.In s₁.heap) (hns : s₁.heap.Ns mainGlobals mg) (hb : s₁.heap.Ns builtinsNs mb) (hbb : ∀ y : Str, y ≠ "__name__" → mb y = bootBuiltins y) (hlim : s₁.heap.NoLimit) (hg : s₁.gens = #[])
    (ha : s₁.heap.get? a = some { cls := .type "list", data := .seq vs.toArray }) (F : ∀ base : Heap, K.In base → base.Ns mainGlobals mg → FnAt callerA P w K mg base CX0 fa fd [x] sp)
    (hbind : ∀ (s : Shared) (u : Value), BindsTo s fd ⟨[u], []⟩ [(x, u)]) (hO : Only H) (hok : HOk P w H s₁.heap) (hA : ∀ b, H b ≠ none → b = a) (hK : H a ≠ none → K.lookup a = none)
    (hsp : sp [.ref a] H (fun v _ => v = .bl true) fun _ _ _ => False) :
    codeAny (model P w) callerA (.call (.ref fa) ⟨[.ref a], []⟩) (fun r s' => r = .ok (.ret (.bool true)) ∧ OldK s₁.heap s'.heap ∧ s'.os = s₁.os ∧ AllBare s'.gens) s₁ := by
  have off : ∀ {b : Addr} {o : Obj}, s₁.heap.get? b = some o → o ≠ { cls := .type "list", data := .seq vs.toArray } → H b = none := fun {b o} e n => by
    refine Classical.byContradiction fun z => n ?_
    have eb := hA b z
    rw [eb, ha] at e
    exact (Option.some.inj e).symm
  have nsK : ∀ {b : Addr} {m : Str → Option Value}, s₁.heap.Ns b m → (hidT s₁.heap H).Ns b m := fun {b m} ⟨o, es, ep, e, d, r⟩ => ⟨o, es, ep, hidT_get e (off e fun z => by rw [z] at d; cases d), d, r⟩
  have hKb : K.In (hidT s₁.heap H) := fun b o e => hidT_get (KX b o e) (Classical.byContradiction fun z => by
    have eb := hA b z
    rw [eb] at e z
    rw [hK z] at e
    cases e)
  have hM : Mod K mg (hidT s₁.heap H) := ⟨hKb, nsK hns, ⟨mb, nsK hb, hbb⟩, hlim.elim fun mc z => ⟨mc, nsK z.1, z.2⟩⟩
  have e0 : Env0 P w K mg (hidT s₁.heap H) callerA [] s₁ H := ⟨rfl, hM, fun b o e => of_hidT e, Nat.le_of_eq (hidT_size _ _), trivial, fun b hb => absurd (show b ∈ ([] : List Addr) from hb) (by simp), hok, .of_eq hg⟩
  refine codeAny_mono ((F _ hKb (nsK hns)).run [] s₁ H ⟨[.ref a], []⟩ [.ref a] [.ref a] _ _ e0 (hbind s₁ (.ref a)) (.cons rfl .nil) hsp) fun r s' h => ?_
  rcases r with e | fl
  · exact False.elim h
  cases fl with
  | next => exact False.elim h
  | brk => exact False.elim h
  | cont => exact False.elim h
  | ret u =>
    obtain ⟨v, H', os, bare, un, hok', r', rfl⟩ := h
    obtain rfl : u = Value.bool true := r'
    refine ⟨rfl, OldK.of_keep fun b o e => ?_, os, bare⟩
    rcases hO b with z | ⟨ob, xs, z⟩
    · exact un.keep b o e z (fun y => absurd (show b ∈ ([] : List Addr) from y) (by simp)) (by simp)
    · have e1 := (hok b _ z).1
      rw [e] at e1
      cases e1
      exact (hok' b _ (un.frzs b _ _ z)).1
theorem law_at (KX : K.In s₁.heap) (hns : s₁.heap.Ns mainGlobals mg) (hb : s₁.heap.Ns builtinsNs mb) (hbb : ∀ y : Str, y ≠ "__name__" → mb y = bootBuiltins y) (hlim : s₁.heap.NoLimit) (hg : s₁.gens = #[])
    (ha : s₁.heap.get? a = some { cls := .type "list", data := .seq vs.toArray }) (hi : IntsAre vs ns) (hl : ns.length ≤ sizeLine)
    (F : ∀ base : Heap, K.In base → base.Ns mainGlobals mg → FnAt callerA P w K mg base CX0 fa fd [x] sp) (hbind : ∀ (s : Shared) (u : Value), BindsTo s fd ⟨[u], []⟩ [(x, u)])
    (hsp : ∀ H : Hp, Only H → SqL K H a (ns.map V.int) → sp [.ref a] H (fun v _ => v = .bl true) fun _ _ _ => False) :
    codeAny (model P w) callerA (.call (.ref fa) ⟨[.ref a], []⟩) (fun r s' => r = .ok (.ret (.bool true)) ∧ OldK s₁.heap s'.heap ∧ s'.os = s₁.os ∧ AllBare s'.gens) s₁ := by
  have rv := vals_ints hi
  cases hk : K.lookup a with
  | some o =>
    have e := KX a o hk
    rw [ha] at e
    cases e
    have hO : Only (fun _ => none) := fun _ => .inl rfl
    exact law_at0 KX hns hb hbb hlim hg ha F hbind hO (fun b u z => by cases z) (fun b z => absurd rfl z) (fun z => absurd rfl z)
      (hsp _ hO (.inr ⟨_, vs.toArray, _, hk, rfl, rfl, rfl, by rw [List.size_toArray, hi.length]; exact hl, by simpa using rv⟩))
  | none =>
    have same : upd (fun _ => none) a (.frz { cls := .type "list", data := .seq vs.toArray } (.lst (ns.map V.int))) a = some (.frz { cls := .type "list", data := .seq vs.toArray } (.lst (ns.map V.int))) := upd_same
    have hO : Only (upd (fun _ => none) a (.frz { cls := .type "list", data := .seq vs.toArray } (.lst (ns.map V.int)))) := fun b => by
      by_cases h : b = a
      · exact .inr ⟨_, _, by rw [h]; exact same⟩
      · exact .inl (by rw [upd_ne h])
    refine law_at0 KX hns hb hbb hlim hg ha F hbind hO (fun b u z => ?_) (fun b z => ?_) (fun _ => hk) (hsp _ hO (.inl (.inr ⟨_, same⟩)))
    · by_cases h : b = a
      · subst h
        rw [same] at z
        cases z
        exact ⟨ha, by rw [List.length_map]; exact hl, vs, _, rv, ha⟩
      · rw [upd_ne h] at z
        cases z
    · exact Classical.byContradiction fun h => z (by rw [upd_ne h])
end
/-- the end of a law's row -/
theorem walk_at {l : PySem.W.OpenLaw} {n : Nat} {q : Program} {loose : List Str} {XP : (Str → Option Value) → Heap → Prop} {YP : World → Heap → Prop} {d : DefRec} {K : Params → PySem.W.Frag} {sp : PySem.W.Frag → Sp} {x : Str}
    (hn : l.most = some n) (hn2 : n ≤ sizeLine) (hdf : d.params.defaults = []) (hY : ∀ (w : World) (h : Heap), YP w h → (K w.params).In h)
    (F : ∀ (w : World) (mg : Str → Option Value) (fa : Addr) (h : Heap), (K w.params).In h → h.Ns mainGlobals mg → mg d.name = some (.ref fa) →
      ∃ fd : FuncData, (∀ (s : Shared) (u : Value), BindsTo s fd ⟨[u], []⟩ [(x, u)]) ∧ ∀ base : Heap, (K w.params).In base → base.Ns mainGlobals mg → FnAt callerA l.prog w (K w.params) mg base CX0 fa fd [x] (sp (K w.params)))
    (hsp : ∀ (K : PySem.W.Frag) (H : Hp) (a : Addr) (ns : List Int), ns.length ≤ n → Only H → SqL K H a (ns.map V.int) → sp K [.ref a] H (fun v _ => v = .bl true) fun _ _ _ => False) :
    PySem.W.WalkO q loose XP YP l.row.toRowW d [] (fun f vs => PySem.call f vs) :=
  Att.attach_call hn hdf fun w s₀ s₁ mg mb fa o pm cd doc a vs ns G Y ho hd hcd hmg hobj hints hlen hg => by
    obtain ⟨fd, hb, hF⟩ := F w mg fa _ (hY w _ Y) G.T.g hmg
    exact law_at (hY w _ Y) G.T.g G.T.b G.T.builtins G.T.nolimit hg hobj hints (Nat.le_trans hlen hn2) hF hb fun H hO hS => hsp _ H a ns hlen hO hS
/-- C() of an own error class without an __init__ of its own -/
theorem pe_excP {X : Cx} {x : Str} {C : Addr} {p pos : Pos} {bmB : List Value} {B newId initId : String} (F : ExcBaseFacts B newId initId bmB) (q : PySem.W.excIn X.K C bmB newId = true) (kC : PySem.W.keepIn X.K (.ref C) = true) (hg : Gl X x) (hm : X.mg x = some (.ref C))
    (hdb : (x == ("__debug__" : Str)) = false := by decide) : PE X (.Call (.Name x p) [] [] pos) (fun _ H Q => ∀ a, H a = none → Q (.ref a) (upd H a (exo a C none))) := by
  refine ⟨fun pins s σ H Q I h => ?_⟩
  refine wpAny_Call_Name_kw (ld_glob I hg hm ?_ hdb)
  refine PySem.W.callWith_K0 I.kIn kC ?_
  show wpAny _ _ (call (.ref C) []) _ _ _
  obtain ⟨bm, N, nm, qn, bs, hdct, sn, sub, ab, col, dd, k0, k1, k2, k3, k5, mN, hC, hN, hni, T⟩ := exc_obj I.kIn q
  refine wpAny_call_exc_subT F T hC hN hni (fun h' a hm => ?_) (by show 0 ≤ sizeLine; decide)
  have hn : H a = none := I.hok.gone hm.new
  obtain ⟨t, ht, _, _⟩ := hm.there
  exact ⟨.ref a, upd H a (exo a C none), I.laidN hm.keeps hm.new hn (exo_ok ht), rfl, h a hn⟩
end Ev
set_option maxHeartbeats 4000000
/-! Objects of an own class, made where the making may raise; == by an own __eq__, with anything. -/
namespace Ev
open PySem PySem.Spec PyProof.Rows L2
section
variable {X : Cx} {CX : CXT} {k : Nat} {f C : Addr} {fd : FuncData} {ps : List Str} {sp : Sp} {x : Str} {p pos : Pos} {e : Expr} {es : List Expr} {t : TA}
theorem run_mkAt {pins : List (Addr × Obj)} {σ : L2.St} {H : Hp} {s : Shared} {Q : VK} {us : List Value} {vs : List V} {E : XK} (M : Mk X.K C f) (F : FnOk X.prog X.w X.K X.mg X.base CX k f fd ps sp) (hr : Room (k + 1) X.A) (hb : Binds X.K fd ps []) (hx : PassesAt CX X σ E) (I : Inv X pins σ H s) (r : Vals vs us)
    (h : ∀ a dx, H a = none → H dx = none → dx ≠ a → sp (.ref a :: vs) (upd (upd H dx (.own a)) a (.ins C dx [])) (fun v H2 => v = .non ∧ Q (.ref a) H2) E) :
    wpAny (model X.prog X.w) X.A (call (.ref C) us) (EP X pins σ Q) X.xe s := by
  have q := h (s.heap.objs.size + 1) s.heap.objs.size (I.hok.fresh (Nat.le_succ _)) (I.hok.fresh (Nat.le_refl _)) (Nat.ne_of_lt (Nat.lt_succ_self _))
  have J := Inv.made (C := C) I
  have rv : Vals (V.ref (s.heap.objs.size + 1) :: vs) (Value.ref (s.heap.objs.size + 1) :: us) := .cons rfl r
  have len := F.len _ _ _ _ q
  have lu : (Value.ref (s.heap.objs.size + 1) :: us ++ []).length = ps.length := by
    rw [List.append_nil, ← rv.length]
    exact len
  have bnd := hb _ (Value.ref (s.heap.objs.size + 1) :: us) J.kIn lu
  rw [List.append_nil] at bnd
  have go := F.run _ X.stack _ _ ⟨Value.ref (s.heap.objs.size + 1) :: us, []⟩ (Value.ref (s.heap.objs.size + 1) :: us) _ _ E (hr.make C us []) (J.env0.make C us []) bnd rv q
  refine wpAny_call (make_map (f := f) I.kIn M.makes M.init (beq_iff_eq.mp M.fn) (codeAny_mono go ?_))
  intro res s' got
  match res, got with
  | .error er, got => exact hx pins _ _ er s' J got
  | .ok (.ret u), got =>
    obtain ⟨v, H', I3, ru, rfl, q3⟩ := J.after got
    exact ⟨ru, ⟨V.ref (s.heap.objs.size + 1), H', I3, rfl, q3⟩⟩
  | .ok .next, got => exact got.elim
  | .ok .brk, got => exact got.elim
  | .ok .cont, got => exact got.elim
def tMkS (C : Addr) (sp : Sp) (E : L2.St → XK) (t : TA) : TE := fun σ H Q => t σ H fun vs H1 => ∀ a dx, H1 a = none → H1 dx = none → dx ≠ a →
  sp (.ref a :: vs) (upd (upd H1 dx (.own a)) a (.ins C dx [])) (fun v H2 => v = .non ∧ Q (.ref a) H2) (E σ)
theorem pe_mkS {E : L2.St → XK} (M : Mk X.K C f) (F : FnOk X.prog X.w X.K X.mg X.base CX k f fd ps sp) (hr : Room (k + 1) X.A) (hg : Gl X x) (hm : X.mg x = some (.ref C)) (hb : Binds X.K fd ps []) (hx : ∀ σ, PassesAt CX X σ (E σ)) (ha : PA X (e :: es) t)
    (hdb : (x == ("__debug__" : Str)) = false := by decide) (he : starEach (e :: es) X.env = (false, eval e X.env) :: starEach es X.env := by rfl) (hpl : (backTo pos (starEach es X.env)).any (·.1) = false := by rfl) :
    PE X (.Call (.Name x p) (e :: es) [] pos) (tMkS C sp E t) := by
  constructor
  intro pins s σ H Q I h
  refine wpAny_Call_Name_kw (ld_glob I hg hm ?_ hdb)
  refine PySem.W.callWith_K (h₀ := X.base) I.ok.mod.kin M.kp (thn (ha.run pos pins s σ H _ I h) ?_) he hpl
  rintro us s1 ⟨vs, H1, I1, r, q⟩
  exact ⟨I1.kIn, run_mkAt M F hr hb (hx σ) I1 r q⟩
theorem passL_at (σ : L2.St) : PassesAt (L2.CX X.prog X.w) X σ E0 := fun pins H s e s' I h => passL pins σ H s e s' I h
/-- x == y, x an object of the class at C -/
def rEqO (C : Addr) (K : PySem.W.Frag) (sp : Sp) (E : XK) : R2 := fun x y H Q => ∃ a dx fs t, x = .ref a ∧ H a = some (.ins C dx fs) ∧ TyX K H y t ∧ PySem.W.notFirst K C t = true ∧ sp [x, y] H (fun v H' => (∃ b, v = .bl b) ∧ Q v H') E
theorem op_eqO {E : XK} (F : FnOk X.prog X.w X.K X.mg X.base CX k f fd ps sp) (hs : PySem.W.findIn X.K (.ref C) "__eq__" = some (some (.ref f))) (hf : PySem.W.isFn X.K (.ref f) = true) (hb : Binds X.K fd ps []) (hx : Passes CX X E) (hr : Room k X.A) : OpR X (compareOp .Eq) (rEqO C X.K sp E) := by
  intro pins s σ H x y v u Q I rx ry h
  obtain ⟨a, dx, fs, t, rfl, ha, ty, nf, q⟩ := h
  cases rx
  obtain ⟨mA, J, _⟩ := ins_get I.hok ha
  obtain ⟨od, J, _⟩ := J.look
  obtain ⟨m, hF⟩ := I.fr
  obtain ⟨P, Z, hp, _⟩ := kit_of I ry ty
  show wpAny (model X.prog X.w) X.A (richCompare .Eq _ u) (EP X pins σ Q) X.xe s
  refine PySem.W.cmp_K (op := .Eq) (tb := t) hr.units0 hF I.ok.mod.kin J (Z.ty _ _ I.kIn hp) nf hs hf ?_
  have len := F.len _ _ _ _ q
  have rv : Vals [V.ref a, y] [Value.ref a, u] := .cons rfl (.cons ry .nil)
  have bnd := hb s [Value.ref a, u] I.kIn (by simpa using len)
  have go := F.run X.A X.stack s H ⟨[Value.ref a, u], []⟩ [Value.ref a, u] [V.ref a, y] _ E hr I.env0 (by simpa using bnd) rv q
  refine wpAny_call (codeAny_mono go ?_)
  intro res s' got
  match res, got with
  | .error er, got => exact hx pins σ H s er s' I got
  | .ok (.ret w), got =>
    obtain ⟨z, H', I', rz, ⟨b, rfl⟩, q'⟩ := I.after got
    cases rz
    exact ⟨.bl b, H', I', rfl, q'⟩
  | .ok .next, got => exact got.elim
  | .ok .brk, got => exact got.elim
  | .ok .cont, got => exact got.elim
end
end Ev
set_option maxHeartbeats 4000000
/-! A text read from its end. -/
namespace Ev
open PySem PySem.Spec PyProof.Rows L2
def revC (z : Str) : List Nat := (List.range z.length).map fun k => z.cps.getD (z.length - 1 - k) 0
def revZ (z : Str) : Str := SX.S (revC z)
theorem rev_pick (z : Str) : (Builtin.Str.strSliceIndices none none (-1) z.length).filterMap (z.cps[·]?) = revC z := by
  rw [picked_rev, filterMap_get, List.map_map]
  · rfl
  · intro i hi
    obtain ⟨k, hk, rfl⟩ := List.mem_map.mp hi
    have hk' := List.mem_range.mp hk
    show z.length - 1 - k < z.length
    omega
theorem revC_len (z : Str) : (revC z).length = z.length := by
  unfold revC
  rw [List.length_map, List.length_range]
theorem revZ_len (z : Str) : (revZ z).length = z.length := (SX.S_len _).trans (revC_len z)
theorem revC_mem {z : Str} {c : Nat} (h : c ∈ revC z) : c ∈ z.cps.toList := by
  obtain ⟨k, hk, rfl⟩ := List.mem_map.mp h
  have hk' := List.mem_range.mp hk
  have hi : z.length - 1 - k < z.cps.size := by
    show z.length - 1 - k < z.length
    omega
  have e : z.cps.getD (z.length - 1 - k) 0 = z.cps[z.length - 1 - k] := by simp [Array.getD, hi]
  rw [e]
  exact Array.getElem_mem_toList hi
theorem sgB_rev {z : Str} (h : sgB z = true) : sgB (revZ z) = true := List.all_eq_true.mpr fun c hc => sgB_mem h (revC_mem hc)
def tRevS (te : TE) : TE := fun σ H Q => te σ H fun x H1 => ∃ z : Str, x = .str z ∧ z.length ≤ sizeLine ∧ Q (.str (revZ z)) H1
theorem pe_revS {X : Cx} {e : Expr} {te : TE} {k : Nat} {p1 p2 p3 pos : Pos} (he : PE X e te) :
    PE X (.Subscript e (.Slice none none (some (.UnaryOp .USub (.Constant (.int 1) k p1) p2)) p3) pos) (tRevS te) := by
  constructor
  intro pins s σ H Q I h
  apply Subscript_
  refine thn (he.run pins s σ H _ I h) ?_
  rintro v s1 ⟨x, H1, I1, r1, z, rfl, hz, q⟩
  obtain ⟨t, rfl⟩ := r1
  have hst : PO X (some (.UnaryOp .USub (.Constant (.int 1) k p1) p2)) _ := po_some (pe_un un_neg pe_int)
  apply wpAny_Slice
  refine thn (po_none.run pins s1 σ H1 (fun o H2 => o = none ∧ H2 = H1) I1 ⟨rfl, rfl⟩) ?_
  rintro vl s2 ⟨l, H2, I2, pl, rfl, rfl⟩
  refine thn (po_none.run pins s2 σ _ (fun o H3 => o = none ∧ H3 = H2) I2 ⟨rfl, rfl⟩) ?_
  rintro vu s3 ⟨u, H3, I3, pu, rfl, rfl⟩
  refine thn (hst.run pins s3 σ _ (fun o H4 => o = some (-1) ∧ H4 = H3) I3 ⟨1, rfl, -1, rfl, rfl, rfl⟩) ?_
  rintro vs s4 ⟨o, H4, I4, pz, rfl, rfl⟩
  have I5 := I4.kept (t' := s4.toks) (h' := s4.heap.push { cls := .type "slice", data := .fields #[vl, vu, vs] }) fun b ob g => Heap.get?_push_of_some _ g
  obtain ⟨l', rfl, el⟩ := IsPart.raw pl
  obtain ⟨u', rfl, eu⟩ := IsPart.raw pu
  obtain ⟨w', rfl, ew⟩ := IsPart.raw pz
  refine tail_any (ops := [.str z t, .ref s4.heap.objs.size]) (typeIs_str _ _ _) F.slot_str_getitem.lookup ?_ (by with_unfolding_all rfl)
  have e1 : ((w'.map (·.1)).getD 1 == 1) = false := by rw [ew]; rfl
  have e0 : ((w'.map (·.1)).getD 1 == 0) = false := by rw [ew]; rfl
  refine wpAny_getItem_str_slice (l := l') (u := u') (st := w') (Heap.IsSliceOf.new ..) e0 ?_
  have em : sliceMade z t l' u' w' = Made.str (revZ z) := by
    unfold sliceMade
    rw [e1, Bool.false_and, if_neg (by decide)]
    have e2 : slicePicked z l' u' w' = Builtin.Str.strSliceIndices none none (-1) z.length := by
      unfold slicePicked
      rw [el, eu, ew]
      rfl
    rw [e2, rev_pick]
    rfl
  rw [em]
  refine ⟨?_, .str (revZ z), H4, I5.tok _, ⟨_, rfl⟩, q⟩
  rw [revZ_len]
  exact hz
end Ev
set_option maxHeartbeats 4000000
/-! Tuples of texts as data. -/
namespace Ev
open PySem PySem.Spec PyProof.Rows L2
theorem dp_strs {K : PySem.W.Frag} {H : Hp} : ∀ ts : List Str, DpAll K H (ts.map V.str) (ts.map PyData.str)
  | [] => .nil
  | t :: ts => .cons (.str t) (dp_strs ts)
theorem eqv_strs : ∀ ts us : List Str, PyData.eqvAll (ts.map PyData.str) (us.map PyData.str) = decide (ts = us)
  | [], [] => by rw [decide_eq_true rfl]; rfl
  | [], u :: us => by rw [decide_eq_false (by simp)]; rfl
  | t :: ts, [] => by rw [decide_eq_false (by simp)]; rfl
  | t :: ts, u :: us => by
    show (PyData.eqv (.str t) (.str u) && PyData.eqvAll (ts.map PyData.str) (us.map PyData.str)) = _
    rw [eqv_strs ts us]
    show ((t == u) && _) = _
    by_cases e : t = u
    · subst e
      by_cases e2 : ts = us
      · subst e2
        simp
      · simp [e2]
    · have : (t == u) = false := by simpa using e
      rw [this, Bool.false_and, decide_eq_false fun z => e (by injection z)]
theorem strOk_sg {t : Str} (h : sgB t = true) : PyData.strOk t = true := by
  have g : ∀ c ∈ t.cps.toList, c ≤ 126 := fun c hc => by
    have := sgB_mem h hc
    unfold sgC at this
    exact of_decide_eq_true (Bool.and_eq_true_iff.mp this).2
  show t.cps.all (· < 0x110000) = true
  rw [← Array.all_toList, List.all_eq_true]
  intro c hc
  have := g c hc
  exact decide_eq_true (by omega)
theorem shaped_strs {ts : List Str} (h : ∀ t ∈ ts, sgB t = true) : SeqAt.shaped (.tuple (ts.map PyData.str)) = true := by
  have h1 : ∀ us : List Str, (∀ t ∈ us, sgB t = true) → PyData.canLayAll0 (us.map PyData.str) = true := fun us hu => by
    induction us with
    | nil => rfl
    | cons u us ih =>
      show (PyData.strOk u && PyData.canLayAll0 (us.map PyData.str)) = true
      rw [strOk_sg (hu u (by simp)), ih fun t ht => hu t (List.mem_cons_of_mem _ ht)]
      rfl
  have h2 : ∀ us : List Str, PyData.depthAll (us.map PyData.str) ≤ 1 := fun us => by
    induction us with
    | nil => exact Nat.zero_le _
    | cons u us ih =>
      simp only [List.map_cons, PyData.depthAll, PyData.depth]
      omega
  unfold SeqAt.shaped
  have a : (PyData.tuple (ts.map PyData.str)).canLay0 = true := h1 ts h
  have b : (PyData.tuple (ts.map PyData.str)).depth ≤ 64 := by
    have := h2 ts
    simp only [PyData.depth]
    omega
  rw [a, decide_eq_true b]
  rfl
end Ev
set_option maxHeartbeats 4000000
namespace LawK
open PySem PySem.Spec PyProof.Rows L2 Ev

def spGreat : Sp := fun vs H Q _ => ∃ (p : Addr), vs = [.ref p] ∧ ∃ l, HandL H p l ∧ ∀ H', HandL H' p l → But p H H' → Q (.bl true) H'
theorem a_list {n : Nat} : zl (Txt.mul "a" (n : Int)) = List.replicate n 97 := by
  show (Txt.mul "a" (n : Int)).cps.toList = _
  rw [Ev.mul_list (by omega), Int.toNat_natCast]
  have e : ("a" : Str).cps.toList = [97] := by decide +kernel
  rw [e]
  induction n with
  | zero => rfl
  | succ n ih =>
    rw [List.replicate_succ, List.flatten_cons, List.replicate_succ]
    rw [ih]
    rfl
theorem a_ok {n : Nat} (h : n ≤ 2000) : Okz (Txt.mul "a" (n : Int)) := by
  refine ⟨(mul_facts "a" (n : Int)).2 (by decide +kernel), ?_⟩
  rw [zlen, a_list, List.length_replicate]
  exact h
abbrev abT (n : Nat) : Str := cutS (Txt.mul "ab" 1000) none (some (n : Int))
theorem ab_list {n : Nat} : zl (abT n) = ((List.replicate 1000 [97, 98]).flatten).take n := by
  show (cutS (Txt.mul "ab" 1000) none (some (n : Int))).cps.toList = _
  rw [cutS_to (by omega), Ev.mul_list (by decide), Int.toNat_natCast]
  have e : ("ab" : Str).cps.toList = [97, 98] := by decide +kernel
  rw [e]
  rfl
theorem ab_len {n : Nat} (h : n ≤ 2000) : (zl (abT n)).length = n := by
  rw [ab_list, List.length_take, rep_len]
  show min n (1000 * 2) = n
  omega
theorem ab_at {n i : Nat} (hn : n ≤ 2000) (h : i < n) : (zl (abT n))[i]? = some (if i % 2 = 0 then 97 else 98) := by
  rw [ab_list, List.getElem?_take, if_pos h, rep_at (by decide) 1000 i (by show i < 1000 * 2; omega)]
  show [97, 98][i % 2]? = _
  rcases Nat.mod_two_eq_zero_or_one i with e | e <;> rw [e] <;> rfl
theorem ab_ok {n : Nat} (h : n ≤ 2000) : Okz (abT n) := by
  refine ⟨sgB_cut ((mul_facts "ab" 1000).2 (by decide +kernel)) _ _, ?_⟩
  rw [zlen, ab_len h]
  exact h
theorem runs_told {z : Str} (hz : Okz z) {ps : List Thing} (h : Runs (zl z) ps z.length) : toldR (some ps) = .inr z := h.told hz
theorem things_len {z : Str} {ps : List Thing} {a : Nat} (h : Runs (zl z) ps a) : ps.length ≤ a := by
  generalize zl z = t at h
  induction h with
  | nil => exact Nat.zero_le _
  | sign h e ih => rw [List.length_append]; show _ + 1 ≤ _; omega
  | rep h l p e ih => rw [List.length_append]; show _ + 1 ≤ _; omega
def resD : Int ⊕ Str → List PyData
  | .inl i => [.str "none", .int i]
  | .inr z => [.str "told", .str z]
theorem dp_res {K : PySem.W.Frag} {H : Hp} {r : Int ⊕ Str} : DpAll K H (resV r) (resD r) := by
  cases r with
  | inl i => exact .cons (.str _) (.cons (.int i) .nil)
  | inr z => exact .cons (.str _) (.cons (.str z) .nil)
theorem sh_res {r : Int ⊕ Str} (h : ∀ z, r = .inr z → Okz z) : SeqAt.shaped (.tuple (resD r)) = true := by
  have s1 : PyData.strOk "told" = true := by decide +kernel
  have s2 : PyData.strOk "none" = true := by decide +kernel
  cases r with
  | inl i =>
    show ((PyData.strOk "none" && (true && true)) && decide (PyData.depth (.tuple [.str "none", .int i]) ≤ 64)) = true
    rw [s2]
    rfl
  | inr z =>
    show ((PyData.strOk "told" && (PyData.strOk z && true)) && decide (PyData.depth (.tuple [.str "told", .str z]) ≤ 64)) = true
    rw [strOk_sg (h z rfl).sg, s1]
    rfl
theorem eqv_res {r s : Int ⊕ Str} : PyData.eqv (.tuple (resD r)) (.tuple (resD s)) = decide (r = s) := by
  cases r with
  | inl i =>
    cases s with
    | inl j =>
      show (Str.ofString "none" == Str.ofString "none" && (i == j && true)) = _
      by_cases e : i = j
      · rw [e, decide_eq_true rfl, beq_self_eq_true, beq_self_eq_true]; rfl
      · rw [decide_eq_false (fun w => e (Sum.inl.inj w)), beq_self_eq_true, Bool.true_and, Bool.and_true]
        exact beq_eq_false_iff_ne.mpr e
    | inr z => rfl
  | inr y =>
    cases s with
    | inl j => rfl
    | inr z =>
      show (Str.ofString "told" == Str.ofString "told" && (y == z && true)) = _
      by_cases e : y = z
      · rw [e, decide_eq_true rfl, beq_self_eq_true, beq_self_eq_true]; rfl
      · rw [decide_eq_false (fun w => e (Sum.inr.inj w)), beq_self_eq_true, Bool.true_and, Bool.and_true]
        exact beq_eq_false_iff_ne.mpr e
theorem ok_inr {z : Str} (hz : Okz z) : ∀ y, (.inr z : Int ⊕ Str) = .inr y → Okz y := fun y e => by cases e; exact hz
section
variable {P : Program} {w : World} {K : PySem.W.Frag} {mg : Str → Option Value} {base : Heap}
variable {PE cN cE : Addr}
abbrev sGreatRight : Stmt := topS 36
theorem scGreatRight : FnScope ["hand", "many", "text"] ["hand"] (defScope sGreatRight) := ⟨rfl, rfl, rfl, by decide +kernel, rfl, by decide +kernel, by decide +kernel⟩
theorem ok_GreatRight {f : Addr} {fd : FuncData} (F : Fun K "_law_great_right" "_law_great_right" sGreatRight f fd) {fDraw : Addr} {fdDraw : FuncData} (DDraw : Dk P w K mg base "_law_draw" sDraw ["hand", "many"] 1 spDraw fDraw fdDraw)  {fTo : Addr} {fdTo : FuncData} (FTo : Fun K "told_by" "told_by" sPTold fTo fdTo) (bTo : Binds K fdTo ["phrases"] []) (gTo : mg "told_by" = some (.ref fTo)) (GTo : FnOk P w K mg base (L2.CX P w) 4 fTo fdTo ["phrases"] (spPTold cE)) {fPh : Addr} {fdPh : FuncData} (FPh : Fun K "phrasing" "phrasing" sPPhrasing fPh fdPh) (bPh : Binds K fdPh ["text"] []) (gPh : mg "phrasing" = some (.ref fPh)) (GPh : FnOk P w K mg base (L2.CX P w) 3 fPh fdPh ["text"] spPPhrasing) {fFe : Addr} {fdFe : FuncData} (FFe : Fun K "fewest_phrases" "fewest_phrases" sPFewest fFe fdFe) (bFe : Binds K fdFe ["text"] []) (gFe : mg "fewest_phrases" = some (.ref fFe)) (GFe : FnOk P w K mg base (L2.CX P w) 3 fFe fdFe ["text"] spPFewest) (T : Glob mg) : FnOk P w K mg base CX0 6 f fd ["hand"] spGreat := by
  refine F.ok scGreatRight (fun vs H Q E h => ?_) (fun cdv A outer s H vs Q E hr h => ?_)
  · obtain ⟨p, rfl, _⟩ := h
    rfl
  · refine ⟨_, (pss_cons (ps_set (i := 1) scGreatRight.nd rfl (.inl rfl) (pe_op op_add pe_int (pe_call DDraw.ok (hr.mono (by decide)) (by rfl) DDraw.g DDraw.F.kp DDraw.b .nil pass0 (pa_cons (pv 0) (pa_cons pe_int pa_nil)))))
      (pss_cons (ps_if (PW.pt (pw_or (pt_cmpR op_ne (pe_callS (E := fun _ => E0) GFe (hr.mono (by decide)) rfl gFe FFe.kp bFe (fun σ => passL_at σ) (pa_cons (pe_op op_mulS pe_str (pv 1)) pa_nil)) pe_int (nomark _)) (pw_or1 (pt_cmpR op_ne (pe_callS (E := fun _ => E0) GTo (hr.mono (by decide)) rfl gTo FTo.kp bTo (fun σ => passL_at σ) (pa_cons (pe_callS (E := fun _ => E0) GPh (hr.mono (by decide)) rfl gPh FPh.kp bPh (fun σ => passL_at σ) (pa_cons (pe_op op_mulS pe_str (pv 1)) pa_nil)) pa_nil)) (pe_op op_mulS pe_str (pv 1)) (nomark _)))))
      (pss_one (ps_ret pe_bl))
      pss_nil)
      (pss_cons (ps_set (i := 2) scGreatRight.nd rfl (.inl rfl) (pe_slice sl_str (pe_op op_mulS pe_str pe_int) po_none (po_some (pv 1))))
      (pss_one (ps_ret (pe_or (pe_cmpR op_lt (pv 1) pe_int (nomark _)) (pe_one (pe_and (pe_cmpR op_eq (pe_callS (E := fun _ => E0) GFe (hr.mono (by decide)) rfl gFe FFe.kp bFe (fun σ => passL_at σ) (pa_cons (pv 2) pa_nil)) pe_int (nomark _)) (pe_one (pe_cmpR op_eq (pe_callS (E := fun _ => E0) GTo (hr.mono (by decide)) rfl gTo FTo.kp bTo (fun σ => passL_at σ) (pa_cons (pe_callS (E := fun _ => E0) GPh (hr.mono (by decide)) rfl gPh FPh.kp bPh (fun σ => passL_at σ) (pa_cons (pv 2) pa_nil)) pa_nil)) (pv 2) (nomark _))))))))))), ?_⟩
    obtain ⟨p, rfl, l, hH, q⟩ := h
    refine ⟨.ref p, rfl, p, 1999, rfl, by decide, by decide, l, hH, fun v H1 v0 v1 h1 b1 => ?_⟩
    obtain ⟨n, en, n2, nm⟩ : ∃ n : Nat, 2 + v = (n : Int) ∧ 2 ≤ n ∧ n ≤ 2000 := ⟨(2 + v).toNat, by omega, by omega, by omega⟩
    refine ⟨_, _, rfl, rfl, ?_⟩
    dsimp only
    rw [en]
    have la : ("a" : Str).length ≤ 1000 := by decide
    have okA := a_ok nm
    have gA : Gn (zl (Txt.mul "a" (n : Int))) 0 = 2 := G_one n2 a_list
    refine (?_ : ∀ Q : Bool → Hp → Prop, (∀ H', Same H1 H' → Q false H') → tOr _ _ _ H1 Q) _ ?_
    · intro Q0 k0
      refine ⟨.int (n : Int), rfl, _, (n : Int), rfl, rfl, by omega, by omega, la, _, rfl, okA, fun H2 k2 => ?_⟩
      rw [gA]
      refine ⟨rfl, _, rfl, iteF ?_⟩
      refine ⟨.int (n : Int), rfl, _, (n : Int), rfl, rfl, by omega, by omega, la, _, rfl, okA, fun a ps H3 e3 hps hR hl k3 => ?_⟩
      have lp := things_len hR
      have few := okA.few
      refine ⟨.ref a, some ps, rfl, .tup e3 (by omega) hps, fun z H4 ez hz k4 => ?_, fun i d H4 ez k4 nd => ?_⟩
      · rw [runs_told okA hR] at ez
        cases ez
        refine ⟨.int (n : Int), rfl, _, (n : Int), rfl, rfl, by omega, by omega, la, rfl, _, rfl, ?_⟩
        rw [decide_eq_true rfl]
        exact k0 _ ((k2.trans k3).trans k4)
      · rw [runs_told okA hR] at ez
        cases ez
    · intro H2 k2
      refine iteF ?_
      dsimp only [tNext, tDrop]
      have h2 := h1.same k2
      refine ⟨_, 1000, rfl, rfl, by decide, by decide, by decide, .int (n : Int), rfl, (n : Int), rfl, _, rfl, ?_, ?_⟩
      · have := (mul_facts "ab" 1000).1
        have l2 : ("ab" : Str).length = 2 := by decide +kernel
        rw [l2] at this
        rw [sizeLine_eq]
        omega
      refine ⟨.int (n : Int), rfl, _, _, rfl, rfl, _, rfl, ite2 (fun e => ?_) (fun e => ?_)⟩
      · exact q H2 h2 (b1.and k2)
      · have n3 : 3 ≤ n := by
          have : ¬ (n : Int) < 3 := fun w => e (decide_eq_true w)
          omega
        have okB := ab_ok nm
        have gB : Gn (zl (abT n)) 0 = 3 := G_two n3 (by decide) (ab_len nm) (fun i hi => ab_at nm hi)
        refine ⟨_, rfl, _, rfl, okB, fun H3 k3 => ?_⟩
        rw [gB]
        refine ⟨rfl, _, rfl, iteT ?_⟩
        refine ⟨_, rfl, _, rfl, okB, fun a ps H4 e4 hps hR hl k4 => ?_⟩
        have lp := things_len hR
        have few : (cutS (Txt.mul "ab" 1000) none (some (n : Int))).length ≤ 2000 := okB.few
        refine ⟨.ref a, some ps, rfl, .tup e4 (by omega) hps, fun z H5 ez hz k5 => ?_, fun i d H5 ez k5 nd => ?_⟩
        · rw [runs_told okB hR] at ez
          cases ez
          refine ⟨_, rfl, rfl, ?_⟩
          rw [decide_eq_true rfl]
          have k := ((k2.trans k3).trans k4).trans k5
          exact q H5 (h1.same k) (b1.and k)
        · rw [runs_told okB hR] at ez
          cases ez
abbrev sLaw : Stmt := topS 37
theorem scLaw : FnScope ["script", "hand", "turn", "text", "found", "due", "again", "some", "bent"] ["script"] (defScope sLaw) := ⟨rfl, rfl, rfl, by decide +kernel, rfl, by decide +kernel, by decide +kernel⟩
def spLaw (K : PySem.W.Frag) : Sp := fun vs H Q _ => ∃ (a : Addr) (ns : List Int), vs = [.ref a] ∧ SqL K H a (ns.map V.int) ∧ ∀ H', Q (.bl true) H'
theorem ok_law {f : Addr} {fd : FuncData} (F : Fun K "law" "law" sLaw f fd) {fHand : Addr} {fdHand : FuncData} (DHand : Dk P w K mg base "_law_hand" sHand ["script"] 1 (spHand K) fHand fdHand) {fDraw : Addr} {fdDraw : FuncData} (DDraw : Dk P w K mg base "_law_draw" sDraw ["hand", "many"] 1 spDraw fDraw fdDraw) {fText : Addr} {fdText : FuncData} (DText : Dk P w K mg base "_law_text" sText ["hand", "signs", "most"] 3 spLText fText fdText) {fSigns : Addr} {fdSigns : FuncData} (DSigns : Dk P w K mg base "_law_signs" sSigns ["hand"] 3 spSigns fSigns fdSigns) {fIsFlag : Addr} {fdIsFlag : FuncData} (DIsFlag : Dk P w K mg base "_law_is_flag" sIsFlag ["told", "due"] 1 spFlag fIsFlag fdIsFlag) {fFewest : Addr} {fdFewest : FuncData} (DFewest : Dk P w K mg base "_law_fewest" sFewest ["text"] 2 spFewestL fFewest fdFewest) {fDrawn : Addr} {fdDrawn : FuncData} (DDrawn : Dk P w K mg base "_law_drawn" sDrawn ["hand", "text"] 3 spDrawn fDrawn fdDrawn) {fTold : Addr} {fdTold : FuncData} (DTold : Dk P w K mg base "_law_told" sTold ["thing"] 2 spToldL fTold fdTold) {fOfPackage : Addr} {fdOfPackage : FuncData} (DOfPackage : Dk P w K mg base "_law_of_package" sOfPackage ["thing"] 5 spToldL fOfPackage fdOfPackage) {fBent : Addr} {fdBent : FuncData} (DBent : Dk P w K mg base "_law_bent" sBent ["hand", "phrases"] 3 spBent fBent fdBent) {fGreatRight : Addr} {fdGreatRight : FuncData} (DGreatRight : Dk P w K mg base "_law_great_right" sGreatRight ["hand"] 6 spGreat fGreatRight fdGreatRight)  {fPh : Addr} {fdPh : FuncData} (FPh : Fun K "phrasing" "phrasing" sPPhrasing fPh fdPh) (bPh : Binds K fdPh ["text"] []) (gPh : mg "phrasing" = some (.ref fPh)) (GPh : FnOk P w K mg base (L2.CX P w) 3 fPh fdPh ["text"] spPPhrasing) {fFe : Addr} {fdFe : FuncData} (FFe : Fun K "fewest_phrases" "fewest_phrases" sPFewest fFe fdFe) (bFe : Binds K fdFe ["text"] []) (gFe : mg "fewest_phrases" = some (.ref fFe)) (GFe : FnOk P w K mg base (L2.CX P w) 3 fFe fdFe ["text"] spPFewest) {fIs : Addr} {fdIs : FuncData} (FIs : Fun K "is_phrasing" "is_phrasing" sPIsPhrasing fIs fdIs) (bIs : Binds K fdIs ["text", "thing"] []) (gIs : mg "is_phrasing" = some (.ref fIs)) (GIs : FnOk P w K mg base (L2.CX P w) 5 fIs fdIs ["text", "thing"] spPIsPhrasing) (T : Glob mg) : FnAt callerA P w K mg base CX0 f fd ["script"] (spLaw K) := by
  refine fun_at (k := 12) F scLaw ⟨rfl, by decide, by decide⟩ (fun vs H Q E h => ?_) (fun cdv outer s H vs Q E hr h => ?_)
  · obtain ⟨a, ns, rfl, _⟩ := h
    rfl
  · refine ⟨_, (pss_cons (ps_set (i := 1) scLaw.nd rfl (.inl rfl) (pe_call DHand.ok (hr.mono (by decide)) (by rfl) DHand.g DHand.F.kp DHand.b .nil pass0 (pa_cons (pv 0) pa_nil)))
      (pss_cons (ps_for PassesOwn.never rfl (pi_range1 (by rfl) T.range (pa_cons pe_int pa_nil)) (pg_name (i := 2) scLaw.nd rfl (.inl rfl))
      (pss_cons (ps_set (i := 3) scLaw.nd rfl (.inl rfl) (pe_call DText.ok (hr.mono (by decide)) (by rfl) DText.g DText.F.kp DText.b .nil pass0 (pa_cons (pv 1) (pa_cons (pe_call DSigns.ok (hr.mono (by decide)) (by rfl) DSigns.g DSigns.F.kp DSigns.b .nil pass0 (pa_cons (pv 1) pa_nil)) (pa_cons pe_int pa_nil)))))
        (pss_cons (ps_par (i := 4) (j := 5) (by rfl) scLaw.nd rfl rfl (by decide) rfl rfl (pa_cons (pe_callS (E := fun _ => E0) GPh (hr.mono (by decide)) rfl gPh FPh.kp bPh (fun σ => passL_at σ) (pa_cons (pv 3) pa_nil)) (pa_cons (pe_call DFewest.ok (hr.mono (by decide)) (by rfl) DFewest.g DFewest.F.kp DFewest.b .nil pass0 (pa_cons (pv 3) pa_nil)) pa_nil)) (by rfl))
        (pss_cons (ps_if (PW.pt (pw_or (pt_cmpR (op_neD hr.units) (pe_call DTold.ok (hr.mono (by decide)) (by rfl) DTold.g DTold.F.kp DTold.b .nil pass0 (pa_cons (pv 4) pa_nil)) (pe_tup (pa_cons pe_str (pa_cons (pv 3) pa_nil))) (nomark _)) (pw_or (pt_cmpR op_ne (pe_callB call_len_seq (by rfl) T.len PySem.boot_len (pa_cons (pv 4) pa_nil)) (pv 5) (nomark _)) (pw_or1 (pt_cmpR op_ne (pe_callS (E := fun _ => E0) GFe (hr.mono (by decide)) rfl gFe FFe.kp bFe (fun σ => passL_at σ) (pa_cons (pv 3) pa_nil)) (pv 5) (nomark _))))))
        (pss_one (ps_ret pe_bl))
        pss_nil)
        (pss_cons (ps_if (pt_cmpR op_notBl (pe_callS (E := fun _ => E0) GIs (hr.mono (by decide)) rfl gIs FIs.kp bIs (fun σ => passL_at σ) (pa_cons (pv 3) (pa_cons (pv 4) pa_nil))) pe_bl (nomark _))
        (pss_one (ps_ret pe_bl))
        pss_nil)
        (pss_one (ps_for PassesOwn.never rfl (pi_range1 (by rfl) T.range (pa_cons pe_int pa_nil)) (pg_name (i := 6) scLaw.nd rfl (.inl rfl))
        (pss_cons (ps_set (i := 7) scLaw.nd rfl (.inl rfl) (pe_call DDrawn.ok (hr.mono (by decide)) (by rfl) DDrawn.g DDrawn.F.kp DDrawn.b .nil pass0 (pa_cons (pv 1) (pa_cons (pv 3) pa_nil))))
          (pss_cons (ps_if (PW.pt (pw_or (pt_cmpR (op_neD hr.units) (pe_call DOfPackage.ok (hr.mono (by decide)) (by rfl) DOfPackage.g DOfPackage.F.kp DOfPackage.b .nil pass0 (pa_cons (pv 7) pa_nil)) (pe_tup (pa_cons pe_str (pa_cons (pv 3) pa_nil))) (nomark _)) (pw_or1 (pt_cmpR op_notBl (pe_callS (E := fun _ => E0) GIs (hr.mono (by decide)) rfl gIs FIs.kp bIs (fun σ => passL_at σ) (pa_cons (pv 3) (pa_cons (pv 7) pa_nil))) pe_bl (nomark _)))))
          (pss_one (ps_ret pe_bl))
          pss_nil)
          (pss_cons (ps_set (i := 8) scLaw.nd rfl (.inl rfl) (pe_call DBent.ok (hr.mono (by decide)) (by rfl) DBent.g DBent.F.kp DBent.b .nil pass0 (pa_cons (pv 1) (pa_cons (pv 7) pa_nil))))
          (pss_cons (ps_set (i := 5) scLaw.nd rfl (.inl rfl) (pe_call DTold.ok (hr.mono (by decide)) (by rfl) DTold.g DTold.F.kp DTold.b .nil pass0 (pa_cons (pv 8) pa_nil)))
          (pss_cons (ps_if (pt_cmpR (op_neD hr.units) (pe_call DOfPackage.ok (hr.mono (by decide)) (by rfl) DOfPackage.g DOfPackage.F.kp DOfPackage.b .nil pass0 (pa_cons (pv 8) pa_nil)) (pv 5) (nomark _))
          (pss_one (ps_ret pe_bl))
          pss_nil)
          (pss_one (ps_if (pt_not (pt_val (pe_call DIsFlag.ok (hr.mono (by decide)) (by rfl) DIsFlag.g DIsFlag.F.kp DIsFlag.b .nil pass0 (pa_cons (pe_callS (E := fun _ => E0) GIs (hr.mono (by decide)) rfl gIs FIs.kp bIs (fun σ => passL_at σ) (pa_cons (pv 3) (pa_cons (pv 8) pa_nil))) (pa_cons (pe_cmpR (op_eqD hr.units) (pv 5) (pe_tup (pa_cons pe_str (pa_cons (pv 3) pa_nil))) (nomark _)) pa_nil)))))
          (pss_one (ps_ret pe_bl))
          pss_nil))))))))))))))
      (pss_one (ps_ret (pe_or (pe_cmpR op_gt (pe_call DDraw.ok (hr.mono (by decide)) (by rfl) DDraw.g DDraw.F.kp DDraw.b .nil pass0 (pa_cons (pv 1) (pa_cons pe_int pa_nil))) pe_int (nomark _)) (pe_one (pe_call DGreatRight.ok (hr.mono (by decide)) (by rfl) DGreatRight.g DGreatRight.F.kp DGreatRight.b .nil pass0 (pa_cons (pv 1) pa_nil)))))))), ?_⟩
    obtain ⟨a, ns, rfl, hS, q⟩ := h
    refine ⟨.ref a, rfl, a, ns, rfl, hS, fun p l H1 np nl h1 k1 => ?_⟩
    refine ⟨2, rfl, by decide, by decide, for_range (fun i σ H' => ∃ (u2 u3 u4 u5 u6 u7 u8 : Option V), σ = [some (.ref a), some (.ref p), u2, u3, u4, u5, u6, u7, u8] ∧ HandL H' p l) ⟨none, none, none, none, none, none, none, rfl, h1⟩ ?_ ?_⟩
    · rintro i σ H2 hi ⟨u2, u3, u4, u5, u6, u7, u8, rfl, h2⟩
      refine ⟨.ref p, rfl, .ref p, rfl, p, rfl, l, h2, fun w H3 sw w0 w1 h3 b3 => ?_⟩
      refine ⟨p, w, 60, rfl, sw, w0, w1, by decide, l, h3, fun z H4 sz lz h4 b4 => ?_⟩
      have hz : Okz z := ⟨sz, by omega⟩
      refine ⟨.str z, rfl, z, rfl, hz, fun fa ps H5 e5 hps5 hR hl5 k5 => ?_⟩
      have lp := things_len hR
      refine ⟨.str z, rfl, z, rfl, hz.few, fun H6 k6 => ?_⟩
      refine ⟨_, _, rfl, ?_⟩
      have eR := runs_told hz hR
      have t6 : Th H6 (.ref fa) (some ps) := .tup (k6 _ _ e5) (by omega) fun x hx => (hps5 x hx).same k6
      have h6 := (h4.same k5).same k6
      dsimp only [tSeq, tIfS]
      refine (?_ : ∀ Q : Bool → Hp → Prop, (∀ H', Same H6 H' → Q false H') → tOr _ _ _ H6 Q) _ ?_
      · intro Q0 k0
        refine ⟨.ref fa, rfl, .ref fa, some ps, rfl, t6, fun b H7 k7 e7 ok7 => ?_⟩
        rw [eR] at e7
        refine ⟨.str z, rfl, by show 2 ≤ sizeLine; decide, fun c nc => ?_⟩
        have kc := Same.new (o := .tup [.str "told", .str z]) nc
        refine ⟨.tuple (resD (.inr z)), .tuple (resD (.inr z)), .tup (SqT.of (kc _ _ e7)) dp_res, .tup (SqT.of upd_same) (dp_res (r := .inr z)), sh_res (ok_inr hz), sh_res (ok_inr hz), _, rfl, ?_⟩
        rw [eqv_res, decide_eq_true rfl]
        refine iteF ?_
        have k68 := k7.trans kc
        refine ⟨.ref fa, rfl, fa, _, rfl, .inr (SqT.of (k68 _ _ (k6 _ _ e5))), .int (Gn (zl z) 0 : Nat), rfl, rfl, _, rfl, ?_⟩
        rw [List.length_map, hl5, decide_eq_true rfl]
        refine iteF ?_
        refine ⟨.str z, rfl, z, rfl, hz, fun H8 k8 => ⟨.int (Gn (zl z) 0 : Nat), rfl, rfl, _, rfl, ?_⟩⟩
        rw [decide_eq_true rfl]
        exact k0 _ (k68.trans k8)
      · intro H7 k7
        refine iteF ?_
        dsimp only [tNext, tDrop]
        refine ⟨.str z, rfl, .ref fa, rfl, z, .ref fa, some ps, rfl, hz, t6.same k7, fun H8 k8 => ?_⟩
        rw [decide_eq_true eR]
        refine ⟨true, true, rfl, rfl, _, rfl, iteF ?_⟩
        dsimp only [tNext, tDrop]
        have h8 := (h6.same k7).same k8
        refine ⟨3, rfl, by decide, by decide, for_range (fun j σ H' => ∃ (w5 w6 w7 w8 : Option V), σ = [some (.ref a), some (.ref p), some (.int (0 + (i : Nat))), some (.str z), some (.ref fa), w5, w6, w7, w8] ∧ HandL H' p l) ⟨_, _, _, _, rfl, h8⟩ ?_ ?_⟩
        · rintro j σ H9 hj ⟨w5, w6, w7, w8, rfl, h9⟩
          refine ⟨.ref p, rfl, .str z, rfl, p, z, rfl, hz.few, l, h9, fun sa qs H10 e10 hqs hR2 hl2 h10 b10 => ?_⟩
          have eR2 := runs_told hz hR2
          have t10 : Th H10 (.ref sa) (some qs) := .tup e10 (by omega) fun x hx => (hqs x hx).tg
          dsimp only [tSeq, tIfS, gName]
          refine (?_ : ∀ Q : Bool → Hp → Prop, (∀ H', Same H10 H' → Q false H') → tOr _ _ _ H10 Q) _ ?_
          · intro Q0 k0
            refine ⟨.ref sa, rfl, .ref sa, some qs, rfl, t10, fun b H11 k11 e11 ok11 => ?_⟩
            rw [eR2] at e11
            refine ⟨.str z, rfl, by show 2 ≤ sizeLine; decide, fun c nc => ?_⟩
            have kc := Same.new (o := .tup [.str "told", .str z]) nc
            refine ⟨.tuple (resD (.inr z)), .tuple (resD (.inr z)), .tup (SqT.of (kc _ _ e11)) dp_res, .tup (SqT.of upd_same) (dp_res (r := .inr z)), sh_res (ok_inr hz), sh_res (ok_inr hz), _, rfl, ?_⟩
            rw [eqv_res, decide_eq_true rfl]
            refine iteF ?_
            have k12 := k11.trans kc
            refine ⟨.str z, rfl, .ref sa, rfl, z, .ref sa, some qs, rfl, hz, t10.same k12, fun H13 k13 => ?_⟩
            rw [decide_eq_true eR2]
            exact ⟨true, true, rfl, rfl, _, rfl, k0 _ (k12.trans k13)⟩
          · intro H11 k11
            refine iteF ?_
            dsimp only [tNext, tDrop]
            have h11 := h10.same k11
            refine ⟨.ref p, rfl, .ref sa, rfl, p, sa, qs, rfl, k11 _ _ e10, (fun x hx => (hqs x hx).same k11), by omega, l, h11, fun x r H12 hT h12 b12 => ?_⟩
            refine ⟨x, rfl, x, r, rfl, hT, fun d H13 k13 ed okd => ?_⟩
            refine ⟨x, rfl, x, r, rfl, hT.same k13, fun d2 H14 k14 ed2 ok2 => ?_⟩
            have ed14 := k14 _ _ ed
            refine ⟨.ref d, rfl, .tuple (resD (toldR r)), .tuple (resD (toldR r)), .tup (SqT.of ed2) dp_res, .tup (SqT.of ed14) dp_res, sh_res okd, sh_res okd, _, rfl, ?_⟩
            rw [eqv_res, decide_eq_true rfl]
            refine iteF ?_
            dsimp only [tNext, tDrop]
            refine ⟨.str z, rfl, x, rfl, z, x, r, rfl, hz, (hT.same k13).same k14, fun H15 k15 => ?_⟩
            refine ⟨.ref d, rfl, .str z, rfl, by show 2 ≤ sizeLine; decide, fun c nc => ?_⟩
            have kc := Same.new (o := .tup [.str "told", .str z]) nc
            refine ⟨.tuple (resD (toldR r)), .tuple (resD (.inr z)), .tup (SqT.of (kc _ _ (k15 _ _ ed14))) dp_res, .tup (SqT.of upd_same) (dp_res (r := .inr z)), sh_res okd, sh_res (ok_inr hz), _, _, rfl, ?_⟩
            rw [eqv_res]
            refine ⟨_, rfl, ?_⟩
            rw [decide_eq_true rfl]
            refine iteF ?_
            exact ⟨_, _, _, _, rfl, (((h12.same k13).same k14).same k15).same kc⟩
        · rintro σ H9 ⟨w5, w6, w7, w8, rfl, h9⟩
          exact ⟨_, _, _, _, _, _, _, rfl, h9⟩
    · rintro σ H2 ⟨u2, u3, u4, u5, u6, u7, u8, rfl, h2⟩
      refine ⟨.ref p, rfl, p, 4, rfl, by decide, by decide, l, h2, fun v H3 v0 v1 h3 b3 => ?_⟩
      refine ⟨_, _, rfl, rfl, _, rfl, ite2 (fun e => q H3) (fun e => ?_)⟩
      exact ⟨.ref p, rfl, p, rfl, l, h3, fun H4 h4 b4 => q H4⟩
end
end LawK
set_option maxHeartbeats 8000000
namespace LawK
open PySem PySem.Spec PyProof.Rows L2 Ev
structure Df (K : PySem.W.Frag) (mg : Str → Option Value) (x : Str) (st : Stmt) (ps : List Str) (f : Addr) (fd : FuncData) : Prop where
  F : Fun K x x st f fd
  b : Binds K fd ps []
  g : mg x = some (.ref f)
section
variable {P : Program} {w : World} {K : PySem.W.Frag} {mg : Str → Option Value} {h : Heap} {x : Str}
theorem df_mk {st : Stmt} {ps : List Str} {oc kV dc pm cd ct : Value} {od an : Option Addr} {sl : Array (Option Value)} {fa : Addr} (X : K.In h) (G : h.Ns mainGlobals mg)
    (hb : ∀ (kV doc pm : Value) (an : Option Addr) (cdv ct : Value) (us : List Value), us.length = ps.length → bindArgs (PySem.W.fnOf x x (defArgs st) (defBody st) (defScope st) .none kV doc pm an cdv ct) ⟨us, []⟩ = pure (ps.zip us))
    (a : PySem.W.nsIn K mainGlobals x = some (some (.ref fa))) (l : K.lookup fa = some ⟨oc, od, .func (PySem.W.fnOf x x (defArgs st) (defBody st) (defScope st) .none kV dc pm an cd ct), sl⟩)
    (ck : (PySem.W.codeIn K cd x && PySem.W.keepIn K (.ref fa)) = true) : ∃ fd, Df K mg x st ps fa fd := by
  obtain ⟨c1, c2⟩ := Bool.and_eq_true_iff.mp ck
  have F1 := fun_mk (st := st) l c1 c2
  exact ⟨_, F1, F1.binds (ps := ps) hb, PySem.W.mg_of X G a⟩
end
theorem end_mk {P : Program} {w : World} {K : PySem.W.Frag} {mg : Str → Option Value} {h : Heap} {fa f PE cEN cEP fPNumber fPSigns fPSign fPTuple fPText fQIsPhrase fQWith fPTold fQLongest fQPhrasing fPPhrasing fPIsPhrasing fPFewest fHand fDraw fAny fIsInt fDeep fText fSigns fIsFlag fLongest fFewest fDrawn fTold fOfPackage fBent fGreatRight : Addr} {oc kV dc pm cd ct : Value} {od an : Option Addr} {sl : Array (Option Value)} (X : K.In h) (G : h.Ns mainGlobals mg) (hfa : mg "law" = some (.ref fa))
    (aL : PySem.W.nsIn K mainGlobals "law" = some (some (.ref f))) (lL : K.lookup f = some ⟨oc, od, .func (PySem.W.fnOf "law" "law" (defArgs sLaw) (defBody sLaw) (defScope sLaw) .none kV dc pm an cd ct), sl⟩) (ck : (PySem.W.codeIn K cd "law" && PySem.W.keepIn K (.ref f)) = true)
    {tMOST_SIGNS : Tok} (aMOST_SIGNS : PySem.W.nsIn K mainGlobals "MOST_SIGNS" = some (some (.int 2000 tMOST_SIGNS)))
    (DPNumber : ∃ fd, Df K mg "is_number" sPNumber ["thing"] fPNumber fd)
    (DPSigns : ∃ fd, Df K mg "is_signs" sPSigns ["thing"] fPSigns fd)
    (DPSign : ∃ fd, Df K mg "is_sign" sPSign ["thing"] fPSign fd)
    (DPTuple : ∃ fd, Df K mg "is_tuple" sPTuple ["thing", "many"] fPTuple fd)
    (DPText : ∃ fd, Df K mg "is_text" sPText ["thing"] fPText fd)
    (DQIsPhrase : ∃ fd, Df K mg "_is_phrase" sQIsPhrase ["thing", "many"] fQIsPhrase fd)
    (DQWith : ∃ fd, Df K mg "_with_phrase" sQWith ["text", "phrase"] fQWith fd)
    (DPTold : ∃ fd, Df K mg "told_by" sPTold ["phrases"] fPTold fd)
    (DQLongest : ∃ fd, Df K mg "_longest_phrase" sQLongest ["text", "first"] fQLongest fd)
    (DQPhrasing : ∃ fd, Df K mg "_phrasing" sQPhrasing ["text"] fQPhrasing fd)
    (DPPhrasing : ∃ fd, Df K mg "phrasing" sPPhrasing ["text"] fPPhrasing fd)
    (DPIsPhrasing : ∃ fd, Df K mg "is_phrasing" sPIsPhrasing ["text", "thing"] fPIsPhrasing fd)
    (DPFewest : ∃ fd, Df K mg "fewest_phrases" sPFewest ["text"] fPFewest fd)
    (DHand : ∃ fd, Df K mg "_law_hand" sHand ["script"] fHand fd)
    (DDraw : ∃ fd, Df K mg "_law_draw" sDraw ["hand", "many"] fDraw fd)
    (DAny : ∃ fd, Df K mg "_law_any" sAny ["hand", "some"] fAny fd)
    (DIsInt : ∃ fd, Df K mg "_law_is_int" sIsInt ["thing", "least", "most"] fIsInt fd)
    (DDeep : ∃ fd, Df K mg "_law_deep" sDeep ["many"] fDeep fd)
    (DText : ∃ fd, Df K mg "_law_text" sText ["hand", "signs", "most"] fText fd)
    (DSigns : ∃ fd, Df K mg "_law_signs" sSigns ["hand"] fSigns fd)
    (DIsFlag : ∃ fd, Df K mg "_law_is_flag" sIsFlag ["told", "due"] fIsFlag fd)
    (DLongest : ∃ fd, Df K mg "_law_longest" sLongest ["text", "at"] fLongest fd)
    (DFewest : ∃ fd, Df K mg "_law_fewest" sFewest ["text"] fFewest fd)
    (DDrawn : ∃ fd, Df K mg "_law_drawn" sDrawn ["hand", "text"] fDrawn fd)
    (DTold : ∃ fd, Df K mg "_law_told" sTold ["thing"] fTold fd)
    (DOfPackage : ∃ fd, Df K mg "_law_of_package" sOfPackage ["thing"] fOfPackage fd)
    (DBent : ∃ fd, Df K mg "_law_bent" sBent ["hand", "phrases"] fBent fd)
    (DGreatRight : ∃ fd, Df K mg "_law_great_right" sGreatRight ["hand"] fGreatRight fd)
    (EN : Cls0 P K mg PE "NoText" cEN) (EP : Cls1 K mg PE "NoPhrases" "index" cEP) (CB : chkB K PE = true) (aPE : PySem.W.nsIn K mainGlobals "PieceError" = some (some (.ref PE))) (gVE : mg "ValueError" = none) (T : Glob mg) :
    ∃ fd : FuncData, (∀ (s : Shared) (u : Value), BindsTo s fd ⟨[u], []⟩ [("script", u)]) ∧ ∀ base : Heap, K.In base → base.Ns mainGlobals mg → FnAt callerA P w K mg base CX0 fa fd ["script"] (spLaw K) := by
  have e := hfa.symm.trans (PySem.W.mg_of X G aL)
  cases e
  obtain ⟨fdPNumber, DPNumber⟩ := DPNumber
  obtain ⟨fdPSigns, DPSigns⟩ := DPSigns
  obtain ⟨fdPSign, DPSign⟩ := DPSign
  obtain ⟨fdPTuple, DPTuple⟩ := DPTuple
  obtain ⟨fdPText, DPText⟩ := DPText
  obtain ⟨fdQIsPhrase, DQIsPhrase⟩ := DQIsPhrase
  obtain ⟨fdQWith, DQWith⟩ := DQWith
  obtain ⟨fdPTold, DPTold⟩ := DPTold
  obtain ⟨fdQLongest, DQLongest⟩ := DQLongest
  obtain ⟨fdQPhrasing, DQPhrasing⟩ := DQPhrasing
  obtain ⟨fdPPhrasing, DPPhrasing⟩ := DPPhrasing
  obtain ⟨fdPIsPhrasing, DPIsPhrasing⟩ := DPIsPhrasing
  obtain ⟨fdPFewest, DPFewest⟩ := DPFewest
  obtain ⟨fdHand, DHand⟩ := DHand
  obtain ⟨fdDraw, DDraw⟩ := DDraw
  obtain ⟨fdAny, DAny⟩ := DAny
  obtain ⟨fdIsInt, DIsInt⟩ := DIsInt
  obtain ⟨fdDeep, DDeep⟩ := DDeep
  obtain ⟨fdText, DText⟩ := DText
  obtain ⟨fdSigns, DSigns⟩ := DSigns
  obtain ⟨fdIsFlag, DIsFlag⟩ := DIsFlag
  obtain ⟨fdLongest, DLongest⟩ := DLongest
  obtain ⟨fdFewest, DFewest⟩ := DFewest
  obtain ⟨fdDrawn, DDrawn⟩ := DDrawn
  obtain ⟨fdTold, DTold⟩ := DTold
  obtain ⟨fdOfPackage, DOfPackage⟩ := DOfPackage
  obtain ⟨fdBent, DBent⟩ := DBent
  obtain ⟨fdGreatRight, DGreatRight⟩ := DGreatRight
  obtain ⟨c1, c2⟩ := Bool.and_eq_true_iff.mp ck
  have F1 := fun_mk (st := sLaw) lL c1 c2
  have BX := baseX_mk CB
  refine ⟨PySem.W.fnOf "law" "law" (defArgs sLaw) (defBody sLaw) (defScope sLaw) .none kV dc pm an cd ct, fun s u => .of_eq rfl, fun base _ _ => ?_⟩
  have TPSigns : Dk P w K mg base "is_signs" sPSigns ["thing"] 1 spSg fPSigns fdPSigns := ⟨DPSigns.F, DPSigns.b, DPSigns.g, ok_PSigns DPSigns.F   (T := T)⟩
  have TPText : Dk P w K mg base "is_text" sPText ["thing"] 2 spTextY fPText fdPText := ⟨DPText.F, DPText.b, DPText.g, ok_PText DPText.F (gM := PySem.W.mg_of X G aMOST_SIGNS) (DPSigns := TPSigns) (T := T)⟩
  have TQLongest : Dk P w K mg base "_longest_phrase" sQLongest ["text", "first"] 1 spLongest fQLongest fdQLongest := ⟨DQLongest.F, DQLongest.b, DQLongest.g, ok_QLongest DQLongest.F   (T := T)⟩
  have TQPhrasing : Dk P w K mg base "_phrasing" sQPhrasing ["text"] 2 spPhrasing fQPhrasing fdQPhrasing := ⟨DQPhrasing.F, DQPhrasing.b, DQPhrasing.g, ok_QPhrasing DQPhrasing.F  (DQLongest := TQLongest) (T := T)⟩
  have GPh : FnOk P w K mg base (L2.CX P w) 3 fPPhrasing fdPPhrasing ["text"] spPPhrasing := ok_PPhrasing DPPhrasing.F (ENoText := EN) (DPText := TPText) (DQPhrasing := TQPhrasing) (T := T)
  have TPNumber : Dk P w K mg base "is_number" sPNumber ["thing"] 1 spNum fPNumber fdPNumber := ⟨DPNumber.F, DPNumber.b, DPNumber.g, ok_PNumber DPNumber.F   (T := T)⟩
  have TPSign : Dk P w K mg base "is_sign" sPSign ["thing"] 2 spSign fPSign fdPSign := ⟨DPSign.F, DPSign.b, DPSign.g, ok_PSign DPSign.F  (DPSigns := TPSigns) (T := T)⟩
  have TPTuple : Dk P w K mg base "is_tuple" sPTuple ["thing", "many"] 1 spTuple fPTuple fdPTuple := ⟨DPTuple.F, DPTuple.b, DPTuple.g, ok_PTuple DPTuple.F   (T := T)⟩
  have TQIsPhrase : Dk P w K mg base "_is_phrase" sQIsPhrase ["thing", "many"] 3 spIsPhrase fQIsPhrase fdQIsPhrase := ⟨DQIsPhrase.F, DQIsPhrase.b, DQIsPhrase.g, ok_QIsPhrase DQIsPhrase.F  (DPNumber := TPNumber) (DPSign := TPSign) (DPTuple := TPTuple) (T := T)⟩
  have TQWith : Dk P w K mg base "_with_phrase" sQWith ["text", "phrase"] 1 spWith fQWith fdQWith := ⟨DQWith.F, DQWith.b, DQWith.g, ok_QWith DQWith.F   (T := T)⟩
  have GTo : FnOk P w K mg base (L2.CX P w) 4 fPTold fdPTold ["phrases"] (spPTold cEP) := ok_PTold DPTold.F (gM := PySem.W.mg_of X G aMOST_SIGNS) (EE := EP) (DQIsPhrase := TQIsPhrase) (DQWith := TQWith) (T := T)
  have GIs : FnOk P w K mg base (L2.CX P w) 5 fPIsPhrasing fdPIsPhrasing ["text", "thing"] spPIsPhrasing := ok_PIsPhrasing DPIsPhrasing.F EN EP DPTold.F DPTold.b DPTold.g GTo (DPText := TPText) (T := T)
  have GFe : FnOk P w K mg base (L2.CX P w) 3 fPFewest fdPFewest ["text"] spPFewest := ok_PFewest DPFewest.F (ENoText := EN) (DPText := TPText) (DQPhrasing := TQPhrasing) (T := T)
  have THand : Dk P w K mg base "_law_hand" sHand ["script"] 1 (spHand K) fHand fdHand := ⟨DHand.F, DHand.b, DHand.g, ok_Hand DHand.F   (T := T)⟩
  have TDraw : Dk P w K mg base "_law_draw" sDraw ["hand", "many"] 1 spDraw fDraw fdDraw := ⟨DDraw.F, DDraw.b, DDraw.g, ok_Draw DDraw.F   (T := T)⟩
  have TAny : Dk P w K mg base "_law_any" sAny ["hand", "some"] 2 (spAny K) fAny fdAny := ⟨DAny.F, DAny.b, DAny.g, ok_Any DAny.F (DDraw := TDraw) (T := T)⟩
  have TAnyS : Dk P w K mg base "_law_any" sAny ["hand", "some"] 2 spAnyS fAny fdAny := ⟨DAny.F, DAny.b, DAny.g, ok_AnyS DAny.F (DDraw := TDraw) (T := T)⟩
  have TText : Dk P w K mg base "_law_text" sText ["hand", "signs", "most"] 3 spLText fText fdText := ⟨DText.F, DText.b, DText.g, ok_Text DText.F (DDraw := TDraw) (DAny := TAnyS) (T := T)⟩
  have TSigns : Dk P w K mg base "_law_signs" sSigns ["hand"] 3 spSigns fSigns fdSigns := ⟨DSigns.F, DSigns.b, DSigns.g, ok_Signs DSigns.F  (DAny := TAny) (T := T)⟩
  have TIsFlag : Dk P w K mg base "_law_is_flag" sIsFlag ["told", "due"] 1 spFlag fIsFlag fdIsFlag := ⟨DIsFlag.F, DIsFlag.b, DIsFlag.g, ok_IsFlag DIsFlag.F   (T := T)⟩
  have TLongest : Dk P w K mg base "_law_longest" sLongest ["text", "at"] 1 spLongestL fLongest fdLongest := ⟨DLongest.F, DLongest.b, DLongest.g, ok_Longest DLongest.F   (T := T)⟩
  have TFewest : Dk P w K mg base "_law_fewest" sFewest ["text"] 2 spFewestL fFewest fdFewest := ⟨DFewest.F, DFewest.b, DFewest.g, ok_Fewest DFewest.F  (DLongest := TLongest) (T := T)⟩
  have TDrawn : Dk P w K mg base "_law_drawn" sDrawn ["hand", "text"] 3 spDrawn fDrawn fdDrawn := ⟨DDrawn.F, DDrawn.b, DDrawn.g, ok_Drawn DDrawn.F  (DDraw := TDraw) (DAny := TAny) (T := T)⟩
  have TIsInt : Dk P w K mg base "_law_is_int" sIsInt ["thing", "least", "most"] 1 spIn fIsInt fdIsInt := ⟨DIsInt.F, DIsInt.b, DIsInt.g, ok_IsInt DIsInt.F   (T := T)⟩
  have TTold : Dk P w K mg base "_law_told" sTold ["thing"] 2 spToldL fTold fdTold := ⟨DTold.F, DTold.b, DTold.g, ok_Told DTold.F  (DIsInt := TIsInt) (T := T)⟩
  have TOfPackage : Dk P w K mg base "_law_of_package" sOfPackage ["thing"] 5 spToldL fOfPackage fdOfPackage := ⟨DOfPackage.F, DOfPackage.b, DOfPackage.g, ok_OfPackage DOfPackage.F EP BX.1 BX.2 (PySem.W.mg_of X G aPE) gVE DPTold.F DPTold.b DPTold.g GTo  (T := T)⟩
  have TDeep : Dk P w K mg base "_law_deep" sDeep ["many"] 1 spDeep fDeep fdDeep := ⟨DDeep.F, DDeep.b, DDeep.g, ok_Deep DDeep.F   (T := T)⟩
  have TBent : Dk P w K mg base "_law_bent" sBent ["hand", "phrases"] 3 spBent fBent fdBent := ⟨DBent.F, DBent.b, DBent.g, ok_Bent DBent.F  (DDraw := TDraw) (DAny := TAny) (DDeep := TDeep) (T := T)⟩
  have TGreatRight : Dk P w K mg base "_law_great_right" sGreatRight ["hand"] 6 spGreat fGreatRight fdGreatRight := ⟨DGreatRight.F, DGreatRight.b, DGreatRight.g, ok_GreatRight DGreatRight.F DPTold.F DPTold.b DPTold.g GTo DPPhrasing.F DPPhrasing.b DPPhrasing.g GPh DPFewest.F DPFewest.b DPFewest.g GFe (DDraw := TDraw) (T := T)⟩
  exact ok_law F1 (DHand := THand) (DDraw := TDraw) (DText := TText) (DSigns := TSigns) (DIsFlag := TIsFlag) (DFewest := TFewest) (DDrawn := TDrawn) (DTold := TTold) (DOfPackage := TOfPackage) (DBent := TBent) (DGreatRight := TGreatRight) DPPhrasing.F DPPhrasing.b DPPhrasing.g GPh DPFewest.F DPFewest.b DPFewest.g GFe DPIsPhrasing.F DPIsPhrasing.b DPIsPhrasing.g GIs (T := T)
end LawK
open PySem PySem.W PyProof.Rows L2
set_option maxRecDepth 100000 in
set_option maxHeartbeats 0 in
theorem PySem.Challenge.cw_everypiece_k43_whole_phrases_holds : PySem.Challenge.rw_everypiece_k43_whole_phrases.Holds := by
  w_on; o_law; k_head; (case hw => w_witness2)
  k_fill
  refine Ev.walk_at (l := PySem.Challenge.rw_everypiece_k43_whole_phrases) (n := 63) (x := "script") (sp := LawK.spLaw) rfl (by decide) rfl (fun w h Y => PySem.W.kIn_of Y) ?F (fun K H a ns hl _ hS => ⟨a, ns, rfl, hS, fun _ => rfl⟩)
  case F =>
    intro w mg fa h KX G hmg
    have hfa : mg "law" = some (.ref fa) := hmg
    clear hmg
    refine LawK.say KX (fun K => LawK.Sh0 (PySem.W.OpenLaw.prog PySem.Challenge.rw_everypiece_k43_whole_phrases) K mg) (by
      refine' LawK.sh0_mk KX G ?kq1a ?kq1b ?kq1c ?kq1d ?kq1e
      (case kq1a => k_is); (case kq1b => k_is); (case kq1c => k_is); (case kq1d => decide +kernel); (case kq1e => k_is)) ?_
    intro S
    refine LawK.say KX (fun K => LawK.Cls0 (PySem.W.OpenLaw.prog PySem.Challenge.rw_everypiece_k43_whole_phrases) K mg 24 "NoText" 46) (by
      refine' LawK.cls0_mk (qual := "NoText.__init__") KX G S ?kq2a ?kq2l ?kq2i ?kq2f ?kq2d ?kq2e ?kq2v ?kq2w ?kq2p ?kq2c
      (case kq2a => k_is); (case kq2l => k_is); (case kq2i => k_is); (case kq2f => k_is); (case kq2d => k_is); (case kq2e => k_is); (case kq2v => rfl); (case kq2w => rfl); (case kq2p => rfl); (case kq2c => kernel_rfl)) ?_
    intro EN
    refine LawK.say KX (fun K => LawK.Cls1 K mg 24 "NoPhrases" "index" 65) (by
      refine' LawK.cls1_mk (st := inClass (LawK.topS 3) 0) (qual := "NoPhrases.__init__") KX G S.toSh ⟨⟨_, _, _, _, rfl⟩, ⟨rfl, rfl, rfl, by decide +kernel, rfl, by decide +kernel, by decide +kernel⟩, rfl, rfl, rfl, rfl⟩ (fun _ _ _ _ _ _ us hl => match us, hl with | [_, _], _ => rfl) ?kq3a ?kq3l ?kq3i ?kq3f ?kq3c
      (case kq3a => k_is); (case kq3l => k_is); (case kq3i => k_is); (case kq3f => k_is); (case kq3c => kernel_rfl)) ?_
    intro EP
    refine LawK.say KX (fun K => LawK.chkB K 24 = true) (by kernel_rfl) ?_
    intro CB
    refine LawK.say KX (fun K => ∃ fd, LawK.Df K mg "is_number" LawK.sPNumber ["thing"] 74 fd) (by
      refine' LawK.df_mk KX G (fun _ _ _ _ _ _ us hl => match us, hl with | [_], _ => rfl) ?kq5a ?kq5l ?kq5c
      (case kq5a => k_is); (case kq5l => k_is); (case kq5c => kernel_rfl)) ?_
    intro DPNumber
    refine LawK.say KX (fun K => ∃ fd, LawK.Df K mg "is_signs" LawK.sPSigns ["thing"] 81 fd) (by
      refine' LawK.df_mk KX G (fun _ _ _ _ _ _ us hl => match us, hl with | [_], _ => rfl) ?kq6a ?kq6l ?kq6c
      (case kq6a => k_is); (case kq6l => k_is); (case kq6c => kernel_rfl)) ?_
    intro DPSigns
    refine LawK.say KX (fun K => ∃ fd, LawK.Df K mg "is_sign" LawK.sPSign ["thing"] 88 fd) (by
      refine' LawK.df_mk KX G (fun _ _ _ _ _ _ us hl => match us, hl with | [_], _ => rfl) ?kq7a ?kq7l ?kq7c
      (case kq7a => k_is); (case kq7l => k_is); (case kq7c => kernel_rfl)) ?_
    intro DPSign
    refine LawK.say KX (fun K => ∃ fd, LawK.Df K mg "is_tuple" LawK.sPTuple ["thing", "many"] 95 fd) (by
      refine' LawK.df_mk KX G (fun _ _ _ _ _ _ us hl => match us, hl with | [_, _], _ => rfl) ?kq8a ?kq8l ?kq8c
      (case kq8a => k_is); (case kq8l => k_is); (case kq8c => kernel_rfl)) ?_
    intro DPTuple
    refine LawK.say KX (fun K => ∃ fd, LawK.Df K mg "is_text" LawK.sPText ["thing"] 102 fd) (by
      refine' LawK.df_mk KX G (fun _ _ _ _ _ _ us hl => match us, hl with | [_], _ => rfl) ?kq9a ?kq9l ?kq9c
      (case kq9a => k_is); (case kq9l => k_is); (case kq9c => kernel_rfl)) ?_
    intro DPText
    refine LawK.say KX (fun K => ∃ fd, LawK.Df K mg "_is_phrase" LawK.sQIsPhrase ["thing", "many"] 109 fd) (by
      refine' LawK.df_mk KX G (fun _ _ _ _ _ _ us hl => match us, hl with | [_, _], _ => rfl) ?kq10a ?kq10l ?kq10c
      (case kq10a => k_is); (case kq10l => k_is); (case kq10c => kernel_rfl)) ?_
    intro DQIsPhrase
    refine LawK.say KX (fun K => ∃ fd, LawK.Df K mg "_with_phrase" LawK.sQWith ["text", "phrase"] 116 fd) (by
      refine' LawK.df_mk KX G (fun _ _ _ _ _ _ us hl => match us, hl with | [_, _], _ => rfl) ?kq11a ?kq11l ?kq11c
      (case kq11a => k_is); (case kq11l => k_is); (case kq11c => kernel_rfl)) ?_
    intro DQWith
    refine LawK.say KX (fun K => ∃ fd, LawK.Df K mg "told_by" LawK.sPTold ["phrases"] 123 fd) (by
      refine' LawK.df_mk KX G (fun _ _ _ _ _ _ us hl => match us, hl with | [_], _ => rfl) ?kq12a ?kq12l ?kq12c
      (case kq12a => k_is); (case kq12l => k_is); (case kq12c => kernel_rfl)) ?_
    intro DPTold
    refine LawK.say KX (fun K => ∃ fd, LawK.Df K mg "_longest_phrase" LawK.sQLongest ["text", "first"] 130 fd) (by
      refine' LawK.df_mk KX G (fun _ _ _ _ _ _ us hl => match us, hl with | [_, _], _ => rfl) ?kq13a ?kq13l ?kq13c
      (case kq13a => k_is); (case kq13l => k_is); (case kq13c => kernel_rfl)) ?_
    intro DQLongest
    refine LawK.say KX (fun K => ∃ fd, LawK.Df K mg "_phrasing" LawK.sQPhrasing ["text"] 137 fd) (by
      refine' LawK.df_mk KX G (fun _ _ _ _ _ _ us hl => match us, hl with | [_], _ => rfl) ?kq14a ?kq14l ?kq14c
      (case kq14a => k_is); (case kq14l => k_is); (case kq14c => kernel_rfl)) ?_
    intro DQPhrasing
    refine LawK.say KX (fun K => ∃ fd, LawK.Df K mg "phrasing" LawK.sPPhrasing ["text"] 144 fd) (by
      refine' LawK.df_mk KX G (fun _ _ _ _ _ _ us hl => match us, hl with | [_], _ => rfl) ?kq15a ?kq15l ?kq15c
      (case kq15a => k_is); (case kq15l => k_is); (case kq15c => kernel_rfl)) ?_
    intro DPPhrasing
    refine LawK.say KX (fun K => ∃ fd, LawK.Df K mg "is_phrasing" LawK.sPIsPhrasing ["text", "thing"] 151 fd) (by
      refine' LawK.df_mk KX G (fun _ _ _ _ _ _ us hl => match us, hl with | [_, _], _ => rfl) ?kq16a ?kq16l ?kq16c
      (case kq16a => k_is); (case kq16l => k_is); (case kq16c => kernel_rfl)) ?_
    intro DPIsPhrasing
    refine LawK.say KX (fun K => ∃ fd, LawK.Df K mg "fewest_phrases" LawK.sPFewest ["text"] 158 fd) (by
      refine' LawK.df_mk KX G (fun _ _ _ _ _ _ us hl => match us, hl with | [_], _ => rfl) ?kq17a ?kq17l ?kq17c
      (case kq17a => k_is); (case kq17l => k_is); (case kq17c => kernel_rfl)) ?_
    intro DPFewest
    refine LawK.say KX (fun K => ∃ fd, LawK.Df K mg "_law_hand" LawK.sHand ["script"] 163 fd) (by
      refine' LawK.df_mk KX G (fun _ _ _ _ _ _ us hl => match us, hl with | [_], _ => rfl) ?kq18a ?kq18l ?kq18c
      (case kq18a => k_is); (case kq18l => k_is); (case kq18c => kernel_rfl)) ?_
    intro DHand
    refine LawK.say KX (fun K => ∃ fd, LawK.Df K mg "_law_draw" LawK.sDraw ["hand", "many"] 170 fd) (by
      refine' LawK.df_mk KX G (fun _ _ _ _ _ _ us hl => match us, hl with | [_, _], _ => rfl) ?kq19a ?kq19l ?kq19c
      (case kq19a => k_is); (case kq19l => k_is); (case kq19c => kernel_rfl)) ?_
    intro DDraw
    refine LawK.say KX (fun K => ∃ fd, LawK.Df K mg "_law_any" LawK.sAny ["hand", "some"] 177 fd) (by
      refine' LawK.df_mk KX G (fun _ _ _ _ _ _ us hl => match us, hl with | [_, _], _ => rfl) ?kq20a ?kq20l ?kq20c
      (case kq20a => k_is); (case kq20l => k_is); (case kq20c => kernel_rfl)) ?_
    intro DAny
    refine LawK.say KX (fun K => ∃ fd, LawK.Df K mg "_law_is_int" LawK.sIsInt ["thing", "least", "most"] 184 fd) (by
      refine' LawK.df_mk KX G (fun _ _ _ _ _ _ us hl => match us, hl with | [_, _, _], _ => rfl) ?kq21a ?kq21l ?kq21c
      (case kq21a => k_is); (case kq21l => k_is); (case kq21c => kernel_rfl)) ?_
    intro DIsInt
    refine LawK.say KX (fun K => ∃ fd, LawK.Df K mg "_law_deep" LawK.sDeep ["many"] 191 fd) (by
      refine' LawK.df_mk KX G (fun _ _ _ _ _ _ us hl => match us, hl with | [_], _ => rfl) ?kq22a ?kq22l ?kq22c
      (case kq22a => k_is); (case kq22l => k_is); (case kq22c => kernel_rfl)) ?_
    intro DDeep
    refine LawK.say KX (fun K => ∃ fd, LawK.Df K mg "_law_text" LawK.sText ["hand", "signs", "most"] 196 fd) (by
      refine' LawK.df_mk KX G (fun _ _ _ _ _ _ us hl => match us, hl with | [_, _, _], _ => rfl) ?kq23a ?kq23l ?kq23c
      (case kq23a => k_is); (case kq23l => k_is); (case kq23c => kernel_rfl)) ?_
    intro DText
    refine LawK.say KX (fun K => ∃ fd, LawK.Df K mg "_law_signs" LawK.sSigns ["hand"] 203 fd) (by
      refine' LawK.df_mk KX G (fun _ _ _ _ _ _ us hl => match us, hl with | [_], _ => rfl) ?kq24a ?kq24l ?kq24c
      (case kq24a => k_is); (case kq24l => k_is); (case kq24c => kernel_rfl)) ?_
    intro DSigns
    refine LawK.say KX (fun K => ∃ fd, LawK.Df K mg "_law_is_flag" LawK.sIsFlag ["told", "due"] 210 fd) (by
      refine' LawK.df_mk KX G (fun _ _ _ _ _ _ us hl => match us, hl with | [_, _], _ => rfl) ?kq25a ?kq25l ?kq25c
      (case kq25a => k_is); (case kq25l => k_is); (case kq25c => kernel_rfl)) ?_
    intro DIsFlag
    refine LawK.say KX (fun K => ∃ fd, LawK.Df K mg "_law_longest" LawK.sLongest ["text", "at"] 217 fd) (by
      refine' LawK.df_mk KX G (fun _ _ _ _ _ _ us hl => match us, hl with | [_, _], _ => rfl) ?kq26a ?kq26l ?kq26c
      (case kq26a => k_is); (case kq26l => k_is); (case kq26c => kernel_rfl)) ?_
    intro DLongest
    refine LawK.say KX (fun K => ∃ fd, LawK.Df K mg "_law_fewest" LawK.sFewest ["text"] 224 fd) (by
      refine' LawK.df_mk KX G (fun _ _ _ _ _ _ us hl => match us, hl with | [_], _ => rfl) ?kq27a ?kq27l ?kq27c
      (case kq27a => k_is); (case kq27l => k_is); (case kq27c => kernel_rfl)) ?_
    intro DFewest
    refine LawK.say KX (fun K => ∃ fd, LawK.Df K mg "_law_drawn" LawK.sDrawn ["hand", "text"] 229 fd) (by
      refine' LawK.df_mk KX G (fun _ _ _ _ _ _ us hl => match us, hl with | [_, _], _ => rfl) ?kq28a ?kq28l ?kq28c
      (case kq28a => k_is); (case kq28l => k_is); (case kq28c => kernel_rfl)) ?_
    intro DDrawn
    refine LawK.say KX (fun K => ∃ fd, LawK.Df K mg "_law_told" LawK.sTold ["thing"] 236 fd) (by
      refine' LawK.df_mk KX G (fun _ _ _ _ _ _ us hl => match us, hl with | [_], _ => rfl) ?kq29a ?kq29l ?kq29c
      (case kq29a => k_is); (case kq29l => k_is); (case kq29c => kernel_rfl)) ?_
    intro DTold
    refine LawK.say KX (fun K => ∃ fd, LawK.Df K mg "_law_of_package" LawK.sOfPackage ["thing"] 243 fd) (by
      refine' LawK.df_mk KX G (fun _ _ _ _ _ _ us hl => match us, hl with | [_], _ => rfl) ?kq30a ?kq30l ?kq30c
      (case kq30a => k_is); (case kq30l => k_is); (case kq30c => kernel_rfl)) ?_
    intro DOfPackage
    refine LawK.say KX (fun K => ∃ fd, LawK.Df K mg "_law_bent" LawK.sBent ["hand", "phrases"] 250 fd) (by
      refine' LawK.df_mk KX G (fun _ _ _ _ _ _ us hl => match us, hl with | [_, _], _ => rfl) ?kq31a ?kq31l ?kq31c
      (case kq31a => k_is); (case kq31l => k_is); (case kq31c => kernel_rfl)) ?_
    intro DBent
    refine LawK.say KX (fun K => ∃ fd, LawK.Df K mg "_law_great_right" LawK.sGreatRight ["hand"] 257 fd) (by
      refine' LawK.df_mk KX G (fun _ _ _ _ _ _ us hl => match us, hl with | [_], _ => rfl) ?kq32a ?kq32l ?kq32c
      (case kq32a => k_is); (case kq32l => k_is); (case kq32c => kernel_rfl)) ?_
    intro DGreatRight
    have GL : LawK.Glob mg := ⟨mg_none_of KX G (by k_is), mg_none_of KX G (by k_is), mg_none_of KX G (by k_is), mg_none_of KX G (by k_is), mg_none_of KX G (by k_is), mg_none_of KX G (by k_is), mg_none_of KX G (by k_is), mg_none_of KX G (by k_is), mg_none_of KX G (by k_is), mg_none_of KX G (by k_is), mg_none_of KX G (by k_is), mg_none_of KX G (by k_is), mg_none_of KX G (by k_is), mg_none_of KX G (by k_is), mg_none_of KX G (by k_is), mg_none_of KX G (by k_is), mg_none_of KX G (by k_is), mg_none_of KX G (by k_is), mg_none_of KX G (by k_is), mg_none_of KX G (by k_is)⟩
    refine' LawK.end_mk KX G hfa ?kq33a ?kq33l ?kq33c ?kq33b DPNumber DPSigns DPSign DPTuple DPText DQIsPhrase DQWith DPTold DQLongest DQPhrasing DPPhrasing DPIsPhrasing DPFewest DHand DDraw DAny DIsInt DDeep DText DSigns DIsFlag DLongest DFewest DDrawn DTold DOfPackage DBent DGreatRight EN EP CB ?kq33p (mg_none_of KX G (by k_is)) GL
    (case kq33a => k_is); (case kq33l => k_is); (case kq33c => kernel_rfl); (case kq33b => k_is); (case kq33p => k_is)
