import PyProof.Rows.All
import Wide.All
import OpenK.AllK
import Wide.FinOn
import HandS.ForMost
import HandS.ForExc
import PyProof.ReprRoads
import PyProof.ReprLen
import HandS.Dict
import HandS.ExcInit
import PyProof.StrBlock2
import HandS.IsInst
import HandS.Codes
import HandS.StrMore
import HandS.TupMul
import HandS.Style
import HandS.TupAny
import HandS.Zip
import KE.GoesEnum
import KE.KExcSuper
import KE.KExcMake
import HandS.ExcValue
import HandS.ExcIs
import KE.KExcIs
import HandS.ExcField
import HandS.TryMany
import HandS.TryOnly
import HandS.Base
import HandS.Call
import HandS.List
import HandS.Comp
import HandS.Set
import HandS.SetKeys
import HandS.SetBool
import HandS.SortOrd
import HandS.SortInts
import PyProof.Rows.SortStr
import HandS.Walk
import KE.SortData
import KE.DataCmp
import HandS.SetFor
import HandS.Iter
import HandS.Evl
import PyProof.Rows.StrRev
import HandS.OwnEq
import HandS.Lambda
import HandS.More
import HandS.CallLocal
import PyProof.DictStraight
import HandS.DictTup
import HandS.EndTab
import KE.KNestM
import PySem.Challenge.RW_everypiece_k25_rows_refused
set_option Elab.async false
set_option linter.all false
set_option maxRecDepth 100000
set_option maxHeartbeats 4000000
/-! repr of nested data that the law has made. -/
namespace Ev
open PySem PySem.Spec PyProof.Rows L2

/-- a display of a list; its place is not the table of modules -/
def tLstN (t : TA) : TE := fun σ H Q => t σ H fun xs H1 => xs.length ≤ sizeLine ∧ ∀ p, H1 p = none → p ≠ sysModules → Q (.ref p) (upd H1 p (.lst xs))
theorem pe_lstN {X : Cx} {es : List Expr} {pos : Pos} {t : TA} (h : PA X es t) : PE X (.List es pos) (tLstN t) := by
  refine ⟨fun pins s σ H Q I hq => ?_⟩
  refine wpAny_List_spliced (thn (h.run pos pins s σ H _ I hq) fun us s1 hh => ?_)
  obtain ⟨xs, H1, I1, r, z, q⟩ := hh
  have hf : H1 s1.heap.objs.size = none := I1.hok.fresh (Nat.le_refl _)
  refine ⟨by rw [← r.length]; exact z, .ref s1.heap.objs.size, upd H1 s1.heap.objs.size (.lst xs), I1.laid (t' := s1.toks) (o := .lst xs) (fun b u e => Heap.get?_push_of_some _ e) (Nat.le_refl _) ⟨z, us, 0, r, Heap.get?_push_size _ rfl⟩, rfl, q _ hf (Ne.symm (Nat.ne_of_lt I1.big))⟩

/-- the datum d is told by v -/
inductive Dt (H : Hp) : V → PyData → Prop
  | non : Dt H .non .none
  | bl (b : Bool) : Dt H (.bl b) (.bool b)
  | int (i : Int) : Dt H (.int i) (.int i)
  | str (x : Str) : Dt H (.str x) (.str x)
  | dic {a : Addr} : H a = some (.dK []) → Dt H (.ref a) (.dict [])
  | l0 {a : Addr} : H a = some (.lst []) → a ≠ sysModules → Dt H (.ref a) (.list [])
  | l1 {a : Addr} {x : V} {d : PyData} : H a = some (.lst [x]) → a ≠ sysModules → Dt H x d → Dt H (.ref a) (.list [d])
  | l2 {a : Addr} {x y : V} {d e : PyData} : H a = some (.lst [x, y]) → a ≠ sysModules → Dt H x d → Dt H y e → Dt H (.ref a) (.list [d, e])
  | t0 {a : Addr} : H a = some (.tup []) → Dt H (.ref a) (.tuple [])
  | t1 {a : Addr} {x : V} {d : PyData} : H a = some (.tup [x]) → Dt H x d → Dt H (.ref a) (.tuple [d])
  | t2 {a : Addr} {x y : V} {d e : PyData} : H a = some (.tup [x, y]) → Dt H x d → Dt H y e → Dt H (.ref a) (.tuple [d, e])
theorem Dt.keep {H H' : Hp} {v : V} {d : PyData} (h : Dt H v d) (k : ∀ b o, H b = some o → H' b = some o) : Dt H' v d := by
  induction h with
  | non => exact .non
  | bl b => exact .bl b
  | int i => exact .int i
  | str x => exact .str x
  | dic e => exact .dic (k _ _ e)
  | l0 e n => exact .l0 (k _ _ e) n
  | l1 e n _ ih => exact .l1 (k _ _ e) n ih
  | l2 e n _ _ i1 i2 => exact .l2 (k _ _ e) n i1 i2
  | t0 e => exact .t0 (k _ _ e)
  | t1 e _ ih => exact .t1 (k _ _ e) ih
  | t2 e _ _ i1 i2 => exact .t2 (k _ _ e) i1 i2
section
variable {X : Cx} {pins : List (Addr × Obj)} {σ : L2.St} {H : Hp} {s : Shared}
theorem lst_at (I : L2.Inv X pins σ H s) {a : Addr} {xs : List V} (h : H a = some (.lst xs)) : ∃ (its : List Value) (n : Nat), Vals xs its ∧ s.heap.get? a = some { cls := .type "list", data := .seq its.toArray n } := by
  obtain ⟨_, its, n, r, e⟩ := (show ObjOk X.prog X.w H s.heap a (.lst xs) from I.hok a _ h)
  exact ⟨its, n, r, e⟩
theorem tup_at (I : L2.Inv X pins σ H s) {a : Addr} {xs : List V} (h : H a = some (.tup xs)) : ∃ (its : List Value) (o : Obj) (n : Nat), Vals xs its ∧ s.heap.get? a = some o ∧ o.cls = .type "tuple" ∧ o.data = .seq its.toArray n := by
  obtain ⟨_, its, r, o, e, c, n, d⟩ := (show ObjOk X.prog X.w H s.heap a (.tup xs) from I.hok a _ h)
  exact ⟨its, o, n, r, e, c, d⟩
theorem Dt.reads (I : L2.Inv X pins σ H s) {v : V} {d : PyData} (h : Dt H v d) : ∀ {u : Value}, RelV v u → ∃ as, Reads s.heap u d as ∧ sysModules ∉ as := by
  induction h with
  | non => intro u r; cases r; exact ⟨_, .none, by simp⟩
  | bl b => intro u r; cases r; exact ⟨_, .bool b, by simp⟩
  | int i => intro u r; obtain ⟨t, rfl⟩ := r; exact ⟨_, .int i t, by simp⟩
  | str x => intro u r; obtain ⟨t, rfl⟩ := r; exact ⟨_, .str x t, by simp⟩
  | @dic a e =>
    intro u r
    cases r
    obtain ⟨_, hs, vs, kv, o, es, ep, ho, hx, hd, hk, hp, _⟩ := (show ObjOk X.prog X.w H s.heap a (.dK []) from I.hok a _ e)
    cases kv
    have he : es.toList = [] := by
      generalize es.toList = l at hp
      cases hp
      rfl
    refine ⟨a :: [] ++ [], .dict (as := []) (bs := []) ho hx.1 hd ?_ ?_, ?_⟩
    · rw [he]; exact .nil
    · rw [he]; exact .nil
    · have : a ≠ sysModules := by simpa using hs
      simp [Ne.symm this]
  | @l0 a e n =>
    intro u r
    cases r
    obtain ⟨its, m, rv, ho⟩ := lst_at I e
    cases rv
    exact ⟨_, .list ho rfl rfl .nil, by simp [Ne.symm n]⟩
  | @l1 a x d e n hx ih =>
    intro u r
    cases r
    obtain ⟨its, m, rv, ho⟩ := lst_at I e
    cases rv with
    | cons r1 rr =>
      cases rr
      obtain ⟨as, q, nq⟩ := ih r1
      exact ⟨_, .list ho rfl rfl (.cons q .nil), by simp [Ne.symm n, nq]⟩
  | @l2 a x y d e2 e n hx hy ih1 ih2 =>
    intro u r
    cases r
    obtain ⟨its, m, rv, ho⟩ := lst_at I e
    cases rv with
    | cons r1 rr =>
      cases rr with
      | cons r2 rr =>
        cases rr
        obtain ⟨as, q, nq⟩ := ih1 r1
        obtain ⟨bs, q2, nq2⟩ := ih2 r2
        exact ⟨_, .list ho rfl rfl (.cons q (.cons q2 .nil)), by simp [Ne.symm n, nq, nq2]⟩
  | @t0 a e =>
    intro u r
    cases r
    obtain ⟨its, o, m, rv, ho, hc, hd⟩ := tup_at I e
    cases rv
    exact ⟨_, .tuple ho hc hd .nil, by simp⟩
  | @t1 a x d e hx ih =>
    intro u r
    cases r
    obtain ⟨its, o, m, rv, ho, hc, hd⟩ := tup_at I e
    cases rv with
    | cons r1 rr =>
      cases rr
      obtain ⟨as, q, nq⟩ := ih r1
      exact ⟨_, .tuple ho hc hd (.cons q .nil), by simp [nq]⟩
  | @t2 a x y d e2 e hx hy ih1 ih2 =>
    intro u r
    cases r
    obtain ⟨its, o, m, rv, ho, hc, hd⟩ := tup_at I e
    cases rv with
    | cons r1 rr =>
      cases rr with
      | cons r2 rr =>
        cases rr
        obtain ⟨as, q, nq⟩ := ih1 r1
        obtain ⟨bs, q2, nq2⟩ := ih2 r2
        exact ⟨_, .tuple ho hc hd (.cons q (.cons q2 .nil)), by simp [nq, nq2]⟩
end
/-- repr(x), x a datum of small depth and size -/
def rRepr : List V → Hp → VK → Prop := fun xs H Q => ∃ (x : V) (d : PyData), xs = [x] ∧ Dt H x d ∧ d.showable = true ∧ d.depth ≤ 100 ∧ d.shown.length ≤ 100000 ∧ Q (.str d.shown) H
theorem call_repr {X : Cx} {k : Nat} (hg : X.A.guards = some []) (hr : Room k X.A) : CallR X (.builtin "repr") rRepr := by
  intro pins s σ H xs us Q I r h
  obtain ⟨x, d, rfl, hd, hs, hdp, hz, q⟩ := h
  obtain ⟨u, rfl, ru⟩ := vals1 r
  have hz' : d.shown.length ≤ sizeLine := Nat.le_trans hz (by decide)
  obtain ⟨as, rd, ns⟩ := hd.reads I ru
  have hu : X.A.units + (d.depth + 1) < cLine := by have := hr.un; omega
  have viaRef : ∀ a, u = .ref a → wpAny (model X.prog X.w) X.A (call (.builtin "repr") [u]) (EP X pins σ Q) X.xe s := fun a e => by
    subst e
    exact repr_of_reads' rd hs (fun _ => ns) hg hu (fun _ _ e => e) (fun h' u tk k => ⟨.str d.shown, H, I.kept k, ⟨_, rfl⟩, q⟩) hz'
  cases hd with
  | non => cases ru; exact PySem.P.repr_of_none ⟨.str _, H, I.tok _, ⟨_, rfl⟩, by simpa only [PyData.shown] using q⟩
  | bl b => cases ru; exact PySem.P.repr_of_bool ⟨.str _, H, I.tok _, ⟨_, rfl⟩, by simpa only [PyData.shown] using q⟩
  | int i => obtain ⟨t, rfl⟩ := ru; exact PySem.P.repr_of_int (by simpa [PyData.showable] using hs) ⟨.str _, H, I.tok _, ⟨_, rfl⟩, by simpa only [PyData.shown] using q⟩
  | str x => obtain ⟨t, rfl⟩ := ru; exact PySem.P.repr_of_str ⟨.str _, H, I.tok _, ⟨_, rfl⟩, by simpa only [PyData.shown] using q⟩ (by simpa only [PyData.shown] using hz')
  | dic e => exact viaRef _ ru
  | l0 e n => exact viaRef _ ru
  | l1 e n h1 => exact viaRef _ ru
  | l2 e n h1 h2 => exact viaRef _ ru
  | t0 e => exact viaRef _ ru
  | t1 e h1 => exact viaRef _ ru
  | t2 e h1 h2 => exact viaRef _ ru
/-- what is told of a datum: it may be shown, so deep, so long -/
def Small (d : PyData) (n m : Nat) : Prop := d.showable = true ∧ d.depth ≤ n ∧ d.shown.length ≤ m
theorem int_len {k : Int} (hk : 0 ≤ k ∧ k < 100) : (PyData.shown (.int k)).length ≤ 3 := by
  have e : (toString k).length ≤ 2 + 1 := int_text_length_le10 (by decide) (by omega)
  simp only [PyData.shown]
  rw [PySem.ofString_length]
  exact e
theorem int_show {k : Int} (hk : 0 ≤ k ∧ k < 100) : k.natAbs.log2 < 1920 := by
  have := Nat.log2_le_self k.natAbs
  omega
theorem small_tup {d : PyData} {n m : Nat} {k : Int} (h : Small d n m) (hk : 0 ≤ k ∧ k < 100) : Small (.tuple [d, .int k]) (n + 1) (m + 10) := by
  obtain ⟨h1, h2, h3⟩ := h
  refine ⟨by simp [PyData.showable, PyData.showableAll, h1, int_show hk], by simp only [PyData.depth, PyData.depthAll]; omega, ?_⟩
  have e := tupleText_len_le (PyData.shownAll [d, .int k])
  have e2 := int_len hk
  simp only [PyData.shownAll, List.map_cons, List.map_nil, List.sum_cons, List.sum_nil, List.length_cons, List.length_nil] at e
  show (tupleText (PyData.shownAll [d, .int k])).length ≤ m + 10
  simp only [PyData.shownAll]
  omega
theorem small_lst {d : PyData} {n m : Nat} {k : Int} (h : Small d n m) (hk : 0 ≤ k ∧ k < 100) : Small (.list [.int k, d]) (n + 1) (m + 10) := by
  obtain ⟨h1, h2, h3⟩ := h
  refine ⟨by simp [PyData.showable, PyData.showableAll, h1, int_show hk], by simp only [PyData.depth, PyData.depthAll]; omega, ?_⟩
  have e := listText_len_le (PyData.shownAll [.int k, d])
  have e2 := int_len hk
  simp only [PyData.shownAll, List.map_cons, List.map_nil, List.sum_cons, List.sum_nil, List.length_cons, List.length_nil] at e
  show (listText (PyData.shownAll [.int k, d])).length ≤ m + 10
  simp only [PyData.shownAll]
  omega
theorem Small.mono {d : PyData} {n m n' m' : Nat} (h : Small d n m) (h1 : n ≤ n') (h2 : m ≤ m') : Small d n' m' := ⟨h.1, Nat.le_trans h.2.1 h1, Nat.le_trans h.2.2 h2⟩
end Ev
set_option maxHeartbeats 4000000
namespace LawK
open PySem PySem.Spec PyProof.Rows L2 Ev

def topS (i : Nat) : Stmt := PySem.Challenge.pw_everypiece_k25_rows_refused.main.body.getD i (.Pass ⟨0, 0, 0, 0⟩)
abbrev sHand : Stmt := topS 30
theorem scHand : FnScope ["script", "cells", "cell"] ["script"] (defScope sHand) := ⟨rfl, rfl, rfl, by decide +kernel, rfl, by decide +kernel, by decide +kernel⟩
abbrev sDraw : Stmt := topS 33
theorem scDraw : FnScope ["hand", "many", "cell", "digit", "number"] ["hand", "many"] (defScope sDraw) := ⟨rfl, rfl, rfl, by decide +kernel, rfl, by decide +kernel, by decide +kernel⟩
/-! ### the hand of a law: what is left of the script, and a seed -/
def HandL (H : Hp) (p l : Addr) : Prop := ∃ (cells : List Int) (i r s n : Int), H p = some (.lst [.ref l, .int i, .int r, .int s, .int n]) ∧ H l = some (.lst (cells.map V.int)) ∧ l ≠ p ∧ 0 ≤ i ∧ 0 ≤ s ∧ s < 2147483647
/-- nothing but the hand at p has changed -/
def But (p : Addr) (H H' : Hp) : Prop := ∀ b o, b ≠ p → H b = some o → H' b = some o
theorem But.refl (p : Addr) (H : Hp) : But p H H := fun _ _ _ h => h
theorem But.trans {p : Addr} {H H1 H2 : Hp} (a : But p H H1) (b : But p H1 H2) : But p H H2 := fun c o n h => b c o n (a c o n h)
theorem But.new {p q : Addr} {H H1 : Hp} {o : HO} (a : But p H H1) (h : H1 q = none) : But p H (upd H1 q o) := fun c u n e => by
  have z := a c u n e
  rw [upd_ne (ne_of_none z h)]
  exact z
theorem But.same {p : Addr} {H H' : Hp} (a : Same H H') : But p H H' := fun c o _ e => a c o e
def spDraw : Sp := fun vs H Q _ => ∃ (p : Addr) (m : Int), vs = [.ref p, .int m] ∧ 0 < m ∧ m < 1000000 ∧ ∃ l, HandL H p l ∧ ∀ v H', 0 ≤ v → v < m → HandL H' p l → But p H H' → Q (.int v) H'
def spHand (K : PySem.W.Frag) : Sp := fun vs H Q _ => ∃ (a : Addr) (ns : List Int), vs = [.ref a] ∧ SqL K H a (ns.map V.int) ∧ ∀ p l H', H p = none → H l = none → HandL H' p l → Same H H' → Q (.ref p) H'
structure Glob (mg : Str → Option Value) : Prop where
  abs : mg "abs" = none
  any : mg "any" = none
  repr : mg "repr" = none
  reversed : mg "reversed" = none
  len : mg "len" = none
  int : mg "int" = none
  list : mg "list" = none
  range : mg "range" = none
  isinstance : mg "isinstance" = none
  bool : mg "bool" = none
  str : mg "str" = none
  tuple : mg "tuple" = none
  sum : mg "sum" = none
  ord : mg "ord" = none
  zip : mg "zip" = none
  max : mg "max" = none
  min : mg "min" = none
  all : mg "all" = none
  enumerate : mg "enumerate" = none
  sorted : mg "sorted" = none

theorem sq_of {K : PySem.W.Frag} {H : Hp} {a : Addr} {xs : List V} (h : H a = some (.lst xs)) : SqL K H a xs := .inl (.inl h)
theorem atI_in {α : Type} {xs : List α} {i : Int} (h0 : 0 ≤ i) (h1 : i < xs.length) : ∃ v, atI xs i = some v ∧ v ∈ xs := by
  obtain ⟨j, rfl⟩ := Int.eq_ofNat_of_zero_le h0
  have hj : j < xs.length := by omega
  exact ⟨xs[j], atI_nat (by rw [List.getElem?_eq_getElem hj]), List.getElem_mem hj⟩
theorem atI_int {xs : List Int} {i : Int} (h0 : 0 ≤ i) (h1 : i < xs.length) : ∃ c : Int, atI (xs.map V.int) i = some (.int c) := by
  obtain ⟨v, e, hm⟩ := atI_in (xs := xs.map V.int) h0 (by rw [List.length_map]; exact h1)
  obtain ⟨c, _, rfl⟩ := List.mem_map.mp hm
  exact ⟨c, e⟩
theorem Same.new {H : Hp} {q : Addr} {o : HO} (h : H q = none) : Same H (upd H q o) := fun b u e => by
  rw [upd_ne (ne_of_none e h)]
  exact e
theorem sameAt {H H' : Hp} {q : Addr} {o : HO} (k : Same H H') (h : H q = none) : Same H (upd H' q o) := fun b u e => by
  rw [upd_ne (ne_of_none e h)]
  exact k b u e
theorem Same.free {H H' : Hp} (k : Same H H') {a : Addr} (h : H' a = none) : H a = none := by
  cases e : H a with
  | none => rfl
  | some o =>
    rw [k _ _ e] at h
    cases h
theorem cells_cut {ns : List Int} {h : Option Int} : ∃ ms : List Int, cutV (ns.map V.int) none h = ms.map V.int ∧ ms.length ≤ ns.length := by
  refine ⟨(ns.drop (HT.sIx (ns.map V.int).length 0 none)).take (HT.sIx (ns.map V.int).length (ns.map V.int).length h - HT.sIx (ns.map V.int).length 0 none), ?_, ?_⟩
  · show ((ns.map V.int).drop _).take _ = _
    rw [← List.map_drop, ← List.map_take]
  · rw [List.length_take, List.length_drop]
    omega
theorem PSs.imp {X : Cx} {st : List Stmt} {t u : TS} (h : PSs X st u) (k : ∀ D σ H, t D σ H → u D σ H) : PSs X st t := ⟨fun pins s σ H D I q => h.run pins s σ H D I (k D σ H q)⟩
theorem PE.imp {X : Cx} {e : Expr} {t u : TE} (h : PE X e u) (k : ∀ σ H Q, t σ H Q → u σ H Q) : PE X e t := ⟨fun pins s σ H Q I q => h.run pins s σ H Q I (k σ H Q q)⟩
theorem PS.imp {X : Cx} {st : Stmt} {t u : TS} (h : PS X st u) (k : ∀ D σ H, t D σ H → u D σ H) : PS X st t := ⟨fun pins s σ H D I q => h.run pins s σ H D I (k D σ H q)⟩
def tTail : TS := fun D σ H => ∃ (p : Addr) (m : Int) (l : Addr) (cells : List Int) (i r s n : Int) (c f x : Option V), σ = [some (.ref p), some (.int m), c, f, x] ∧ 0 < m ∧ m < 1000000 ∧ H p = some (.lst [.ref l, .int i, .int r, .int s, .int n]) ∧ H l = some (.lst (cells.map V.int)) ∧ l ≠ p ∧ 0 ≤ i ∧ 0 ≤ s ∧ s < 2147483647 ∧
  ∀ v H', 0 ≤ v → v < m → HandL H' p l → But p H H' → D.rt (.int v) H'
theorem HandL.mk {H : Hp} {p l : Addr} {cells : List Int} {i r s n : Int} (hp : H p = some (.lst [.ref l, .int i, .int r, .int s, .int n])) (hl : H l = some (.lst (cells.map V.int))) (n0 : l ≠ p) (h1 : 0 ≤ i) (h2 : 0 ≤ s) (h3 : s < 2147483647) : HandL H p l := ⟨cells, i, r, s, n, hp, hl, n0, h1, h2, h3⟩
theorem but_upd {p : Addr} {H : Hp} {o : HO} : But p H (upd H p o) := fun b u n e => by
  rw [upd_ne n]
  exact e
theorem boot_ty_int : bootBuiltins "int" = some (.type "int") := by decide +kernel
section
variable {P : Program} {w : World} {K : PySem.W.Frag} {mg : Str → Option Value} {base : Heap}

theorem ok_Hand {f : Addr} {fd : FuncData} (F : Fun K "_law_hand" "_law_hand" sHand f fd) (T : Glob mg) : FnOk P w K mg base CX0 1 f fd ["script"] (spHand K) := by
  refine F.ok scHand (fun vs H Q E h => ?_) (fun cdv A outer s H vs Q E hr h => ?_)
  · obtain ⟨a, ns, rfl, _⟩ := h
    rfl
  · obtain ⟨a, ns, rfl, hS, q⟩ := h
    refine ⟨_, (pss_cons (ps_setLc (i := 1) (own := [("cell", 2)]) (g := gName 2) (by rfl) scHand.nd rfl rfl (sw_true rfl rfl rfl (by decide +kernel)) (pi_list (pe_slice sl_list (pv 0) po_none (po_some pe_int))) (blkOk_by (N := ["script", "cells", "cell"]) (sc := defScope sHand) (by decide +kernel)) (fun _ _ _ _ _ => pg_name (i := 2) scHand.nd rfl (.inl rfl)) (fun _ _ _ _ _ => pts_nil) (fun _ _ _ _ _ => (pe_callB call_abs (by rfl) T.abs (by decide +kernel) (pa_cons (pe_callTy call_int1 (by rfl) T.int boot_ty_int (pa_cons (pv 2) pa_nil)) pa_nil))))
      (pss_one (ps_ret (pe_lst (pa_cons (pv 1) (pa_cons pe_int (pa_cons pe_int (pa_cons (pe_op op_add pe_int (pe_callB call_len_seq (by rfl) T.len PySem.boot_len (pa_cons (pv 1) pa_nil))) (pa_cons pe_int pa_nil))))))))), ?_⟩
    obtain ⟨ms, ec, lm⟩ := cells_cut (ns := ns) (h := some 63)
    have lc : (cutV (ns.map V.int) none (some (63 : Int))).length ≤ 63 := by
      show (((ns.map V.int).drop _).take _).length ≤ 63
      rw [List.length_take]
      have : HT.sIx (ns.map V.int).length (ns.map V.int).length (some (63 : Int)) ≤ 63 := Nat.min_le_left _ _
      omega
    refine ⟨.ref a, rfl, 63, rfl, a, _, rfl, hS, fun c nc => ?_⟩
    rw [ec]
    rw [ec, List.length_map] at lc
    have kc := Same.new (o := .lst (ms.map V.int)) nc
    have hc : upd H c (.lst (ms.map V.int)) c = some (.lst (ms.map V.int)) := upd_same
    revert kc hc
    generalize upd H c (.lst (ms.map V.int)) = H1
    intro kc hc
    refine ⟨c, rfl, ⟨_, sq_of hc⟩, fun l nl => lc_list (xs := ms.map V.int) (fun i H' => Same H1 H' ∧ ∃ zs : List Int, H' l = some (.lst (zs.map V.int)) ∧ zs.length = i) ⟨Same.new nl, [], upd_same, rfl⟩ (fun i H' _ w => sq_of (w.1 _ _ hc)) ?_ ?_⟩
    · rintro i x H2 hx ⟨k2, zs, hl, lz⟩
      rw [List.getElem?_map] at hx
      obtain ⟨y, hy, rfl⟩ := Option.map_eq_some_iff.mp hx
      have li := (List.getElem?_eq_some_iff.mp hy).1
      refine ⟨rfl, .int y, rfl, .inl ⟨y, rfl, y, rfl, _, hl, ?_, sameAt k2 nl, zs ++ [if y < 0 then -y else y], ?_, by rw [List.length_append, lz]; rfl⟩⟩
      · rw [List.length_map, lz, sizeLine_eq]
        omega
      · rw [upd_same, List.map_append]
        rfl
    · rintro H2 ⟨k2, zs, hl, lz⟩
      rw [List.length_map] at lz
      refine ⟨.ref l, rfl, .ref l, rfl, l, _, rfl, .inl (sq_of hl), _, _, rfl, rfl, by show 5 ≤ sizeLine; decide, fun p hp => ?_⟩
      have nlp : l ≠ p := fun e => by
        rw [e] at hl
        rw [hl] at hp
        cases hp
      have kH2 : Same H H2 := kc.trans k2
      have ncl : H l = none := Same.free kc nl
      refine q p l _ (Same.free kH2 hp) ncl ⟨zs, 0, 0, 1 + (((zs.map V.int).length : Nat) : Int), 0, upd_same, by rw [upd_ne nlp]; exact hl, nlp, by decide, by omega, ?_⟩ (sameAt kH2 (Same.free kH2 hp))
      rw [List.length_map]
      omega
theorem ok_Draw {f : Addr} {fd : FuncData} (F : Fun K "_law_draw" "_law_draw" sDraw f fd) (T : Glob mg) : FnOk P w K mg base CX0 1 f fd ["hand", "many"] spDraw := by
  refine F.ok scDraw (fun vs H Q E h => ?_) (fun cdv A outer s H vs Q E hr h => ?_)
  · obtain ⟨p, m, rfl, _⟩ := h
    rfl
  · obtain ⟨p, m, rfl, m0, m1, l, ⟨cells, i, r, s0, n, hp, hl, npl, hi, hs0, hs1⟩, q⟩ := h
    refine ⟨_, (pss_cons (ps_if (PW.pt (pw_and (pt_cmpR op_eq (pe_ix ix_list (pv 0) pe_int (fun _ _ => rfl)) pe_int (nomark _)) (pw_and1 (pt_cmpR op_lt (pe_ix ix_list (pv 0) pe_int (fun _ _ => rfl)) (pe_callB call_len_seq (by rfl) T.len PySem.boot_len (pa_cons (pe_ix ix_list (pv 0) pe_int (fun _ _ => rfl)) pa_nil)) (nomark _)))))
      (pss_cons (ps_set (i := 2) scDraw.nd rfl (.inl rfl) (pe_ix ix_list (pe_ix ix_list (pv 0) pe_int (fun _ _ => rfl)) (pe_ix ix_list (pv 0) pe_int (fun _ _ => rfl)) (fun _ _ => rfl)))
        (pss_cons (ps_asg (pe_op op_add (pe_ix ix_list (pv 0) pe_int (fun _ _ => rfl)) pe_int) (pg_sub (pv 0) pe_int set_list))
        (pss_cons (ps_asg (pe_op op_mod (pe_callTy call_int1 (by rfl) T.int boot_ty_int (pa_cons (pe_op op_add (pe_op op_add (pe_op op_mul (pe_ix ix_list (pv 0) pe_int (fun _ _ => rfl)) pe_int) (pv 2)) pe_int) pa_nil)) pe_int) (pg_sub (pv 0) pe_int set_list))
        (pss_one (ps_if (pt_cmpR op_ge (pv 2) (pe_op op_pow pe_int pe_int) (nomark _))
        (pss_one (ps_asg (pv 2) (pg_sub (pv 0) pe_int set_list)))
        pss_nil)))))
      pss_nil)
      (PSs.imp (t := tTail) (pss_cons (ps_if (pt_cmpR op_gt (pe_ix ix_list (pv 0) pe_int (fun _ _ => rfl)) pe_int (nomark _))
      (pss_cons (ps_set (i := 3) scDraw.nd rfl (.inl rfl) (pe_op op_mod (pe_callTy call_int1 (by rfl) T.int boot_ty_int (pa_cons (pe_ix ix_list (pv 0) pe_int (fun _ _ => rfl)) pa_nil)) (pv 1)))
        (pss_cons (ps_asg (pe_op op_fdiv (pe_ix ix_list (pv 0) pe_int (fun _ _ => rfl)) (pv 1)) (pg_sub (pv 0) pe_int set_list))
        (pss_one (ps_ret (pv 3)))))
      pss_nil)
      (pss_cons (ps_asg (pe_op op_add (pe_ix ix_list (pv 0) pe_int (fun _ _ => rfl)) pe_int) (pg_sub (pv 0) pe_int set_list))
      (pss_cons (ps_set (i := 4) scDraw.nd rfl (.inl rfl) (pe_op op_mod (pe_callTy call_int1 (by rfl) T.int boot_ty_int (pa_cons (pe_op op_mul (pe_callTy call_int1 (by rfl) T.int boot_ty_int (pa_cons (pe_op op_add (pe_ix ix_list (pv 0) pe_int (fun _ _ => rfl)) (pe_op op_mul pe_int (pe_ix ix_list (pv 0) pe_int (fun _ _ => rfl)))) pa_nil)) pe_int) pa_nil)) pe_int))
      (pss_cons (ps_set (i := 4) scDraw.nd rfl (.inl rfl) (pe_op op_mod (pe_callTy call_int1 (by rfl) T.int boot_ty_int (pa_cons (pe_op op_mul (pv 4) (pe_op op_add (pe_op op_fdiv (pv 4) pe_int) pe_int)) pa_nil)) pe_int))
      (pss_cons (ps_set (i := 4) scDraw.nd rfl (.inl rfl) (pe_op op_mod (pe_callTy call_int1 (by rfl) T.int boot_ty_int (pa_cons (pe_op op_mul (pv 4) (pe_op op_add (pe_op op_fdiv (pv 4) pe_int) pe_int)) pa_nil)) pe_int))
      (pss_one (ps_ret (pe_op op_mod (pe_callTy call_int1 (by rfl) T.int boot_ty_int (pa_cons (pe_op op_fdiv (pv 4) pe_int) pa_nil)) (pv 1))))))))) ?tail)), ?_⟩
    case tail =>
      rintro D σ H ⟨p, m, l, cells, i, r, s, n, c, f, x, rfl, m0, m1, hp, hl, npl, hi, hs0, hs1, q⟩
      refine ⟨.ref p, rfl, p, _, 2, _, rfl, rfl, sq_of hp, rfl, _, _, rfl, rfl, _, rfl, ite2 (fun e => ?_) (fun e => ?_)⟩
      · refine ⟨.ref p, rfl, p, _, 2, _, rfl, rfl, sq_of hp, rfl, .inl ⟨r, rfl, .int m, rfl, _, _, rfl, rfl, m0, ?_⟩⟩
        refine ⟨.ref p, rfl, p, _, 2, _, rfl, rfl, sq_of hp, rfl, .int m, rfl, _, _, rfl, rfl, ⟨m0, by omega⟩, ?_⟩
        refine ⟨.ref p, rfl, p, _, 2, 2, rfl, rfl, hp, rfl, ?_⟩
        refine ⟨_, rfl, ?_⟩
        refine q _ _ (Int.emod_nonneg _ (by omega)) (Int.emod_lt_of_pos _ m0) (.mk upd_same (by rw [upd_ne npl]; exact hl) npl hi hs0 hs1) but_upd
      · dsimp only [tNext, tDrop]
        refine ⟨.ref p, rfl, p, _, 4, _, rfl, rfl, sq_of hp, rfl, _, _, rfl, rfl, .ref p, rfl, p, _, 4, 4, rfl, rfl, hp, rfl, ?_⟩
        dsimp only
        have hp2 : upd H p (.lst (List.set [.ref l, .int i, .int r, .int s, .int n] 4 (.int (n + 1)))) p = some (.lst [.ref l, .int i, .int r, .int s, .int (n + 1)]) := upd_same
        have hl2 : upd H p (.lst (List.set [.ref l, .int i, .int r, .int s, .int n] 4 (.int (n + 1)))) l = some (.lst (cells.map V.int)) := by rw [upd_ne npl]; exact hl
        have b2 : But p H (upd H p (.lst (List.set [.ref l, .int i, .int r, .int s, .int n] 4 (.int (n + 1))))) := but_upd
        generalize upd H p (.lst (List.set [.ref l, .int i, .int r, .int s, .int n] 4 (.int (n + 1)))) = H2 at hp2 hl2 b2 ⊢
        refine ⟨.ref p, rfl, p, _, 3, _, rfl, rfl, sq_of hp2, rfl, .ref p, rfl, p, _, 4, _, rfl, rfl, sq_of hp2, rfl, 7919, n + 1, rfl, rfl, .inl ⟨by decide, by decide⟩, _, _, rfl, rfl, .inl ⟨_, rfl, _, _, rfl, rfl, .inr ⟨by decide, by decide⟩, .inl ⟨_, rfl, _, _, rfl, rfl, (by show (0 : Int) < 2147483647; decide), ?_⟩⟩⟩
        dsimp only
        have a2 : 0 ≤ ((s + 7919 * (n + 1)) * 48271) % 2147483647 := Int.emod_nonneg _ (by decide)
        have a3 : ((s + 7919 * (n + 1)) * 48271) % 2147483647 < 2147483647 := Int.emod_lt_of_pos _ (by decide)
        generalize ((s + 7919 * (n + 1)) * 48271) % 2147483647 = y at a2 a3 ⊢
        refine ⟨.int y, rfl, .int y, rfl, _, _, rfl, rfl, ⟨by decide, by decide⟩, _, _, rfl, rfl, _, _, rfl, rfl, .inl ⟨by omega, by omega⟩, .inl ⟨_, rfl, _, _, rfl, rfl, (by show (0 : Int) < 2147483647; decide), ?_⟩⟩
        dsimp only
        have a4 : 0 ≤ (y * (y / 1009 + 69621)) % 2147483647 := Int.emod_nonneg _ (by decide)
        have a5 : (y * (y / 1009 + 69621)) % 2147483647 < 2147483647 := Int.emod_lt_of_pos _ (by decide)
        generalize (y * (y / 1009 + 69621)) % 2147483647 = z at a4 a5 ⊢
        refine ⟨.int z, rfl, .int z, rfl, _, _, rfl, rfl, ⟨by decide, by decide⟩, _, _, rfl, rfl, _, _, rfl, rfl, .inl ⟨by omega, by omega⟩, .inl ⟨_, rfl, _, _, rfl, rfl, (by show (0 : Int) < 2147483399; decide), ?_⟩⟩
        refine ⟨_, rfl, _, _, rfl, rfl, ⟨by decide, by decide⟩, .inl ⟨_, rfl, .int m, rfl, _, _, rfl, rfl, m0, ?_⟩⟩
        exact q _ _ (Int.emod_nonneg _ (by omega)) (Int.emod_lt_of_pos _ m0) (.mk hp2 hl2 npl hi hs0 hs1) b2
    have fin : ∀ {H2 : Hp} {i r s n : Int} {c : Option V}, H2 p = some (.lst [.ref l, .int i, .int r, .int s, .int n]) → H2 l = some (.lst (cells.map V.int)) → 0 ≤ i → 0 ≤ s → s < 2147483647 → But p H H2 →
        tTail { nx := fun _ H' => Q .non H', rt := Q } [some (.ref p), some (.int m), c, none, none] H2 := fun {H2 i r s n c} h1 h2 h3 h4 h5 h6 =>
      ⟨p, m, l, cells, i, r, s, n, c, none, none, rfl, m0, m1, h1, h2, npl, h3, h4, h5, fun v H' g1 g2 g3 g4 => q v H' g1 g2 g3 (h6.trans g4)⟩
    refine ⟨.ref p, rfl, p, _, 2, _, rfl, rfl, sq_of hp, rfl, rfl, _, rfl, ite2 (fun e => ?_) (fun e => ?_)⟩
    · refine ⟨.ref p, rfl, p, _, 1, _, rfl, rfl, sq_of hp, rfl, .ref p, rfl, p, _, 0, _, rfl, rfl, sq_of hp, rfl, l, _, rfl, .inl (sq_of hl), _, _, rfl, rfl, _, rfl, ite2 (fun e2 => ?_) (fun e2 => ?_)⟩
      · have hlt : i < (cells.length : Int) := by
          have z := of_decide_eq_true e2
          rw [List.length_map] at z
          exact z
        obtain ⟨c, hc⟩ := atI_int hi hlt
        refine ⟨.ref p, rfl, p, _, 0, _, rfl, rfl, sq_of hp, rfl, .ref p, rfl, p, _, 1, _, rfl, rfl, sq_of hp, rfl, l, _, i, _, rfl, rfl, sq_of hl, hc, ?_⟩
        refine ⟨.ref p, rfl, p, _, 1, _, rfl, rfl, sq_of hp, rfl, _, _, rfl, rfl, .ref p, rfl, p, _, 1, 1, rfl, rfl, hp, rfl, ?_⟩
        dsimp only
        have hp2 : upd H p (.lst (List.set [.ref l, .int i, .int r, .int s0, .int n] 1 (.int (i + 1)))) p = some (.lst [.ref l, .int (i + 1), .int r, .int s0, .int n]) := upd_same
        have hl2 : upd H p (.lst (List.set [.ref l, .int i, .int r, .int s0, .int n] 1 (.int (i + 1)))) l = some (.lst (cells.map V.int)) := by rw [upd_ne npl]; exact hl
        have b2 : But p H (upd H p (.lst (List.set [.ref l, .int i, .int r, .int s0, .int n] 1 (.int (i + 1))))) := but_upd
        generalize upd H p (.lst (List.set [.ref l, .int i, .int r, .int s0, .int n] 1 (.int (i + 1)))) = H2 at hp2 hl2 b2 ⊢
        refine ⟨.ref p, rfl, p, _, 3, _, rfl, rfl, sq_of hp2, rfl, s0, 69621, rfl, rfl, .inl ⟨by omega, by omega⟩, .int c, rfl, _, _, rfl, rfl, _, _, rfl, rfl, .inl ⟨_, rfl, _, _, rfl, rfl, (by show (0 : Int) < 2147483629; decide), .ref p, rfl, p, _, 3, 3, rfl, rfl, hp2, rfl, ?_⟩⟩
        dsimp only
        have a0 : 0 ≤ (s0 * 69621 + c + 11) % 2147483629 := Int.emod_nonneg _ (by decide)
        have a1 : (s0 * 69621 + c + 11) % 2147483629 < 2147483629 := Int.emod_lt_of_pos _ (by decide)
        generalize (s0 * 69621 + c + 11) % 2147483629 = s2 at a0 a1 ⊢
        have hp3 : upd H2 p (.lst (List.set [.ref l, .int (i + 1), .int r, .int s0, .int n] 3 (.int s2))) p = some (.lst [.ref l, .int (i + 1), .int r, .int s2, .int n]) := upd_same
        have hl3 : upd H2 p (.lst (List.set [.ref l, .int (i + 1), .int r, .int s0, .int n] 3 (.int s2))) l = some (.lst (cells.map V.int)) := by rw [upd_ne npl]; exact hl2
        have b3 : But p H (upd H2 p (.lst (List.set [.ref l, .int (i + 1), .int r, .int s0, .int n] 3 (.int s2)))) := b2.trans but_upd
        generalize upd H2 p (.lst (List.set [.ref l, .int (i + 1), .int r, .int s0, .int n] 3 (.int s2))) = H3 at hp3 hl3 b3 ⊢
        refine ⟨.int c, rfl, _, _, rfl, rfl, ⟨by decide, by decide, by decide⟩, _, _, rfl, rfl, _, rfl, ite2 (fun _ => ?_) (fun _ => ?_)⟩
        · refine ⟨.int c, rfl, .ref p, rfl, p, _, 2, 2, rfl, rfl, hp3, rfl, ?_⟩
          exact fin upd_same (by rw [upd_ne npl]; exact hl3) (by omega) a0 (by omega) (b3.trans but_upd)
        · dsimp only [tNext, tDrop]
          exact fin hp3 hl3 (by omega) a0 (by omega) b3
      · dsimp only [tNext, tDrop]
        exact fin hp hl hi hs0 hs1 (But.refl _ _)
    · dsimp only [tNext, tDrop]
      exact fin hp hl hi hs0 hs1 (But.refl _ _)
end
end LawK
set_option maxHeartbeats 4000000
/-! Texts: how long, so many times, which signs; kinds of values. -/
namespace Ev
open PySem PySem.Spec PyProof.Rows L2
def rLenZ : List V → Hp → VK → Prop := fun xs H Q => ∃ z : Str, xs = [.str z] ∧ z.length ≤ sizeLine ∧ Q (.int z.length) H
theorem call_lenZ {X : Cx} : CallR X (.builtin "len") rLenZ := fun pins s σ H xs us Q I r h =>
  call_len pins s σ H xs us Q I r (let ⟨z, e, hz, q⟩ := h; ⟨.str z, z.length, e, ⟨hz, rfl⟩, q⟩)
def rMulS : R2 := fun x y H Q => ∃ (z : Str) (n : Int), x = .str z ∧ y = .int n ∧ 0 ≤ n ∧ n ≤ 3000 ∧ z.length ≤ 1000 ∧ Q (.str (Txt.mul z n)) H
theorem mul_ok {z : Str} {n : Int} (h0 : 0 ≤ n) (h1 : n ≤ 3000) (h2 : z.length ≤ 1000) : MulOk z n := by
  refine ⟨by simp; omega, fun a _ => ?_, fun _ _ => ?_⟩
  · have e : (1000 : Int) ≤ (2 ^ 63 - 1) / n := by
      refine Int.le_ediv_of_mul_le (by omega) ?_
      have : (2 : Int) ^ 63 - 1 = 9223372036854775807 := by decide
      omega
    omega
  · have e : z.length * n.toNat ≤ 1000 * 3000 := Nat.mul_le_mul h2 (by omega)
    have h3 : sizeLine = 16777216 := sizeLine_eq
    show decide (z.length * n.toNat > sizeLine) = false
    exact decide_eq_false (by omega)
theorem op_mulS {X : Cx} : OpR X (binaryOp .Mult) rMulS := by
  intro pins s σ H x y v u Q I rx ry h
  obtain ⟨z, n, rfl, rfl, h0, h1, h2, q⟩ := h
  obtain ⟨t, rfl⟩ := rx
  obtain ⟨t', rfl⟩ := ry
  exact SB.mul (mul_ok h0 h1 h2) fun t' k => ⟨.str _, H, I.tok _, ⟨_, rfl⟩, q⟩
/-- every sign of the text is one from the blank to the tilde -/
def sgC (c : Nat) : Bool := decide (32 ≤ c) && decide (c ≤ 126)
def sgB (z : Str) : Bool := z.cps.toList.all sgC
theorem prn128 : ∀ c : Fin 128, Unicode.isPrintable c.val = sgC c.val := by decide +kernel
theorem sgC_of (c : Nat) : (decide (c < 128) && Unicode.isPrintable c) = sgC c := by
  by_cases h : c < 128
  · rw [decide_eq_true h, Bool.true_and]
    exact prn128 ⟨c, h⟩
  · rw [decide_eq_false h, Bool.false_and]
    unfold sgC
    rw [decide_eq_false (show ¬ c ≤ 126 by omega), Bool.and_false]
theorem sgB_of (z : Str) : (Txt.isascii z && Txt.isprintable z) = sgB z := by
  unfold Txt.isascii Txt.isprintable sgB
  rw [← Array.all_toList, ← Array.all_toList]
  generalize z.cps.toList = l
  induction l with
  | nil => rfl
  | cons c l ih =>
    rw [List.all_cons, List.all_cons, List.all_cons, ← sgC_of, ← ih]
    cases decide (c < 128) <;> cases Unicode.isPrintable c <;> cases l.all (fun c => decide (c < 128)) <;> rfl
/-! ### kinds -/
inductive Kn | non | bl | int | str | lst | tup | dic
  deriving DecidableEq
def Kn.name : Kn → String
  | .non => "NoneType"
  | .bl => "bool"
  | .int => "int"
  | .str => "str"
  | .lst => "list"
  | .tup => "tuple"
  | .dic => "dict"
def kitB : Kn → Kn → Bool
  | .bl, .int => true
  | a, b => decide (a = b)
inductive Kd (H : Hp) : V → Kn → Prop
  | non : Kd H .non .non
  | bl (b : Bool) : Kd H (.bl b) .bl
  | int (i : Int) : Kd H (.int i) .int
  | str (z : Str) : Kd H (.str z) .str
  | lst {a : Addr} {xs : List V} (e : H a = some (.lst xs)) : Kd H (.ref a) .lst
  | tup {a : Addr} {xs : List V} (e : H a = some (.tup xs)) : Kd H (.ref a) .tup
  | dic {a : Addr} {kvs : List (Key × V)} (e : H a = some (.dK kvs)) : Kd H (.ref a) .dic
theorem Kd.tyx {K : PySem.W.Frag} {H : Hp} {x : V} {k : Kn} (h : Kd H x k) : TyX K H x (.type k.name) := by
  cases h with
  | non => exact .base .non
  | bl b => exact .base (.bl b)
  | int i => exact .base (.int i)
  | str z => exact .base (.str z)
  | lst e => exact .base (.lst e)
  | tup e => exact .base (.tup e)
  | dic e => exact .base (.dK e)
theorem Kd.same {H H' : Hp} (s : ∀ b o, H b = some o → H' b = some o) {x : V} {k : Kn} (h : Kd H x k) : Kd H' x k := by
  cases h with
  | non => exact .non
  | bl b => exact .bl b
  | int i => exact .int i
  | str z => exact .str z
  | lst e => exact .lst (s _ _ e)
  | tup e => exact .tup (s _ _ e)
  | dic e => exact .dic (s _ _ e)
theorem kit_kn {K : PySem.W.Frag} : ∀ a b : Kn, PySem.W.kitOne K (.type a.name) (.type b.name) = some (kitB a b) := by
  intro a b
  cases a <;> cases b <;> exact kit_ty (by decide +kernel)
theorem rd_isi {K : PySem.W.Frag} {H : Hp} {x : V} {k : Kn} {Q : VK} (T : Kn) (h : Kd H x k) (q : Q (.bl (kitB k T)) H) : rIsi K [x, .ty T.name] H Q :=
  ⟨x, .ty T.name, .type k.name, .type T.name, kitB k T, rfl, .ty _, h.tyx, kit_kn k T, q⟩
/-- for c in s -/
theorem for_strZ {z : Str} {g : TG} {tb : TS} {D : Ends} {σ : L2.St} {H : Hp} (Pv : Nat → L2.St → Hp → Prop) (h0 : Pv 0 σ H)
    (hs : ∀ i c σ H, z.cps[i]? = some c → Pv i σ H → g (.str ⟨#[c]⟩) σ H fun σ2 H2 => tb { D with nx := Pv (i + 1), ct := Pv (i + 1), bk := D.nx } σ2 H2) (hd : ∀ σ H, Pv z.cps.size σ H → D.nx σ H) :
    ∃ W : Nat → Nat → L2.St → Hp → Prop, (∃ m, W 0 m σ H) ∧ ∀ i m σ H, W i m σ H →
      ((Its z).stop i H ∧ D.nx σ H) ∨ ((Its z).go i H ∧ ∃ N : L2.St → Hp → Prop, (∀ σ' H', N σ' H' → ∃ m', m' < m ∧ W (i + 1) m' σ' H') ∧ ∀ x H', (Its z).yld i H x H' → g x σ H' fun σ2 H2 => tb { D with nx := N, ct := N, bk := D.nx } σ2 H2) := by
  refine ⟨fun i m σ H => m = z.cps.size - i ∧ i ≤ z.cps.size ∧ Pv i σ H, ⟨z.cps.size, by simp, Nat.zero_le _, h0⟩, ?_⟩
  rintro i m σ H ⟨rfl, hi, p⟩
  by_cases hlt : i < z.cps.size
  · refine .inr ⟨hlt, Pv (i + 1), fun σ' H' p' => ⟨z.cps.size - (i + 1), by omega, rfl, hlt, p'⟩, fun x H' y => ?_⟩
    obtain ⟨e, c, hc, ex⟩ := y
    subst e ex
    exact hs i c σ _ hc p
  · have e : i = z.cps.size := by omega
    subst e
    exact .inl ⟨Nat.le_refl _, hd σ H p⟩
def sgV : V → Bool
  | .str z => sgB z
  | _ => false
def wordV : V → Bool
  | .str z => sgB z && decide ((0 : Int) < (z.length : Int))
  | _ => false
/-- no text is too long -/
def Vs (x : V) : Prop := ∀ z, x = .str z → z.length ≤ 5000
theorem len5 {n : Nat} (h : n ≤ 5000) : n ≤ sizeLine := by
  have h3 : sizeLine = 16777216 := sizeLine_eq
  omega
def spSg : Sp := fun vs H Q _ => ∃ x k, vs = [x] ∧ Kd H x k ∧ Vs x ∧ Q (.bl (sgV x)) H
def spWd : Sp := fun vs H Q _ => ∃ x k, vs = [x] ∧ Kd H x k ∧ Vs x ∧ Q (.bl (wordV x)) H
def spInt : Sp := fun vs H Q _ => ∃ x k, vs = [x] ∧ Kd H x k ∧ Q (.bl (decide (k = .int))) H
def numV : V → Bool
  | .int i => decide (0 ≤ i)
  | _ => false
def spNum : Sp := fun vs H Q _ => ∃ x k, vs = [x] ∧ Kd H x k ∧ Q (.bl (numV x)) H
def inV2 (a b : Int) : V → Bool
  | .int i => decide (a ≤ i) && decide (i ≤ b)
  | _ => false
def spIn : Sp := fun vs H Q _ => ∃ x k a b, vs = [x, .int a, .int b] ∧ Kd H x k ∧ Q (.bl (inV2 a b x)) H
theorem sgB_at {z : Str} {i c : Nat} (h : z.cps[i]? = some c) (n : sgC c = false) : sgB z = false := by
  unfold sgB
  rw [List.all_eq_false]
  refine ⟨c, ?_, by simp [n]⟩
  rw [← Array.getElem?_toList] at h
  exact List.mem_of_getElem? h
theorem sgB_all {z : Str} (h : ∀ i c : Nat, z.cps[i]? = some c → sgC c = true) : sgB z = true := by
  unfold sgB
  rw [List.all_eq_true]
  intro c hc
  obtain ⟨i, hi, e⟩ := List.mem_iff_getElem.mp hc
  refine h i c ?_
  rw [← Array.getElem?_toList, List.getElem?_eq_getElem hi, e]
end Ev
set_option maxHeartbeats 4000000
/-! Things that are judged: what they are, as far as it is asked. -/
namespace Ev
open PySem PySem.Spec PyProof.Rows L2
def dsm0 : PyData → Bool
  | .str z => decide (z.length ≤ 100) && PyData.strOk z
  | _ => true
/-- no text in it is long -/
def dsm : PyData → Bool
  | .list ds => ds.all dsm0
  | .tuple ds => ds.all dsm0
  | d => dsm0 d
theorem Dt.kd {H : Hp} {v : V} {d : PyData} (h : Dt H v d) : ∃ k, Kd H v k := by
  cases h with
  | non => exact ⟨_, .non⟩
  | bl b => exact ⟨_, .bl b⟩
  | int i => exact ⟨_, .int i⟩
  | str x => exact ⟨_, .str x⟩
  | dic e => exact ⟨_, .dic e⟩
  | l0 e n => exact ⟨_, .lst e⟩
  | l1 e n _ => exact ⟨_, .lst e⟩
  | l2 e n _ _ => exact ⟨_, .lst e⟩
  | t0 e => exact ⟨_, .tup e⟩
  | t1 e _ => exact ⟨_, .tup e⟩
  | t2 e _ _ => exact ⟨_, .tup e⟩
theorem Dt.vs {H : Hp} {v : V} {d : PyData} (h : Dt H v d) (s : dsm0 d = true) : Vs v := by
  cases h with
  | str x =>
    intro z e
    cases e
    have q : x.length ≤ 100 := of_decide_eq_true (Bool.and_eq_true_iff.mp s).1
    exact Nat.le_trans q (by decide)
  | non => exact fun z e => by cases e
  | bl b => exact fun z e => by cases e
  | int i => exact fun z e => by cases e
  | dic e => exact fun z e => by cases e
  | l0 e n => exact fun z e => by cases e
  | l1 e n _ => exact fun z e => by cases e
  | l2 e n _ _ => exact fun z e => by cases e
  | t0 e => exact fun z e => by cases e
  | t1 e _ => exact fun z e => by cases e
  | t2 e _ _ => exact fun z e => by cases e
/-- a thing; some xs: a tuple of xs -/
inductive Tg (H : Hp) : V → Option (List V) → Prop
  | no {x : V} {k : Kn} (h : Kd H x k) (n : k ≠ .tup) (s : Vs x) : Tg H x none
  | tup {a : Addr} {xs : List V} (e : H a = some (.tup xs)) (n : xs.length ≤ 30) (h : ∀ y ∈ xs, (∃ k, Kd H y k) ∧ Vs y) : Tg H (.ref a) (some xs)
theorem Tg.kd {H : Hp} {x : V} {o : Option (List V)} (h : Tg H x o) : ∃ k, Kd H x k ∧ (k = .tup ↔ o.isSome = true) := by
  cases h with
  | no h n s => exact ⟨_, h, fun e => absurd e n, fun e => by cases e⟩
  | tup e n h => exact ⟨_, .tup e, fun _ => rfl, fun _ => rfl⟩
theorem Tg.vs {H : Hp} {x : V} {o : Option (List V)} (h : Tg H x o) : Vs x := by
  cases h with
  | no h n s => exact s
  | tup e n h => exact fun z e => by cases e
theorem Tg.same {H H' : Hp} (s : ∀ b o, H b = some o → H' b = some o) {x : V} {o : Option (List V)} (h : Tg H x o) : Tg H' x o := by
  cases h with
  | no h n z => exact .no (h.same s) n z
  | tup e n h => exact .tup (s _ _ e) n fun y hy => ⟨let ⟨k, q⟩ := (h y hy).1; ⟨k, q.same s⟩, (h y hy).2⟩
theorem Dt.tg {H : Hp} {v : V} {d : PyData} (h : Dt H v d) (s : dsm d = true) : ∃ o, Tg H v o := by
  cases h with
  | non => exact ⟨_, .no .non (by decide) fun z e => by cases e⟩
  | bl b => exact ⟨_, .no (.bl b) (by decide) fun z e => by cases e⟩
  | int i => exact ⟨_, .no (.int i) (by decide) fun z e => by cases e⟩
  | str x => exact ⟨_, .no (.str x) (by decide) (Dt.vs (.str (H := H) x) s)⟩
  | dic e => exact ⟨_, .no (.dic e) (by decide) fun z e => by cases e⟩
  | l0 e n => exact ⟨_, .no (.lst e) (by decide) fun z e => by cases e⟩
  | l1 e n _ => exact ⟨_, .no (.lst e) (by decide) fun z e => by cases e⟩
  | l2 e n _ _ => exact ⟨_, .no (.lst e) (by decide) fun z e => by cases e⟩
  | t0 e => exact ⟨_, .tup e (by decide) fun y hy => absurd hy (by simp)⟩
  | @t1 a x d e hx =>
    have s1 : dsm0 d = true := List.all_eq_true.mp s d (by simp)
    exact ⟨_, .tup e (by simp) fun y hy => by
      obtain rfl := List.mem_singleton.mp hy
      exact ⟨hx.kd, hx.vs s1⟩⟩
  | @t2 a x z d1 d2 e hx hz =>
    have s1 : dsm0 d1 = true := List.all_eq_true.mp s d1 (by simp)
    have s2 : dsm0 d2 = true := List.all_eq_true.mp s d2 (by simp)
    refine ⟨_, .tup e (by simp) fun y hy => ?_⟩
    rcases List.mem_cons.mp hy with g | g
    · rw [g]
      exact ⟨hx.kd, hx.vs s1⟩
    · rw [List.mem_singleton.mp g]
      exact ⟨hz.kd, hz.vs s2⟩
def slen : V → Nat
  | .str z => z.length
  | _ => 0
/-- what is wrong with a thing that is to be texts -/
def badOf : Option (List V) → V
  | none => .int (-1)
  | some xs => if xs.length > 8 then .int (-1) else match xs.findIdx? (fun y => !sgV y) with
    | some k => .int (k : Int)
    | none => if (xs.map slen).sum > 2000 then .str (Str.ofString "long") else .non
/-- whether a thing is a place of these texts -/
def placeV (ts : List Str) : Option (List V) → Bool
  | some [x, y] => inV2 0 ((ts.length : Int) - 1) x && (match x with
    | .int i => inV2 0 (((ts.getD i.toNat Str.empty).length : Int) - 1) y
    | _ => false)
  | _ => false
end Ev
set_option maxHeartbeats 4000000
namespace Ev
open PySem PySem.Spec PyProof.Rows L2
theorem bad1 {xs : List V} (h : xs.length > 8) : badOf (some xs) = .int (-1) := if_pos h
theorem bad2 {xs : List V} {i : Nat} {y : V} (h : ¬ xs.length > 8) (hy : xs[i]? = some y) (b : sgV y = false) (g : ∀ (j : Nat) c, j < i → xs[j]? = some c → sgV c = true) : badOf (some xs) = .int (i : Int) := by
  obtain ⟨hi, ey⟩ := List.getElem?_eq_some_iff.mp hy
  have e : xs.findIdx? (fun y => !sgV y) = some i := by
    rw [List.findIdx?_eq_some_iff_getElem]
    refine ⟨hi, by rw [ey, b]; rfl, fun j hj => ?_⟩
    rw [g j xs[j] hj (List.getElem?_eq_getElem (by omega))]
    simp
  show (if xs.length > 8 then V.int (-1) else match xs.findIdx? (fun y => !sgV y) with
    | some k => V.int (k : Int)
    | none => if (xs.map slen).sum > 2000 then V.str (Str.ofString "long") else V.non) = _
  rw [if_neg h, e]
theorem good_none {xs : List V} (g : ∀ c ∈ xs, sgV c = true) : xs.findIdx? (fun y => !sgV y) = none := by
  rw [List.findIdx?_eq_none_iff]
  intro c hc
  rw [g c hc]
  rfl
theorem bad3 {xs : List V} (h : ¬ xs.length > 8) (g : ∀ c ∈ xs, sgV c = true) (s : (xs.map slen).sum > 2000) : badOf (some xs) = .str (Str.ofString "long") := by
  show (if xs.length > 8 then V.int (-1) else match xs.findIdx? (fun y => !sgV y) with
    | some k => V.int (k : Int)
    | none => if (xs.map slen).sum > 2000 then V.str (Str.ofString "long") else V.non) = _
  rw [if_neg h, good_none g]
  exact if_pos s
theorem bad4 {xs : List V} (h : ¬ xs.length > 8) (g : ∀ c ∈ xs, sgV c = true) (s : ¬ (xs.map slen).sum > 2000) : badOf (some xs) = .non := by
  show (if xs.length > 8 then V.int (-1) else match xs.findIdx? (fun y => !sgV y) with
    | some k => V.int (k : Int)
    | none => if (xs.map slen).sum > 2000 then V.str (Str.ofString "long") else V.non) = _
  rw [if_neg h, good_none g]
  exact if_neg s
/-- what is right: at most eight texts of signs -/
theorem bad_non {o : Option (List V)} (h : badOf o = .non) : ∃ xs, o = some xs ∧ xs.length ≤ 8 ∧ (∀ c ∈ xs, sgV c = true) ∧ (xs.map slen).sum ≤ 2000 := by
  cases o with
  | none => cases h
  | some xs =>
    by_cases h1 : xs.length > 8
    · rw [bad1 h1] at h
      cases h
    · cases e : xs.findIdx? (fun y => !sgV y) with
      | some k =>
        have h' : (if xs.length > 8 then V.int (-1) else match xs.findIdx? (fun y => !sgV y) with
          | some k => V.int (k : Int)
          | none => if (xs.map slen).sum > 2000 then V.str (Str.ofString "long") else V.non) = V.non := h
        rw [if_neg h1, e] at h'
        cases h'
      | none =>
        have g : ∀ c ∈ xs, sgV c = true := fun c hc => by
          have := List.findIdx?_eq_none_iff.mp e c hc
          simpa using this
        refine ⟨xs, rfl, by omega, g, ?_⟩
        by_cases s : (xs.map slen).sum > 2000
        · rw [bad3 h1 g s] at h
          cases h
        · omega
theorem sg_str {y : V} (h : sgV y = true) : ∃ z, y = .str z := by
  cases y with
  | str z => exact ⟨z, rfl⟩
  | non => cases h
  | bl b => cases h
  | int i => cases h
  | byt b => cases h
  | flt b => cases h
  | ref a => cases h
  | ty n => cases h
theorem bad_strs {xs : List V} (g : ∀ c ∈ xs, sgV c = true) : ∃ ts : List Str, xs = ts.map V.str ∧ ∀ t ∈ ts, sgB t = true := by
  induction xs with
  | nil => exact ⟨[], rfl, fun t h => absurd h (by simp)⟩
  | cons y xs ih =>
    obtain ⟨z, rfl⟩ := sg_str (g y (by simp))
    obtain ⟨ts, rfl, h⟩ := ih fun c hc => g c (List.mem_cons_of_mem _ hc)
    refine ⟨z :: ts, rfl, fun t ht => ?_⟩
    rcases List.mem_cons.mp ht with e | e
    · rw [e]
      exact g (.str z) (by simp)
    · exact h t e
theorem sum_cast (ns : List Nat) : (ns.map fun n : Nat => (n : Int)).sum = ((ns.sum : Nat) : Int) := by
  induction ns with
  | nil => rfl
  | cons n ns ih =>
    rw [List.map_cons, List.sum_cons, List.sum_cons, ih]
    simp
/-- the lengths of the texts of a tuple -/
theorem lc_lens {K : PySem.W.Frag} {a : Addr} {ts : List Str} {i : Nat} {σ : L2.St} {H1 : Hp} {D : Addr} {Qd : Hp → Prop} (hi : i < σ.length) (ha : H1 a = some (.tup (ts.map V.str))) (nD : H1 D = none) (hlen : ∀ t ∈ ts, t.length ≤ 5000) (hn : ts.length ≤ 1000)
    (hd : ∀ H, H D = some (.lst ((ts.map fun t => (t.length : Int)).map V.int)) → Same H1 H → Qd H) :
    ∃ W : Nat → Nat → Hp → Prop, (∃ m, W 0 m (upd H1 D (.lst []))) ∧ ∀ j m H, W j m H →
      ((Itt K a).stop j H ∧ Qd H) ∨ ((Itt K a).go j H ∧ ∃ Nx : Hp → Prop, (∀ H', Nx H' → ∃ m', m' < m ∧ W (j + 1) m' H') ∧ ∀ x H', (Itt K a).yld j H x H' → gName i x (wipe σ [i]) H' fun σ2 H2 => wipe σ2 [i] = wipe σ [i] ∧ tYes σ2 H2 fun b H3 =>
        if b = true then tCB rLenZ (tCons (tVar i) tNil) σ2 H3 fun y H4 => ∃ acc, H4 D = some (.lst acc) ∧ acc.length < sizeLine ∧ Nx (upd H4 D (.lst (acc ++ [y]))) else Nx H3) := by
  have sAt : ∀ {H' : Hp} {o : HO}, Same H1 H' → Same H1 (upd H' D o) := fun {H' o} k b u e => by
    rw [upd_ne (ne_of_none e nD)]
    exact k b u e
  refine lc_tup (K := K) (xs := ts.map V.str) (fun j H => H D = some (.lst (((ts.take j).map fun t => (t.length : Int)).map V.int)) ∧ Same H1 H) ⟨upd_same, sAt (Same.refl _)⟩ (fun j H _ p => SqT.of (p.2 _ _ ha)) (fun j x H hx p => ?_) (fun H p => ?_)
  · rw [List.getElem?_map] at hx
    cases e : ts[j]? with
    | none => rw [e] at hx; cases hx
    | some t =>
      rw [e] at hx
      obtain rfl : V.str t = x := Option.some.inj hx
      have hm := List.mem_of_getElem? e
      obtain ⟨hD, hs⟩ := p
      have hw : ((wipe σ [i]).set i (some (V.str t)))[i]? = some (some (V.str t)) := by
        rw [List.getElem?_set_self]
        show i < (σ.set i none).length
        rw [List.length_set]
        exact hi
      refine ⟨?_, .str t, hw, t, rfl, len5 (hlen t hm), _, hD, ?_, ?_, sAt hs⟩
      · show ((σ.set i none).set i (some (V.str t))).set i none = σ.set i none
        rw [List.set_set, List.set_set]
      · have h3 : sizeLine = 16777216 := sizeLine_eq
        rw [List.length_map, List.length_map, List.length_take]
        omega
      · rw [upd_same]
        have et : ts.take (j + 1) = ts.take j ++ [t] := by
          rw [List.take_add_one, e]
          rfl
        rw [et, List.map_append, List.map_append]
        rfl
  · obtain ⟨hD, hs⟩ := p
    rw [List.length_map, List.take_length] at hD
    exact hd H hD hs
theorem lens_sum (ts : List Str) : (ts.map fun t => (t.length : Int)).sum = ((((ts.map V.str).map slen).sum : Nat) : Int) := by
  rw [List.map_map, ← sum_cast, List.map_map]
  rfl
end Ev
set_option maxHeartbeats 4000000
namespace Ev
open PySem PySem.Spec PyProof.Rows L2
theorem joinL1 : ∀ cs : List Nat, TL.joinL [] (cs.map fun c => [c]) = cs
  | [] => rfl
  | [c] => rfl
  | c :: d :: r => by
    have e := joinL1 (d :: r)
    show [c] ++ ([] ++ TL.joinL [] ((d :: r).map fun c => [c])) = c :: d :: r
    rw [e]
    rfl
theorem join1 (cs : List Nat) : Txt.join (Str.ofString "") (cs.map fun c => SX.S [c]) = SX.S cs := by
  have e := SX.join_S [] (cs.map fun c => [c])
  rw [List.map_map, joinL1] at e
  exact e
theorem sgB_S (cs : List Nat) : sgB (SX.S cs) = cs.all sgC := rfl
theorem S_eta (z : Str) : SX.S z.cps.toList = z := SX.S_tl z
theorem len_S (z : Str) : z.length = z.cps.toList.length := by simp [Str.length]
theorem sgB_mem {z : Str} (h : sgB z = true) {c : Nat} (hc : c ∈ z.cps.toList) : sgC c = true := List.all_eq_true.mp h c hc
theorem sgB_of_mem {z : Str} (h : ∀ c ∈ z.cps.toList, sgC c = true) : sgB z = true := List.all_eq_true.mpr h
theorem sgB_cut {z : Str} (h : sgB z = true) (lo hi : Option Int) : sgB (cutS z lo hi) = true := by
  refine sgB_of_mem fun c hc => sgB_mem h ?_
  have hc' : c ∈ (z.cps.toList.drop (HT.sIx z.length 0 lo)).take (HT.sIx z.length z.length hi - HT.sIx z.length 0 lo) := by
    simpa [cutS] using hc
  exact List.mem_of_mem_drop (List.mem_of_mem_take hc')
theorem cut_len {z : Str} (lo hi : Option Int) : (cutS z lo hi).length ≤ z.length := by
  rw [len_S, len_S]
  have e : (cutS z lo hi).cps.toList = (z.cps.toList.drop (HT.sIx z.length 0 lo)).take (HT.sIx z.length z.length hi - HT.sIx z.length 0 lo) := by simp [cutS]
  rw [e, List.length_take, List.length_drop]
  omega
theorem cut_len2 {z : Str} (lo hi : Option Int) : (cutS z lo hi).length ≤ HT.sIx z.length z.length hi - HT.sIx z.length 0 lo := by
  rw [len_S]
  have e : (cutS z lo hi).cps.toList = (z.cps.toList.drop (HT.sIx z.length 0 lo)).take (HT.sIx z.length z.length hi - HT.sIx z.length 0 lo) := by simp [cutS]
  rw [e, List.length_take]
  omega
theorem sgB_app {a b : Str} (h1 : sgB a = true) (h2 : sgB b = true) : sgB (a ++ b) = true := by
  refine sgB_of_mem fun c hc => ?_
  have e : (a ++ b).cps.toList = a.cps.toList ++ b.cps.toList := TL.tl_append a b
  rw [e] at hc
  rcases List.mem_append.mp hc with h | h
  · exact sgB_mem h1 h
  · exact sgB_mem h2 h
theorem app_len (a b : Str) : (a ++ b).length = a.length + b.length := by
  have e : (a ++ b).cps.toList = a.cps.toList ++ b.cps.toList := TL.tl_append a b
  rw [len_S, e, List.length_append, ← len_S, ← len_S]
theorem rep_all (x : Array Nat) : ∀ (n : Nat) (acc : Array Nat), ((List.replicate n x).foldl (· ++ ·) acc).size = acc.size + n * x.size ∧ ∀ c ∈ ((List.replicate n x).foldl (· ++ ·) acc).toList, c ∈ acc.toList ∨ c ∈ x.toList
  | 0, acc => ⟨by simp, fun c h => .inl h⟩
  | n + 1, acc => by
    obtain ⟨h1, h2⟩ := rep_all x n (acc ++ x)
    rw [List.replicate_succ, List.foldl_cons]
    refine ⟨by rw [h1, Array.size_append, Nat.succ_mul]; omega, fun c hc => ?_⟩
    rcases h2 c hc with h | h
    · rw [Array.toList_append] at h
      exact List.mem_append.mp h
    · exact .inr h
theorem mul_facts (z : Str) (n : Int) : (Txt.mul z n).length ≤ z.length * n.toNat ∧ (sgB z = true → sgB (Txt.mul z n) = true) := by
  unfold Txt.mul
  by_cases h1 : n < 1
  · rw [if_pos h1]
    exact ⟨Nat.zero_le _, fun _ => rfl⟩
  · rw [if_neg h1]
    by_cases h2 : (n == 1 || z.length == 0) = true
    · rw [if_pos h2]
      exact ⟨Nat.le_mul_of_pos_right _ (by omega), fun h => h⟩
    · rw [if_neg h2]
      obtain ⟨r1, r2⟩ := rep_all z.cps n.toNat #[]
      refine ⟨?_, fun h => sgB_of_mem fun c hc => ?_⟩
      · show Array.size _ ≤ _
        rw [r1, Nat.mul_comm]
        show 0 + _ ≤ _
        rw [Nat.zero_add]
        exact Nat.le_refl _
      · rcases r2 c hc with q | q
        · cases q
        · exact sgB_mem h q
theorem cut_hi {z : Str} {lo : Option Int} {u : Int} (h : 0 ≤ u) : ((cutS z lo (some u)).length : Int) ≤ u := by
  have e := cut_len2 (z := z) lo (some u)
  have e2 : HT.sIx z.length z.length (some u) ≤ u.toNat := by
    show (if u < 0 then (u + (z.length : Int)).toNat else min u.toNat z.length) ≤ u.toNat
    rw [if_neg (by omega)]
    exact Nat.min_le_left _ _
  omega
theorem cut_lohi {z : Str} {b e : Int} (h : 0 ≤ b) (h2 : b ≤ e) : ((cutS z (some b) (some e)).length : Int) ≤ e - b := by
  have q := cut_len2 (z := z) (some b) (some e)
  have e1 : HT.sIx z.length z.length (some e) = min e.toNat z.length := by
    show (if e < 0 then (e + (z.length : Int)).toNat else min e.toNat z.length) = _
    rw [if_neg (by omega)]
  have e2 : HT.sIx z.length 0 (some b) = min b.toNat z.length := by
    show (if b < 0 then (b + (z.length : Int)).toNat else min b.toNat z.length) = _
    rw [if_neg (by omega)]
  rw [e1, e2] at q
  omega
end Ev
set_option maxHeartbeats 4000000
/-! Tuples put together and cut, the heap only growing. -/
namespace Ev
open PySem PySem.Spec PyProof.Rows L2
def rCatM : R2 := fun x y H Q => ∃ a b xs ys, x = .ref a ∧ y = .ref b ∧ H a = some (.tup xs) ∧ H b = some (.tup ys) ∧ xs.length + ys.length ≤ 1000 ∧ ∀ p H', Same H H' → H' p = some (.tup (xs ++ ys)) → Q (.ref p) H'
theorem sameNew {H : Hp} {q : Addr} {o : HO} (h : H q = none) : Same H (upd H q o) := fun b u e => by
  rw [upd_ne (ne_of_none e h)]
  exact e
theorem op_catM {X : Cx} : OpR X (binaryOp .Add) rCatM := fun pins s σ H x y v u Q I rx ry h =>
  op_catA pins s σ H x y v u Q I rx ry (by
    obtain ⟨a, b, xs, ys, ex, ey, ha, hb, hz, q⟩ := h
    refine ⟨a, b, xs, ys, ex, ey, SqT.of ha, SqT.of hb, ?_, fun e => ?_, fun _ e => ?_, fun _ _ p np => ?_⟩
    · have h3 : sizeLine = 16777216 := sizeLine_eq
      omega
    · refine q b H (Same.refl H) ?_
      rw [e, List.nil_append]
      exact hb
    · refine q a H (Same.refl H) ?_
      rw [e, List.append_nil]
      exact ha
    · exact q p _ (sameNew np) upd_same)
def rSlM : V → Option Int → Option Int → Hp → VK → Prop := fun x lo hi H Q => ∃ a xs, x = .ref a ∧ H a = some (.tup xs) ∧ ∀ p H', Same H H' → H' p = some (.tup (cutV xs lo hi)) → Q (.ref p) H'
theorem sl_tupM {X : Cx} : SlR X rSlM := fun pins s σ H x v vl vu lo hi sl Q I rx hs pl pu h =>
  sl_tupA pins s σ H x v vl vu lo hi sl Q I rx hs pl pu (by
    obtain ⟨a, xs, ex, ha, q⟩ := h
    refine ⟨a, xs, ex, SqT.of ha, fun e => ?_, fun _ p np => q p _ (sameNew np) upd_same⟩
    refine q a H (Same.refl H) ?_
    have ec : cutV xs lo hi = xs := by
      unfold cutV
      rw [e.1, e.2, List.drop_zero, Nat.sub_zero, List.take_length]
    rw [ec]
    exact ha)
theorem cutV_mem {xs : List V} {lo hi : Option Int} {y : V} (h : y ∈ cutV xs lo hi) : y ∈ xs := List.mem_of_mem_drop (List.mem_of_mem_take h)
/-- the place that is one -/
theorem place_true {ts : List Str} {o : Option (List V)} (h : placeV ts o = true) : ∃ (i j : Int), o = some [.int i, .int j] ∧ 0 ≤ i ∧ i < ts.length ∧ 0 ≤ j ∧ j < ((ts.getD i.toNat Str.empty).length : Int) := by
  unfold placeV at h
  split at h
  · rename_i x y
    obtain ⟨h1, h2⟩ := Bool.and_eq_true_iff.mp h
    cases x with
    | int i =>
      obtain ⟨a1, a2⟩ := Bool.and_eq_true_iff.mp (show (decide (0 ≤ i) && decide (i ≤ (ts.length : Int) - 1)) = true from h1)
      have a1 := of_decide_eq_true a1
      have a2 := of_decide_eq_true a2
      cases y with
      | int j =>
        obtain ⟨b1, b2⟩ := Bool.and_eq_true_iff.mp (show (decide (0 ≤ j) && decide (j ≤ ((ts.getD i.toNat Str.empty).length : Int) - 1)) = true from h2)
        have b1 := of_decide_eq_true b1
        have b2 := of_decide_eq_true b2
        exact ⟨i, j, rfl, a1, by omega, b1, by omega⟩
      | non => cases h2
      | bl b => cases h2
      | str b => cases h2
      | byt b => cases h2
      | flt b => cases h2
      | ref b => cases h2
      | ty b => cases h2
    | non => cases h1
    | bl b => cases h1
    | str b => cases h1
    | byt b => cases h1
    | flt b => cases h1
    | ref b => cases h1
    | ty b => cases h1
  · cases h
theorem text_at {ts : List Str} {i : Int} (h0 : 0 ≤ i) (h1 : i < ts.length) : atI (ts.map V.str) i = some (.str (ts.getD i.toNat Str.empty)) ∧ ts.getD i.toNat Str.empty ∈ ts := by
  have hi : i.toNat < ts.length := by omega
  constructor
  · have e1 : i = ((i.toNat : Nat) : Int) := by omega
    rw [e1]
    refine atI_nat ?_
    rw [List.getElem?_map, List.getD_eq_getElem?_getD, Int.toNat_natCast, List.getElem?_eq_getElem hi]
    rfl
  · rw [List.getD_eq_getElem?_getD, List.getElem?_eq_getElem hi]
    exact List.getElem_mem hi
end Ev
set_option maxHeartbeats 4000000
namespace Ev
open PySem PySem.Spec PyProof.Rows L2
/-- x is True, x is False, x any value of a kind -/
def rIsT : R2 := fun x y H Q => ∃ (b : Bool) (k : Kn), y = .bl b ∧ Kd H x k ∧ Q (.bl (decide (x = .bl b))) H
theorem op_isT {X : Cx} : OpR X (compareOp .Is) rIsT := by
  intro pins s σ H x y v u Q I rx ry h
  obtain ⟨b, k, rfl, hk, q⟩ := h
  cases (show u = Value.bool b from ry)
  cases hk with
  | bl a =>
    refine op_isBl pins s σ H _ (.bl b) v _ Q I rx rfl ⟨a, b, rfl, rfl, ?_⟩
    have e : decide (V.bl a = V.bl b) = decide (a = b) := by
      by_cases z : a = b
      · subst z
        simp
      · rw [decide_eq_false z, decide_eq_false fun w => z (V.bl.inj w)]
    rw [e] at q
    exact q
  | non =>
    cases rx
    exact wpAny_is_other rfl (fun z => by cases z) ⟨.bl false, H, I, rfl, by simpa using q⟩
  | int i =>
    obtain ⟨t, rfl⟩ := rx
    exact wpAny_is_other rfl (fun z => by cases z) ⟨.bl false, H, I, rfl, by simpa using q⟩
  | str i =>
    obtain ⟨t, rfl⟩ := rx
    exact wpAny_is_other rfl (fun z => by cases z) ⟨.bl false, H, I, rfl, by simpa using q⟩
  | lst e =>
    cases rx
    exact wpAny_is_other rfl (fun z => by cases z) ⟨.bl false, H, I, rfl, by simpa using q⟩
  | tup e =>
    cases rx
    exact wpAny_is_other rfl (fun z => by cases z) ⟨.bl false, H, I, rfl, by simpa using q⟩
  | dic e =>
    cases rx
    exact wpAny_is_other rfl (fun z => by cases z) ⟨.bl false, H, I, rfl, by simpa using q⟩
end Ev
set_option maxHeartbeats 4000000
namespace LawK
open PySem PySem.Spec PyProof.Rows L2 Ev
theorem HandL.same {H H' : Hp} {p l : Addr} (k : Same H H') (h : HandL H p l) : HandL H' p l := by
  obtain ⟨cells, i, r, s, n, h1, h2, h3⟩ := h
  exact ⟨cells, i, r, s, n, k _ _ h1, k _ _ h2, h3⟩
theorem But.and {p : Addr} {H H1 H2 : Hp} (a : But p H H1) (k : Same H1 H2) : But p H H2 := fun b o n e => k b o (a b o n e)
theorem hand_ne {H : Hp} {p l' a : Addr} {o : HO} (h : HandL H p l') (e : H a = some o) (n : ∀ x1 x2 x3 x4 x5, o ≠ .lst [x1, x2, x3, x4, x5]) : a ≠ p := fun z => by
  obtain ⟨cells, i, r, s, m, h1, _⟩ := h
  rw [z, h1] at e
  exact n _ _ _ _ _ (Option.some.inj e).symm
theorem dt_but {H H' : Hp} {p l' : Addr} {v : V} {d : PyData} (h : Dt H v d) (hp : HandL H p l') (k : But p H H') : Dt H' v d := by
  induction h with
  | non => exact .non
  | bl b => exact .bl b
  | int i => exact .int i
  | str x => exact .str x
  | dic e => exact .dic (k _ _ (hand_ne hp e fun _ _ _ _ _ z => by cases z) e)
  | l0 e n => exact .l0 (k _ _ (hand_ne hp e fun _ _ _ _ _ z => by cases z) e) n
  | l1 e n _ ih => exact .l1 (k _ _ (hand_ne hp e fun _ _ _ _ _ z => by cases z) e) n ih
  | l2 e n _ _ i1 i2 => exact .l2 (k _ _ (hand_ne hp e fun _ _ _ _ _ z => by cases z) e) n i1 i2
  | t0 e => exact .t0 (k _ _ (hand_ne hp e fun _ _ _ _ _ z => by cases z) e)
  | t1 e _ ih => exact .t1 (k _ _ (hand_ne hp e fun _ _ _ _ _ z => by cases z) e) ih
  | t2 e _ _ i1 i2 => exact .t2 (k _ _ (hand_ne hp e fun _ _ _ _ _ z => by cases z) e) i1 i2
structure Hn (p l : Addr) (H H' : Hp) : Prop where
  at_ : HandL H' p l
  but : But p H H'
theorem HandL.ne {H : Hp} {p l q : Addr} (h : HandL H p l) (n : H q = none) : q ≠ p ∧ q ≠ l := by
  obtain ⟨cells, i, r, s, m, h1, h2, _⟩ := h
  exact ⟨fun z => (by rw [z, h1] at n; cases n), fun z => (by rw [z, h2] at n; cases n)⟩
theorem Hn.new {p l q : Addr} {H H' : Hp} {o : HO} (h : Hn p l H H') (n : H' q = none) : Hn p l H (upd H' q o) := ⟨h.at_.same (Same.new n), h.but.and (Same.new n)⟩
theorem Hn.trans {p l : Addr} {H H1 H2 : Hp} (a : Hn p l H H1) (b : Hn p l H1 H2) : Hn p l H H2 := ⟨b.at_, a.but.trans b.but⟩
theorem Hn.refl {p l : Addr} {H : Hp} (h : HandL H p l) : Hn p l H H := ⟨h, But.refl p H⟩
theorem Hn.go {p l : Addr} {H H1 H2 : Hp} (a : Hn p l H H1) (h : HandL H2 p l) (b : But p H1 H2) : Hn p l H H2 := ⟨h, a.but.trans b⟩
theorem Hn.same {p l : Addr} {H H1 H2 : Hp} (a : Hn p l H H1) (k : Same H1 H2) : Hn p l H H2 := ⟨a.at_.same k, a.but.and k⟩
/-- an object that is new since H, at q, changes -/
theorem Hn.at {p l q : Addr} {H H' : Hp} {o : HO} (h : Hn p l H H') (h0 : HandL H p l) (n : H q = none) : Hn p l H (upd H' q o) := by
  obtain ⟨n1, n2⟩ := h0.ne n
  refine ⟨?_, fun b u nb e => ?_⟩
  · obtain ⟨cells, i, r, s, m, h1, h2, h3⟩ := h.at_
    exact ⟨cells, i, r, s, m, by rw [upd_ne (Ne.symm n1)]; exact h1, by rw [upd_ne (Ne.symm n2)]; exact h2, h3⟩
  · rw [upd_ne (ne_of_none e n)]
    exact h.but b u nb e
theorem sqBut {K : PySem.W.Frag} {H H' : Hp} {p a : Addr} {xs : List V} (h : SqL K H a xs) (n : a ≠ p) (b : But p H H') : SqL K H' a xs := by
  rcases h with (h | ⟨o, h⟩) | h
  · exact .inl (.inl (b _ _ n h))
  · exact .inl (.inr ⟨o, b _ _ n h⟩)
  · exact .inr h
structure Dk (P : Program) (w : World) (K : PySem.W.Frag) (mg : Str → Option Value) (base : Heap) (x : Str) (st : Stmt) (ps : List Str) (k : Nat) (sp : Sp) (f : Addr) (fd : FuncData) : Prop where
  F : Fun K x x st f fd
  b : Binds K fd ps []
  g : mg x = some (.ref f)
  ok : FnOk P w K mg base CX0 k f fd ps sp
theorem len6 {z : Str} {n : Nat} (h : z.length ≤ n) (hn : n ≤ 5000 := by decide) : z.length ≤ sizeLine := len5 (Nat.le_trans h hn)
theorem sg_at {z : Str} {v : Int} (hz : sgB z = true) (h0 : 0 ≤ v) (h1 : v < (z.length : Int)) : ∃ c, atI z.cps.toList v = some c ∧ sgC c = true := by
  obtain ⟨c, e, hm⟩ := atI_in (xs := z.cps.toList) h0 (by rw [← len_S]; exact h1)
  exact ⟨c, e, sgB_mem hz hm⟩
theorem str_ok {ts : List Str} (hts : ∀ t ∈ ts, t.length ≤ 5000) {H : Hp} {y : V} (h : y ∈ ts.map V.str) : (∃ k, Kd H y k) ∧ Vs y := by
  obtain ⟨z, hz, rfl⟩ := List.mem_map.mp h
  refine ⟨⟨_, .str z⟩, fun w e => ?_⟩
  cases e
  exact hts z hz
theorem lit_ok {z : Str} (h : z.length ≤ 5000) {H : Hp} : (∃ k, Kd H (.str z) k) ∧ Vs (.str z) := ⟨⟨_, .str z⟩, fun w e => by
  cases e
  exact h⟩
theorem int_ok {i : Int} {H : Hp} : (∃ k, Kd H (.int i) k) ∧ Vs (.int i) := ⟨⟨_, .int i⟩, fun w e => by cases e⟩
theorem tup_ne {H : Hp} {p l a : Addr} {xs : List V} (h : HandL H p l) (e : H a = some (.tup xs)) : a ≠ p := hand_ne h e fun _ _ _ _ _ z => by cases z
theorem Kd.but {H H' : Hp} {p l : Addr} {x : V} {k : Kn} (h : Kd H x k) (h0 : HandL H p l) (h1 : HandL H' p l) (b : But p H H') : Kd H' x k := by
  cases h with
  | non => exact .non
  | bl b => exact .bl b
  | int i => exact .int i
  | str z => exact .str z
  | @lst a xs e =>
    by_cases z : a = p
    · obtain ⟨cells, i, r, s, m, h2, _⟩ := h1
      rw [z]
      exact .lst h2
    · exact .lst (b _ _ z e)
  | tup e => exact .tup (b _ _ (tup_ne h0 e) e)
  | dic e => exact .dic (b _ _ (hand_ne h0 e fun _ _ _ _ _ z => by cases z) e)
theorem Tg.but {H H' : Hp} {p l : Addr} {x : V} {o : Option (List V)} (h : Tg H x o) (h0 : HandL H p l) (h1 : HandL H' p l) (b : But p H H') : Tg H' x o := by
  cases h with
  | no h n s => exact .no (Kd.but h h0 h1 b) n s
  | tup e n h => exact .tup (b _ _ (tup_ne h0 e) e) n fun y hy => ⟨let ⟨k, q⟩ := (h y hy).1; ⟨k, Kd.but q h0 h1 b⟩, (h y hy).2⟩
/-- what a thing's texts may be -/
inductive All2 {α β : Type} (R : α → β → Prop) : List α → List β → Prop
  | nil : All2 R [] []
  | cons {x : α} {y : β} {xs : List α} {ys : List β} (h : R x y) (t : All2 R xs ys) : All2 R (x :: xs) (y :: ys)
theorem All2.imp {α β : Type} {R S : α → β → Prop} {xs : List α} {ys : List β} (f : ∀ x y, R x y → S x y) (h : All2 R xs ys) : All2 S xs ys := by
  induction h with
  | nil => exact .nil
  | cons h _ ih => exact .cons (f _ _ h) ih
theorem All2.len {α β : Type} {R : α → β → Prop} {xs : List α} {ys : List β} (h : All2 R xs ys) : xs.length = ys.length := by
  induction h with
  | nil => rfl
  | cons _ _ ih => exact congrArg (· + 1) ih
theorem All2.at {α β : Type} {R : α → β → Prop} {xs : List α} {ys : List β} (h : All2 R xs ys) : ∀ {i : Nat} {x : α}, xs[i]? = some x → ∃ y, ys[i]? = some y ∧ R x y := by
  induction h with
  | nil => intro i x e; simp at e
  | cons r _ ih =>
    intro i x e
    cases i with
    | zero => cases e; exact ⟨_, rfl, r⟩
    | succ i => exact ih e
theorem All2.snoc {α β : Type} {R : α → β → Prop} {xs : List α} {ys : List β} {x : α} {y : β} (h : All2 R xs ys) (r : R x y) : All2 R (xs ++ [x]) (ys ++ [y]) := by
  induction h with
  | nil => exact .cons r .nil
  | cons r1 _ ih => exact .cons r1 ih
theorem sne {a b : Str} (h : a ≠ b) {A B : Prop} (k : B) : if decide (V.str a = V.str b) = true then A else B := by
  rw [decide_eq_false (fun z => h (V.str.inj z))]
  exact iteF k
theorem seq {a : Str} {A B : Prop} (k : A) : if decide (V.str a = V.str a) = true then A else B := by
  rw [decide_eq_true rfl]
  exact iteT k
end LawK
set_option maxHeartbeats 8000000
/-! enumerate over a tuple, as a walk. -/
namespace Ev
open PySem PySem.Spec PyProof.Rows L2
abbrev enObj (it : Addr) : Obj := { cls := .type "enumerate", data := .fields #[.none, .bool false, .ref it, rawInt 0, .none, .none] }
theorem enum_new1 {v : Value} {o : Obj} {Hh : Heap → Prop} (B : Begins v o Hh) :
    Meets (Builtin.«enumerate.__new__» ⟨[.type "enumerate", v], []⟩)
      (fun _ R s => Hh s.heap ∧ R (.ok (.ret (.ref (s.heap.push o).objs.size))) { s with heap := (s.heap.push o).push (enObj s.heap.objs.size) }) := by
  refine .of_wp fun prog w A R s hh => ?_
  obtain ⟨hp, g, d, tk, os⟩ := s
  obtain ⟨hv, hR⟩ := hh
  have hs := sub_enumerate
  have qi : ∀ {B' : Around} {E : Value → Shared → Prop} {Q : Value → Shared → Prop}, Q (.ref hp.objs.size) ⟨hp.push o, g, d, tk, os⟩ →
      wpAny (model prog w) B' (pyIter v) Q E ⟨hp, g, d, tk, os⟩ := fun q => B.iter prog w _ _ ⟨hp, g, d, tk, os⟩ _ hv q
  wp_walk using qi
  apply wpAny_stack_any
  intro st
  apply wpAny_pure
  split
  · rename_i c _ _ _ _ _
    cases (c == Value.type "enumerate") <;> (wp_walk using qi; exact ⟨_, rfl, hR⟩)
  · wp_walk using qi
    exact ⟨_, rfl, hR⟩
theorem enum_call {prog : Program} {w : World} {A : Around} {E : Value → Shared → Prop} {s : Shared} {v : Value} {o : Obj} {Hh : Heap → Prop} {Q : Value → Shared → Prop} (B : Begins v o Hh) (hv : Hh s.heap)
    (h : ∀ h', IsEnum h' (s.heap.objs.size + 1) s.heap.objs.size 0 .none → h'.get? s.heap.objs.size = some o → (∀ b u, s.heap.get? b = some u → h'.get? b = some u) →
      Q (.ref (s.heap.objs.size + 1)) { s with heap := h' }) : wpAny (model prog w) A (call (.type "enumerate") [v]) Q E s := by
  have m := enum_new1 B
  refine callType_new F.called_enumerate (by decide) (F.typeCall_enumerate_1 _) (F.newCall_enumerate_1 _) (fun obj => F.args_object_init_2 obj _) F.entry_enumerate_new m ⟨hv, ?_⟩
  have hsz : (s.heap.push o).objs.size = s.heap.objs.size + 1 := Heap.size_push ..
  show _ ∧ _
  rw [hsz]
  have hat : ((s.heap.push o).push (enObj s.heap.objs.size)).get? (s.heap.objs.size + 1) = some (enObj s.heap.objs.size) := by
    have z := Heap.get?_push_size (s.heap.push o) (o := enObj s.heap.objs.size) rfl
    rw [hsz] at z
    exact z
  exact ⟨⟨_, hat, rfl⟩, h _ hat (Heap.get?_push_of_some _ (Heap.get?_push_size _ B.free)) fun b u x => Heap.get?_push_of_some _ (Heap.get?_push_of_some _ x)⟩
/-- the tuple at a as it stands at each turn, each item in a new pair -/
def Iten (K : PySem.W.Frag) (a : Addr) : It :=
  ⟨fun i H => ∃ (xs : List V) (x : V), SqT K H a xs ∧ xs[i]? = some x,
   fun i H v H' => ∃ T x, v = .ref T ∧ H T = none ∧ H' = upd H T (.tup [.int (i : Nat), x]) ∧ ∀ xs, SqT K H a xs → xs[i]? = some x,
   fun i H => ∃ xs : List V, SqT K H a xs ∧ xs.length ≤ i⟩
theorem turn_en {P : Program} {w : World} {K : PySem.W.Frag} {elts : List Expr} {kk : Nat} {tpos : Pos} (a e it : Addr) :
    Turn P w K (.Tuple elts kk tpos) (Iten K a) [e, it] e (fun i h => (∃ old, IsEnum h e it ((i : Nat) : Int) old) ∧ h.IsTupleIter it a i ∧ e ≠ it ∧ a ≠ it ∧ a ≠ e) where
  mem := List.mem_cons_self
  obj := by
    rintro i h ⟨⟨old, he⟩, ⟨o, ho, hc, hd⟩, _⟩ b hb
    rcases List.mem_cons.mp hb with rfl | hb
    · exact ⟨_, he, fun v q => by cases q⟩
    · obtain rfl := List.mem_singleton.mp hb
      exact ⟨o, ho, fun v q => by rw [hd] at q; cases q⟩
  keep := by
    rintro i h h' ⟨⟨old, he⟩, hi, hn⟩ k
    exact ⟨⟨old, k e (by simp) _ he⟩, hi.at fun o q => k it (by simp) o q, hn⟩
  item := by
    intro X hP hw hK hc i pins s σ H E I hf st hg
    subst hP hw hK
    obtain ⟨⟨old, he⟩, hit, hne, hai, hae⟩ := st
    obtain ⟨xs, x, hq, hx⟩ := hg
    obtain ⟨its, rv, p, hz⟩ := I.tuple hq
    obtain ⟨u, hu, ru⟩ := rv.get hx
    have hel : e < s.heap.objs.size := Heap.lt_size he
    have hil : it < s.heap.objs.size := by
      obtain ⟨_, q, _⟩ := hit
      exact Heap.lt_size q
    have hlt : i < its.toArray.size := by
      rw [List.size_toArray]
      exact (List.getElem?_eq_some_iff.mp hu).1
    have D := Draws.tuple (prog := X.prog) (w := X.w) (A := X.A.in1) (I.ok.hd hc) it a hai its.toArray
    refine wpAny_pyNext_enum_itemD D he ⟨hit, (show s.heap.IsTuple a its.toArray from p)⟩ hlt hne (by simp [hne, Ne.symm hae]) fun y h' tk hy ho hst hT hsz hk => ?_
    have ey : y = u := by
      have z : its.toArray[i]? = some y := hy
      rw [List.getElem?_toArray, hu] at z
      exact (Option.some.inj z).symm
    subst ey
    refine ⟨_, rfl, ?_⟩
    refine wpAny_letOwnedTupleGo_enum (s := ⟨h', s.gens, s.drawn, tk + 1, s.os⟩) ho ?_
    intro h2 he2 sb
    have at2 : h2.get? s.heap.objs.size = some { cls := .type "tuple", data := .seq #[.int i tk, y] } := by
      rw [sb.2 _ (Nat.ne_of_gt hel)]
      exact hT
    have cell : ObjOk X.prog X.w (upd H s.heap.objs.size (.tup [.int (i : Nat), x])) h2 s.heap.objs.size (.tup [.int (i : Nat), x]) := by
      refine ⟨by show 2 ≤ sizeLine; decide, [.int i tk, y], .cons ⟨_, rfl⟩ (.cons ru .nil), ⟨_, at2, rfl, _, rfl⟩⟩
    have far : ∀ b ob, b ∉ [e, it] → s.heap.get? b = some ob → h2.get? b = some ob := fun b ob hb q => by
      have n1 : b ≠ e := fun z => hb (by simp [z])
      have n2 : b ≠ it := fun z => hb (by simp [z])
      rw [sb.2 b n1]
      exact hk b ob n1 n2 q
    have J := I.turnedNew (ch := [e, it]) (t' := tk + 1) far hf (Nat.le_refl _) cell
    refine ⟨.ref s.heap.objs.size, _, J, rfl, ⟨_, x, rfl, I.hok.fresh (Nat.le_refl _), rfl, fun ys hy => by rw [I.tuple_inj hy hq]; exact hx⟩, ⟨⟨y, ?_⟩, ?_, hne, hai, hae⟩, fun b hb => ?_⟩
    · have e1 : ((i + 1 : Nat) : Int) = (i : Int) + 1 := by omega
      rw [e1]
      exact he2
    · exact hst.1.at fun o q => by
        rw [sb.2 it (Ne.symm hne)]
        exact q
    · have lt : b < s.heap.objs.size := by
        rcases List.mem_cons.mp hb with rfl | hb
        · exact hel
        · obtain rfl := List.mem_singleton.mp hb
          exact hil
      rw [upd_ne (Nat.ne_of_lt lt)]
      exact (hf b hb).1
  done := by
    intro X hP hw hK hc i pins s σ H E I hf st hg
    subst hP hw hK
    obtain ⟨⟨old, he⟩, hit, hne, hai, hae⟩ := st
    obtain ⟨xs, hq, hx⟩ := hg
    obtain ⟨its, rv, p, hz⟩ := I.tuple hq
    obtain ⟨f0, f1, f2, f3, f4, f5⟩ := hf it (by simp)
    have hl := rv.length
    have none_i : its.toArray[i]? = none := by
      rw [List.getElem?_toArray, List.getElem?_eq_none_iff]
      omega
    have D : Draws X.prog X.w X.A.in1 it [it, a] i (fun j v => its.toArray[j]? = some v) (fun j h => (h.IsTupleIter it a j ∧ h.IsTuple a its.toArray) ∧ i ≤ j) :=
      { live := fun _ _ st => let ⟨o, ho, _⟩ := st.1.1; ⟨o, ho⟩
        frame := fun _ _ _ st hk => ⟨⟨st.1.1.at fun o e => hk it (by simp) o e, st.1.2.at fun o e => hk a (by simp) o e⟩, st.2⟩
        item := fun j _ _ _ hj st _ => absurd st.2 (by omega)
        done := fun s Q E st hE => wpAny_nextOf_tuple_end (I.ok.hd hc) st.1.1 st.1.2 none_i hE }
    refine wpAny_pyNext_enum_endD D he ⟨⟨hit, (show s.heap.IsTuple a its.toArray from p)⟩, Nat.le_refl _⟩ fun h' eb => ⟨rfl, ?_⟩
    exact I.turned (t' := s.toks) (fun b o hb q => eb b o hb q) f0 f1 f3 f4 f5
  self := fun A i s Q E st h => by
    obtain ⟨⟨_, he⟩, _⟩ := st
    exact wpAny_pyIter_enum he h
def iEnumT (K : PySem.W.Frag) (ta : TA) : TI := fun σ H R => ta σ H fun vs H1 => ∃ a xs, vs = [.ref a] ∧ SqT K H1 a xs ∧ R (Iten K a) H1
theorem pi_enumT {X : Cx} {e : Expr} {ta : TA} {p pos tpos : Pos} {elts : List Expr} {kk : Nat} (hg : Gl X "enumerate") (hm : X.mg "enumerate" = none) (ha : PA X [e] ta) (hs : starEach [e] X.env = [(false, eval e X.env)] := by rfl) :
    PI X (.Tuple elts kk tpos) (.Call (.Name "enumerate" p) [e] [] pos) (iEnumT X.K ta) := by
  constructor
  intro pins s σ H R I h
  refine Call_ (ld_blt I hg hm boot_enumerate (PyProof.Rows.callWith_type1 (thn (ha.run pos pins s σ H _ I h) ?_) hs rfl))
  rintro us s1 ⟨vs, H1, I1, r1, a, xs, rfl, hq, q⟩
  obtain ⟨u, rfl, ru⟩ := vals1 r1
  cases ru
  obtain ⟨its, rv, p', hz⟩ := I1.tuple hq
  have hal : a < s1.heap.objs.size := by
    obtain ⟨o, ho, _⟩ := p'
    exact Heap.lt_size ho
  refine enum_call (begins_tuple a its.toArray) (show s1.heap.IsTuple a its.toArray from p') fun h' he hit hk => wpAny_pyIter_enum he ?_
  have I2 : Inv X pins σ H1 { s1 with heap := h' } := I1.kept (t' := s1.toks) hk
  refine ⟨s1.heap.objs.size + 1, [s1.heap.objs.size + 1, s1.heap.objs.size], _, _, H1, rfl, I2, turn_en a (s1.heap.objs.size + 1) s1.heap.objs.size, ⟨⟨.none, he⟩, ⟨_, hit, rfl, rfl⟩, Nat.succ_ne_self _, Nat.ne_of_lt hal, Nat.ne_of_lt (Nat.lt_succ_of_lt hal)⟩, fun b hb => ?_, q⟩
  have hle : s1.heap.objs.size ≤ b := by
    rcases List.mem_cons.mp hb with rfl | hb
    · exact Nat.le_succ _
    · obtain rfl := List.mem_singleton.mp hb
      exact Nat.le_refl _
  exact I1.fpOk hle (I1.hok.fresh hle)
/-- for i, x in enumerate(t) -/
theorem for_enT {K : PySem.W.Frag} {a : Addr} {xs : List V} {g : TG} {tb : TS} {D : Ends} {σ : L2.St} {H : Hp} (Pv : Nat → L2.St → Hp → Prop) (h0 : Pv 0 σ H) (hl : ∀ i σ H, Pv i σ H → SqT K H a xs)
    (hs : ∀ (i : Nat) x σ H, xs[i]? = some x → Pv i σ H → ∀ T, H T = none → g (.ref T) σ (upd H T (.tup [.int (i : Nat), x])) fun σ2 H2 => tb { D with nx := Pv (i + 1), ct := Pv (i + 1), bk := D.nx } σ2 H2) (hd : ∀ σ H, Pv xs.length σ H → D.nx σ H) :
    ∃ W : Nat → Nat → L2.St → Hp → Prop, (∃ m, W 0 m σ H) ∧ ∀ i m σ H, W i m σ H →
      ((Iten K a).stop i H ∧ D.nx σ H) ∨ ((Iten K a).go i H ∧ ∃ N : L2.St → Hp → Prop, (∀ σ' H', N σ' H' → ∃ m', m' < m ∧ W (i + 1) m' σ' H') ∧ ∀ x H', (Iten K a).yld i H x H' → g x σ H' fun σ2 H2 => tb { D with nx := N, ct := N, bk := D.nx } σ2 H2) := by
  refine ⟨fun i m σ H => m = xs.length - i ∧ i ≤ xs.length ∧ Pv i σ H, ⟨xs.length, by simp, Nat.zero_le _, h0⟩, ?_⟩
  rintro i m σ H ⟨rfl, hi, p⟩
  have q := hl i σ H p
  by_cases hlt : i < xs.length
  · refine .inr ⟨⟨xs, xs[i], q, List.getElem?_eq_getElem hlt⟩, Pv (i + 1), fun σ' H' p' => ⟨xs.length - (i + 1), by omega, rfl, hlt, p'⟩, fun v H' y => ?_⟩
    obtain ⟨T, x, rfl, nT, rfl, hx⟩ := y
    exact hs i x σ H (hx xs q) p T nT
  · have e : i = xs.length := by omega
    subst e
    exact .inl ⟨⟨xs, q, Nat.le_refl _⟩, hd σ H p⟩
end Ev
set_option maxHeartbeats 4000000
/-! Own errors whose __init__ says super().__init__() and nothing else. -/
namespace Ev
open PySem PySem.W PySem.Calls PyProof.Rows L2

abbrev supArgs (p : Pos) : Arguments := { posonlyargs := [], args := [{ arg := "self", annotation := none, pos := p }], vararg := none, kwonlyargs := [], kw_defaults := [], kwarg := none, defaults := [] }
abbrev supBody (p0 p1 p2 p3 p4 : Pos) : List Stmt := [.Expr (.Call (.Attribute (.Call (.Name "super" p0) [] [] p1) "__init__" p2) [] [] p3) p4]

abbrev supScope : Scope := { kind := .function, names := [(PySem.Str.ofString "self", .local), (PySem.Str.ofString "__class__", .free), (PySem.Str.ofString "super", .globalImplicit)], isGenerator := false, isCoroutine := false, more := [] }
theorem sup_l1 : supScope.names.lookup ("self" : Str) = some .local := by decide +kernel
theorem sup_l2 : supScope.names.lookup ("super" : Str) = some .globalImplicit := by decide +kernel
theorem sup_l3 : supScope.names.lookup ("__class__" : Str) = some .free := by decide +kernel
/-- what the written part tells of such a class at C, whose __init__ stands at fI -/
structure SupC (P : Program) (K : Frag) (mg : Str → Option Value) (C fI : Addr) : Prop where
  oex : OexC K C
  ini : findIn K (.ref C) "__init__" = some (some (.ref fI))
  tyI : typeIn K (.ref fI) = some (.type "function")
  fn : ∃ (oc : Value) (od : Option Addr) (qual : Str) (kV doc pm ct : Value) (an : Option Addr) (cda cc : Addr) (osl : Array (Option Value)) (p p0 p1 p2 p3 p4 : Pos) (ccl : Value) (cdd : Option Addr) (vs : Array Value) (ccs : Array (Option Value)) (file : Str) (tf : Tok) (cl : Value) (cld : Option Addr) (csl : Array (Option Value)),
    K.lookup fI = some ⟨oc, od, .func (ksFn "__init__" qual (supArgs p) (supBody p0 p1 p2 p3 p4) supScope .none kV doc pm an (.ref cda) ct cc), osl⟩ ∧ codeIn K (.ref cda) qual = true ∧
    K.lookup cda = some ⟨ccl, cdd, .fields vs, ccs⟩ ∧ vs[2]? = some (.str file tf) ∧ ((P.main.file : Str) == file) = true ∧ K.lookup cc = some ⟨cl, cld, .cell (some (.ref C)), csl⟩ ∧
    (p2.endLine == p3.line) = true
  gs : mg "super" = none
  top : (P.main.scope.names.lookup ("super" : Str)).isSome = false
  third : nsIn K cStatics "thirdparty.any" = some none
  sup : ks_superIn K C C "__init__" = some (some (.builtin "ValueError.__init__"))
  ve : subIn K (.ref C) (.type "ValueError") = some true
  me : mroIn K C (.ref C) = some true

theorem sup_eval {env : Env} {p0 p1 p2 p3 : Pos} (h : (p2.endLine == p3.line) = true) : eval (.Call (.Attribute (.Call (.Name "super" p0) [] [] p1) "__init__" p2) [] [] p3) env = (do
      let ov ← attributeBase (.Call (.Name "super" p0) [] [] p1) "__init__" env (eval (.Call (.Name "super" p0) [] [] p1) env)
      standAt p2.atName
      let (f, first) ← holding [ov] (getMethod ov "__init__" (do return (← importBound (.Call (.Name "super" p0) [] [] p1) env).getD true))
      callWith p3 f first (backTo p3 (starEach [] env)) []) := by
  have e : methodCallPos true (.Call (.Name "super" p0) [] [] p1) env p2 p3 = pure p3 := by
    unfold methodCallPos
    rw [h]
    rfl
  show (do
    let ov ← attributeBase (.Call (.Name "super" p0) [] [] p1) "__init__" env (eval (.Call (.Name "super" p0) [] [] p1) env)
    standAt p2.atName
    let (f, first) ← holding [ov] (getMethod ov "__init__" (do return (← importBound (.Call (.Name "super" p0) [] [] p1) env).getD true))
    let callPos ← methodCallPos true (.Call (.Name "super" p0) [] [] p1) env p2 p3
    callWith callPos f first (backTo p3 (starEach [] env)) []) = _
  rw [e]
  rfl
theorem boot_super : bootBuiltins "super" = some (.type "super") := by first | boot_by_name | rfl | kernel_rfl

section
variable {P : Program} {w : World} {A : Around} {E : Value → Shared → Prop} {K : Frag} {mg mb : Str → Option Value} {C fI x t0 : Addr} {h : Heap} {g : Array GenState} {d : Drawn} {tk : Nat} {os : OsState}

/-- the wrapper that super().__init__ gives, called: the args are laid anew -/
theorem bound_init {u : Addr} {Q : Value → Shared → Prop} (T : OexC K C) (X : K.In h) (hu : h.get? u = some (kxs_mw "ValueError.__init__" x)) (hx : h.get? x = some (PySem.HandSPX.excO C t0))
    (hq : ∀ h' t1, (∀ b o, b ≠ x → h.get? b = some o → h'.get? b = some o) → h'.get? x = some (PySem.HandSPX.excO C t1) → Q .none ⟨h', g, d, tk, os⟩) :
    wpAny (model P w) A (call (.ref u) []) Q E ⟨h, g, d, tk, os⟩ := by
  obtain ⟨nm, q, N, bs, bm, sn, sub, ab, col, dd, k0, k1, k2, k3, k5, hC, hbm⟩ := T.cls
  refine wpAny_call (codeAny_of_tree ?_)
  show wpAny _ A.in1 (callAny (.ref u) ⟨[], []⟩) _ _ _
  simp only [callAny]
  refine wpAny_bind (wpAny_load hu ?_)
  simp only [kxs_mw, show (Value.type "method-wrapper" == Value.type "method" || Value.type "method-wrapper" == Value.type "builtin_function_or_method" || Value.type "method-wrapper" == Value.type "method-wrapper") = true by decide, if_true]
  refine KFB.if_so (by decide) ?_
  refine wpAny_bind (check_bound_init F.excBase_ValueError.toExcCallFacts (X _ _ hC) hx rfl ?_)
  refine wpAny_bind (wpAny_pure (wpAny_pure ?_))
  refine ⟨plainId_quiet F.excBase_ValueError.init.plain _, codeAny_builtin F.excBase_ValueError.initEntry ?_⟩
  exact exc_init_tree (cls := .ref C) (t0 := t0) (dv := none) (c2 := .none) (c3 := .none) (b4 := .bool false) hx (by rw [sizeLine_eq]; exact Nat.zero_le _) fun h' k e _ => hq h' h.objs.size k e

theorem sup_init {R : Result → Shared → Prop} {s : Shared} (T : SupC P K mg C fI) (hroom : A.depth < recursionLimit) (X : K.In s.heap) (hlim : s.heap.NoLimit) (G : s.heap.Ns mainGlobals mg) (B : s.heap.Ns builtinsNs mb)
    (hbb : ∀ y : Str, y ≠ "__name__" → mb y = bootBuiltins y) (hx : s.heap.get? x = some (PySem.HandSPX.excO C t0))
    (hq : ∀ h' t' t1, (∀ b o, b ≠ x → s.heap.get? b = some o → h'.get? b = some o) → h'.get? x = some (PySem.HandSPX.excO C t1) → R (.ok (.ret .none)) { s with heap := h', toks := t' }) :
    codeAny (model P w) A (.call (.ref fI) ⟨[.ref x], []⟩) R s := by
  obtain ⟨oc, od, qual, kV, doc, pm, ct, an, cda, cc, osl, p, p0, p1, p2, p3, p4, ccl, cdd, vs, ccs, file, tf, cl, cld, csl, ho, hcd, hcode, hvs, hfile, hcell, hline⟩ := T.fn
  refine ks_codeAny_call_defAt (fd := ksFn "__init__" qual (supArgs p) (supBody p0 p1 p2 p3 p4) supScope .none kV doc pm an (.ref cda) ct cc) (body := supBody p0 p1 p2 p3 p4) (binds := [("self", .ref x)]) hroom (X _ _ ho) rfl hlim (codeRec_of X hcd) rfl
    (BindsTo.of_eq rfl) (by show ∀ y ∈ supScope.names, y.2 ≠ .cell; decide) (fun y hy => ?_) (fun h₁ hns k₁ => ?_)
  · obtain rfl : y = (("self" : Str), Value.ref x) := List.mem_singleton.mp hy
    exact sup_l1
  obtain ⟨hp, g, d, tk, os⟩ := s
  have X₁ : K.In h₁ := X.keeps k₁
  have hx₁ : h₁.get? x = some (PySem.HandSPX.excO C t0) := k₁ _ _ hx
  have G₁ : h₁.Ns mainGlobals mg := G.keeps k₁
  have B₁ : h₁.Ns builtinsNs mb := B.keeps k₁
  obtain ⟨nm, q, N, bs, bm, sn, sub, ab, col, dd, q0, q1, q2, q3, q5, hC, hbm⟩ := T.oex.cls
  show _root_.PySem.wpAt _ _ _ (execs (supBody p0 p1 p2 p3 p4) (ksEnv qual supScope hp.objs.size fI (.ref cda) cc)) _ _ _
  refine ks_wpAt_execs_cons (ks_wpAt_Expr_any (ks_wpAt_MethodCall ?_ (sup_eval hline)))
  refine ks_wpAt_super_base (env := ksEnv qual supScope hp.objs.size fI (.ref cda) cc) sup_l2 sup_l3 (by decide) rfl (X₁ _ _ ho) rfl rfl rfl (X₁ _ _ hcode) rfl hvs hfile T.top ?_
  refine ks_loadName_global rfl sup_l2 (loadGlobal_builtin (env := ksEnv qual supScope hp.objs.size fI (.ref cda) cc) G₁ T.gs B₁ ((hbb _ (by decide +kernel)).trans boot_super) ⟨rfl, ?_⟩)
  refine wpAny_loadName_free rfl sup_l3 rfl ⟨_, X₁ _ _ hcell, rfl⟩ ?_
  refine wpAny_loadName_local rfl sup_l1 hns (v := .ref x) (by show List.lookup ("self" : Str) [(("self" : Str), Value.ref x)] = some (Value.ref x); simp [List.lookup]) ?_
  refine ks_wpAny_isType_cls (X₁ _ _ hC) rfl ⟨rfl, ?_⟩
  have I : InstAt h₁ x (PySem.HandSPX.excO C t0) C none := ⟨hx₁, rfl, rfl, trivial⟩
  refine ks_wpAny_call_super (X₁ _ _ hC) rfl I.at_ I.cls (fun c e => by cases e) (looks_mroIn X₁ T.me) (fun h' e k => ?_)
  have X₂ : K.In h' := X₁.keeps k
  have hx₂ : h'.get? x = some (PySem.HandSPX.excO C t0) := k _ _ hx₁
  have I₂ : InstAt h' x (PySem.HandSPX.excO C t0) C none := ⟨hx₂, rfl, rfl, trivial⟩
  have hsu := T.sup
  unfold ks_superIn at hsu
  have hcl : clsIn K C = some { name := nm, bases := bs, mro := .ref C :: bm, ns := N, qualname := q, hasDict := true, slotNames := sn, subclasses := sub, abstract := ab, collection := col, hasDel := false } := by unfold clsIn; rw [hC] <;> rfl
  rw [hcl] at hsu
  refine kxs_getMethod kxs_ValueError e (looks_opaque X₂ T.third) (l₀ := .ref C :: bm) ?_ rfl X₂ hsu (I₂.type.andThen (looks_subIn X₂ T.ve)) (ks_ne X₂ I₂ hcl) (by decide) ?_
  · exact fun A Q E s k q => wpAny_bind ((looks_clsIn X₂ hcl) A _ E s k (wpAny_pure q))
  have hne : h'.objs.size ≠ x := Nat.ne_of_gt (Heap.lt_size hx₂)
  have k2 : ∀ b o, h'.get? b = some o → (h'.push (kxs_mw "ValueError.__init__" x)).get? b = some o := fun b o z => Heap.get?_push_of_some _ z
  have hmw : (h'.push (kxs_mw "ValueError.__init__" x)).get? h'.objs.size = some (kxs_mw "ValueError.__init__" x) := Heap.get?_push_at rfl rfl
  refine kxs_callWith (i := "ValueError.__init__") (x := x) rfl (evalArgs_empty ⟨hmw, ?_⟩)
  refine bound_init T.oex (X₂.keeps k2) hmw (k2 _ _ hx₂) fun h3 t1 k3 hx3 => ?_
  exact wpAt_of_wpAny (wpAny_execs_nil (hq h3 _ t1 (fun b o hb z => k3 b o hb (k2 b o (k b o (k₁ b o z)))) hx3))
end
end Ev
set_option maxHeartbeats 4000000
/-! Rules for own errors as values: made, asked by isinstance, their fields read. -/
namespace Ev
open PySem PySem.Spec PyProof.Rows L2

section
variable {X : Cx} {x : Str} {C fI : Addr} {p pos : Pos}
theorem make_room {k : Nat} {A : Around} (hr : Room k A) {us : List Value} : (A.under (.builtin "type.__call__" ⟨.ref C :: us, []⟩)).depth < recursionLimit := by
  rw [make_depth]
  have := hr.dp
  omega
/-- C() of a class whose __init__ is super().__init__(): what stands behind it -/
theorem run_exc0 {pins : List (Addr × Obj)} {s : Shared} {σ : L2.St} {H : Hp} {k : Nat} {Q : Value → Shared → Prop} (T : SupC X.prog X.K X.mg C fI) (hr : Room k X.A) (I : Inv X pins σ H s)
    (h : ∀ h' tk a t1, s.heap.objs.size ≤ a → (∀ b o, s.heap.get? b = some o → h'.get? b = some o) → h'.get? a = some (PySem.HandSPX.excO C t1) → Q (.ref a) { s with heap := h', toks := tk }) :
    wpAny (model X.prog X.w) X.A (call (.ref C) []) Q X.xe s := by
  obtain ⟨nm, q, N, bs, bm, sn, sub, ab, col, dd, k0, k1, k2, k3, k5, hC, hbm⟩ := T.oex.cls
  obtain ⟨mb, hb1, hb2⟩ := I.mod.blt
  have kX := I.kIn
  have lim := I.nolimit
  have g1 := I.mod.glob.keeps I.bk
  have b1 := hb1.keeps I.bk
  obtain ⟨hp, g, dr, tk, os⟩ := s
  have kk : ∀ b o, hp.get? b = some o → ((hp.push (PySem.W.kdv_tup [])).push (PySem.HandSPX.excO C hp.objs.size)).get? b = some o := fun b o e => Heap.get?_push_of_some _ (Heap.get?_push_of_some _ e)
  have hget : ((hp.push (PySem.W.kdv_tup [])).push (PySem.HandSPX.excO C hp.objs.size)).get? (hp.objs.size + 1) = some (PySem.HandSPX.excO C hp.objs.size) := by heap_get
  refine wpAny_call (PySem.HandSPX.call_own F.excBase_ValueError (fun Y => PySem.HandSPX.refsVE_contains Y bm hbm) (kX _ _ hC) (PySem.W.looks_findIn kX T.ini) (fun self => PySem.W.bind_fn kX self T.tyI) (by rw [sizeLine_eq]; exact Nat.zero_le _)
    (sup_init (s := ⟨(hp.push (PySem.W.kdv_tup [])).push (PySem.HandSPX.excO C hp.objs.size), g, dr, tk, os⟩) T (make_room hr) (kX.keeps kk) (lim.keeps kk) (g1.keeps kk) (b1.keeps kk) hb2 hget fun h' t' t1 k' hx => ⟨rfl, ?_⟩))
  exact h h' t' (hp.objs.size + 1) t1 (Nat.le_succ _) (fun b o e => k' b o (Nat.ne_of_lt (Nat.lt_succ_of_lt (Heap.lt_size e))) (kk b o e)) hx
def tExc0 (C : Addr) : TE := fun _ H Q => ∀ a, H a = none → Q (.ref a) (upd H a (exo a C none))
theorem pe_exc0 {k : Nat} (T : SupC X.prog X.K X.mg C fI) (hr : Room k X.A) (hg : Gl X x) (hm : X.mg x = some (.ref C)) (hdb : (x == ("__debug__" : Str)) = false := by decide) : PE X (.Call (.Name x p) [] [] pos) (tExc0 C) := by
  refine ⟨fun pins s σ H Q I h => ?_⟩
  refine wpAny_Call_Name_kw (ld_glob I hg hm ?_ hdb)
  refine PySem.W.callWith_K0 I.kIn T.oex.kC ?_
  show wpAny _ _ (call (.ref C) []) _ _ _
  refine run_exc0 T hr I fun h' tk a t1 ha k e => ?_
  exact ⟨.ref a, upd H a (exo a C none), I.laid k ha (exo_ok e), rfl, h a (I.hok.fresh ha)⟩
/-- raised at once -/
theorem pmk_exc0 {k : Nat} (T : SupC X.prog X.K X.mg C fI) (hr : Room k X.A) (hg : Gl X x) (hm : X.mg x = some (.ref C)) (hdb : (x == ("__debug__" : Str)) = false := by decide) : PMk X (.Call (.Name x p) [] [] pos) (fun _ H Q => Q (.ref C) none H) := by
  intro pins s σ H Q I h
  refine wpAny_Call_Name_kw (ld_glob I hg hm ?_ hdb)
  refine PySem.W.callWith_K0 I.kIn T.oex.kC ?_
  show wpAny _ _ (call (.ref C) []) _ _ _
  refine run_exc0 T hr I fun h' tk a t1 ha k e => ?_
  refine ⟨a, _, _, s, H, .ref C, none, rfl, I, k, ?_, e, ⟨rfl, rfl⟩, rfl, rfl, I.hok.fresh ha, rfl, I.bare, raises_own T.oex.exC T.oex.tyC, h⟩
  exact Heap.get?_none_of_le ha
end

/-! ### __init__(self, f): self.f = f -/
structure Ini1 (st : Stmt) (f : Str) : Prop where
  body : ∃ q1 q2 q3 q4, defBody st = [.Assign [.Attribute (.Name "self" q1) f q2] (.Name f q3) q4]
  sc : FnScope ["self", f] ["self", f] (defScope st)
  l0 : (defScope st).names.lookup ("self" : Str) = some .local
  l1 : (defScope st).names.lookup f = some .local
  d1 : (f == ("__debug__" : Str)) = false
  d2 : (f == ("__classdict__" : Str)) = false
def spIni1 (C : Addr) (f : Str) : Sp := fun vs H Q _ => ∃ (a : Addr) (v : V), vs = [.ref a, v] ∧ H a = some (exo a C none) ∧ ∀ dx, H dx = none → dx ≠ a → Q .non (upd (upd H dx (exd dx [(f, v)])) a (exo a C (some dx)))
section
variable {P : Program} {w : World} {K : PySem.W.Frag} {mg : Str → Option Value} {base : Heap} {C : Addr}
theorem ok_ini1 {qual f : Str} {st : Stmt} {fI : Addr} {fd : FuncData} (F : Fun K "__init__" qual st fI fd) (S : Ini1 st f) (T : OexC K C) (hno : PySem.W.findIn K (.ref C) f = some none) : FnOk P w K mg base CX0 1 fI fd ["self", f] (spIni1 C f) := by
  refine F.ok S.sc (fun vs H Q E h => ?_) (fun cdv A outer s H vs Q E hr h => ?_)
  · obtain ⟨a, v, rfl, _⟩ := h
    rfl
  · obtain ⟨a, v, rfl, ha, q⟩ := h
    obtain ⟨q1, q2, q3, q4, hb⟩ := S.body
    rw [hb]
    refine ⟨_, pss_one (ps_ost (pv 0 rfl (.inl S.l0)) (pv 1 rfl (.inl S.l1) S.d1 S.d2)), ?_⟩
    exact ⟨v, rfl, .ref a, rfl, a, C, rfl, T, hno, .inl ⟨ha, fun dx n ne => q dx n ne⟩⟩
end
theorem upd3 {H : Hp} {a d : Addr} {o1 o2 o3 : HO} (h : d ≠ a) : upd (upd (upd H a o1) d o2) a o3 = upd (upd H d o2) a o3 := by
  funext b
  by_cases e : b = a
  · rw [e, upd_same, upd_same]
  · rw [upd_ne e, upd_ne e]
    by_cases e2 : b = d
    · rw [e2, upd_same, upd_same]
    · rw [upd_ne e2, upd_ne e2, upd_ne e]
def tExc1 (C : Addr) (f : Str) (ta : TA) : TE := fun σ H Q => ta σ H fun vs H1 => ∃ v, vs = [v] ∧ ∀ a d, H1 a = none → H1 d = none → d ≠ a → Q (.ref a) (upd (upd H1 d (exd d [(f, v)])) a (exo a C (some d)))
section
variable {X : Cx} {x f : Str} {C fI : Addr} {p pos : Pos} {e : Expr} {ta : TA} {fd : FuncData}
theorem pe_exc1 {k : Nat} (T : OexC X.K C) (iC : PySem.W.findIn X.K (.ref C) "__init__" = some (some (.ref fI))) (tI : PySem.W.typeIn X.K (.ref fI) = some (.type "function")) (F1 : FnOk X.prog X.w X.K X.mg X.base CX0 1 fI fd ["self", f] (spIni1 C f)) (hr : Room (k + 2) X.A)
    (hb : Binds X.K fd ["self", f] []) (hg : Gl X x) (hm : X.mg x = some (.ref C)) (ha : PA X [e] ta) (hdb : (x == ("__debug__" : Str)) = false := by decide) (he : starEach (e :: []) X.env = (false, eval e X.env) :: starEach [] X.env := by rfl)
    (hpl : (backTo pos (starEach [] X.env)).any (·.1) = false := by rfl) : PE X (.Call (.Name x p) [e] [] pos) (tExc1 C f ta) := by
  refine ⟨fun pins s σ H Q I h => ?_⟩
  obtain ⟨nm, q, N, bs, bm, sn, sub, ab, col, dd, k0, k1, k2, k3, k5, hC, hbm⟩ := T.cls
  refine wpAny_Call_Name_kw (ld_glob I hg hm ?_ hdb)
  refine PySem.W.callWith_K (h₀ := X.base) I.ok.mod.kin T.kC (thn (ha.run pos pins s σ H _ I h) fun us s1 ⟨vs, H1, I1, r1, v, ev, q1⟩ => ⟨I1.kIn, ?_⟩) he hpl
  subst ev
  show wpAny _ _ (call (.ref C) us) _ _ _
  obtain ⟨hp, g, dr, tk, os⟩ := s1
  have hsz : hp.objs.size ≤ hp.objs.size + 1 := Nat.le_succ _
  have hn : H1 (hp.objs.size + 1) = none := I1.hok.fresh hsz
  have kk : ∀ b o, hp.get? b = some o → ((hp.push (PySem.W.kdv_tup us)).push (PySem.HandSPX.excO C hp.objs.size)).get? b = some o := fun b o e => Heap.get?_push_of_some _ (Heap.get?_push_of_some _ e)
  have hget : ((hp.push (PySem.W.kdv_tup us)).push (PySem.HandSPX.excO C hp.objs.size)).get? (hp.objs.size + 1) = some (PySem.HandSPX.excO C hp.objs.size) := by heap_get
  have I2 : Inv X pins σ (upd H1 (hp.objs.size + 1) (exo (hp.objs.size + 1) C none)) ⟨(hp.push (PySem.W.kdv_tup us)).push (PySem.HandSPX.excO C hp.objs.size), g, dr, tk, os⟩ :=
    I1.laid (t' := tk) (a := hp.objs.size + 1) (o := exo (hp.objs.size + 1) C none) (h' := (hp.push (PySem.W.kdv_tup us)).push (PySem.HandSPX.excO C hp.objs.size)) kk hsz (exo_ok hget)
  have r2 : Vals [V.ref (hp.objs.size + 1), v] (Value.ref (hp.objs.size + 1) :: us) := .cons rfl r1
  have hl1 : us.length = 1 := by rw [← Paired.length r1] <;> rfl
  have hl : (Value.ref (hp.objs.size + 1) :: us ++ []).length = (["self", f] : List Str).length := by
    rw [List.append_nil, List.length_cons, hl1] <;> rfl
  have hus : us.length ≤ sizeLine := by
    rw [hl1, sizeLine_eq]
    omega
  have b2 := hb _ (Value.ref (hp.objs.size + 1) :: us) I2.kIn hl
  rw [List.append_nil] at b2
  have hq : spIni1 C f [V.ref (hp.objs.size + 1), v] (upd H1 (hp.objs.size + 1) (exo (hp.objs.size + 1) C none)) (fun z H2 => z = .non ∧ Q (.ref (hp.objs.size + 1)) H2) E0 := by
    refine ⟨_, v, rfl, upd_same, fun dx n ne => ⟨rfl, ?_⟩⟩
    rw [upd_ne ne] at n
    rw [upd3 ne]
    exact q1 _ dx hn n ne
  refine wpAny_call (PySem.HandSPX.call_own F.excBase_ValueError (fun Y => PySem.HandSPX.refsVE_contains Y bm hbm) (I1.kIn _ _ hC) (PySem.W.looks_findIn I1.kIn iC) (fun self => PySem.W.bind_fn I1.kIn self tI) hus
    (codeAny_mono (F1.run _ X.stack _ _ ⟨Value.ref (hp.objs.size + 1) :: us, []⟩ (Value.ref (hp.objs.size + 1) :: us) _ _ E0 ((hr.mono (by omega : 1 + 1 ≤ k + 2)).make C us []) (I2.env0.make C us []) b2 r2 hq) fun r s' hq' => ?_))
  cases r with
  | error er => exact False.elim hq'
  | ok fl =>
    cases fl with
    | ret u =>
      obtain ⟨z, H', I3, rz, ez, q3⟩ := I2.after hq'
      subst ez
      exact ⟨rz, ⟨V.ref (hp.objs.size + 1), H', I3, rfl, q3⟩⟩
    | next => exact False.elim hq'
    | brk => exact False.elim hq'
    | cont => exact False.elim hq'
end

/-! ### isinstance -/
/-- at a stands an own error of the class at C -/
def ErrAt (H : Hp) (a C : Addr) : Prop := H a = some (exo a C none) ∨ ∃ d fs, H a = some (exo a C (some d)) ∧ H d = some (exd d fs)
theorem err_inst {X : Cx} {pins : List (Addr × Obj)} {σ : L2.St} {H : Hp} {s : Shared} {a C : Addr} (I : Inv X pins σ H s) (h : ErrAt H a C) : ∃ ox od, PySem.W.InstAt s.heap a ox C od := by
  rcases h with h | ⟨d, fs, h, hd⟩
  · obtain ⟨t1, e⟩ := exo_at I.hok h
    exact ⟨_, none, e, rfl, rfl, trivial⟩
  · obtain ⟨t1, e⟩ := exo_at I.hok h
    obtain ⟨mA, ⟨o, es, ep, ho, _⟩, _⟩ := exd_at I.hok hd
    exact ⟨_, some o, e, rfl, rfl, ho⟩
/-- isinstance(e, c), e an own error -/
def rIsX (K : PySem.W.Frag) : List V → Hp → VK → Prop := fun xs H Q => ∃ (a C : Addr) (c : V) (cv : Value) (b : Bool), xs = [.ref a, c] ∧ ErrAt H a C ∧ ExcC K C ∧ ClsV c cv ∧ PySem.W.kitOne K (.ref C) cv = some b ∧ Q (.bl b) H
theorem call_isX {X : Cx} : CallR X (.builtin "isinstance") (rIsX X.K) := by
  intro pins s σ H xs us Q I r h
  obtain ⟨a, C, c, cv, b, rfl, ea, T, k, e, q⟩ := h
  obtain ⟨u1, u2, rfl, r1, r2⟩ := vals2 r
  have e2 := k.eq r2
  subst e2
  obtain rfl : u1 = Value.ref a := r1
  obtain ⟨ox, od, J⟩ := err_inst I ea
  have hcl : (PySem.W.clsIn X.K C).isSome = true := by
    obtain ⟨cd, hc, _⟩ := PySem.W.any_some T.hd
    rw [hc]
    rfl
  exact PySem.W.kia_one (PySem.W.kitx_exc hcl T.hg T.hk T.hs T.ha T.hn T.ht T.hm) I.kIn J e (fun z => nomatch z) fun tk => ⟨.bl b, H, I.tok tk, rfl, q⟩
/-- e.n, e an own error -/
def tErrF (K : PySem.W.Frag) (n : Str) (te : TE) : TE := fun σ H Q => te σ H fun x H1 => ∃ (a C d : Addr) (fs : List (Str × V)) (v : V), x = .ref a ∧ H1 a = some (exo a C (some d)) ∧ H1 d = some (exd d fs) ∧ fs.lookup n = some v ∧ XfC K C ∧ PySem.W.findIn K (.ref C) n = some none ∧ Q v H1
theorem pe_errF {X : Cx} {e : Expr} {te : TE} {pos : Pos} {n : Str} (he : PE X e te) (hb : attributeBase e n X.env (eval e X.env) = eval e X.env := by rfl) : PE X (.Attribute e n pos) (tErrF X.K n te) := by
  refine ⟨fun pins s σ H Q I h => ?_⟩
  refine attr_of hb (thn (he.run pins s σ H _ I h) fun u s1 hh => ?_)
  obtain ⟨x, H1, I1, rx, a, C, d, fs, v, ex, ea, ed, l, T, hno, q⟩ := hh
  subst ex
  obtain rfl : u = Value.ref a := rx
  obtain ⟨t1, e1⟩ := exo_at I1.hok ea
  obtain ⟨mA, hns, hr⟩ := exd_at I1.hok ed
  obtain ⟨od, ho, hl⟩ := lookIn_ns hns
  obtain ⟨u, hu, ru⟩ := RelO.some_of (v := v) (o := mA n) (by rw [← l]; exact hr n)
  have J : PySem.W.InstAt s1.heap a _ C (some od) := ⟨e1, rfl, rfl, ho⟩
  exact HandSPX.exc_get I1.kIn J T.ga T.gg T.exC (PySem.W.findObj_own T.hdC hno rfl (by rw [hl, hu])) (handed_of ru) ⟨v, H1, I1.tok _, ru, q⟩
end Ev
set_option maxHeartbeats 4000000
/-! try with several clauses «except X as n», the name the same in all of them. -/
namespace Ev
open PySem PySem.Spec PyProof.Rows L2
/-- behind a suite the name's slot (i) is empty -/
def offS (i : Nat) (D : Ends) : Ends := { nx := fun σ' H' => D.nx (σ'.set i none) H', rt := D.rt, bk := fun σ' H' => D.bk (σ'.set i none) H', ct := fun σ' H' => D.ct (σ'.set i none) H' }
def wManyAs (K : PySem.W.Frag) (i : Nat) (Wout : WX) (D : Ends) : List (Value × (Addr → Value → Option Addr → TS)) → WX
  | [] => Wout
  | (c, ts) :: r => fun cls d σ H => ∃ b, PySem.W.exmOne K cls c = some b ∧ (b = true → ∀ a, H a = none → ts a cls d (offS i D) (σ.set i (some (.ref a))) H) ∧ (b = false → wManyAs K i Wout D r cls d σ H)
inductive HdsAs (X : Cx) (n : Str) : List ExceptHandler → List (Value × (Addr → Value → Option Addr → TS)) → Prop
  | nil : HdsAs X n [] []
  | cons {x : Str} {c : Value} {ts : Addr → Value → Option Addr → TS} {b₀ : Stmt} {suite : List Stmt} {np pos' : Pos} {hds : List ExceptHandler} {l : List (Value × (Addr → Value → Option Addr → TS))} (hc : Names X x c)
      (hsu : ∀ (a : Addr) (oe : Obj) (cls : Value) (d : Option Addr) (pn : List (Addr × Obj)), Zc cls d oe → (∃ vs, oe.data = .fields vs) → PSs (X.suite a ((a, oe) :: pn)) (b₀ :: suite) (ts a cls d)) (r : HdsAs X n hds l) :
      HdsAs X n (.ExceptHandler (some (.Name x np)) (some n) (b₀ :: suite) pos' :: hds) ((c, ts) :: l)
section
variable {X : Cx} {body : List Stmt} {h₀ : ExceptHandler} {hds : List ExceptHandler} {l : List (Value × (Addr → Value → Option Addr → TS))} {pos : Pos} {tb : WX → TS} {Wout : WX} {n : Str} {i : Nat}
theorem ps_try_manyAs (hs : X.stack = X.env :: X.outer) (hf : X.env.frame = some X.env.locals) (hN : X.N.Nodup) (hi : X.N[i]? = some n) (hln : X.env.kindOf n = some .local) (tk : Takes X Wout)
    (hb : ∀ (W : WX) (pn : List (Addr × Obj)) (xe : Value → Shared → Prop), Takes (X.tr pn xe) W → PassesOwn (model X.prog X.w) X.A X.env xe → PSs (X.tr pn xe) body (tb W))
    (hh : HdsAs X n (h₀ :: hds) l) : PS X (.Try body (h₀ :: hds) [] [] pos) (fun D σ H => tb (wManyAs X.K i Wout D l) D σ H) := by
  refine ⟨fun pins s σ H D I h => ?_⟩
  have ok := I.ok
  have hfr : X.A.frames = some (X.env :: X.outer) := by rw [ok.frames, hs]
  have hloc : Loc X.env.scope n := .inl hln
  refine wpAny_Try_except (wpAny_mono ((hb (wManyAs X.K i Wout D l) (X.pn ++ pins) (fun e s₁ => wpAny (model X.prog X.w) X.A (noteFrame e X.env) (fun _ s₂ => wpAny (model X.prog X.w) X.A (setFlight e none) (fun _ s₃ =>
    wpAny (model X.prog X.w) X.A (handleBy e X.env (h₀ :: hds)) (SP X pins D) X.xe s₃) X.xe s₂) X.xe s₁) (fun u s' xx => ?_) PassesOwn.looking).run [] s σ H D (I.toTry _) h) (fun f s1 hsp => ?_) (fun e s1 he => he))
  · obtain ⟨a, B, sI, pins', σ', H', cls, d, rfl, J', nb, up, sky, na, os, ag, w⟩ := xx
    have J : L2.Inv X pins σ' H' sI := J'.ofTry ok
    have sky' : Sky B (X.env :: X.outer) a (Zc cls d) X.env.locals s'.heap := by rw [← hs]; exact sky
    refine Sky.land Zc.steady hfr hf sky' fun h3 fl3 up3 => ?_
    have J3 : L2.Inv X pins σ' H' { s' with heap := h3 } := J.landed nb fl3.1 (up.trans up3) os ag
    obtain ⟨oe3, vs3, he3, hz3, hd3⟩ := fl3.there
    have nfr : a ∉ frs (X.env :: X.outer) := fun hm => by
      obtain ⟨_, o', e', hnf⟩ := fl3.2.2.1.mem hm
      rw [he3] at e'; cases e'
      exact hnf _ hd3
    have nL : a ≠ X.env.locals := fun z => nfr (List.mem_filterMap.mpr ⟨X.env, List.mem_cons_self, by rw [hf, z]⟩)
    have nF : a ∉ X.fs := fun hm => by
      obtain ⟨e, he, q⟩ := List.mem_filterMap.mp hm
      exact nfr (List.mem_filterMap.mpr ⟨e, List.mem_cons_of_mem _ he, q⟩)
    have S3 := J3.suite he3 hd3 na nL nF
    have LT : PySem.W.Looks (model X.prog X.w) h3 (typeOf (.ref a)) cls := fun A Q E s k q => wpAny_typeOf_ref (k _ _ he3) (by rw [hz3.1]; exact q)
    have go : ∀ {hds' : List ExceptHandler} {l' : List (Value × (Addr → Value → Option Addr → TS))}, HdsAs X n hds' l' → wManyAs X.K i Wout D l' cls d σ' H' →
        wpAny (model X.prog X.w) X.A (handleBy (.ref a) X.env hds') (SP X pins D) X.xe { s' with heap := h3 } := by
      intro hds' l' hk
      induction hk with
      | nil =>
        intro w
        refine wpAny_handleBy_nil ?_
        obtain ⟨k1, k2, k3, oe, vs, T, oT, ts', he, hz, hd, h1, hr⟩ := id fl3
        unfold PySem.passOn
        refine wpAny_bind (wpAny_field he hd h1 ?_)
        rw [if_neg (show ¬ ((Value.ref T == Value.none) = true) from by simp)]
        have fin : wpAny (model X.prog X.w) X.A (setFlight (.ref a) X.env.frame) (fun _ s4 => wpAny (model X.prog X.w) X.A (throw (.ref a) : Sem Flow) (SP X pins D) X.xe s4) X.xe { s' with heap := h3 } := by
          rw [hf]
          refine HandSPX.setFlight_upZ fl3 fun h4 hh4 up4 => wpAny_throw (tk _ _ ?_)
          exact ⟨a, B, sI, pins, σ', H', cls, d, rfl, J, nb, (up.trans up3).trans up4, .inr (.inr (by rw [hs]; exact hh4)), na, os, ag, w⟩
        first
          | exact wpAny_bind (wpAny_pure (wpAny_bind fin))
          | exact wpAny_bind fin
      | @cons x c ts b₀ suite np pos' hds2 l2 hc hsu r ih =>
        intro w
        obtain ⟨b, hb1, hyes, hno⟩ := w
        refine wpAny_handleBy_cons (codeAny_handlers_test ?_) (by intro q; cases q)
        have LM := PySem.W.exm_one (M := model X.prog X.w) (J3.kIn) LT hb1
        have test : ∀ {Q : Value → Shared → Prop} {E : Value → Shared → Prop}, Q c { s' with heap := h3 } → wpAny (model X.prog X.w) (X.A.mark (some (.ref a))) (eval (.Name x np) X.env) Q E { s' with heap := h3 } := fun {Q E} q => by
          obtain ⟨hg, hdbg, hm | ⟨hm, hv, hnn⟩⟩ := hc
          · exact ld_glob (X := X.suite a ((a, oe3) :: (X.pn ++ pins))) S3 hg hm q hdbg
          · exact ld_blt (X := X.suite a ((a, oe3) :: (X.pn ++ pins))) S3 hg hm hv q hnn hdbg
        refine test (LM.here ?_)
        cases b with
        | true =>
          refine codeAny_handlers_suite_as (HandSPX.lands_againZ fl3 fun h4 fl4 up4 => ?_)
          have J4 : L2.Inv X pins σ' H' { s' with heap := h4 } := J.landed nb fl4.1 ((up.trans up3).trans up4) os ag
          obtain ⟨oe4, vs4, he4, hz4, hd4⟩ := fl4.there
          refine store_ok (X := X.suite a ((a, oe4) :: (X.pn ++ pins))) (v := .ref a) (J4.suite he4 hd4 na nL nF) hN hi hloc rfl (fun s5 S5 => ?_) (.inr hln)
          refine wpAny_mono ((hsu a oe4 cls d (X.pn ++ pins) hz4 ⟨_, hd4⟩).run [] s5 _ H' _ S5 (hyes rfl a na)) (fun f s6 hsp => ?_) (fun _ _ z => False.elim z)
          cases f with
          | next =>
            obtain ⟨σ6, H6, S6, q6⟩ := hsp
            exact gone_ok (S6.unsuite ok) hN hi hln fun s7 J7 => ⟨_, _, J7, q6⟩
          | brk =>
            obtain ⟨σ6, H6, S6, q6⟩ := hsp
            exact gone_ok (S6.unsuite ok) hN hi hln fun s7 J7 => ⟨_, _, J7, q6⟩
          | cont =>
            obtain ⟨σ6, H6, S6, q6⟩ := hsp
            exact gone_ok (S6.unsuite ok) hN hi hln fun s7 J7 => ⟨_, _, J7, q6⟩
          | ret u =>
            obtain ⟨v6, σ6, H6, S6, r6, q6⟩ := hsp
            exact gone_ok (S6.unsuite ok) hN hi hln fun s7 J7 => ⟨_, _, _, J7, r6, q6⟩
        | false => exact ih (hno rfl)
    exact go hh w
  · cases f with
    | next =>
      obtain ⟨σ', H', J', q⟩ := hsp
      exact wpAny_execs_nil ⟨σ', H', J'.ofTry ok, q⟩
    | brk =>
      obtain ⟨σ', H', J', q⟩ := hsp
      exact ⟨σ', H', J'.ofTry ok, q⟩
    | cont =>
      obtain ⟨σ', H', J', q⟩ := hsp
      exact ⟨σ', H', J'.ofTry ok, q⟩
    | ret u =>
      obtain ⟨v, σ', H', J', r, q⟩ := hsp
      exact ⟨v, σ', H', J'.ofTry ok, r, q⟩
end
end Ev
set_option maxHeartbeats 8000000
namespace LawK
open PySem PySem.Spec PyProof.Rows L2 Ev
abbrev veT : List Value := [.type "ValueError", .type "Exception", .type "BaseException", .type "object"]
/-- an own error class at C, over the one at PE -/
structure ErC (K : PySem.W.Frag) (PE C : Addr) : Prop where
  oex : OexC K C
  isx : ExcC K C
  xf : XfC K C
  mro : ∃ cd, PySem.W.clsIn K C = some cd ∧ cd.mro = .ref C :: .ref PE :: veT
  isT : PySem.W.typeIn K (.ref C) = some (.type "type")
section
variable {K : PySem.W.Frag} {PE C D : Addr}
theorem ErC.sub (T : ErC K PE C) (b : Value) : PySem.W.subIn K (.ref C) b = some ((Value.ref C :: .ref PE :: veT).contains b) := by
  obtain ⟨cd, h1, h2⟩ := T.mro
  show (PySem.W.clsIn K C).bind _ = _
  rw [h1, Option.bind_some, h2]
  rfl
theorem kit_at (TD : ErC K PE D) (T : ErC K PE C) (n : D ≠ PE) : PySem.W.kitOne K (.ref C) (.ref D) = some (decide (C = D)) := by
  unfold PySem.W.kitOne
  by_cases e : C = D
  · subst e
    rw [if_pos (by simp), decide_eq_true rfl]
  · rw [if_neg (by simpa using e), decide_eq_false e]
    obtain ⟨cd, h1, h2⟩ := TD.mro
    show (if ((PySem.W.clsIn K D).isSome && PySem.W.typeIn K (.ref D) == some (.type "type")) = true then PySem.W.subIn K (.ref C) (.ref D) else none) = some false
    rw [if_pos (by rw [h1, TD.isT]; rfl), T.sub]
    have e2 : D ≠ C := fun z => e z.symm
    simp [veT, e2, n]
end
/-- an error class without a field -/
structure Cls0 (P : Program) (K : PySem.W.Frag) (mg : Str → Option Value) (PE : Addr) (x : Str) (C : Addr) : Prop where
  er : ErC K PE C
  ne : C ≠ PE
  sup : ∃ fI, SupC P K mg C fI
  g : mg x = some (.ref C)
/-- an error class with the field f -/
structure Cls1 (K : PySem.W.Frag) (mg : Str → Option Value) (PE : Addr) (x f : Str) (C : Addr) : Prop where
  er : ErC K PE C
  ne : C ≠ PE
  g : mg x = some (.ref C)
  ini : ∃ (fI : Addr) (fd : FuncData) (st : Stmt) (qual : Str), Fun K "__init__" qual st fI fd ∧ Ini1 st f ∧ Binds K fd ["self", f] [] ∧ PySem.W.findIn K (.ref C) "__init__" = some (some (.ref fI)) ∧ PySem.W.typeIn K (.ref fI) = some (.type "function")
  hno : PySem.W.findIn K (.ref C) f = some none
section
variable {X : Cx} {x f : Str} {PE C : Addr} {p pos : Pos} {e : Expr} {ta : TA} {k : Nat}
theorem pe_c0 (T : Cls0 X.prog X.K X.mg PE x C) (hr : Room k X.A) (hg : Gl X x := by rfl) (hdb : (x == ("__debug__" : Str)) = false := by decide) : L2.PE X (.Call (.Name x p) [] [] pos) (tExc0 C) := by
  obtain ⟨fI, S⟩ := T.sup
  exact pe_exc0 S hr hg T.g hdb
theorem pe_c1 (T : Cls1 X.K X.mg PE x f C) (hr : Room (k + 2) X.A) (ha : PA X [e] ta) (hg : Gl X x := by rfl) (hdb : (x == ("__debug__" : Str)) = false := by decide) (he : starEach (e :: []) X.env = (false, eval e X.env) :: starEach [] X.env := by rfl)
    (hpl : (backTo pos (starEach [] X.env)).any (·.1) = false := by rfl) : L2.PE X (.Call (.Name x p) [e] [] pos) (tExc1 C f ta) := by
  obtain ⟨fI, fd, st, qual, F1, S1, b1, iC, tI⟩ := T.ini
  exact pe_exc1 T.er.oex iC tI (ok_ini1 F1 S1 T.er.oex T.hno) hr b1 hg T.g ha hdb he hpl
def tMk1 (C : Addr) (f : Str) (ta : TA) : L2.St → Hp → XK → Prop := fun σ H Q => ta σ H fun vs H1 => ∃ v, vs = [v] ∧ ∀ d, H1 d = none → Q (.ref C) (some d) (upd H1 d (.xd [(f, v)]))
theorem del_upd {H : Hp} {a d : Addr} {o1 o2 o3 u : HO} (ha : H a = none) (hd : d ≠ a) : upd (del (upd (upd (upd H a o1) d o2) a o3) a) d u = upd H d u := by
  funext b
  by_cases e : b = d
  · rw [e, upd_same, upd_same]
  · rw [upd_ne e, upd_ne e]
    by_cases e2 : b = a
    · rw [e2, del_same, ha]
    · rw [del_ne e2, upd_ne e2, upd_ne e, upd_ne e2]
theorem pmk_c1 (T : Cls1 X.K X.mg PE x f C) (hr : Room (k + 2) X.A) (ha : PA X [e] ta) (hg : Gl X x := by rfl) (hdb : (x == ("__debug__" : Str)) = false := by decide) (he : starEach (e :: []) X.env = (false, eval e X.env) :: starEach [] X.env := by rfl)
    (hpl : (backTo pos (starEach [] X.env)).any (·.1) = false := by rfl) (hm : ∀ {σ : L2.St} {H : Hp} {Q1 Q2 : List V → Hp → Prop}, (∀ vs H1, Q1 vs H1 → Q2 vs H1) → ta σ H Q1 → ta σ H Q2) : PMk X (.Call (.Name x p) [e] [] pos) (tMk1 C f ta) := by
  obtain ⟨fI, fd, st, qual, F1, S1, b1, iC, tI⟩ := T.ini
  intro pins s σ H Q I h
  refine pmk_oex (CX := CX0) (k := 1) (sp := spIni1 C f) (ds := []) (dvs := []) T.er.oex iC tI (ok_ini1 F1 S1 T.er.oex T.hno) (hr.mono (by omega)) b1 .nil (fun _ _ _ _ _ _ _ z => z.elim) hg T.g ha hdb he hpl pins s σ H Q I (hm (fun vs H1 q => ?_) h)
  obtain ⟨v, rfl, q⟩ := q
  refine ⟨by show 1 ≤ 1000; decide, fun a na => ⟨a, v, rfl, upd_same, fun dx n ne => ⟨rfl, dx, _, upd_same, by rw [upd_ne ne, upd_same], ?_, ?_⟩⟩⟩
  · rw [upd_ne ne] at n
    exact n
  · rw [del_upd na ne]
    rw [upd_ne ne] at n
    exact q dx n
end
structure BaseX (K : PySem.W.Frag) (PE : Addr) : Prop where
  sub : PySem.W.subIn K (.ref PE) (.type "BaseException") = some true
  hd : PySem.W.hasDictIn K PE = true
  isT : PySem.W.typeIn K (.ref PE) = some (.type "type")
section
variable {K : PySem.W.Frag} {PE : Addr}
theorem exm_at {C D : Addr} (TD : ErC K PE D) (T : ErC K PE C) (n : D ≠ PE) : PySem.W.exmOne K (.ref C) (.ref D) = some (decide (C = D)) := by
  refine PySem.W.exm_ref TD.isx.hs TD.isx.hd TD.isT ?_
  rw [T.sub]
  by_cases e : C = D
  · subst e
    simp
  · have e2 : D ≠ C := fun z => e z.symm
    rw [decide_eq_false e]
    simp [veT, e2, n]
theorem exm_base {C : Addr} (B : BaseX K PE) (T : ErC K PE C) : PySem.W.exmOne K (.ref C) (.ref PE) = some true := by
  refine PySem.W.exm_ref B.sub B.hd B.isT ?_
  rw [T.sub]
  simp [veT]
theorem tCons1 {i j : Nat} {σ : L2.St} {H : Hp} {Q1 Q2 : List V → Hp → Prop} (h : ∀ vs H1, Q1 vs H1 → Q2 vs H1) : tCons (tVar i) tNil σ H Q1 → tCons (tVar i) tNil σ H Q2 := fun ⟨v, e, q⟩ => ⟨v, e, h _ _ q⟩
end
def chkE (K : PySem.W.Frag) (C : Addr) : Bool := xfB K C && (decide (PySem.W.typeIn K (.ref C) = some (.type "type")) && (PySem.W.keepIn K (.ref C) && (decide (PySem.W.findIn K (.ref C) "__class__" = some (some (.builtin "object.__class__"))) && decide (PySem.W.mroIn K C (.type "object") = some true))))
def chkC (K : PySem.W.Frag) (PE C : Addr) : Bool := chkE K C && (decide (PySem.W.findIn K (.ref C) "__setattr__" = some (some (.builtin "object.__setattr__"))) && decide (C ≠ PE))
structure Sh (K : PySem.W.Frag) : Prop where
  hn : PySem.W.specialIn K (.builtin "object.__class__") "__get__" = some (some (.builtin "getset_descriptor.__get__"))
  ht : PySem.W.takesIn K (.builtin "object.__class__") = some true
structure Sh0 (P : Program) (K : PySem.W.Frag) (mg : Str → Option Value) : Prop extends Sh K where
  gs : mg "super" = none
  top : (P.main.scope.names.lookup ("super" : Str)).isSome = false
  third : PySem.W.nsIn K cStatics "thirdparty.any" = some none
structure CkE (K : PySem.W.Frag) (C : Addr) : Prop where
  xf : XfC K C
  isT : PySem.W.typeIn K (.ref C) = some (.type "type")
  kp : PySem.W.keepIn K (.ref C) = true
  ha : PySem.W.findIn K (.ref C) "__class__" = some (some (.builtin "object.__class__"))
  hm : PySem.W.mroIn K C (.type "object") = some true
theorem chkE_ok {K : PySem.W.Frag} {C : Addr} (h : chkE K C = true) : CkE K C := by
  obtain ⟨h1, h⟩ := Bool.and_eq_true_iff.mp h
  obtain ⟨h2, h⟩ := Bool.and_eq_true_iff.mp h
  obtain ⟨h3, h⟩ := Bool.and_eq_true_iff.mp h
  obtain ⟨h4, h5⟩ := Bool.and_eq_true_iff.mp h
  exact ⟨xfB_ok h1, of_decide_eq_true h2, h3, of_decide_eq_true h4, of_decide_eq_true h5⟩
theorem CkE.isx {K : PySem.W.Frag} {C : Addr} (T : CkE K C) (S : Sh K) : ExcC K C := ⟨T.xf.ga, T.xf.gg, T.xf.exC, T.xf.hdC, T.ha, S.hn, S.ht, T.hm⟩
section
variable {P : Program} {w : World} {K : PySem.W.Frag} {mg : Str → Option Value} {h : Heap} {PE C fI : Addr} {x f qual : Str} {nm q : Str} {N : Addr} {bs : List Value} {sn : List Str} {sub : List Value} {ab : Bool} {col : Option Bool} {dd : Option Addr} {k0 k1 k2 k3 k5 : Option Value}
theorem mro_of {bm : List Value} {id : String} (lC : K.lookup C = some (excClassObj nm q C N bs bm true sn sub ab col dd k0 k1 k2 k3 k5 id)) : ∃ cd, PySem.W.clsIn K C = some cd ∧ cd.mro = .ref C :: bm := by
  have e : PySem.W.clsIn K C = some { name := nm, bases := bs, mro := .ref C :: bm, ns := N, qualname := q, hasDict := true, slotNames := sn, subclasses := sub, abstract := ab, collection := col, hasDel := false } := by
    unfold PySem.W.clsIn
    rw [lC]
  exact ⟨_, e, rfl⟩
theorem er_mk (S : Sh K) (lC : K.lookup C = some (excClassObj nm q C N bs (.ref PE :: veT) true sn sub ab col dd k0 k1 k2 k3 k5 "ValueError.__new__")) (ck : chkC K PE C = true) : ErC K PE C ∧ C ≠ PE := by
  obtain ⟨c1, c2⟩ := Bool.and_eq_true_iff.mp ck
  obtain ⟨c2, c3⟩ := Bool.and_eq_true_iff.mp c2
  have T := chkE_ok c1
  exact ⟨⟨⟨⟨nm, q, N, bs, _, sn, sub, ab, col, dd, k0, k1, k2, k3, k5, lC, (show PySem.HandSPX.refsVE veT = true by decide +kernel)⟩, of_decide_eq_true c2, T.xf.exC, T.isT, T.kp⟩, T.isx S, T.xf, mro_of lC, T.isT⟩, of_decide_eq_true c3⟩
theorem say {K : PySem.W.Frag} {h : Heap} (X : K.In h) (T : PySem.W.Frag → Prop) {g : Prop} (a : T K) (k : T K → g) : g := k a
def chk1 (K : PySem.W.Frag) (PE C fI : Addr) (f : Str) (cd : Value) (qual : Str) : Bool := chkC K PE C && (decide (PySem.W.typeIn K (.ref fI) = some (.type "function")) && (PySem.W.codeIn K cd qual && (PySem.W.keepIn K (.ref fI) && decide (PySem.W.findIn K (.ref C) f = some none))))
theorem cls1_mk {st : Stmt} {oc kV dc pm cd ct : Value} {od an : Option Addr} {sl : Array (Option Value)} (X : K.In h) (G : h.Ns mainGlobals mg) (S : Sh K)
    (i1 : Ini1 st f) (hb : ∀ (kV doc pm : Value) (an : Option Addr) (cdv ct : Value) (us : List Value), us.length = 2 → bindArgs (PySem.W.fnOf "__init__" qual (defArgs st) (defBody st) (defScope st) .none kV doc pm an cdv ct) ⟨us, []⟩ = pure ((["self", f] : List Str).zip us))
    (aC : PySem.W.nsIn K mainGlobals x = some (some (.ref C))) (lC : K.lookup C = some (excClassObj nm q C N bs (.ref PE :: veT) true sn sub ab col dd k0 k1 k2 k3 k5 "ValueError.__new__"))
    (iC : PySem.W.findIn K (.ref C) "__init__" = some (some (.ref fI))) (lI : K.lookup fI = some ⟨oc, od, .func (PySem.W.fnOf "__init__" qual (defArgs st) (defBody st) (defScope st) .none kV dc pm an cd ct), sl⟩)
    (ck : chk1 K PE C fI f cd qual = true) : Cls1 K mg PE x f C := by
  obtain ⟨c1, c2⟩ := Bool.and_eq_true_iff.mp ck
  obtain ⟨c2, c3⟩ := Bool.and_eq_true_iff.mp c2
  obtain ⟨c3, c4⟩ := Bool.and_eq_true_iff.mp c3
  obtain ⟨c4, c5⟩ := Bool.and_eq_true_iff.mp c4
  obtain ⟨e, n⟩ := er_mk S lC c1
  have F1 := fun_mk (st := st) lI c3 c4
  exact ⟨e, n, PySem.W.mg_of X G aC, ⟨fI, _, st, qual, F1, i1, F1.binds (ps := ["self", f]) hb, iC, of_decide_eq_true c2⟩, of_decide_eq_true c5⟩
def chk0 (K : PySem.W.Frag) (PE C fI : Addr) (cd : Value) (qual : Str) : Bool := chkC K PE C && (decide (PySem.W.typeIn K (.ref fI) = some (.type "function")) && (PySem.W.codeIn K cd qual && (decide (PySem.W.ks_superIn K C C "__init__" = some (some (.builtin "ValueError.__init__"))) && (decide (PySem.W.subIn K (.ref C) (.type "ValueError") = some true) && decide (PySem.W.mroIn K C (.ref C) = some true)))))
theorem cls0_mk {oc kV dc pm ct : Value} {od an : Option Addr} {cda cc : Addr} {osl : Array (Option Value)} {p p0 p1 p2 p3 p4 : Pos} {ccl : Value} {cdd : Option Addr} {vs : Array Value} {ccs : Array (Option Value)} {file : Str} {tf : Tok} {cl : Value} {cld : Option Addr} {csl : Array (Option Value)}
    (X : K.In h) (G : h.Ns mainGlobals mg) (S : Sh0 P K mg)
    (aC : PySem.W.nsIn K mainGlobals x = some (some (.ref C))) (lC : K.lookup C = some (excClassObj nm q C N bs (.ref PE :: veT) true sn sub ab col dd k0 k1 k2 k3 k5 "ValueError.__new__"))
    (iC : PySem.W.findIn K (.ref C) "__init__" = some (some (.ref fI)))
    (lI : K.lookup fI = some ⟨oc, od, .func (PySem.W.ksFn "__init__" qual (supArgs p) (supBody p0 p1 p2 p3 p4) supScope .none kV dc pm an (.ref cda) ct cc), osl⟩)
    (lD : K.lookup cda = some ⟨ccl, cdd, .fields vs, ccs⟩) (lc : K.lookup cc = some ⟨cl, cld, .cell (some (.ref C)), csl⟩)
    (v2 : vs[2]? = some (.str file tf)) (vf : ((P.main.file : Str) == file) = true) (pl : (p2.endLine == p3.line) = true)
    (ck : chk0 K PE C fI (.ref cda) qual = true) : Cls0 P K mg PE x C := by
  obtain ⟨c1, c2⟩ := Bool.and_eq_true_iff.mp ck
  obtain ⟨c2, c3⟩ := Bool.and_eq_true_iff.mp c2
  obtain ⟨c3, c4⟩ := Bool.and_eq_true_iff.mp c3
  obtain ⟨c4, c5⟩ := Bool.and_eq_true_iff.mp c4
  obtain ⟨c5, c6⟩ := Bool.and_eq_true_iff.mp c5
  obtain ⟨e, n⟩ := er_mk S.toSh lC c1
  exact ⟨e, n, ⟨fI, e.oex, iC, of_decide_eq_true c2, ⟨oc, od, qual, kV, dc, pm, ct, an, cda, cc, osl, p, p0, p1, p2, p3, p4, ccl, cdd, vs, ccs, file, tf, cl, cld, csl, lI, c3, lD, v2, vf, lc, pl⟩, S.gs, S.top, S.third, of_decide_eq_true c4, of_decide_eq_true c5, of_decide_eq_true c6⟩, PySem.W.mg_of X G aC⟩
theorem sh0_mk (X : K.In h) (G : h.Ns mainGlobals mg) (hn : PySem.W.specialIn K (.builtin "object.__class__") "__get__" = some (some (.builtin "getset_descriptor.__get__"))) (ht : PySem.W.takesIn K (.builtin "object.__class__") = some true)
    (gs : PySem.W.nsIn K mainGlobals "super" = some none) (top : (P.main.scope.names.lookup ("super" : Str)).isSome = false) (third : PySem.W.nsIn K cStatics "thirdparty.any" = some none) : Sh0 P K mg := ⟨⟨hn, ht⟩, PySem.W.mg_none_of X G gs, top, third⟩
end
end LawK
set_option maxHeartbeats 4000000
namespace LawK
open PySem PySem.Spec PyProof.Rows L2 Ev

theorem dec_int {a b : Int} : decide (V.int a = V.int b) = decide (a = b) := by
  by_cases h : a = b
  · rw [h, decide_eq_true rfl, decide_eq_true rfl]
  · rw [decide_eq_false h, decide_eq_false (fun e => h (V.int.inj e))]
theorem dec_str {a b : Str} : decide (V.str a = V.str b) = decide (a = b) := by
  by_cases h : a = b
  · rw [h, decide_eq_true rfl, decide_eq_true rfl]
  · rw [decide_eq_false h, decide_eq_false (fun e => h (V.str.inj e))]
/-- what is never reached -/
theorem ps_dead {X : Cx} {st : Stmt} : PS X st (fun _ _ _ => False) := ⟨fun pins s σ H D I q => q.elim⟩
/-- the class of libraries, as it stands at C -/
structure LibC (K : PySem.W.Frag) (mg : Str → Option Value) (C fI : Addr) (fdI : FuncData) : Prop where
  mak : Mk K C fI
  cl : Cls K C
  nt : NoAttr K C "texts"
  FI : Fun K "__init__" "Library.__init__" (inClass (topS 15) 0) fI fdI
  bI : Binds K fdI ["self", "texts"] []
  g : mg "Library" = some (.ref C)
/-- a library of these texts, at s -/
structure LibAt (H : Hp) (C s : Addr) (ts : List Str) : Prop where
  ex : ∃ dx a, H s = some (.ins C dx [("texts", .ref a)]) ∧ H a = some (.tup (ts.map V.str))
  few : ts.length ≤ 8
  sg : ∀ t ∈ ts, sgB t = true
  len : ∀ t ∈ ts, t.length ≤ 200
theorem LibAt.same {H H' : Hp} {C s : Addr} {ts : List Str} (k : Same H H') (h : LibAt H C s ts) : LibAt H' C s ts := by
  obtain ⟨⟨dx, a, h1, h2⟩, h3, h4, h5⟩ := h
  exact ⟨⟨dx, a, k _ _ h1, k _ _ h2⟩, h3, h4, h5⟩
theorem lk1 {a : V} : ([("texts", a)] : List (Str × V)).lookup ("texts" : Str) = some a := by simp [List.lookup]
/-- a text by its number -/
abbrev tx (ts : List Str) (i : Nat) : Str := ts.getD i Str.empty
abbrev Pl := Nat × Nat
structure InT (ts : List Str) (p : Pl) : Prop where
  text : p.1 < ts.length
  at_ : p.2 < (tx ts p.1).length
/-- a pair of numbers -/
def PAt (H : Hp) (v : V) (p : Pl) : Prop := ∃ b, v = .ref b ∧ H b = some (.tup [.int (p.1 : Nat), .int (p.2 : Nat)])
theorem PAt.same {H H' : Hp} {v : V} {p : Pl} (k : Same H H') (h : PAt H v p) : PAt H' v p := let ⟨b, e, q⟩ := h; ⟨b, e, k _ _ q⟩
def spLInit (C : Addr) : Sp := fun vs H Q E => ∃ (s dx a : Addr) (ts : List Str), vs = [.ref s, .ref a] ∧ H s = some (.ins C dx []) ∧ H a = some (.tup (ts.map V.str)) ∧ ts.length ≤ 8 ∧ (∀ t ∈ ts, sgB t = true) ∧ (∀ t ∈ ts, t.length ≤ 200) ∧
  ∀ H', H' s = some (.ins C dx [("texts", .ref a)]) → (∀ b u, b ≠ s → H b = some u → H' b = some u) → Q .non H'
def spPPlace (C : Addr) : Sp := fun vs H Q _ => ∃ (s : Addr) (ts : List Str) (v : V) (p : Pl), vs = [.ref s, v] ∧ LibAt H C s ts ∧ PAt H v p ∧ InT ts p ∧ Q (.bl true) H
theorem sum_le {ts : List Str} (h : ∀ t ∈ ts, t.length ≤ 200) : (ts.map fun t => (t.length : Int)).sum ≤ 200 * (ts.length : Int) := by
  induction ts with
  | nil => exact Int.le_refl _
  | cons t ts ih =>
    have a := ih fun u hu => h u (List.mem_cons_of_mem _ hu)
    have b := h t List.mem_cons_self
    simp only [List.map_cons, List.sum_cons, List.length_cons]
    omega
theorem tx_mem {ts : List Str} {i : Nat} (h : i < ts.length) : tx ts i ∈ ts := by
  unfold tx
  rw [List.getD_eq_getElem?_getD, List.getElem?_eq_getElem h]
  exact List.getElem_mem h
theorem tx_at {ts : List Str} {i : Nat} (h : i < ts.length) : (ts.map V.str)[i]? = some (.str (tx ts i)) := by
  unfold tx
  rw [List.getElem?_map, List.getD_eq_getElem?_getD, List.getElem?_eq_getElem h]
  rfl
section
variable {P : Program} {w : World} {K : PySem.W.Frag} {mg : Str → Option Value} {base : Heap}
variable {C fI : Addr} {fdI : FuncData}
abbrev sPSigns : Stmt := topS 9
theorem scPSigns : FnScope ["thing"] ["thing"] (defScope sPSigns) := ⟨rfl, rfl, rfl, by decide +kernel, rfl, by decide +kernel, by decide +kernel⟩
theorem ok_PSigns {f : Addr} {fd : FuncData} (F : Fun K "is_signs" "is_signs" sPSigns f fd)  (T : Glob mg) : FnOk P w K mg base CX0 1 f fd ["thing"] spSg := by
  refine F.ok scPSigns (fun vs H Q E h => ?_) (fun cdv A outer s H vs Q E hr h => ?_)
  · obtain ⟨x, k, rfl, _⟩ := h
    rfl
  · refine ⟨_, (pss_one (ps_ret (pe_and (pe_callB call_isi (by rfl) T.isinstance PyProof.Rows.boot_isinstance (pa_cons (pv 0) (pa_cons (pe_bltn (v := .ty "str") (by rfl) T.str (by decide +kernel) rfl) pa_nil))) (pe_and (pe_bm0 PySem.F.plainAttrs_str PySem.F.slot_str_isascii PySem.F.type_str_isascii mt_isascii (pv 0)) (pe_one (pe_bm0 PySem.F.plainAttrs_str PySem.F.slot_str_isprintable PySem.F.type_str_isprintable mt_isprintable (pv 0))))))), ?_⟩
    obtain ⟨x, k, rfl, hk, hz, q⟩ := h
    refine ⟨x, rfl, x, .ty "str", .type (Kn.name k), .type "str", kitB k .str, rfl, .ty _, Kd.tyx hk, kit_kn k .str, _, rfl, ?_⟩
    cases hk with
    | str z =>
      refine iteT ⟨.str z, rfl, rfl, z, rfl, rfl, trivial, _, rfl, ite2 (fun e => ⟨.str z, rfl, rfl, z, rfl, rfl, trivial, ?_⟩) (fun e => ?_)⟩
      · have q' : Q (.bl (sgB z)) H := q
        rw [← sgB_of, e, Bool.true_and] at q'
        exact q'
      · have e' : Txt.isascii z = false := by simpa using e
        have q' : Q (.bl (sgB z)) H := q
        rw [← sgB_of, e', Bool.false_and] at q'
        exact q'
    | non => exact iteF q
    | bl b => exact iteF q
    | int i => exact iteF q
    | lst e => exact iteF q
    | tup e => exact iteF q
    | dic e => exact iteF q
abbrev sLInit : Stmt := inClass (topS 15) 0
theorem scLInit : FnScope ["self", "texts", "part", "text"] ["self", "texts"] (defScope sLInit) := ⟨rfl, rfl, rfl, by decide +kernel, rfl, by decide +kernel, by decide +kernel⟩
theorem ok_LInit (L : LibC K mg C fI fdI) {t8 t2000 : Tok} (g8 : mg "MOST_TEXTS" = some (.int 8 t8)) (g2000 : mg "MOST_SIGNS" = some (.int 2000 t2000))
    {fPSigns : Addr} {fdPSigns : FuncData} (DPSigns : Dk P w K mg base "is_signs" sPSigns ["thing"] 1 spSg fPSigns fdPSigns) (T : Glob mg) : FnOk P w K mg base (L2.CX P w) 4 fI fdI ["self", "texts"] (spLInit C) := by
  refine L.FI.okX scLInit (fun vs H Q E h => ?_) (fun cdv A outer s H vs Q E hr h => ?_)
  · obtain ⟨s, dx, a, ts, rfl, _⟩ := h
    rfl
  · obtain ⟨p, dx, a, ts, rfl, hp, ha, few, sg, lens, q⟩ := h
    refine ⟨_, (pss_cons (ps_if (PW.pt (pw_or (pt_not (pt_val (pe_callB call_isi (by rfl) T.isinstance PyProof.Rows.boot_isinstance (pa_cons (pv 1) (pa_cons (pe_bltn (v := .ty "tuple") (by rfl) T.tuple (by decide +kernel) rfl) pa_nil))))) (pw_or1 (pt_cmpR op_gt (pe_callB call_len_seq (by rfl) T.len PySem.boot_len (pa_cons (pv 1) pa_nil)) (pe_glob (v := .int 8) (by rfl) g8 ⟨_, rfl⟩) (nomark _))))) (pss_one ps_dead) pss_nil)
      (pss_cons (ps_for (passes_of rfl) rfl (pi_enumT (by rfl) T.enumerate (pa_cons (pv 1) pa_nil)) (pg_tup (by rfl) (pgs_cons (pg_name (i := 2) scLInit.nd rfl (.inl rfl)) (pgs_cons (pg_name (i := 3) scLInit.nd rfl (.inl rfl)) pgs_nil)))
        (pss_one (ps_if (pt_not (pt_val (pe_call DPSigns.ok (hr.mono (by decide)) (by rfl) DPSigns.g DPSigns.F.kp DPSigns.b .nil pass0 (pa_cons (pv 3) pa_nil)))) (pss_one ps_dead) pss_nil)))
      (pss_cons (ps_if (pt_cmpR op_gt (pe_callB (cr_sum rfl) (by rfl) T.sum (by decide +kernel) (pa_cons (pe_lc (own := [("text", 3)]) (g := gName 3) (by rfl) scLInit.nd (pi_tup (pv 1)) (blkOk_by (N := ["self", "texts", "part", "text"]) (sc := defScope sLInit) (by decide +kernel)) (fun _ _ _ _ _ => pg_name (i := 3) scLInit.nd rfl (.inl rfl)) (fun _ _ _ _ _ => pts_nil) (fun _ _ _ _ _ => (pe_callB call_lenZ (by rfl) T.len PySem.boot_len (pa_cons (pv 3) pa_nil)))) pa_nil)) (pe_glob (v := .int 2000) (by rfl) g2000 ⟨_, rfl⟩) (nomark _)) (pss_one ps_dead) pss_nil)
      (pss_one (ps_fld (pv 0) (pv 1) rfl))))), ?_⟩
    have lm : (ts.map V.str).length = ts.length := List.length_map ..
    refine ⟨.ref a, rfl, .ref a, .ty "tuple", .type (Kn.name .tup), .type "tuple", kitB .tup .tup, rfl, .ty _, Kd.tyx (.tup ha), kit_kn .tup .tup, _, rfl, iteF ?_⟩
    refine ⟨.ref a, rfl, a, _, rfl, .inr (SqT.of ha), _, _, rfl, rfl, _, rfl, ?_⟩
    rw [decide_eq_false (show ¬ (8 : Int) < (((ts.map V.str).length : Nat) : Int) by omega)]
    refine iteF ?_
    refine ⟨.ref a, rfl, a, _, rfl, SqT.of ha, for_enT (fun i σ H' => (∃ y z, σ = [some (.ref p), some (.ref a), y, z]) ∧ Same H H') ⟨⟨_, _, rfl⟩, Same.refl H⟩ (fun i σ H' q => SqT.of (q.2 _ _ ha)) ?_ ?_⟩
    · rintro i c σ H' hxi ⟨⟨y, z, rfl⟩, kH⟩ t nt
      obtain ⟨u, hu, rfl⟩ := List.mem_map.mp (List.mem_of_getElem? hxi)
      have k2 := kH.trans (Same.new (o := .tup [.int (i : Nat), .str u]) nt)
      refine ⟨t, [.int (i : Nat), .str u], rfl, SqT.of upd_same, rfl, .int (i : Nat), [.str u], rfl, .str u, [], rfl, rfl, ?_⟩
      refine ⟨.str u, rfl, .str u, .str, rfl, .str u, (fun w e => by cases e; exact Nat.le_trans (lens _ hu) (by decide)), _, rfl, ?_⟩
      rw [show sgV (.str u) = true from sg u hu]
      exact iteF ⟨⟨_, _, rfl⟩, k2⟩
    · rintro σ H' ⟨⟨y, z, rfl⟩, kH⟩
      refine ⟨.ref a, rfl, a, rfl, ⟨_, SqT.of (kH _ _ ha)⟩, fun D nD => lc_lens (i := 3) (show 3 < 4 by decide) (kH _ _ ha) nD (fun t ht => Nat.le_trans (lens t ht) (by decide)) (by omega) fun H2 hD hs => ?_⟩
      refine ⟨D, _, rfl, sq_of hD, _, _, rfl, rfl, _, rfl, ?_⟩
      have := sum_le lens
      rw [decide_eq_false (show ¬ (2000 : Int) < (ts.map fun t => (t.length : Int)).sum by omega)]
      refine iteF ?_
      have k2 := kH.trans hs
      refine ⟨.ref a, rfl, .ref p, rfl, p, C, dx, [], rfl, k2 _ _ hp, L.cl, L.nt, by decide, ?_⟩
      refine q _ upd_same fun b u nb hb => ?_
      rw [upd_ne nb]
      exact k2 _ _ hb
end
end LawK
set_option linter.all false
set_option maxRecDepth 100000
set_option maxHeartbeats 4000000
/-! Texts in order, what neighbours have in common, and their pieces in order. -/
namespace LawK
abbrev LN := List Nat
theorem ltc {a b : Nat} {x y : LN} : (a :: x < b :: y) ↔ (a < b ∨ a = b ∧ x < y) := List.cons_lt_cons_iff
theorem ltn {x : LN} : ¬ x < ([] : LN) := List.not_lt_nil x
theorem nlc {a : Nat} {x : LN} : ([] : LN) < a :: x := List.nil_lt_cons a x
theorem lirr (x : LN) : ¬ x < x := List.lt_irrefl x
theorem ltr {x y z : LN} (h : x < y) (k : y < z) : x < z := List.lt_trans h k
theorem ltri (x y : LN) : x < y ∨ x = y ∨ y < x := by
  induction x generalizing y with
  | nil => cases y with
    | nil => exact .inr (.inl rfl)
    | cons b y => exact .inl nlc
  | cons a x ih => cases y with
    | nil => exact .inr (.inr nlc)
    | cons b y =>
      rcases Nat.lt_trichotomy a b with h | h | h
      · exact .inl (ltc.mpr (.inl h))
      · subst h
        rcases ih y with k | k | k
        · exact .inl (ltc.mpr (.inr ⟨rfl, k⟩))
        · exact .inr (.inl (by rw [k]))
        · exact .inr (.inr (ltc.mpr (.inr ⟨rfl, k⟩)))
      · exact .inr (.inr (ltc.mpr (.inl h)))
theorem lle {x y z : LN} (h : ¬ y < x) (k : ¬ z < y) : ¬ z < x := fun e => by
  rcases ltri x y with a | a | a
  · exact k (ltr e a)
  · rw [a] at e; exact k e
  · exact h a
theorem llt {x y z : LN} (h : ¬ y < x) (k : y < z) : x < z := by
  rcases ltri x z with a | a | a
  · exact a
  · rw [← a] at k; exact absurd k h
  · exact absurd (ltr k a) h
theorem pre_le {x y : LN} (h : x <+: y) : ¬ y < x := by
  obtain ⟨t, rfl⟩ := h
  induction x with
  | nil => exact ltn
  | cons a x ih =>
    intro e
    rcases ltc.mp e with k | ⟨_, k⟩
    · exact absurd k (Nat.lt_irrefl _)
    · exact ih k
theorem pre_lt {x y : LN} (h : x <+: y) (n : x ≠ y) : x < y := by
  rcases ltri x y with a | a | a
  · exact a
  · exact absurd a n
  · exact absurd a (pre_le h)
theorem between {w x y : LN} (h : ¬ x < w) (k : ¬ y < x) (p : w <+: y) : w <+: x := by
  induction w generalizing x y with
  | nil => exact List.nil_prefix
  | cons c w ih =>
    obtain ⟨t, rfl⟩ := p
    cases x with
    | nil => exact absurd nlc h
    | cons d x =>
      have h1 : ¬ (d < c ∨ d = c ∧ x < w) := fun e => h (ltc.mpr e)
      have k1 : ¬ (c < d ∨ c = d ∧ w ++ t < x) := fun e => k (ltc.mpr e)
      have e : c = d := by omega
      subst e
      exact List.cons_prefix_cons.mpr ⟨rfl, ih (fun z => h1 (.inr ⟨rfl, z⟩)) (fun z => k1 (.inr ⟨rfl, z⟩)) ⟨t, rfl⟩⟩
def lcp : LN → LN → Nat
  | a :: x, b :: y => if a = b then lcp x y + 1 else 0
  | _, _ => 0
theorem lcp_le (x y : LN) : lcp x y ≤ x.length ∧ lcp x y ≤ y.length := by
  induction x generalizing y with
  | nil => exact ⟨Nat.zero_le _, Nat.zero_le _⟩
  | cons a x ih => cases y with
    | nil => exact ⟨Nat.zero_le _, Nat.zero_le _⟩
    | cons b y =>
      show (if a = b then lcp x y + 1 else 0) ≤ x.length + 1 ∧ (if a = b then lcp x y + 1 else 0) ≤ y.length + 1
      have := ih y
      split <;> omega
theorem lcp_take (x y : LN) {m : Nat} (hx : m ≤ x.length) (hy : m ≤ y.length) : x.take m = y.take m ↔ m ≤ lcp x y := by
  induction x generalizing y m with
  | nil =>
    have : m = 0 := by simpa using hx
    subst this
    simp
  | cons a x ih => cases y with
    | nil =>
      have : m = 0 := by simpa using hy
      subst this
      simp
    | cons b y => cases m with
      | zero => simp
      | succ m =>
        have q := ih y (m := m) (by simpa using hx) (by simpa using hy)
        show a :: x.take m = b :: y.take m ↔ m + 1 ≤ (if a = b then lcp x y + 1 else 0)
        rw [List.cons.injEq, q]
        split
        · rename_i e
          exact ⟨fun h => by omega, fun h => ⟨e, by omega⟩⟩
        · rename_i e
          exact ⟨fun h => absurd h.1 e, fun h => by omega⟩
theorem lcp_lt {x y : LN} (h : ¬ y < x) {m : Nat} (l : lcp x y < m) (k : m ≤ y.length) : x < y.take m := by
  induction x generalizing y m with
  | nil => cases y with
    | nil => exact absurd k (by simp; omega)
    | cons b y => cases m with
      | zero => exact absurd l (by omega)
      | succ m => exact nlc
  | cons a x ih => cases y with
    | nil => exact absurd nlc h
    | cons b y => cases m with
      | zero => exact absurd l (by omega)
      | succ m =>
        show a :: x < b :: y.take m
        have l' : (if a = b then lcp x y + 1 else 0) < m + 1 := l
        have h1 : ¬ (b < a ∨ b = a ∧ y < x) := fun e => h (ltc.mpr e)
        by_cases e : a = b
        · rw [if_pos e] at l'
          exact ltc.mpr (.inr ⟨e, ih (fun z => h1 (.inr ⟨e.symm, z⟩)) (by omega) (by simpa using k)⟩)
        · exact ltc.mpr (.inl (by omega))
/-- what the i-th has in common with the one ahead -/
def ln (s : Nat → LN) (i : Nat) : Nat := if i = 0 then 0 else lcp (s (i - 1)) (s i)
theorem ln_le (s : Nat → LN) (i : Nat) : ln s i ≤ (s i).length := by
  unfold ln
  split
  · exact Nat.zero_le _
  · exact (lcp_le _ _).2
/-- the pieces that come first with the i-th -/
def grp (s : Nat → LN) (i : Nat) : List LN := (List.range ((s i).length - ln s i)).map fun k => (s i).take (ln s i + k + 1)
def pcs (s : Nat → LN) (n : Nat) : List LN := (List.range n).flatMap (grp s)
theorem pcs_succ (s : Nat → LN) (n : Nat) : pcs s (n + 1) = pcs s n ++ grp s n := by
  unfold pcs
  rw [List.range_succ, List.flatMap_append]
  simp
def Srt (s : Nat → LN) (n : Nat) : Prop := ∀ i j, i < j → j < n → ¬ s j < s i
theorem Srt.less {s : Nat → LN} {n m : Nat} (h : Srt s n) (l : m ≤ n) : Srt s m := fun i j a b => h i j a (by omega)
theorem grp_mem {s : Nat → LN} {i : Nat} {x : LN} : x ∈ grp s i ↔ x <+: s i ∧ ln s i < x.length := by
  unfold grp
  rw [List.mem_map]
  constructor
  · rintro ⟨k, hk, rfl⟩
    have hk := List.mem_range.mp hk
    exact ⟨List.take_prefix _ _, by rw [List.length_take]; omega⟩
  · rintro ⟨p, l⟩
    have := p.length_le
    refine ⟨x.length - ln s i - 1, List.mem_range.mpr (by omega), ?_⟩
    rw [List.prefix_iff_eq_take.mp p]
    congr 1
    rw [List.length_take]
    omega
theorem pcs_le {s : Nat → LN} {n : Nat} (h : Srt s (n + 1)) {x : LN} (hx : x ∈ pcs s (n + 1)) : ¬ s n < x := by
  unfold pcs at hx
  obtain ⟨i, hi, hm⟩ := List.mem_flatMap.mp hx
  have hi := List.mem_range.mp hi
  have p := pre_le (grp_mem.mp hm).1
  rcases Nat.lt_or_ge i n with l | l
  · exact lle p (h i n l (by omega))
  · rw [show n = i by omega]
    exact p
theorem pcs_asc {s : Nat → LN} {n : Nat} (h : Srt s n) : (pcs s n).Pairwise (· < ·) := by
  induction n with
  | zero => exact List.Pairwise.nil
  | succ n ih =>
    rw [pcs_succ]
    refine List.pairwise_append.mpr ⟨ih (h.less (Nat.le_succ n)), ?_, fun x hx y hy => ?_⟩
    · unfold grp
      refine List.pairwise_map.mpr (List.Pairwise.imp_of_mem (fun {a b} ha hb l => ?_) List.pairwise_lt_range)
      have ha := List.mem_range.mp ha
      have hb := List.mem_range.mp hb
      have e : (s n).take (ln s n + a + 1) = ((s n).take (ln s n + b + 1)).take (ln s n + a + 1) := by
        rw [List.take_take, Nat.min_eq_left (by omega)]
      refine pre_lt (by rw [e]; exact List.take_prefix _ _) fun z => ?_
      have := congrArg List.length z
      rw [List.length_take, List.length_take] at this
      omega
    · obtain ⟨p, l⟩ := grp_mem.mp hy
      cases n with
      | zero => exact absurd hx (by simp [pcs])
      | succ n =>
        have q := pcs_le (h.less (Nat.le_succ _)) hx
        have l2 : lcp (s n) (s (n + 1)) < y.length := l
        have := lcp_lt (h n (n + 1) (by omega) (by omega)) l2 p.length_le
        rw [← List.prefix_iff_eq_take.mp p] at this
        exact llt q this
theorem pcs_mem {s : Nat → LN} {n : Nat} {x : LN} : x ∈ pcs s n ↔ x ≠ [] ∧ ∃ i, i < n ∧ x <+: s i := by
  constructor
  · intro h
    obtain ⟨i, hi, hm⟩ := List.mem_flatMap.mp h
    obtain ⟨p, l⟩ := grp_mem.mp hm
    exact ⟨fun e => by rw [e] at l; exact absurd l (by simp), i, List.mem_range.mp hi, p⟩
  · rintro ⟨ne, i, hi, p⟩
    induction i with
    | zero =>
      refine List.mem_flatMap.mpr ⟨0, List.mem_range.mpr hi, grp_mem.mpr ⟨p, ?_⟩⟩
      have : ln s 0 = 0 := rfl
      rw [this]
      exact List.length_pos_iff.mpr ne
    | succ i ih =>
      by_cases l : ln s (i + 1) < x.length
      · exact List.mem_flatMap.mpr ⟨i + 1, List.mem_range.mpr hi, grp_mem.mpr ⟨p, l⟩⟩
      · have l2 : x.length ≤ lcp (s i) (s (i + 1)) := Nat.le_of_not_lt l
        have q := lcp_le (s i) (s (i + 1))
        have e := (lcp_take (s i) (s (i + 1)) (m := x.length) (by omega) (by omega)).mpr l2
        refine ih (by omega) ?_
        rw [List.prefix_iff_eq_take.mp p]
        have : ((s (i + 1)).take x.length).length = x.length := by rw [List.length_take]; omega
        rw [← e]
        exact List.take_prefix _ _
theorem pcs_pre (s : Nat → LN) {m n : Nat} (h : m ≤ n) : pcs s m <+: pcs s n := by
  induction n with
  | zero =>
    rw [show m = 0 by omega]
    exact List.prefix_rfl
  | succ n ih =>
    rcases Nat.lt_or_ge m (n + 1) with l | l
    · rw [pcs_succ]
      exact (ih (by omega)).trans (List.prefix_append _ _)
    · rw [show m = n + 1 by omega]
      exact List.prefix_rfl
theorem pcs_at (s : Nat → LN) {n i k : Nat} (h : i < n) (l : k < (s i).length - ln s i) : (pcs s n)[(pcs s i).length + k]? = some ((s i).take (ln s i + k + 1)) := by
  obtain ⟨t, ht⟩ := pcs_pre s (show i + 1 ≤ n from h)
  rw [← ht, pcs_succ, List.append_assoc, List.getElem?_append_right (Nat.le_add_right _ _), Nat.add_sub_cancel_left]
  have lg : (grp s i).length = (s i).length - ln s i := by unfold grp; rw [List.length_map, List.length_range]
  rw [List.getElem?_append_left (by rw [lg]; exact l)]
  unfold grp
  rw [List.getElem?_map, List.getElem?_range l]
  rfl
theorem pcs_len (s : Nat → LN) (n : Nat) : (pcs s (n + 1)).length = (pcs s n).length + ((s n).length - ln s n) := by
  rw [pcs_succ, List.length_append]
  unfold grp
  rw [List.length_map, List.length_range]
/-- how many are less than w -/
def cntLt (s : Nat → LN) (w : LN) (n : Nat) : Nat := ((List.range n).filter fun i => decide (s i < w)).length
theorem cnt_down {s : Nat → LN} {n : Nat} (h : Srt s n) (w : LN) : cntLt s w n ≤ n ∧ ∀ i, i < n → (s i < w ↔ i < cntLt s w n) := by
  induction n with
  | zero => exact ⟨Nat.le_refl _, fun i h => absurd h (by omega)⟩
  | succ n ih =>
    obtain ⟨l, q⟩ := ih (h.less (Nat.le_succ n))
    have e : cntLt s w (n + 1) = cntLt s w n + (if s n < w then 1 else 0) := by
      unfold cntLt
      rw [List.range_succ, List.filter_append, List.length_append]
      congr 1
      by_cases z : s n < w <;> simp [z]
    by_cases z : s n < w
    · rw [if_pos z] at e
      have all : cntLt s w n = n := by
        rcases Nat.lt_or_ge (cntLt s w n) n with g | g
        · have : ¬ s (cntLt s w n) < w := fun z => Nat.lt_irrefl _ ((q _ g).mp z)
          exact absurd (llt (h _ n g (by omega)) z) this
        · omega
      refine ⟨by omega, fun i hi => ?_⟩
      rcases Nat.lt_or_ge i n with g | g
      · exact ⟨fun _ => by omega, fun _ => (q i g).mpr (by omega)⟩
      · rw [show i = n by omega]
        exact ⟨fun _ => by omega, fun _ => z⟩
    · rw [if_neg z] at e
      refine ⟨by omega, fun i hi => ?_⟩
      rcases Nat.lt_or_ge i n with g | g
      · rw [e]; exact q i g
      · rw [show i = n by omega]
        exact ⟨fun y => absurd y z, fun y => by omega⟩
/-- the number of a piece -/
theorem pcs_no {s : Nat → LN} {n : Nat} (h : Srt s n) {w : LN} (ne : w ≠ []) {i : Nat} (hi : i < n) (p : w <+: s i) :
    cntLt s w n < n ∧ ln s (cntLt s w n) < w.length ∧ w.length ≤ (s (cntLt s w n)).length ∧ (pcs s n)[(pcs s (cntLt s w n)).length + (w.length - ln s (cntLt s w n) - 1)]? = some w := by
  obtain ⟨l, q⟩ := cnt_down h w
  have ni : ¬ i < cntLt s w n := fun z => pre_le p ((q i hi).mpr z)
  have lt : cntLt s w n < n := by omega
  have nf : ¬ s (cntLt s w n) < w := fun z => Nat.lt_irrefl _ ((q _ lt).mp z)
  have pf : w <+: s (cntLt s w n) := by
    rcases Nat.lt_or_ge (cntLt s w n) i with g | g
    · exact between nf (h _ _ g hi) p
    · rw [show cntLt s w n = i by omega]; exact p
  have lnf : ln s (cntLt s w n) < w.length := by
    rcases Nat.eq_zero_or_pos (cntLt s w n) with z | z
    · rw [z]; exact List.length_pos_iff.mpr ne
    · refine Nat.lt_of_not_le fun c => ?_
      have e : ln s (cntLt s w n) = lcp (s (cntLt s w n - 1)) (s (cntLt s w n)) := by
        unfold ln
        rw [if_neg (by omega)]
      rw [e] at c
      have ll := lcp_le (s (cntLt s w n - 1)) (s (cntLt s w n))
      have tk := (lcp_take (s (cntLt s w n - 1)) (s (cntLt s w n)) (m := w.length) (by omega) (by omega)).mpr c
      have pw : w <+: s (cntLt s w n - 1) := by
        have tp : (s (cntLt s w n - 1)).take w.length <+: s (cntLt s w n - 1) := List.take_prefix _ _
        rw [tk, ← List.prefix_iff_eq_take.mp pf] at tp
        exact tp
      exact pre_le pw ((q _ (by omega)).mpr (by omega))
  refine ⟨lt, lnf, pf.length_le, ?_⟩
  have := pf.length_le
  rw [pcs_at s lt (by omega)]
  rw [show ln s (cntLt s w n) + (w.length - ln s (cntLt s w n) - 1) + 1 = w.length by omega]
  exact congrArg some (List.prefix_iff_eq_take.mp pf).symm
end LawK
set_option maxHeartbeats 4000000
namespace Ev
open PySem PySem.Spec PyProof.Rows L2
/-! sets of keys of one kind whose table can be walked -/
section
variable {P : Program} {w : World} {K : Type} [DecidableEq K]
/-- no two of them are one key -/
def Apart (κ : KeyKind P w K) (l : List (Int × Value)) : Prop := l.Pairwise fun e f => ∀ k, κ.is k e.2 = true → κ.is k f.2 = true → False
/-- the set at a, S its members, n their number; its table rises and can be walked -/
def SetG (κ : KeyKind P w K) (h : Heap) (a : Addr) (S : K → Bool) (n : Nat) : Prop :=
  ∃ o es ep t, h.get? a = some o ∧ (o.ExactSet ∧ o.data = .set es ep t) ∧ (ElemsOf κ es.toList ∧ Apart κ es.toList) ∧ (∀ k, S k = true ↔ ∃ e ∈ es.toList, κ.is k e.2 = true) ∧ (es.size < scanBound ∧ t.fits es.size = true ∧ es.size = n) ∧ (Ris t.place.toList ∧ (w.params.followText "set-order" = true ∨ t.led = true))
variable {κ : KeyKind P w K} {h h' : Heap} {a : Addr} {S : K → Bool} {n : Nat}
theorem SetG.keep (R : SetG κ h a S n) (k : ∀ o, h.get? a = some o → h'.get? a = some o) : SetG κ h' a S n := let ⟨o, es, ep, t, ho, r⟩ := R; ⟨o, es, ep, t, k o ho, r⟩
theorem SetG.of (R : SetG κ h a S n) : h.SetOf κ a S n := let ⟨o, es, ep, t, ho, x, g, m, b, _⟩ := R; ⟨o, es, ep, t, ho, x.1, x.2, g.1, m, b⟩
theorem Apart.perm {l m : List (Int × Value)} (p : l.Perm m) (x : Apart κ l) : Apart κ m := List.Perm.pairwise p x fun {e f} q k h1 h2 => q k h2 h1
variable {A : Around} {E : Value → Shared → Prop} {s : Shared}
theorem setG_tail {g : Bool → Sem Unit} (gg : ∀ (b : Bool) (z : Shared) (W : Unit → Shared → Prop), W () z → wpAny (model P w) A (g b) W E z)
    {o : Obj} {es fs : Array (Int × Value)} {ep : Nat} {t u : SetTable} (ho : s.heap.get? a = some o) (xs : o.ExactSet) (hd : o.data = .set es ep t) (g1 : ElemsOf κ fs.toList) (n1 : Apart κ fs.toList) (m1 : ∀ k, S k = true ↔ ∃ e ∈ fs.toList, κ.is k e.2 = true)
    (b1 : fs.size < scanBound) (f1 : u.fits fs.size = true) (r1 : Ris u.place.toList) (l1 : w.params.followText "set-order" = true ∨ u.led = true) {wd : Bool} {R : Option Bool → Shared → Prop}
    (fin : ∀ z, Heap.SameBut a s.heap z → SetG κ z a S fs.size → R (some true) { s with heap := z }) :
    wpAny (model P w) A (storeSet a fs u >>= fun _ => if (!wd && u.tooFull) = true then (g (relayAll u fs (SetTable.grown fs.size)).2.2 >>= fun _ => storeSet a (relayAll u fs (SetTable.grown fs.size)).1 (relayAll u fs (SetTable.grown fs.size)).2.1 >>= fun _ => pure (some true)) else pure (some true)) R E s := by
  have put : ∀ {z : Heap} {o : Obj} {es : Array (Int × Value)} {ep : Nat} {t : SetTable} (fs : Array (Int × Value)) (u : SetTable), z.get? a = some o → o.data = .set es ep t → (z.update a (Obj.putSet fs u)).get? a = some { o with data := .set fs (ep + 1) u } := fun {z o es ep t} fs u e d => by
    have q := Heap.get?_update_self (Obj.putSet fs u) e (by rw [putSet_of fs u d] <;> rfl); rw [putSet_of fs u d] at q; exact q
  refine wpAny_bind (wpAny_storeSet_of ho hd ?_ (fits_of_scanBound b1))
  have o1 := put fs u ho hd
  have s1 := Heap.SameBut.update s.heap a (Obj.putSet fs u)
  split
  · have p2 := relayAll_perm u fs (SetTable.grown fs.size); have f2 := relayAll_fits u fs (SetTable.grown fs.size)
    have r2 := relayAll_ris u fs (SetTable.grown fs.size); have l2 := relayAll_led u fs (SetTable.grown fs.size)
    revert p2 f2 r2 l2
    generalize relayAll u fs (SetTable.grown fs.size) = Z
    obtain ⟨gs, v, gv⟩ := Z
    intro p2 f2 r2 l2; dsimp only at p2 f2 r2 l2 ⊢
    have sz : gs.size = fs.size := by have := p2.length_eq; rw [Array.length_toList, Array.length_toList] at this; exact this
    refine wpAny_bind (gg _ _ _ (wpAny_bind (wpAny_storeSet_of o1 rfl ?_ (fits_of_scanBound (by rw [sz] <;> exact b1)))))
    refine wpAny_pure (fin _ (s1.trans (Heap.SameBut.update _ a _)) ⟨_, gs, _, v, put gs v o1 rfl, ⟨xs, rfl⟩, ⟨fun e q => g1 e (p2.mem_iff.mp q), Apart.perm p2.symm n1⟩, fun k => (m1 k).trans ⟨fun ⟨e, q, z⟩ => ⟨e, p2.mem_iff.mpr q, z⟩, fun ⟨e, q, z⟩ => ⟨e, p2.mem_iff.mp q, z⟩⟩, ⟨by rw [sz] <;> exact b1, f2, sz⟩, r2, l1.imp id fun z => l2.trans z⟩)
  · exact wpAny_pure (fin _ s1 ⟨_, fs, _, u, o1, ⟨xs, rfl⟩, ⟨g1, n1⟩, m1, ⟨b1, f1, rfl⟩, r1, l1⟩)
theorem setG_hashed {k : K} {v : Value} {Q : Bool → Shared → Prop} (hv : κ.is k v = true) (sc : v.scannable = true) (R : SetG κ s.heap a S n) (room : n + 1 < scanBound)
    (q : ∀ z, Heap.SameBut a s.heap z → SetG κ z a (fun j => S j || decide (j = k)) (if S k = true then n else n + 1) → Q (!S k) { s with heap := z }) :
    wpAny (model P w) A (setAddHashed a v (κ.hash k)) Q E s := by
  obtain ⟨o, es, ep, t, ho, ⟨xs, hd⟩, ⟨hel, nd⟩, hm, ⟨hb, hf, hn⟩, hr, hl⟩ := R
  unfold setAddHashed; unfold setAddHashedIn
  refine wpAny_holding (wpAny_bind (wpAny_setState_of ho hd hf ?_)); dsimp only
  rw [byScan_of sc hb hel]; simp only [↓reduceIte]
  unfold setAddByScan
  refine wpAny_bind (wpAny_bind (wpAny_rule (wpAny_bind (wpAny_setScan_of hv ho hd hf hel ?_))))
  cases hfi : List.findIdx? (fun e => κ.is k e.2) es.toList with
  | some j =>
    dsimp only
    obtain ⟨hj, pj, _⟩ := List.findIdx?_eq_some_iff_getElem.mp hfi
    have hk : S k = true := (hm k).mpr ⟨es.toList[j], List.getElem_mem hj, pj⟩
    have q1 := q s.heap (Heap.SameBut.refl a s.heap) ⟨o, es, ep, t, ho, ⟨xs, hd⟩, ⟨hel, nd⟩, fun i => by
      rw [Bool.or_eq_true, decide_eq_true_eq, ← hm i]; exact ⟨fun z => z.elim id fun e => by rw [e] <;> exact hk, .inl⟩, ⟨hb, hf, by rw [if_pos hk] <;> exact hn⟩, hr, hl⟩
    rw [hk] at q1; exact wpAny_pure (wpAny_pure q1)
  | none =>
    dsimp only
    have nk : ∀ e ∈ es.toList, κ.is k e.2 = true → False := fun e he z => by
      have c := List.findIdx?_eq_none_iff.mp hfi e he; rw [z] at c; cases c
    have hk : S k = false := Bool.eq_false_iff.mpr fun z => let ⟨e, he, y⟩ := (hm k).mp z; nk e he y
    have gw : ∀ (b : Bool) {z : Shared} {W : Unit → Shared → Prop}, W () z → wpAny (model P w) A (match b with | true => rule "set.scan.the-table-gave-way" | false => pure ()) W E z := fun b {z W} y => by cases b <;> first | exact wpAny_pure y | exact wpAny_rule y
    have pm := layNew_perm t es (κ.hash k) v; have f1 := layNew_fits t es (κ.hash k) v
    have r1 := layNew_ris t es (κ.hash k) v hr; have l1 := layNew_led t es (κ.hash k) v
    revert pm f1 r1 l1
    generalize layNew t es (κ.hash k) v = Z
    obtain ⟨fs, u, wd, gv⟩ := Z
    intro pm f1 r1 l1; dsimp only at pm f1 r1 l1 ⊢
    rw [Array.toList_push] at pm
    have pc : fs.toList.Perm ((κ.hash k, v) :: es.toList) := pm.trans (List.perm_append_singleton _ _)
    have g1 : ElemsOf κ fs.toList := fun e he => by
      rcases List.mem_cons.mp (pc.mem_iff.mp he) with z | z
      · rw [z]; exact ⟨⟨k, hv, rfl⟩, sc⟩
      · exact hel e z
    have n1 : Apart κ fs.toList := Apart.perm pc.symm (List.pairwise_cons.mpr ⟨fun e he j x y => nk e he (by rw [← κ.inj v j k x hv] <;> exact y), nd⟩)
    have m1 : ∀ i, (S i || decide (i = k)) = true ↔ ∃ e ∈ fs.toList, κ.is i e.2 = true := fun i => by
      rw [Bool.or_eq_true, decide_eq_true_eq, hm i]
      constructor
      · rintro (⟨e, he, y⟩ | y)
        · exact ⟨e, pc.mem_iff.mpr (List.mem_cons_of_mem _ he), y⟩
        · exact ⟨_, pc.mem_iff.mpr List.mem_cons_self, by rw [y] <;> exact hv⟩
      · rintro ⟨e, he, y⟩
        rcases List.mem_cons.mp (pc.mem_iff.mp he) with z | z
        · rw [z] at y; exact .inr (κ.inj v i k y hv)
        · exact .inl ⟨e, z, y⟩
    have sz : fs.size = n + 1 := by have := pc.length_eq; rw [Array.length_toList, List.length_cons, Array.length_toList, hn] at this; exact this
    have b1 : fs.size < scanBound := by rw [sz] <;> exact room
    have ld : w.params.followText "set-order" = true ∨ u.led = true := hl.imp id fun z => l1.trans z
    have fin : ∀ z, Heap.SameBut a s.heap z → SetG κ z a (fun j => S j || decide (j = k)) fs.size → Q true { s with heap := z } := fun z sb r => by
      have q1 := q z sb; rw [hk] at q1; rw [sz] at r; exact q1 r
    have last : ∀ {u' : SetTable} {R : Option Bool → Shared → Prop} {g : Bool → Sem Unit}, (∀ (b : Bool) (z : Shared) (W : Unit → Shared → Prop), W () z → wpAny (model P w) A (g b) W E z) → u'.fits fs.size = true → Ris u'.place.toList → (w.params.followText "set-order" = true ∨ u'.led = true) → (∀ z, Heap.SameBut a s.heap z → SetG κ z a (fun j => S j || decide (j = k)) fs.size → R (some true) { s with heap := z }) → _ := fun {u' R g} gg a1 a2 a3 a4 => setG_tail (κ := κ) (wd := wd) (A := A) (E := E) (s := s) (R := R) gg ho xs hd g1 n1 m1 b1 a1 a2 a3 a4
    refine wpAny_bind (gw _ ?_)
    split
    · rw [hashByValue_scannable 8 sc]
      refine wpAny_bind (wpAny_pure (last ?_ ?_ ?_ ?_ ?_))
      · intro b z W y; cases b <;> first | exact wpAny_pure y | exact wpAny_rule y
      · first | (split <;> first | exact f1 | exact SetTable.fits_plain_off f1) | exact f1
      · first | (split <;> exact r1) | exact r1
      · first | (split <;> exact ld) | exact ld
      · intro z sb r; dsimp only; exact wpAny_pure (fin z sb r)
    · refine wpAny_bind (wpAny_pure ?_); simp only [↓reduceIte]
      refine last ?_ f1 r1 ld ?_
      · intro b z W y; cases b <;> first | exact wpAny_pure y | exact wpAny_rule y
      · intro z sb r; dsimp only; exact wpAny_pure (fin z sb r)
end
end Ev
set_option maxHeartbeats 4000000
namespace Ev
open PySem PySem.Spec PyProof.Rows L2
/-- one turn of a block's loop: the next thing, its store, the tests, then the body -/
def oneTurn (c : Code) (ip : Pos) (tg : Expr) (ifs : List Expr) (it : Value) (env : Env) (body : Sem PySem.Fin) : Sem PySem.Fin := standAt ip >>= fun _ => pyNext it >>= fun r => match r with
  | none => pure (.done .next)
  | some v => letOwnedTupleGo tg it v >>= fun _ => assign tg env v >>= fun _ => (forIn ifs true fun c r => if r = true then (do let ok ← isTrue c env (eval c env); pure (ForInStep.yield ok)) else pure (ForInStep.yield r)) >>= fun ok => if ok = true then body else again c
theorem turn_set1 (elt tg iter : Expr) (ifs : List Expr) (scope : Scope) (pos : Pos) (it acc : Value) (env : Env) :
    compTurn (.SetComp elt [⟨tg, iter, ifs, 0⟩] scope pos) 0 it acc env = oneTurn (.compLoop (.SetComp elt [⟨tg, iter, ifs, 0⟩] scope pos) 0 it acc env) iter.pos tg ifs it env ((eval elt env >>= fun v => standAt elt.pos >>= fun _ => call (.builtin "set.add") [acc, v] >>= fun _ => pure ()) >>= fun _ => again (.compLoop (.SetComp elt [⟨tg, iter, ifs, 0⟩] scope pos) 0 it acc env)) := by
  unfold oneTurn
  rfl
theorem turn_set2i (elt t0 i0 t1 i1 : Expr) (ifs0 ifs1 : List Expr) (scope : Scope) (pos : Pos) (it acc : Value) (env : Env) :
    compTurn (.SetComp elt [⟨t0, i0, ifs0, 0⟩, ⟨t1, i1, ifs1, 0⟩] scope pos) 1 it acc env = oneTurn (.compLoop (.SetComp elt [⟨t0, i0, ifs0, 0⟩, ⟨t1, i1, ifs1, 0⟩] scope pos) 1 it acc env) i1.pos t1 ifs1 it env ((eval elt env >>= fun v => standAt elt.pos >>= fun _ => call (.builtin "set.add") [acc, v] >>= fun _ => pure ()) >>= fun _ => again (.compLoop (.SetComp elt [⟨t0, i0, ifs0, 0⟩, ⟨t1, i1, ifs1, 0⟩] scope pos) 1 it acc env)) := by
  unfold oneTurn
  rfl
theorem turn_set2o (elt t0 i0 t1 i1 : Expr) (ifs0 ifs1 : List Expr) (scope : Scope) (pos : Pos) (it acc : Value) (env : Env) :
    compTurn (.SetComp elt [⟨t0, i0, ifs0, 0⟩, ⟨t1, i1, ifs1, 0⟩] scope pos) 0 it acc env = oneTurn (.compLoop (.SetComp elt [⟨t0, i0, ifs0, 0⟩, ⟨t1, i1, ifs1, 0⟩] scope pos) 0 it acc env) i0.pos t0 ifs0 it env
      (eval i1 env >>= fun x => standAt i1.pos >>= fun _ => foldedSetIterable i1 env x >>= fun x => holding [x] (pyIter x) >>= fun j => runOwn (.compStart (.SetComp elt [⟨t0, i0, ifs0, 0⟩, ⟨t1, i1, ifs1, 0⟩] scope pos) 1 j acc env) env >>= fun _ => again (.compLoop (.SetComp elt [⟨t0, i0, ifs0, 0⟩, ⟨t1, i1, ifs1, 0⟩] scope pos) 0 it acc env)) := by
  unfold oneTurn
  rfl
section
variable {Y : Cx} {e : Expr} {ci : Nat} {it : Addr} {acc : Value} {ip : Pos} {tg : Expr} {ifs : List Expr} {body : Sem PySem.Fin} {J : It} {fp : List Addr} {tn : Nat → Heap → Prop} {R : Result → Shared → Prop} {pins : List (Addr × Obj)} {σ : L2.St} {vs : List Nat} {g : TG} {tt : TT}
/-- what a body says of the slots: those that were wiped may be anything -/
def Slots (σ τ : L2.St) (vs : List Nat) : Prop := τ.length = σ.length ∧ ∀ (j : Nat) v, (wipe σ vs)[j]? = some (some v) → τ[j]? = some (some v)
/-- a block's loop over what is walked: W at each turn, and the body's own word B -/
theorem loop_any (B : L2.St → Hp → (Hp → Prop) → Prop) (hden : (model Y.prog Y.w).den (.compLoop e ci (.ref it) acc Y.env) = (oneTurn (.compLoop e ci (.ref it) acc Y.env) ip tg ifs (.ref it) Y.env body).onRaise (fun x => do noteFrame x Y.env; theTreesLotGoes x))
    (hu : Y.A.under (.compLoop e ci (.ref it) acc Y.env) = Y.A) (hq : (Code.compLoop e ci (.ref it) acc Y.env).quiet = true) (hc : Y.calm = true) (T : Turn Y.prog Y.w Y.K tg J fp it tn) (pg : PG Y tg g) (pt : PTs Y ifs tt) (hA : ∀ x s, ¬ Y.xe x s)
    (hb : ∀ (pins' : List (Addr × Obj)) s τ H (N : Hp → Prop), (∀ p ∈ pins, p ∈ pins') → Inv Y pins' τ H s → B τ H N → wpAny (model Y.prog Y.w) Y.A body (fun r s' => r = .again (.compLoop e ci (.ref it) acc Y.env) ∧ ∃ τ' H', Inv Y pins' τ' H' s' ∧ Slots τ τ' vs ∧ N H') Y.xe s)
    (fok : ∀ {H : Hp}, (∀ b ∈ fp, H b = none) → ∀ b ∈ fp, FpOk Y pins H b) (W : Nat → Nat → Hp → Prop) (F : Hp → Prop)
    (turn : ∀ i m H, W i m H → (J.stop i H ∧ F H) ∨ (J.go i H ∧ ∃ N : Hp → Prop, (∀ H', N H' → ∃ m', m' < m ∧ W (i + 1) m' H') ∧ ∀ x H', J.yld i H x H' → g x (wipe σ vs) H' fun σ2 H2 => wipe σ2 vs = wipe σ vs ∧ tt σ2 H2 fun b H3 => if b = true then B σ2 H3 N else N H3))
    (fin : ∀ s' H', Inv Y pins (wipe σ vs) H' s' → F H' → R (.ok .next) s') (m0 : Nat) (s : Shared) (H : Hp) (w0 : W 0 m0 H) (I : Inv Y pins (wipe σ vs) H s) (t0 : tn 0 s.heap) (n0 : ∀ b ∈ fp, H b = none) :
    codeAny (model Y.prog Y.w) Y.A (.compLoop e ci (.ref it) acc Y.env) R s := by
  have th : ∀ {α : Type} {t : Sem α} {Q Q' : α → Shared → Prop} {E : Value → Shared → Prop} {s : Shared}, wpAny (model Y.prog Y.w) Y.A t Q Y.xe s → (∀ a s, Q a s → Q' a s) → wpAny (model Y.prog Y.w) Y.A t Q' E s := fun h q => wpAny_mono h q fun x s z => (hA x s z).elim
  refine codeAny_loop hq (fun m s' => ∃ i H', W i m H' ∧ Inv Y pins (wipe σ vs) H' s' ∧ tn i s'.heap ∧ ∀ b ∈ fp, H' b = none) (fun m s1 hI => ?_) m0 ⟨0, H, w0, I, t0, n0⟩
  obtain ⟨i, H1, w1, I1, t1, n1⟩ := hI
  rw [hden, hu]
  refine wpAny_noted ?_
  unfold oneTurn
  refine wpAny_bind (wpAny_standAt (wpAny_bind ?_))
  rcases turn i m H1 w1 with ⟨stop, f1⟩ | ⟨go, N, hN, step⟩
  · refine thnF (T.done Y rfl rfl rfl hc i pins s1 _ H1 (fun _ _ => False) I1 (fok n1) t1 stop) fun r s2 ⟨er, I2⟩ => ?_
    subst er
    exact wpAny_pure (fin s2 H1 I2 f1)
  · refine thnF (T.item Y rfl rfl rfl hc i pins s1 _ H1 (fun _ _ => False) I1 (fok n1) t1 go) fun r s2 ⟨u, er, h2⟩ => ?_
    subst er
    refine wpAny_bind (thnF h2 fun _ s3 ⟨x, H3, I3, r3, y3, t3, n3⟩ => wpAny_bind ?_)
    have J3 := I3.pinned (fok n3) (T.obj _ _ t3)
    refine th (pg.run _ s3 _ H3 x u _ J3 r3 (step x H3 y3)) fun _ s4 ⟨τ, H4, I4, e4, q4⟩ => wpAny_bind ?_
    refine th (pt.run _ s4 τ H4 _ I4 q4) fun b s5 ⟨H5, I5, q5⟩ => ?_
    have back : ∀ {τ' : L2.St} {s' : Shared} {H' : Hp}, Inv Y (pins ++ pinsAt fp s3.heap) τ' H' s' → Slots τ τ' vs → N H' → ∃ m', m' < m ∧ ∃ i H', W i m' H' ∧ Inv Y pins (wipe σ vs) H' s' ∧ tn i s'.heap ∧ ∀ b ∈ fp, H' b = none := fun {τ' s' H'} I' sl nx => by
      obtain ⟨m', lm, w'⟩ := hN H' nx
      have pin : ∀ b ∈ fp, ∀ o, s3.heap.get? b = some o → s'.heap.get? b = some o ∧ H' b = none := fun b hb o eo => let z := I'.pin (b, o) (List.mem_append_right _ (List.mem_append_right _ (mem_pinsAt hb eo))); ⟨z.1, z.2.1⟩
      refine ⟨m', lm, i + 1, H', w', I'.unpinned.weak ?_ (fun j v ev => sl.2 j v (by rw [e4] <;> exact ev)), T.keep _ _ _ t3 fun b hb o eo => (pin b hb o eo).1, fun b hb => ?_⟩
      · rw [sl.1, ← wipe_length τ vs, e4] <;> rfl
      · obtain ⟨o, eo, _⟩ := T.obj _ _ t3 b hb
        exact (pin b hb o eo).2
    cases b with
    | false =>
      simp only [Bool.false_eq_true, if_false] at q5 ⊢
      exact wpAny_pure ⟨rfl, back I5 ⟨rfl, fun j v ev => (wipe_some ev).1⟩ q5⟩
    | true =>
      simp only [if_true] at q5 ⊢
      exact th (hb _ s5 τ H5 N (fun p hp => List.mem_append_left _ hp) I5 q5) fun r s6 ⟨er, τ', H6, I6, sl, q6⟩ => by subst er; exact ⟨rfl, back I6 sl q6⟩
end
end Ev
set_option maxHeartbeats 4000000
namespace Ev
open PySem PySem.Spec PyProof.Rows L2
theorem setG_add {P : Program} {w : World} {K : Type} [DecidableEq K] {κ : KeyKind P w K} {A : Around} {E : Value → Shared → Prop} {s : Shared} {a : Addr} {S : K → Bool} {n : Nat} {k : K} {v : Value} {Q : Value → Shared → Prop} (hv : κ.is k v = true) (sc : v.scannable = true) (R : SetG κ s.heap a S n) (room : n + 1 < scanBound)
    (q : ∀ z, Heap.SameBut a s.heap z → SetG κ z a (fun j => S j || decide (j = k)) (if S k = true then n else n + 1) → Q .none { s with heap := z, toks := s.toks + 1 }) : wpAny (model P w) A (call (.builtin "set.add") [.ref a, v]) Q E s := by
  refine wpAny_call_entry F.slot_set_add R.of.typeIs F.entry_set_add ?_ (F.args_set_add_2 _ _)
  unfold Builtin.«set.add»; unfold Builtin.Frozenset.oneOther
  simp only [List.isEmpty_nil, bind_assoc]; unfold Builtin.Frozenset.addrOf; unfold setAdd
  refine wpAny_bind (wpAny_pure ?_); try dsimp only
  refine wpAny_bind (wpAny_pure ?_); try dsimp only
  refine wpAny_bind (wpAny_holding (wpAny_bind (κ.pyHash hv (setG_hashed (s := { s with toks := s.toks + 1 }) hv sc R room fun z sb r => ?_))))
  show wpAny _ _ (ret Value.none) _ _ _; exact wpAny_pure ⟨_, rfl, q z sb r⟩
/-- the set of keys at a, that can be walked -/
def SetX (P : Program) (w : World) (a : Addr) (S : Key → Bool) (n : Nat) : HO := .ext fun h => SetG (mixKind P w) h a S n
theorem setX_new {P : Program} {w : World} {H : Hp} {h : Heap} {a : Addr} {S : Key → Bool} {n : Nat} (R : SetG (mixKind P w) h a S n) : ObjOk P w H h a (SetX P w a S n) := by
  have ⟨o, _, _, _, ho, _⟩ := R
  exact ⟨R, ⟨o, ho⟩, fun h1 h2 p k => SetG.keep p k⟩
/-- the set with one more -/
def put1 (P : Program) (w : World) (D : Addr) (S : Key → Bool) (n : Nat) (k : Key) : HO := SetX P w D (fun j => S j || decide (j = k)) (if S k = true then n else n + 1)
section
variable {X : Cx} {pins : List (Addr × Obj)} {σ : L2.St} {H : Hp} {s : Shared}
theorem setX_get {a : Addr} {S : Key → Bool} {n : Nat} (I : Inv X pins σ H s) (ha : H a = some (SetX X.prog X.w a S n)) : SetG (mixKind X.prog X.w) s.heap a S n := (I.hok a _ ha).1
/-- set.add of a key -/
theorem addX_ok {E : Value → Shared → Prop} {D : Addr} {S : Key → Bool} {n : Nat} {k : Key} {v : Value} {Q : Value → Shared → Prop} (I : Inv X pins σ H s) (r : RelV (kV k) v) (hD : H D = some (SetX X.prog X.w D S n)) (room : n + 1 < scanBound)
    (h : ∀ s', Inv X pins σ (upd H D (put1 X.prog X.w D S n k)) s' → Q .none s') : wpAny (model X.prog X.w) X.A (call (.builtin "set.add") [.ref D, v]) Q E s := by
  refine setG_add (kV_is r) (key_scan r) (setX_get I hD) room fun z sb new => ?_
  have ⟨o, _, _, _, ho, _⟩ := new
  exact h _ (I.write (e := D) (t' := s.toks + 1) (by rw [hD] <;> trivial) (.inl rfl) (fun b u hb hu => (sb.2 b hb).trans hu) ⟨o, ho⟩ (setX_new new))
end
/-- what a body asks that puts one key more into D -/
def bAdd (P : Program) (w : World) (D : Addr) (te : TE) : L2.St → Hp → (Hp → Prop) → Prop := fun τ H N => te τ H fun y H4 => ∃ (k : Key) (S : Key → Bool) (n : Nat), y = kV k ∧ H4 D = some (SetX P w D S n) ∧ n + 1 < scanBound ∧ N (upd H4 D (put1 P w D S n k))
theorem body_add {Y : Cx} {elt : Expr} {te : TE} {c : Code} {D : Addr} {vs : List Nat} (pe : PE Y elt te) (pins' : List (Addr × Obj)) (s : Shared) (τ : L2.St) (H : Hp) (N : Hp → Prop) (I : Inv Y pins' τ H s) (h : bAdd Y.prog Y.w D te τ H N) :
    wpAny (model Y.prog Y.w) Y.A ((eval elt Y.env >>= fun v => standAt elt.pos >>= fun _ => call (.builtin "set.add") [.ref D, v] >>= fun _ => pure ()) >>= fun _ => again c) (fun r s' => r = .again c ∧ ∃ τ' H', Inv Y pins' τ' H' s' ∧ Slots τ τ' vs ∧ N H') Y.xe s := by
  refine wpAny_bind (wpAny_bind (thn (pe.run pins' s τ H _ I h) fun v s1 ⟨y, H1, I1, r1, k, S, n, ey, hD, room, nx⟩ => wpAny_bind (wpAny_standAt (wpAny_bind ?_))))
  subst ey
  exact addX_ok I1 r1 hD room fun s2 I2 => wpAny_pure (wpAny_pure ⟨rfl, τ, _, I2, ⟨rfl, fun j v e => (wipe_some e).1⟩, nx⟩)
/-- over anything that is walked -/
theorem wk {J : It} {n : Nat} {G : Hp → Prop} {Y : Nat → Hp → V → Hp → Prop} (w : Walk J n G Y) {F : Hp → Prop} {H0 : Hp} {T : V → Hp → (Hp → Prop) → Prop} (Pv : Nat → Hp → Prop) (h0 : Pv 0 H0) (hG : ∀ i H, i ≤ n → Pv i H → G H)
    (hs : ∀ i x H H', i < n → Pv i H → Y i H x H' → T x H' (Pv (i + 1))) (hd : ∀ H, Pv n H → F H) :
    ∃ W : Nat → Nat → Hp → Prop, (∃ m, W 0 m H0) ∧ ∀ i m H, W i m H → (J.stop i H ∧ F H) ∨ (J.go i H ∧ ∃ N : Hp → Prop, (∀ H', N H' → ∃ m', m' < m ∧ W (i + 1) m' H') ∧ ∀ x H', J.yld i H x H' → T x H' N) := by
  refine ⟨fun i m H => i ≤ n ∧ m + i = n ∧ Pv i H, ⟨n, Nat.zero_le _, rfl, h0⟩, fun i m H ⟨hi, em, p⟩ => ?_⟩
  rcases Nat.lt_or_ge i n with hlt | hge
  · exact .inr ⟨w.goes i H hlt (hG i H hi p), Pv (i + 1), fun H' p' => ⟨m - 1, by omega, hlt, by omega, p'⟩, fun x H' y => hs i x H H' hlt p (w.yields i H x H' hlt (hG i H hi p) y)⟩
  · obtain rfl : i = n := Nat.le_antisymm hi hge
    exact .inl ⟨w.stops H (hG i H hi p), hd H p⟩
end Ev
set_option maxHeartbeats 4000000
namespace Ev
open PySem PySem.Spec PyProof.Rows L2
/-- an empty set, new at the heap's end -/
abbrev emptyS (w : World) : Obj := { cls := .type "set", dict := none, data := .set #[] 0 (.fresh 0 0 (!w.params.followText "set-order")) }
theorem setG_new {P : Program} {w : World} {K : Type} [DecidableEq K] {κ : KeyKind P w K} {h : Heap} : SetG κ (h.push (emptyS w)) h.objs.size (fun _ => false) 0 := by
  refine ⟨_, #[], 0, _, Heap.get?_push_size _ rfl, ⟨⟨rfl, rfl, rfl⟩, rfl⟩, ⟨fun e he => by simp at he, List.Pairwise.nil⟩, fun k => by simp, ⟨by decide, by rfl, rfl⟩, List.Pairwise.nil, ?_⟩
  show _ ∨ (!w.params.followText "set-order") = true
  cases w.params.followText "set-order" with
  | true => exact .inl rfl
  | false => exact .inr rfl
/-- {.. for tg in iter if ..}, B: what each turn's body asks, D the new set -/
def tScG (P : Program) (w : World) (wi : TI) (g : TG) (tt : TT) (B : Addr → L2.St → Hp → (Hp → Prop) → Prop) (vs : List Nat) : TE := fun σ H Q => wi σ H fun J H1 => ∀ D, H1 D = none → ∃ W : Nat → Nat → Hp → Prop, (∃ m, W 0 m (upd H1 D (SetX P w D (fun _ => false) 0))) ∧ ∀ i m H, W i m H → (J.stop i H ∧ Q (.ref D) H) ∨ (J.go i H ∧ ∃ N : Hp → Prop, (∀ H', N H' → ∃ m', m' < m ∧ W (i + 1) m' H') ∧ ∀ x H', J.yld i H x H' → g x (wipe σ vs) H' fun σ2 H2 => wipe σ2 vs = wipe σ vs ∧ tt σ2 H2 fun b H3 => if b = true then B D σ2 H3 N else N H3)
/-- what an inner clause asks -/
def bIn (P : Program) (w : World) (wi1 : TI) (g1 : TG) (tt1 : TT) (te : TE) (vs1 : List Nat) (D : Addr) : L2.St → Hp → (Hp → Prop) → Prop := fun τ H N => wi1 τ H fun J1 H4 => ∃ W1 : Nat → Nat → Hp → Prop, (∃ m, W1 0 m H4) ∧ ∀ j k H, W1 j k H → (J1.stop j H ∧ N H) ∨ (J1.go j H ∧ ∃ N1 : Hp → Prop, (∀ H', N1 H' → ∃ k', k' < k ∧ W1 (j + 1) k' H') ∧ ∀ x H', J1.yld j H x H' → g1 x (wipe τ vs1) H' fun σ3 H5 => wipe σ3 vs1 = wipe τ vs1 ∧ tt1 σ3 H5 fun b H6 => if b = true then bAdd P w D te σ3 H6 N1 else N1 H6)
/-- the block that a comprehension runs in -/
abbrev blkC (X : Cx) (s : Shared) (H : Hp) (scope : Scope) (fp : List Addr) : Cx := X.blk s H scope (compEnvC scope (cellsFrom (s.heap.objs.size + 1) scope.names (cloFrom X.env.cells scope.names [])) s.heap.objs.size X.env) fp
section
variable {X : Cx} {elt tg iter : Expr} {ifs : List Expr} {rest : List Comprehension} {scope : Scope} {own : List (Str × Nat)} {pos pos' : Pos} {wi : TI} {g : TG} {tt : TT} {B : Addr → L2.St → Hp → (Hp → Prop) → Prop}
theorem scG_core (bodyK : Addr → Addr → Env → Sem PySem.Fin) (hc : X.calm = true) (hN : X.N.Nodup) (hi : PI X tg iter wi) (ok : BlkOk X.N X.env.scope scope own)
    (hg : ∀ s H fp, PG (blkC X s H scope fp) tg g) (ht : ∀ s H fp, PTs (blkC X s H scope fp) ifs tt) (hs : ∀ x, foldedSetIterable iter X.env x = pure x)
    (hden : ∀ (it D : Addr) (env : Env), compTurn (.SetComp elt (⟨tg, iter, ifs, 0⟩ :: rest) scope pos) 0 (.ref it) (.ref D) env = oneTurn (.compLoop (.SetComp elt (⟨tg, iter, ifs, 0⟩ :: rest) scope pos) 0 (.ref it) (.ref D) env) iter.pos tg ifs (.ref it) env (bodyK it D env))
    (hb : ∀ (s0 : Shared) (H0 : Hp) (fp : List Addr) (it D : Addr) pins' s τ H (N : Hp → Prop), Inv (blkC X s0 H0 scope fp) pins' τ H s → B D τ H N →
      wpAny (model X.prog X.w) X.A (bodyK it D (blkC X s0 H0 scope fp).env) (fun r s' => r = .again (.compLoop (.SetComp elt (⟨tg, iter, ifs, 0⟩ :: rest) scope pos) 0 (.ref it) (.ref D) (blkC X s0 H0 scope fp).env) ∧ ∃ τ' H', Inv (blkC X s0 H0 scope fp) pins' τ' H' s' ∧ Slots τ τ' (own.map (·.2)) ∧ N H') (blkC X s0 H0 scope fp).xe s) :
    PE X (.SetComp elt (⟨tg, iter, ifs, 0⟩ :: rest) scope pos) (tScG X.prog X.w wi g tt B (own.map (·.2))) := by
  refine ⟨fun pins s σ H Q I h => ?_⟩
  show wpAny _ _ (comprehension (.SetComp elt (⟨tg, iter, ifs, 0⟩ :: rest) scope pos) scope X.env _ (newSet (.type "set")) false (eval iter X.env) none) _ _ _
  have free : ∀ y ∈ scope.names, y.2 = .free → ∃ c, X.env.cells.lookup y.1 = some c := fun y hy e => (ok.free y hy e).elim (fun k => I.ok.has _ (.inl k)) fun k => I.ok.has _ (.inr k)
  refine wpAny_comprehension_free (use := none) rfl hs (closure_ok free) ok.kind (fun y hy e => by rw [ok.uniq y hy, e]) (thn (hi.run pins s σ H _ I h) fun xv s1 hx => thn hx fun itv s2 ⟨it, fp, tn, J, H2, eit, I2, T, t2, f2, q⟩ => PpSet.newSet_ok (newEnv_comp ?_))
  subst eit
  have fresh : H2 s2.heap.objs.size = none := I2.hok.fresh (Nat.le_refl _)
  obtain ⟨W, ⟨m0, w0⟩, turn⟩ := q _ fresh
  have old : ∀ b ∈ fp, b < s2.heap.objs.size := fun b hb => let ⟨o, e, _⟩ := T.obj _ _ t2 b hb; Heap.lt_size e
  -- with the new set
  obtain ⟨D, eD⟩ : ∃ D, s2.heap.objs.size = D := ⟨_, rfl⟩
  obtain ⟨s3, e3⟩ : ∃ s3 : Shared, s3 = { s2 with heap := s2.heap.push (emptyS X.w) } := ⟨_, rfl⟩
  have h3 : s3.heap = s2.heap.push (emptyS X.w) := by rw [e3]
  obtain ⟨H3, eH⟩ : ∃ H3, H3 = upd H2 s2.heap.objs.size (SetX X.prog X.w s2.heap.objs.size (fun _ => false) 0) := ⟨_, rfl⟩
  have I3 : Inv X pins σ H3 s3 := by
    rw [eH, e3]
    exact I2.laid (t' := s2.toks) (fun b o e => Heap.get?_push_of_some _ e) (Nat.le_refl _) (setX_new setG_new)
  have f3 : ∀ b ∈ fp, FpOk X pins H3 b ∧ b < s3.heap.objs.size := fun b hb => by
    have lt := old b hb
    refine ⟨⟨?_, (f2 b hb).2⟩, by rw [h3, Heap.size_push] <;> exact Nat.lt_succ_of_lt lt⟩
    rw [eH, upd_ne (Nat.ne_of_lt lt)] <;> exact (f2 b hb).1
  have t3 : tn 0 s3.heap := T.keep _ _ _ t2 fun b _ o e => by rw [h3] <;> exact Heap.get?_push_of_some _ e
  rw [← eH] at w0
  rw [eD] at turn
  show codeAny _ _ (.compStart (.SetComp elt (⟨tg, iter, ifs, 0⟩ :: rest) scope pos) 0 (.ref it) (.ref s2.heap.objs.size) _) (compPost _ _ _ _ _ (.ref s2.heap.objs.size) _) _
  rw [eD]
  have I4 := block_start I3 ok hN f3
  have goal : codeAny (model X.prog X.w) X.A (.compStart (.SetComp elt (⟨tg, iter, ifs, 0⟩ :: rest) scope pos) 0 (.ref it) (.ref D) (blkC X s3 H3 scope fp).env) (compPost (model X.prog X.w) X.A X.xe none (EP X pins σ Q) (.ref D) s3.heap.objs.size) { s3 with heap := pushCells (s3.heap.push { cls := .type "dict", data := .dict #[] }) scope.names } := by
    have t4 : tn 0 ({ s3 with heap := pushCells (s3.heap.push { cls := .type "dict", data := .dict #[] }) scope.names } : Shared).heap := T.keep _ _ _ t3 fun b _ o e => pushCells_keeps _ _ _ _ (Heap.get?_push_of_some _ e)
    revert I4 t4
    generalize ({ s3 with heap := pushCells (s3.heap.push { cls := .type "dict", data := .dict #[] }) scope.names } : Shared) = s4
    intro I4 t4
    have stat : ∀ {H' : Hp}, (∀ b ∈ fp, H' b = none) → ∀ b ∈ fp, FpOk (blkC X s3 H3 scope fp) [] H' b := fun hn b hb =>
      ⟨hn b hb, (I4.ok.exf b hb).1, I4.ok.exfs b hb, .inl hb, fun x c e => (I4.ok.exf b hb).2 x c e, fun p hp => nomatch (show p ∈ ([] : List (Addr × Obj)) from hp)⟩
    have loop := loop_any (Y := blkC X s3 H3 scope fp) (e := .SetComp elt (⟨tg, iter, ifs, 0⟩ :: rest) scope pos) (ci := 0) (it := it) (acc := .ref D) (ip := iter.pos) (body := bodyK it D (blkC X s3 H3 scope fp).env) (R := compPost (model X.prog X.w) X.A X.xe none (EP X pins σ Q) (.ref D) s3.heap.objs.size) (σ := σ) (vs := own.map (·.2)) (pins := []) (B D)
      (by show (compTurn _ 0 (.ref it) (.ref D) _).onRaise _ = _; rw [hden]) rfl rfl hc T (hg s3 H3 fp) (ht s3 H3 fp) (fun _ _ z => z) (fun pins' s τ H N _ I' b => hb s3 H3 fp it D pins' s τ H N I' b) stat W (fun H => Q (.ref D) H) turn (fun s' H' I' qq => ?_) m0 s4 H3 w0 I4 t4 (fun b hb => (f3 b hb).1.1)
    · exact PpSet.codeAny_compStart_set loop (T.self X.A 0 _ _ _ t4 loop)
    · have J' : Inv X pins σ H' s' := I3.call' (ch := fp) I'.os I'.base I'.hok I'.bare fun b hb => let z := (f3 b hb).1.2; ⟨z.2.2.1, z.1, z.2.2.2.1, z.2.2.2.2⟩
      obtain ⟨m, hm, _⟩ := I'.loc
      have f := I3.fpOk (H' := H') (Nat.le_refl _) I'.free
      exact ⟨m, hm, fun z sb => ⟨.ref D, H', J'.turned (t' := s'.toks) (fun b o hb e => (sb.2 b hb).trans e) f.1 f.2.1 f.2.2.2.1 f.2.2.2.2.1 f.2.2.2.2.2, rfl, qq⟩⟩
  subst e3
  exact goal
/-- one clause -/
theorem pe_sc1 {te : TE} (hc : X.calm = true) (hN : X.N.Nodup) (hi : PI X tg iter wi) (ok : BlkOk X.N X.env.scope scope own) (hg : ∀ s H fp, PG (blkC X s H scope fp) tg g) (ht : ∀ s H fp, PTs (blkC X s H scope fp) ifs tt) (he : ∀ s H fp, PE (blkC X s H scope fp) elt te)
    (hs : ∀ x, foldedSetIterable iter X.env x = pure x := by intro _; rfl) : PE X (.SetComp elt [⟨tg, iter, ifs, 0⟩] scope pos) (tScG X.prog X.w wi g tt (fun D => bAdd X.prog X.w D te) (own.map (·.2))) :=
  scG_core (B := fun D => bAdd X.prog X.w D te) _ hc hN hi ok hg ht hs (fun it D env => turn_set1 elt tg iter ifs scope pos (.ref it) (.ref D) env) fun s0 H0 fp it D pins' s τ H N I b => body_add (Y := blkC X s0 H0 scope fp) (he s0 H0 fp) pins' s τ H N I b
end
end Ev
set_option maxHeartbeats 4000000
namespace Ev
open PySem PySem.Spec PyProof.Rows L2
theorem start_in {prog : Program} {w : World} {A : Around} {R : Result → Shared → Prop} {s : Shared} {env : Env} {elt t0 i0 t1 i1 : Expr} {ifs0 ifs1 : List Expr} {scope : Scope} {pos : Pos} {it acc : Value}
    (h0 : codeAny (model prog w) A (.compLoop (.SetComp elt [⟨t0, i0, ifs0, 0⟩, ⟨t1, i1, ifs1, 0⟩] scope pos) 1 it acc env) R s)
    (h : wpAny (model prog w) A (pyIter it) (fun j s' => codeAny (model prog w) A (.compLoop (.SetComp elt [⟨t0, i0, ifs0, 0⟩, ⟨t1, i1, ifs1, 0⟩] scope pos) 1 j acc env) R s') (notedBy (model prog w) A env fun x s' => R (.error x) s') s) :
    codeAny (model prog w) A (.compStart (.SetComp elt [⟨t0, i0, ifs0, 0⟩, ⟨t1, i1, ifs1, 0⟩] scope pos) 1 it acc env) R s := by
  refine codeAny_of_tree ?_
  show wpAny _ _ ((compStart _ 1 it acc env).onRaise (fun x => do noteFrame x env; standAt theWindowsPlace)) _ _ s
  refine wpAny_notedAt ?_; unfold compStart
  show wpAny _ _ (ask >>= _) _ _ s
  refine wpAny_bind (wpAny_askSetting (wpAny_ite ?_)); split
  · first | exact wpAny_bind (wpAny_pure (wpAny_pure ⟨rfl, h0⟩)) | exact wpAny_pure ⟨rfl, h0⟩
  · have go : ∀ {W : PySem.Fin → Shared → Prop}, (∀ j s', codeAny (model prog w) A (.compLoop (.SetComp elt [⟨t0, i0, ifs0, 0⟩, ⟨t1, i1, ifs1, 0⟩] scope pos) 1 j acc env) R s' → W (.again (.compLoop (.SetComp elt [⟨t0, i0, ifs0, 0⟩, ⟨t1, i1, ifs1, 0⟩] scope pos) 1 j acc env)) s') → wpAny (model prog w) A (pyIter it >>= fun j => again (.compLoop (.SetComp elt [⟨t0, i0, ifs0, 0⟩, ⟨t1, i1, ifs1, 0⟩] scope pos) 1 j acc env)) W (notedBy (model prog w) A env fun x s' => R (.error x) s') s := fun k => wpAny_bind (wpAny_mono h (fun j s' z => wpAny_pure (k j s' z)) fun _ _ x => x)
    refine wpAny_bind (wpAny_rule ?_)
    show wpAny _ _ (standAt i1.pos >>= _) _ _ s
    exact wpAny_bind (wpAny_standAt (go fun j s' z => ⟨rfl, z⟩))
section
variable {X : Cx} {elt tg iter tg1 iter1 : Expr} {ifs ifs1 : List Expr} {scope : Scope} {own : List (Str × Nat)} {vs1 : List Nat} {pos : Pos} {wi wi1 : TI} {g g1 : TG} {tt tt1 : TT} {te : TE}
theorem body_in (hc : X.calm = true) (hv : ∀ i ∈ vs1, i ∈ own.map (·.2)) (hi1 : ∀ s H fp, PI (blkC X s H scope fp) tg1 iter1 wi1) (hg1 : ∀ s H fp, PG (blkC X s H scope fp) tg1 g1) (ht1 : ∀ s H fp, PTs (blkC X s H scope fp) ifs1 tt1) (he : ∀ s H fp, PE (blkC X s H scope fp) elt te) (hs1 : ∀ env x, foldedSetIterable iter1 env x = pure x)
    (s0 : Shared) (H0 : Hp) (fp : List Addr) (it D : Addr) pins' s τ H (N : Hp → Prop) (I : Inv (blkC X s0 H0 scope fp) pins' τ H s) (b : bIn X.prog X.w wi1 g1 tt1 te vs1 D τ H N) :
    wpAny (model X.prog X.w) X.A (eval iter1 (blkC X s0 H0 scope fp).env >>= fun x => standAt iter1.pos >>= fun _ => foldedSetIterable iter1 (blkC X s0 H0 scope fp).env x >>= fun x => holding [x] (pyIter x) >>= fun j => runOwn (.compStart (.SetComp elt [⟨tg, iter, ifs, 0⟩, ⟨tg1, iter1, ifs1, 0⟩] scope pos) 1 j (.ref D) (blkC X s0 H0 scope fp).env) (blkC X s0 H0 scope fp).env >>= fun _ => again (.compLoop (.SetComp elt [⟨tg, iter, ifs, 0⟩, ⟨tg1, iter1, ifs1, 0⟩] scope pos) 0 (.ref it) (.ref D) (blkC X s0 H0 scope fp).env))
      (fun r s' => r = .again (.compLoop (.SetComp elt [⟨tg, iter, ifs, 0⟩, ⟨tg1, iter1, ifs1, 0⟩] scope pos) 0 (.ref it) (.ref D) (blkC X s0 H0 scope fp).env) ∧ ∃ τ' H', Inv (blkC X s0 H0 scope fp) pins' τ' H' s' ∧ Slots τ τ' (own.map (·.2)) ∧ N H') (blkC X s0 H0 scope fp).xe s := by
  refine wpAny_bind (thn ((hi1 s0 H0 fp).run pins' s τ H _ I b) fun x s1 hx => wpAny_bind (wpAny_standAt (wpAny_bind (wpAny_of_eq (hs1 _ x) (wpAny_bind (wpAny_holding (thn hx fun j s2 h2 => ?_)))))))
  obtain ⟨it1, fp1, tn1, J1, H2, ej, I2, T1, t2, f2, W1, ⟨m1, w1⟩, turn1⟩ := h2
  subst ej
  have loop := loop_any (Y := blkC X s0 H0 scope fp) (e := .SetComp elt [⟨tg, iter, ifs, 0⟩, ⟨tg1, iter1, ifs1, 0⟩] scope pos) (ci := 1) (it := it1) (acc := .ref D) (ip := iter1.pos) (R := fun r s' => match r with | .ok _ => ∃ τ' H', Inv (blkC X s0 H0 scope fp) pins' τ' H' s' ∧ Slots τ τ' (own.map (·.2)) ∧ N H' | .error _ => False) (σ := τ) (vs := vs1) (pins := pins') (bAdd X.prog X.w D te)
    (by show (compTurn _ 1 (.ref it1) (.ref D) _).onRaise _ = _; rw [turn_set2i]) rfl rfl hc T1 (hg1 s0 H0 fp) (ht1 s0 H0 fp) (fun _ _ z => z) (fun pins' s τ H N _ I' b => body_add (Y := blkC X s0 H0 scope fp) (he s0 H0 fp) pins' s τ H N I' b) (fun hn b hb => ⟨hn b hb, (f2 b hb).2⟩) W1 N turn1 (fun s' H' I' nx => ⟨wipe τ vs1, H', I', ⟨wipe_length τ vs1, fun i v e => ?_⟩, nx⟩) m1 s2 H2 w1 (I2.weak (wipe_length _ _) fun i v e => (wipe_some e).1) t2 (fun b hb => (f2 b hb).1)
  · refine wpAny_bind (wpAny_runOwn ?_)
    rw [Around.mark_none]
    refine codeAny_mono (start_in loop (T1.self X.A 0 _ _ _ t2 loop)) fun r s' hr => ?_
    cases r with
    | ok f => first | exact wpAny_pure ⟨rfl, hr⟩ | exact wpAny_bind (wpAny_pure (wpAny_pure ⟨rfl, hr⟩))
    | error x => exact hr.elim
  · obtain ⟨e1, e2⟩ := wipe_some e
    rw [wipe_out fun z => e2 (hv i z)] <;> exact e1
/-- two clauses -/
theorem pe_sc2 (hc : X.calm = true) (hN : X.N.Nodup) (hi : PI X tg iter wi) (ok : BlkOk X.N X.env.scope scope own) (hv : ∀ i ∈ vs1, i ∈ own.map (·.2)) (hg : ∀ s H fp, PG (blkC X s H scope fp) tg g) (ht : ∀ s H fp, PTs (blkC X s H scope fp) ifs tt)
    (hi1 : ∀ s H fp, PI (blkC X s H scope fp) tg1 iter1 wi1) (hg1 : ∀ s H fp, PG (blkC X s H scope fp) tg1 g1) (ht1 : ∀ s H fp, PTs (blkC X s H scope fp) ifs1 tt1) (he : ∀ s H fp, PE (blkC X s H scope fp) elt te)
    (hs : ∀ x, foldedSetIterable iter X.env x = pure x := by intro _; rfl) (hs1 : ∀ env x, foldedSetIterable iter1 env x = pure x := by intro _ _; rfl) :
    PE X (.SetComp elt [⟨tg, iter, ifs, 0⟩, ⟨tg1, iter1, ifs1, 0⟩] scope pos) (tScG X.prog X.w wi g tt (bIn X.prog X.w wi1 g1 tt1 te vs1) (own.map (·.2))) :=
  scG_core (B := bIn X.prog X.w wi1 g1 tt1 te vs1) _ hc hN hi ok hg ht hs (fun it D env => turn_set2o elt tg iter tg1 iter1 ifs ifs1 scope pos (.ref it) (.ref D) env) (body_in hc hv hi1 hg1 ht1 he hs1)
end
end Ev
set_option maxHeartbeats 4000000
namespace Ev
open PySem PySem.Spec PyProof.Rows L2
/-! sorted, any number: texts, and the members of a set -/
abbrev ltC (x y : Str) : Prop := x.cps.toList < y.cps.toList
def ltSv (v u : Value) : Bool := decide (ltC (strOf v) (strOf u))
theorem swo_str : SrtO.Swo ltSv := by
  refine ⟨fun x y h => decide_eq_false fun z => ?_, fun x y z h1 h2 => decide_eq_false fun h => ?_⟩
  · exact List.lt_irrefl _ (List.lt_trans (of_decide_eq_true h : ltC (strOf x) (strOf y)) z)
  · have a : ¬ ltC (strOf y) (strOf x) := of_decide_eq_false h1
    have b : ¬ ltC (strOf z) (strOf y) := of_decide_eq_false h2
    exact absurd h (List.not_lt.mpr (List.le_trans (List.not_lt.mp a) (List.not_lt.mp b)))
section
variable {prog : Program} {w : World} {A : Around} {E : Value → Shared → Prop} {s : Shared}
theorem str_cmp {vs : List Value} (hI : ∀ v ∈ vs, ∃ x t, v = Value.str x t) : SrtO.Cmp prog w A s oneType' (fun p => p.1 ∈ vs) (SrtO.lt2 ltSv) := fun p q hm hm' => by
  obtain ⟨a, t, e⟩ := hI _ hm
  obtain ⟨b, u, e'⟩ := hI _ hm'
  show wpAny (model prog w) A (keyLt' oneType' p.1 q.1) (fun r s' => s' = s ∧ r = ltSv p.1 q.1) (fun _ _ => False) s
  rw [e, e']
  exact PySem.W.kas_lt_str ⟨rfl, rfl⟩
theorem strs_sortable {a : Addr} {vs : List Value} (hI : ∀ v ∈ vs, ∃ x t, v = Value.str x t) (h2 : 2 ≤ vs.length) : SrtO.SortableO prog w A s a vs ltSv := fun h' _ => by
  refine ⟨oneType', fun Q E hq => ?_, str_cmp hI⟩
  have hS := strsAre_map vs hI
  revert hS h2
  rcases vs with _ | ⟨v, _ | ⟨u, r⟩⟩
  · intro h2; exact absurd h2 (by decide)
  · intro h2; exact absurd h2 (by simp)
  · intro h2 hS; rw [keyKind_strs hS]; exact wpAny_pure hq
theorem ints_sortable2 {a : Addr} {vs : List Value} (hI : ∀ v ∈ vs, ∃ i t, v = Value.int i t) (h2 : 2 ≤ vs.length) : SrtO.SortableO prog w A s a vs SrtO.ltIv := SrtO.ints_sortable (SrtO.ints_iv hI) h2
/-- sorted of a set: its members by ltv, at a new place -/
theorem sorted_setG {K : Type} [DecidableEq K] {κ : KeyKind prog w K} {a : Addr} {S : K → Bool} {n : Nat} {ltv : Value → Value → Bool} {Q : Value → Shared → Prop} (O : SrtO.Swo ltv) (R : SetG κ s.heap a S n) (hh : A.handled = none)
    (so : ∀ (vs : List Value), (∀ v ∈ vs, ∃ k, κ.is k v = true ∧ S k = true) → 2 ≤ vs.length → ∀ (A' : Around) (z : Shared) (d : Addr), SrtO.SortableO prog w A' z d vs ltv)
    (q : ∀ (z : Shared) (p : Addr) (out : List Value) (c : Nat), (∀ b o, s.heap.get? b = some o → z.heap.get? b = some o) → z.gens = s.gens → z.os = s.os → s.heap.objs.size ≤ p → z.heap.get? p = some (seqObj "list" out.toArray c) → SrtO.Srtd ltv out →
      (∀ v ∈ out, ∃ k, κ.is k v = true ∧ S k = true) → (∀ k, S k = true → ∃ v ∈ out, κ.is k v = true) → out.Pairwise (fun u v => ∀ k, κ.is k u = true → κ.is k v = true → False) → out.length = n → Q (.ref p) z) :
    wpAny (model prog w) A (call (.builtin "sorted") [.ref a]) Q E s := by
  obtain ⟨o, es, ep, t, ho, ⟨xs, hd⟩, ⟨hel, nd⟩, hm, ⟨hb, hf, hn⟩, hr, hl⟩ := R
  refine Calls.call_function_entry kind_sorted plain_sorted entry_sorted (args_sorted1 _) ?_; unfold Builtin.«sorted»
  refine wpAny_bind (m := checkCount "sorted" 1 1 _) (wpAny_pure (wpAny_bind (collect_set (A := A.in1) hh ⟨o, ho, xs.1, hd⟩ hf hb hr hl fun s1 vs k1 hz g1 o1 pm => ?_)))
  have len : vs.length = n := by rw [pm.length_eq, List.length_map, Array.length_toList] <;> exact hn
  have small : vs.length ≤ sizeLine := by rw [len, ← hn] <;> exact fits_of_scanBound hb
  have mem : ∀ v ∈ vs, ∃ k, κ.is k v = true ∧ S k = true := fun v hv => by
    obtain ⟨e, he, ev⟩ := List.mem_map.mp (pm.mem_iff.mp hv)
    obtain ⟨⟨k, hk, _⟩, _⟩ := hel e he
    exact ⟨k, by rw [← ev] <;> exact hk, (hm k).mpr ⟨e, he, hk⟩⟩
  have all : ∀ k, S k = true → ∃ v ∈ vs, κ.is k v = true := fun k hk => let ⟨e, he, z⟩ := (hm k).mp hk; ⟨e.2, pm.mem_iff.mpr (List.mem_map.mpr ⟨e, he, rfl⟩), z⟩
  have apart : vs.Pairwise (fun u v => ∀ k, κ.is k u = true → κ.is k v = true → False) := List.Perm.pairwise pm.symm (List.pairwise_map.mpr nd) fun {u v} z k h1 h2 => z k h2 h1
  refine wpAny_bind (wpAny_newList ?_ small)
  have hoL : (s1.heap.push (seqObj "list" vs.toArray 0)).get? s1.heap.objs.size = some (seqObj "list" vs.toArray 0) := Heap.get?_push_size _ rfl
  refine wpAny_bind (wpAny_holding (wpAny_call_entry slot_list_sort ⟨_, hoL, rfl⟩ entry_list_sort (SrtO.list_sort_ord O hoL small (fun h2 => so vs mem h2 _ _ _) fun out h1 h2 => ⟨_, rfl, ?_⟩) (args_list_sort _)))
  obtain ⟨c, hc⟩ := sortedHeap_at (vs := vs) (out := out.toArray) hoL
  have p2 : out.Perm vs := h2.perm
  refine wpAny_pure ⟨_, rfl, q _ s1.heap.objs.size out c (fun b u e => ?_) g1 o1 hz hc h1 (fun v hv => mem v (p2.mem_iff.mp hv)) (fun k hk => let ⟨v, hv, z⟩ := all k hk; ⟨v, p2.mem_iff.mpr hv, z⟩) (List.Perm.pairwise p2.symm apart fun {u v} z k h1 h2 => z k h2 h1) (by rw [p2.length_eq] <;> exact len)⟩
  have e1 := k1 b u e
  have lt := Heap.lt_size e1
  show (sortedHeap (s1.heap.push (seqObj "list" vs.toArray 0)) s1.heap.objs.size vs out.toArray).get? b = some u
  rw [sortedHeap_old (Nat.ne_of_lt lt) (by rw [size_push'] <;> exact Nat.lt_succ_of_lt lt)]; exact Heap.get?_push_of_some _ e1
end
section
variable {X : Cx}
/-- sorted(xs), texts, any number of them -/
def rSortedTx (K : PySem.W.Frag) : List V → Hp → VK → Prop := fun vs H Q => ∃ (a : Addr) (ss : List Str), vs = [V.ref a] ∧ SqL K H a (ss.map V.str) ∧ ∀ (zs : List Str) (p : Addr), zs.Perm ss → zs.Pairwise (fun x y => ¬ ltC y x) → H p = none → Q (.ref p) (upd H p (.lst (zs.map V.str)))
theorem vals_strs : ∀ {out : List Value}, (∀ v ∈ out, ∃ x t, v = Value.str x t) → Vals ((out.map strOf).map V.str) out
  | [], _ => .nil
  | v :: out, h => by
    obtain ⟨x, t, e⟩ := h v List.mem_cons_self
    subst e
    exact .cons ⟨t, rfl⟩ (vals_strs fun u hu => h u (List.mem_cons_of_mem _ hu))
theorem strs_vals : ∀ {ss : List Str} {us : List Value}, Vals (ss.map V.str) us → (∀ v ∈ us, ∃ x t, v = Value.str x t) ∧ us.map strOf = ss
  | [], _, .nil => ⟨fun v h => absurd h (by simp), rfl⟩
  | z :: ss, _, .cons r t => by
    obtain ⟨tk, rfl⟩ := r
    obtain ⟨h1, h2⟩ := strs_vals t
    exact ⟨fun v hv => (List.mem_cons.mp hv).elim (fun e => ⟨z, tk, e⟩) (h1 v), congrArg (z :: ·) h2⟩
theorem cr_sortedTx : CallR X (.builtin "sorted") (rSortedTx X.K) := fun pins s σ H vs us Q I r h => by
  obtain ⟨a, ss, rfl, hs, q⟩ := h
  obtain ⟨its, rv, hl, hz⟩ := I.list hs
  rw [Vals.ref1 r]
  obtain ⟨hI, es⟩ := strs_vals rv
  have lz : its.length ≤ sizeLine := by rw [← rv.length] <;> exact hz
  refine SrtO.sorted_ord swo_str hl.isList lz (fun h2 h₁ a' _ _ => strs_sortable hI h2) fun out h1 h2 => ?_
  obtain ⟨ep, he⟩ := PyProof.Rows.sortedAll_at s.heap its out.toArray
  have hO : ∀ v ∈ out, ∃ x t, v = Value.str x t := fun v hv => hI v (h2.perm.mem_iff.mp hv)
  have lo : ((out.map strOf).map V.str).length ≤ sizeLine := by rw [List.length_map, List.length_map, h2.perm.length_eq] <;> exact lz
  refine ⟨.ref _, upd H (s.heap.objs.size + 1) (.lst ((out.map strOf).map V.str)), I.laid (t' := s.toks) (fun _ _ => PyProof.Rows.sortedAll_old) (Nat.le_succ _) ⟨lo, out, ep, vals_strs hO, he⟩, rfl, q _ _ ?_ ?_ (I.hok.fresh (Nat.le_succ _))⟩
  · rw [← es] <;> exact h2.perm.map strOf
  · exact List.pairwise_map.mpr (h1.imp fun {x y} h => of_decide_eq_false h)
/-- sorted(s), s a set of texts: ascending -/
def rSortedSx (P : Program) (w : World) : List V → Hp → VK → Prop := fun vs H Q => ∃ (a : Addr) (S : Key → Bool) (n : Nat), vs = [V.ref a] ∧ H a = some (SetX P w a S n) ∧ (∀ k, S k = true → ∃ z, k = Sum.inr z) ∧
  ∀ (zs : List Str) (p : Addr), zs.Pairwise ltC → (∀ z, z ∈ zs ↔ S (Sum.inr z) = true) → zs.length = n → H p = none → Q (.ref p) (upd H p (.lst (zs.map V.str)))
theorem ltC_str {x y : Str} (h : ¬ ltC y x) (ne : x ≠ y) : ltC x y := by
  rcases Decidable.em (ltC x y) with z | z
  · exact z
  · refine absurd ?_ ne
    have e : x.cps.toList = y.cps.toList := List.le_antisymm (List.not_lt.mp h) (List.not_lt.mp z)
    cases x; cases y; exact congrArg Str.mk (Array.toList_inj.mp e)
theorem cr_sortedSx (hc : X.calm = true) : CallR X (.builtin "sorted") (rSortedSx X.prog X.w) := fun pins s σ H vs us Q I r h => by
  obtain ⟨a, S, n, rfl, ha, hS, q⟩ := h
  rw [Vals.ref1 r]
  have isS : ∀ v, (∃ k, (mixKind X.prog X.w).is k v = true ∧ S k = true) → ∃ x t, v = Value.str x t ∧ S (.inr x) = true := fun v ⟨k, h1, h2⟩ => by
    obtain ⟨z, rfl⟩ := hS k h2
    rcases keyIs_shape (show keyIs (.inr z) v = true from h1) with ⟨i, t, e1, e2⟩ | ⟨x, t, e1, e2⟩
    · cases e1
    · cases e1; exact ⟨z, t, e2, h2⟩
  refine sorted_setG swo_str (setX_get I ha) (I.ok.hd hc) (fun vs mem h2 A' z d => strs_sortable (fun v hv => let ⟨x, t, e, _⟩ := isS v (mem v hv); ⟨x, t, e⟩) h2) fun z p out c k g o hp hg hs mem all ap hl => ?_
  have hO : ∀ v ∈ out, ∃ x t, v = Value.str x t ∧ S (.inr x) = true := fun v hv => isS v (mem v hv)
  have hV := vals_strs fun v hv => let ⟨x, t, e, _⟩ := hO v hv; ⟨x, t, e⟩
  have lo : ((out.map strOf).map V.str).length ≤ sizeLine := by
    obtain ⟨o, es, ep, t, ho, _, _, _, ⟨hb, hf, hn⟩, _⟩ := setX_get I ha
    rw [List.length_map, List.length_map, hl, ← hn] <;> exact fits_of_scanBound hb
  have hn : H p = none := I.hok.fresh hp
  have J : Inv X pins σ (upd H p (.lst ((out.map strOf).map V.str))) z := I.call' (ch := []) o (Un.laid k hp hn) (I.hok.laid k hp ⟨lo, out, c, hV, hg⟩) (by rw [g] <;> exact I.bare) (fun _ z => nomatch z)
  refine ⟨.ref p, _, J, rfl, q _ p ?_ (fun y => ⟨fun hy => ?_, fun hy => ?_⟩) (by rw [List.length_map] <;> exact hl) hn⟩
  · refine List.pairwise_map.mpr (List.Pairwise.imp_of_mem (fun {u v} hu hv w => ?_) (hs.and ap))
    obtain ⟨x, t, rfl, _⟩ := hO u hu
    obtain ⟨y, t', rfl, _⟩ := hO v hv
    refine ltC_str (of_decide_eq_false w.1) fun e => w.2 (.inr x) (mixKind_str _ _ x t) ?_
    have e : x = y := e
    rw [e] <;> exact mixKind_str _ _ y t'
  · obtain ⟨v, hv, rfl⟩ := List.mem_map.mp hy
    obtain ⟨x, t, rfl, z⟩ := hO v hv
    exact z
  · obtain ⟨v, hv, z⟩ := all _ hy
    obtain ⟨x, t, rfl, _⟩ := hO v hv
    refine List.mem_map.mpr ⟨_, hv, ?_⟩
    have := (mixKind X.prog X.w).inj _ _ _ z (mixKind_str X.prog X.w x t)
    exact (Sum.inr.inj this).symm
/-- len(s) of a set -/
def rLenSx (P : Program) (w : World) : List V → Hp → VK → Prop := fun vs H Q => ∃ (a : Addr) (S : Key → Bool) (n : Nat), vs = [V.ref a] ∧ H a = some (SetX P w a S n) ∧ Q (.int (n : Nat)) H
theorem cr_lenSx : CallR X (.builtin "len") (rLenSx X.prog X.w) := fun pins s σ H vs us Q I r h => by
  obtain ⟨a, S, n, rfl, ha, q⟩ := h
  rw [Vals.ref1 r]
  obtain ⟨o, es, ep, t, ho, ⟨xs, hd⟩, _, _, ⟨hb, hf, hn⟩, _⟩ := setX_get I ha
  subst hn
  have lz : es.size ≤ 16777216 := fits_of_scanBound hb
  exact call_len_set ho xs hd hf (by omega) ⟨.int (es.size : Nat), H, I.tok _, ⟨_, rfl⟩, q⟩
end
end Ev
set_option maxHeartbeats 4000000
namespace Ev
open PySem PySem.Spec PyProof.Rows L2 PySem.W
/-! sorted, lists that read as data; < of data -/
/-- a value, and what it reads as -/
abbrev DV := V × PyData
section
variable {X : Cx}
theorem each_dp {pins : List (Addr × Obj)} {σ : L2.St} {H : Hp} {s : Shared} (I : Inv X pins σ H s) : ∀ {bs : List DV} {us : List Value}, Vals (bs.map (·.1)) us → (∀ b ∈ bs, Dp X.K H b.1 b.2) →
    EachIs (fun v (b : DV) => RelV b.1 v) us bs ∧ EachIs (fun v (b : DV) => ∃ as, Reads s.heap v b.2 as) us bs
  | [], _, .nil, _ => ⟨.nil, .nil⟩
  | b :: bs, _, .cons r t, h => by
    obtain ⟨e1, e2⟩ := each_dp I t fun c hc => h c (List.mem_cons_of_mem _ hc)
    exact ⟨.cons r e1, .cons (Dp.reads I b.2 _ _ (h b List.mem_cons_self) r) e2⟩
theorem each_vals : ∀ {bs : List DV} {us : List Value}, EachIs (fun v (b : DV) => RelV b.1 v) us bs → Vals (bs.map (·.1)) us
  | [], _, .nil => .nil
  | _ :: _, _, .cons r t => .cons r (each_vals t)
def leD (a b : DV) : Bool := dataLe false (fun b : DV => b.2) a b
def rSortedD (K : PySem.W.Frag) : List V → Hp → VK → Prop := fun vs H Q => ∃ (a : Addr) (bs : List DV), vs = [V.ref a] ∧ SqL K H a (bs.map (·.1)) ∧ (∀ b ∈ bs, Dp K H b.1 b.2) ∧ AllAlike (bs.map (·.2)) ∧ Sortable (bs.map (·.2)) ∧ (∀ b ∈ bs, b.2.depth ≤ 60) ∧
  ∀ p, H p = none → Q (.ref p) (upd H p (.lst ((bs.mergeSort leD).map (·.1))))
theorem cr_sortedD (hu : X.A.units + 64 < cLine) : CallR X (.builtin "sorted") (rSortedD X.K) := fun pins s σ H vs us Q I r h => by
  obtain ⟨a, bs, rfl, hs, hd, hal, hk, hdep, q⟩ := h
  obtain ⟨its, rv, hl, hz⟩ := I.list hs
  rw [Vals.ref1 r]
  obtain ⟨e1, e2⟩ := each_dp I rv hd
  have lz : bs.length ≤ sizeLine := by rw [List.length_map] at hz; exact hz
  refine sorted_data (R := fun v (b : DV) => RelV b.1 v) (enc := fun b : DV => b.2) hl.isList e1 e2 hal hk lz (fun b hb => by have := hdep b hb; omega) fun out h1 h2 => ?_
  obtain ⟨ep, he⟩ := PyProof.Rows.sortedAll_at s.heap its out.toArray
  have lo : ((bs.mergeSort leD).map (·.1)).length ≤ sizeLine := by rw [List.length_map, List.length_mergeSort]; exact lz
  exact ⟨.ref _, upd H (s.heap.objs.size + 1) (.lst ((bs.mergeSort leD).map (·.1))), I.laid (t' := s.toks) (fun _ _ => PyProof.Rows.sortedAll_old) (Nat.le_succ _) ⟨lo, out, ep, each_vals h2, he⟩, rfl, q _ (I.hok.fresh (Nat.le_succ _))⟩
/-- x < y of data -/
def rLtD (K : PySem.W.Frag) : R2 := fun x y H Q => ∃ d e, Dp K H x d ∧ Dp K H y e ∧ alike d e = true ∧ d ≠ .none ∧ min d.depth e.depth ≤ 60 ∧ Q (.bl (dataLt d e)) H
theorem op_ltD (hu : X.A.units + 64 < cLine) : OpR X (compareOp .Lt) (rLtD X.K) := by
  intro pins s σ H x y v u Q I rx ry h
  obtain ⟨d, e, hd, he, al, nn, dp, q⟩ := h
  obtain ⟨as, r1⟩ := Dp.reads I d x v hd rx
  obtain ⟨bs, r2⟩ := Dp.reads I e y u he ry
  exact lt_data r1 r2 al nn (by omega) ⟨.bl _, H, I, rfl, q⟩
end
end Ev
set_option maxHeartbeats 4000000
/-! Slices by natural bounds. -/
namespace Ev
open PySem PySem.Spec PyProof.Rows L2
theorem sIx_int {n d : Nat} {i : Int} (h : 0 ≤ i) : HT.sIx n d (some i) = min i.toNat n := by
  show (if i < 0 then (i + (n : Int)).toNat else min i.toNat n) = _
  rw [if_neg (by omega)]
theorem cutV_to {xs : List V} {i : Int} (h : 0 ≤ i) : cutV xs none (some i) = xs.take i.toNat := by
  unfold cutV
  rw [sIx_int h]
  show (xs.drop 0).take (min i.toNat xs.length - 0) = _
  rw [List.drop_zero, Nat.sub_zero, ← List.take_eq_take_min]
theorem cutV_from {xs : List V} {i : Int} (h : 0 ≤ i) : cutV xs (some i) none = xs.drop i.toNat := by
  unfold cutV
  rw [sIx_int h]
  show (xs.drop (min i.toNat xs.length)).take (xs.length - min i.toNat xs.length) = _
  rw [List.take_of_length_le (by rw [List.length_drop]; exact Nat.le_refl _)]
  by_cases g : i.toNat ≤ xs.length
  · rw [Nat.min_eq_left g]
  · rw [Nat.min_eq_right (by omega), List.drop_length, List.drop_of_length_le (by omega)]
theorem cutV_set {xs : List V} {i : Int} {z : V} (h : 0 ≤ i) (h2 : i < xs.length) : cutV xs none (some i) ++ [z] ++ cutV xs (some (i + 1)) none = xs.set i.toNat z := by
  rw [cutV_to h, cutV_from (by omega)]
  have e : (i + 1).toNat = i.toNat + 1 := by omega
  rw [e, List.set_eq_take_append_cons_drop, if_pos (by omega)]
  simp
theorem cutS_to {z : Str} {i : Int} (h : 0 ≤ i) : (cutS z none (some i)).cps.toList = z.cps.toList.take i.toNat := by
  have e : (cutS z none (some i)).cps.toList = (z.cps.toList.drop 0).take (HT.sIx z.length z.length (some i) - 0) := by simp [cutS, HT.sIx]
  rw [e, sIx_int h, List.drop_zero, Nat.sub_zero, len_S, ← List.take_eq_take_min]
theorem cutS_from {z : Str} {i : Int} (h : 0 ≤ i) : (cutS z (some i) none).cps.toList = z.cps.toList.drop i.toNat := by
  have e : (cutS z (some i) none).cps.toList = (z.cps.toList.drop (HT.sIx z.length 0 (some i))).take (z.length - HT.sIx z.length 0 (some i)) := by simp [cutS, HT.sIx]
  rw [e, sIx_int h, len_S]
  rw [List.take_of_length_le (by rw [List.length_drop]; exact Nat.le_refl _)]
  by_cases g : i.toNat ≤ z.cps.toList.length
  · rw [Nat.min_eq_left g]
  · rw [Nat.min_eq_right (by omega), List.drop_length, List.drop_of_length_le (by omega)]
theorem cutS_of {z : Str} {i j : Int} (h : 0 ≤ i) (h2 : i ≤ j) : (cutS z (some i) (some j)).cps.toList = (z.cps.toList.drop i.toNat).take (j - i).toNat := by
  have e : (cutS z (some i) (some j)).cps.toList = (z.cps.toList.drop (HT.sIx z.length 0 (some i))).take (HT.sIx z.length z.length (some j) - HT.sIx z.length 0 (some i)) := by simp [cutS]
  rw [e, sIx_int h, sIx_int (by omega), len_S]
  apply List.ext_getElem?
  intro k
  rw [List.getElem?_take, List.getElem?_take, List.getElem?_drop, List.getElem?_drop]
  by_cases g : i.toNat ≤ z.cps.toList.length
  · rw [Nat.min_eq_left g]
    by_cases a : k < (j - i).toNat
    · rw [if_pos a]
      by_cases b : k < min j.toNat z.cps.toList.length - i.toNat
      · rw [if_pos b]
      · rw [if_neg b]
        exact (List.getElem?_eq_none (by omega)).symm
    · rw [if_neg a, if_neg (by omega)]
  · rw [List.getElem?_eq_none (show z.cps.toList.length ≤ i.toNat + k by omega), if_neg (by omega)]
    split <;> rfl
end Ev
set_option maxHeartbeats 4000000
namespace LawK
open PySem PySem.Spec PyProof.Rows L2 Ev PySem.W
theorem dataLt_sii (x y : Str) (i j k l : Int) : dataLt (.tuple [.str x, .int i, .int j]) (.tuple [.str y, .int k, .int l]) = decide (x.cps.toList < y.cps.toList ∨ x = y ∧ (i < k ∨ i = k ∧ j < l)) := by
  rw [dataLt_tuple, dataLt_cons (by simp [alike]), dataLt_cons (by simp [alike]), dataLt_cons (by simp [alike])]
  have e0 : PyProof.Rows.lexLt itemOrd (keyToksAll []) (keyToksAll []) = false := lex_irrefl _
  rw [e0, dataLt_str, dataLt_int, dataLt_int]
  have e1 : PyData.eqv (.str x) (.str y) = decide (x = y) := by
    simp only [PyData.eqv]
    first | rfl | exact Bool.eq_iff_iff.mpr (by simp)
  have e2 : ∀ a b : Int, PyData.eqv (.int a) (.int b) = decide (a = b) := fun a b => by
    simp only [PyData.eqv]
    first | rfl | exact Bool.eq_iff_iff.mpr (by simp)
  rw [e1, e2, e2]
  by_cases hx : x = y
  · subst hx
    have nl : ¬ x.cps.toList < x.cps.toList := lirr _
    by_cases h1 : i = k
    · subst h1
      by_cases h2 : j = l
      · subst h2; simp [nl]
      · simp [nl, h2]
    · simp [nl, h1]
  · simp [hx]
abbrev cod (z : Str) : LN := z.cps.toList
theorem cod_inj {a b : Str} (h : cod a = cod b) : a = b := by rw [← S_eta a, ← S_eta b]; exact congrArg SX.S h
def row (ts : List Str) (i : Nat) : List Pl := (List.range (tx ts i).length).map fun j => (i, j)
def plN (ts : List Str) (n : Nat) : List Pl := (List.range n).flatMap (row ts)
def pl (ts : List Str) : List Pl := plN ts ts.length
theorem plN_succ (ts : List Str) (n : Nat) : plN ts (n + 1) = plN ts n ++ row ts n := by
  unfold plN
  rw [List.range_succ, List.flatMap_append]
  simp
theorem pl_mem {ts : List Str} {p : Pl} : p ∈ pl ts ↔ InT ts p := by
  unfold pl plN
  rw [List.mem_flatMap]
  constructor
  · rintro ⟨i, hi, h⟩
    obtain ⟨j, hj, rfl⟩ := List.mem_map.mp h
    exact ⟨List.mem_range.mp hi, List.mem_range.mp hj⟩
  · rintro ⟨h1, h2⟩
    exact ⟨p.1, List.mem_range.mpr h1, List.mem_map.mpr ⟨p.2, List.mem_range.mpr h2, rfl⟩⟩
theorem tx_len {ts : List Str} (h : ∀ t ∈ ts, t.length ≤ 200) (i : Nat) : (tx ts i).length ≤ 200 := by
  rcases Nat.lt_or_ge i ts.length with g | g
  · exact h _ (tx_mem g)
  · unfold tx
    rw [List.getD_eq_getElem?_getD, List.getElem?_eq_none (by omega)]
    exact Nat.zero_le _
theorem plN_len {ts : List Str} (h : ∀ t ∈ ts, t.length ≤ 200) (n : Nat) : (plN ts n).length ≤ 200 * n := by
  induction n with
  | zero => exact Nat.le_refl _
  | succ n ih =>
    rw [plN_succ, List.length_append]
    have : (row ts n).length = (tx ts n).length := by unfold row; rw [List.length_map, List.length_range]
    have := tx_len h n
    omega
/-- the ending from a place on -/
def sfx (ts : List Str) (p : Pl) : Str := cutS (tx ts p.1) (some ((p.2 : Nat) : Int)) none
theorem sfx_cod (ts : List Str) (p : Pl) : cod (sfx ts p) = (cod (tx ts p.1)).drop p.2 := cutS_from (Int.natCast_nonneg _)
theorem sfx_len (ts : List Str) (p : Pl) : (sfx ts p).length = (tx ts p.1).length - p.2 := by rw [len_S, len_S, ← List.length_drop]; exact congrArg List.length (sfx_cod ts p)
def enc (ts : List Str) (p : Pl) : PyData := .tuple [.str (sfx ts p), .int (p.1 : Nat), .int (p.2 : Nat)]
def leE (d e : PyData) : Bool := !dataLt e d
def leP (ts : List Str) (p q : Pl) : Bool := leE (enc ts p) (enc ts q)
theorem leP_eq (ts : List Str) (p q : Pl) : leP ts p q = true ↔ ¬ (cod (sfx ts q) < cod (sfx ts p) ∨ sfx ts q = sfx ts p ∧ ((q.1 : Int) < p.1 ∨ (q.1 : Int) = p.1 ∧ (q.2 : Int) < p.2)) := by
  unfold leP leE enc
  rw [dataLt_sii, Bool.not_eq_true', decide_eq_false_iff_not]
theorem leP_trans (ts : List Str) (a b c : Pl) (h : leP ts a b = true) (k : leP ts b c = true) : leP ts a c = true := by
  rw [leP_eq] at *
  rintro (e | ⟨e, f⟩)
  · exact lle (fun z => h (.inl z)) (fun z => k (.inl z)) e
  · have e1 : cod (sfx ts a) = cod (sfx ts b) := by
      rcases ltri (cod (sfx ts a)) (cod (sfx ts b)) with z | z | z
      · exact absurd (.inl (by rw [e]; exact z)) k
      · exact z
      · exact absurd (.inl z) h
    have e2 := cod_inj e1
    have n1 : ¬ ((b.1 : Int) < a.1 ∨ (b.1 : Int) = a.1 ∧ (b.2 : Int) < a.2) := fun z => h (.inr ⟨e2.symm, z⟩)
    have n2 : ¬ ((c.1 : Int) < b.1 ∨ (c.1 : Int) = b.1 ∧ (c.2 : Int) < b.2) := fun z => k (.inr ⟨e.trans e2, z⟩)
    omega
theorem leP_total (ts : List Str) (a b : Pl) : (leP ts a b || leP ts b a) = true := by
  rw [Bool.or_eq_true, leP_eq, leP_eq]
  refine Classical.byContradiction fun c => ?_
  rw [not_or, Classical.not_not, Classical.not_not] at c
  obtain ⟨x | ⟨x, f⟩, y | ⟨y, g⟩⟩ := c
  · exact lirr _ (ltr x y)
  · rw [y] at x; exact lirr _ x
  · rw [x] at y; exact lirr _ y
  · omega
/-- all places, by their endings -/
def ord (ts : List Str) : List Pl := (pl ts).mergeSort (leP ts)
theorem ord_perm (ts : List Str) : (ord ts).Perm (pl ts) := List.mergeSort_perm _ _
theorem ord_mem {ts : List Str} {p : Pl} : p ∈ ord ts ↔ InT ts p := by rw [← pl_mem]; exact (ord_perm ts).mem_iff
/-- the codes of the i-th ending -/
def sOf (ts : List Str) (i : Nat) : LN := cod (sfx ts ((ord ts).getD i (0, 0)))
theorem ordD {ts : List Str} {i : Nat} (h : i < (ord ts).length) : (ord ts)[i]? = some ((ord ts).getD i (0, 0)) ∧ InT ts ((ord ts).getD i (0, 0)) := by
  have e : (ord ts).getD i (0, 0) = (ord ts)[i] := by rw [List.getD_eq_getElem?_getD, List.getElem?_eq_getElem h]; rfl
  rw [e]
  exact ⟨List.getElem?_eq_getElem h, ord_mem.mp (List.getElem_mem h)⟩
theorem ord_srt (ts : List Str) : Srt (sOf ts) (ord ts).length := by
  intro i j hij hj e
  have p : (ord ts).Pairwise fun a b => leP ts a b = true := List.pairwise_mergeSort (leP_trans ts) (leP_total ts) (pl ts)
  have q := List.pairwise_iff_getElem.mp p i j (by omega) hj hij
  rw [leP_eq] at q
  unfold sOf at e
  rw [List.getD_eq_getElem?_getD, List.getD_eq_getElem?_getD, List.getElem?_eq_getElem hj, List.getElem?_eq_getElem (show i < (ord ts).length by omega)] at e
  exact q (.inl e)
/-! ### lists of pairs in the heap -/
def PsL (H : Hp) (a : Addr) (ps : List Pl) : Prop := ∃ vs, H a = some (.lst vs) ∧ All2 (PAt H) vs ps
theorem PsL.same {H H' : Hp} {a : Addr} {ps : List Pl} (k : Same H H') (h : PsL H a ps) : PsL H' a ps := let ⟨vs, e, q⟩ := h; ⟨vs, k _ _ e, q.imp fun _ _ r => r.same k⟩
/-- an ending and its place -/
def RAt (ts : List Str) (H : Hp) (v : V) (p : Pl) : Prop := ∃ b, v = .ref b ∧ H b = some (.tup [.str (sfx ts p), .int (p.1 : Nat), .int (p.2 : Nat)])
theorem RAt.same {ts : List Str} {H H' : Hp} {v : V} {p : Pl} (k : Same H H') (h : RAt ts H v p) : RAt ts H' v p := let ⟨b, e, q⟩ := h; ⟨b, e, k _ _ q⟩
theorem All2.zs {α β : Type} {R : α → β → Prop} {xs : List α} {ys : List β} (h : All2 R xs ys) : ∃ zs : List (α × β), xs = zs.map (·.1) ∧ ys = zs.map (·.2) ∧ ∀ z ∈ zs, R z.1 z.2 := by
  induction h with
  | nil => exact ⟨[], rfl, rfl, fun z h => absurd h (by simp)⟩
  | @cons x y xs ys r _ ih =>
    obtain ⟨zs, e1, e2, h⟩ := ih
    refine ⟨(x, y) :: zs, by rw [e1]; rfl, by rw [e2]; rfl, fun z hz => ?_⟩
    rcases List.mem_cons.mp hz with e | e
    · rw [e]; exact r
    · exact h z e
theorem All2.ofZ {α β : Type} {R : α → β → Prop} : ∀ {zs : List (α × β)}, (∀ z ∈ zs, R z.1 z.2) → All2 R (zs.map (·.1)) (zs.map (·.2))
  | [], _ => .nil
  | z :: zs, h => .cons (h z List.mem_cons_self) (All2.ofZ fun y hy => h y (List.mem_cons_of_mem _ hy))
theorem enc_depth (ts : List Str) (p : Pl) : (enc ts p).depth ≤ 60 := by
  unfold enc
  simp [PyData.depth, PyData.depthAll]
theorem enc_alike (ts : List Str) (p q : Pl) : alike (enc ts p) (enc ts q) = true := by
  unfold enc
  simp [alike, alikeAll]
theorem enc_dp {ts : List Str} {K : PySem.W.Frag} {H : Hp} {v : V} {p : Pl} (h : RAt ts H v p) : Dp K H v (enc ts p) := by
  obtain ⟨b, rfl, e⟩ := h
  exact .tup (SqT.of e) (.cons (.str _) (.cons (.int _) (.cons (.int _) .nil)))
/-- sorted of a list of rows -/
theorem sorted_rows {ts : List Str} {K : PySem.W.Frag} {H : Hp} {a : Addr} {vs : List V} {ps : List Pl} {Q : VK} (ha : H a = some (.lst vs)) (h : All2 (RAt ts H) vs ps)
    (q : ∀ p vs', H p = none → All2 (RAt ts H) vs' (ps.mergeSort (leP ts)) → Q (.ref p) (upd H p (.lst vs'))) : rSortedD K [.ref a] H Q := by
  obtain ⟨zs, rfl, rfl, hz⟩ := h.zs
  have em : ∀ z : V × Pl, z ∈ zs → z ∈ zs := fun _ h => h
  refine ⟨a, zs.map (fun z => (z.1, enc ts z.2)), rfl, ?_, ?_, ?_, ?_, ?_, fun p np => ?_⟩
  · rw [List.map_map]; exact sq_of ha
  · intro b hb
    obtain ⟨z, hz', rfl⟩ := List.mem_map.mp hb
    exact enc_dp (hz z hz')
  · rw [List.map_map]
    exact AllAlike.of (enc := fun z : V × Pl => enc ts z.2) fun b b' => enc_alike ts _ _
  · rw [List.map_map]
    exact Sortable.tuples (enc := fun z : V × Pl => enc ts z.2) fun b => ⟨_, _, rfl⟩
  · intro b hb
    obtain ⟨z, hz', rfl⟩ := List.mem_map.mp hb
    exact enc_depth ts z.2
  · have e1 : (zs.map fun z => ((z.1, enc ts z.2) : DV)).mergeSort leD = (zs.mergeSort fun z w => leP ts z.2 w.2).map fun z => (z.1, enc ts z.2) := (List.map_mergeSort (r := fun z w : V × Pl => leP ts z.2 w.2) (s := leD) (f := fun z : V × Pl => ((z.1, enc ts z.2) : DV)) (l := zs) fun x _ y _ => rfl).symm
    have e2 : (zs.map (·.2)).mergeSort (leP ts) = (zs.mergeSort fun z w => leP ts z.2 w.2).map (·.2) := (List.map_mergeSort (r := fun z w : V × Pl => leP ts z.2 w.2) (s := leP ts) (f := fun z : V × Pl => z.2) (l := zs) fun x _ y _ => rfl).symm
    rw [e2] at q
    rw [e1, List.map_map]
    exact q p _ np (All2.ofZ fun z hz' => hz z ((List.mergeSort_perm _ _).mem_iff.mp hz'))
end LawK
set_option maxHeartbeats 4000000
namespace LawK
open PySem PySem.Spec PyProof.Rows L2 Ev

theorem walk_en {K : PySem.W.Frag} {a : Addr} {xs : List V} : Walk (Iten K a) xs.length (fun H => SqT K H a xs) (YPair (fun i => some (.int (i : Nat))) (fun i => xs[i]?)) := by
  refine ⟨fun i _ hi q => ⟨xs, xs[i], q, by simp [hi]⟩, fun _ q => ⟨xs, q, Nat.le_refl _⟩, fun i H v H' _ q y => ?_⟩
  obtain ⟨T, x, h1, h2, h3, h4⟩ := y
  exact ⟨T, .int (i : Nat), x, h1, h2, h3, rfl, h4 xs q⟩
def spAllPlaces (C : Addr) : Sp := fun vs H Q _ => ∃ (s : Addr) (ts : List Str), vs = [.ref s] ∧ LibAt H C s ts ∧ ∀ a H', Same H H' → H a = none → PsL H' a (pl ts) → Q (.ref a) H'
def spInOrder (C : Addr) : Sp := fun vs H Q _ => ∃ (s f : Addr) (ts : List Str) (ps : List Pl), vs = [.ref s, .ref f] ∧ LibAt H C s ts ∧ PsL H f ps ∧ ps.length ≤ 2000 ∧ (∀ p ∈ ps, InT ts p) ∧ ∀ a H', Same H H' → H a = none → PsL H' a (ps.mergeSort (leP ts)) → Q (.ref a) H'
def spEndings (C : Addr) : Sp := fun vs H Q _ => ∃ (s : Addr) (ts : List Str), vs = [.ref s] ∧ LibAt H C s ts ∧ ∀ a H', Same H H' → H a = none → PsL H' a (ord ts) → Q (.ref a) H'
def spEnding (C : Addr) : Sp := fun vs H Q _ => ∃ (s : Addr) (ts : List Str) (v : V) (p : Pl), vs = [.ref s, v] ∧ LibAt H C s ts ∧ PAt H v p ∧ InT ts p ∧ Q (.str (sfx ts p)) H
/-- the law's texts -/
structure TsAt (H : Hp) (a : Addr) (ts : List Str) : Prop where
  at_ : H a = some (.tup (ts.map V.str))
  few : ts.length ≤ 8
  sg : ∀ t ∈ ts, sgB t = true
  len : ∀ t ∈ ts, t.length ≤ 200
theorem TsAt.same {H H' : Hp} {a : Addr} {ts : List Str} (k : Same H H') (h : TsAt H a ts) : TsAt H' a ts := ⟨k _ _ h.at_, h.few, h.sg, h.len⟩
def spLOrder : Sp := fun vs H Q _ => ∃ (a : Addr) (ts : List Str), vs = [.ref a] ∧ TsAt H a ts ∧ ∀ b H', Same H H' → H b = none → PsL H' b (ord ts) → Q (.ref b) H'
def spLPlaces : Sp := fun vs H Q _ => ∃ (a : Addr) (ts : List Str), vs = [.ref a] ∧ TsAt H a ts ∧ ∀ b H', Same H H' → H b = none → PsL H' b (pl ts) → Q (.ref b) H'
def spLEnding : Sp := fun vs H Q _ => ∃ (a : Addr) (ts : List Str) (v : V) (p : Pl), vs = [.ref a, v] ∧ TsAt H a ts ∧ PAt H v p ∧ InT ts p ∧ Q (.str (sfx ts p)) H
theorem add_pair {H : Hp} {D b : Addr} {us : List V} {ps : List Pl} {i j : Nat} {y : V} (nb : H b = none) (hD : H D = some (.lst us)) (hu : All2 (PAt H) us ps) (hy : y = .int (j : Nat)) : All2 (PAt (upd (upd H b (.tup [.int (i : Nat), y])) D (.lst (us ++ [.ref b])))) (us ++ [.ref b]) (ps ++ [(i, j)]) := by
  have nDb : b ≠ D := fun e => by rw [e, hD] at nb; cases nb
  subst hy
  refine All2.snoc (hu.imp fun _ _ ⟨c, e, r⟩ => ⟨c, e, ?_⟩) ⟨b, rfl, ?_⟩
  · rw [upd_ne nDb, upd_same]
  · have ncD : c ≠ D := fun e => by rw [e, hD] at r; cases r
    rw [upd_ne ncD]
    exact (Same.new nb) _ _ r
theorem row_take (ts : List Str) (i j : Nat) (h : j < (tx ts i).length) : (List.range (j + 1)).map (fun k => ((i, k) : Pl)) = (List.range j).map (fun k => (i, k)) ++ [(i, j)] := by
  rw [List.range_succ, List.map_append]
  rfl
theorem All2.app {α β : Type} {R : α → β → Prop} {xs zs : List α} {ys us : List β} (h : All2 R xs ys) (k : All2 R zs us) : All2 R (xs ++ zs) (ys ++ us) := by
  induction h with
  | nil => exact k
  | cons r _ ih => exact .cons r ih
theorem All2.of_at {α β : Type} {R : α → β → Prop} {xs : List α} {ys : List β} (h : All2 R xs ys) {i : Nat} {y : β} (e : ys[i]? = some y) : ∃ x, xs[i]? = some x ∧ R x y := by
  induction h generalizing i with
  | nil => simp at e
  | cons r _ ih => cases i with
    | zero => cases e; exact ⟨_, rfl, r⟩
    | succ i => exact ih e
section
variable {P : Program} {w : World} {K : PySem.W.Frag} {mg : Str → Option Value} {base : Heap}
variable {C fI : Addr} {fdI : FuncData}
end
end LawK
set_option maxHeartbeats 4000000
namespace LawK
open PySem PySem.Spec PyProof.Rows L2 Ev

theorem take_snoc {α : Type} {xs : List α} {i : Nat} {x : α} (h : xs[i]? = some x) : xs.take (i + 1) = xs.take i ++ [x] := by rw [List.take_succ, h]; rfl
theorem add_row {ts : List Str} {H : Hp} {D b : Addr} {us : List V} {ps : List Pl} {p : Pl} {z : Str} (hz : z = sfx ts p) (nb : H b = none) (hD : H D = some (.lst us)) (hu : All2 (RAt ts H) us ps) : All2 (RAt ts (upd (upd H b (.tup [.str z, .int (p.1 : Nat), .int (p.2 : Nat)])) D (.lst (us ++ [.ref b])))) (us ++ [.ref b]) (ps ++ [p]) := by
  have nDb : b ≠ D := fun e => by rw [e, hD] at nb; cases nb
  subst hz
  refine All2.snoc (hu.imp fun _ _ ⟨c, e, r⟩ => ⟨c, e, ?_⟩) ⟨b, rfl, ?_⟩
  · rw [upd_ne nDb, upd_same]
  · have ncD : c ≠ D := fun e => by rw [e, hD] at r; cases r
    rw [upd_ne ncD]
    exact (Same.new nb) _ _ r
theorem all_at {α β : Type} {R : α → β → Prop} {xs : List α} {ys : List β} (h : All2 R xs ys) {i : Nat} {x : α} (e : xs[i]? = some x) : ∃ y, ys[i]? = some y ∧ R x y := h.at e
/-- from rows in order to their places -/
def tRows (K : PySem.W.Frag) (ts : List Str) (H0 : Hp) (D : Addr) (qs : List Pl) (i : Nat) (H' : Hp) : Prop := Same H0 H' ∧ ∃ us, H' D = some (.lst us) ∧ All2 (PAt H') us (qs.take i)
section
variable {P : Program} {w : World} {K : PySem.W.Frag} {mg : Str → Option Value} {base : Heap}
variable {C fI : Addr} {fdI : FuncData}
end
end LawK
set_option maxHeartbeats 4000000
namespace LawK
open PySem PySem.Spec PyProof.Rows L2 Ev
section
variable {P : Program} {w : World} {K : PySem.W.Frag} {mg : Str → Option Value} {base : Heap}
variable {C fI : Addr} {fdI : FuncData}
end
end LawK
set_option linter.all false
set_option maxRecDepth 100000
set_option maxHeartbeats 4000000
/-! Rows: texts' ends and endings in one order, how they lead to one another, and what is found from behind. Plain lists. -/
namespace RowM
abbrev LN := List Nat
abbrev Pl := Nat × Nat
theorem ltc {a b : Nat} {x y : LN} : (a :: x < b :: y) ↔ (a < b ∨ a = b ∧ x < y) := List.cons_lt_cons_iff
theorem lirr (x : LN) : ¬ x < x := List.lt_irrefl x
theorem ltr {x y z : LN} (h : x < y) (k : y < z) : x < z := List.lt_trans h k
def sf (tx : Nat → LN) (p : Pl) : LN := (tx p.1).drop p.2
def plt (p q : Pl) : Prop := p.1 < q.1 ∨ p.1 = q.1 ∧ p.2 < q.2
instance (p q : Pl) : Decidable (plt p q) := inferInstanceAs (Decidable (_ ∨ _))
def lt (tx : Nat → LN) (p q : Pl) : Prop := sf tx p < sf tx q ∨ sf tx p = sf tx q ∧ plt p q
instance (tx : Nat → LN) (p q : Pl) : Decidable (lt tx p q) := inferInstanceAs (Decidable (_ ∨ _))
def sg (tx : Nat → LN) (p : Pl) : LN := ((tx p.1).take p.2).drop (p.2 - 1)
def prd (p : Pl) : Pl := (p.1, p.2 - 1)
theorem plt_asy {p q : Pl} (h : plt p q) : ¬ plt q p := fun k => by
  unfold plt at h k
  omega
theorem lt_asy {tx : Nat → LN} {p q : Pl} (h : lt tx p q) : ¬ lt tx q p := fun k => by
  rcases h with h | ⟨e, h⟩
  · rcases k with k | ⟨e2, k⟩
    · exact lirr _ (ltr h k)
    · rw [e2] at h; exact lirr _ h
  · rcases k with k | ⟨e2, k⟩
    · rw [e] at k; exact lirr _ k
    · exact plt_asy h k
theorem lt_irr {tx : Nat → LN} {p : Pl} : ¬ lt tx p p := fun h => lt_asy h h
/-- as many as another list, at most -/
theorem le_of_inj {α β : Type} (f : α → β) : ∀ {l1 : List α} {l2 : List β}, l1.Nodup → (∀ x ∈ l1, ∀ y ∈ l1, f x = f y → x = y) → (∀ x ∈ l1, f x ∈ l2) → l1.length ≤ l2.length
  | [], l2, _, _, _ => Nat.zero_le _
  | x :: xs, l2, nd, inj, m => by
    obtain ⟨a, b, rfl⟩ := List.append_of_mem (m x (List.mem_cons_self ..))
    obtain ⟨n1, n2⟩ := List.nodup_cons.mp nd
    have := le_of_inj f (l2 := a ++ b) n2 (fun u hu v hv e => inj u (List.mem_cons_of_mem _ hu) v (List.mem_cons_of_mem _ hv) e) (fun u hu => by
      have h := m u (List.mem_cons_of_mem _ hu)
      have ne : f u ≠ f x := fun e => n1 (inj u (List.mem_cons_of_mem _ hu) x (List.mem_cons_self ..) e ▸ hu)
      rcases List.mem_append.mp h with h | h
      · exact List.mem_append_left _ h
      · rcases List.mem_cons.mp h with h | h
        · exact absurd h ne
        · exact List.mem_append_right _ h)
    simp only [List.length_append, List.length_cons] at this ⊢
    omega
/-- the entries: texts' ends, then the endings in order -/
structure Ents (tx : Nat → LN) (T : Nat) (E : List Pl) : Prop where
  asc : E.Pairwise (lt tx)
  mem : ∀ p, p ∈ E ↔ p.1 < T ∧ p.2 ≤ (tx p.1).length
section
variable {tx : Nat → LN} {T : Nat} {E : List Pl}
theorem Ents.mk2 {ord : List Pl} (hs : ord.Pairwise (lt tx)) (hm : ∀ p, p ∈ ord ↔ p.1 < T ∧ p.2 < (tx p.1).length) : Ents tx T ((List.range T).map (fun i => (i, (tx i).length)) ++ ord) := by
  refine ⟨List.pairwise_append.mpr ⟨?_, hs, ?_⟩, fun p => ?_⟩
  · rw [List.pairwise_map]
    refine (List.pairwise_lt_range (n := T)).imp fun {a b} h => .inr ⟨?_, .inl h⟩
    unfold sf
    simp
  · intro a ha b hb
    obtain ⟨i, _, rfl⟩ := List.mem_map.mp ha
    refine .inl ?_
    have := (hm b).mp hb
    unfold sf
    simp only [List.drop_length]
    cases e : List.drop b.2 (tx b.1) with
    | nil => have := List.drop_eq_nil_iff.mp e; omega
    | cons c r => exact List.nil_lt_cons c r
  · rw [List.mem_append, hm, List.mem_map]
    constructor
    · rintro (⟨i, hi, rfl⟩ | ⟨h1, h2⟩)
      · exact ⟨List.mem_range.mp hi, Nat.le_refl _⟩
      · exact ⟨h1, Nat.le_of_lt h2⟩
    · rintro ⟨h1, h2⟩
      by_cases e : p.2 = (tx p.1).length
      · exact .inl ⟨p.1, List.mem_range.mpr h1, by rw [← e]⟩
      · exact .inr ⟨h1, by omega⟩
theorem Ents.nd (h : Ents tx T E) : E.Nodup := h.asc.imp fun {a b} l e => by rw [e] at l; exact lt_irr l
/-- an entry's number is how many are less -/
theorem Ents.idx (h : Ents tx T E) {k : Nat} {p : Pl} (e : E[k]? = some p) : (E.filter fun q => decide (lt tx q p)).length = k := by
  have hk : k < E.length := (List.getElem?_eq_some_iff.mp e).1
  have ep : E[k] = p := (List.getElem?_eq_some_iff.mp e).2
  have pw := List.pairwise_iff_getElem.mp h.asc
  have s : E = E.take k ++ E.drop k := (List.take_append_drop k E).symm
  have f1 : (E.take k).filter (fun q => decide (lt tx q p)) = E.take k := List.filter_eq_self.mpr fun q hq => by
    obtain ⟨i, hi, rfl⟩ := List.mem_iff_getElem.mp hq
    rw [List.length_take] at hi
    rw [List.getElem_take]
    exact decide_eq_true (ep ▸ pw i k (by omega) hk (by omega))
  have f2 : (E.drop k).filter (fun q => decide (lt tx q p)) = [] := List.filter_eq_nil_iff.mpr fun q hq => by
    obtain ⟨i, hi, rfl⟩ := List.mem_iff_getElem.mp hq
    rw [List.length_drop] at hi
    rw [List.getElem_drop]
    intro z
    have z := of_decide_eq_true z
    rcases Nat.eq_zero_or_pos i with rfl | g
    · rw [show E[k + 0] = p from ep] at z
      exact lt_irr z
    · exact lt_asy z (ep ▸ pw k (k + i) hk (by omega) (by omega))
  have g : (E.filter fun q => decide (lt tx q p)) = (E.take k).filter (fun q => decide (lt tx q p)) ++ (E.drop k).filter (fun q => decide (lt tx q p)) := by
    rw [← List.filter_append, ← s]
  rw [g, f1, f2, List.append_nil, List.length_take]
  omega
theorem sf_prd {p : Pl} (h : 0 < p.2) (l : p.2 ≤ (tx p.1).length) : ∃ c, sg tx p = [c] ∧ sf tx (prd p) = c :: sf tx p := by
  unfold sg sf prd
  have e : (tx p.1).drop (p.2 - 1) = ((tx p.1).take p.2).drop (p.2 - 1) ++ (tx p.1).drop p.2 := by
    conv => lhs; rw [← List.take_append_drop p.2 (tx p.1)]
    rw [List.drop_append_of_le_length (by rw [List.length_take]; omega)]
  have ln : (((tx p.1).take p.2).drop (p.2 - 1)).length = 1 := by
    rw [List.length_drop, List.length_take]; omega
  match hh : ((tx p.1).take p.2).drop (p.2 - 1), ln with
  | [c], _ =>
    refine ⟨c, rfl, ?_⟩
    show (tx p.1).drop (p.2 - 1) = _
    rw [e, hh]
    rfl
theorem sg_zero {p : Pl} (h : p.2 = 0) : sg tx p = [] := by unfold sg; rw [h]; rfl
theorem nil_lt {x : LN} (h : x ≠ []) : [] < x := by
  cases x with
  | nil => exact absurd rfl h
  | cons a x => exact List.nil_lt_cons a x
/-- one on, within its text, and from the end to the beginning -/
def nx (tx : Nat → LN) (r : Pl) : Pl := if r.2 = (tx r.1).length then (r.1, 0) else (r.1, r.2 + 1)
def bk (tx : Nat → LN) (q : Pl) : Pl := if q.2 = 0 then (q.1, (tx q.1).length) else (q.1, q.2 - 1)
theorem nx_mem (h : Ents tx T E) {r : Pl} (m : r ∈ E) : nx tx r ∈ E := by
  have m := (h.mem r).mp m
  unfold nx
  split
  · exact (h.mem _).mpr ⟨m.1, Nat.zero_le _⟩
  · exact (h.mem _).mpr ⟨m.1, by show r.2 + 1 ≤ (tx r.1).length; omega⟩
theorem bk_mem (h : Ents tx T E) {r : Pl} (m : r ∈ E) : bk tx r ∈ E := by
  have m := (h.mem r).mp m
  unfold bk
  split
  · exact (h.mem _).mpr ⟨m.1, Nat.le_refl _⟩
  · exact (h.mem _).mpr ⟨m.1, by show r.2 - 1 ≤ (tx r.1).length; omega⟩
theorem nx_bk (h : Ents tx T E) {q : Pl} (m : q ∈ E) : nx tx (bk tx q) = q := by
  have m := (h.mem q).mp m
  obtain ⟨i, a⟩ := q
  unfold bk nx
  by_cases e : a = 0
  · simp [e]
  · have : ¬ a - 1 = (tx i).length := fun z => by have := m.2; simp only at this; omega
    simp only [e, if_false, this]
    rw [show a - 1 + 1 = a by omega]
theorem bk_nx (h : Ents tx T E) {q : Pl} (m : q ∈ E) : bk tx (nx tx q) = q := by
  have m := (h.mem q).mp m
  obtain ⟨i, a⟩ := q
  unfold bk nx
  by_cases e : a = (tx i).length
  · simp [e]
  · simp [e]
/-- counts over all entries, turned one on -/
theorem cnt_nx (h : Ents tx T E) (A B : Pl → Bool) (e : ∀ r ∈ E, A r = B (nx tx r)) : (E.filter A).length = (E.filter B).length := by
  refine Nat.le_antisymm (le_of_inj (nx tx) (h.nd.filter _) (fun x hx y hy z => ?_) fun x hx => ?_) (le_of_inj (bk tx) (h.nd.filter _) (fun x hx y hy z => ?_) fun x hx => ?_)
  · have hx := (List.mem_filter.mp hx).1
    have hy := (List.mem_filter.mp hy).1
    rw [← bk_nx h hx, z, bk_nx h hy]
  · obtain ⟨h1, h2⟩ := List.mem_filter.mp hx
    exact List.mem_filter.mpr ⟨nx_mem h h1, by rw [← e x h1]; exact h2⟩
  · have hx := (List.mem_filter.mp hx).1
    have hy := (List.mem_filter.mp hy).1
    rw [← nx_bk h hx, z, nx_bk h hy]
  · obtain ⟨h1, h2⟩ := List.mem_filter.mp hx
    exact List.mem_filter.mpr ⟨bk_mem h h1, by rw [e _ (bk_mem h h1), nx_bk h h1]; exact h2⟩
/-- less: the sign ahead, then the entry's number -/
def lx (tx : Nat → LN) (q p : Pl) : Bool := decide (sg tx q < sg tx p) || (decide (sg tx q = sg tx p) && decide (lt tx q p))
theorem lt_lx (h : Ents tx T E) {r p : Pl} (m : r ∈ E) (mp : p ∈ E) (hp : 0 < p.2) : decide (lt tx r (prd p)) = lx tx (nx tx r) p := by
  have m := (h.mem r).mp m
  have mp := (h.mem p).mp mp
  obtain ⟨c, ec, es⟩ := sf_prd hp mp.2
  unfold lx
  by_cases e : r.2 = (tx r.1).length
  · have e0 : nx tx r = (r.1, 0) := by unfold nx; rw [if_pos e]
    rw [e0, sg_zero (p := (r.1, 0)) rfl, ec, decide_eq_true (List.nil_lt_cons c []), Bool.true_or]
    refine decide_eq_true (.inl ?_)
    rw [es]
    unfold sf
    rw [e, List.drop_length]
    exact List.nil_lt_cons _ _
  · have e1 : nx tx r = (r.1, r.2 + 1) := by unfold nx; rw [if_neg e]
    obtain ⟨d, ed, er⟩ := sf_prd (tx := tx) (p := (r.1, r.2 + 1)) (Nat.succ_pos _) (by show r.2 + 1 ≤ (tx r.1).length; omega)
    have er : sf tx r = d :: sf tx (r.1, r.2 + 1) := er
    rw [e1, ed, ec]
    rw [Bool.eq_iff_iff, Bool.or_eq_true, Bool.and_eq_true, decide_eq_true_eq, decide_eq_true_eq, decide_eq_true_eq, decide_eq_true_eq]
    unfold lt
    rw [es, er, ltc, ltc]
    have pe : plt r (prd p) ↔ plt (r.1, r.2 + 1) p := by
      unfold plt prd
      show (r.1 < p.1 ∨ r.1 = p.1 ∧ r.2 < p.2 - 1) ↔ (r.1 < p.1 ∨ r.1 = p.1 ∧ r.2 + 1 < p.2)
      omega
    rw [pe]
    constructor
    · rintro ((k | ⟨k, k2⟩) | ⟨k, k2⟩)
      · exact .inl (.inl k)
      · exact .inr ⟨by rw [k], .inl k2⟩
      · injection k with k k3
        exact .inr ⟨by rw [k], .inr ⟨k3, k2⟩⟩
    · rintro ((k | ⟨_, k2⟩) | ⟨k, k2 | ⟨k2, k3⟩⟩)
      · exact .inl (.inl k)
      · exact absurd k2 (lirr _)
      · injection k with k
        exact .inl (.inr ⟨k, k2⟩)
      · injection k with k
        exact .inr ⟨by rw [k, k2], k3⟩
/-- the sign ahead of an entry itself begins the entry of this number -/
theorem leads (h : Ents tx T E) {k : Nat} {p : Pl} (e : E[k]? = some p) (hp : 0 < p.2) : E[(E.filter fun q => lx tx q p).length]? = some (prd p) := by
  have mp : p ∈ E := List.mem_of_getElem? e
  have m2 : prd p ∈ E := (h.mem _).mpr ⟨((h.mem _).mp mp).1, by have := ((h.mem _).mp mp).2; unfold prd; show p.2 - 1 ≤ (tx p.1).length; omega⟩
  obtain ⟨j, ej⟩ := List.getElem?_of_mem m2
  have a := h.idx ej
  have b := cnt_nx h (fun r => decide (lt tx r (prd p))) (fun q => lx tx q p) fun r hr => lt_lx h hr mp hp
  rw [← b, a]
  exact ej
/-- the entries less than a word, and these and those that begin with it -/
def lo (tx : Nat → LN) (E : List Pl) (w : LN) : Nat := (E.filter fun q => decide (sf tx q < w)).length
def hi (tx : Nat → LN) (E : List Pl) (w : LN) : Nat := (E.filter fun q => decide (sf tx q < w) || decide (w <+: sf tx q)).length
/-- how many signs are less -/
def less (tx : Nat → LN) (E : List Pl) (c : Nat) : Nat := (E.filter fun q => decide (sg tx q < [c])).length
/-- how many times a sign stands ahead of a number -/
def cn (tx : Nat → LN) (E : List Pl) (c n : Nat) : Nat := ((E.take n).filter fun q => decide (sg tx q = [c])).length
theorem filter_len_or {α : Type} (A B : α → Bool) (l : List α) (d : ∀ x ∈ l, A x = true → B x = true → False) : (l.filter fun x => A x || B x).length = (l.filter A).length + (l.filter B).length := by
  induction l with
  | nil => rfl
  | cons x l ih =>
    have ih := ih fun y hy => d y (List.mem_cons_of_mem _ hy)
    have d0 := d x (List.mem_cons_self ..)
    simp only [List.filter_cons]
    cases ha : A x <;> cases hb : B x <;> simp_all <;> omega
/-- a lot of entries that goes down with the order is the first so many -/
theorem down (h : Ents tx T E) (A : Pl → Bool) (d : ∀ q ∈ E, ∀ p ∈ E, A p = true → lt tx q p → A q = true) : E.filter A = E.take (E.filter A).length := by
  have pw := h.asc
  clear h
  induction E with
  | nil => rfl
  | cons x l ih =>
    obtain ⟨p1, p2⟩ := List.pairwise_cons.mp pw
    have ih := ih (fun q hq p hp => d q (List.mem_cons_of_mem _ hq) p (List.mem_cons_of_mem _ hp)) p2
    rw [List.filter_cons]
    cases ha : A x with
    | true =>
      rw [if_pos rfl, List.length_cons, List.take_succ_cons]
      exact congrArg _ ih
    | false =>
      rw [if_neg (by decide)]
      have : l.filter A = [] := List.filter_eq_nil_iff.mpr fun q hq z => by
        have := d x (List.mem_cons_self ..) q (List.mem_cons_of_mem _ hq) z (p1 q hq)
        rw [ha] at this
        cases this
      rw [this]
      rfl
theorem sf_lt_down (h : Ents tx T E) (w : LN) : E.filter (fun q => decide (sf tx q < w)) = E.take (lo tx E w) := down h _ fun q _ p _ a l => by
  have a := of_decide_eq_true a
  refine decide_eq_true ?_
  rcases l with l | ⟨l, _⟩
  · exact ltr l a
  · rw [l]; exact a
theorem pre_lt {w x : LN} : w <+: x → ¬ x < w := by
  induction w generalizing x with
  | nil => exact fun _ z => List.not_lt_nil _ z
  | cons a w ih =>
    intro h
    obtain ⟨r, rfl⟩ := h
    show ¬ a :: (w ++ r) < a :: w
    rw [ltc]
    rintro (z | ⟨_, z⟩)
    · exact Nat.lt_irrefl _ z
    · exact ih (List.prefix_append _ _) z
/-- what lies ahead of a text that begins with a word is less, or begins with it -/
theorem pre_down {w x y : LN} : x < y → w <+: y → x < w ∨ w <+: x := by
  induction w generalizing x y with
  | nil => exact fun _ _ => .inr List.nil_prefix
  | cons a w ih =>
    rintro l ⟨r, rfl⟩
    cases x with
    | nil => exact .inl (List.nil_lt_cons _ _)
    | cons b x =>
      rcases (ltc (a := b) (b := a) (x := x) (y := w ++ r)).mp l with l2 | ⟨rfl, l2⟩
      · exact .inl (ltc.mpr (.inl l2))
      · rcases ih l2 (List.prefix_append w r) with k | k
        · exact .inl (ltc.mpr (.inr ⟨rfl, k⟩))
        · exact .inr (List.cons_prefix_cons.mpr ⟨rfl, k⟩)
theorem sf_hi_down (h : Ents tx T E) (w : LN) : E.filter (fun q => decide (sf tx q < w) || decide (w <+: sf tx q)) = E.take (hi tx E w) := down h _ fun q _ p _ a l => by
  rw [Bool.or_eq_true, decide_eq_true_eq, decide_eq_true_eq] at a ⊢
  rcases l with l | ⟨l, _⟩
  · rcases a with a | a
    · exact .inl (ltr l a)
    · exact pre_down l a
  · rw [l]; exact a
theorem cn_filter (A : Pl → Bool) (n : Nat) (e : E.filter A = E.take n) (c : Nat) : cn tx E c n = (E.filter fun q => decide (sg tx q = [c]) && A q).length := by
  unfold cn
  rw [← e, List.filter_filter]
/-- one sign more ahead of a word -/
theorem lo_cons (h : Ents tx T E) (c : Nat) (w : LN) : lo tx E (c :: w) = less tx E c + cn tx E c (lo tx E w) := by
  rw [cn_filter _ _ (sf_lt_down h w)]
  unfold less lo
  rw [← filter_len_or _ _ _ (fun x _ a b => by
    have a := of_decide_eq_true a
    have b := of_decide_eq_true (Bool.and_eq_true_iff.mp b).1
    rw [b] at a
    exact lirr _ a)]
  refine cnt_nx h _ _ fun r hr => ?_
  have m := (h.mem r).mp hr
  by_cases e : r.2 = (tx r.1).length
  · have e0 : nx tx r = (r.1, 0) := by unfold nx; rw [if_pos e]
    rw [e0, sg_zero (p := (r.1, 0)) rfl, decide_eq_true (List.nil_lt_cons c []), Bool.true_or]
    refine decide_eq_true ?_
    unfold sf
    rw [e, List.drop_length]
    exact List.nil_lt_cons _ _
  · have e1 : nx tx r = (r.1, r.2 + 1) := by unfold nx; rw [if_neg e]
    obtain ⟨d, ed, er⟩ := sf_prd (tx := tx) (p := (r.1, r.2 + 1)) (Nat.succ_pos _) (by show r.2 + 1 ≤ (tx r.1).length; omega)
    have er : sf tx r = d :: sf tx (r.1, r.2 + 1) := er
    rw [e1, ed, er, Bool.eq_iff_iff, Bool.or_eq_true, Bool.and_eq_true, decide_eq_true_eq, decide_eq_true_eq, decide_eq_true_eq, decide_eq_true_eq, ltc, ltc]
    constructor
    · rintro (k | ⟨rfl, k⟩)
      · exact .inl (.inl k)
      · exact .inr ⟨rfl, k⟩
    · rintro ((k | ⟨_, k⟩) | ⟨k, k2⟩)
      · exact .inl k
      · exact absurd k (lirr _)
      · injection k with k
        exact .inr ⟨k, k2⟩
theorem hi_cons (h : Ents tx T E) (c : Nat) (w : LN) : hi tx E (c :: w) = less tx E c + cn tx E c (hi tx E w) := by
  rw [cn_filter _ _ (sf_hi_down h w)]
  unfold less hi
  rw [← filter_len_or _ _ _ (fun x _ a b => by
    have a := of_decide_eq_true a
    have b := of_decide_eq_true (Bool.and_eq_true_iff.mp b).1
    rw [b] at a
    exact lirr _ a)]
  refine cnt_nx h _ _ fun r hr => ?_
  have m := (h.mem r).mp hr
  by_cases e : r.2 = (tx r.1).length
  · have e0 : nx tx r = (r.1, 0) := by unfold nx; rw [if_pos e]
    rw [e0, sg_zero (p := (r.1, 0)) rfl, decide_eq_true (List.nil_lt_cons c []), Bool.true_or]
    rw [Bool.or_eq_true]
    refine .inl (decide_eq_true ?_)
    unfold sf
    rw [e, List.drop_length]
    exact List.nil_lt_cons _ _
  · have e1 : nx tx r = (r.1, r.2 + 1) := by unfold nx; rw [if_neg e]
    obtain ⟨d, ed, er⟩ := sf_prd (tx := tx) (p := (r.1, r.2 + 1)) (Nat.succ_pos _) (by show r.2 + 1 ≤ (tx r.1).length; omega)
    have er : sf tx r = d :: sf tx (r.1, r.2 + 1) := er
    rw [e1, ed, er, Bool.eq_iff_iff]
    simp only [Bool.or_eq_true, Bool.and_eq_true, decide_eq_true_eq]
    rw [ltc, ltc, List.cons_prefix_cons]
    constructor
    · rintro ((k | ⟨rfl, k⟩) | ⟨rfl, k⟩)
      · exact .inl (.inl k)
      · exact .inr ⟨rfl, .inl k⟩
      · exact .inr ⟨rfl, .inr k⟩
    · rintro ((k | ⟨_, k⟩) | ⟨k, k2⟩)
      · exact .inl (.inl k)
      · exact absurd k (lirr _)
      · injection k with k
        rcases k2 with k2 | k2
        · exact .inl (.inr ⟨k, k2⟩)
        · exact .inr ⟨k.symm, k2⟩
theorem lo_nil : lo tx E [] = 0 := by
  unfold lo
  rw [List.filter_eq_nil_iff.mpr fun q _ z => List.not_lt_nil _ (of_decide_eq_true z)]
  rfl
theorem hi_nil : hi tx E [] = E.length := by
  unfold hi
  rw [List.filter_eq_self.mpr fun q _ => by rw [decide_eq_true (List.nil_prefix : ([] : LN) <+: sf tx q), Bool.or_true]]
theorem lo_le_hi (w : LN) : hi tx E w = lo tx E w + (E.filter fun q => decide (w <+: sf tx q)).length := by
  unfold lo hi
  exact filter_len_or _ _ _ fun x _ a b => pre_lt (of_decide_eq_true b) (of_decide_eq_true a)
end
/-- in an ascending list a part's number is how many parts are less -/
theorem idx_of {α : Type} (R : α → α → Bool) (asy : ∀ a b, R a b = true → R b a = false) {l : List α} (pw : l.Pairwise (fun a b => R a b = true)) {k : Nat} {p : α} (e : l[k]? = some p) : (l.filter fun q => R q p).length = k := by
  have irr : ∀ a, R a a = false := fun a => by
    cases h : R a a with
    | false => rfl
    | true => rw [← h]; exact asy a a h
  induction l generalizing k with
  | nil => cases e
  | cons x l ih =>
    obtain ⟨p1, p2⟩ := List.pairwise_cons.mp pw
    cases k with
    | zero =>
      obtain rfl : x = p := Option.some.inj e
      rw [List.filter_cons, irr x, if_neg (by decide), List.filter_eq_nil_iff.mpr fun q hq z => by
        have := asy _ _ (p1 q hq)
        rw [this] at z
        cases z]
      rfl
    | succ k =>
      have e : l[k]? = some p := e
      rw [List.filter_cons, if_pos (p1 p (List.mem_of_getElem? e)), List.length_cons, ih p2 e]
section
variable {tx : Nat → LN} {T : Nat} {E : List Pl}
/-- numbers by their signs, then by themselves -/
def nl (s : Nat → LN) (a b : Nat) : Bool := decide (s a < s b) || (decide (s a = s b) && decide (a < b))
theorem nl_asy (s : Nat → LN) (a b : Nat) (h : nl s a b = true) : nl s b a = false := by
  unfold nl at *
  rw [Bool.or_eq_true, Bool.and_eq_true, decide_eq_true_eq, decide_eq_true_eq, decide_eq_true_eq] at h
  refine Bool.eq_false_iff.mpr fun k => ?_
  rw [Bool.or_eq_true, Bool.and_eq_true, decide_eq_true_eq, decide_eq_true_eq, decide_eq_true_eq] at k
  rcases h with h | ⟨h, h2⟩
  · rcases k with k | ⟨k, _⟩
    · exact lirr _ (ltr h k)
    · rw [k] at h; exact lirr _ h
  · rcases k with k | ⟨_, k2⟩
    · rw [h] at k; exact lirr _ k
    · omega
def sgE (tx : Nat → LN) (E : List Pl) (k : Nat) : LN := sg tx (E.getD k (0, 0))
theorem lt_num (h : Ents tx T E) {a b : Nat} (ha : a < E.length) (hb : b < E.length) : lt tx E[a] E[b] ↔ a < b := by
  have pw := List.pairwise_iff_getElem.mp h.asc
  constructor
  · intro l
    rcases Nat.lt_trichotomy a b with k | k | k
    · exact k
    · subst k; exact absurd l lt_irr
    · exact absurd l (lt_asy (pw b a hb ha k))
  · exact pw a b ha hb
theorem filter_range {α : Type} (f : α → Bool) (l : List α) (d : α) : ((List.range l.length).filter fun i => f (l.getD i d)).length = (l.filter f).length := by
  have e : l = (List.range l.length).map fun i => l.getD i d := by
    apply List.ext_getElem?
    intro i
    rw [List.getElem?_map]
    by_cases h : i < l.length
    · rw [List.getElem?_range h, List.getElem?_eq_getElem h]
      show some l[i] = some (l.getD i d)
      rw [List.getD_eq_getElem?_getD, List.getElem?_eq_getElem h]
      rfl
    · rw [List.getElem?_eq_none (by omega), List.getElem?_eq_none (by rw [List.length_range]; omega)]
      rfl
  have g : (l.filter f).length = (((List.range l.length).map fun i => l.getD i d).filter f).length := by rw [← e]
  rw [g, List.filter_map, List.length_map]
  rfl
/-- the numbers by their signs: how many are ahead of one -/
theorem cnt_num (h : Ents tx T E) {k : Nat} {p : Pl} (e : E[k]? = some p) : ((List.range E.length).filter fun l => nl (sgE tx E) l k).length = (E.filter fun q => lx tx q p).length := by
  obtain ⟨hk, ep⟩ := List.getElem?_eq_some_iff.mp e
  rw [← filter_range (fun q => lx tx q p) E (0, 0)]
  refine congrArg List.length (List.filter_congr fun l hl => ?_)
  have hl := List.mem_range.mp hl
  have el : E.getD l (0, 0) = E[l] := by rw [List.getD_eq_getElem?_getD, List.getElem?_eq_getElem hl]; rfl
  have ek : E.getD k (0, 0) = p := by rw [List.getD_eq_getElem?_getD, e]; rfl
  unfold nl lx sgE
  rw [el, ek]
  have := lt_num h hl hk
  rw [ep] at this
  rw [decide_eq_decide.mpr this]
end
end RowM
set_option maxHeartbeats 4000000
/-! How many times a text stands in a tuple of texts. -/
namespace Ev
open PySem PySem.Spec PyProof.Rows L2
theorem count_eqU {x : V} : ∀ {xs : List V} {us : List Value}, Vals xs us → xs.all flatV = true → us.countP (eqU x) = xs.countP fun y => eqV y x
  | _, _, .nil, _ => rfl
  | y :: xs, u :: us, .cons r t, f => by
    rw [List.all_cons, Bool.and_eq_true] at f
    rw [List.countP_cons, List.countP_cons, eqU_of r f.1, count_eqU t f.2]
theorem count_strs {w : Str} : ∀ zs : List Str, ((zs.map V.str).countP fun y => eqV y (.str w)) = zs.count w
  | [] => rfl
  | z :: zs => by
    rw [List.map_cons, List.countP_cons, List.count_cons, count_strs zs]
    rfl
def rCntS (K : PySem.W.Frag) : V → List V → Hp → VK → Prop := fun x xs H Q => ∃ (p : Addr) (zs : List Str) (w : Str), x = .ref p ∧ xs = [.str w] ∧ SqT K H p (zs.map V.str) ∧ Q (.int (zs.count w : Nat)) H
section
variable {X : Cx}
theorem mt_tcount : MtR X "tuple.count" (rCntS X.K) := by
  intro pins s σ H x xs v us Q I rx rxs h
  obtain ⟨p, zs, w, rfl, rfl, hs, q⟩ := h
  cases rx
  obtain ⟨u, rfl, ru⟩ := rxs.one
  have fs : (zs.map V.str).all flatV = true := by
    rw [List.all_eq_true]
    intro v hv
    obtain ⟨z, _, rfl⟩ := List.mem_map.mp hv
    rfl
  obtain ⟨its, rv, ⟨⟨cls, dd, data, sl⟩, ho, hc, n, hd⟩, hlen⟩ := I.tuple hs
  simp only at hc hd
  subst hc hd
  refine call_meets PySem.F.slot_tuple_count ⟨_, ho, rfl⟩ PySem.F.entry_tuple_count (PySem.F.args_tuple_count_2 _ _)
    (SeqAt.tuple_countAt p its.toArray n dd sl u (eqU (.str w))) ⟨ho, fun y hy => mem_eqAt ru rfl rv fs y (by simpa using hy), ?_⟩
  have ec : its.toArray.toList.countP (eqU (.str w)) = zs.count w := by
    rw [show its.toArray.toList = its by simp, count_eqU rv fs, count_strs]
  refine ⟨.int (zs.count w : Nat), H, I.tok _, ⟨s.toks, ?_⟩, q⟩
  show Value.int ((its.toArray.toList.countP (eqU (.str w)) : Nat) : Int) s.toks = Value.int ((zs.count w : Nat) : Int) s.toks
  rw [ec]
end
end Ev
set_option maxHeartbeats 4000000
namespace LawK
open PySem PySem.Spec PyProof.Rows L2 Ev
abbrev txc (ts : List Str) (i : Nat) : LN := cod (tx ts i)
def enT (ts : List Str) : List Pl := (List.range ts.length).map (fun i => (i, (txc ts i).length)) ++ ord ts
def sgS (ts : List Str) (p : Pl) : Str := SX.S (RowM.sg (txc ts) p)
def rowL (ts : List Str) : List Str := (enT ts).map (sgS ts)
theorem sf_sfx (ts : List Str) (p : Pl) : RowM.sf (txc ts) p = cod (sfx ts p) := (sfx_cod ts p).symm
theorem row_plt (ts : List Str) (i : Nat) : (row ts i).Pairwise RowM.plt := by
  unfold row
  rw [List.pairwise_map]
  exact List.pairwise_lt_range.imp fun {a b} h => .inr ⟨rfl, h⟩
theorem plN_plt (ts : List Str) : ∀ n, (plN ts n).Pairwise RowM.plt
  | 0 => .nil
  | n + 1 => by
    rw [plN_succ]
    refine List.pairwise_append.mpr ⟨plN_plt ts n, row_plt ts n, fun a ha b hb => .inl ?_⟩
    unfold plN at ha
    obtain ⟨i, hi, ha⟩ := List.mem_flatMap.mp ha
    unfold row at ha hb
    obtain ⟨j, _, rfl⟩ := List.mem_map.mp ha
    obtain ⟨k, _, rfl⟩ := List.mem_map.mp hb
    exact List.mem_range.mp hi
theorem pl_nd (ts : List Str) : (pl ts).Nodup := (plN_plt ts ts.length).imp fun {a b} h e => by
  rw [e] at h
  exact RowM.plt_asy h h
theorem ord_nd (ts : List Str) : (ord ts).Nodup := (ord_perm ts).nodup_iff.mpr (pl_nd ts)
theorem ord_lt (ts : List Str) : (ord ts).Pairwise (RowM.lt (txc ts)) := by
  have s : (ord ts).Pairwise (fun a b => leP ts a b = true) := List.pairwise_mergeSort (leP_trans ts) (leP_total ts) _
  refine (s.and (ord_nd ts)).imp fun {a b} ⟨h, ne⟩ => ?_
  have h := (leP_eq ts a b).mp h
  unfold RowM.lt
  rw [sf_sfx, sf_sfx]
  rcases ltri (cod (sfx ts a)) (cod (sfx ts b)) with k | k | k
  · exact .inl k
  · refine .inr ⟨k, ?_⟩
    unfold RowM.plt
    have n2 := fun z => h (.inr ⟨cod_inj k.symm, z⟩)
    obtain ⟨a1, a2⟩ := a
    obtain ⟨b1, b2⟩ := b
    have ne : ¬ (a1 = b1 ∧ a2 = b2) := fun z => ne (by rw [z.1, z.2])
    show a1 < b1 ∨ a1 = b1 ∧ a2 < b2
    have n2 : ¬ ((b1 : Int) < a1 ∨ (b1 : Int) = a1 ∧ (b2 : Int) < a2) := n2
    omega
  · exact absurd (.inl k) h
theorem ents (ts : List Str) : RowM.Ents (txc ts) ts.length (enT ts) := RowM.Ents.mk2 (ord_lt ts) fun p => by
  rw [ord_mem, ← len_S]
  exact ⟨fun h => ⟨h.text, h.at_⟩, fun h => ⟨h.1, h.2⟩⟩
end LawK
set_option maxHeartbeats 4000000
/-! Tuples of which it is known that they are plain ones: made of a list, cut, and their methods. -/
namespace Ev
open PySem PySem.Spec PyProof.Rows L2
/-- a plain tuple's object -/
def PlT (o : Obj) : Prop := o.cls = .type "tuple" ∧ o.dict = none
def TupF (H : Hp) (a : Addr) (xs : List V) : Prop := ∃ o, H a = some (.frz o (.tup xs)) ∧ PlT o
theorem TupF.same {H H' : Hp} {a : Addr} {xs : List V} (k : Same H H') (h : TupF H a xs) : TupF H' a xs := let ⟨o, e, p⟩ := h; ⟨o, k _ _ e, p⟩
theorem TupF.sq {K : PySem.W.Frag} {H : Hp} {a : Addr} {xs : List V} (h : TupF H a xs) : SqT K H a xs := let ⟨o, e, _⟩ := h; .inl (.inr ⟨o, e⟩)
section
variable {X : Cx}
theorem call_tupF : CallR X (.type "tuple") (fun xs H Q => ∃ p ys, xs = [.ref p] ∧ SqL X.K H p ys ∧ ∀ l o, H l = none → PlT o → Q (.ref l) (upd H l (.frz o (.tup ys)))) := by
  intro pins s σ H xs us Q I r h
  obtain ⟨p, ys, rfl, hq, q⟩ := h
  obtain ⟨u, rfl, rx⟩ := r.one
  cases rx
  obtain ⟨its, r', pl, hz⟩ := I.list hq
  have hlen := r'.length
  refine call_tuple_list pl.isList (fun h' kp => ?_) (by simp only [List.size_toArray] <;> omega)
  have I1 : Inv X pins σ H { s with heap := h' } := I.kept (t' := s.toks) kp
  have I2 : Inv X pins σ (upd H h'.objs.size (.frz { cls := .type "tuple", data := .seq its.toArray } (.tup ys))) { s with heap := h'.push { cls := .type "tuple", data := .seq its.toArray } } :=
    I1.laid (t' := s.toks) (fun b o e => Heap.get?_push_of_some _ e) (Nat.le_refl _) (show ObjOk X.prog X.w _ _ _ (.frz _ (.tup ys)) from ⟨Heap.get?_push_size _ rfl, hz, its, r', IsTup.new _ _⟩)
  exact ⟨.ref h'.objs.size, _, I2, rfl, q _ _ (I1.hok.fresh (Nat.le_refl _)) ⟨rfl, rfl⟩⟩
/-- t[:k], t plain: it stays itself if it is the whole of it -/
def rSlF : V → Option Int → Option Int → Hp → VK → Prop := fun x lo hi H Q => ∃ a xs, x = .ref a ∧ TupF H a xs ∧ ∀ p H', Same H H' → TupF H' p (cutV xs lo hi) → Q (.ref p) H'
theorem sl_tupF : SlR X rSlF := by
  intro pins s σ H x v vl vu lo hi sl Q I rx hs pl pu h
  obtain ⟨a, xs, rfl, hx, q⟩ := h
  cases rx
  obtain ⟨its, r, ht, hz⟩ := I.tuple (TupF.sq (K := X.K) hx)
  have hlen : its.toArray.size = xs.length := by rw [List.size_toArray]; exact r.length.symm
  by_cases hw : HT.sIx xs.length 0 lo = 0 ∧ HT.sIx xs.length xs.length hi = xs.length
  · have ec : cutV xs lo hi = xs := by
      unfold cutV
      rw [hw.1, hw.2, List.drop_zero, Nat.sub_zero, List.take_length]
    refine ⟨"tuple", _, PyProof.Rows.slot_tuple_getitem.lookup, ht.typeIs, ?_⟩
    exact getItem_tuple_whole ht hs pl pu (by rw [hlen]; exact hw) ⟨.ref a, H, I, rfl, q a H (Same.refl H) (by rw [ec]; exact hx)⟩
  · refine ⟨"tuple", _, PyProof.Rows.slot_tuple_getitem.lookup, ht.typeIs, ?_⟩
    refine HT.getItem_tuple_cut ht hs pl pu (by rw [hlen]; exact hw) ?_ (by rw [hlen]; exact hz)
    rw [hlen]
    have nn := I.hok.fresh (Nat.le_refl s.heap.objs.size)
    refine ⟨.ref s.heap.objs.size, _, I.laid (t' := s.toks) (o := .frz _ (.tup (cutV xs lo hi))) (fun b ob q => Heap.get?_push_of_some _ q) (Nat.le_refl _) (show ObjOk X.prog X.w _ _ _ (.frz _ (.tup (cutV xs lo hi))) from ⟨Heap.get?_push_size _ rfl, Nat.le_trans (cutV_length xs lo hi) hz, _, (r.drop (HT.sIx xs.length 0 lo)).take (HT.sIx xs.length xs.length hi - HT.sIx xs.length 0 lo), IsTup.new _ _⟩), rfl, q _ _ (sameNew nn) ⟨_, upd_same, rfl, rfl⟩⟩
def tBMT (r : V → List V → Hp → VK → Prop) (to : TE) (t : TA) : TE := fun σ H Q => to σ H fun x H1 => (∃ a xs, x = .ref a ∧ TupF H1 a xs) ∧ t σ H1 fun xs H2 => r x xs H2 Q
variable {o e : Expr} {es : List Expr} {to : TE} {t : TA} {name : Str} {apos cpos : Pos} {id : String} {r : V → List V → Hp → VK → Prop}
theorem pe_bmT (pa : PlainAttrs "tuple") (slot : Slot "tuple" name id) (hty : typeOf (.builtin id) = pure (.type "method_descriptor")) (hm : MtR X id r) (ho : PE X o to) (ha : PA X (e :: es) t)
    (hbase : attributeBase o name X.env (eval o X.env) = eval o X.env := by rfl)
    (hfew : ((backTo cpos (starEach (e :: es) X.env)).all (fun x => !x.1) && (backToKw cpos (keywordEach [] X.env)).all (fun x => x.1.isSome)
      && decide ((e :: es).length + ([] : List Keyword).length + (if ([] : List Keyword).isEmpty then 0 else 1) < 30)) = true := by rfl)
    (hline : (apos.endLine == cpos.line) = true := by rfl) (hs : starEach (e :: es) X.env = (false, eval e X.env) :: starEach es X.env := by rfl) (hplain : (backTo cpos (starEach es X.env)).any (·.1) = false := by rfl) :
    PE X (.Call (.Attribute o name apos) (e :: es) [] cpos) (tBMT r to t) := by
  refine ⟨fun pins s σ H Q I h => ?_⟩
  refine wpAny_Call_method_late hbase hfew hline rfl (thn (ho.run pins s σ H _ I h) fun v s1 ⟨x, H1, I1, r1, ⟨a, xs, ex, ob, eb, pb⟩, q1⟩ => ?_)
  subst ex
  obtain rfl : v = Value.ref a := r1
  obtain ⟨g1, _⟩ := (show ObjOk X.prog X.w H1 s1.heap a (.frz ob (.tup xs)) from I1.hok a _ eb)
  refine ⟨"tuple", id, pa, slot, hty, ⟨ob, g1, pb.1⟩, fun a' e' => ?_, ?_⟩
  · cases e'
    exact ⟨ob, g1, pb.2⟩
  have hA := ha.run cpos pins s1 σ H1 _ I1 q1
  rw [hs] at hA ⊢
  refine Calls.callWith_builtin (by show (false || (backTo cpos (starEach es X.env)).any (·.1)) = false; rw [hplain] <;> rfl) (Calls.evalArgs_plain ?_)
  exact thn hA fun us s2 ⟨vs, H2, I2, r2, q2⟩ => hm pins s2 σ H2 (.ref a) vs (.ref a) us Q I2 rfl r2 q2
end
end Ev
set_option maxHeartbeats 4000000
namespace LawK
open PySem PySem.Spec PyProof.Rows L2 Ev

theorem last_cut (z : Str) : cutS z (some (-1)) none = SX.S ((cod z).drop ((cod z).length - 1)) := by
  apply cod_inj
  have e : HT.sIx z.length 0 (some (-1)) = (cod z).length - 1 := by
    rw [len_S]
    show HT.sIx (cod z).length 0 (some (-1)) = (cod z).length - 1
    show (if (-1 : Int) < 0 then ((-1 : Int) + ((cod z).length : Nat)).toNat else min (-1 : Int).toNat (cod z).length) = (cod z).length - 1
    rw [if_pos (by decide)]
    omega
  have e2 : HT.sIx z.length z.length none = z.length := rfl
  show ((z.cps.toList.drop (HT.sIx z.length 0 (some (-1)))).take (HT.sIx z.length z.length none - HT.sIx z.length 0 (some (-1)))) = (cod z).drop ((cod z).length - 1)
  rw [e2, e, len_S]
  exact List.take_of_length_le (by rw [List.length_drop]; exact Nat.le_refl _)
theorem sgS_end (ts : List Str) (i : Nat) : cutS (tx ts i) (some (-1)) none = sgS ts (i, (txc ts i).length) := by
  rw [last_cut]
  unfold sgS RowM.sg
  show SX.S _ = SX.S (((txc ts i).take (txc ts i).length).drop ((txc ts i).length - 1))
  rw [List.take_length]
theorem sgS_at (ts : List Str) (i a : Nat) (h : a ≤ (txc ts i).length) : cutS (cutS (tx ts i) none (some ((a : Nat) : Int))) (some (-1)) none = sgS ts (i, a) := by
  rw [last_cut]
  have e : cod (cutS (tx ts i) none (some ((a : Nat) : Int))) = (txc ts i).take a := by
    rw [show cod (cutS (tx ts i) none (some ((a : Nat) : Int))) = _ from cutS_to (Int.natCast_nonneg _)]
    rfl
  rw [e]
  unfold sgS RowM.sg
  show SX.S _ = SX.S (((txc ts i).take a).drop (a - 1))
  rw [List.length_take, Nat.min_eq_left h]
def RowAt (H : Hp) (a : Addr) (ts : List Str) : Prop := TupF H a ((rowL ts).map V.str)
structure Rw (ts : List Str) : Prop where
  few : ts.length ≤ 8
  sg : ∀ t ∈ ts, sgB t = true
  len : ∀ t ∈ ts, t.length ≤ 200
def spRowAhead (C : Addr) : Sp := fun vs H Q _ => ∃ (s : Addr) (ts : List Str), vs = [.ref s] ∧ LibAt H C s ts ∧ ∀ a H', Same H H' → RowAt H' a ts → Q (.ref a) H'
theorem ord_len {ts : List Str} (h : ∀ t ∈ ts, t.length ≤ 200) (f : ts.length ≤ 8) : (ord ts).length ≤ 1600 := by
  have a := (ord_perm ts).length_eq
  have b := plN_len h ts.length
  have c : (pl ts).length = (plN ts ts.length).length := rfl
  omega
section
variable {P : Program} {w : World} {K : PySem.W.Frag} {mg : Str → Option Value} {base : Heap}
variable {C fI : Addr} {fdI : FuncData}
end
end LawK
namespace Ev
open PySem PySem.Spec PyProof PyProof.Rows L2
def tIfT (t u v : TT) : TT := fun σ H Q => t σ H fun c H1 => if c = true then u σ H1 Q else v σ H1 Q
theorem pt_ifT {X : Cx} {c a b : Expr} {tC tA tB : TT} {pos : Pos} (hc : PT X c tC) (ha : PT X a tA) (hb : PT X b tB) : PT X (.IfExp c a b pos) (tIfT tC tA tB) := by
  refine ⟨fun pins s σ H Q I h => ?_⟩
  show wpAny (model X.prog X.w) X.A (do
    if ← PySem.isTrue c X.env (eval c X.env) then PySem.isTrue a X.env (eval a X.env) else PySem.isTrue b X.env (eval b X.env)) _ X.xe s
  refine wpAny_bind (wpAny_mono (hc.run pins s σ H _ I h) (fun d s1 ⟨H1, I1, q1⟩ => ?_) fun _ _ x => x)
  cases d with
  | true => exact ha.run pins s1 σ H1 Q I1 q1
  | false => exact hb.run pins s1 σ H1 Q I1 q1
end Ev
set_option maxHeartbeats 4000000
namespace LawK
open PySem PySem.Spec PyProof.Rows L2 Ev

theorem sg_nil {ts : List Str} {p : Pl} (h : p ∈ enT ts) : RowM.sg (txc ts) p = [] ↔ p.2 = 0 := by
  have m := ((ents ts).mem p).mp h
  constructor
  · intro e
    by_cases g : p.2 = 0
    · exact g
    · obtain ⟨c, ec, _⟩ := RowM.sf_prd (tx := txc ts) (p := p) (by omega) m.2
      rw [ec] at e
      cases e
  · exact fun e => RowM.sg_zero e
theorem sgS_in {ts : List Str} {p : Pl} (sg : ∀ t ∈ ts, sgB t = true) (h : p ∈ enT ts) : sgB (sgS ts p) = true ∧ (sgS ts p).length < 2 := by
  have m := ((ents ts).mem p).mp h
  have mt : tx ts p.1 ∈ ts := tx_mem m.1
  refine ⟨sgB_of_mem fun c hc => ?_, ?_⟩
  · have hc : c ∈ RowM.sg (txc ts) p := hc
    exact sgB_mem (sg _ mt) (List.mem_of_mem_take (List.mem_of_mem_drop hc))
  · rw [len_S]
    show (((txc ts p.1).take p.2).drop (p.2 - 1)).length < 2
    rw [List.length_drop, List.length_take]
    have : p.2 ≤ (txc ts p.1).length := m.2
    omega
theorem row_in {ts : List Str} (sg : ∀ t ∈ ts, sgB t = true) {z : Str} (h : z ∈ rowL ts) : sgB z = true ∧ z.length < 2 := by
  obtain ⟨p, hp, rfl⟩ := List.mem_map.mp h
  exact sgS_in sg hp
theorem en_len (ts : List Str) : (enT ts).length = ts.length + (ord ts).length := by
  unfold enT
  rw [List.length_append, List.length_map, List.length_range]
theorem row_len (ts : List Str) : (rowL ts).length = ts.length + (ord ts).length := by
  unfold rowL
  rw [List.length_map, en_len]
theorem count_map {α : Type} (f : α → Str) (w : Str) : ∀ l : List α, (l.map f).count w = (l.filter fun q => decide (f q = w)).length
  | [] => rfl
  | x :: l => by
    rw [List.map_cons, List.count_cons, List.filter_cons, count_map f w l]
    by_cases e : f x = w
    · simp [e]
    · simp [e]
theorem count_nil (ts : List Str) : (rowL ts).count ("" : Str) = ts.length := by
  unfold rowL
  rw [count_map]
  have a := RowM.cnt_nx (ents ts) (fun r => decide (r.2 = (txc ts r.1).length)) (fun q => decide (sgS ts q = ("" : Str))) fun r hr => by
    have m := ((ents ts).mem r).mp hr
    have n := RowM.nx_mem (ents ts) hr
    have e1 : (sgS ts (RowM.nx (txc ts) r) = ("" : Str)) ↔ (RowM.nx (txc ts) r).2 = 0 := by
      rw [← sg_nil n]
      constructor
      · intro e
        exact congrArg cod e
      · intro e
        unfold sgS
        rw [e]
        rfl
    have e2 : (RowM.nx (txc ts) r).2 = 0 ↔ r.2 = (txc ts r.1).length := by
      unfold RowM.nx
      split
      · exact ⟨fun _ => by assumption, fun _ => rfl⟩
      · rename_i h
        exact ⟨fun z => by simp at z, fun z => absurd z h⟩
    exact decide_eq_decide.mpr (e2.symm.trans e1.symm)
  rw [← a]
  unfold enT
  rw [List.filter_append, List.filter_eq_self.mpr (fun q hq => by
    obtain ⟨i, _, rfl⟩ := List.mem_map.mp hq
    exact decide_eq_true rfl), List.filter_eq_nil_iff.mpr (fun q hq z => by
    have ip := ord_mem.mp hq
    have z := of_decide_eq_true z
    have b : q.2 < (tx ts q.1).length := ip.at_
    rw [len_S] at b
    have z : q.2 = (cod (tx ts q.1)).length := z
    have b : q.2 < (cod (tx ts q.1)).length := b
    omega), List.append_nil, List.length_map, List.length_range]
def spHasForm : Sp := fun vs H Q _ => ∃ (a : Addr) (ts : List Str), vs = [.ref a] ∧ RowAt H a ts ∧ Rw ts ∧ ∀ H', Same H H' → Q (.bl true) H'
def spMany : Sp := fun vs H Q _ => ∃ (a : Addr) (ts : List Str) (w : Str) (n : Nat), vs = [.ref a, .str w, .int (n : Nat)] ∧ RowAt H a ts ∧ Rw ts ∧ ∀ H', Same H H' → Q (.int (((rowL ts).take n).count w : Nat)) H'
def lessS (ts : List Str) (w : Str) : Nat := ((rowL ts).filter fun z => decide (cod z < cod w)).length
def spLess : Sp := fun vs H Q _ => ∃ (a : Addr) (ts : List Str) (w : Str), vs = [.ref a, .str w] ∧ RowAt H a ts ∧ Rw ts ∧ ∀ H', Same H H' → Q (.int (lessS ts w : Nat)) H'
section
variable {P : Program} {w : World} {K : PySem.W.Frag} {mg : Str → Option Value} {base : Heap}
end
end LawK
set_option maxHeartbeats 4000000
namespace LawK
open PySem PySem.Spec PyProof.Rows L2 Ev

def spSgn : Sp := fun vs H Q _ => ∃ (z : Str), vs = [.str z] ∧ sgB z = true ∧ z.length = 1 ∧ Q (.bl true) H
section
variable {P : Program} {w : World} {K : PySem.W.Frag} {mg : Str → Option Value} {base : Heap}
abbrev sQHasForm : Stmt := topS 17
theorem scQHasForm : FnScope ["thing", "texts", "sign"] ["thing"] (defScope sQHasForm) := ⟨rfl, rfl, rfl, by decide +kernel, rfl, by decide +kernel, by decide +kernel⟩
theorem ok_QHasForm {f : Addr} {fd : FuncData} (F : Fun K "_has_form" "_has_form" sQHasForm f fd) {tM tT : Tok} (gM : mg "MOST_SIGNS" = some (.int 2000 tM)) (gT : mg "MOST_TEXTS" = some (.int 8 tT)) {fPSigns : Addr} {fdPSigns : FuncData} (DPSigns : Dk P w K mg base "is_signs" sPSigns ["thing"] 1 spSg fPSigns fdPSigns) (T : Glob mg) : FnOk P w K mg base CX0 2 f fd ["thing"] spHasForm := by
  refine F.ok scQHasForm (fun vs H Q E h => ?_) (fun cdv A outer s H vs Q E hr h => ?_)
  · obtain ⟨a, ts, rfl, _⟩ := h
    rfl
  · refine ⟨_, (pss_cons (ps_if (PW.pt (pw_or (pt_not (pt_val (pe_callB call_isi (by rfl) T.isinstance PyProof.Rows.boot_isinstance (pa_cons (pv 0) (pa_cons (pe_bltn (v := .ty "tuple") (by rfl) T.tuple (by decide +kernel) rfl) pa_nil))))) (pw_or1 (pt_cmpR op_gt (pe_callB call_len_seq (by rfl) T.len PySem.boot_len (pa_cons (pv 0) pa_nil)) (pe_op op_add (pe_glob (v := .int 8) (by rfl) gT ⟨_, rfl⟩) (pe_glob (v := .int 2000) (by rfl) gM ⟨_, rfl⟩)) (nomark _)))))
      (pss_one (ps_ret pe_bl))
      pss_nil)
      (pss_cons (ps_if (pt_not (pt_val (pe_callB (cr_all rfl) (by rfl) T.all (by decide +kernel) (pa_cons (pe_lc (own := [("sign", 2)]) (g := gName 2) (by rfl) scQHasForm.nd (pi_tup (pv 0)) (blkOk_by (N := ["thing", "texts", "sign"]) (sc := defScope sQHasForm) (by decide +kernel)) (fun _ _ _ _ _ => pg_name (i := 2) scQHasForm.nd rfl (.inl rfl)) (fun _ _ _ _ _ => pts_nil) (fun _ _ _ _ _ => (pe_and (pe_call DPSigns.ok (hr.mono (by decide)) (by rfl) DPSigns.g DPSigns.F.kp DPSigns.b .nil pass0 (pa_cons (pv 2) pa_nil)) (pe_one (pe_cmpR op_lt (pe_callB call_lenZ (by rfl) T.len PySem.boot_len (pa_cons (pv 2) pa_nil)) pe_int (nomark _)))))) pa_nil))))
      (pss_one (ps_ret pe_bl))
      pss_nil)
      (pss_cons (ps_set (i := 1) scQHasForm.nd rfl (.inl rfl) (pe_bmT PySem.F.plainAttrs_tuple PySem.F.slot_tuple_count PySem.F.type_tuple_count mt_tcount (pv 0) (pa_cons pe_str pa_nil)))
      (pss_one (ps_ret (pe_and (pe_cmpR op_le (pv 1) (pe_glob (v := .int 8) (by rfl) gT ⟨_, rfl⟩) (nomark _)) (pe_one (pe_cmpR op_le (pe_op op_sub (pe_callB call_len_seq (by rfl) T.len PySem.boot_len (pa_cons (pv 0) pa_nil)) (pv 1)) (pe_glob (v := .int 2000) (by rfl) gM ⟨_, rfl⟩) (nomark _))))))))), ?_⟩
    obtain ⟨a, ts, rfl, ha, hr0, q⟩ := h
    have rl := row_len ts
    have ol := ord_len hr0.len hr0.few
    have few := hr0.few
    have cn := count_nil ts
    refine ⟨.ref a, rfl, .ref a, .ty "tuple", .type (Kn.name .tup), .type "tuple", kitB .tup .tup, rfl, .ty _, (let ⟨o, e, _⟩ := ha; .fTuple e), kit_kn .tup .tup, _, rfl, iteF ?_⟩
    refine ⟨.ref a, rfl, a, _, rfl, .inr ha.sq, _, _, rfl, rfl, _, _, rfl, rfl, _, rfl, ite2 (fun c => ?_) (fun c => ?_)⟩
    · have := of_decide_eq_true c
      rw [List.length_map] at this
      omega
    dsimp only [tNext, tDrop]
    refine ⟨.ref a, rfl, a, rfl, ⟨_, ha.sq⟩, fun D nD => lc_tup (K := K) (xs := (rowL ts).map V.str) (fun i H' => Same H H' ∧ H' D = some (.lst ((List.replicate i true).map V.bl))) ⟨Same.new nD, upd_same⟩ (fun i H' _ w => (TupF.same w.1 ha).sq) ?_ ?_⟩
    · rintro i x H1 hx ⟨k1, hD⟩
      rw [List.getElem?_map] at hx
      obtain ⟨z, hz, rfl⟩ := Option.map_eq_some_iff.mp hx
      obtain ⟨s1, s2⟩ := row_in hr0.sg (List.mem_of_getElem? hz)
      have il : i < (rowL ts).length := (List.getElem?_eq_some_iff.mp hz).1
      refine ⟨rfl, .str z, rfl, .str z, .str, rfl, .str z, (fun z' e => by cases e; omega), _, rfl, ?_⟩
      have e : sgV (.str z) = true := s1
      rw [e]
      refine iteT ⟨.str z, rfl, z, rfl, len5 (by omega), _, _, rfl, rfl, _, hD, ?_, sameAt k1 nD, ?_⟩
      · rw [List.length_map, List.length_replicate, sizeLine_eq]
        omega
      · rw [upd_same, List.replicate_succ', List.map_append]
        dsimp only
        rw [decide_eq_true (show (z.length : Int) < 2 by omega)]
        rfl
    rintro H1 ⟨k1, hD⟩
    have eb : (List.replicate ((rowL ts).map V.str).length true).all id = true := by
      rw [List.all_eq_true]
      intro x hx
      rw [List.eq_of_mem_replicate hx]
      rfl
    refine ⟨D, _, rfl, sq_of hD, _, rfl, ?_⟩
    rw [eb]
    refine iteF ?_
    have ha1 := ha.same k1
    refine ⟨.ref a, rfl, ⟨a, _, rfl, ha1⟩, a, rowL ts, "", rfl, rfl, ha1.sq, ?_⟩
    rw [cn]
    refine ⟨_, rfl, _, _, rfl, rfl, _, rfl, ?_⟩
    rw [decide_eq_true (show ((ts.length : Nat) : Int) ≤ 8 by omega)]
    refine iteT ⟨.ref a, rfl, a, _, rfl, .inr ha1.sq, _, rfl, _, _, rfl, rfl, _, _, rfl, rfl, ?_⟩
    dsimp only
    rw [List.length_map, decide_eq_true (show (((rowL ts).length : Nat) : Int) - ((ts.length : Nat) : Int) ≤ 2000 by omega)]
    exact q H1 k1
end
end LawK
set_option maxHeartbeats 4000000
namespace LawK
open PySem PySem.Spec PyProof.Rows L2 Ev PySem.W
theorem dataLt_si (x y : Str) (i k : Int) : dataLt (.tuple [.str x, .int i]) (.tuple [.str y, .int k]) = decide (x.cps.toList < y.cps.toList ∨ x = y ∧ i < k) := by
  rw [dataLt_tuple, dataLt_cons (by simp [alike]), dataLt_cons (by simp [alike])]
  have e0 : PyProof.Rows.lexLt itemOrd (keyToksAll []) (keyToksAll []) = false := lex_irrefl _
  rw [e0, dataLt_str, dataLt_int]
  have e1 : PyData.eqv (.str x) (.str y) = decide (x = y) := by
    simp only [PyData.eqv]
    first | rfl | exact Bool.eq_iff_iff.mpr (by simp)
  have e2 : ∀ a b : Int, PyData.eqv (.int a) (.int b) = decide (a = b) := fun a b => by
    simp only [PyData.eqv]
    first | rfl | exact Bool.eq_iff_iff.mpr (by simp)
  rw [e1, e2]
  by_cases hx : x = y
  · subst hx
    have nl : ¬ x.cps.toList < x.cps.toList := lirr _
    by_cases h1 : i = k
    · subst h1
      simp [nl]
    · simp [nl, h1]
  · simp [hx]
def rwS (ts : List Str) (k : Nat) : Str := (rowL ts).getD k Str.empty
def enR (ts : List Str) (k : Nat) : PyData := .tuple [.str (rwS ts k), .int (k : Nat)]
def leR (ts : List Str) (k l : Nat) : Bool := leE (enR ts k) (enR ts l)
abbrev nR (ts : List Str) : Nat := (enT ts).length
def nlR (ts : List Str) (a b : Nat) : Bool := RowM.nl (fun k => cod (rwS ts k)) a b
theorem leR_eq (ts : List Str) (k l : Nat) : leR ts k l = !nlR ts l k := by
  unfold leR leE enR
  rw [dataLt_si]
  congr 1
  unfold nlR RowM.nl
  rw [Bool.eq_iff_iff]
  simp only [Bool.or_eq_true, Bool.and_eq_true, decide_eq_true_eq]
  constructor
  · rintro (h | ⟨h, h2⟩)
    · exact .inl h
    · exact .inr ⟨by rw [h], by omega⟩
  · rintro (h | ⟨h, h2⟩)
    · exact .inl h
    · exact .inr ⟨cod_inj h, by omega⟩
theorem nlR_tri (ts : List Str) (a b : Nat) : nlR ts a b = true ∨ a = b ∨ nlR ts b a = true := by
  unfold nlR RowM.nl
  simp only [Bool.or_eq_true, Bool.and_eq_true, decide_eq_true_eq]
  rcases ltri (cod (rwS ts a)) (cod (rwS ts b)) with h | h | h
  · exact .inl (.inl h)
  · rcases Nat.lt_trichotomy a b with k | k | k
    · exact .inl (.inr ⟨h, k⟩)
    · exact .inr (.inl k)
    · exact .inr (.inr (.inr ⟨h.symm, k⟩))
  · exact .inr (.inr (.inl h))
theorem nlR_trans (ts : List Str) (a b c : Nat) (h : nlR ts a b = true) (k : nlR ts b c = true) : nlR ts a c = true := by
  unfold nlR RowM.nl at *
  simp only [Bool.or_eq_true, Bool.and_eq_true, decide_eq_true_eq] at *
  rcases h with h | ⟨h, h2⟩
  · rcases k with k | ⟨k, k2⟩
    · exact .inl (ltr h k)
    · exact .inl (by rw [← k]; exact h)
  · rcases k with k | ⟨k, k2⟩
    · exact .inl (by rw [h]; exact k)
    · exact .inr ⟨h.trans k, by omega⟩
theorem nlR_asy (ts : List Str) (a b : Nat) (h : nlR ts a b = true) : nlR ts b a = false := RowM.nl_asy _ a b h
theorem leR_trans (ts : List Str) (a b c : Nat) (h : leR ts a b = true) (k : leR ts b c = true) : leR ts a c = true := by
  rw [leR_eq, Bool.not_eq_true'] at *
  refine Bool.eq_false_iff.mpr fun z => ?_
  rcases nlR_tri ts a b with g | g | g
  · have := nlR_trans ts _ _ _ z g
    rw [this] at k
    cases k
  · subst g
    rw [z] at k
    cases k
  · rw [g] at h
    cases h
theorem leR_total (ts : List Str) (a b : Nat) : (leR ts a b || leR ts b a) = true := by
  rw [leR_eq, leR_eq]
  cases h : nlR ts b a with
  | false => rfl
  | true => rw [nlR_asy ts _ _ h]; rfl
def srt (ts : List Str) : List Nat := (List.range (nR ts)).mergeSort (leR ts)
theorem srt_perm (ts : List Str) : (srt ts).Perm (List.range (nR ts)) := List.mergeSort_perm _ _
/-- where the sign ahead of an entry begins an entry -/
def posn (ts : List Str) (k : Nat) : Nat := ((List.range (nR ts)).filter fun l => nlR ts l k).length
theorem srt_at {ts : List Str} {j k : Nat} (h : (srt ts)[j]? = some k) : j = posn ts k := by
  have nd : (srt ts).Nodup := (srt_perm ts).nodup_iff.mpr List.nodup_range
  have pw : (srt ts).Pairwise (fun a b => nlR ts a b = true) := ((List.pairwise_mergeSort (leR_trans ts) (leR_total ts) (List.range (nR ts))).and nd).imp fun {a b} ⟨h, ne⟩ => by
    rw [leR_eq, Bool.not_eq_true'] at h
    rcases nlR_tri ts a b with g | g | g
    · exact g
    · exact absurd g ne
    · rw [g] at h; cases h
  rw [← RowM.idx_of (nlR ts) (nlR_asy ts) pw h]
  exact ((srt_perm ts).filter _).length_eq
theorem rwS_sg {ts : List Str} {k : Nat} (h : k < nR ts) : cod (rwS ts k) = RowM.sgE (txc ts) (enT ts) k := by
  unfold rwS rowL RowM.sgE
  rw [List.getD_eq_getElem?_getD, List.getElem?_map, List.getElem?_eq_getElem h, List.getD_eq_getElem?_getD, List.getElem?_eq_getElem h]
  rfl
theorem nl_congr {s s' : Nat → LN} {a b : Nat} (h1 : s a = s' a) (h2 : s b = s' b) : RowM.nl s a b = RowM.nl s' a b := by
  unfold RowM.nl
  rw [Bool.eq_iff_iff]
  simp only [Bool.or_eq_true, Bool.and_eq_true, decide_eq_true_eq]
  rw [h1, h2]
theorem posn_lead {ts : List Str} {k : Nat} {p : Pl} (e : (enT ts)[k]? = some p) (hp : 0 < p.2) : (enT ts)[posn ts k]? = some (RowM.prd p) := by
  have hk := (List.getElem?_eq_some_iff.mp e).1
  have a := RowM.cnt_num (ents ts) e
  have b := RowM.leads (ents ts) e hp
  rw [← a] at b
  have c : posn ts k = ((List.range (enT ts).length).filter fun l => RowM.nl (RowM.sgE (txc ts) (enT ts)) l k).length := by
    unfold posn
    refine congrArg List.length (List.filter_congr fun l hl => ?_)
    exact nl_congr (rwS_sg (List.mem_range.mp hl)) (rwS_sg hk)
  rw [c]
  exact b
/-- a sign and its number -/
def NAt (ts : List Str) (H : Hp) (v : V) (k : Nat) : Prop := ∃ b, v = .ref b ∧ H b = some (.tup [.str (rwS ts k), .int (k : Nat)])
theorem NAt.same {ts : List Str} {H H' : Hp} {v : V} {k : Nat} (s : Same H H') (h : NAt ts H v k) : NAt ts H' v k := let ⟨b, e, q⟩ := h; ⟨b, e, s _ _ q⟩
theorem sorted_pairs {ts : List Str} {K : PySem.W.Frag} {H : Hp} {a : Addr} {vs : List V} {ps : List Nat} {Q : VK} (ha : H a = some (.lst vs)) (h : All2 (NAt ts H) vs ps)
    (q : ∀ p vs', H p = none → All2 (NAt ts H) vs' (ps.mergeSort (leR ts)) → Q (.ref p) (upd H p (.lst vs'))) : rSortedD K [.ref a] H Q := by
  obtain ⟨zs, rfl, rfl, hz⟩ := h.zs
  refine ⟨a, zs.map (fun z => (z.1, enR ts z.2)), rfl, by rw [List.map_map]; exact sq_of ha, ?_, ?_, ?_, ?_, fun p np => ?_⟩
  · intro b hb
    obtain ⟨z, hz', rfl⟩ := List.mem_map.mp hb
    obtain ⟨b, e1, e2⟩ := hz z hz'
    show Dp K H z.1 (enR ts z.2)
    rw [e1]
    exact .tup (SqT.of e2) (.cons (.str _) (.cons (.int _) .nil))
  · rw [List.map_map]
    exact AllAlike.of (enc := fun z : V × Nat => enR ts z.2) fun b b' => by unfold enR; simp [alike, alikeAll]
  · rw [List.map_map]
    exact Sortable.tuples (enc := fun z : V × Nat => enR ts z.2) fun b => ⟨_, _, rfl⟩
  · intro b hb
    obtain ⟨z, hz', rfl⟩ := List.mem_map.mp hb
    show (enR ts z.2).depth ≤ 60
    unfold enR
    simp [PyData.depth, PyData.depthAll]
  · have e1 : (zs.map fun z => ((z.1, enR ts z.2) : DV)).mergeSort leD = (zs.mergeSort fun z w => leR ts z.2 w.2).map fun z => (z.1, enR ts z.2) := (List.map_mergeSort (r := fun z w : V × Nat => leR ts z.2 w.2) (s := leD) (f := fun z : V × Nat => ((z.1, enR ts z.2) : DV)) (l := zs) fun x _ y _ => rfl).symm
    have e2 : (zs.map (·.2)).mergeSort (leR ts) = (zs.mergeSort fun z w => leR ts z.2 w.2).map (·.2) := (List.map_mergeSort (r := fun z w : V × Nat => leR ts z.2 w.2) (s := leR ts) (f := fun z : V × Nat => z.2) (l := zs) fun x _ y _ => rfl).symm
    rw [e2] at q
    rw [e1, List.map_map]
    exact q p _ np (All2.ofZ fun z hz' => hz z ((List.mergeSort_perm _ _).mem_iff.mp hz'))
end LawK
set_option maxHeartbeats 4000000
namespace LawK
open PySem PySem.Spec PyProof.Rows L2 Ev

abbrev iN (n : Nat) : V := .int (n : Nat)
def ledV (ts : List Str) (i k : Nat) : V := if rwS ts k ≠ ("" : Str) ∧ posn ts k < i then iN (posn ts k) else .non
def ledL (ts : List Str) (i : Nat) : List V := (List.range (nR ts)).map (ledV ts i)
def spLeads : Sp := fun vs H Q _ => ∃ (a : Addr) (ts : List Str), vs = [.ref a] ∧ RowAt H a ts ∧ Rw ts ∧ ∀ b H', Same H H' → H b = none → H' b = some (.lst (ledL ts (nR ts))) → Q (.ref b) H'
theorem posn_inj {ts : List Str} {i k l : Nat} (h : (srt ts)[i]? = some k) (hl : l < nR ts) (e : posn ts l = i) : l = k := by
  have m : l ∈ srt ts := (srt_perm ts).mem_iff.mpr (List.mem_range.mpr hl)
  obtain ⟨j, ej⟩ := List.getElem?_of_mem m
  have := srt_at ej
  rw [← e, ← this, ej] at h
  exact Option.some.inj h
theorem led_step {ts : List Str} {i k : Nat} (h : (srt ts)[i]? = some k) (ne : rwS ts k ≠ ("" : Str)) : (ledL ts i).set k (iN i) = ledL ts (i + 1) := by
  have hk : k < nR ts := List.mem_range.mp ((srt_perm ts).mem_iff.mp (List.mem_of_getElem? h))
  have e := srt_at h
  apply List.ext_getElem?
  intro l
  unfold ledL
  rw [List.getElem?_set, List.getElem?_map, List.getElem?_map, List.length_map, List.length_range]
  by_cases hl : l < nR ts
  · rw [List.getElem?_range hl]
    by_cases c : k = l
    · subst c
      rw [if_pos rfl, if_pos hk]
      show some (iN i) = some (ledV ts (i + 1) k)
      unfold ledV
      rw [if_pos ⟨ne, by omega⟩, e]
    · rw [if_neg c]
      show some (ledV ts i l) = some (ledV ts (i + 1) l)
      unfold ledV
      have : posn ts l ≠ i := fun z => c (posn_inj h hl z).symm
      have e2 : (rwS ts l ≠ ("" : Str) ∧ posn ts l < i) ↔ (rwS ts l ≠ ("" : Str) ∧ posn ts l < i + 1) := by
        refine and_congr_right fun _ => ?_
        omega
      simp only [e2]
  · have : (List.range (nR ts))[l]? = none := List.getElem?_eq_none (by rw [List.length_range]; omega)
    rw [this]
    by_cases c : k = l
    · omega
    · rw [if_neg c]
      rfl
theorem led_skip {ts : List Str} {i k : Nat} (h : (srt ts)[i]? = some k) (ne : rwS ts k = ("" : Str)) : ledL ts i = ledL ts (i + 1) := by
  unfold ledL
  refine List.map_congr_left fun l hl => ?_
  unfold ledV
  have e2 : (rwS ts l ≠ ("" : Str) ∧ posn ts l < i) ↔ (rwS ts l ≠ ("" : Str) ∧ posn ts l < i + 1) := by
    refine and_congr_right fun n => ?_
    have : posn ts l ≠ i := fun z => n (by rw [posn_inj h (List.mem_range.mp hl) z]; exact ne)
    omega
  simp only [e2]
abbrev sPRowLeads : Stmt := topS 18
theorem scPRowLeads : FnScope ["row", "found", "in_order", "begun", "sign", "number"] ["row"] (defScope sPRowLeads) := ⟨rfl, rfl, rfl, by decide +kernel, rfl, by decide +kernel, by decide +kernel⟩
section
variable {P : Program} {w : World} {K : PySem.W.Frag} {mg : Str → Option Value} {base : Heap}
theorem ok_PRowLeads {f : Addr} {fd : FuncData} (F : Fun K "row_leads" "row_leads" sPRowLeads f fd) (T : Glob mg) : FnOk P w K mg base CX0 1 f fd ["row"] spLeads := by
  refine F.ok scPRowLeads (fun vs H Q E h => ?_) (fun cdv A outer s H vs Q E hr h => ?_)
  · obtain ⟨a, ts, rfl, _⟩ := h
    rfl
  · refine ⟨_, (pss_cons (ps_set (i := 1) scPRowLeads.nd rfl (.inl rfl) (pe_op op_rep (pe_lst (pa_cons pe_non pa_nil)) (pe_callB call_len_seq (by rfl) T.len PySem.boot_len (pa_cons (pv 0) pa_nil))))
      (pss_cons (ps_set (i := 2) scPRowLeads.nd rfl (.inl rfl) (pe_callB (cr_sortedD hr.units) (by rfl) T.sorted (by decide +kernel) (pa_cons (pe_lc (own := [("number", 5), ("sign", 4)]) (g := (gTup K 2 (gCons (gName 5) (gCons (gName 4) gNil)))) (by rfl) scPRowLeads.nd (pi_enumT (by rfl) T.enumerate (pa_cons (pv 0) pa_nil)) (blkOk_by (N := ["row", "found", "in_order", "begun", "sign", "number"]) (sc := defScope sPRowLeads) (by decide +kernel)) (fun _ _ _ _ _ => pg_tup (by rfl) (pgs_cons (pg_name (i := 5) scPRowLeads.nd rfl (.inl rfl)) (pgs_cons (pg_name (i := 4) scPRowLeads.nd rfl (.inl rfl)) pgs_nil))) (fun _ _ _ _ _ => pts_nil) (fun _ _ _ _ _ => pe_tup (pa_cons (pv 4) (pa_cons (pv 5) pa_nil)))) pa_nil)))
      (pss_cons (ps_for PassesOwn.never rfl (pi_enum (by rfl) T.enumerate (pa_cons (pv 2) pa_nil)) (pg_tup (by rfl) (pgs_cons (pg_name (i := 3) scPRowLeads.nd rfl (.inl rfl)) (pgs_cons (pg_tup (by rfl) (pgs_cons (pg_name (i := 4) scPRowLeads.nd rfl (.inl rfl)) (pgs_cons (pg_name (i := 5) scPRowLeads.nd rfl (.inl rfl)) pgs_nil))) pgs_nil)))
        (pss_one (ps_if (pt_cmpR op_ne (pv 4) pe_str (nomark _)) (pss_one (ps_asg (pv 3) (pg_sub (pv 1) (pv 5) set_list))) pss_nil)))
      (pss_one (ps_ret (pv 1)))))), ?_⟩
    obtain ⟨a, ts, rfl, ha, hr0, q⟩ := h
    have rl := row_len ts
    have el : (enT ts).length = (rowL ts).length := by unfold rowL; rw [List.length_map]
    have ol := ord_len hr0.len hr0.few
    have few := hr0.few
    have sz := sizeLine_eq
    refine ⟨by show 1 ≤ sizeLine; decide, fun z nz => ?_⟩
    refine ⟨.ref a, rfl, a, _, rfl, .inr (ha.same (Same.new nz)).sq, ?_⟩
    refine ⟨z, _, [.non], rfl, rfl, upd_same, by rw [List.length_map]; omega, by rw [List.length_map]; omega, by show 1 * _ ≤ _; rw [List.length_map]; omega, fun F nF => ?_⟩
    have hF : upd (upd H z (.lst [.non])) F (.lst (ledL ts 0)) F = some (.lst (ledL ts 0)) := upd_same
    have k1 : Same H (upd (upd H z (.lst [.non])) F (.lst (ledL ts 0))) := (Same.new nz).trans (Same.new nF)
    have e0 : (List.replicate (Int.toNat ((((rowL ts).map V.str).length : Nat) : Int)) [V.non]).flatten = ledL ts 0 := by
      rw [Int.toNat_natCast, List.length_map, ← el]
      unfold ledL
      have : ∀ n, (List.replicate n [V.non]).flatten = (List.range n).map (ledV ts 0) := fun n => by
        induction n with
        | zero => rfl
        | succ n ih =>
          rw [List.replicate_succ', List.flatten_append, ih, List.range_succ, List.map_append]
          unfold ledV
          simp
      exact this _
    rw [e0]
    revert k1 hF
    generalize upd (upd H z (.lst [.non])) F (.lst (ledL ts 0)) = H1
    intro hF k1
    have nF0 : H F = none := Same.free (Same.new nz) nF
    have ha1 := ha.same k1
    dsimp only [tNext, tDrop]
    refine ⟨.ref a, rfl, a, _, rfl, ha1.sq, fun D nD => wk walk_en (fun i H' => Same H1 H' ∧ ∃ vs, H' D = some (.lst vs) ∧ All2 (NAt ts H') vs (List.range i)) ⟨Same.new nD, [], upd_same, .nil⟩ (fun i H' _ w => (TupF.same w.1 ha1).sq) ?_ ?_⟩
    · rintro i x H2 H3 hi ⟨k2, vs, hD, hv⟩ ⟨T, x1, x2, rfl, nT, rfl, e1, e2⟩
      cases e1
      have e2 : ((rowL ts).map V.str)[i]? = some x2 := e2
      rw [List.getElem?_map] at e2
      obtain ⟨y, ey, rfl⟩ := Option.map_eq_some_iff.mp e2
      have er : rwS ts i = y := by unfold rwS; rw [List.getD_eq_getElem?_getD, ey]; rfl
      have k3 : Same H2 (upd H2 T (.tup [.int (i : Nat), .str y])) := Same.new nT
      refine ⟨T, _, rfl, SqT.of upd_same, rfl, _, _, rfl, _, _, rfl, rfl, rfl, _, rfl, _, rfl, by show 2 ≤ sizeLine; decide, fun b nb => ⟨vs, ?_, ?_, sameAt ((k2.trans k3).trans (Same.new nb)) nD, vs ++ [.ref b], upd_same, ?_⟩⟩
      · exact (k3.trans (Same.new nb)) _ _ hD
      · have z1 := hv.len
        rw [List.length_range] at z1
        rw [List.length_map] at hi
        omega
      · rw [List.range_succ]
        have kn := Same.new (o := .tup [.str y, .int (i : Nat)]) nb
        have hD3 := (k3.trans kn) _ _ hD
        have bD : b ≠ D := fun w => by rw [w, k3 _ _ hD] at nb; cases nb
        refine All2.snoc (hv.imp fun u m r => ?_) ?_
        · obtain ⟨c, e3, e4⟩ := r
          have g := (k3.trans kn) _ _ e4
          refine ⟨c, e3, ?_⟩
          rw [upd_ne (fun w => by rw [w, hD3] at g; cases g)]
          exact g
        · exact ⟨b, rfl, by rw [upd_ne bD, upd_same, er]⟩
    rintro H2 ⟨k2, vs, hD, hv⟩
    rw [List.length_map, ← el] at hv
    dsimp only [tNil]
    refine sorted_pairs hD hv fun L ws nL hw => ?_
    have kL : Same H2 (upd H2 L (.lst ws)) := Same.new nL
    have hL : upd H2 L (.lst ws) L = some (.lst ws) := upd_same
    have hw := hw.imp fun _ _ r => r.same kL
    have hF3 := kL _ _ (k2 _ _ hF)
    have k13 := (k1.trans k2).trans kL
    have nLF : L ≠ F := fun w => by rw [w, k2 _ _ hF] at nL; cases nL
    revert kL hL hw hF3 k13
    generalize upd H2 L (.lst ws) = H3
    intro kL hL hw hF3 k13
    have lw : ws.length = nR ts := by rw [hw.len, List.length_mergeSort, List.length_range]
    refine ⟨.ref L, rfl, L, ws, rfl, sq_of hL, for_it (walk_enum (K := K) (a := L) (xs := ws)) (fun i σ H' => ∃ u3 u4 u5 : Option V, σ = [some (.ref a), some (.ref F), some (.ref L), u3, u4, u5] ∧ (∀ c o, c ≠ F → H3 c = some o → H' c = some o) ∧ H' F = some (.lst (ledL ts i))) ⟨_, _, _, rfl, fun _ _ _ h => h, hF3⟩ (fun i σ H' _ ⟨_, _, _, _, w, _⟩ => sq_of (w _ _ nLF hL)) ?_ ?_⟩
    · rintro i x σ H4 H5 hi ⟨u3, u4, u5, rfl, k4, hF4⟩ ⟨T, x1, x2, rfl, nT, rfl, e1, e2⟩
      cases e1
      have e2 : ws[i]? = some x2 := e2
      obtain ⟨k, ek, b, rfl, eb⟩ := hw.at e2
      have hk : k < nR ts := List.mem_range.mp ((srt_perm ts).mem_iff.mp (List.mem_of_getElem? ek))
      have bF : b ≠ F := fun w => by rw [w, hF3] at eb; cases eb
      have kT : Same H4 (upd H4 T (.tup [.int (i : Nat), .ref b])) := Same.new nT
      have eb5 := kT _ _ (k4 _ _ bF eb)
      have hF5 := kT _ _ hF4
      have k5 : ∀ c o, c ≠ F → H3 c = some o → upd H4 T (.tup [.int (i : Nat), .ref b]) c = some o := fun c o n h => kT _ _ (k4 c o n h)
      have hT : upd H4 T (.tup [.int (i : Nat), .ref b]) T = some (.tup [.int (i : Nat), .ref b]) := upd_same
      revert eb5 hF5 k5 hT
      generalize upd H4 T (.tup [.int (i : Nat), .ref b]) = H5
      intro eb5 hF5 k5 hT
      refine ⟨T, _, rfl, SqT.of hT, rfl, _, _, rfl, _, _, rfl, b, _, rfl, SqT.of eb5, rfl, _, _, rfl, _, _, rfl, rfl, rfl, ?_⟩
      refine ⟨_, rfl, rfl, _, rfl, ite2 (fun c => ?_) (fun c => ?_)⟩
      · have ne : rwS ts k ≠ ("" : Str) := fun e => by rw [e] at c; revert c; decide
        refine ⟨_, rfl, .ref F, rfl, _, rfl, F, _, _, k, rfl, rfl, hF5, ?_, ?_⟩
        · exact Evl.ixN_nat (by unfold ledL; rw [List.length_map, List.length_range]; exact hk)
        · refine ⟨_, _, _, rfl, fun c o n h => ?_, ?_⟩
          · rw [upd_ne n]
            exact k5 c o n h
          · rw [upd_same, led_step ek ne]
      · have e : rwS ts k = ("" : Str) := Classical.byContradiction fun n => c (by
          rw [Bool.not_eq_true']
          exact decide_eq_false fun z => n (V.str.inj z))
        exact ⟨_, _, _, rfl, k5, by rw [← led_skip ek e]; exact hF5⟩
    rintro σ H4 ⟨u3, u4, u5, rfl, k4, hF4⟩
    refine ⟨.ref F, rfl, q F H4 (fun c o h => k4 c o (fun w => by rw [w, nF0] at h; cases h) (k13 _ _ h)) nF0 ?_⟩
    rw [lw] at hF4
    exact hF4
end
end LawK
set_option maxHeartbeats 4000000
namespace LawK
open PySem PySem.Spec PyProof.Rows L2 Ev
/-- the entry of a text's end -/
theorem en_end {ts : List Str} {i : Nat} (h : i < ts.length) : (enT ts)[i]? = some (i, (txc ts i).length) := by
  unfold enT
  rw [List.getElem?_append_left (by rw [List.length_map, List.length_range]; exact h), List.getElem?_map, List.getElem?_range h]
  rfl
theorem rwS_en {ts : List Str} {n : Nat} {p : Pl} (e : (enT ts)[n]? = some p) : rwS ts n = sgS ts p := by
  unfold rwS rowL
  rw [List.getD_eq_getElem?_getD, List.getElem?_map, e]
  rfl
/-- the sign ahead of a text's beginning is none, and else where it begins an entry -/
theorem sgS_none {ts : List Str} {p : Pl} (h : p ∈ enT ts) : sgS ts p = ("" : Str) ↔ p.2 = 0 := by
  rw [← sg_nil h]
  constructor
  · intro e
    exact congrArg cod e
  · intro e
    unfold sgS
    rw [e]
    rfl
theorem led_at {ts : List Str} {n : Nat} {p : Pl} (e : (enT ts)[n]? = some p) (hp : 0 < p.2) : (ledL ts (nR ts))[n]? = some (iN (posn ts n)) := by
  have hn := (List.getElem?_eq_some_iff.mp e).1
  have hl := (List.getElem?_eq_some_iff.mp (posn_lead e hp)).1
  unfold ledL
  rw [List.getElem?_map, List.getElem?_range hn]
  show some (ledV ts (nR ts) n) = _
  unfold ledV
  rw [if_pos ⟨fun z => by
    rw [rwS_en e, sgS_none (List.mem_of_getElem? e)] at z
    omega, hl⟩]
/-- the signs that are told from a text's end on, turned about -/
def told (ts : List Str) (i m : Nat) : List Str := (List.range m).map fun j => sgS ts (i, (txc ts i).length - j)
theorem told_flat (ts : List Str) (i : Nat) : ∀ m, m ≤ (txc ts i).length → ((told ts i m).reverse.map cod).flatten = (txc ts i).drop ((txc ts i).length - m)
  | 0, _ => by
    unfold told
    rw [Nat.sub_zero, List.drop_length]
    rfl
  | m + 1, h => by
    have ih := told_flat ts i m (by omega)
    have e : told ts i (m + 1) = told ts i m ++ [sgS ts (i, (txc ts i).length - m)] := by
      unfold told
      rw [List.range_succ, List.map_append]
      rfl
    obtain ⟨c, ec, es⟩ := RowM.sf_prd (tx := txc ts) (p := (i, (txc ts i).length - m)) (by show 0 < _ - m; omega) (Nat.sub_le _ _)
    have es : (txc ts i).drop ((txc ts i).length - m - 1) = c :: (txc ts i).drop ((txc ts i).length - m) := es
    rw [e, List.reverse_append, List.map_append, List.flatten_append, ih]
    rw [show (txc ts i).length - (m + 1) = (txc ts i).length - m - 1 by omega, es]
    have e3 : cod (sgS ts (i, (txc ts i).length - m)) = [c] := ec
    have g : ([sgS ts (i, (txc ts i).length - m)].reverse.map cod).flatten = [c] := by
      rw [List.reverse_singleton]
      show cod (sgS ts (i, (txc ts i).length - m)) ++ [] = [c]
      rw [e3]
      rfl
    rw [g]
    rfl
theorem told_all (ts : List Str) (i : Nat) : ((told ts i (txc ts i).length).reverse.map cod).flatten = txc ts i := by
  rw [told_flat ts i _ (Nat.le_refl _), Nat.sub_self]
  rfl
end LawK
set_option maxHeartbeats 4000000
/-! A text read from its end. -/
namespace Ev
open PySem PySem.Spec PyProof.Rows L2
def revC (z : Str) : List Nat := (List.range z.length).map fun k => z.cps.getD (z.length - 1 - k) 0
def revZ (z : Str) : Str := SX.S (revC z)
theorem rev_pick (z : Str) : (Builtin.Str.strSliceIndices none none (-1) z.length).filterMap (z.cps[·]?) = revC z := by
  rw [picked_rev, filterMap_get, List.map_map]
  · rfl
  · intro i hi
    obtain ⟨k, hk, rfl⟩ := List.mem_map.mp hi
    have hk' := List.mem_range.mp hk
    show z.length - 1 - k < z.length
    omega
theorem revC_len (z : Str) : (revC z).length = z.length := by
  unfold revC
  rw [List.length_map, List.length_range]
theorem revZ_len (z : Str) : (revZ z).length = z.length := (SX.S_len _).trans (revC_len z)
theorem revC_mem {z : Str} {c : Nat} (h : c ∈ revC z) : c ∈ z.cps.toList := by
  obtain ⟨k, hk, rfl⟩ := List.mem_map.mp h
  have hk' := List.mem_range.mp hk
  have hi : z.length - 1 - k < z.cps.size := by
    show z.length - 1 - k < z.length
    omega
  have e : z.cps.getD (z.length - 1 - k) 0 = z.cps[z.length - 1 - k] := by simp [Array.getD, hi]
  rw [e]
  exact Array.getElem_mem_toList hi
theorem sgB_rev {z : Str} (h : sgB z = true) : sgB (revZ z) = true := List.all_eq_true.mpr fun c hc => sgB_mem h (revC_mem hc)
def tRevS (te : TE) : TE := fun σ H Q => te σ H fun x H1 => ∃ z : Str, x = .str z ∧ z.length ≤ sizeLine ∧ Q (.str (revZ z)) H1
theorem pe_revS {X : Cx} {e : Expr} {te : TE} {k : Nat} {p1 p2 p3 pos : Pos} (he : PE X e te) :
    PE X (.Subscript e (.Slice none none (some (.UnaryOp .USub (.Constant (.int 1) k p1) p2)) p3) pos) (tRevS te) := by
  constructor
  intro pins s σ H Q I h
  apply Subscript_
  refine thn (he.run pins s σ H _ I h) ?_
  rintro v s1 ⟨x, H1, I1, r1, z, rfl, hz, q⟩
  obtain ⟨t, rfl⟩ := r1
  have hst : PO X (some (.UnaryOp .USub (.Constant (.int 1) k p1) p2)) _ := po_some (pe_un un_neg pe_int)
  apply wpAny_Slice
  refine thn (po_none.run pins s1 σ H1 (fun o H2 => o = none ∧ H2 = H1) I1 ⟨rfl, rfl⟩) ?_
  rintro vl s2 ⟨l, H2, I2, pl, rfl, rfl⟩
  refine thn (po_none.run pins s2 σ _ (fun o H3 => o = none ∧ H3 = H2) I2 ⟨rfl, rfl⟩) ?_
  rintro vu s3 ⟨u, H3, I3, pu, rfl, rfl⟩
  refine thn (hst.run pins s3 σ _ (fun o H4 => o = some (-1) ∧ H4 = H3) I3 ⟨1, rfl, -1, rfl, rfl, rfl⟩) ?_
  rintro vs s4 ⟨o, H4, I4, pz, rfl, rfl⟩
  have I5 := I4.kept (t' := s4.toks) (h' := s4.heap.push { cls := .type "slice", data := .fields #[vl, vu, vs] }) fun b ob g => Heap.get?_push_of_some _ g
  obtain ⟨l', rfl, el⟩ := IsPart.raw pl
  obtain ⟨u', rfl, eu⟩ := IsPart.raw pu
  obtain ⟨w', rfl, ew⟩ := IsPart.raw pz
  refine tail_any (ops := [.str z t, .ref s4.heap.objs.size]) (typeIs_str _ _ _) F.slot_str_getitem.lookup ?_ (by with_unfolding_all rfl)
  have e1 : ((w'.map (·.1)).getD 1 == 1) = false := by rw [ew]; rfl
  have e0 : ((w'.map (·.1)).getD 1 == 0) = false := by rw [ew]; rfl
  refine wpAny_getItem_str_slice (l := l') (u := u') (st := w') (Heap.IsSliceOf.new ..) e0 ?_
  have em : sliceMade z t l' u' w' = Made.str (revZ z) := by
    unfold sliceMade
    rw [e1, Bool.false_and, if_neg (by decide)]
    have e2 : slicePicked z l' u' w' = Builtin.Str.strSliceIndices none none (-1) z.length := by
      unfold slicePicked
      rw [el, eu, ew]
      rfl
    rw [e2, rev_pick]
    rfl
  rw [em]
  refine ⟨?_, .str (revZ z), H4, I5.tok _, ⟨_, rfl⟩, q⟩
  rw [revZ_len]
  exact hz
end Ev
set_option maxHeartbeats 4000000
/-! xs[::-1] of a list. -/
namespace Ev
open PySem PySem.Spec PyProof.Rows L2
theorem pick_all {α : Type} (its : List α) (d : α) : ∀ l : List Nat, (∀ i ∈ l, i < its.length) → l.filterMap (its.toArray[·]?) = l.map fun i => its.getD i d
  | [], _ => rfl
  | i :: l, h => by
    have hi := h i (List.mem_cons_self ..)
    have e : its.toArray[i]? = some (its.getD i d) := by
      rw [List.getElem?_toArray, List.getD_eq_getElem?_getD, List.getElem?_eq_getElem hi]
      rfl
    rw [List.filterMap_cons, e, List.map_cons, pick_all its d l fun j hj => h j (List.mem_cons_of_mem _ hj)]
theorem rev_get {α : Type} (its : List α) (d : α) : ((List.range its.length).map fun k => its.getD (its.length - 1 - k) d) = its.reverse := by
  apply List.ext_getElem?
  intro i
  rw [List.getElem?_map]
  by_cases h : i < its.length
  · rw [List.getElem?_range h, List.getElem?_reverse h]
    show some (its.getD (its.length - 1 - i) d) = its[its.length - 1 - i]?
    rw [List.getD_eq_getElem?_getD, List.getElem?_eq_getElem (show its.length - 1 - i < its.length by omega)]
    rfl
  · rw [List.getElem?_eq_none (by rw [List.length_range]; omega), List.getElem?_eq_none (by rw [List.length_reverse]; omega)]
    rfl
theorem rev_bounds (n : Nat) : sliceRange (sliceBounds none none (some (-1)) n).1 (sliceBounds none none (some (-1)) n).2.1 (sliceBounds none none (some (-1)) n).2.2 = (List.range n).map fun k => n - 1 - k := by
  have g : ¬ ((-1 : Int) > 0) := by decide
  unfold sliceRange sliceBounds
  simp only [Option.getD_some, g, if_false]
  have c : (if (n : Int) - 1 > -1 then ((n : Int) - 1 - -1 - -1 - 1) / (- -1) else 0).toNat = n := by
    by_cases h : (n : Int) - 1 > -1
    · rw [if_pos h, show (- -1 : Int) = 1 from rfl, Int.ediv_one]
      omega
    · rw [if_neg h]
      omega
  rw [c]
  refine List.map_congr_left fun k hk => ?_
  have hk := List.mem_range.mp hk
  omega
theorem pick_revL (its : List Value) : slicePick its.toArray none none (some (-1)) = its.reverse.toArray := by
  unfold slicePick
  rw [show its.toArray.size = its.length from List.size_toArray .., rev_bounds, pick_all its .none _ (fun i hi => by
    obtain ⟨k, hk, rfl⟩ := List.mem_map.mp hi
    have := List.mem_range.mp hk
    omega), List.map_map]
  exact congrArg List.toArray (rev_get its .none)
def tRevL (K : PySem.W.Frag) (te : TE) : TE := fun σ H Q => te σ H fun x H1 => ∃ (a : Addr) (xs : List V), x = .ref a ∧ SqL K H1 a xs ∧ ∀ q, H1 q = none → Q (.ref q) (upd H1 q (.lst xs.reverse))
theorem pe_revL {X : Cx} {e : Expr} {te : TE} {k : Nat} {p1 p2 p3 pos : Pos} (he : PE X e te) :
    PE X (.Subscript e (.Slice none none (some (.UnaryOp .USub (.Constant (.int 1) k p1) p2)) p3) pos) (tRevL X.K te) := by
  constructor
  intro pins s σ H Q I h
  apply Subscript_
  refine thn (he.run pins s σ H _ I h) ?_
  rintro v s1 ⟨x, H1, I1, r1, a, xs, rfl, hq, q⟩
  obtain rfl : v = Value.ref a := r1
  have hst : PO X (some (.UnaryOp .USub (.Constant (.int 1) k p1) p2)) _ := po_some (pe_un un_neg pe_int)
  apply wpAny_Slice
  refine thn (po_none.run pins s1 σ H1 (fun o H2 => o = none ∧ H2 = H1) I1 ⟨rfl, rfl⟩) ?_
  rintro vl s2 ⟨l, H2, I2, pl, rfl, rfl⟩
  refine thn (po_none.run pins s2 σ _ (fun o H3 => o = none ∧ H3 = H2) I2 ⟨rfl, rfl⟩) ?_
  rintro vu s3 ⟨u, H3, I3, pu, rfl, rfl⟩
  refine thn (hst.run pins s3 σ _ (fun o H4 => o = some (-1) ∧ H4 = H3) I3 ⟨1, rfl, -1, rfl, rfl, rfl⟩) ?_
  rintro vs s4 ⟨o, H4, I4, pz, rfl, rfl⟩
  have I5 := I4.kept (t' := s4.toks) (h' := s4.heap.push { cls := .type "slice", data := .fields #[vl, vu, vs] }) fun b ob g => Heap.get?_push_of_some _ g
  obtain ⟨its, rv, p', hz⟩ := I5.list hq
  have hl := rv.length
  refine tail_any (ops := [.ref a, .ref s4.heap.objs.size]) p'.isList.typeIs F.slot_list_getitem.lookup ?_ (by with_unfolding_all rfl)
  refine wpAny_getItem_list_slice p'.isList (Heap.IsSliceOf.new ..) pl pu pz (by simp) ?_ (by rw [List.size_toArray]; omega)
  rw [pick_revL]
  refine ⟨.ref _, _, I5.laid (t' := s4.toks) (o := .lst xs.reverse) (fun b ob g => Heap.get?_push_of_some _ g) (Nat.le_refl _) ?_, rfl, q _ (I5.hok.fresh (Nat.le_refl _))⟩
  exact ⟨by rw [List.length_reverse]; exact hz, its.reverse, 0, rv.reverse, Heap.get?_push_size _ rfl⟩
end Ev
set_option maxHeartbeats 4000000
namespace LawK
open PySem PySem.Spec PyProof.Rows L2 Ev

theorem joinL0 : ∀ ls : List (List Nat), TL.joinL [] ls = ls.flatten
  | [] => rfl
  | [c] => by
    show c = c ++ []
    rw [List.append_nil]
  | c :: d :: r => by
    have e := joinL0 (d :: r)
    show c ++ ([] ++ TL.joinL [] (d :: r)) = c ++ (d :: r).flatten
    rw [e, List.nil_append]
theorem join_names (zs : List Str) : Txt.join (Str.ofString "") zs = SX.S (zs.map fun w => w.cps.toList).flatten := by
  have e := SX.join_S [] (zs.map fun w => w.cps.toList)
  rw [List.map_map, joinL0] at e
  have e2 : zs.map (SX.S ∘ fun w => w.cps.toList) = zs := by
    conv => rhs; rw [← List.map_id zs]
    exact List.map_congr_left fun w _ => S_eta w
  rw [e2] at e
  exact e
def Z0 (z : Str) (b : List Nat) : Prop := b[0]? = some 0 ∨ b = [] ∧ z.length = 0
def spSpelled : Sp := fun vs H Q _ => ∃ (a : Addr) (ts : List Str), vs = [.ref a] ∧ RowAt H a ts ∧ Rw ts ∧ ∀ b H', Same H H' → H' b = some (.tup (ts.map V.str)) → Q (.ref b) H'
section
variable {P : Program} {w : World} {K : PySem.W.Frag} {mg : Str → Option Value} {base : Heap}
abbrev sQSpelled : Stmt := topS 19
theorem scQSpelled : FnScope ["row", "begun", "texts", "text", "signs", "number"] ["row"] (defScope sQSpelled) := ⟨rfl, rfl, rfl, by decide +kernel, rfl, by decide +kernel, by decide +kernel⟩
theorem ok_QSpelled {f : Addr} {fd : FuncData} (F : Fun K "_spelled" "_spelled" sQSpelled f fd)  {fPRowLeads : Addr} {fdPRowLeads : FuncData} (DPRowLeads : Dk P w K mg base "row_leads" sPRowLeads ["row"] 1 spLeads fPRowLeads fdPRowLeads) (T : Glob mg) : FnOk P w K mg base CX0 2 f fd ["row"] spSpelled := by
  refine F.ok scQSpelled (fun vs H Q E h => ?_) (fun cdv A outer s H vs Q E hr h => ?_)
  · obtain ⟨a, ts, rfl, _⟩ := h
    rfl
  · refine ⟨_, (pss_cons (ps_set (i := 1) scQSpelled.nd rfl (.inl rfl) (pe_call DPRowLeads.ok (hr.mono (by decide)) (by rfl) DPRowLeads.g DPRowLeads.F.kp DPRowLeads.b .nil pass0 (pa_cons (pv 0) pa_nil)))
      (pss_cons (ps_set (i := 2) scQSpelled.nd rfl (.inl rfl) (pe_lst pa_nil))
      (pss_cons (ps_for PassesOwn.never rfl (pi_range1 (by rfl) T.range (pa_cons (pe_bmT PySem.F.plainAttrs_tuple PySem.F.slot_tuple_count PySem.F.type_tuple_count mt_tcount (pv 0) (pa_cons pe_str pa_nil)) pa_nil)) (pg_name (i := 3) scQSpelled.nd rfl (.inl rfl))
      (pss_cons (ps_set (i := 4) scQSpelled.nd rfl (.inl rfl) (pe_lst pa_nil))
        (pss_cons (ps_set (i := 5) scQSpelled.nd rfl (.inl rfl) (pv 3))
        (pss_cons (ps_while PassesOwn.never (pt_cmpR op_ne (pe_ix ix_tup (pv 0) (pv 5) (fun _ _ => rfl)) pe_str (nomark _))
        (pss_cons (ps_expr (pe_bm PySem.F.plainAttrs_list PySem.F.slot_list_append PySem.F.type_list_append mt_append (pv 4) (pa_cons (pe_ix ix_tup (pv 0) (pv 5) (fun _ _ => rfl)) pa_nil)))
          (pss_one (ps_set (i := 5) scQSpelled.nd rfl (.inl rfl) (pe_ix ix_list (pv 1) (pv 5) (fun _ _ => rfl))))))
        (pss_one (ps_expr (pe_bm PySem.F.plainAttrs_list PySem.F.slot_list_append PySem.F.type_list_append mt_append (pv 2) (pa_cons (pe_join pe_str (Ev.pe_revL (pv 4))) pa_nil))))))))
      (pss_one (ps_ret (pe_callTy call_tuple_of (by rfl) T.tuple (by decide +kernel) (pa_cons (pv 2) pa_nil))))))), ?_⟩
    obtain ⟨a, ts, rfl, ha, hr0, q⟩ := h
    have rl := row_len ts
    have ol := ord_len hr0.len hr0.few
    have few := hr0.few
    have sz := sizeLine_eq
    refine ⟨.ref a, rfl, a, ts, rfl, ha, hr0, fun B H1 k1 nB hB => ?_⟩
    dsimp only [tNext, tDrop]
    refine ⟨by show 0 ≤ sizeLine; decide, fun X nX => ?_⟩
    have kX : Same H1 (upd H1 X (.lst [])) := Same.new nX
    have hX : upd H1 X (.lst []) X = some (.lst []) := upd_same
    have nXB : B ≠ X := fun w => by rw [← w, hB] at nX; cases nX
    have k12 := k1.trans kX
    have nXH : H X = none := Same.free k1 nX
    revert kX hX k12
    generalize upd H1 X (.lst []) = H2
    intro kX hX k12
    have ha2 := ha.same k12
    have hB2 := kX _ _ hB
    refine ⟨.ref a, rfl, ⟨a, _, rfl, ha2⟩, a, rowL ts, "", rfl, rfl, ha2.sq, ?_⟩
    rw [count_nil]
    refine ⟨_, rfl, by omega, by omega, for_range (fun i σ H' => ∃ u3 u4 u5 : Option V, σ = [some (.ref a), some (.ref B), some (.ref X), u3, u4, u5] ∧ (∀ c o, c ≠ X → H2 c = some o → H' c = some o) ∧ H' X = some (.lst ((ts.take i).map V.str))) ⟨_, _, _, rfl, fun _ _ _ h => h, hX⟩ ?_ ?_⟩
    · rintro i σ H3 hi ⟨u3, u4, u5, rfl, k3, hX3⟩
      have hi : i < ts.length := by omega
      refine ⟨by show 0 ≤ sizeLine; decide, fun D nD => ?_⟩
      have kD : Same H3 (upd H3 D (.lst [])) := Same.new nD
      have hD : upd H3 D (.lst []) D = some (.lst []) := upd_same
      have nDX : D ≠ X := fun w => by rw [w, hX3] at nD; cases nD
      have hX4 := kD _ _ hX3
      have k4 : ∀ c o, c ≠ X → H2 c = some o → upd H3 D (.lst []) c = some o := fun c o n h => kD _ _ (k3 c o n h)
      revert kD hD hX4 k4
      generalize upd H3 D (.lst []) = H4
      intro kD hD hX4 k4
      have aX : a ≠ X := fun w => by obtain ⟨o, e, _⟩ := ha2; rw [w, hX] at e; cases e
      obtain ⟨oa, ea, pa⟩ := ha2
      have ea4 := k4 _ _ aX ea
      have hB4 := k4 _ _ nXB hB2
      have aD : a ≠ D := fun w => by rw [w, hD] at ea4; cases ea4
      have BD : B ≠ D := fun w => by
        rw [w] at hB2
        have := k3 D _ (fun z => nDX z) hB2
        rw [nD] at this
        cases this
      have ll := tx_len hr0.len i
      rw [len_S] at ll
      have ll : (txc ts i).length ≤ 200 := ll
      refine ⟨_, rfl, fun m σ H' => ∃ n : Nat, (enT ts)[n]? = some (i, m) ∧ σ = [some (.ref a), some (.ref B), some (.ref X), some (.int (0 + (i : Nat))), some (.ref D), some (.int (n : Nat))] ∧ (∀ c o, c ≠ D → H4 c = some o → H' c = some o) ∧ H' D = some (.lst ((told ts i ((txc ts i).length - m)).map V.str)) ∧ m ≤ (txc ts i).length, ⟨(txc ts i).length, i, en_end hi, ?_, fun _ _ _ h => h, ?_, Nat.le_refl _⟩, ?_⟩
      · show [some (V.ref a), some (V.ref B), some (V.ref X), some (V.int (0 + (i : Nat))), some (V.ref D), some (V.int (0 + (i : Nat)))] = _
        rw [Int.zero_add]
      · rw [Nat.sub_self]
        exact hD
      rintro m σ H5 ⟨n, en, rfl, k5, hD5, hm⟩
      have ea5 := k5 _ _ aD ea4
      have hB5 := k5 _ _ BD hB4
      have sq5 : SqT K H5 a ((rowL ts).map V.str) := TupF.sq ⟨oa, ea5, pa⟩
      have hn := (List.getElem?_eq_some_iff.mp en).1
      have at5 : atI ((rowL ts).map V.str) ((n : Nat) : Int) = some (.str (rwS ts n)) := atI_nat (by
        rw [List.getElem?_map, List.getElem?_eq_getElem (show n < (rowL ts).length by unfold rowL; rw [List.length_map]; exact hn)]
        unfold rwS
        rw [List.getD_eq_getElem?_getD, List.getElem?_eq_getElem (show n < (rowL ts).length by unfold rowL; rw [List.length_map]; exact hn)]
        rfl)
      have es := rwS_en en
      have mem := List.mem_of_getElem? en
      refine ⟨.ref a, rfl, _, rfl, a, _, _, .str (rwS ts n), rfl, rfl, sq5, at5, rfl, _, rfl, ?_⟩
      cases m with
      | zero =>
        refine iteNS (congrArg V.str (by rw [es, sgS_none mem])) ?_
        have hX5 := k5 _ _ (fun w => nDX w.symm) hX4
        rw [Nat.sub_zero] at hD5
        refine ⟨.ref X, rfl, .inl ⟨rfl, _, sq_of hX5⟩, ⟨_, rfl⟩, .ref D, rfl, D, _, rfl, sq_of hD5, fun R nR' => ?_⟩
        rw [← List.map_reverse]
        have fl := told_all ts i
        have sm : ((told ts i (txc ts i).length).reverse.map (fun x => x.length)).sum = (txc ts i).length := by
          have := congrArg List.length fl
          rw [List.length_flatten, List.map_map] at this
          exact (congrArg List.sum (List.map_congr_left fun z _ => len_S z)).trans this
        refine ⟨_, R, _, rfl, rfl, .inl (sq_of upd_same), ?_, ?_⟩
        · have : (Str.ofString "").length = 0 := by decide +kernel
          rw [sm, this]
          omega
        have jt : Txt.join (Str.ofString "") (told ts i (txc ts i).length).reverse = tx ts i := by
          rw [join_names]
          apply cod_inj
          exact fl
        rw [jt]
        dsimp only [tNil]
        have nRX : R ≠ X := fun w => by rw [w, hX5] at nR'; cases nR'
        have hX6 := (Same.new (o := .lst ((told ts i (txc ts i).length).reverse.map V.str)) nR') _ _ hX5
        refine ⟨X, _, _, rfl, rfl, hX6, ?_, _, _, _, rfl, fun c o nc h => ?_, ?_⟩
        · rw [List.length_map, List.length_take]
          omega
        · rw [upd_ne nc]
          have cD : c ≠ D := fun w => by
            rw [w] at h
            have := k3 D _ (fun z => nDX z) h
            rw [nD] at this
            cases this
          exact (Same.new nR') _ _ (k5 c o cD (k4 c o nc h))
        · have et : ts[i]? = some (tx ts i) := by
            show ts[i]? = some (ts.getD i Str.empty)
            rw [List.getD_eq_getElem?_getD, List.getElem?_eq_getElem hi]
            rfl
          rw [upd_same, take_snoc et, List.map_append]
          rfl
      | succ m =>
        have ne : rwS ts n ≠ ("" : Str) := fun z => by
          rw [es, sgS_none mem] at z
          cases z
        rw [decide_eq_false (fun z => ne (V.str.inj z))]
        refine iteT ⟨_, fun σ' H' w => ⟨m, Nat.lt_succ_self m, w⟩, ?_⟩
        refine ⟨.ref D, rfl, .inl ⟨rfl, _, sq_of hD5⟩, .ref a, rfl, _, rfl, a, _, _, .str (rwS ts n), rfl, rfl, sq5, at5, D, _, _, rfl, rfl, hD5, ?_, ?_⟩
        · unfold told
          rw [List.length_map, List.length_map, List.length_range]
          omega
        have hB6 : upd H5 D (.lst ((told ts i ((txc ts i).length - (m + 1))).map V.str ++ [.str (rwS ts n)])) B = _ := (upd_ne BD).trans hB5
        refine ⟨.ref B, rfl, _, rfl, B, _, _, iN (posn ts n), rfl, rfl, sq_of hB6, atI_nat (led_at en (Nat.succ_pos m)), posn ts n, posn_lead en (Nat.succ_pos m), rfl, fun c o nc h => ?_, ?_, by omega⟩
        · rw [upd_ne nc]
          exact k5 c o nc h
        · rw [upd_same, show (txc ts i).length - m = ((txc ts i).length - (m + 1)) + 1 by omega]
          unfold told
          rw [List.range_succ, List.map_append, List.map_append, es]
          show some (HO.lst (_ ++ [V.str (sgS ts (i, m + 1))])) = some (HO.lst (_ ++ [V.str (sgS ts (i, (txc ts i).length - ((txc ts i).length - (m + 1))))]))
          rw [show (txc ts i).length - ((txc ts i).length - (m + 1)) = m + 1 by omega]
    rintro σ H3 ⟨u3, u4, u5, rfl, k3, hX3⟩
    rw [Int.toNat_natCast, List.take_length] at hX3
    refine ⟨.ref X, rfl, X, _, rfl, .inl ⟨sq_of hX3, fun l nl => ?_⟩⟩
    refine q l _ (fun c o h => ?_) upd_same
    have nc : c ≠ X := fun w => by rw [w, nXH] at h; cases h
    exact (Same.new nl) _ _ (k3 c o nc (k12 _ _ h))
end
end LawK
set_option maxHeartbeats 4000000
namespace LawK
open PySem PySem.Spec PyProof.Rows L2 Ev

theorem plN_sum (ts : List Str) : ∀ n, n ≤ ts.length → ((ts.take n).map fun t => ((t.length : Nat) : Int)).sum = (((plN ts n).length : Nat) : Int)
  | 0, _ => rfl
  | n + 1, h => by
    have et : ts[n]? = some (tx ts n) := by
      show ts[n]? = some (ts.getD n Str.empty)
      rw [List.getD_eq_getElem?_getD, List.getElem?_eq_getElem (by omega)]
      rfl
    rw [take_snoc et, List.map_append, List.sum_append, plN_sum ts n (by omega), plN_succ, List.length_append]
    unfold row
    rw [List.length_map, List.length_range]
    simp
theorem len_sum (ts : List Str) : (ts.map fun t => ((t.length : Nat) : Int)).sum = (((ord ts).length : Nat) : Int) := by
  have a := plN_sum ts ts.length (Nat.le_refl _)
  rw [List.take_length] at a
  rw [a, (ord_perm ts).length_eq]
  rfl
def spTextsOf : Sp := fun vs H Q _ => ∃ (a : Addr) (ts : List Str), vs = [.ref a] ∧ RowAt H a ts ∧ Rw ts ∧ ∀ b H', Same H H' → H' b = some (.tup (ts.map V.str)) → Q (.ref b) H'
def spIsRow : Sp := fun vs H Q _ => ∃ (a : Addr) (ts : List Str), vs = [.ref a] ∧ RowAt H a ts ∧ Rw ts ∧ ∀ H', Same H H' → Q (.bl true) H'
section
variable {P : Program} {w : World} {K : PySem.W.Frag} {mg : Str → Option Value} {base : Heap}
abbrev sQTextsOf : Stmt := topS 20
theorem scQTextsOf : FnScope ["thing", "texts", "text"] ["thing"] (defScope sQTextsOf) := ⟨rfl, rfl, rfl, by decide +kernel, rfl, by decide +kernel, by decide +kernel⟩
theorem ok_QTextsOf {f : Addr} {fd : FuncData} (F : Fun K "_texts_of" "_texts_of" sQTextsOf f fd)  {fQHasForm : Addr} {fdQHasForm : FuncData} (DQHasForm : Dk P w K mg base "_has_form" sQHasForm ["thing"] 2 spHasForm fQHasForm fdQHasForm) {fQSpelled : Addr} {fdQSpelled : FuncData} (DQSpelled : Dk P w K mg base "_spelled" sQSpelled ["row"] 2 spSpelled fQSpelled fdQSpelled) (T : Glob mg) : FnOk P w K mg base CX0 3 f fd ["thing"] spTextsOf := by
  refine F.ok scQTextsOf (fun vs H Q E h => ?_) (fun cdv A outer s H vs Q E hr h => ?_)
  · obtain ⟨a, ts, rfl, _⟩ := h
    rfl
  · refine ⟨_, (pss_cons (ps_if (pt_not (pt_val (pe_call DQHasForm.ok (hr.mono (by decide)) (by rfl) DQHasForm.g DQHasForm.F.kp DQHasForm.b .nil pass0 (pa_cons (pv 0) pa_nil))))
      (pss_one (ps_ret pe_non))
      pss_nil)
      (pss_cons (ps_set (i := 1) scQTextsOf.nd rfl (.inl rfl) (pe_call DQSpelled.ok (hr.mono (by decide)) (by rfl) DQSpelled.g DQSpelled.F.kp DQSpelled.b .nil pass0 (pa_cons (pv 0) pa_nil)))
      (pss_cons (ps_if (pt_cmpR op_lt (pe_op op_add (pe_callB (cr_sum rfl) (by rfl) T.sum (by decide +kernel) (pa_cons (pe_lc (own := [("text", 2)]) (g := gName 2) (by rfl) scQTextsOf.nd (pi_tup (pv 1)) (blkOk_by (N := ["thing", "texts", "text"]) (sc := defScope sQTextsOf) (by decide +kernel)) (fun _ _ _ _ _ => pg_name (i := 2) scQTextsOf.nd rfl (.inl rfl)) (fun _ _ _ _ _ => pts_nil) (fun _ _ _ _ _ => (pe_callB call_lenZ (by rfl) T.len PySem.boot_len (pa_cons (pv 2) pa_nil)))) pa_nil)) (pe_callB call_len_seq (by rfl) T.len PySem.boot_len (pa_cons (pv 1) pa_nil))) (pe_callB call_len_seq (by rfl) T.len PySem.boot_len (pa_cons (pv 0) pa_nil)) (nomark _))
      (pss_one (ps_ret pe_non))
      pss_nil)
      (pss_one (ps_ret (pv 1)))))), ?_⟩
    obtain ⟨a, ts, rfl, ha, hr0, q⟩ := h
    have rl := row_len ts
    have ls := len_sum ts
    have few := hr0.few
    have sz := sizeLine_eq
    refine ⟨.ref a, rfl, a, ts, rfl, ha, hr0, fun H1 k1 => ⟨_, rfl, iteF ?_⟩⟩
    dsimp only [tNext, tDrop]
    refine ⟨.ref a, rfl, a, ts, rfl, ha.same k1, hr0, fun b H2 k2 hb => ?_⟩
    have k12 := k1.trans k2
    refine ⟨.ref b, rfl, b, rfl, ⟨_, SqT.of hb⟩, fun D nD => lc_tup (K := K) (xs := ts.map V.str) (fun i H' => Same H2 H' ∧ H' D = some (.lst (((ts.take i).map fun t => ((t.length : Nat) : Int)).map V.int))) ⟨Same.new nD, upd_same⟩ (fun i H' _ w => SqT.of (w.1 _ _ hb)) ?_ ?_⟩
    · rintro i x H3 hx ⟨k3, hD⟩
      rw [List.getElem?_map] at hx
      obtain ⟨t, ht, rfl⟩ := Option.map_eq_some_iff.mp hx
      have il := (List.getElem?_eq_some_iff.mp ht).1
      have lt := hr0.len t (List.mem_of_getElem? ht)
      refine ⟨rfl, .str t, rfl, t, rfl, len5 (by omega), _, hD, ?_, sameAt k3 nD, ?_⟩
      · rw [List.length_map, List.length_map, List.length_take]
        omega
      · rw [upd_same, take_snoc ht, List.map_append, List.map_append]
        rfl
    rintro H3 ⟨k3, hD⟩
    rw [List.length_map, List.take_length] at hD
    refine ⟨D, _, rfl, sq_of hD, ?_⟩
    rw [ls]
    refine ⟨.ref b, rfl, b, _, rfl, .inr (SqT.of (k3 _ _ hb)), _, _, rfl, rfl, .ref a, rfl, a, _, rfl, .inr (ha.same (k12.trans k3)).sq, _, _, rfl, rfl, _, rfl, ite2 (fun c => ?_) (fun c => ?_)⟩
    · have := of_decide_eq_true c
      rw [List.length_map, List.length_map] at this
      omega
    · exact ⟨.ref b, rfl, q b H3 (k12.trans k3) (k3 _ _ hb)⟩
abbrev sPIsRow : Stmt := topS 21
theorem scPIsRow : FnScope ["thing"] ["thing"] (defScope sPIsRow) := ⟨rfl, rfl, rfl, by decide +kernel, rfl, by decide +kernel, by decide +kernel⟩
theorem ok_PIsRow {f : Addr} {fd : FuncData} (F : Fun K "is_row" "is_row" sPIsRow f fd)  {fQTextsOf : Addr} {fdQTextsOf : FuncData} (DQTextsOf : Dk P w K mg base "_texts_of" sQTextsOf ["thing"] 3 spTextsOf fQTextsOf fdQTextsOf) (T : Glob mg) : FnOk P w K mg base CX0 4 f fd ["thing"] spIsRow := by
  refine F.ok scPIsRow (fun vs H Q E h => ?_) (fun cdv A outer s H vs Q E hr h => ?_)
  · obtain ⟨a, ts, rfl, _⟩ := h
    rfl
  · refine ⟨_, (pss_one (ps_ret (pe_cmpR op_notN (pe_call DQTextsOf.ok (hr.mono (by decide)) (by rfl) DQTextsOf.g DQTextsOf.F.kp DQTextsOf.b .nil pass0 (pa_cons (pv 0) pa_nil)) pe_non (nomark _)))), ?_⟩
    obtain ⟨a, ts, rfl, ha, hr0, q⟩ := h
    refine ⟨.ref a, rfl, a, ts, rfl, ha, hr0, fun b H1 k1 hb => ?_⟩
    refine ⟨rfl, ?_⟩
    show Q (V.bl (!decide (V.ref b = V.non))) H1
    rw [decide_eq_false (fun z => by cases z)]
    exact q H1 k1
end
end LawK
set_option maxHeartbeats 4000000
namespace LawK
open PySem PySem.Spec PyProof.Rows L2 Ev
/-! a row has one library alone -/
theorem rwS_row {ts us : List Str} (h : rowL ts = rowL us) (k : Nat) : rwS ts k = rwS us k := by
  unfold rwS
  rw [h]
theorem posn_row {ts us : List Str} (h : rowL ts = rowL us) (k : Nat) : posn ts k = posn us k := by
  have e : rwS ts = rwS us := funext fun k => rwS_row h k
  have n : nR ts = nR us := by
    have := congrArg List.length h
    unfold rowL at this
    rw [List.length_map, List.length_map] at this
    exact this
  unfold posn nlR
  rw [e, n]
theorem told_row {ts us : List Str} (h : rowL ts = rowL us) {i : Nat} (h1 : i < ts.length) (h2 : i < us.length) : ∀ k : Nat, k ≤ (txc ts i).length → k ≤ (txc us i).length ∧ told ts i k = told us i k ∧ ∃ x : Nat, (enT ts)[x]? = some (i, (txc ts i).length - k) ∧ (enT us)[x]? = some (i, (txc us i).length - k)
  | 0, _ => ⟨Nat.zero_le _, rfl, i, en_end h1, en_end h2⟩
  | k + 1, hk => by
    obtain ⟨lk, tk, x, e1, e2⟩ := told_row h h1 h2 k (by omega)
    have s : sgS ts (i, (txc ts i).length - k) = sgS us (i, (txc us i).length - k) := by rw [← rwS_en e1, ← rwS_en e2, rwS_row h]
    have z1 := sgS_none (List.mem_of_getElem? e1)
    have z2 := sgS_none (List.mem_of_getElem? e2)
    rw [s] at z1
    have n1 : ¬ (txc ts i).length - k = 0 := by omega
    have n2 : ¬ (txc us i).length - k = 0 := fun z => n1 (z1.mp (z2.mpr z))
    refine ⟨by omega, ?_, posn ts x, ?_, ?_⟩
    · have a : ∀ vs : List Str, told vs i (k + 1) = told vs i k ++ [sgS vs (i, (txc vs i).length - k)] := fun vs => by
        unfold told
        rw [List.range_succ, List.map_append]
        rfl
      rw [a, a, tk, s]
    · have := posn_lead e1 (by show 0 < _ - k; omega)
      rw [this]
      show some (i, (txc ts i).length - k - 1) = some (i, (txc ts i).length - (k + 1))
      rw [Nat.sub_sub]
    · have := posn_lead e2 (by show 0 < _ - k; omega)
      rw [posn_row h, this]
      show some (i, (txc us i).length - k - 1) = some (i, (txc us i).length - (k + 1))
      rw [Nat.sub_sub]
theorem row_inj {ts us : List Str} (h : rowL ts = rowL us) : ts = us := by
  have ln : ts.length = us.length := by rw [← count_nil ts, ← count_nil us, h]
  refine List.ext_getElem? fun i => ?_
  rcases Nat.lt_or_ge i ts.length with g | g
  · have g2 : i < us.length := by omega
    obtain ⟨l1, _, _⟩ := told_row h g g2 _ (Nat.le_refl _)
    obtain ⟨l2, _, _⟩ := told_row h.symm g2 g _ (Nat.le_refl _)
    have le : (txc ts i).length = (txc us i).length := by omega
    obtain ⟨_, e, _⟩ := told_row h g g2 _ (Nat.le_refl (txc ts i).length)
    have c : txc ts i = txc us i := by rw [← told_all ts i, ← told_all us i, e, le]
    have c2 : tx ts i = tx us i := cod_inj c
    have a : ∀ vs : List Str, i < vs.length → vs[i]? = some (tx vs i) := fun vs hv => by
      show vs[i]? = some (vs.getD i Str.empty)
      rw [List.getD_eq_getElem?_getD, List.getElem?_eq_getElem hv]
      rfl
    rw [a ts g, a us g2, c2]
  · rw [List.getElem?_eq_none g, List.getElem?_eq_none (by omega)]
end LawK
set_option linter.all false
set_option maxRecDepth 100000
set_option maxHeartbeats 4000000
/-! A row of signs that need not be one of any texts: the ways through it, and when all of it is told. Plain lists. -/
namespace RowI
open RowM
theorem least {p : Nat → Prop} (dp : ∀ k, Decidable (p k)) : ∀ n : Nat, (∃ j, j < n ∧ p j) → ∃ m, m < n ∧ p m ∧ ∀ j, j < m → ¬ p j
  | 0, ⟨_, h, _⟩ => absurd h (Nat.not_lt_zero _)
  | n + 1, ⟨j, hj, hp⟩ => by
    by_cases g : ∃ j, j < n ∧ p j
    · obtain ⟨m, h1, h2, h3⟩ := least dp n g
      exact ⟨m, by omega, h2, h3⟩
    · refine ⟨j, hj, hp, fun k hk z => g ⟨k, by omega, z⟩⟩
section
variable {s : Nat → LN} {n : Nat}
theorem nl_iff (a b : Nat) : nl s a b = true ↔ s a < s b ∨ s a = s b ∧ a < b := by
  unfold nl
  rw [Bool.or_eq_true, Bool.and_eq_true, decide_eq_true_eq, decide_eq_true_eq, decide_eq_true_eq]
theorem ltri (x y : LN) : x < y ∨ x = y ∨ y < x := by
  induction x generalizing y with
  | nil => cases y with
    | nil => exact .inr (.inl rfl)
    | cons b y => exact .inl (List.nil_lt_cons _ _)
  | cons a x ih => cases y with
    | nil => exact .inr (.inr (List.nil_lt_cons _ _))
    | cons b y =>
      rcases Nat.lt_trichotomy a b with h | h | h
      · exact .inl (ltc.mpr (.inl h))
      · subst h
        rcases ih y with k | k | k
        · exact .inl (ltc.mpr (.inr ⟨rfl, k⟩))
        · exact .inr (.inl (by rw [k]))
        · exact .inr (.inr (ltc.mpr (.inr ⟨rfl, k⟩)))
      · exact .inr (.inr (ltc.mpr (.inl h)))
theorem nl_tri (a b : Nat) : nl s a b = true ∨ a = b ∨ nl s b a = true := by
  rw [nl_iff, nl_iff]
  rcases ltri (s a) (s b) with h | h | h
  · exact .inl (.inl h)
  · rcases Nat.lt_trichotomy a b with k | k | k
    · exact .inl (.inr ⟨h, k⟩)
    · exact .inr (.inl k)
    · exact .inr (.inr (.inr ⟨h.symm, k⟩))
  · exact .inr (.inr (.inl h))
theorem nl_trans {a b c : Nat} (h : nl s a b = true) (k : nl s b c = true) : nl s a c = true := by
  rw [nl_iff] at *
  rcases h with h | ⟨h, h2⟩
  · rcases k with k | ⟨k, _⟩
    · exact .inl (ltr h k)
    · exact .inl (k ▸ h)
  · rcases k with k | ⟨k, k2⟩
    · exact .inl (h ▸ k)
    · exact .inr ⟨h.trans k, by omega⟩
theorem nl_irr (a : Nat) : nl s a a = false := by
  cases h : nl s a a with
  | false => rfl
  | true => rw [← h]; exact nl_asy s a a h
/-- where a number stands by its sign, then by itself -/
def pos (s : Nat → LN) (n k : Nat) : Nat := ((List.range n).filter fun l => nl s l k).length
/-- how many have no sign -/
def empt (s : Nat → LN) (n : Nat) : Nat := ((List.range n).filter fun l => decide (s l = [])).length
theorem rng_nd (p : Nat → Bool) : ((List.range n).filter p).Nodup := List.nodup_range.filter _
theorem pos_mono {k l : Nat} (hk : k < n) (h : nl s k l = true) : pos s n k < pos s n l := by
  have := le_of_inj (fun x : Nat => x) (l1 := k :: (List.range n).filter fun x => nl s x k) (l2 := (List.range n).filter fun x => nl s x l) (List.nodup_cons.mpr ⟨fun z => (by
    have := (List.mem_filter.mp z).2
    rw [nl_irr] at this
    cases this), rng_nd _⟩) (fun _ _ _ _ e => e) fun x hx => by
    rcases List.mem_cons.mp hx with e | hx
    · subst e
      exact List.mem_filter.mpr ⟨List.mem_range.mpr hk, h⟩
    · obtain ⟨a, b⟩ := List.mem_filter.mp hx
      exact List.mem_filter.mpr ⟨a, nl_trans b h⟩
  exact this
theorem pos_lt {k : Nat} (hk : k < n) : pos s n k < n := by
  have := le_of_inj (fun x : Nat => x) (l1 := k :: (List.range n).filter fun x => nl s x k) (l2 := List.range n) (List.nodup_cons.mpr ⟨fun z => (by
    have := (List.mem_filter.mp z).2
    rw [nl_irr] at this
    cases this), rng_nd _⟩) (fun _ _ _ _ e => e) fun x hx => by
    rcases List.mem_cons.mp hx with e | hx
    · subst e
      exact List.mem_range.mpr hk
    · exact (List.mem_filter.mp hx).1
  rw [List.length_range] at this
  exact this
theorem pos_lt_iff {k l : Nat} (hk : k < n) (hl : l < n) : pos s n k < pos s n l ↔ nl s k l = true := by
  refine ⟨fun h => ?_, pos_mono hk⟩
  rcases nl_tri (s := s) k l with a | a | a
  · exact a
  · subst a; exact absurd h (Nat.lt_irrefl _)
  · have := pos_mono (s := s) (n := n) hl a
    omega
theorem pos_inj {k l : Nat} (hk : k < n) (hl : l < n) (h : pos s n k = pos s n l) : k = l := by
  rcases nl_tri (s := s) k l with a | a | a
  · have := pos_mono (s := s) (n := n) hk a
    omega
  · exact a
  · have := pos_mono (s := s) (n := n) hl a
    omega
theorem pos_ge {k : Nat} (hs : s k ≠ []) : empt s n ≤ pos s n k := by
  refine le_of_inj (fun x : Nat => x) (rng_nd _) (fun _ _ _ _ e => e) fun x hx => ?_
  obtain ⟨a, b⟩ := List.mem_filter.mp hx
  have b := of_decide_eq_true b
  exact List.mem_filter.mpr ⟨a, (nl_iff x k).mpr (.inl (by rw [b]; exact nil_lt hs))⟩
theorem empt_le : empt s n ≤ n := by
  have := List.length_filter_le (fun l => decide (s l = [])) (List.range n)
  rw [List.length_range] at this
  exact this
/-- the way from a number -/
def w (s : Nat → LN) (n i : Nat) : Nat → Nat
  | 0 => i
  | j + 1 => pos s n (w s n i j)
def Val (s : Nat → LN) (n i j : Nat) : Prop := ∀ k, k < j → s (w s n i k) ≠ []
theorem Val.less {i j k : Nat} (h : Val s n i j) (l : k ≤ j) : Val s n i k := fun m hm => h m (by omega)
theorem w_lt {i : Nat} (hi : i < n) : ∀ j, w s n i j < n
  | 0 => hi
  | j + 1 => pos_lt (w_lt hi j)
theorem w_inj {i i' : Nat} (hi : i < empt s n) (hi' : i' < empt s n) : ∀ (j j' : Nat), Val s n i j → Val s n i' j' → w s n i j = w s n i' j' → i = i' ∧ j = j'
  | 0, 0, _, _, e => ⟨e, rfl⟩
  | 0, j' + 1, _, v', e => by
    have := pos_ge (n := n) (v' j' (Nat.lt_succ_self _))
    have e : i = pos s n (w s n i' j') := e
    omega
  | j + 1, 0, v, _, e => by
    have := pos_ge (n := n) (v j (Nat.lt_succ_self _))
    have e : pos s n (w s n i j) = i' := e
    omega
  | j + 1, j' + 1, v, v', e => by
    have ln := empt_le (s := s) (n := n)
    have := pos_inj (w_lt (s := s) (n := n) (i := i) (by omega) j) (w_lt (s := s) (n := n) (i := i') (by omega) j') e
    obtain ⟨a, b⟩ := w_inj hi hi' j j' (v.less (Nat.le_succ _)) (v'.less (Nat.le_succ _)) this
    exact ⟨a, by rw [b]⟩
/-- each way comes to an end -/
theorem ends {i : Nat} (hi : i < empt s n) : ∃ m, m < n ∧ s (w s n i m) = [] ∧ Val s n i m := by
  have ln := empt_le (s := s) (n := n)
  have ex : ∃ j, j < n ∧ s (w s n i j) = [] := Classical.byContradiction fun z => by
    have v : Val s n i n := fun k hk e => z ⟨k, hk, e⟩
    have := le_of_inj (fun j => w s n i j) (l1 := List.range (n + 1)) (l2 := List.range n) List.nodup_range (fun x hx y hy e => (w_inj hi hi x y (v.less (by have := List.mem_range.mp hx; omega)) (v.less (by have := List.mem_range.mp hy; omega)) e).2) fun x _ => List.mem_range.mpr (w_lt (by omega) x)
    rw [List.length_range, List.length_range] at this
    omega
  obtain ⟨m, h1, h2, h3⟩ := least (fun k => inferInstanceAs (Decidable (s (w s n i k) = []))) n ex
  exact ⟨m, h1, h2, h3⟩
/-- how many signs a way tells -/
noncomputable def ml (s : Nat → LN) (n i : Nat) : Nat := open Classical in if h : ∃ m, s (w s n i m) = [] ∧ Val s n i m then Classical.choose h else 0
theorem ml_ok {i : Nat} (hi : i < empt s n) : s (w s n i (ml s n i)) = [] ∧ Val s n i (ml s n i) := by
  obtain ⟨m, _, h2, h3⟩ := ends hi
  have h : ∃ m, s (w s n i m) = [] ∧ Val s n i m := ⟨m, h2, h3⟩
  unfold ml
  rw [dif_pos h]
  exact Classical.choose_spec h
theorem ml_one {i m : Nat} (hi : i < empt s n) (h : s (w s n i m) = []) (v : Val s n i m) : m = ml s n i := by
  obtain ⟨a, b⟩ := ml_ok hi
  rcases Nat.lt_trichotomy m (ml s n i) with k | k | k
  · exact absurd h (b m k)
  · exact k
  · exact absurd a (v _ k)
theorem ml_lt {i : Nat} (hi : i < empt s n) : ml s n i < n := by
  obtain ⟨m, h1, h2, h3⟩ := ends hi
  rw [← ml_one hi h2 h3]
  exact h1
/-- the last so many signs of what a way tells -/
def sfj (s : Nat → LN) (n i : Nat) : Nat → LN
  | 0 => []
  | j + 1 => s (w s n i j) ++ sfj s n i j
noncomputable def txI (s : Nat → LN) (n i : Nat) : LN := sfj s n i (ml s n i)
theorem one_sign (one : ∀ k, (s k).length ≤ 1) {k : Nat} (h : s k ≠ []) : ∃ c, s k = [c] := by
  match hh : s k, one k with
  | [], _ => exact absurd hh h
  | [c], _ => exact ⟨c, rfl⟩
  | c :: d :: r, z => simp at z
theorem sfj_drop (one : ∀ k, (s k).length ≤ 1) (i : Nat) : ∀ (d j : Nat), Val s n i (j + d) → (sfj s n i (j + d)).drop d = sfj s n i j
  | 0, j, _ => rfl
  | d + 1, j, v => by
    obtain ⟨c, ec⟩ := one_sign one (v (j + d) (by omega))
    show (s (w s n i (j + d)) ++ sfj s n i (j + d)).drop (d + 1) = _
    rw [ec]
    exact sfj_drop one i d j (v.less (by omega))
theorem sfj_len (one : ∀ k, (s k).length ≤ 1) (i : Nat) : ∀ j, Val s n i j → (sfj s n i j).length = j
  | 0, _ => rfl
  | j + 1, v => by
    obtain ⟨c, ec⟩ := one_sign one (v j (by omega))
    show (s (w s n i j) ++ sfj s n i j).length = j + 1
    rw [ec, List.length_append, sfj_len one i j (v.less (by omega))]
    exact Nat.add_comm 1 j
theorem txI_len (one : ∀ k, (s k).length ≤ 1) {i : Nat} (hi : i < empt s n) : (txI s n i).length = ml s n i := sfj_len one i _ (ml_ok hi).2
theorem txI_sf (one : ∀ k, (s k).length ≤ 1) {i j : Nat} (hi : i < empt s n) (hj : j ≤ ml s n i) : sf (txI s n) (i, ml s n i - j) = sfj s n i j := by
  have v := (ml_ok hi).2
  have e : ml s n i = j + (ml s n i - j) := by omega
  have := sfj_drop one i (ml s n i - j) j (by rw [← e]; exact v)
  rw [← e] at this
  exact this
/-- a place of a way: before another one by the order of entries, if it is before it -/
theorem ord_w (one : ∀ k, (s k).length ≤ 1) : ∀ (j j' i i' : Nat), i < empt s n → i' < empt s n → j ≤ ml s n i → j' ≤ ml s n i' → w s n i j < w s n i' j' →
    sfj s n i j < sfj s n i' j' ∨ sfj s n i j = sfj s n i' j' ∧ (i < i' ∨ i = i' ∧ j' < j)
  | 0, 0, i, i', _, _, _, _, h => .inr ⟨rfl, .inl h⟩
  | 0, j' + 1, i, i', hi, hi', _, hj', h => by
    obtain ⟨c, ec⟩ := one_sign one ((ml_ok hi').2 j' (by omega))
    refine .inl ?_
    show [] < s (w s n i' j') ++ sfj s n i' j'
    rw [ec]
    exact List.nil_lt_cons _ _
  | j + 1, 0, i, i', hi, hi', hj, _, h => by
    have := pos_ge (n := n) ((ml_ok hi).2 j (by omega))
    have h : pos s n (w s n i j) < i' := h
    omega
  | j + 1, j' + 1, i, i', hi, hi', hj, hj', h => by
    have ln := empt_le (s := s) (n := n)
    obtain ⟨c, ec⟩ := one_sign one ((ml_ok hi).2 j (by omega))
    obtain ⟨d, ed⟩ := one_sign one ((ml_ok hi').2 j' (by omega))
    have k := (pos_lt_iff (w_lt (s := s) (n := n) (i := i) (by omega) j) (w_lt (s := s) (n := n) (i := i') (by omega) j')).mp h
    rw [nl_iff, ec, ed] at k
    show s (w s n i j) ++ sfj s n i j < s (w s n i' j') ++ sfj s n i' j' ∨ s (w s n i j) ++ sfj s n i j = s (w s n i' j') ++ sfj s n i' j' ∧ _
    rw [ec, ed]
    rcases k with k | ⟨k, l⟩
    · rcases ltc.mp k with k | ⟨_, k⟩
      · exact .inl (ltc.mpr (.inl k))
      · exact absurd k (lirr _)
    · injection k with k
      subst k
      rcases ord_w one j j' i i' hi hi' (by omega) (by omega) l with a | ⟨a, b⟩
      · exact .inl (ltc.mpr (.inr ⟨rfl, a⟩))
      · refine .inr ⟨by rw [a], ?_⟩
        omega
def prs (s : Nat → LN) (n : Nat) (m : Nat → Nat) : List Pl := (List.range (empt s n)).flatMap fun i => (List.range (m i + 1)).map fun j => (i, j)
theorem prs_mem {m : Nat → Nat} {p : Pl} : p ∈ prs s n m ↔ p.1 < empt s n ∧ p.2 ≤ m p.1 := by
  unfold prs
  rw [List.mem_flatMap]
  constructor
  · rintro ⟨i, hi, h⟩
    obtain ⟨j, hj, rfl⟩ := List.mem_map.mp h
    exact ⟨List.mem_range.mp hi, by have := List.mem_range.mp hj; show j ≤ m i; omega⟩
  · rintro ⟨h1, h2⟩
    exact ⟨p.1, List.mem_range.mpr h1, List.mem_map.mpr ⟨p.2, List.mem_range.mpr (by omega), rfl⟩⟩
theorem prs_nd (m : Nat → Nat) : (prs s n m).Nodup := by
  unfold prs List.Nodup
  rw [List.pairwise_flatMap]
  refine ⟨fun i _ => ?_, (List.nodup_range (n := empt s n)).imp fun {a b} ne x hx y hy e => ?_⟩
  · rw [List.pairwise_map]
    exact List.nodup_range.imp fun {a b} ne e => ne (Prod.mk.inj e).2
  · obtain ⟨j, _, rfl⟩ := List.mem_map.mp hx
    obtain ⟨k, _, rfl⟩ := List.mem_map.mp hy
    exact ne (Prod.mk.inj e).1
theorem prs_len (m : Nat → Nat) : (prs s n m).length = ((List.range (empt s n)).map fun i => m i + 1).sum := by
  unfold prs
  rw [List.length_flatMap]
  congr 1
  refine List.map_congr_left fun i _ => ?_
  rw [List.length_map, List.length_range]
theorem prs_inj : ∀ p ∈ prs s n (ml s n), ∀ q ∈ prs s n (ml s n), w s n p.1 p.2 = w s n q.1 q.2 → p = q := fun p hp q hq e => by
  obtain ⟨a, b⟩ := prs_mem.mp hp
  obtain ⟨c, d⟩ := prs_mem.mp hq
  obtain ⟨x, y⟩ := w_inj a c p.2 q.2 ((ml_ok a).2.less b) ((ml_ok c).2.less d) e
  exact Prod.ext x y
/-- no more is told than there is -/
theorem told_le : ((List.range (empt s n)).map fun i => ml s n i + 1).sum ≤ n := by
  have ln := empt_le (s := s) (n := n)
  have := le_of_inj (fun p : Pl => w s n p.1 p.2) (l1 := prs s n (ml s n)) (l2 := List.range n) (prs_nd _) prs_inj fun p hp => List.mem_range.mpr (w_lt (by have := (prs_mem.mp hp).1; omega) _)
  rw [prs_len, List.length_range] at this
  exact this
/-- if all is told, each number is on a way -/
theorem onto (h : ((List.range (empt s n)).map fun i => ml s n i + 1).sum = n) {x : Nat} (hx : x < n) : ∃ i j, i < empt s n ∧ j ≤ ml s n i ∧ w s n i j = x := Classical.byContradiction fun z => by
  have ln := empt_le (s := s) (n := n)
  have := le_of_inj (fun p : Pl => w s n p.1 p.2) (l1 := prs s n (ml s n)) (l2 := (List.range n).erase x) (prs_nd _) prs_inj fun p hp => by
    obtain ⟨a, b⟩ := prs_mem.mp hp
    exact (List.mem_erase_of_ne fun e => z ⟨p.1, p.2, a, b, e⟩).mpr (List.mem_range.mpr (w_lt (by omega) _))
  rw [prs_len, h, List.length_erase_of_mem (List.mem_range.mpr hx), List.length_range] at this
  omega
noncomputable def ent (s : Nat → LN) (n x : Nat) : Pl := open Classical in if h : ∃ p : Pl, p.1 < empt s n ∧ p.2 ≤ ml s n p.1 ∧ w s n p.1 p.2 = x then ((Classical.choose h).1, ml s n (Classical.choose h).1 - (Classical.choose h).2) else (0, 0)
theorem ent_at {i j : Nat} (hi : i < empt s n) (hj : j ≤ ml s n i) : ent s n (w s n i j) = (i, ml s n i - j) := by
  have h : ∃ p : Pl, p.1 < empt s n ∧ p.2 ≤ ml s n p.1 ∧ w s n p.1 p.2 = w s n i j := ⟨(i, j), hi, hj, rfl⟩
  have c := Classical.choose_spec h
  obtain ⟨x, y⟩ := w_inj c.1 hi _ j ((ml_ok c.1).2.less c.2.1) ((ml_ok hi).2.less hj) c.2.2
  unfold ent
  rw [dif_pos h, x, y]
noncomputable def entL (s : Nat → LN) (n : Nat) : List Pl := (List.range n).map (ent s n)
theorem entL_ok (one : ∀ k, (s k).length ≤ 1) (h : ((List.range (empt s n)).map fun i => ml s n i + 1).sum = n) : Ents (txI s n) (empt s n) (entL s n) := by
  have ln := empt_le (s := s) (n := n)
  refine ⟨?_, fun p => ?_⟩
  · unfold entL
    rw [List.pairwise_map]
    refine List.pairwise_iff_getElem.mpr fun a b ha hb hab => ?_
    rw [List.length_range] at ha hb
    rw [List.getElem_range, List.getElem_range]
    obtain ⟨i, j, hi, hj, e1⟩ := onto h ha
    obtain ⟨i', j', hi', hj', e2⟩ := onto h hb
    rw [← e1, ← e2, ent_at hi hj, ent_at hi' hj']
    have o := ord_w one j j' i i' hi hi' hj hj' (by omega)
    unfold lt
    rw [txI_sf one hi hj, txI_sf one hi' hj']
    rcases o with o | ⟨o, o2⟩
    · exact .inl o
    · refine .inr ⟨o, ?_⟩
      unfold plt
      rcases o2 with o2 | ⟨o2, o3⟩
      · exact .inl o2
      · subst o2
        exact .inr ⟨rfl, by show ml s n i - j < ml s n i - j'; omega⟩
  · unfold entL
    rw [List.mem_map]
    constructor
    · rintro ⟨x, hx, rfl⟩
      obtain ⟨i, j, hi, hj, e1⟩ := onto h (List.mem_range.mp hx)
      rw [← e1, ent_at hi hj]
      refine ⟨hi, ?_⟩
      show ml s n i - j ≤ (txI s n i).length
      rw [txI_len one hi]
      omega
    · rintro ⟨h1, h2⟩
      rw [txI_len one h1] at h2
      refine ⟨w s n p.1 (ml s n p.1 - p.2), List.mem_range.mpr (w_lt (by omega) _), ?_⟩
      rw [ent_at h1 (by omega)]
      exact Prod.ext rfl (by show ml s n p.1 - (ml s n p.1 - p.2) = p.2; omega)
/-- the sign ahead of each entry is the row's -/
theorem sg_ent (one : ∀ k, (s k).length ≤ 1) (h : ((List.range (empt s n)).map fun i => ml s n i + 1).sum = n) {x : Nat} (hx : x < n) : sg (txI s n) (ent s n x) = s x := by
  obtain ⟨i, j, hi, hj, e1⟩ := onto h hx
  rw [← e1, ent_at hi hj]
  rcases Nat.lt_or_ge j (ml s n i) with g | g
  · obtain ⟨c, ec, es⟩ := sf_prd (tx := txI s n) (p := (i, ml s n i - j)) (by show 0 < _ - j; omega) (by show ml s n i - j ≤ (txI s n i).length; rw [txI_len one hi]; omega)
    rw [ec]
    have e2 : prd (i, ml s n i - j) = (i, ml s n i - (j + 1)) := Prod.ext rfl (by show ml s n i - j - 1 = _; omega)
    rw [e2, txI_sf one hi hj, txI_sf one hi (by omega)] at es
    have es : s (w s n i j) ++ sfj s n i j = [c] ++ sfj s n i j := es
    exact (List.append_cancel_right es).symm
  · have e : j = ml s n i := by omega
    subst e
    rw [sg_zero (by show ml s n i - ml s n i = 0; omega), (ml_ok hi).1]
/-- entries in order are one list alone -/
theorem ents_one {tx : Nat → LN} {T : Nat} {E E' : List Pl} (h : Ents tx T E) (h' : Ents tx T E') : E = E' := by
  have hm : ∀ p, p ∈ E ↔ p ∈ E' := fun p => (h.mem p).trans (h'.mem p).symm
  have a := h.asc
  have b := h'.asc
  clear h h'
  induction E generalizing E' with
  | nil => cases E' with
    | nil => rfl
    | cons y ys => exact absurd ((hm y).mpr (List.mem_cons_self ..)) (by simp)
  | cons x xs ih => cases E' with
    | nil => exact absurd ((hm x).mp (List.mem_cons_self ..)) (by simp)
    | cons y ys =>
      obtain ⟨a1, a2⟩ := List.pairwise_cons.mp a
      obtain ⟨b1, b2⟩ := List.pairwise_cons.mp b
      have e : x = y := by
        rcases List.mem_cons.mp ((hm x).mp (List.mem_cons_self ..)) with e | e
        · exact e
        · rcases List.mem_cons.mp ((hm y).mpr (List.mem_cons_self ..)) with f | f
          · exact f.symm
          · exact absurd (a1 y f) (lt_asy (b1 x e))
      subst e
      refine congrArg (x :: ·) (ih (fun p => ?_) a2 b2)
      have := hm p
      rw [List.mem_cons, List.mem_cons] at this
      constructor
      · intro m
        rcases this.mp (.inr m) with e | e
        · subst e; exact absurd (a1 _ m) lt_irr
        · exact e
      · intro m
        rcases this.mpr (.inr m) with e | e
        · subst e; exact absurd (b1 _ m) lt_irr
        · exact e
end
end RowI
set_option maxHeartbeats 4000000
namespace LawK
open PySem PySem.Spec PyProof.Rows L2 Ev PySem.W
/-! the same of any row of signs, not of texts alone -/
def RowZ (H : Hp) (a : Addr) (ts : List Str) : Prop := TupF H a (ts.map V.str)
structure Rz (ts : List Str) : Prop where
  len : ts.length ≤ 200
  sg : ∀ z ∈ ts, sgB z = true ∧ z.length < 2
  few : ts.count ("" : Str) ≤ 8
def rwZ (ts : List Str) (k : Nat) : Str := ts.getD k Str.empty
def enZ (ts : List Str) (k : Nat) : PyData := .tuple [.str (rwZ ts k), .int (k : Nat)]
def leZ (ts : List Str) (k l : Nat) : Bool := leE (enZ ts k) (enZ ts l)
abbrev nZ (ts : List Str) : Nat := ts.length
def nlZ (ts : List Str) (a b : Nat) : Bool := RowM.nl (fun k => cod (rwZ ts k)) a b
theorem leZ_eq (ts : List Str) (k l : Nat) : leZ ts k l = !nlZ ts l k := by
  unfold leZ leE enZ
  rw [dataLt_si]
  congr 1
  unfold nlZ RowM.nl
  rw [Bool.eq_iff_iff]
  simp only [Bool.or_eq_true, Bool.and_eq_true, decide_eq_true_eq]
  constructor
  · rintro (h | ⟨h, h2⟩)
    · exact .inl h
    · exact .inr ⟨by rw [h], by omega⟩
  · rintro (h | ⟨h, h2⟩)
    · exact .inl h
    · exact .inr ⟨cod_inj h, by omega⟩
theorem nlZ_tri (ts : List Str) (a b : Nat) : nlZ ts a b = true ∨ a = b ∨ nlZ ts b a = true := by
  unfold nlZ RowM.nl
  simp only [Bool.or_eq_true, Bool.and_eq_true, decide_eq_true_eq]
  rcases ltri (cod (rwZ ts a)) (cod (rwZ ts b)) with h | h | h
  · exact .inl (.inl h)
  · rcases Nat.lt_trichotomy a b with k | k | k
    · exact .inl (.inr ⟨h, k⟩)
    · exact .inr (.inl k)
    · exact .inr (.inr (.inr ⟨h.symm, k⟩))
  · exact .inr (.inr (.inl h))
theorem nlZ_trans (ts : List Str) (a b c : Nat) (h : nlZ ts a b = true) (k : nlZ ts b c = true) : nlZ ts a c = true := by
  unfold nlZ RowM.nl at *
  simp only [Bool.or_eq_true, Bool.and_eq_true, decide_eq_true_eq] at *
  rcases h with h | ⟨h, h2⟩
  · rcases k with k | ⟨k, k2⟩
    · exact .inl (ltr h k)
    · exact .inl (by rw [← k]; exact h)
  · rcases k with k | ⟨k, k2⟩
    · exact .inl (by rw [h]; exact k)
    · exact .inr ⟨h.trans k, by omega⟩
theorem nlZ_asy (ts : List Str) (a b : Nat) (h : nlZ ts a b = true) : nlZ ts b a = false := RowM.nl_asy _ a b h
theorem leZ_trans (ts : List Str) (a b c : Nat) (h : leZ ts a b = true) (k : leZ ts b c = true) : leZ ts a c = true := by
  rw [leZ_eq, Bool.not_eq_true'] at *
  refine Bool.eq_false_iff.mpr fun z => ?_
  rcases nlZ_tri ts a b with g | g | g
  · have := nlZ_trans ts _ _ _ z g
    rw [this] at k
    cases k
  · subst g
    rw [z] at k
    cases k
  · rw [g] at h
    cases h
theorem leZ_total (ts : List Str) (a b : Nat) : (leZ ts a b || leZ ts b a) = true := by
  rw [leZ_eq, leZ_eq]
  cases h : nlZ ts b a with
  | false => rfl
  | true => rw [nlZ_asy ts _ _ h]; rfl
def srtZ (ts : List Str) : List Nat := (List.range (nZ ts)).mergeSort (leZ ts)
theorem srtZ_perm (ts : List Str) : (srtZ ts).Perm (List.range (nZ ts)) := List.mergeSort_perm _ _
/-- where the sign ahead of an entry begins an entry -/
def posZ (ts : List Str) (k : Nat) : Nat := ((List.range (nZ ts)).filter fun l => nlZ ts l k).length
theorem srtZ_at {ts : List Str} {j k : Nat} (h : (srtZ ts)[j]? = some k) : j = posZ ts k := by
  have nd : (srtZ ts).Nodup := (srtZ_perm ts).nodup_iff.mpr List.nodup_range
  have pw : (srtZ ts).Pairwise (fun a b => nlZ ts a b = true) := ((List.pairwise_mergeSort (leZ_trans ts) (leZ_total ts) (List.range (nZ ts))).and nd).imp fun {a b} ⟨h, ne⟩ => by
    rw [leZ_eq, Bool.not_eq_true'] at h
    rcases nlZ_tri ts a b with g | g | g
    · exact g
    · exact absurd g ne
    · rw [g] at h; cases h
  rw [← RowM.idx_of (nlZ ts) (nlZ_asy ts) pw h]
  exact ((srtZ_perm ts).filter _).length_eq
/-- a sign and its number -/
def NZ (ts : List Str) (H : Hp) (v : V) (k : Nat) : Prop := ∃ b, v = .ref b ∧ H b = some (.tup [.str (rwZ ts k), .int (k : Nat)])
theorem NZ.same {ts : List Str} {H H' : Hp} {v : V} {k : Nat} (s : Same H H') (h : NZ ts H v k) : NZ ts H' v k := let ⟨b, e, q⟩ := h; ⟨b, e, s _ _ q⟩
theorem sorted_pairsZ {ts : List Str} {K : PySem.W.Frag} {H : Hp} {a : Addr} {vs : List V} {ps : List Nat} {Q : VK} (ha : H a = some (.lst vs)) (h : All2 (NZ ts H) vs ps)
    (q : ∀ p vs', H p = none → All2 (NZ ts H) vs' (ps.mergeSort (leZ ts)) → Q (.ref p) (upd H p (.lst vs'))) : rSortedD K [.ref a] H Q := by
  obtain ⟨zs, rfl, rfl, hz⟩ := h.zs
  refine ⟨a, zs.map (fun z => (z.1, enZ ts z.2)), rfl, by rw [List.map_map]; exact sq_of ha, ?_, ?_, ?_, ?_, fun p np => ?_⟩
  · intro b hb
    obtain ⟨z, hz', rfl⟩ := List.mem_map.mp hb
    obtain ⟨b, e1, e2⟩ := hz z hz'
    show Dp K H z.1 (enZ ts z.2)
    rw [e1]
    exact .tup (SqT.of e2) (.cons (.str _) (.cons (.int _) .nil))
  · rw [List.map_map]
    exact AllAlike.of (enc := fun z : V × Nat => enZ ts z.2) fun b b' => by unfold enZ; simp [alike, alikeAll]
  · rw [List.map_map]
    exact Sortable.tuples (enc := fun z : V × Nat => enZ ts z.2) fun b => ⟨_, _, rfl⟩
  · intro b hb
    obtain ⟨z, hz', rfl⟩ := List.mem_map.mp hb
    show (enZ ts z.2).depth ≤ 60
    unfold enZ
    simp [PyData.depth, PyData.depthAll]
  · have e1 : (zs.map fun z => ((z.1, enZ ts z.2) : DV)).mergeSort leD = (zs.mergeSort fun z w => leZ ts z.2 w.2).map fun z => (z.1, enZ ts z.2) := (List.map_mergeSort (r := fun z w : V × Nat => leZ ts z.2 w.2) (s := leD) (f := fun z : V × Nat => ((z.1, enZ ts z.2) : DV)) (l := zs) fun x _ y _ => rfl).symm
    have e2 : (zs.map (·.2)).mergeSort (leZ ts) = (zs.mergeSort fun z w => leZ ts z.2 w.2).map (·.2) := (List.map_mergeSort (r := fun z w : V × Nat => leZ ts z.2 w.2) (s := leZ ts) (f := fun z : V × Nat => z.2) (l := zs) fun x _ y _ => rfl).symm
    rw [e2] at q
    rw [e1, List.map_map]
    exact q p _ np (All2.ofZ fun z hz' => hz z ((List.mergeSort_perm _ _).mem_iff.mp hz'))
end LawK
set_option maxHeartbeats 4000000
namespace LawK
open PySem PySem.Spec PyProof.Rows L2 Ev

def ledZV (ts : List Str) (i k : Nat) : V := if rwZ ts k ≠ ("" : Str) ∧ posZ ts k < i then iN (posZ ts k) else .non
def ledZ (ts : List Str) (i : Nat) : List V := (List.range (nZ ts)).map (ledZV ts i)
def spLeadsZ : Sp := fun vs H Q _ => ∃ (a : Addr) (ts : List Str), vs = [.ref a] ∧ RowZ H a ts ∧ Rz ts ∧ ∀ b H', Same H H' → H b = none → H' b = some (.lst (ledZ ts (nZ ts))) → Q (.ref b) H'
theorem posZ_inj {ts : List Str} {i k l : Nat} (h : (srtZ ts)[i]? = some k) (hl : l < nZ ts) (e : posZ ts l = i) : l = k := by
  have m : l ∈ srtZ ts := (srtZ_perm ts).mem_iff.mpr (List.mem_range.mpr hl)
  obtain ⟨j, ej⟩ := List.getElem?_of_mem m
  have := srtZ_at ej
  rw [← e, ← this, ej] at h
  exact Option.some.inj h
theorem ledZ_step {ts : List Str} {i k : Nat} (h : (srtZ ts)[i]? = some k) (ne : rwZ ts k ≠ ("" : Str)) : (ledZ ts i).set k (iN i) = ledZ ts (i + 1) := by
  have hk : k < nZ ts := List.mem_range.mp ((srtZ_perm ts).mem_iff.mp (List.mem_of_getElem? h))
  have e := srtZ_at h
  apply List.ext_getElem?
  intro l
  unfold ledZ
  rw [List.getElem?_set, List.getElem?_map, List.getElem?_map, List.length_map, List.length_range]
  by_cases hl : l < nZ ts
  · rw [List.getElem?_range hl]
    by_cases c : k = l
    · subst c
      rw [if_pos rfl, if_pos hk]
      show some (iN i) = some (ledZV ts (i + 1) k)
      unfold ledZV
      rw [if_pos ⟨ne, by omega⟩, e]
    · rw [if_neg c]
      show some (ledZV ts i l) = some (ledZV ts (i + 1) l)
      unfold ledZV
      have : posZ ts l ≠ i := fun z => c (posZ_inj h hl z).symm
      have e2 : (rwZ ts l ≠ ("" : Str) ∧ posZ ts l < i) ↔ (rwZ ts l ≠ ("" : Str) ∧ posZ ts l < i + 1) := by
        refine and_congr_right fun _ => ?_
        omega
      simp only [e2]
  · have : (List.range (nZ ts))[l]? = none := List.getElem?_eq_none (by rw [List.length_range]; omega)
    rw [this]
    by_cases c : k = l
    · omega
    · rw [if_neg c]
      rfl
theorem ledZ_skip {ts : List Str} {i k : Nat} (h : (srtZ ts)[i]? = some k) (ne : rwZ ts k = ("" : Str)) : ledZ ts i = ledZ ts (i + 1) := by
  unfold ledZ
  refine List.map_congr_left fun l hl => ?_
  unfold ledZV
  have e2 : (rwZ ts l ≠ ("" : Str) ∧ posZ ts l < i) ↔ (rwZ ts l ≠ ("" : Str) ∧ posZ ts l < i + 1) := by
    refine and_congr_right fun n => ?_
    have : posZ ts l ≠ i := fun z => n (by rw [posZ_inj h (List.mem_range.mp hl) z]; exact ne)
    omega
  simp only [e2]
section
variable {P : Program} {w : World} {K : PySem.W.Frag} {mg : Str → Option Value} {base : Heap}
theorem okz_PRowLeads {f : Addr} {fd : FuncData} (F : Fun K "row_leads" "row_leads" sPRowLeads f fd) (T : Glob mg) : FnOk P w K mg base CX0 1 f fd ["row"] spLeadsZ := by
  refine F.ok scPRowLeads (fun vs H Q E h => ?_) (fun cdv A outer s H vs Q E hr h => ?_)
  · obtain ⟨a, ts, rfl, _⟩ := h
    rfl
  · refine ⟨_, (pss_cons (ps_set (i := 1) scPRowLeads.nd rfl (.inl rfl) (pe_op op_rep (pe_lst (pa_cons pe_non pa_nil)) (pe_callB call_len_seq (by rfl) T.len PySem.boot_len (pa_cons (pv 0) pa_nil))))
      (pss_cons (ps_set (i := 2) scPRowLeads.nd rfl (.inl rfl) (pe_callB (cr_sortedD hr.units) (by rfl) T.sorted (by decide +kernel) (pa_cons (pe_lc (own := [("number", 5), ("sign", 4)]) (g := (gTup K 2 (gCons (gName 5) (gCons (gName 4) gNil)))) (by rfl) scPRowLeads.nd (pi_enumT (by rfl) T.enumerate (pa_cons (pv 0) pa_nil)) (blkOk_by (N := ["row", "found", "in_order", "begun", "sign", "number"]) (sc := defScope sPRowLeads) (by decide +kernel)) (fun _ _ _ _ _ => pg_tup (by rfl) (pgs_cons (pg_name (i := 5) scPRowLeads.nd rfl (.inl rfl)) (pgs_cons (pg_name (i := 4) scPRowLeads.nd rfl (.inl rfl)) pgs_nil))) (fun _ _ _ _ _ => pts_nil) (fun _ _ _ _ _ => pe_tup (pa_cons (pv 4) (pa_cons (pv 5) pa_nil)))) pa_nil)))
      (pss_cons (ps_for PassesOwn.never rfl (pi_enum (by rfl) T.enumerate (pa_cons (pv 2) pa_nil)) (pg_tup (by rfl) (pgs_cons (pg_name (i := 3) scPRowLeads.nd rfl (.inl rfl)) (pgs_cons (pg_tup (by rfl) (pgs_cons (pg_name (i := 4) scPRowLeads.nd rfl (.inl rfl)) (pgs_cons (pg_name (i := 5) scPRowLeads.nd rfl (.inl rfl)) pgs_nil))) pgs_nil)))
        (pss_one (ps_if (pt_cmpR op_ne (pv 4) pe_str (nomark _)) (pss_one (ps_asg (pv 3) (pg_sub (pv 1) (pv 5) set_list))) pss_nil)))
      (pss_one (ps_ret (pv 1)))))), ?_⟩
    obtain ⟨a, ts, rfl, ha, hr0, q⟩ := h
    have ol := hr0.len
    have el : ts.length = ts.length := rfl
    have sz := sizeLine_eq
    refine ⟨by show 1 ≤ sizeLine; decide, fun z nz => ?_⟩
    refine ⟨.ref a, rfl, a, _, rfl, .inr (ha.same (Same.new nz)).sq, ?_⟩
    refine ⟨z, _, [.non], rfl, rfl, upd_same, by rw [List.length_map]; omega, by rw [List.length_map]; omega, by show 1 * _ ≤ _; rw [List.length_map]; omega, fun F nF => ?_⟩
    have hF : upd (upd H z (.lst [.non])) F (.lst (ledZ ts 0)) F = some (.lst (ledZ ts 0)) := upd_same
    have k1 : Same H (upd (upd H z (.lst [.non])) F (.lst (ledZ ts 0))) := (Same.new nz).trans (Same.new nF)
    have e0 : (List.replicate (Int.toNat (((ts.map V.str).length : Nat) : Int)) [V.non]).flatten = ledZ ts 0 := by
      rw [Int.toNat_natCast, List.length_map, ← el]
      unfold ledZ
      have : ∀ n, (List.replicate n [V.non]).flatten = (List.range n).map (ledZV ts 0) := fun n => by
        induction n with
        | zero => rfl
        | succ n ih =>
          rw [List.replicate_succ', List.flatten_append, ih, List.range_succ, List.map_append]
          unfold ledZV
          simp
      exact this _
    rw [e0]
    revert k1 hF
    generalize upd (upd H z (.lst [.non])) F (.lst (ledZ ts 0)) = H1
    intro hF k1
    have nF0 : H F = none := Same.free (Same.new nz) nF
    have ha1 := ha.same k1
    dsimp only [tNext, tDrop]
    refine ⟨.ref a, rfl, a, _, rfl, ha1.sq, fun D nD => wk walk_en (fun i H' => Same H1 H' ∧ ∃ vs, H' D = some (.lst vs) ∧ All2 (NZ ts H') vs (List.range i)) ⟨Same.new nD, [], upd_same, .nil⟩ (fun i H' _ w => (TupF.same w.1 ha1).sq) ?_ ?_⟩
    · rintro i x H2 H3 hi ⟨k2, vs, hD, hv⟩ ⟨T, x1, x2, rfl, nT, rfl, e1, e2⟩
      cases e1
      have e2 : (ts.map V.str)[i]? = some x2 := e2
      rw [List.getElem?_map] at e2
      obtain ⟨y, ey, rfl⟩ := Option.map_eq_some_iff.mp e2
      have er : rwZ ts i = y := by unfold rwZ; rw [List.getD_eq_getElem?_getD, ey]; rfl
      have k3 : Same H2 (upd H2 T (.tup [.int (i : Nat), .str y])) := Same.new nT
      refine ⟨T, _, rfl, SqT.of upd_same, rfl, _, _, rfl, _, _, rfl, rfl, rfl, _, rfl, _, rfl, by show 2 ≤ sizeLine; decide, fun b nb => ⟨vs, ?_, ?_, sameAt ((k2.trans k3).trans (Same.new nb)) nD, vs ++ [.ref b], upd_same, ?_⟩⟩
      · exact (k3.trans (Same.new nb)) _ _ hD
      · have z1 := hv.len
        rw [List.length_range] at z1
        rw [List.length_map] at hi
        omega
      · rw [List.range_succ]
        have kn := Same.new (o := .tup [.str y, .int (i : Nat)]) nb
        have hD3 := (k3.trans kn) _ _ hD
        have bD : b ≠ D := fun w => by rw [w, k3 _ _ hD] at nb; cases nb
        refine All2.snoc (hv.imp fun u m r => ?_) ?_
        · obtain ⟨c, e3, e4⟩ := r
          have g := (k3.trans kn) _ _ e4
          refine ⟨c, e3, ?_⟩
          rw [upd_ne (fun w => by rw [w, hD3] at g; cases g)]
          exact g
        · exact ⟨b, rfl, by rw [upd_ne bD, upd_same, er]⟩
    rintro H2 ⟨k2, vs, hD, hv⟩
    rw [List.length_map, ← el] at hv
    dsimp only [tNil]
    refine sorted_pairsZ hD hv fun L ws nL hw => ?_
    have kL : Same H2 (upd H2 L (.lst ws)) := Same.new nL
    have hL : upd H2 L (.lst ws) L = some (.lst ws) := upd_same
    have hw := hw.imp fun _ _ r => r.same kL
    have hF3 := kL _ _ (k2 _ _ hF)
    have k13 := (k1.trans k2).trans kL
    have nLF : L ≠ F := fun w => by rw [w, k2 _ _ hF] at nL; cases nL
    revert kL hL hw hF3 k13
    generalize upd H2 L (.lst ws) = H3
    intro kL hL hw hF3 k13
    have lw : ws.length = nZ ts := by rw [hw.len, List.length_mergeSort, List.length_range]
    refine ⟨.ref L, rfl, L, ws, rfl, sq_of hL, for_it (walk_enum (K := K) (a := L) (xs := ws)) (fun i σ H' => ∃ u3 u4 u5 : Option V, σ = [some (.ref a), some (.ref F), some (.ref L), u3, u4, u5] ∧ (∀ c o, c ≠ F → H3 c = some o → H' c = some o) ∧ H' F = some (.lst (ledZ ts i))) ⟨_, _, _, rfl, fun _ _ _ h => h, hF3⟩ (fun i σ H' _ ⟨_, _, _, _, w, _⟩ => sq_of (w _ _ nLF hL)) ?_ ?_⟩
    · rintro i x σ H4 H5 hi ⟨u3, u4, u5, rfl, k4, hF4⟩ ⟨T, x1, x2, rfl, nT, rfl, e1, e2⟩
      cases e1
      have e2 : ws[i]? = some x2 := e2
      obtain ⟨k, ek, b, rfl, eb⟩ := hw.at e2
      have hk : k < nZ ts := List.mem_range.mp ((srtZ_perm ts).mem_iff.mp (List.mem_of_getElem? ek))
      have bF : b ≠ F := fun w => by rw [w, hF3] at eb; cases eb
      have kT : Same H4 (upd H4 T (.tup [.int (i : Nat), .ref b])) := Same.new nT
      have eb5 := kT _ _ (k4 _ _ bF eb)
      have hF5 := kT _ _ hF4
      have k5 : ∀ c o, c ≠ F → H3 c = some o → upd H4 T (.tup [.int (i : Nat), .ref b]) c = some o := fun c o n h => kT _ _ (k4 c o n h)
      have hT : upd H4 T (.tup [.int (i : Nat), .ref b]) T = some (.tup [.int (i : Nat), .ref b]) := upd_same
      revert eb5 hF5 k5 hT
      generalize upd H4 T (.tup [.int (i : Nat), .ref b]) = H5
      intro eb5 hF5 k5 hT
      refine ⟨T, _, rfl, SqT.of hT, rfl, _, _, rfl, _, _, rfl, b, _, rfl, SqT.of eb5, rfl, _, _, rfl, _, _, rfl, rfl, rfl, ?_⟩
      refine ⟨_, rfl, rfl, _, rfl, ite2 (fun c => ?_) (fun c => ?_)⟩
      · have ne : rwZ ts k ≠ ("" : Str) := fun e => by rw [e] at c; revert c; decide
        refine ⟨_, rfl, .ref F, rfl, _, rfl, F, _, _, k, rfl, rfl, hF5, ?_, ?_⟩
        · exact Evl.ixN_nat (by unfold ledZ; rw [List.length_map, List.length_range]; exact hk)
        · refine ⟨_, _, _, rfl, fun c o n h => ?_, ?_⟩
          · rw [upd_ne n]
            exact k5 c o n h
          · rw [upd_same, ledZ_step ek ne]
      · have e : rwZ ts k = ("" : Str) := Classical.byContradiction fun n => c (by
          rw [Bool.not_eq_true']
          exact decide_eq_false fun z => n (V.str.inj z))
        exact ⟨_, _, _, rfl, k5, by rw [← ledZ_skip ek e]; exact hF5⟩
    rintro σ H4 ⟨u3, u4, u5, rfl, k4, hF4⟩
    refine ⟨.ref F, rfl, q F H4 (fun c o h => k4 c o (fun w => by rw [w, nF0] at h; cases h) (k13 _ _ h)) nF0 ?_⟩
    rw [lw] at hF4
    exact hF4
end
end LawK
set_option maxHeartbeats 4000000
namespace LawK
open PySem PySem.Spec PyProof.Rows L2 Ev

open RowI in
/-- the signs of a row, by number -/
def sZ (ts : List Str) (k : Nat) : RowM.LN := cod (rwZ ts k)
theorem sZ_one {ts : List Str} (h : Rz ts) (k : Nat) : (sZ ts k).length ≤ 1 := by
  unfold sZ rwZ
  rw [List.getD_eq_getElem?_getD]
  cases e : ts[k]? with
  | none => exact Nat.zero_le _
  | some z =>
    have := (h.sg z (List.mem_of_getElem? e)).2
    rw [len_S] at this
    show z.cps.toList.length ≤ 1
    omega
theorem sZ_nil (ts : List Str) (k : Nat) : sZ ts k = [] ↔ rwZ ts k = ("" : Str) := by
  constructor
  · intro e
    exact cod_inj e
  · intro e
    show cod (rwZ ts k) = []
    rw [e]
    rfl
theorem posZ_eq (ts : List Str) (k : Nat) : posZ ts k = RowI.pos (sZ ts) ts.length k := rfl
theorem emptZ (ts : List Str) : RowI.empt (sZ ts) ts.length = ts.count ("" : Str) := by
  unfold RowI.empt
  have a := RowM.filter_range (fun z : Str => decide (z = ("" : Str))) ts Str.empty
  have b : ts.count ("" : Str) = (ts.filter fun q => decide (q = ("" : Str))).length := by
    have := count_map (fun z : Str => z) ("" : Str) ts
    rwa [List.map_id'] at this
  rw [b, ← a]
  congr 1
  exact List.filter_congr fun k _ => decide_eq_decide.mpr (sZ_nil ts k)
theorem ledZ_at {ts : List Str} {k : Nat} (hk : k < ts.length) (ne : rwZ ts k ≠ ("" : Str)) : (ledZ ts (nZ ts))[k]? = some (iN (posZ ts k)) := by
  unfold ledZ
  rw [List.getElem?_map, List.getElem?_range hk]
  show some (ledZV ts (nZ ts) k) = _
  unfold ledZV
  rw [if_pos ⟨ne, RowI.pos_lt hk⟩]
/-- what a way tells, sign by sign -/
def toldZ (ts : List Str) (i m : Nat) : List Str := (List.range m).map fun j => rwZ ts (RowI.w (sZ ts) ts.length i j)
theorem toldZ_flat (ts : List Str) (i : Nat) : ∀ m, ((toldZ ts i m).reverse.map cod).flatten = RowI.sfj (sZ ts) ts.length i m
  | 0 => rfl
  | m + 1 => by
    have e : toldZ ts i (m + 1) = toldZ ts i m ++ [rwZ ts (RowI.w (sZ ts) ts.length i m)] := by
      unfold toldZ
      rw [List.range_succ, List.map_append]
      rfl
    rw [e, List.reverse_append, List.map_append, List.flatten_append, toldZ_flat ts i m]
    show (cod _ ++ []) ++ _ = _
    rw [List.append_nil]
    rfl
noncomputable def tsI (ts : List Str) : List Str := (List.range (ts.count ("" : Str))).map fun i => SX.S (RowI.txI (sZ ts) ts.length i)
def spSpelledZ : Sp := fun vs H Q _ => ∃ (a : Addr) (ts : List Str), vs = [.ref a] ∧ RowZ H a ts ∧ Rz ts ∧ ∀ b H', Same H H' → H' b = some (.tup ((tsI ts).map V.str)) → Q (.ref b) H'
section
variable {P : Program} {w : World} {K : PySem.W.Frag} {mg : Str → Option Value} {base : Heap}
theorem okz_QSpelled {f : Addr} {fd : FuncData} (F : Fun K "_spelled" "_spelled" sQSpelled f fd)  {fPRowLeads : Addr} {fdPRowLeads : FuncData} (DPRowLeads : Dk P w K mg base "row_leads" sPRowLeads ["row"] 1 spLeadsZ fPRowLeads fdPRowLeads) (T : Glob mg) : FnOk P w K mg base CX0 2 f fd ["row"] spSpelledZ := by
  refine F.ok scQSpelled (fun vs H Q E h => ?_) (fun cdv A outer s H vs Q E hr h => ?_)
  · obtain ⟨a, ts, rfl, _⟩ := h
    rfl
  · refine ⟨_, (pss_cons (ps_set (i := 1) scQSpelled.nd rfl (.inl rfl) (pe_call DPRowLeads.ok (hr.mono (by decide)) (by rfl) DPRowLeads.g DPRowLeads.F.kp DPRowLeads.b .nil pass0 (pa_cons (pv 0) pa_nil)))
      (pss_cons (ps_set (i := 2) scQSpelled.nd rfl (.inl rfl) (pe_lst pa_nil))
      (pss_cons (ps_for PassesOwn.never rfl (pi_range1 (by rfl) T.range (pa_cons (pe_bmT PySem.F.plainAttrs_tuple PySem.F.slot_tuple_count PySem.F.type_tuple_count mt_tcount (pv 0) (pa_cons pe_str pa_nil)) pa_nil)) (pg_name (i := 3) scQSpelled.nd rfl (.inl rfl))
      (pss_cons (ps_set (i := 4) scQSpelled.nd rfl (.inl rfl) (pe_lst pa_nil))
        (pss_cons (ps_set (i := 5) scQSpelled.nd rfl (.inl rfl) (pv 3))
        (pss_cons (ps_while PassesOwn.never (pt_cmpR op_ne (pe_ix ix_tup (pv 0) (pv 5) (fun _ _ => rfl)) pe_str (nomark _))
        (pss_cons (ps_expr (pe_bm PySem.F.plainAttrs_list PySem.F.slot_list_append PySem.F.type_list_append mt_append (pv 4) (pa_cons (pe_ix ix_tup (pv 0) (pv 5) (fun _ _ => rfl)) pa_nil)))
          (pss_one (ps_set (i := 5) scQSpelled.nd rfl (.inl rfl) (pe_ix ix_list (pv 1) (pv 5) (fun _ _ => rfl))))))
        (pss_one (ps_expr (pe_bm PySem.F.plainAttrs_list PySem.F.slot_list_append PySem.F.type_list_append mt_append (pv 2) (pa_cons (pe_join pe_str (Ev.pe_revL (pv 4))) pa_nil))))))))
      (pss_one (ps_ret (pe_callTy call_tuple_of (by rfl) T.tuple (by decide +kernel) (pa_cons (pv 2) pa_nil))))))), ?_⟩
    obtain ⟨a, ts, rfl, ha, hr0, q⟩ := h
    have ol := hr0.len
    have few := hr0.few
    have sz := sizeLine_eq
    have one := sZ_one hr0
    have em := emptZ ts
    have enl : RowI.empt (sZ ts) ts.length ≤ ts.length := RowI.empt_le
    have lts : (tsI ts).length = ts.count ("" : Str) := by unfold tsI; rw [List.length_map, List.length_range]
    refine ⟨.ref a, rfl, a, ts, rfl, ha, hr0, fun B H1 k1 nB hB => ?_⟩
    dsimp only [tNext, tDrop]
    refine ⟨by show 0 ≤ sizeLine; decide, fun X nX => ?_⟩
    have kX : Same H1 (upd H1 X (.lst [])) := Same.new nX
    have hX : upd H1 X (.lst []) X = some (.lst []) := upd_same
    have nXB : B ≠ X := fun w => by rw [← w, hB] at nX; cases nX
    have k12 := k1.trans kX
    have nXH : H X = none := Same.free k1 nX
    revert kX hX k12
    generalize upd H1 X (.lst []) = H2
    intro kX hX k12
    have ha2 := TupF.same k12 ha
    have hB2 := kX _ _ hB
    refine ⟨.ref a, rfl, ⟨a, _, rfl, ha2⟩, a, ts, "", rfl, rfl, ha2.sq, ?_⟩
    refine ⟨_, rfl, by omega, by omega, for_range (fun i σ H' => ∃ u3 u4 u5 : Option V, σ = [some (.ref a), some (.ref B), some (.ref X), u3, u4, u5] ∧ (∀ c o, c ≠ X → H2 c = some o → H' c = some o) ∧ H' X = some (.lst (((tsI ts).take i).map V.str))) ⟨_, _, _, rfl, fun _ _ _ h => h, hX⟩ ?_ ?_⟩
    · rintro i σ H3 hi ⟨u3, u4, u5, rfl, k3, hX3⟩
      have hi : i < ts.count ("" : Str) := by omega
      have hie : i < RowI.empt (sZ ts) ts.length := by omega
      obtain ⟨ok1, ok2⟩ := RowI.ml_ok hie
      have lml := RowI.ml_lt hie
      refine ⟨by show 0 ≤ sizeLine; decide, fun D nD => ?_⟩
      have kD : Same H3 (upd H3 D (.lst [])) := Same.new nD
      have hD : upd H3 D (.lst []) D = some (.lst []) := upd_same
      have nDX : D ≠ X := fun w => by rw [w, hX3] at nD; cases nD
      have hX4 := kD _ _ hX3
      have k4 : ∀ c o, c ≠ X → H2 c = some o → upd H3 D (.lst []) c = some o := fun c o n h => kD _ _ (k3 c o n h)
      revert kD hD hX4 k4
      generalize upd H3 D (.lst []) = H4
      intro kD hD hX4 k4
      have aX : a ≠ X := fun w => by obtain ⟨o, e, _⟩ := ha2; rw [w, hX] at e; cases e
      obtain ⟨oa, ea, pa⟩ := ha2
      have ea4 := k4 _ _ aX ea
      have hB4 := k4 _ _ nXB hB2
      have aD : a ≠ D := fun w => by rw [w, hD] at ea4; cases ea4
      have BD : B ≠ D := fun w => by
        rw [w] at hB2
        have := k3 D _ (fun z => nDX z) hB2
        rw [nD] at this
        cases this
      refine ⟨_, rfl, fun m σ H' => ∃ j : Nat, m = RowI.ml (sZ ts) ts.length i - j ∧ j ≤ RowI.ml (sZ ts) ts.length i ∧ σ = [some (.ref a), some (.ref B), some (.ref X), some (.int (0 + (i : Nat))), some (.ref D), some (.int (RowI.w (sZ ts) ts.length i j : Nat))] ∧ (∀ c o, c ≠ D → H4 c = some o → H' c = some o) ∧ H' D = some (.lst ((toldZ ts i j).map V.str)), ⟨RowI.ml (sZ ts) ts.length i, 0, rfl, Nat.zero_le _, ?_, fun _ _ _ h => h, hD⟩, ?_⟩
      · show [some (V.ref a), some (V.ref B), some (V.ref X), some (V.int (0 + (i : Nat))), some (V.ref D), some (V.int (0 + (i : Nat)))] = [some (V.ref a), some (V.ref B), some (V.ref X), some (V.int (0 + (i : Nat))), some (V.ref D), some (V.int (i : Nat))]
        rw [Int.zero_add]
      rintro m σ H5 ⟨j, rfl, hj, rfl, k5, hD5⟩
      have ea5 := k5 _ _ aD ea4
      have hB5 := k5 _ _ BD hB4
      have sq5 : SqT K H5 a (ts.map V.str) := TupF.sq ⟨oa, ea5, pa⟩
      have hn : RowI.w (sZ ts) ts.length i j < ts.length := RowI.w_lt (by omega) j
      have at5 : atI (ts.map V.str) ((RowI.w (sZ ts) ts.length i j : Nat) : Int) = some (.str (rwZ ts (RowI.w (sZ ts) ts.length i j))) := atI_nat (by
        rw [List.getElem?_map, List.getElem?_eq_getElem hn]
        unfold rwZ
        rw [List.getD_eq_getElem?_getD, List.getElem?_eq_getElem hn]
        rfl)
      refine ⟨.ref a, rfl, _, rfl, a, _, _, .str (rwZ ts (RowI.w (sZ ts) ts.length i j)), rfl, rfl, sq5, at5, rfl, _, rfl, ?_⟩
      rcases Nat.lt_or_ge j (RowI.ml (sZ ts) ts.length i) with g | g
      · have ne : rwZ ts (RowI.w (sZ ts) ts.length i j) ≠ ("" : Str) := fun z => ok2 j g ((sZ_nil _ _).mpr z)
        rw [decide_eq_false (fun z => ne (V.str.inj z))]
        refine iteT ⟨_, fun σ' H' w => ⟨RowI.ml (sZ ts) ts.length i - (j + 1), by omega, w⟩, ?_⟩
        refine ⟨.ref D, rfl, .inl ⟨rfl, _, sq_of hD5⟩, .ref a, rfl, _, rfl, a, _, _, .str (rwZ ts (RowI.w (sZ ts) ts.length i j)), rfl, rfl, sq5, at5, D, _, _, rfl, rfl, hD5, ?_, ?_⟩
        · unfold toldZ
          rw [List.length_map, List.length_map, List.length_range]
          omega
        have hB6 : upd H5 D (.lst ((toldZ ts i j).map V.str ++ [.str (rwZ ts (RowI.w (sZ ts) ts.length i j))])) B = _ := (upd_ne BD).trans hB5
        refine ⟨.ref B, rfl, _, rfl, B, _, _, iN (posZ ts (RowI.w (sZ ts) ts.length i j)), rfl, rfl, sq_of hB6, atI_nat (ledZ_at hn ne), j + 1, rfl, by omega, rfl, fun c o nc h => ?_, ?_⟩
        · rw [upd_ne nc]
          exact k5 c o nc h
        · rw [upd_same]
          unfold toldZ
          rw [List.range_succ, List.map_append, List.map_append]
          rfl
      · have ej : j = RowI.ml (sZ ts) ts.length i := by omega
        subst ej
        refine iteNS (congrArg V.str ((sZ_nil _ _).mp ok1)) ?_
        have hX5 := k5 _ _ (fun w => nDX w.symm) hX4
        refine ⟨.ref X, rfl, .inl ⟨rfl, _, sq_of hX5⟩, ⟨_, rfl⟩, .ref D, rfl, D, _, rfl, sq_of hD5, fun R nR' => ?_⟩
        rw [← List.map_reverse]
        have fl := toldZ_flat ts i (RowI.ml (sZ ts) ts.length i)
        have ltx := RowI.sfj_len one i _ ok2
        have sm : ((toldZ ts i (RowI.ml (sZ ts) ts.length i)).reverse.map (fun x => x.length)).sum = RowI.ml (sZ ts) ts.length i := by
          have := congrArg List.length fl
          rw [List.length_flatten, List.map_map, ltx] at this
          exact (congrArg List.sum (List.map_congr_left fun z _ => len_S z)).trans this
        refine ⟨_, R, _, rfl, rfl, .inl (sq_of upd_same), ?_, ?_⟩
        · have : (Str.ofString "").length = 0 := by decide +kernel
          rw [sm, this]
          omega
        have jt : Txt.join (Str.ofString "") (toldZ ts i (RowI.ml (sZ ts) ts.length i)).reverse = SX.S (RowI.txI (sZ ts) ts.length i) := by
          rw [join_names]
          apply cod_inj
          exact fl
        rw [jt]
        dsimp only [tNil]
        have nRX : R ≠ X := fun w => by rw [w, hX5] at nR'; cases nR'
        have hX6 := (Same.new (o := .lst ((toldZ ts i (RowI.ml (sZ ts) ts.length i)).reverse.map V.str)) nR') _ _ hX5
        refine ⟨X, _, _, rfl, rfl, hX6, ?_, _, _, _, rfl, fun c o nc h => ?_, ?_⟩
        · rw [List.length_map, List.length_take]
          omega
        · rw [upd_ne nc]
          have cD : c ≠ D := fun w => by
            rw [w] at h
            have := k3 D _ (fun z => nDX z) h
            rw [nD] at this
            cases this
          exact (Same.new nR') _ _ (k5 c o cD (k4 c o nc h))
        · have et : (tsI ts)[i]? = some (SX.S (RowI.txI (sZ ts) ts.length i)) := by
            unfold tsI
            rw [List.getElem?_map, List.getElem?_range hi]
            rfl
          rw [upd_same, take_snoc et, List.map_append]
          rfl
    rintro σ H3 ⟨u3, u4, u5, rfl, k3, hX3⟩
    rw [Int.toNat_natCast, ← lts, List.take_length] at hX3
    refine ⟨.ref X, rfl, X, _, rfl, .inl ⟨sq_of hX3, fun l nl => ?_⟩⟩
    refine q l _ (fun c o h => ?_) upd_same
    have nc : c ≠ X := fun w => by rw [w, nXH] at h; cases h
    exact (Same.new nl) _ _ (k3 c o nc (k12 _ _ h))
end
end LawK
set_option maxHeartbeats 4000000
/-! Plain tuples: written down, put together, so many times. -/
namespace Ev
open PySem PySem.Spec PyProof.Rows L2
section
variable {X : Cx}
def tTupF (t : TA) : TE := fun σ H Q => t σ H fun xs H1 => xs.length ≤ sizeLine ∧ ∀ p o, H1 p = none → PlT o → Q (.ref p) (upd H1 p (.frz o (.tup xs)))
theorem pe_tupF {es : List Expr} {t : TA} {pos : Pos} {k : Nat} (ha : PA X es t) : PE X (.Tuple es k pos) (tTupF t) := by
  refine ⟨fun pins s σ H Q I h => ?_⟩
  refine wpAny_Tuple (thn (ha.run pos pins s σ H _ I h) ?_)
  rintro us s1 ⟨xs, H1, I1, r, hl, q⟩
  have ln := r.length
  have nn := I1.hok.fresh (Nat.le_refl s1.heap.objs.size)
  refine ⟨by rw [← ln]; exact hl, .ref s1.heap.objs.size, upd H1 s1.heap.objs.size (.frz { cls := .type "tuple", data := .seq us.toArray } (.tup xs)), ?_, rfl, q _ _ nn ⟨rfl, rfl⟩⟩
  have ok : ObjOk X.prog X.w (upd H1 s1.heap.objs.size (.frz { cls := .type "tuple", data := .seq us.toArray } (.tup xs))) (s1.heap.push { cls := .type "tuple", data := .seq us.toArray }) s1.heap.objs.size (.frz { cls := .type "tuple", data := .seq us.toArray } (.tup xs)) := ⟨Heap.get?_push_size _ rfl, hl, us, r, IsTup.new _ _⟩
  exact I1.laid (t' := s1.toks) (fun b ob e => Heap.get?_push_of_some _ e) (Nat.le_refl _) ok
def rCatF : R2 := fun x y H Q => ∃ a b xs ys, x = .ref a ∧ y = .ref b ∧ TupF H a xs ∧ TupF H b ys ∧ xs.length + ys.length ≤ sizeLine ∧ ∀ p H', Same H H' → TupF H' p (xs ++ ys) → Q (.ref p) H'
theorem op_catF : OpR X (binaryOp .Add) rCatF := by
  intro pins s σ H x y v u Q I rx ry h
  obtain ⟨a, b, xs, ys, rfl, rfl, ha, hb, hz, q⟩ := h
  by_cases e1 : xs = []
  · refine op_catA pins s σ H _ _ v u Q I rx ry ⟨a, b, xs, ys, rfl, rfl, ha.sq, hb.sq, hz, fun _ => ?_, fun n => absurd e1 n, fun n => absurd e1 n⟩
    exact q b H (Same.refl H) (by rw [e1]; exact hb)
  by_cases e2 : ys = []
  · refine op_catA pins s σ H _ _ v u Q I rx ry ⟨a, b, xs, ys, rfl, rfl, ha.sq, hb.sq, hz, fun n => absurd n e1, fun _ _ => ?_, fun _ n => absurd e2 n⟩
    exact q a H (Same.refl H) (by rw [e2, List.append_nil]; exact ha)
  cases rx
  cases ry
  obtain ⟨i1, r1, t1, z1⟩ := I.tuple (ha.sq (K := X.K))
  obtain ⟨i2, r2, t2, z2⟩ := I.tuple (hb.sq (K := X.K))
  have l1 := r1.length
  have l2 := r2.length
  have n1 : i1 ≠ [] := fun z => e1 (List.eq_nil_of_length_eq_zero (by rw [l1, z]; rfl))
  have nn := I.hok.fresh (Nat.le_refl s.heap.objs.size)
  refine HT.cat_tup t1 t2 n1 (fun z => absurd (List.eq_nil_of_length_eq_zero (by rw [l2, z]; rfl)) e2) (fun _ => ?_) (by omega)
  refine ⟨.ref s.heap.objs.size, _, I.laid (t' := s.toks) (o := .frz { cls := .type "tuple", data := .seq (i1 ++ i2).toArray } (.tup (xs ++ ys))) (fun b ob e => Heap.get?_push_of_some _ e) (Nat.le_refl _) ?_, rfl, q _ _ (sameNew nn) ⟨_, upd_same, rfl, rfl⟩⟩
  exact ⟨Heap.get?_push_size _ rfl, by rw [List.length_append]; exact hz, i1 ++ i2, r1.append r2, IsTup.new _ _⟩
def rRepF : R2 := fun x y H Q => ∃ (l : Addr) (k : Nat) (xs : List V), x = .ref l ∧ y = .int (k : Nat) ∧ TupF H l xs ∧ xs ≠ [] ∧ 2 ≤ k ∧ k ≤ 100 ∧ xs.length ≤ 100 ∧ ∀ p H', Same H H' → TupF H' p (List.replicate k xs).flatten → Q (.ref p) H'
theorem op_repF : OpR X (binaryOp .Mult) rRepF := by
  intro pins s σ H x y v u Q I rx ry h
  obtain ⟨l, k, xs, rfl, rfl, hl, ne, k2, k1, hx, q⟩ := h
  cases rx
  obtain ⟨t, rfl⟩ := ry
  obtain ⟨its, r, ⟨⟨cls, dd, data, sl⟩, ho, hc, n, hd⟩, hz⟩ := I.tuple (hl.sq (K := X.K))
  simp only at hc hd
  subst hc hd
  have ln := r.length
  have tl : s.TypeIs (.ref l) "tuple" := ⟨_, ho, rfl⟩
  have i0 : its.toArray.isEmpty = false := by
    cases its with
    | nil => exact absurd (List.eq_nil_of_length_eq_zero ln) ne
    | cons a b => rfl
  have fl : (List.replicate k its).flatten.length = k * its.length := lm_len_rep_flat its k
  have bd : k * its.length ≤ 10000 := Nat.mul_le_mul k1 (show its.length ≤ 100 by omega)
  have sz := sizeLine_eq
  have mc : (its.toArray.size : Int) * ((k : Nat) : Int) ≤ 10000 := by
    rw [List.size_toArray, ← Int.natCast_mul, Nat.mul_comm]
    omega
  have c0 : (decide (((k : Nat) : Int) < -2 ^ 63) || decide (((k : Nat) : Int) ≥ 2 ^ 63)) = false := by
    rw [decide_eq_false (by omega), decide_eq_false (by omega)]
    rfl
  have c1 : (its.toArray.isEmpty || ((k : Nat) : Int) == 1) = false := by
    rw [i0, Bool.false_or]
    exact beq_eq_false_iff_ne.mpr (by omega)
  have c2 : (decide (((k : Nat) : Int) ≤ 0) || its.toArray.isEmpty) = false := by
    rw [i0, Bool.or_false]
    exact decide_eq_false (by omega)
  have c3 : ¬ (its.toArray.size : Int) * ((k : Nat) : Int) > (2 ^ 63 - 1) / 8 := by omega
  have c4 : Builtin.Tuple.tupleTooMany ((its.toArray.size : Int) * ((k : Nat) : Int)) = false := by
    unfold Builtin.Tuple.tupleTooMany
    exact decide_eq_false (by omega)
  have c5 : (List.foldl (fun x1 x2 => x1 ++ x2) #[] (List.replicate ((k : Nat) : Int).toNat its.toArray)).size ≤ sizeLine := by
    rw [size_rep, List.size_toArray, Int.toNat_natCast]
    omega
  have tm := tuple_mulW l its.toArray n dd sl ((k : Nat) : Int) t c0 c1 c2 c3 c4 c5
  have im := int_rmul_tuple ((k : Nat) : Int) t l its.toArray n dd sl
  have nn := I.hok.fresh (Nat.le_refl s.heap.objs.size)
  refine wpAny_binaryOp_repeat_ref (T := "tuple") (U := "int") (by decide) tl (fun s' => typeIs_int s' _ t) noFill_tuple_mul F.fills_int_mul F.slot_int_rmul repeat_tuple F.slot_int_index.lookup ?_
  refine call_meets F.slot_int_rmul (typeIs_int s _ t) F.entry_int_rmul (F.args_int_rmul_2 _ _) im ⟨ho, rfl, tl, ?_⟩
  refine call_meets F.slot_tuple_mul tl F.entry_tuple_mul (F.args_tuple_mul_2 _ _) tm ⟨ho, ?_⟩
  rw [size_rep, Int.toNat_natCast]
  refine ⟨.ref s.heap.objs.size, _, I.laid (t' := s.toks) (o := .frz { cls := .type "tuple", data := .seq (List.replicate k its).flatten.toArray } (.tup (List.replicate k xs).flatten)) (fun b ob e => Heap.get?_push_of_some _ e) (Nat.le_refl _) ?_, rfl, q _ _ (sameNew nn) ⟨_, upd_same, rfl, rfl⟩⟩
  exact ⟨Heap.get?_push_size _ rfl, by rw [lm_len_rep_flat, ln]; omega, _, r.rep k, IsTup.new _ _⟩
end
end Ev
set_option maxHeartbeats 4000000
namespace LawK
open PySem PySem.Spec PyProof.Rows L2 Ev

open PySem.W
/-- a tuple, written down or made in one go -/
def TupX (H : Hp) (a : Addr) (xs : List V) : Prop := H a = some (.tup xs) ∨ ∃ o, H a = some (.frz o (.tup xs))
theorem TupX.same {H H' : Hp} {a : Addr} {xs : List V} (k : Same H H') (h : TupX H a xs) : TupX H' a xs := h.elim (fun e => .inl (k _ _ e)) fun ⟨o, e⟩ => .inr ⟨o, k _ _ e⟩
theorem TupX.sq {K : PySem.W.Frag} {H : Hp} {a : Addr} {xs : List V} (h : TupX H a xs) : SqT K H a xs := h.elim (fun e => SqT.of e) fun ⟨o, e⟩ => .inl (.inr ⟨o, e⟩)
theorem TupX.ty {K : PySem.W.Frag} {H : Hp} {a : Addr} {xs : List V} (h : TupX H a xs) : TyX K H (.ref a) (.type (Kn.name .tup)) := h.elim (fun e => Kd.tyx (.tup e)) fun ⟨o, e⟩ => .fTuple e
/-- what kind a thing is -/
def Ko (H : Hp) (x : V) (k : Kn) : Prop := Kd H x k ∨ k = .tup ∧ ∃ a xs, x = .ref a ∧ TupX H a xs
theorem Ko.ty {K : PySem.W.Frag} {H : Hp} {x : V} {k : Kn} (h : Ko H x k) : TyX K H x (.type k.name) := by
  rcases h with h | ⟨rfl, a, xs, rfl, h⟩
  · exact Kd.tyx h
  · exact h.ty
theorem Ko.same {H H' : Hp} {x : V} {k : Kn} (s : Same H H') (h : Ko H x k) : Ko H' x k := by
  rcases h with h | ⟨rfl, a, xs, rfl, h⟩
  · exact .inl (Kd.same s h)
  · exact .inr ⟨rfl, a, xs, rfl, h.same s⟩
theorem Ko.str {H : Hp} {x : V} {k : Kn} (h : Ko H x k) (e : k = .str) : ∃ z, x = .str z := by
  subst e
  rcases h with h | ⟨e, _⟩
  · cases h with
    | str z => exact ⟨z, rfl⟩
  · cases e
theorem Ko.nstr {H : Hp} {x : V} {k : Kn} (h : Ko H x k) (e : k ≠ .str) : sgV x = false := by
  rcases h with h | ⟨_, a, xs, rfl, h⟩
  · cases h with
    | str z => exact absurd rfl e
    | _ => rfl
  · rfl
def spSgO : Sp := fun vs H Q _ => ∃ (x : V) (k : Kn), vs = [x] ∧ Ko H x k ∧ Q (.bl (sgV x)) H
/-- a thing that may be a row: its parts, if it is a tuple -/
inductive Th (H : Hp) : V → Option (List V) → Prop
  | no {x : V} {k : Kn} (h : Ko H x k) (n : k ≠ .tup) : Th H x none
  | tup {a : Addr} {vs : List V} (h : TupF H a vs) (few : vs.length ≤ 200) (hv : ∀ v ∈ vs, Vs v ∧ ∃ k, Ko H v k) : Th H (.ref a) (some vs)
theorem Th.same {H H' : Hp} {x : V} {o : Option (List V)} (s : Same H H') (h : Th H x o) : Th H' x o := by
  cases h with
  | no h n => exact .no (h.same s) n
  | tup h few hv => exact .tup (TupF.same s h) few fun v hm => let ⟨l, k, e⟩ := hv v hm; ⟨l, k, e.same s⟩
def one1 : V → Bool
  | .str z => sgB z && decide (z.length < 2)
  | _ => false
def toS : V → Str
  | .str z => z
  | _ => Str.empty
theorem one1_map : ∀ {vs : List V}, vs.all one1 = true → vs = (vs.map toS).map V.str
  | [], _ => rfl
  | v :: vs, h => by
    rw [List.all_cons, Bool.and_eq_true] at h
    have ih := one1_map h.2
    rw [List.map_cons, List.map_cons, ← ih]
    cases v with
    | str z => rfl
    | _ => cases h.1
theorem one1_sg {vs : List V} (h : vs.all one1 = true) : ∀ z ∈ vs.map toS, sgB z = true ∧ z.length < 2 := fun z hz => by
  obtain ⟨v, hv, rfl⟩ := List.mem_map.mp hz
  have := List.all_eq_true.mp h v hv
  cases v with
  | str z =>
    have this : (sgB z && decide (z.length < 2)) = true := this
    rw [Bool.and_eq_true, decide_eq_true_eq] at this
    exact this
  | _ => cases this
/-- all of it is told -/
def Tot (zs : List Str) : Prop := ((List.range (RowI.empt (sZ zs) zs.length)).map fun i => RowI.ml (sZ zs) zs.length i + 1).sum = zs.length
def formV (vs : List V) : Bool := vs.all one1 && decide ((vs.map toS).count ("" : Str) ≤ 8)
def formO : Option (List V) → Bool
  | none => false
  | some vs => formV vs
open Classical in
noncomputable def dueO : Option (List V) → Option (List Str)
  | none => none
  | some vs => if formV vs = true ∧ Tot (vs.map toS) then some (tsI (vs.map toS)) else none
def spHasFormO : Sp := fun vs H Q _ => ∃ (x : V) (o : Option (List V)), vs = [x] ∧ Th H x o ∧ ∀ H', Same H H' → Q (.bl (formO o)) H'
theorem formV_rz {vs : List V} (few : vs.length ≤ 200) (h : formV vs = true) : vs = (vs.map toS).map V.str ∧ Rz (vs.map toS) := by
  unfold formV at h
  rw [Bool.and_eq_true, decide_eq_true_eq] at h
  exact ⟨one1_map h.1, by rw [List.length_map]; exact few, one1_sg h.1, h.2⟩
section
variable {P : Program} {w : World} {K : PySem.W.Frag} {mg : Str → Option Value} {base : Heap}
theorem okz_PSigns {f : Addr} {fd : FuncData} (F : Fun K "is_signs" "is_signs" sPSigns f fd)   (T : Glob mg) : FnOk P w K mg base CX0 1 f fd ["thing"] spSgO := by
  refine F.ok scPSigns (fun vs H Q E h => ?_) (fun cdv A outer s H vs Q E hr h => ?_)
  · obtain ⟨x, k, rfl, _⟩ := h
    rfl
  · refine ⟨_, (pss_one (ps_ret (pe_and (pe_callB call_isi (by rfl) T.isinstance PyProof.Rows.boot_isinstance (pa_cons (pv 0) (pa_cons (pe_bltn (v := .ty "str") (by rfl) T.str (by decide +kernel) rfl) pa_nil))) (pe_and (pe_bm0 PySem.F.plainAttrs_str PySem.F.slot_str_isascii PySem.F.type_str_isascii mt_isascii (pv 0)) (pe_one (pe_bm0 PySem.F.plainAttrs_str PySem.F.slot_str_isprintable PySem.F.type_str_isprintable mt_isprintable (pv 0))))))), ?_⟩
    obtain ⟨x, k, rfl, hk, q⟩ := h
    refine ⟨x, rfl, x, .ty "str", .type (Kn.name k), .type "str", kitB k .str, rfl, .ty _, hk.ty, kit_kn k .str, _, rfl, ?_⟩
    by_cases e : k = .str
    · obtain ⟨z, rfl⟩ := hk.str e
      subst e
      refine iteT ⟨.str z, rfl, rfl, z, rfl, rfl, trivial, _, rfl, ite2 (fun e => ⟨.str z, rfl, rfl, z, rfl, rfl, trivial, ?_⟩) (fun e => ?_)⟩
      · have q' : Q (.bl (sgB z)) H := q
        rw [← sgB_of, e, Bool.true_and] at q'
        exact q'
      · have e' : Txt.isascii z = false := by simpa using e
        have q' : Q (.bl (sgB z)) H := q
        rw [← sgB_of, e', Bool.false_and] at q'
        exact q'
    · rw [hk.nstr e] at q
      have kf : kitB k .str = false := by
        cases k <;> first | rfl | exact absurd rfl e
      rw [kf]
      exact iteF q
theorem okz_QHasForm {f : Addr} {fd : FuncData} (F : Fun K "_has_form" "_has_form" sQHasForm f fd) {tM tT : Tok} (gM : mg "MOST_SIGNS" = some (.int 2000 tM)) (gT : mg "MOST_TEXTS" = some (.int 8 tT)) {fPSigns : Addr} {fdPSigns : FuncData} (DPSigns : Dk P w K mg base "is_signs" sPSigns ["thing"] 1 spSgO fPSigns fdPSigns) (T : Glob mg) : FnOk P w K mg base CX0 2 f fd ["thing"] spHasFormO := by
  refine F.ok scQHasForm (fun vs H Q E h => ?_) (fun cdv A outer s H vs Q E hr h => ?_)
  · obtain ⟨x, o, rfl, _⟩ := h
    rfl
  · refine ⟨_, (pss_cons (ps_if (PW.pt (pw_or (pt_not (pt_val (pe_callB call_isi (by rfl) T.isinstance PyProof.Rows.boot_isinstance (pa_cons (pv 0) (pa_cons (pe_bltn (v := .ty "tuple") (by rfl) T.tuple (by decide +kernel) rfl) pa_nil))))) (pw_or1 (pt_cmpR op_gt (pe_callB call_len_seq (by rfl) T.len PySem.boot_len (pa_cons (pv 0) pa_nil)) (pe_op op_add (pe_glob (v := .int 8) (by rfl) gT ⟨_, rfl⟩) (pe_glob (v := .int 2000) (by rfl) gM ⟨_, rfl⟩)) (nomark _)))))
      (pss_one (ps_ret pe_bl))
      pss_nil)
      (pss_cons (ps_if (pt_not (pt_val (pe_callB (cr_all rfl) (by rfl) T.all (by decide +kernel) (pa_cons (pe_lc (own := [("sign", 2)]) (g := gName 2) (by rfl) scQHasForm.nd (pi_tup (pv 0)) (blkOk_by (N := ["thing", "texts", "sign"]) (sc := defScope sQHasForm) (by decide +kernel)) (fun _ _ _ _ _ => pg_name (i := 2) scQHasForm.nd rfl (.inl rfl)) (fun _ _ _ _ _ => pts_nil) (fun _ _ _ _ _ => (pe_and (pe_call DPSigns.ok (hr.mono (by decide)) (by rfl) DPSigns.g DPSigns.F.kp DPSigns.b .nil pass0 (pa_cons (pv 2) pa_nil)) (pe_one (pe_cmpR op_lt (pe_callB call_lenZ (by rfl) T.len PySem.boot_len (pa_cons (pv 2) pa_nil)) pe_int (nomark _)))))) pa_nil))))
      (pss_one (ps_ret pe_bl))
      pss_nil)
      (pss_cons (ps_set (i := 1) scQHasForm.nd rfl (.inl rfl) (pe_bmT PySem.F.plainAttrs_tuple PySem.F.slot_tuple_count PySem.F.type_tuple_count mt_tcount (pv 0) (pa_cons pe_str pa_nil)))
      (pss_one (ps_ret (pe_and (pe_cmpR op_le (pv 1) (pe_glob (v := .int 8) (by rfl) gT ⟨_, rfl⟩) (nomark _)) (pe_one (pe_cmpR op_le (pe_op op_sub (pe_callB call_len_seq (by rfl) T.len PySem.boot_len (pa_cons (pv 0) pa_nil)) (pv 1)) (pe_glob (v := .int 2000) (by rfl) gM ⟨_, rfl⟩) (nomark _))))))))), ?_⟩
    obtain ⟨x, o, rfl, ht, q⟩ := h
    have sz := sizeLine_eq
    cases ht with
    | @no _ k hk n =>
      refine ⟨x, rfl, x, .ty "tuple", .type (Kn.name k), .type "tuple", kitB k .tup, rfl, .ty _, hk.ty, kit_kn k .tup, _, rfl, ?_⟩
      have kf : kitB k .tup = false := by
        cases k <;> first | rfl | exact absurd rfl n
      rw [kf]
      exact iteT (q H (Same.refl H))
    | @tup a vs ha few hv =>
      refine ⟨.ref a, rfl, .ref a, .ty "tuple", .type (Kn.name .tup), .type "tuple", kitB .tup .tup, rfl, .ty _, (let ⟨o, e, _⟩ := ha; .fTuple e), kit_kn .tup .tup, _, rfl, iteF ?_⟩
      refine ⟨.ref a, rfl, a, _, rfl, .inr ha.sq, _, _, rfl, rfl, _, _, rfl, rfl, _, rfl, ite2 (fun c => ?_) (fun c => ?_)⟩
      · have := of_decide_eq_true c
        omega
      dsimp only [tNext, tDrop]
      refine ⟨.ref a, rfl, a, rfl, ⟨_, ha.sq⟩, fun D nD => lc_tup (K := K) (xs := vs) (fun i H' => Same H H' ∧ H' D = some (.lst (((vs.take i).map one1).map V.bl))) ⟨Same.new nD, upd_same⟩ (fun i H' _ w => (TupF.same w.1 ha).sq) ?_ ?_⟩
      · rintro i x H1 hx ⟨k1, hD⟩
        obtain ⟨lz, k, hk⟩ := hv x (List.mem_of_getElem? hx)
        have il := (List.getElem?_eq_some_iff.mp hx).1
        refine ⟨rfl, x, rfl, x, k, rfl, hk.same k1, _, rfl, ite2 (fun c => ?_) (fun c => ?_)⟩
        · have c : sgV x = true := c
          cases x with
          | str z =>
            have lz := lz z rfl
            have o1 : one1 (.str z) = decide ((z.length : Int) < 2) := by
              show (sgB z && decide (z.length < 2)) = _
              rw [show sgB z = true from c, Bool.true_and]
              exact decide_eq_decide.mpr (by omega)
            refine ⟨.str z, rfl, z, rfl, len5 lz, _, _, rfl, rfl, _, hD, ?_, sameAt k1 nD, ?_⟩
            · rw [List.length_map, List.length_map, List.length_take]
              omega
            · rw [upd_same, take_snoc hx, List.map_append, List.map_append]
              dsimp only
              rw [← o1]
              rfl
          | _ => cases c
        · have c : ¬ sgV x = true := c
          have o1 : one1 x = false := by
            cases x with
            | str z =>
              show (sgB z && decide (z.length < 2)) = false
              have c : sgV (.str z) = false := by simpa using c
              rw [show sgB z = false from c, Bool.false_and]
            | _ => rfl
          refine ⟨_, hD, ?_, sameAt k1 nD, ?_⟩
          · rw [List.length_map, List.length_map, List.length_take]
            omega
          · rw [upd_same, take_snoc hx, List.map_append, List.map_append]
            show some (HO.lst (_ ++ [V.bl false])) = some (HO.lst (_ ++ [V.bl (one1 x)]))
            rw [o1]
      rintro H1 ⟨k1, hD⟩
      rw [List.take_length] at hD
      refine ⟨D, _, rfl, sq_of hD, _, rfl, ?_⟩
      have eb : (vs.map one1).all id = vs.all one1 := by
        rw [List.all_map]
        rfl
      rw [eb]
      have ha1 := TupF.same k1 ha
      by_cases c : vs.all one1 = true
      · rw [c]
        refine iteF ?_
        dsimp only [tNext, tDrop]
        have em := one1_map c
        have sq1 : SqT K H1 a ((vs.map toS).map V.str) := by rw [← em]; exact ha1.sq
        have lc : (vs.map toS).count ("" : Str) ≤ vs.length := by
          have := List.count_le_length (a := ("" : Str)) (l := vs.map toS)
          rw [List.length_map] at this
          exact this
        have fo : formO (some vs) = decide ((vs.map toS).count ("" : Str) ≤ 8) := by
          show (vs.all one1 && _) = _
          rw [c, Bool.true_and]
        rw [fo] at q
        refine ⟨.ref a, rfl, ⟨a, _, rfl, ha1⟩, a, vs.map toS, "", rfl, rfl, sq1, ?_⟩
        refine ⟨_, rfl, _, _, rfl, rfl, _, rfl, ite2 (fun d => ?_) (fun d => ?_)⟩
        · have d := of_decide_eq_true d
          refine ⟨.ref a, rfl, a, _, rfl, .inr ha1.sq, _, rfl, _, _, rfl, rfl, _, _, rfl, rfl, ?_⟩
          dsimp only
          rw [decide_eq_true (show ((vs.length : Nat) : Int) - (((vs.map toS).count ("" : Str) : Nat) : Int) ≤ 2000 by omega)]
          rw [decide_eq_true (show (vs.map toS).count ("" : Str) ≤ 8 by omega)] at q
          exact q H1 k1
        · have d2 : ¬ (vs.map toS).count ("" : Str) ≤ 8 := fun z => d (decide_eq_true (by omega))
          rw [decide_eq_false d2] at q
          exact q H1 k1
      · have cf : vs.all one1 = false := by simpa using c
        rw [cf]
        have fo : formO (some vs) = false := by
          show (vs.all one1 && _) = _
          rw [cf, Bool.false_and]
        rw [fo] at q
        exact iteT (q H1 k1)
end
end LawK
set_option maxHeartbeats 4000000
namespace LawK
open PySem PySem.Spec PyProof.Rows L2 Ev

open PySem.W
theorem tsI_len {ts : List Str} : (tsI ts).length = ts.count ("" : Str) := by unfold tsI; rw [List.length_map, List.length_range]
theorem tsI_sum {ts : List Str} (h : Rz ts) : ((tsI ts).map fun t => ((t.length : Nat) : Int)).sum + ((ts.count ("" : Str) : Nat) : Int) = ((((List.range (RowI.empt (sZ ts) ts.length)).map fun i => RowI.ml (sZ ts) ts.length i + 1).sum : Nat) : Int) := by
  have one := sZ_one h
  rw [emptZ]
  unfold tsI
  rw [List.map_map]
  have g : ∀ n, n ≤ ts.count ("" : Str) → ((List.range n).map ((fun t : Str => ((t.length : Nat) : Int)) ∘ fun i => SX.S (RowI.txI (sZ ts) ts.length i))).sum + ((n : Nat) : Int) = ((((List.range n).map fun i => RowI.ml (sZ ts) ts.length i + 1).sum : Nat) : Int) := fun n => by
    induction n with
    | zero => exact fun _ => rfl
    | succ n ih =>
      intro hn
      have ih := ih (by omega)
      have l := RowI.txI_len one (i := n) (n := ts.length) (by rw [emptZ]; omega)
      have l2 : (SX.S (RowI.txI (sZ ts) ts.length n)).length = RowI.ml (sZ ts) ts.length n := l
      rw [List.range_succ, List.map_append, List.map_append, List.sum_append, List.sum_append]
      have l3 : ((fun t : Str => ((t.length : Nat) : Int)) ∘ fun i => SX.S (RowI.txI (sZ ts) ts.length i)) n = ((RowI.ml (sZ ts) ts.length n : Nat) : Int) := by
        show (((SX.S (RowI.txI (sZ ts) ts.length n)).length : Nat) : Int) = _
        rw [l2]
      simp only [List.map_cons, List.map_nil, List.sum_cons, List.sum_nil]
      rw [l3]
      omega
  exact g _ (Nat.le_refl _)
theorem tsI_each {ts : List Str} (h : Rz ts) : ∀ t ∈ tsI ts, t.length ≤ 200 := fun t ht => by
  obtain ⟨i, hi, rfl⟩ := List.mem_map.mp ht
  have hi := List.mem_range.mp hi
  have hie : i < RowI.empt (sZ ts) ts.length := by rw [emptZ]; exact hi
  have l : (SX.S (RowI.txI (sZ ts) ts.length i)).length = RowI.ml (sZ ts) ts.length i := RowI.txI_len (sZ_one h) hie
  have := RowI.ml_lt hie
  have := h.len
  omega
def spTextsOfO : Sp := fun vs H Q _ => ∃ (x : V) (o : Option (List V)), vs = [x] ∧ Th H x o ∧ (dueO o = none → ∀ H', Same H H' → Q .non H') ∧ ∀ ts, dueO o = some ts → ∀ b H', Same H H' → H' b = some (.tup (ts.map V.str)) → Q (.ref b) H'
def spIsRowO : Sp := fun vs H Q _ => ∃ (x : V) (o : Option (List V)), vs = [x] ∧ Th H x o ∧ ∀ H', Same H H' → Q (.bl (dueO o).isSome) H'
section
variable {P : Program} {w : World} {K : PySem.W.Frag} {mg : Str → Option Value} {base : Heap}
theorem okz_QTextsOf {f : Addr} {fd : FuncData} (F : Fun K "_texts_of" "_texts_of" sQTextsOf f fd)  {fQHasForm : Addr} {fdQHasForm : FuncData} (DQHasForm : Dk P w K mg base "_has_form" sQHasForm ["thing"] 2 spHasFormO fQHasForm fdQHasForm) {fQSpelled : Addr} {fdQSpelled : FuncData} (DQSpelled : Dk P w K mg base "_spelled" sQSpelled ["row"] 2 spSpelledZ fQSpelled fdQSpelled) (T : Glob mg) : FnOk P w K mg base CX0 3 f fd ["thing"] spTextsOfO := by
  refine F.ok scQTextsOf (fun vs H Q E h => ?_) (fun cdv A outer s H vs Q E hr h => ?_)
  · obtain ⟨x, o, rfl, _⟩ := h
    rfl
  · refine ⟨_, (pss_cons (ps_if (pt_not (pt_val (pe_call DQHasForm.ok (hr.mono (by decide)) (by rfl) DQHasForm.g DQHasForm.F.kp DQHasForm.b .nil pass0 (pa_cons (pv 0) pa_nil))))
      (pss_one (ps_ret pe_non))
      pss_nil)
      (pss_cons (ps_set (i := 1) scQTextsOf.nd rfl (.inl rfl) (pe_call DQSpelled.ok (hr.mono (by decide)) (by rfl) DQSpelled.g DQSpelled.F.kp DQSpelled.b .nil pass0 (pa_cons (pv 0) pa_nil)))
      (pss_cons (ps_if (pt_cmpR op_lt (pe_op op_add (pe_callB (cr_sum rfl) (by rfl) T.sum (by decide +kernel) (pa_cons (pe_lc (own := [("text", 2)]) (g := gName 2) (by rfl) scQTextsOf.nd (pi_tup (pv 1)) (blkOk_by (N := ["thing", "texts", "text"]) (sc := defScope sQTextsOf) (by decide +kernel)) (fun _ _ _ _ _ => pg_name (i := 2) scQTextsOf.nd rfl (.inl rfl)) (fun _ _ _ _ _ => pts_nil) (fun _ _ _ _ _ => (pe_callB call_lenZ (by rfl) T.len PySem.boot_len (pa_cons (pv 2) pa_nil)))) pa_nil)) (pe_callB call_len_seq (by rfl) T.len PySem.boot_len (pa_cons (pv 1) pa_nil))) (pe_callB call_len_seq (by rfl) T.len PySem.boot_len (pa_cons (pv 0) pa_nil)) (nomark _))
      (pss_one (ps_ret pe_non))
      pss_nil)
      (pss_one (ps_ret (pv 1)))))), ?_⟩
    obtain ⟨x, o, rfl, ht, q0, q1⟩ := h
    have sz := sizeLine_eq
    refine ⟨x, rfl, x, o, rfl, ht, fun H1 k1 => ⟨_, rfl, ?_⟩⟩
    have ht1 := ht.same k1
    cases ht1 with
    | @no _ k hk n => exact iteT (q0 rfl H1 k1)
    | @tup a vs ha few hv =>
      by_cases c : formV vs = true
      · have fo : formO (some vs) = true := c
        rw [fo]
        refine iteF ?_
        dsimp only [tNext, tDrop]
        obtain ⟨em, rz⟩ := formV_rz few c
        have haz : RowZ H1 a (vs.map toS) := by
          unfold RowZ
          rw [← em]
          exact ha
        have sm := tsI_sum rz
        have tl := RowI.told_le (s := sZ (vs.map toS)) (n := (vs.map toS).length)
        have ln : (vs.map toS).length = vs.length := List.length_map ..
        have f8 := rz.few
        refine ⟨.ref a, rfl, a, vs.map toS, rfl, haz, rz, fun b H2 k2 hb => ?_⟩
        have k12 := k1.trans k2
        have te := tsI_each rz
        have tn : (tsI (vs.map toS)).length = (vs.map toS).count ("" : Str) := tsI_len
        refine ⟨.ref b, rfl, b, rfl, ⟨_, SqT.of hb⟩, fun D nD => lc_tup (K := K) (xs := (tsI (vs.map toS)).map V.str) (fun i H' => Same H2 H' ∧ H' D = some (.lst ((((tsI (vs.map toS)).take i).map fun t => ((t.length : Nat) : Int)).map V.int))) ⟨Same.new nD, upd_same⟩ (fun i H' _ w => SqT.of (w.1 _ _ hb)) ?_ ?_⟩
        · rintro i y H3 hx ⟨k3, hD⟩
          rw [List.getElem?_map] at hx
          obtain ⟨t, het, rfl⟩ := Option.map_eq_some_iff.mp hx
          have lt := te t (List.mem_of_getElem? het)
          refine ⟨rfl, .str t, rfl, t, rfl, len5 (by omega), _, hD, ?_, sameAt k3 nD, ?_⟩
          · rw [List.length_map, List.length_map, List.length_take]
            omega
          · rw [upd_same, take_snoc het, List.map_append, List.map_append]
            rfl
        rintro H3 ⟨k3, hD⟩
        rw [List.length_map, List.take_length] at hD
        refine ⟨D, _, rfl, sq_of hD, ?_⟩
        refine ⟨.ref b, rfl, b, _, rfl, .inr (SqT.of (k3 _ _ hb)), _, _, rfl, rfl, .ref a, rfl, a, _, rfl, .inr (ha.same (k2.trans k3)).sq, _, _, rfl, rfl, _, rfl, ?_⟩
        rw [List.length_map, tn, sm]
        by_cases t : Tot (vs.map toS)
        · have du : dueO (some vs) = some (tsI (vs.map toS)) := if_pos ⟨c, t⟩
          have t' : _ = (vs.map toS).length := t
          rw [t', ln]
          rw [decide_eq_false (by omega)]
          exact iteF ⟨.ref b, rfl, q1 _ du b H3 (k12.trans k3) (k3 _ _ hb)⟩
        · have du : dueO (some vs) = none := if_neg fun z => t z.2
          have lt : ((List.range (RowI.empt (sZ (vs.map toS)) (vs.map toS).length)).map fun i => RowI.ml (sZ (vs.map toS)) (vs.map toS).length i + 1).sum < vs.length := by
            have : ¬ _ = (vs.map toS).length := t
            omega
          rw [decide_eq_true (show ((((List.range (RowI.empt (sZ (vs.map toS)) (vs.map toS).length)).map fun i => RowI.ml (sZ (vs.map toS)) (vs.map toS).length i + 1).sum : Nat) : Int) < ((vs.length : Nat) : Int) by omega)]
          exact iteT (q0 du H3 (k12.trans k3))
      · have fo : formO (some vs) = false := by
          show formV vs = false
          simpa using c
        have du : dueO (some vs) = none := if_neg fun z => c z.1
        rw [fo]
        exact iteT (q0 du H1 k1)
theorem okz_PIsRow {f : Addr} {fd : FuncData} (F : Fun K "is_row" "is_row" sPIsRow f fd)  {fQTextsOf : Addr} {fdQTextsOf : FuncData} (DQTextsOf : Dk P w K mg base "_texts_of" sQTextsOf ["thing"] 3 spTextsOfO fQTextsOf fdQTextsOf) (T : Glob mg) : FnOk P w K mg base CX0 4 f fd ["thing"] spIsRowO := by
  refine F.ok scPIsRow (fun vs H Q E h => ?_) (fun cdv A outer s H vs Q E hr h => ?_)
  · obtain ⟨x, o, rfl, _⟩ := h
    rfl
  · refine ⟨_, (pss_one (ps_ret (pe_cmpR op_notN (pe_call DQTextsOf.ok (hr.mono (by decide)) (by rfl) DQTextsOf.g DQTextsOf.F.kp DQTextsOf.b .nil pass0 (pa_cons (pv 0) pa_nil)) pe_non (nomark _)))), ?_⟩
    obtain ⟨x, o, rfl, ht, q⟩ := h
    refine ⟨x, rfl, x, o, rfl, ht, fun du H1 k1 => ?_, fun ts du b H1 k1 hb => ?_⟩
    · refine ⟨rfl, ?_⟩
      have := q H1 k1
      rw [du] at this
      exact this
    · refine ⟨rfl, ?_⟩
      have := q H1 k1
      rw [du] at this
      show Q (V.bl (!decide (V.ref b = V.non))) H1
      rw [decide_eq_false (fun z => by cases z)]
      exact this
end
end LawK
set_option maxHeartbeats 4000000
namespace LawK
open PySem PySem.Spec PyProof.Rows L2 Ev PySem.W
theorem lt_congr {tx tx' : Nat → RowM.LN} {p q : Pl} (h1 : tx p.1 = tx' p.1) (h2 : tx q.1 = tx' q.1) (h : RowM.lt tx p q) : RowM.lt tx' p q := by
  unfold RowM.lt RowM.sf at *
  rw [← h1, ← h2]
  exact h
theorem ents_congr {tx tx' : Nat → RowM.LN} {T : Nat} {E : List Pl} (h : RowM.Ents tx T E) (e : ∀ i, i < T → tx i = tx' i) : RowM.Ents tx' T E := by
  have hm := h.mem
  refine ⟨?_, fun p => ?_⟩
  · refine List.pairwise_iff_getElem.mpr fun a b ha hb hab => ?_
    have := List.pairwise_iff_getElem.mp h.asc a b ha hb hab
    exact lt_congr (e _ ((hm _).mp (List.getElem_mem ha)).1) (e _ ((hm _).mp (List.getElem_mem hb)).1) this
  · rw [hm]
    constructor
    · rintro ⟨a, b⟩
      exact ⟨a, by rw [← e _ a]; exact b⟩
    · rintro ⟨a, b⟩
      exact ⟨a, by rw [e _ a]; exact b⟩
theorem tsI_at {zs : List Str} {i : Nat} (h : i < zs.count ("" : Str)) : txc (tsI zs) i = RowI.txI (sZ zs) zs.length i := by
  show cod ((tsI zs).getD i Str.empty) = _
  unfold tsI
  rw [List.getD_eq_getElem?_getD, List.getElem?_map, List.getElem?_range h]
  rfl
/-- a row is told whole just if it is the row of what is told -/
theorem tot_row {zs : List Str} (rz : Rz zs) : Tot zs ↔ rowL (tsI zs) = zs := by
  have one := sZ_one rz
  have em := emptZ zs
  constructor
  · intro t
    have e1 := RowI.entL_ok one t
    rw [em] at e1
    have e2 := ents (tsI zs)
    rw [tsI_len] at e2
    have e3 := ents_congr e2 fun i hi => tsI_at hi
    have e4 : enT (tsI zs) = RowI.entL (sZ zs) zs.length := RowI.ents_one e3 e1
    unfold rowL
    rw [e4]
    unfold RowI.entL
    rw [List.map_map]
    refine List.ext_getElem? fun x => ?_
    rcases Nat.lt_or_ge x zs.length with g | g
    · rw [List.getElem?_map, List.getElem?_range g]
      have sg := RowI.sg_ent one t g
      have mem : RowI.ent (sZ zs) zs.length x ∈ RowI.entL (sZ zs) zs.length := List.mem_map.mpr ⟨x, List.mem_range.mpr g, rfl⟩
      have lt1 := ((e1.mem _).mp mem).1
      show some (SX.S (RowM.sg (txc (tsI zs)) (RowI.ent (sZ zs) zs.length x))) = _
      have e5 : RowM.sg (txc (tsI zs)) (RowI.ent (sZ zs) zs.length x) = RowM.sg (RowI.txI (sZ zs) zs.length) (RowI.ent (sZ zs) zs.length x) := by
        unfold RowM.sg
        rw [tsI_at lt1]
      rw [e5, sg]
      show some (SX.S (cod (rwZ zs x))) = _
      rw [S_eta]
      unfold rwZ
      rw [List.getD_eq_getElem?_getD, List.getElem?_eq_getElem g]
      rfl
    · rw [List.getElem?_eq_none (by rw [List.length_map, List.length_range]; exact g), List.getElem?_eq_none g]
  · intro r
    have a := congrArg List.length r
    rw [row_len, tsI_len] at a
    have b := len_sum (tsI zs)
    have c := tsI_sum rz
    show ((List.range (RowI.empt (sZ zs) zs.length)).map fun i => RowI.ml (sZ zs) zs.length i + 1).sum = zs.length
    omega
/-- where a sign stands: behind all that have none, all less ones, and the like ones ahead -/
theorem pos_split {zs : List Str} {k : Nat} (hk : k < zs.length) (ne : rwZ zs k ≠ ("" : Str)) : posZ zs k = zs.count ("" : Str) + (zs.filter fun z => !decide (z = ("" : Str)) && decide (cod z < cod (rwZ zs k))).length + ((zs.take k).filter fun z => decide (z = rwZ zs k)).length := by
  have gd : ∀ l, l < zs.length → zs[l]? = some (rwZ zs l) := fun l hl => by
    unfold rwZ
    rw [List.getD_eq_getElem?_getD, List.getElem?_eq_getElem hl]
    rfl
  have ez : zs = (List.range zs.length).map (rwZ zs) := by
    refine List.ext_getElem? fun l => ?_
    rcases Nat.lt_or_ge l zs.length with g | g
    · rw [List.getElem?_map, List.getElem?_range g, gd l g]
      rfl
    · rw [List.getElem?_eq_none g, List.getElem?_eq_none (by rw [List.length_map, List.length_range]; exact g)]
  have et : zs.take k = (List.range k).map (rwZ zs) := by
    refine List.ext_getElem? fun l => ?_
    rcases Nat.lt_or_ge l k with g | g
    · rw [List.getElem?_take, if_pos g, List.getElem?_map, List.getElem?_range g, gd l (by omega)]
      rfl
    · rw [List.getElem?_take, if_neg (by omega), List.getElem?_eq_none (by rw [List.length_map, List.length_range]; exact g)]
  have c1 : zs.count ("" : Str) = ((List.range zs.length).filter fun l => decide (rwZ zs l = ("" : Str))).length := by
    conv => lhs; rw [ez]
    exact count_map _ _ _
  have c2 : (zs.filter fun z => !decide (z = ("" : Str)) && decide (cod z < cod (rwZ zs k))).length = ((List.range zs.length).filter fun l => !decide (rwZ zs l = ("" : Str)) && decide (cod (rwZ zs l) < cod (rwZ zs k))).length := by
    conv => lhs; rw [ez]
    rw [List.filter_map, List.length_map]
    congr 1
    refine List.filter_congr fun l _ => ?_
    show (_ && decide (cod (rwZ zs l) < cod (rwZ ((List.range zs.length).map (rwZ zs)) k))) = _
    rw [← ez]
  have c3 : ((zs.take k).filter fun z => decide (z = rwZ zs k)).length = ((List.range zs.length).filter fun l => decide (rwZ zs l = rwZ zs k) && decide (l < k)).length := by
    rw [et, List.filter_map, List.length_map]
    have e : List.range zs.length = List.range k ++ (List.range (zs.length - k)).map (fun x => k + x) := by
      rw [← List.range_add, show k + (zs.length - k) = zs.length by omega]
    rw [e, List.filter_append, List.length_append]
    have z : (((List.range (zs.length - k)).map (fun x => k + x)).filter fun l => decide (rwZ zs l = rwZ zs k) && decide (l < k)) = [] := List.filter_eq_nil_iff.mpr fun l hl y => by
      obtain ⟨x, _, rfl⟩ := List.mem_map.mp hl
      have := of_decide_eq_true (Bool.and_eq_true_iff.mp y).2
      omega
    rw [z, List.length_nil, Nat.add_zero]
    congr 1
    refine List.filter_congr fun l hl => ?_
    rw [decide_eq_true (List.mem_range.mp hl), Bool.and_true]
    rfl
  rw [c1, c2, c3]
  have f1 := RowM.filter_len_or (fun l => decide (rwZ zs l = ("" : Str))) (fun l => !decide (rwZ zs l = ("" : Str)) && decide (cod (rwZ zs l) < cod (rwZ zs k))) (List.range zs.length) fun l _ a b => by
    have a : decide (rwZ zs l = ("" : Str)) = true := a
    rw [a] at b
    cases b
  have f2 := RowM.filter_len_or (fun l => decide (rwZ zs l = ("" : Str)) || (!decide (rwZ zs l = ("" : Str)) && decide (cod (rwZ zs l) < cod (rwZ zs k)))) (fun l => decide (rwZ zs l = rwZ zs k) && decide (l < k)) (List.range zs.length) fun l _ a b => by
    have b := of_decide_eq_true (Bool.and_eq_true_iff.mp b).1
    rw [b] at a
    rw [Bool.or_eq_true, Bool.and_eq_true, decide_eq_true_eq] at a
    rcases a with a | ⟨_, a⟩
    · exact ne a
    · exact RowM.lirr _ (of_decide_eq_true a)
  rw [← f1, ← f2]
  unfold posZ
  refine congrArg List.length (List.filter_congr fun l _ => ?_)
  unfold nlZ RowM.nl
  rw [Bool.eq_iff_iff]
  simp only [Bool.or_eq_true, Bool.and_eq_true, decide_eq_true_eq, Bool.not_eq_true', decide_eq_false_iff_not]
  have i1 : cod (rwZ zs l) = cod (rwZ zs k) ↔ rwZ zs l = rwZ zs k := ⟨cod_inj, fun e => by rw [e]⟩
  rw [i1]
  constructor
  · rintro (h | h)
    · by_cases g : rwZ zs l = ("" : Str)
      · exact .inl (.inl g)
      · exact .inl (.inr ⟨g, h⟩)
    · exact .inr h
  · rintro ((h | h) | h)
    · left
      rw [h]
      exact RowM.nil_lt fun z => ne (cod_inj z)
    · exact .inl h.2
    · exact .inr h
end LawK
set_option maxHeartbeats 4000000
/-! The law's own def, called by the caller of claims alone: what runs around it is known (no repr is under way). -/
namespace Ev
open PySem PySem.Spec PyProof.Rows L2
/-- the def at f keeps sp, called where A runs around it -/
structure FnAt (A : Around) (P : Program) (w : World) (K : PySem.W.Frag) (mg : Str → Option Value) (base : Heap) (CX : CXT) (f : Addr) (fd : FuncData) (ps : List Str) (sp : Sp) : Prop where
  len : ∀ vs H Q E, sp vs H Q E → vs.length = ps.length
  run : ∀ (outer : List Env) (s : Shared) (H : Hp) (args : Args) (us : List Value) (vs : List V) (Q : VK) (E : XK), Env0 P w K mg base A outer s H → BindsTo s fd args (ps.zip us) → Vals vs us → sp vs H Q E →
    codeAny (model P w) A (.call (.ref f) args) (CR CX outer P w H s Q E) s
section
variable {A : Around} {CX : CXT} {P : Program} {w : World} {K : PySem.W.Frag} {mg : Str → Option Value} {base : Heap} {k : Nat}
theorem fun_at {x qual : Str} {st : Stmt} {f : Addr} {fd : FuncData} {N ps : List Str} {sp : Sp} (F : Fun K x qual st f fd) (S : FnScope N ps (defScope st)) (hr : Room (k + 1) A) (len : ∀ vs H Q E, sp vs H Q E → vs.length = ps.length)
    (hbody : ∀ (cdv : Value) (outer : List Env) (s : Shared) (H : Hp) (vs : List V) (Q : VK) (E : XK), Room k (A.deeper (envOfC qual (defScope st) s.heap.objs.size f cdv)) → sp vs H Q E →
      ∃ t, PSs (cxOf CX P w K mg base N qual (defScope st) f cdv A outer s H E).nox (defBody st) t ∧ t { nx := fun _ H' => Q .non H', rt := Q } (start N vs) H) : FnAt A P w K mg base CX f fd ps sp := by
  obtain ⟨oc, od, kV, doc, pm, an, cdv, ct, osl, rfl, lk, hcd⟩ := F.ex
  refine ⟨len, fun outer s H args us vs Q E e0 hb r hsp => ?_⟩
  have lim : s.heap.NoLimit := e0.mod.nolimit.keeps fun b o e => (e0.bs b o e).1
  have KX : K.In s.heap := e0.mod.kin.keeps fun b o e => (e0.bs b o e).1
  have kinds : ∀ y ∈ ps.zip us, (defScope st).names.lookup y.1 = some .local ∨ ((defScope st).names.lookup y.1 = some .cell ∧ ((cellsFrom (s.heap.objs.size + 1) (defScope st).names []).lookup y.1).isSome = true) := by
    rintro ⟨n, v⟩ hy
    exact (S.par n (List.of_mem_zip hy).1).imp id fun q => ⟨q, PySem.W.cellsFrom_some _ _ _ (.inl q)⟩
  refine codeAny_call_function hr.depth (KX _ _ lk) rfl S.co S.gen rfl (PySem.W.codeRec_of KX hcd) (hb _ _ _ _ (wpAny_newFunctionEnv_cells S.kind kinds fun env he s1 x => ?_))
  subst he
  obtain ⟨t, ht, hq⟩ := hbody cdv outer s H vs Q E (hr.deeper _) hsp
  have I := inv_start (CX := CX) (P := P) (w := w) (mg := mg) (base := base) (E := E) S hr.hd e0 (len _ _ _ _ hsp) r x
  refine ⟨lim.keeps x.toInCall.keep, codeAny_func (wpAny_mono (ht.nox.run [] s1 (start N vs) H _ I hq) (fun fl s' hs => ?_) fun e s' hs => hs)⟩
  cases fl with
  | ret u =>
    obtain ⟨v, σ', H', J, rv, q⟩ := hs
    exact ⟨v, H', J.os, J.bare, J.base, J.hok, rv, q⟩
  | next =>
    obtain ⟨σ', H', J, q⟩ := hs
    exact ⟨V.non, H', J.os, J.bare, J.base, J.hok, rfl, q⟩
  | brk => exact hs.elim fun _ z => z.elim fun _ y => y.2.elim
  | cont => exact hs.elim fun _ z => z.elim fun _ y => y.2.elim
end
section
variable {P : Program} {w : World} {K : PySem.W.Frag} {mg mb : Str → Option Value} {fa a : Addr} {fd : FuncData} {x : Str} {sp : Sp} {s₁ : Shared} {vs : List Value} {ns : List Int}
/-- from one abstract heap: nothing is tracked but, perhaps, the script -/
theorem law_at0 {H : Hp} (KX : K.In s₁.heap) (hns : s₁.heap.Ns mainGlobals mg) (hb : s₁.heap.Ns builtinsNs mb) (hbb : ∀ y : Str, y ≠ "__name__" → mb y = bootBuiltins y) (hlim : s₁.heap.NoLimit) (hg : s₁.gens = #[])
    (ha : s₁.heap.get? a = some { cls := .type "list", data := .seq vs.toArray }) (F : ∀ base : Heap, K.In base → base.Ns mainGlobals mg → FnAt callerA P w K mg base CX0 fa fd [x] sp)
    (hbind : ∀ (s : Shared) (u : Value), BindsTo s fd ⟨[u], []⟩ [(x, u)]) (hO : Only H) (hok : HOk P w H s₁.heap) (hA : ∀ b, H b ≠ none → b = a) (hK : H a ≠ none → K.lookup a = none)
    (hsp : sp [.ref a] H (fun v _ => v = .bl true) fun _ _ _ => False) :
    codeAny (model P w) callerA (.call (.ref fa) ⟨[.ref a], []⟩) (fun r s' => r = .ok (.ret (.bool true)) ∧ OldK s₁.heap s'.heap ∧ s'.os = s₁.os ∧ AllBare s'.gens) s₁ := by
  have off : ∀ {b : Addr} {o : Obj}, s₁.heap.get? b = some o → o ≠ { cls := .type "list", data := .seq vs.toArray } → H b = none := fun {b o} e n => by
    refine Classical.byContradiction fun z => n ?_
    have eb := hA b z
    rw [eb, ha] at e
    exact (Option.some.inj e).symm
  have nsK : ∀ {b : Addr} {m : Str → Option Value}, s₁.heap.Ns b m → (hidT s₁.heap H).Ns b m := fun {b m} ⟨o, es, ep, e, d, r⟩ => ⟨o, es, ep, hidT_get e (off e fun z => by rw [z] at d; cases d), d, r⟩
  have hKb : K.In (hidT s₁.heap H) := fun b o e => hidT_get (KX b o e) (Classical.byContradiction fun z => by
    have eb := hA b z
    rw [eb] at e z
    rw [hK z] at e
    cases e)
  have hM : Mod K mg (hidT s₁.heap H) := ⟨hKb, nsK hns, ⟨mb, nsK hb, hbb⟩, hlim.elim fun mc z => ⟨mc, nsK z.1, z.2⟩⟩
  have e0 : Env0 P w K mg (hidT s₁.heap H) callerA [] s₁ H := ⟨rfl, hM, fun b o e => of_hidT e, Nat.le_of_eq (hidT_size _ _), trivial, fun b hb => absurd (show b ∈ ([] : List Addr) from hb) (by simp), hok, .of_eq hg⟩
  refine codeAny_mono ((F _ hKb (nsK hns)).run [] s₁ H ⟨[.ref a], []⟩ [.ref a] [.ref a] _ _ e0 (hbind s₁ (.ref a)) (.cons rfl .nil) hsp) fun r s' h => ?_
  rcases r with e | fl
  · exact False.elim h
  cases fl with
  | next => exact False.elim h
  | brk => exact False.elim h
  | cont => exact False.elim h
  | ret u =>
    obtain ⟨v, H', os, bare, un, hok', r', rfl⟩ := h
    obtain rfl : u = Value.bool true := r'
    refine ⟨rfl, OldK.of_keep fun b o e => ?_, os, bare⟩
    rcases hO b with z | ⟨ob, xs, z⟩
    · exact un.keep b o e z (fun y => absurd (show b ∈ ([] : List Addr) from y) (by simp)) (by simp)
    · have e1 := (hok b _ z).1
      rw [e] at e1
      cases e1
      exact (hok' b _ (un.frzs b _ _ z)).1
theorem law_at (KX : K.In s₁.heap) (hns : s₁.heap.Ns mainGlobals mg) (hb : s₁.heap.Ns builtinsNs mb) (hbb : ∀ y : Str, y ≠ "__name__" → mb y = bootBuiltins y) (hlim : s₁.heap.NoLimit) (hg : s₁.gens = #[])
    (ha : s₁.heap.get? a = some { cls := .type "list", data := .seq vs.toArray }) (hi : IntsAre vs ns) (hl : ns.length ≤ sizeLine)
    (F : ∀ base : Heap, K.In base → base.Ns mainGlobals mg → FnAt callerA P w K mg base CX0 fa fd [x] sp) (hbind : ∀ (s : Shared) (u : Value), BindsTo s fd ⟨[u], []⟩ [(x, u)])
    (hsp : ∀ H : Hp, Only H → SqL K H a (ns.map V.int) → sp [.ref a] H (fun v _ => v = .bl true) fun _ _ _ => False) :
    codeAny (model P w) callerA (.call (.ref fa) ⟨[.ref a], []⟩) (fun r s' => r = .ok (.ret (.bool true)) ∧ OldK s₁.heap s'.heap ∧ s'.os = s₁.os ∧ AllBare s'.gens) s₁ := by
  have rv := vals_ints hi
  cases hk : K.lookup a with
  | some o =>
    have e := KX a o hk
    rw [ha] at e
    cases e
    have hO : Only (fun _ => none) := fun _ => .inl rfl
    exact law_at0 KX hns hb hbb hlim hg ha F hbind hO (fun b u z => by cases z) (fun b z => absurd rfl z) (fun z => absurd rfl z)
      (hsp _ hO (.inr ⟨_, vs.toArray, _, hk, rfl, rfl, rfl, by rw [List.size_toArray, hi.length]; exact hl, by simpa using rv⟩))
  | none =>
    have same : upd (fun _ => none) a (.frz { cls := .type "list", data := .seq vs.toArray } (.lst (ns.map V.int))) a = some (.frz { cls := .type "list", data := .seq vs.toArray } (.lst (ns.map V.int))) := upd_same
    have hO : Only (upd (fun _ => none) a (.frz { cls := .type "list", data := .seq vs.toArray } (.lst (ns.map V.int)))) := fun b => by
      by_cases h : b = a
      · exact .inr ⟨_, _, by rw [h]; exact same⟩
      · exact .inl (by rw [upd_ne h])
    refine law_at0 KX hns hb hbb hlim hg ha F hbind hO (fun b u z => ?_) (fun b z => ?_) (fun _ => hk) (hsp _ hO (.inl (.inr ⟨_, same⟩)))
    · by_cases h : b = a
      · subst h
        rw [same] at z
        cases z
        exact ⟨ha, by rw [List.length_map]; exact hl, vs, _, rv, ha⟩
      · rw [upd_ne h] at z
        cases z
    · exact Classical.byContradiction fun h => z (by rw [upd_ne h])
end
/-- the end of a law's row -/
theorem walk_at {l : PySem.W.OpenLaw} {n : Nat} {q : Program} {loose : List Str} {XP : (Str → Option Value) → Heap → Prop} {YP : World → Heap → Prop} {d : DefRec} {K : Params → PySem.W.Frag} {sp : PySem.W.Frag → Sp} {x : Str}
    (hn : l.most = some n) (hn2 : n ≤ sizeLine) (hdf : d.params.defaults = []) (hY : ∀ (w : World) (h : Heap), YP w h → (K w.params).In h)
    (F : ∀ (w : World) (mg : Str → Option Value) (fa : Addr) (h : Heap), (K w.params).In h → h.Ns mainGlobals mg → mg d.name = some (.ref fa) →
      ∃ fd : FuncData, (∀ (s : Shared) (u : Value), BindsTo s fd ⟨[u], []⟩ [(x, u)]) ∧ ∀ base : Heap, (K w.params).In base → base.Ns mainGlobals mg → FnAt callerA l.prog w (K w.params) mg base CX0 fa fd [x] (sp (K w.params)))
    (hsp : ∀ (K : PySem.W.Frag) (H : Hp) (a : Addr) (ns : List Int), ns.length ≤ n → Only H → SqL K H a (ns.map V.int) → sp K [.ref a] H (fun v _ => v = .bl true) fun _ _ _ => False) :
    PySem.W.WalkO q loose XP YP l.row.toRowW d [] (fun f vs => PySem.call f vs) :=
  Att.attach_call hn hdf fun w s₀ s₁ mg mb fa o pm cd doc a vs ns G Y ho hd hcd hmg hobj hints hlen hg => by
    obtain ⟨fd, hb, hF⟩ := F w mg fa _ (hY w _ Y) G.T.g hmg
    exact law_at (hY w _ Y) G.T.g G.T.b G.T.builtins G.T.nolimit hg hobj hints (Nat.le_trans hlen hn2) hF hb fun H hO hS => hsp _ H a ns hlen hO hS
/-- C() of an own error class without an __init__ of its own -/
theorem pe_excP {X : Cx} {x : Str} {C : Addr} {p pos : Pos} {bmB : List Value} {B newId initId : String} (F : ExcBaseFacts B newId initId bmB) (q : PySem.W.excIn X.K C bmB newId = true) (kC : PySem.W.keepIn X.K (.ref C) = true) (hg : Gl X x) (hm : X.mg x = some (.ref C))
    (hdb : (x == ("__debug__" : Str)) = false := by decide) : PE X (.Call (.Name x p) [] [] pos) (fun _ H Q => ∀ a, H a = none → Q (.ref a) (upd H a (exo a C none))) := by
  refine ⟨fun pins s σ H Q I h => ?_⟩
  refine wpAny_Call_Name_kw (ld_glob I hg hm ?_ hdb)
  refine PySem.W.callWith_K0 I.kIn kC ?_
  show wpAny _ _ (call (.ref C) []) _ _ _
  obtain ⟨bm, N, nm, qn, bs, hdct, sn, sub, ab, col, dd, k0, k1, k2, k3, k5, mN, hC, hN, hni, T⟩ := exc_obj I.kIn q
  refine wpAny_call_exc_subT F T hC hN hni (fun h' a hm => ?_) (by show 0 ≤ sizeLine; decide)
  have hn : H a = none := I.hok.gone hm.new
  obtain ⟨t, ht, _, _⟩ := hm.there
  exact ⟨.ref a, upd H a (exo a C none), I.laidN hm.keeps hm.new hn (exo_ok ht), rfl, h a hn⟩
end Ev
set_option maxHeartbeats 4000000
/-! Objects of an own class, made where the making may raise; == by an own __eq__, with anything. -/
namespace Ev
open PySem PySem.Spec PyProof.Rows L2
section
variable {X : Cx} {CX : CXT} {k : Nat} {f C : Addr} {fd : FuncData} {ps : List Str} {sp : Sp} {x : Str} {p pos : Pos} {e : Expr} {es : List Expr} {t : TA}
theorem run_mkAt {pins : List (Addr × Obj)} {σ : L2.St} {H : Hp} {s : Shared} {Q : VK} {us : List Value} {vs : List V} {E : XK} (M : Mk X.K C f) (F : FnOk X.prog X.w X.K X.mg X.base CX k f fd ps sp) (hr : Room (k + 1) X.A) (hb : Binds X.K fd ps []) (hx : PassesAt CX X σ E) (I : Inv X pins σ H s) (r : Vals vs us)
    (h : ∀ a dx, H a = none → H dx = none → dx ≠ a → sp (.ref a :: vs) (upd (upd H dx (.own a)) a (.ins C dx [])) (fun v H2 => v = .non ∧ Q (.ref a) H2) E) :
    wpAny (model X.prog X.w) X.A (call (.ref C) us) (EP X pins σ Q) X.xe s := by
  have q := h (s.heap.objs.size + 1) s.heap.objs.size (I.hok.fresh (Nat.le_succ _)) (I.hok.fresh (Nat.le_refl _)) (Nat.ne_of_lt (Nat.lt_succ_self _))
  have J := Inv.made (C := C) I
  have rv : Vals (V.ref (s.heap.objs.size + 1) :: vs) (Value.ref (s.heap.objs.size + 1) :: us) := .cons rfl r
  have len := F.len _ _ _ _ q
  have lu : (Value.ref (s.heap.objs.size + 1) :: us ++ []).length = ps.length := by
    rw [List.append_nil, ← rv.length]
    exact len
  have bnd := hb _ (Value.ref (s.heap.objs.size + 1) :: us) J.kIn lu
  rw [List.append_nil] at bnd
  have go := F.run _ X.stack _ _ ⟨Value.ref (s.heap.objs.size + 1) :: us, []⟩ (Value.ref (s.heap.objs.size + 1) :: us) _ _ E (hr.make C us []) (J.env0.make C us []) bnd rv q
  refine wpAny_call (make_map (f := f) I.kIn M.makes M.init (beq_iff_eq.mp M.fn) (codeAny_mono go ?_))
  intro res s' got
  match res, got with
  | .error er, got => exact hx pins _ _ er s' J got
  | .ok (.ret u), got =>
    obtain ⟨v, H', I3, ru, rfl, q3⟩ := J.after got
    exact ⟨ru, ⟨V.ref (s.heap.objs.size + 1), H', I3, rfl, q3⟩⟩
  | .ok .next, got => exact got.elim
  | .ok .brk, got => exact got.elim
  | .ok .cont, got => exact got.elim
def tMkS (C : Addr) (sp : Sp) (E : L2.St → XK) (t : TA) : TE := fun σ H Q => t σ H fun vs H1 => ∀ a dx, H1 a = none → H1 dx = none → dx ≠ a →
  sp (.ref a :: vs) (upd (upd H1 dx (.own a)) a (.ins C dx [])) (fun v H2 => v = .non ∧ Q (.ref a) H2) (E σ)
theorem pe_mkS {E : L2.St → XK} (M : Mk X.K C f) (F : FnOk X.prog X.w X.K X.mg X.base CX k f fd ps sp) (hr : Room (k + 1) X.A) (hg : Gl X x) (hm : X.mg x = some (.ref C)) (hb : Binds X.K fd ps []) (hx : ∀ σ, PassesAt CX X σ (E σ)) (ha : PA X (e :: es) t)
    (hdb : (x == ("__debug__" : Str)) = false := by decide) (he : starEach (e :: es) X.env = (false, eval e X.env) :: starEach es X.env := by rfl) (hpl : (backTo pos (starEach es X.env)).any (·.1) = false := by rfl) :
    PE X (.Call (.Name x p) (e :: es) [] pos) (tMkS C sp E t) := by
  constructor
  intro pins s σ H Q I h
  refine wpAny_Call_Name_kw (ld_glob I hg hm ?_ hdb)
  refine PySem.W.callWith_K (h₀ := X.base) I.ok.mod.kin M.kp (thn (ha.run pos pins s σ H _ I h) ?_) he hpl
  rintro us s1 ⟨vs, H1, I1, r, q⟩
  exact ⟨I1.kIn, run_mkAt M F hr hb (hx σ) I1 r q⟩
theorem passL_at (σ : L2.St) : PassesAt (L2.CX X.prog X.w) X σ E0 := fun pins H s e s' I h => passL pins σ H s e s' I h
/-- x == y, x an object of the class at C -/
def rEqO (C : Addr) (K : PySem.W.Frag) (sp : Sp) (E : XK) : R2 := fun x y H Q => ∃ a dx fs t, x = .ref a ∧ H a = some (.ins C dx fs) ∧ TyX K H y t ∧ PySem.W.notFirst K C t = true ∧ sp [x, y] H (fun v H' => (∃ b, v = .bl b) ∧ Q v H') E
theorem op_eqO {E : XK} (F : FnOk X.prog X.w X.K X.mg X.base CX k f fd ps sp) (hs : PySem.W.findIn X.K (.ref C) "__eq__" = some (some (.ref f))) (hf : PySem.W.isFn X.K (.ref f) = true) (hb : Binds X.K fd ps []) (hx : Passes CX X E) (hr : Room k X.A) : OpR X (compareOp .Eq) (rEqO C X.K sp E) := by
  intro pins s σ H x y v u Q I rx ry h
  obtain ⟨a, dx, fs, t, rfl, ha, ty, nf, q⟩ := h
  cases rx
  obtain ⟨mA, J, _⟩ := ins_get I.hok ha
  obtain ⟨od, J, _⟩ := J.look
  obtain ⟨m, hF⟩ := I.fr
  obtain ⟨P, Z, hp, _⟩ := kit_of I ry ty
  show wpAny (model X.prog X.w) X.A (richCompare .Eq _ u) (EP X pins σ Q) X.xe s
  refine PySem.W.cmp_K (op := .Eq) (tb := t) hr.units0 hF I.ok.mod.kin J (Z.ty _ _ I.kIn hp) nf hs hf ?_
  have len := F.len _ _ _ _ q
  have rv : Vals [V.ref a, y] [Value.ref a, u] := .cons rfl (.cons ry .nil)
  have bnd := hb s [Value.ref a, u] I.kIn (by simpa using len)
  have go := F.run X.A X.stack s H ⟨[Value.ref a, u], []⟩ [Value.ref a, u] [V.ref a, y] _ E hr I.env0 (by simpa using bnd) rv q
  refine wpAny_call (codeAny_mono go ?_)
  intro res s' got
  match res, got with
  | .error er, got => exact hx pins σ H s er s' I got
  | .ok (.ret w), got =>
    obtain ⟨z, H', I', rz, ⟨b, rfl⟩, q'⟩ := I.after got
    cases rz
    exact ⟨.bl b, H', I', rfl, q'⟩
  | .ok .next, got => exact got.elim
  | .ok .brk, got => exact got.elim
  | .ok .cont, got => exact got.elim
end
end Ev
set_option maxHeartbeats 4000000
/-! Tuples of texts as data. -/
namespace Ev
open PySem PySem.Spec PyProof.Rows L2
theorem dp_strs {K : PySem.W.Frag} {H : Hp} : ∀ ts : List Str, DpAll K H (ts.map V.str) (ts.map PyData.str)
  | [] => .nil
  | t :: ts => .cons (.str t) (dp_strs ts)
theorem eqv_strs : ∀ ts us : List Str, PyData.eqvAll (ts.map PyData.str) (us.map PyData.str) = decide (ts = us)
  | [], [] => by rw [decide_eq_true rfl]; rfl
  | [], u :: us => by rw [decide_eq_false (by simp)]; rfl
  | t :: ts, [] => by rw [decide_eq_false (by simp)]; rfl
  | t :: ts, u :: us => by
    show (PyData.eqv (.str t) (.str u) && PyData.eqvAll (ts.map PyData.str) (us.map PyData.str)) = _
    rw [eqv_strs ts us]
    show ((t == u) && _) = _
    by_cases e : t = u
    · subst e
      by_cases e2 : ts = us
      · subst e2
        simp
      · simp [e2]
    · have : (t == u) = false := by simpa using e
      rw [this, Bool.false_and, decide_eq_false fun z => e (by injection z)]
theorem strOk_sg {t : Str} (h : sgB t = true) : PyData.strOk t = true := by
  have g : ∀ c ∈ t.cps.toList, c ≤ 126 := fun c hc => by
    have := sgB_mem h hc
    unfold sgC at this
    exact of_decide_eq_true (Bool.and_eq_true_iff.mp this).2
  show t.cps.all (· < 0x110000) = true
  rw [← Array.all_toList, List.all_eq_true]
  intro c hc
  have := g c hc
  exact decide_eq_true (by omega)
theorem shaped_strs {ts : List Str} (h : ∀ t ∈ ts, sgB t = true) : SeqAt.shaped (.tuple (ts.map PyData.str)) = true := by
  have h1 : ∀ us : List Str, (∀ t ∈ us, sgB t = true) → PyData.canLayAll0 (us.map PyData.str) = true := fun us hu => by
    induction us with
    | nil => rfl
    | cons u us ih =>
      show (PyData.strOk u && PyData.canLayAll0 (us.map PyData.str)) = true
      rw [strOk_sg (hu u (by simp)), ih fun t ht => hu t (List.mem_cons_of_mem _ ht)]
      rfl
  have h2 : ∀ us : List Str, PyData.depthAll (us.map PyData.str) ≤ 1 := fun us => by
    induction us with
    | nil => exact Nat.zero_le _
    | cons u us ih =>
      simp only [List.map_cons, PyData.depthAll, PyData.depth]
      omega
  unfold SeqAt.shaped
  have a : (PyData.tuple (ts.map PyData.str)).canLay0 = true := h1 ts h
  have b : (PyData.tuple (ts.map PyData.str)).depth ≤ 64 := by
    have := h2 ts
    simp only [PyData.depth]
    omega
  rw [a, decide_eq_true b]
  rfl
end Ev
set_option maxHeartbeats 4000000
namespace LawK
open PySem PySem.Spec PyProof.Rows L2 Ev
abbrev sLEq : Stmt := inClass (topS 15) 1
theorem scLEq : FnScope ["self", "other"] ["self", "other"] (defScope sLEq) := ⟨rfl, rfl, rfl, by decide +kernel, rfl, by decide +kernel, by decide +kernel⟩
/-- what else of the class of libraries the law asks for -/
structure LibE (K : PySem.W.Frag) (mg : Str → Option Value) (C fE : Addr) (fdE : FuncData) : Prop where
  eq : PySem.W.findIn K (.ref C) "__eq__" = some (some (.ref fE))
  fnE : PySem.W.isFn K (.ref fE) = true
  ha : PySem.W.findIn K (.ref C) "__class__" = some (some (.builtin "object.__class__"))
  hn : PySem.W.specialIn K (.builtin "object.__class__") "__get__" = some (some (.builtin "getset_descriptor.__get__"))
  ht : PySem.W.takesIn K (.builtin "object.__class__") = some true
  hm : PySem.W.mroIn K C (.type "object") = some true
  kyes : PySem.W.kitOne K (.ref C) (.ref C) = some true
  nfo : PySem.W.notFirst K C (.ref C) = true
  FE : Fun K "__eq__" "Library.__eq__" sLEq fE fdE
  bE : Binds K fdE ["self", "other"] []
theorem lib_new {H3 H4 : Hp} {C b s dx : Addr} {ts : List Str} (ht : TsAt H3 b ts) (ns : H3 s = none) (ndx : H3 dx = none) (ndxs : dx ≠ s)
    (ha : H4 s = some (.ins C dx [("texts", .ref b)])) (ho : ∀ c u, c ≠ s → upd (upd H3 dx (.own s)) s (.ins C dx []) c = some u → H4 c = some u) : Same H3 H4 ∧ LibAt H4 C s ts := by
  have ka := Same.new (o := .own s) ndx
  have ns2 : upd H3 dx (.own s) s = none := by
    rw [upd_ne (Ne.symm ndxs)]
    exact ns
  have kb := ka.trans (Same.new (o := .ins C dx []) ns2)
  have k4 : Same H3 H4 := fun c u hc => ho c u (ne_of_none (ka _ _ hc) ns2) (kb _ _ hc)
  exact ⟨k4, ⟨dx, b, ha, k4 _ _ ht.at_⟩, ht.few, ht.sg, ht.len⟩
theorem lib_in {H3 : Hp} {C b s dx : Addr} {ts : List Str} (ht : TsAt H3 b ts) (ns : H3 s = none) (ndx : H3 dx = none) (ndxs : dx ≠ s) : upd (upd H3 dx (.own s)) s (.ins C dx []) b = some (.tup (ts.map V.str)) := by
  have ka := Same.new (o := .own s) ndx
  have ns2 : upd H3 dx (.own s) s = none := by
    rw [upd_ne (Ne.symm ndxs)]
    exact ns
  exact (ka.trans (Same.new (o := .ins C dx []) ns2)) _ _ ht.at_
theorem LibAt.but {H H' : Hp} {C s p l : Addr} {ts : List Str} (h : LibAt H C s ts) (hp : HandL H p l) (b : But p H H') : LibAt H' C s ts := by
  obtain ⟨⟨dx, a, h1, h2⟩, h3, h4, h5⟩ := h
  exact ⟨⟨dx, a, b _ _ (hand_ne hp h1 fun _ _ _ _ _ z => by cases z) h1, b _ _ (tup_ne hp h2) h2⟩, h3, h4, h5⟩

theorem Rw.at {H : Hp} {a : Addr} {ts : List Str} (r : Rw ts) (h : H a = some (.tup (ts.map V.str))) : TsAt H a ts := ⟨h, r.few, r.sg, r.len⟩
theorem LibAt.rw {H : Hp} {C s : Addr} {ts : List Str} (h : LibAt H C s ts) : Rw ts := ⟨h.few, h.sg, h.len⟩
def spLEq (C : Addr) : Sp := fun vs H Q _ => ∃ (s b : Addr) (ts us : List Str), vs = [.ref s, .ref b] ∧ LibAt H C s ts ∧ LibAt H C b us ∧ Q (.bl (decide (ts = us))) H
def spToldBack (C : Addr) : Sp := fun vs H Q _ => ∃ (a : Addr) (ts : List Str), vs = [.ref a] ∧ RowAt H a ts ∧ Rw ts ∧ ∀ s H', Same H H' → LibAt H' C s ts → Q (.ref s) H'
def spPLeads : Sp := fun vs H Q _ => ∃ (a : Addr) (ts : List Str), vs = [.ref a] ∧ RowAt H a ts ∧ Rw ts ∧ ∀ b H', Same H H' → H' b = some (.tup (ledL ts (nR ts))) → Q (.ref b) H'
section
variable {P : Program} {w : World} {K : PySem.W.Frag} {mg : Str → Option Value} {base : Heap}
variable {C fI : Addr} {fdI : FuncData}
variable {fE : Addr} {fdE : FuncData}
theorem ok_LEq (L : LibC K mg C fI fdI) (LE : LibE K mg C fE fdE) (T : Glob mg) : FnOk P w K mg base CX0 2 fE fdE ["self", "other"] (spLEq C) := by
  refine LE.FE.ok scLEq (fun vs H Q E h => ?_) (fun cdv A outer s H vs Q E hr h => ?_)
  · obtain ⟨s, b, ts, us, rfl, _⟩ := h
    rfl
  · obtain ⟨p, b, ts, us, rfl, hl, hb, q⟩ := h
    refine ⟨_, (pss_one (ps_ret (pe_and (pe_callB call_isi (by rfl) T.isinstance PyProof.Rows.boot_isinstance (pa_cons (pv 1) (pa_cons (pe_glob (v := .ref C) (by rfl) L.g rfl) pa_nil))) (pe_one (pe_cmpR (op_eqD hr.units) (pe_fld (pv 0) rfl) (pe_fld (pv 1) rfl) (nomark _)))))), ?_⟩
    obtain ⟨⟨dx, a, h1, h2⟩, _, sg1, _⟩ := hl
    obtain ⟨⟨dy, a2, h3, h4⟩, _, sg2, _⟩ := hb
    refine ⟨.ref b, rfl, .ref b, .ref C, .ref C, .ref C, true, rfl, .own C, .base (.ins h3 L.cl LE.ha LE.hn LE.ht LE.hm), LE.kyes, _, rfl, iteT ?_⟩
    refine ⟨.ref p, rfl, p, C, dx, _, .ref a, rfl, h1, L.cl, L.nt, lk1, .ref b, rfl, b, C, dy, _, .ref a2, rfl, h3, L.cl, L.nt, lk1, .tuple (ts.map PyData.str), .tuple (us.map PyData.str), .tup (SqT.of h2) (dp_strs ts), .tup (SqT.of h4) (dp_strs us), shaped_strs sg1, shaped_strs sg2, ?_⟩
    have e : PyData.eqv (.tuple (ts.map PyData.str)) (.tuple (us.map PyData.str)) = decide (ts = us) := eqv_strs ts us
    rw [e]
    exact q
abbrev sPToldBack : Stmt := topS 22
theorem scPToldBack : FnScope ["row", "texts"] ["row"] (defScope sPToldBack) := ⟨rfl, rfl, rfl, by decide +kernel, rfl, by decide +kernel, by decide +kernel⟩
theorem ok_PToldBack {f : Addr} {fd : FuncData} (F : Fun K "told_back" "told_back" sPToldBack f fd) (L : LibC K mg C fI fdI) (GI : FnOk P w K mg base (L2.CX P w) 4 fI fdI ["self", "texts"] (spLInit C)) {fQTextsOf : Addr} {fdQTextsOf : FuncData} (DQTextsOf : Dk P w K mg base "_texts_of" sQTextsOf ["thing"] 3 spTextsOf fQTextsOf fdQTextsOf) (T : Glob mg) : FnOk P w K mg base CX0 6 f fd ["row"] (spToldBack C) := by
  refine F.ok scPToldBack (fun vs H Q E h => ?_) (fun cdv A outer s H vs Q E hr h => ?_)
  · obtain ⟨a, ts, rfl, _⟩ := h
    rfl
  · refine ⟨_, (pss_cons (ps_set (i := 1) scPToldBack.nd rfl (.inl rfl) (pe_call DQTextsOf.ok (hr.mono (by decide)) (by rfl) DQTextsOf.g DQTextsOf.F.kp DQTextsOf.b .nil pass0 (pa_cons (pv 0) pa_nil)))
      (pss_cons (ps_if (pt_cmpR op_isN (pv 1) pe_non (nomark _))
      (pss_one ps_dead)
      pss_nil)
      (pss_one (ps_ret (pe_mkS (E := fun _ => E0) L.mak GI (hr.mono (by decide)) (by rfl) L.g L.bI (fun σ => passL_at σ) (pa_cons (pv 1) pa_nil)))))), ?_⟩
    obtain ⟨a, ts, rfl, ha, hr0, q⟩ := h
    refine ⟨.ref a, rfl, a, ts, rfl, ha, hr0, fun b H1 k1 hb => ?_⟩
    have ht := hr0.at hb
    refine ⟨.ref b, rfl, rfl, _, rfl, iteF ?_⟩
    dsimp only [tNext, tDrop]
    refine ⟨.ref b, rfl, fun s dx ns' ndx ndxs => ?_⟩
    refine ⟨s, dx, b, ts, rfl, upd_same, lib_in ht ns' ndx ndxs, ht.few, ht.sg, ht.len, fun H5 ha5 ho5 => ⟨rfl, ?_⟩⟩
    obtain ⟨k5, hL⟩ := lib_new ht ns' ndx ndxs ha5 ho5
    exact q s H5 (k1.trans k5) hL
abbrev sPLeads : Stmt := topS 23
theorem scPLeads : FnScope ["row"] ["row"] (defScope sPLeads) := ⟨rfl, rfl, rfl, by decide +kernel, rfl, by decide +kernel, by decide +kernel⟩
theorem ok_PLeads {f : Addr} {fd : FuncData} (F : Fun K "leads" "leads" sPLeads f fd)  {fPRowLeads : Addr} {fdPRowLeads : FuncData} (DPRowLeads : Dk P w K mg base "row_leads" sPRowLeads ["row"] 1 spLeads fPRowLeads fdPRowLeads) {fPIsRow : Addr} {fdPIsRow : FuncData} (DPIsRow : Dk P w K mg base "is_row" sPIsRow ["thing"] 4 spIsRow fPIsRow fdPIsRow) (T : Glob mg) : FnOk P w K mg base CX0 5 f fd ["row"] spPLeads := by
  refine F.ok scPLeads (fun vs H Q E h => ?_) (fun cdv A outer s H vs Q E hr h => ?_)
  · obtain ⟨a, ts, rfl, _⟩ := h
    rfl
  · refine ⟨_, (pss_cons (ps_if (pt_not (pt_val (pe_call DPIsRow.ok (hr.mono (by decide)) (by rfl) DPIsRow.g DPIsRow.F.kp DPIsRow.b .nil pass0 (pa_cons (pv 0) pa_nil))))
      (pss_one ps_dead)
      pss_nil)
      (pss_one (ps_ret (pe_callTy call_tuple_of (by rfl) T.tuple (by decide +kernel) (pa_cons (pe_call DPRowLeads.ok (hr.mono (by decide)) (by rfl) DPRowLeads.g DPRowLeads.F.kp DPRowLeads.b .nil pass0 (pa_cons (pv 0) pa_nil)) pa_nil))))), ?_⟩
    obtain ⟨a, ts, rfl, ha, hr0, q⟩ := h
    refine ⟨.ref a, rfl, a, ts, rfl, ha, hr0, fun H1 k1 => ⟨_, rfl, iteF ?_⟩⟩
    dsimp only [tNext, tDrop]
    refine ⟨.ref a, rfl, a, ts, rfl, ha.same k1, hr0, fun b H2 k2 nb hb => ⟨b, _, rfl, .inl ⟨sq_of hb, fun t nt => q t _ ((k1.trans k2).trans (Same.new nt)) upd_same⟩⟩⟩
end
end LawK
set_option maxHeartbeats 4000000
namespace LawK
open PySem PySem.Spec PyProof.Rows L2 Ev

def spLText : Sp := fun vs H Q _ => ∃ (p : Addr) (m : Int), vs = [.ref p, .int m] ∧ 0 ≤ m ∧ m ≤ 200 ∧ ∃ l, HandL H p l ∧ ∀ y H', sgB y = true → (y.length : Int) ≤ m → HandL H' p l → But p H H' → Q (.str y) H'
def spLTexts : Sp := fun vs H Q _ => ∃ (p : Addr) (m : Int), vs = [.ref p, .int m] ∧ 0 ≤ m ∧ m ≤ 200 ∧ ∃ l, HandL H p l ∧ ∀ a ts H', TsAt H' a ts → (∀ t ∈ ts, (t.length : Int) ≤ m) → HandL H' p l → But p H H' → Q (.ref a) H'
theorem tsAt_ne {H : Hp} {p l a : Addr} {ts : List Str} (h : HandL H p l) (k : TsAt H a ts) : a ≠ p := fun e => by
  obtain ⟨cells, i, r, s, n, hp, _⟩ := h
  have := k.at_
  rw [e, hp] at this
  cases this
theorem TsAt.but {H H' : Hp} {p l a : Addr} {ts : List Str} (k : TsAt H a ts) (h : HandL H p l) (b : But p H H') : TsAt H' a ts := ⟨b _ _ (tsAt_ne h k) k.at_, k.few, k.sg, k.len⟩
section
variable {P : Program} {w : World} {K : PySem.W.Frag} {mg : Str → Option Value} {base : Heap}
abbrev sText : Stmt := topS 34
theorem scText : FnScope ["hand", "most", "signs", "text", "many", "turn", "at"] ["hand", "most"] (defScope sText) := ⟨rfl, rfl, rfl, by decide +kernel, rfl, by decide +kernel, by decide +kernel⟩
theorem ok_Text {f : Addr} {fd : FuncData} (F : Fun K "_law_text" "_law_text" sText f fd)  {fDraw : Addr} {fdDraw : FuncData} (DDraw : Dk P w K mg base "_law_draw" sDraw ["hand", "many"] 1 spDraw fDraw fdDraw) (T : Glob mg) : FnOk P w K mg base CX0 2 f fd ["hand", "most"] spLText := by
  refine F.ok scText (fun vs H Q E h => ?_) (fun cdv A outer s H vs Q E hr h => ?_)
  · obtain ⟨p, m, rfl, _⟩ := h
    rfl
  · refine ⟨_, (pss_cons (ps_set (i := 2) scText.nd rfl (.inl rfl) (pe_ix ix_list (pe_lst (pa_cons pe_str (pa_cons pe_str (pa_cons pe_str (pa_cons pe_str (pa_cons pe_str (pa_cons pe_str (pa_cons pe_str pa_nil)))))))) (pe_call DDraw.ok (hr.mono (by decide)) (by rfl) DDraw.g DDraw.F.kp DDraw.b .nil pass0 (pa_cons (pv 0) (pa_cons pe_int pa_nil))) (fun _ _ => rfl)))
      (pss_cons (ps_set (i := 3) scText.nd rfl (.inl rfl) pe_str)
      (pss_cons (ps_set (i := 4) scText.nd rfl (.inl rfl) (pe_call DDraw.ok (hr.mono (by decide)) (by rfl) DDraw.g DDraw.F.kp DDraw.b .nil pass0 (pa_cons (pv 0) (pa_cons (pe_op op_add (pv 1) pe_int) pa_nil))))
      (pss_cons (ps_for PassesOwn.never rfl (pi_range1 (by rfl) T.range (pa_cons (pe_op op_add (pv 1) pe_int) pa_nil)) (pg_name (i := 5) scText.nd rfl (.inl rfl))
      (pss_one (ps_if (pt_cmpR op_lt (pe_callB call_lenZ (by rfl) T.len PySem.boot_len (pa_cons (pv 3) pa_nil)) (pv 4) (nomark _))
        (pss_one (ps_if (PW.pt (pw_and (pt_cmpR op_gt (pe_callB call_lenZ (by rfl) T.len PySem.boot_len (pa_cons (pv 3) pa_nil)) pe_int (nomark _)) (pw_and1 (pt_cmpR op_eq (pe_call DDraw.ok (hr.mono (by decide)) (by rfl) DDraw.g DDraw.F.kp DDraw.b .nil pass0 (pa_cons (pv 0) (pa_cons pe_int pa_nil))) pe_int (nomark _)))))
          (pss_cons (ps_set (i := 6) scText.nd rfl (.inl rfl) (pe_call DDraw.ok (hr.mono (by decide)) (by rfl) DDraw.g DDraw.F.kp DDraw.b .nil pass0 (pa_cons (pv 0) (pa_cons (pe_callB call_lenZ (by rfl) T.len PySem.boot_len (pa_cons (pv 3) pa_nil)) pa_nil))))
            (pss_one (ps_set (i := 3) scText.nd rfl (.inl rfl) (pe_op op_add_str (pv 3) (pe_slice sl_str (pv 3) (po_some (pv 6)) (po_some (pe_op op_add (pe_op op_add (pv 6) pe_int) (pe_call DDraw.ok (hr.mono (by decide)) (by rfl) DDraw.g DDraw.F.kp DDraw.b .nil pass0 (pa_cons (pv 0) (pa_cons pe_int pa_nil))))))))))
          (pss_one (ps_set (i := 3) scText.nd rfl (.inl rfl) (pe_op op_add_str (pv 3) (pe_ix ix_str (pv 2) (pe_call DDraw.ok (hr.mono (by decide)) (by rfl) DDraw.g DDraw.F.kp DDraw.b .nil pass0 (pa_cons (pv 0) (pa_cons (pe_callB call_lenZ (by rfl) T.len PySem.boot_len (pa_cons (pv 2) pa_nil)) pa_nil))) (fun _ _ => rfl)))))))
        pss_nil)))
      (pss_one (ps_ret (pe_slice sl_str (pv 3) po_none (po_some (pv 4))))))))), ?_⟩
    obtain ⟨p, m, rfl, m0, m1, lh, hH, q⟩ := h
    refine ⟨by show 7 ≤ sizeLine; decide, fun a na => ?_⟩
    have h1 := hH.same (Same.new (o := .lst [V.str "ab", .str "ab", .str "abc", .str "a", .str "abcdefgh", .str " a~", .str "01 "]) na)
    have b1 := But.same (p := p) (Same.new (H := H) (o := .lst [V.str "ab", .str "ab", .str "abc", .str "a", .str "abcdefgh", .str " a~", .str "01 "]) na)
    have hA : upd H a (.lst [V.str "ab", .str "ab", .str "abc", .str "a", .str "abcdefgh", .str " a~", .str "01 "]) a = some (.lst [V.str "ab", .str "ab", .str "abc", .str "a", .str "abcdefgh", .str " a~", .str "01 "]) := upd_same
    have nap := (hH.ne na).1
    revert h1 b1 hA
    generalize upd H a (.lst [V.str "ab", .str "ab", .str "abc", .str "a", .str "abcdefgh", .str " a~", .str "01 "]) = H1
    intro h1 b1 hA
    refine ⟨.ref p, rfl, p, 7, rfl, by decide, by decide, lh, h1, fun v H2 v0 v1 h2 b2 => ?_⟩
    obtain ⟨x, ex, hx⟩ := atI_in (xs := [V.str "ab", .str "ab", .str "abc", .str "a", .str "abcdefgh", .str " a~", .str "01 "]) v0 v1
    obtain ⟨z, rfl, wz⟩ : ∃ z : Str, x = .str z ∧ sgB z = true ∧ 0 < z.length ∧ z.length ≤ 100 := by
      simp only [List.mem_cons, List.not_mem_nil, or_false] at hx
      rcases hx with e | e | e | e | e | e | e
      all_goals exact ⟨_, e, by decide +kernel, by decide +kernel, by decide +kernel⟩
    refine ⟨a, _, v, _, rfl, rfl, sq_of (b2 _ _ nap hA), ex, ?_⟩
    have b12 := b1.trans b2
    refine ⟨.ref p, rfl, .int m, rfl, _, _, rfl, rfl, p, m + 1, rfl, by omega, by omega, lh, h2, fun n H3 n0 n1 h3 b3 => ?_⟩
    have b13 := b12.trans b3
    refine ⟨.int m, rfl, _, _, rfl, rfl, m + 1, rfl, by omega, by omega, for_range (fun i σ H' => ∃ (y : Str) (u1 u2 : Option V), σ = [some (.ref p), some (.int m), some (.str z), some (.str y), some (.int n), u1, u2] ∧ sgB y = true ∧ y.length ≤ 220 ∧ Hn p lh H3 H') ⟨_, none, none, rfl, rfl, by decide +kernel, Hn.refl h3⟩ ?_ ?_⟩
    · rintro i σ H4 hi ⟨y, u1, u2, rfl, sy, ly, hn⟩
      refine ⟨.str y, rfl, y, rfl, len5 (by omega), .int n, rfl, _, _, rfl, rfl, _, rfl, ite2 (fun e => ?_) (fun e => ?_)⟩
      · have lt := of_decide_eq_true e
        refine (?_ : ∀ Q : Bool → Hp → Prop, (∀ b H5, Hn p lh H3 H5 → (b = true → 0 < y.length) → Q b H5) → tAnd _ _ _ H4 Q) _ ?_
        · intro Q0 k0
          refine ⟨.str y, rfl, y, rfl, len5 (by omega), _, _, rfl, rfl, _, rfl, ite2 (fun e => ?_) (fun e => k0 _ _ hn (fun w => Bool.noConfusion w))⟩
          have ly0 := of_decide_eq_true e
          exact ⟨.ref p, rfl, p, 4, rfl, by decide, by decide, lh, hn.at_, fun u H5 w0 w1 h5 b5 => ⟨rfl, _, rfl, k0 _ _ (hn.go h5 b5) (fun _ => by omega)⟩⟩
        · intro b H5 hn5 hb
          cases b with
          | true =>
            have ly0 := hb rfl
            refine iteT ⟨.ref p, rfl, .str y, rfl, y, rfl, len5 (by omega), p, (y.length : Int), rfl, by omega, by omega, lh, hn5.at_, fun u H6 w0 w1 h6 b6 => ?_⟩
            have hn6 := hn5.go h6 b6
            refine ⟨.str y, rfl, .str y, rfl, .int u, rfl, u, rfl, .int u, rfl, _, _, rfl, rfl, .ref p, rfl, p, 6, rfl, by decide, by decide, lh, hn6.at_, fun x H7 x0 x1 h7 b7 => ?_⟩
            have hn7 := hn6.go h7 b7
            have cc := cut_lohi (z := y) (b := u) (e := u + 1 + x) w0 (by omega)
            refine ⟨_, _, rfl, rfl, u + 1 + x, rfl, y, rfl, len5 (by omega), y, cutS y (some u) (some (u + 1 + x)), rfl, rfl, ?_, ?_⟩
            · rw [sizeLine_eq]
              omega
            · exact ⟨_, _, _, rfl, sgB_app sy (sgB_cut sy _ _), by rw [app_len]; omega, hn7⟩
          | false =>
            refine iteF ?_
            refine ⟨.str y, rfl, .str z, rfl, .ref p, rfl, .str z, rfl, z, rfl, len6 wz.2.2, p, (z.length : Int), rfl, by omega, by omega, lh, hn5.at_, fun u H6 w0 w1 h6 b6 => ?_⟩
            obtain ⟨c, ec, hc⟩ := sg_at wz.1 w0 w1
            have so : sgB (SX.S [c]) = true := by rw [sgB_S]; exact List.all_eq_true.mpr fun d hd => by rw [List.mem_singleton.mp hd]; exact hc
            have l1 : (SX.S [c]).length = 1 := rfl
            refine ⟨z, u, c, rfl, rfl, len6 wz.2.2, ec, y, SX.S [c], rfl, rfl, ?_, ?_⟩
            · rw [sizeLine_eq]
              omega
            · exact ⟨_, _, _, rfl, sgB_app sy so, by rw [app_len]; omega, hn5.go h6 b6⟩
      · exact ⟨y, _, _, rfl, sy, ly, hn⟩
    · rintro σ H4 ⟨y, u1, u2, rfl, sy, ly, hn⟩
      have c1 := cut_hi (z := y) (lo := none) (u := n) (by omega)
      exact ⟨.str y, rfl, .int n, rfl, n, rfl, y, rfl, len5 (by omega), q _ H4 (sgB_cut sy _ _) (by omega) hn.at_ (b13.trans hn.but)⟩
abbrev sTexts : Stmt := topS 35
theorem scTexts : FnScope ["hand", "most", "many", "found", "turn"] ["hand", "most"] (defScope sTexts) := ⟨rfl, rfl, rfl, by decide +kernel, rfl, by decide +kernel, by decide +kernel⟩
theorem ok_Texts {f : Addr} {fd : FuncData} (F : Fun K "_law_texts" "_law_texts" sTexts f fd)  {fDraw : Addr} {fdDraw : FuncData} (DDraw : Dk P w K mg base "_law_draw" sDraw ["hand", "many"] 1 spDraw fDraw fdDraw) {fText : Addr} {fdText : FuncData} (DText : Dk P w K mg base "_law_text" sText ["hand", "most"] 2 spLText fText fdText) (T : Glob mg) : FnOk P w K mg base CX0 3 f fd ["hand", "most"] spLTexts := by
  refine F.ok scTexts (fun vs H Q E h => ?_) (fun cdv A outer s H vs Q E hr h => ?_)
  · obtain ⟨p, m, rfl, _⟩ := h
    rfl
  · refine ⟨_, (pss_cons (ps_set (i := 2) scTexts.nd rfl (.inl rfl) (pe_ix ix_list (pe_lst (pa_cons pe_int (pa_cons pe_int (pa_cons pe_int (pa_cons pe_int (pa_cons pe_int (pa_cons pe_int (pa_cons pe_int (pa_cons pe_int (pa_cons pe_int pa_nil)))))))))) (pe_call DDraw.ok (hr.mono (by decide)) (by rfl) DDraw.g DDraw.F.kp DDraw.b .nil pass0 (pa_cons (pv 0) (pa_cons pe_int pa_nil))) (fun _ _ => rfl)))
      (pss_cons (ps_set (i := 3) scTexts.nd rfl (.inl rfl) (pe_lst pa_nil))
      (pss_cons (ps_for PassesOwn.never rfl (pi_range1 (by rfl) T.range (pa_cons (pv 2) pa_nil)) (pg_name (i := 4) scTexts.nd rfl (.inl rfl))
      (pss_one (ps_if (PW.pt (pw_and (pt_cmpR op_gt (pe_callB call_len_seq (by rfl) T.len PySem.boot_len (pa_cons (pv 3) pa_nil)) pe_int (nomark _)) (pw_and1 (pt_cmpR op_eq (pe_call DDraw.ok (hr.mono (by decide)) (by rfl) DDraw.g DDraw.F.kp DDraw.b .nil pass0 (pa_cons (pv 0) (pa_cons pe_int pa_nil))) pe_int (nomark _)))))
        (pss_one (ps_expr (pe_bm PySem.F.plainAttrs_list PySem.F.slot_list_append PySem.F.type_list_append mt_append (pv 3) (pa_cons (pe_ix ix_list (pv 3) (pe_call DDraw.ok (hr.mono (by decide)) (by rfl) DDraw.g DDraw.F.kp DDraw.b .nil pass0 (pa_cons (pv 0) (pa_cons (pe_callB call_len_seq (by rfl) T.len PySem.boot_len (pa_cons (pv 3) pa_nil)) pa_nil))) (fun _ _ => rfl)) pa_nil))))
        (pss_one (ps_expr (pe_bm PySem.F.plainAttrs_list PySem.F.slot_list_append PySem.F.type_list_append mt_append (pv 3) (pa_cons (pe_call DText.ok (hr.mono (by decide)) (by rfl) DText.g DText.F.kp DText.b .nil pass0 (pa_cons (pv 0) (pa_cons (pe_op op_fdiv (pv 1) (pv 2)) pa_nil))) pa_nil)))))))
      (pss_one (ps_ret (pe_callTy call_tuple_of (by rfl) T.tuple (by decide +kernel) (pa_cons (pv 3) pa_nil))))))), ?_⟩
    obtain ⟨p, m, rfl, m0, m1, lh, hH, q⟩ := h
    refine ⟨by show 9 ≤ sizeLine; decide, fun o no => ?_⟩
    have h1 := hH.same (Same.new (o := .lst [V.int 1, .int 1, .int 1, .int 2, .int 2, .int 3, .int 4, .int 8, .int 0]) no)
    have b1 := But.same (p := p) (Same.new (H := H) (o := .lst [V.int 1, .int 1, .int 1, .int 2, .int 2, .int 3, .int 4, .int 8, .int 0]) no)
    have hO : upd H o (.lst [V.int 1, .int 1, .int 1, .int 2, .int 2, .int 3, .int 4, .int 8, .int 0]) o = some (.lst [V.int 1, .int 1, .int 1, .int 2, .int 2, .int 3, .int 4, .int 8, .int 0]) := upd_same
    have nop := (hH.ne no).1
    revert h1 b1 hO
    generalize upd H o (.lst [V.int 1, .int 1, .int 1, .int 2, .int 2, .int 3, .int 4, .int 8, .int 0]) = H1
    intro h1 b1 hO
    refine ⟨.ref p, rfl, p, 9, rfl, by decide, by decide, lh, h1, fun v H2 v0 v1 h2 b2 => ?_⟩
    obtain ⟨x, ex, hx⟩ := atI_in (xs := [V.int 1, .int 1, .int 1, .int 2, .int 2, .int 3, .int 4, .int 8, .int 0]) v0 v1
    obtain ⟨n, rfl, hn8⟩ : ∃ n : Nat, x = .int (n : Int) ∧ n ≤ 8 := by
      simp only [List.mem_cons, List.not_mem_nil, or_false] at hx
      rcases hx with e | e | e | e | e | e | e | e | e
      · exact ⟨1, e, by decide⟩
      · exact ⟨1, e, by decide⟩
      · exact ⟨1, e, by decide⟩
      · exact ⟨2, e, by decide⟩
      · exact ⟨2, e, by decide⟩
      · exact ⟨3, e, by decide⟩
      · exact ⟨4, e, by decide⟩
      · exact ⟨8, e, by decide⟩
      · exact ⟨0, e, by decide⟩
    refine ⟨o, _, v, _, rfl, rfl, sq_of (b2 _ _ nop hO), ex, ?_⟩
    refine ⟨by show 0 ≤ sizeLine; decide, fun f nf => ?_⟩
    have nfp := (h2.ne nf).1
    have b12 := b1.trans b2
    refine ⟨.int (n : Int), rfl, _, rfl, by omega, by omega, for_range (fun i σ H' => ∃ (x : Option V) (ts : List Str), σ = [some (.ref p), some (.int m), some (.int (n : Int)), some (.ref f), x] ∧ H' f = some (.lst (ts.map V.str)) ∧ ts.length = i ∧ (∀ t ∈ ts, sgB t = true ∧ (t.length : Int) ≤ m) ∧ Hn p lh H2 H') ⟨none, [], rfl, upd_same, rfl, fun t ht => absurd ht (by simp), (Hn.refl h2).new nf⟩ ?_ ?_⟩
    · rintro i σ H' hi ⟨x, ts, rfl, hf, hl, ht, hn⟩
      have hi2 : i < n := by omega
      have put : ∀ {H4 : Hp} {y : Str}, Hn p lh H2 H4 → H4 f = some (.lst (ts.map V.str)) → sgB y = true → (y.length : Int) ≤ m → Hn p lh H2 (upd H4 f (.lst (ts.map V.str ++ [V.str y]))) ∧ upd H4 f (.lst (ts.map V.str ++ [V.str y])) f = some (.lst ((ts ++ [y]).map V.str)) ∧ (ts ++ [y]).length = i + 1 ∧ ∀ t ∈ ts ++ [y], sgB t = true ∧ (t.length : Int) ≤ m := fun {H4 y} g1 g2 g3 g4 => by
        refine ⟨g1.at h2 nf, by rw [upd_same, List.map_append]; rfl, by rw [List.length_append, hl]; rfl, fun t hm => ?_⟩
        rcases List.mem_append.mp hm with e | e
        · exact ht t e
        · rw [List.mem_singleton.mp e]
          exact ⟨g3, g4⟩
      have lts : (ts.map V.str).length < sizeLine := by
        rw [List.length_map, hl, sizeLine_eq]
        omega
      refine (?_ : ∀ Q : Bool → Hp → Prop, (∀ b H3, Hn p lh H2 H3 → H3 f = some (.lst (ts.map V.str)) → (b = true → 0 < i) → Q b H3) → tAnd _ _ _ H' Q) _ ?_
      · intro Q0 kk
        refine ⟨.ref f, rfl, f, _, rfl, .inl (sq_of hf), _, _, rfl, rfl, _, rfl, ite2 (fun e => ?_) (fun e => kk _ _ hn hf (fun w => Bool.noConfusion w))⟩
        have i0 := of_decide_eq_true e
        exact ⟨.ref p, rfl, p, 6, rfl, by decide, by decide, lh, hn.at_, fun w H3 w0 w1 h3 b3 => ⟨rfl, _, rfl, kk _ _ (hn.go h3 b3) (b3 _ _ nfp hf) (fun _ => by rw [List.length_map, hl] at i0; omega)⟩⟩
      · intro b H3 hn3 hf3 hb
        cases b with
        | true =>
          have i0 := hb rfl
          refine iteT ⟨.ref f, rfl, .inl ⟨rfl, _, sq_of hf3⟩, .ref f, rfl, .ref p, rfl, .ref f, rfl, f, _, rfl, .inl (sq_of hf3), p, ((ts.map V.str).length : Int), rfl, by rw [List.length_map, hl]; omega, by rw [List.length_map, hl]; omega, lh, hn3.at_, fun v H4 v0 v1 h4 b4 => ?_⟩
          have hf4 := b4 _ _ nfp hf3
          obtain ⟨x4, e4, hx4⟩ := atI_in (xs := ts.map V.str) v0 v1
          obtain ⟨t, htm, rfl⟩ := List.mem_map.mp hx4
          obtain ⟨g1, g2, g3, g4⟩ := put (y := t) (hn3.go h4 b4) hf4 (ht t htm).1 (ht t htm).2
          exact ⟨f, _, v, _, rfl, rfl, sq_of hf4, e4, f, _, _, rfl, rfl, hf4, lts, _, _, rfl, g2, g3, g4, g1⟩
        | false =>
          have d0 : 0 ≤ m / (n : Int) := Int.ediv_nonneg m0 (by omega)
          have d1 : m / (n : Int) ≤ m := Int.ediv_le_self _ m0
          refine iteF ⟨.ref f, rfl, .inl ⟨rfl, _, sq_of hf3⟩, .ref p, rfl, .int m, rfl, .int (n : Int), rfl, m, (n : Int), rfl, rfl, ⟨by omega, by omega⟩, p, m / (n : Int), rfl, d0, by omega, lh, hn3.at_, fun u H5 su lu h5 b5 => ?_⟩
          have hf5 := b5 _ _ nfp hf3
          obtain ⟨g1, g2, g3, g4⟩ := put (y := u) (hn3.go h5 b5) hf5 su (by omega)
          exact ⟨f, _, _, rfl, rfl, hf5, lts, _, _, rfl, g2, g3, g4, g1⟩
    · rintro σ H' ⟨x, ts, rfl, hf, hl, ht, hn⟩
      refine ⟨.ref f, rfl, f, _, rfl, .inl ⟨sq_of hf, fun a na => ?_⟩⟩
      exact q a ts _ ⟨upd_same, by omega, fun t hm => (ht t hm).1, fun t hm => by have := (ht t hm).2; omega⟩ (fun t hm => (ht t hm).2) (hn.at_.same (Same.new na)) ((b12.trans hn.but).and (Same.new na))
end
end LawK
set_option maxHeartbeats 4000000
namespace LawK
open PySem PySem.Spec PyProof.Rows L2 Ev

open PySem.W
theorem dataLt_s2 (x y : Str) (i j k l : Int) : dataLt (.tuple [.str x, .tuple [.int i, .int j]]) (.tuple [.str y, .tuple [.int k, .int l]]) = decide (x.cps.toList < y.cps.toList ∨ x = y ∧ (i < k ∨ i = k ∧ j < l)) := by
  rw [dataLt_tuple, dataLt_cons (by simp [alike]), dataLt_cons (by simp [alike, alikeAll]), dataLt_tuple, dataLt_cons (by simp [alike]), dataLt_cons (by simp [alike])]
  have e0 : PyProof.Rows.lexLt itemOrd (keyToksAll []) (keyToksAll []) = false := lex_irrefl _
  rw [e0, dataLt_str, dataLt_int, dataLt_int]
  have e1 : PyData.eqv (.str x) (.str y) = decide (x = y) := by
    simp only [PyData.eqv]
    first | rfl | exact Bool.eq_iff_iff.mpr (by simp)
  have e2 : ∀ a b : Int, PyData.eqv (.int a) (.int b) = decide (a = b) := fun a b => by
    simp only [PyData.eqv]
    first | rfl | exact Bool.eq_iff_iff.mpr (by simp)
  have e3 : ∀ a b c d : Int, PyData.eqv (.tuple [.int a, .int b]) (.tuple [.int c, .int d]) = (decide (a = c) && decide (b = d)) := fun a b c d => by
    simp [PyData.eqv, PyData.eqvAll]
    by_cases h1 : a = c <;> by_cases h2 : b = d <;> simp [h1, h2]
  rw [e1, e2, e2]
  by_cases hx : x = y
  · subst hx
    have nl : ¬ x.cps.toList < x.cps.toList := lirr _
    by_cases h1 : i = k
    · subst h1
      by_cases h2 : j = l
      · subst h2; simp [nl]
      · simp [nl, h2, e3]
    · simp [nl, h1, e3]
  · simp [hx]
def encB (ts : List Str) (p : Pl) : PyData := .tuple [.str (sfx ts p), .tuple [.int (p.1 : Nat), .int (p.2 : Nat)]]
def RB (ts : List Str) (H : Hp) (v : V) (p : Pl) : Prop := ∃ b c, v = .ref b ∧ H b = some (.tup [.str (sfx ts p), .ref c]) ∧ H c = some (.tup [.int (p.1 : Nat), .int (p.2 : Nat)])
theorem RB.same {ts : List Str} {H H' : Hp} {v : V} {p : Pl} (k : Same H H') (h : RB ts H v p) : RB ts H' v p := let ⟨b, c, e, q, r⟩ := h; ⟨b, c, e, k _ _ q, k _ _ r⟩
theorem encB_le (ts : List Str) (p q : Pl) : leE (encB ts p) (encB ts q) = leP ts p q := by
  unfold leP leE encB enc
  rw [dataLt_s2, dataLt_sii]
theorem encB_depth (ts : List Str) (p : Pl) : (encB ts p).depth ≤ 60 := by
  unfold encB
  simp [PyData.depth, PyData.depthAll]
theorem encB_alike (ts : List Str) (p q : Pl) : alike (encB ts p) (encB ts q) = true := by
  unfold encB
  simp [alike, alikeAll]
theorem encB_dp {ts : List Str} {K : PySem.W.Frag} {H : Hp} {v : V} {p : Pl} (h : RB ts H v p) : Dp K H v (encB ts p) := by
  obtain ⟨b, c, rfl, e, f⟩ := h
  exact .tup (SqT.of e) (.cons (.str _) (.cons (.tup (SqT.of f) (.cons (.int _) (.cons (.int _) .nil))) .nil))
theorem sorted_rowsB {ts : List Str} {K : PySem.W.Frag} {H : Hp} {a : Addr} {vs : List V} {ps : List Pl} {Q : VK} (ha : H a = some (.lst vs)) (h : All2 (RB ts H) vs ps)
    (q : ∀ p vs', H p = none → All2 (RB ts H) vs' (ps.mergeSort (leP ts)) → Q (.ref p) (upd H p (.lst vs'))) : rSortedD K [.ref a] H Q := by
  obtain ⟨zs, rfl, rfl, hz⟩ := h.zs
  refine ⟨a, zs.map (fun z => (z.1, encB ts z.2)), rfl, ?_, ?_, ?_, ?_, ?_, fun p np => ?_⟩
  · rw [List.map_map]; exact sq_of ha
  · intro b hb
    obtain ⟨z, hz', rfl⟩ := List.mem_map.mp hb
    exact encB_dp (hz z hz')
  · rw [List.map_map]
    exact AllAlike.of (enc := fun z : V × Pl => encB ts z.2) fun b b' => encB_alike ts _ _
  · rw [List.map_map]
    exact Sortable.tuples (enc := fun z : V × Pl => encB ts z.2) fun b => ⟨_, _, rfl⟩
  · intro b hb
    obtain ⟨z, hz', rfl⟩ := List.mem_map.mp hb
    exact encB_depth ts z.2
  · have e1 : (zs.map fun z => ((z.1, encB ts z.2) : DV)).mergeSort leD = (zs.mergeSort fun z w => leP ts z.2 w.2).map fun z => (z.1, encB ts z.2) := (List.map_mergeSort (r := fun z w : V × Pl => leP ts z.2 w.2) (s := leD) (f := fun z : V × Pl => ((z.1, encB ts z.2) : DV)) (l := zs) fun x _ y _ => (encB_le ts x.2 y.2).symm).symm
    have e2 : (zs.map (·.2)).mergeSort (leP ts) = (zs.mergeSort fun z w => leP ts z.2 w.2).map (·.2) := (List.map_mergeSort (r := fun z w : V × Pl => leP ts z.2 w.2) (s := leP ts) (f := fun z : V × Pl => z.2) (l := zs) fun x _ y _ => rfl).symm
    rw [e2] at q
    rw [e1, List.map_map]
    exact q p _ np (All2.ofZ fun z hz' => hz z ((List.mergeSort_perm _ _).mem_iff.mp hz'))
theorem add_rowB {ts : List Str} {H : Hp} {D b c : Addr} {us : List V} {ps : List Pl} {p : Pl} {z : Str} (hz : z = sfx ts p) (hc : H c = some (.tup [.int (p.1 : Nat), .int (p.2 : Nat)])) (nb : H b = none) (hD : H D = some (.lst us)) (hu : All2 (RB ts H) us ps) : All2 (RB ts (upd (upd H b (.tup [.str z, .ref c])) D (.lst (us ++ [.ref b])))) (us ++ [.ref b]) (ps ++ [p]) := by
  have nDb : b ≠ D := fun e => by rw [e, hD] at nb; cases nb
  subst hz
  have keep : ∀ d xs, H d = some (.tup xs) → upd (upd H b (.tup [.str (sfx ts p), .ref c])) D (.lst (us ++ [.ref b])) d = some (.tup xs) := fun d xs r => by
    have nd : d ≠ D := fun e => by rw [e, hD] at r; cases r
    rw [upd_ne nd]
    exact (Same.new nb) _ _ r
  refine All2.snoc (hu.imp fun _ _ ⟨d, f, e, r1, r2⟩ => ⟨d, f, e, keep _ _ r1, keep _ _ r2⟩) ⟨b, c, rfl, ?_, keep _ _ hc⟩
  rw [upd_ne nDb, upd_same]
def spLOrder2 : Sp := fun vs H Q _ => ∃ (a : Addr) (ts : List Str), vs = [.ref a] ∧ TsAt H a ts ∧ ∀ b H', Same H H' → H b = none → PsL H' b (ord ts) → Q (.ref b) H'
section
variable {P : Program} {w : World} {K : PySem.W.Frag} {mg : Str → Option Value} {base : Heap}
abbrev sOrder : Stmt := topS 31
theorem scOrder : FnScope ["texts", "found", "number", "text", "at", "ending", "place"] ["texts"] (defScope sOrder) := ⟨rfl, rfl, rfl, by decide +kernel, rfl, by decide +kernel, by decide +kernel⟩
theorem ok_Order {f : Addr} {fd : FuncData} (F : Fun K "_law_order" "_law_order" sOrder f fd)   (T : Glob mg) : FnOk P w K mg base CX0 1 f fd ["texts"] spLOrder2 := by
  refine F.ok scOrder (fun vs H Q E h => ?_) (fun cdv A outer s H vs Q E hr h => ?_)
  · obtain ⟨a, ts, rfl, _⟩ := h
    rfl
  · refine ⟨_, (pss_cons (ps_set (i := 1) scOrder.nd rfl (.inl rfl) (pe_lst pa_nil))
      (pss_cons (ps_for PassesOwn.never rfl (pi_enumT (by rfl) T.enumerate (pa_cons (pv 0) pa_nil)) (pg_tup (by rfl) (pgs_cons (pg_name (i := 2) scOrder.nd rfl (.inr rfl)) (pgs_cons (pg_name (i := 3) scOrder.nd rfl (.inr rfl)) pgs_nil)))
      (pss_one (ps_expr (pe_bm PySem.F.plainAttrs_list PySem.F.slot_list_extend PySem.F.type_list_extend mt_extend (pv 1) (pa_cons (pe_lc (own := [("at", 4)]) (g := gName 4) (by rfl) scOrder.nd (pi_range1 (by rfl) T.range (pa_cons (pe_callB call_lenZ (by rfl) T.len PySem.boot_len (pa_cons (pv 3) pa_nil)) pa_nil)) (blkOk_by (N := ["texts", "found", "number", "text", "at", "ending", "place"]) (sc := defScope sOrder) (by decide +kernel)) (fun _ _ _ _ _ => pg_name (i := 4) scOrder.nd rfl (.inl rfl)) (fun _ _ _ _ _ => pts_nil) (fun _ _ _ _ _ => (pe_tup (pa_cons (pe_slice sl_str (pv 3) (po_some (pv 4)) po_none) (pa_cons (pe_tup (pa_cons (pv 2) (pa_cons (pv 4) pa_nil))) pa_nil))))) pa_nil)))))
      (pss_one (ps_ret (pe_lc (own := [("ending", 5), ("place", 6)]) (g := (gTup K 2 (gCons (gName 5) (gCons (gName 6) gNil)))) (by rfl) scOrder.nd (pi_list (pe_callB (cr_sortedD hr.units) (by rfl) T.sorted (by decide +kernel) (pa_cons (pv 1) pa_nil))) (blkOk_by (N := ["texts", "found", "number", "text", "at", "ending", "place"]) (sc := defScope sOrder) (by decide +kernel)) (fun _ _ _ _ _ => pg_tup (by rfl) (pgs_cons (pg_name (i := 5) scOrder.nd rfl (.inl rfl)) (pgs_cons (pg_name (i := 6) scOrder.nd rfl (.inl rfl)) pgs_nil))) (fun _ _ _ _ _ => pts_nil) (fun _ _ _ _ _ => (pv 6))))))), ?_⟩
    obtain ⟨a, ts, rfl, ht, q⟩ := h
    refine ⟨by show 0 ≤ sizeLine; decide, fun f nf => ?_⟩
    have lm : (ts.map V.str).length = ts.length := List.length_map ..
    have few8 := ht.few
    refine ⟨.ref a, rfl, a, _, rfl, SqT.of ((Same.new nf) _ _ ht.at_), for_it (walk_en (xs := ts.map V.str)) (fun i σ H' => ∃ (x y : Option V) (us : List V), σ = [some (.ref a), some (.ref f), x, y, none, none, none] ∧ Same H H' ∧ H' f = some (.lst us) ∧ All2 (RB ts H') us (plN ts i)) ⟨_, _, [], rfl, Same.new nf, upd_same, .nil⟩ (fun i σ H' _ w => ?_) ?_ ?_⟩
    · obtain ⟨x, y, us, rfl, k, _⟩ := w
      exact SqT.of (k _ _ ht.at_)
    · rintro i x σ H1 H2 hi ⟨u, y, us, rfl, k1, hf, hu⟩ ⟨T, x1, x2, rfl, nT, rfl, e1, e2⟩
      rw [lm] at hi
      cases e1
      obtain rfl : V.str (tx ts i) = x2 := Option.some.inj ((tx_at hi).symm.trans e2)
      have k2 : Same H1 (upd H1 T (.tup [.int (i : Nat), .str (tx ts i)])) := Same.new nT
      have hT : upd H1 T (.tup [.int (i : Nat), .str (tx ts i)]) T = some (.tup [.int (i : Nat), .str (tx ts i)]) := upd_same
      revert k2 hT
      generalize upd H1 T (.tup [.int (i : Nat), .str (tx ts i)]) = H2
      intro k2 hT
      have ln1 : (tx ts i).length ≤ 200 := tx_len ht.len i
      refine ⟨T, _, rfl, SqT.of hT, rfl, _, _, rfl, _, _, rfl, rfl, ?_⟩
      dsimp only [tNext, tDrop, gNil]
      refine ⟨.ref f, rfl, .inl ⟨rfl, _, sq_of (k2 _ _ hf)⟩, .str (tx ts i), rfl, _, rfl, len5 (by omega), _, rfl, by omega, by omega, fun D nD => lc_range (fun j H' => Same H2 H' ∧ ∃ vs, H' D = some (.lst vs) ∧ All2 (RB ts H') vs ((List.range j).map (fun k => (i, k)))) ⟨Same.new nD, [], upd_same, .nil⟩ ?_ ?_⟩
      · rintro j H3 hj ⟨k3, vs, hD, hv⟩
        have hj2 : j < (tx ts i).length := by omega
        have e0 : (0 + (j : Int)) = (j : Nat) := by omega
        rw [e0]
        refine ⟨rfl, .str (tx ts i), rfl, .int (j : Nat), rfl, _, rfl, _, rfl, len5 (by omega), _, rfl, _, rfl, by show 2 ≤ sizeLine; decide, fun c nc => ⟨by show 2 ≤ sizeLine; decide, fun b nb => ⟨vs, ?_, ?_, sameAt ((k3.trans (Same.new nc)).trans (Same.new nb)) nD, vs ++ [.ref b], upd_same, ?_⟩⟩⟩
        · exact (Same.new nb) _ _ ((Same.new nc) _ _ hD)
        · have z1 := hv.len
          rw [List.length_map, List.length_range] at z1
          have h3 : sizeLine = 16777216 := sizeLine_eq
          omega
        · rw [row_take ts i j hj2]
          exact add_rowB (p := (i, j)) rfl upd_same nb ((Same.new nc) _ _ hD) (hv.imp fun _ _ r => r.same (Same.new nc))
      · rintro H3 ⟨k3, vs, hD, hv⟩
        have kk := k2.trans k3
        have e : (List.range (((tx ts i).length : Nat) : Int).toNat).map (fun k => ((i, k) : Pl)) = row ts i := by
          unfold row
          rw [show (((tx ts i).length : Nat) : Int).toNat = (tx ts i).length by omega]
        rw [e] at hv
        have hf3 := kk _ _ hf
        refine ⟨f, D, us, vs, rfl, rfl, hf3, hD, ?_, _, _, us ++ vs, rfl, sameAt (k1.trans kk) nf, upd_same, ?_⟩
        · rw [hu.len, hv.len]
          have z2 := plN_len ht.len i
          have : (row ts i).length = (tx ts i).length := by unfold row; rw [List.length_map, List.length_range]
          have h3 : sizeLine = 16777216 := sizeLine_eq
          omega
        · rw [plN_succ]
          have keep : ∀ d xs, H3 d = some (.tup xs) → upd H3 f (.lst (us ++ vs)) d = some (.tup xs) := fun d xs r => by
            have nd : d ≠ f := fun e => by rw [e, hf3] at r; cases r
            rw [upd_ne nd]
            exact r
          exact (hu.imp fun _ _ ⟨d, c, e, r1, r2⟩ => ⟨d, c, e, keep _ _ (kk _ _ r1), keep _ _ (kk _ _ r2)⟩).app (hv.imp fun _ _ ⟨d, c, e, r1, r2⟩ => ⟨d, c, e, keep _ _ r1, keep _ _ r2⟩)
    · rintro σ H1 ⟨x, y, us, rfl, k1, hf, hu⟩
      rw [lm] at hu
      refine ⟨.ref f, rfl, ?_⟩
      dsimp only [tNil]
      refine sorted_rowsB hf hu fun A ws nA hw => ?_
      have kA : Same H (upd H1 A (.lst ws)) := k1.trans (Same.new nA)
      have hw := hw.imp fun _ _ r => r.same (Same.new (o := .lst ws) nA)
      have hA : upd H1 A (.lst ws) A = some (.lst ws) := upd_same
      have few : (plN ts ts.length).length ≤ 2000 := by
        have := plN_len ht.len ts.length
        omega
      revert kA hw hA
      generalize upd H1 A (.lst ws) = HX
      intro kA hw hA
      have lq : ((plN ts ts.length).mergeSort (leP ts)).length ≤ 2000 := by rw [List.length_mergeSort]; exact few
      have q : ∀ b H', Same H H' → H b = none → PsL H' b ((plN ts ts.length).mergeSort (leP ts)) → Q (.ref b) H' := q
      revert q lq hw
      generalize (plN ts ts.length).mergeSort (leP ts) = qs
      intro hw lq q
      refine ⟨A, rfl, ⟨_, sq_of hA⟩, fun D nD => lc_list (xs := ws) (fun i H' => Same HX H' ∧ ∃ us, H' D = some (.lst us) ∧ All2 (PAt H') us (qs.take i)) ⟨Same.new nD, [], upd_same, .nil⟩ (fun i H' _ w => sq_of (w.1 _ _ hA)) ?_ ?_⟩
      · rintro i x H2 hx ⟨k2, us, hD, hu⟩
        obtain ⟨p, ep, b, c, rfl, eb, ec⟩ := hw.at hx
        have eb2 := k2 _ _ eb
        refine ⟨b, _, rfl, SqT.of eb2, rfl, _, _, rfl, _, _, rfl, rfl, rfl, .ref c, rfl, us, hD, ?_, sameAt k2 nD, us ++ [.ref c], upd_same, ?_⟩
        · have z1 := hu.len
          rw [List.length_take] at z1
          have h3 : sizeLine = 16777216 := sizeLine_eq
          have h4 : i < qs.length := (List.getElem?_eq_some_iff.mp ep).1
          omega
        · rw [take_snoc ep]
          have keep : ∀ d xs, H2 d = some (.tup xs) → upd H2 D (.lst (us ++ [.ref c])) d = some (.tup xs) := fun d xs r => by
            have nd : d ≠ D := fun e => by rw [e, hD] at r; cases r
            rw [upd_ne nd]
            exact r
          exact All2.snoc (hu.imp fun _ _ ⟨d, e, r⟩ => ⟨d, e, keep _ _ r⟩) ⟨c, rfl, keep _ _ (k2 _ _ ec)⟩
      · rintro H2 ⟨k2, us, hD, hu⟩
        rw [hw.len, List.take_length] at hu
        exact q D H2 (kA.trans k2) (Same.free kA nD) ⟨us, hD, hu⟩
end
end LawK
set_option maxHeartbeats 4000000
namespace LawK
open PySem PySem.Spec PyProof.Rows L2 Ev

open PySem.W
theorem TsAt.rw {H : Hp} {a : Addr} {ts : List Str} (h : TsAt H a ts) : Rw ts := ⟨h.few, h.sg, h.len⟩
def spLRow : Sp := fun vs H Q _ => ∃ (a : Addr) (ts : List Str), vs = [.ref a] ∧ TsAt H a ts ∧ ∀ b H', Same H H' → H' b = some (.tup ((rowL ts).map V.str)) → Q (.ref b) H'
def spLFlag : Sp := fun vs H Q _ => ∃ b : Bool, vs = [.bl b, .bl b] ∧ Q (.bl true) H
def spLLeads : Sp := fun vs H Q _ => ∃ (a : Addr) (ts : List Str), vs = [.ref a] ∧ TsAt H a ts ∧ ∀ b H', Same H H' → H' b = some (.tup (ledL ts (nR ts))) → Q (.ref b) H'
def spLWalked : Sp := fun vs H Q _ => ∃ (a b : Addr) (ts : List Str) (i : Nat), vs = [.ref a, .ref b, .int (i : Nat)] ∧ RowAt H a ts ∧ H b = some (.tup (ledL ts (nR ts))) ∧ Rw ts ∧ i < ts.length ∧ ∀ H', Same H H' → Q (.str (revZ (tx ts i))) H'
theorem row_split (ts : List Str) : rowL ts = ((List.range ts.length).map fun i => sgS ts (i, (txc ts i).length)) ++ (ord ts).map (sgS ts) := by
  unfold rowL enT
  rw [List.map_append, List.map_map]
  rfl
theorem sg_cut {ts : List Str} {i a : Nat} (h : 0 < a) (l : a ≤ (txc ts i).length) : cutS (tx ts i) (some (((a : Nat) : Int) - 1)) (some ((a : Nat) : Int)) = sgS ts (i, a) := by
  apply cod_inj
  have e := cutS_of (z := tx ts i) (i := ((a : Nat) : Int) - 1) (j := ((a : Nat) : Int)) (by omega) (by omega)
  rw [show (((a : Nat) : Int) - 1).toNat = a - 1 by omega, show (((a : Nat) : Int) - (((a : Nat) : Int) - 1)).toNat = 1 by omega] at e
  have e2 : cod (cutS (tx ts i) (some (((a : Nat) : Int) - 1)) (some ((a : Nat) : Int))) = _ := e
  rw [e2]
  show _ = ((txc ts i).take a).drop (a - 1)
  rw [List.drop_take, show a - (a - 1) = 1 by omega]
theorem sg_first (ts : List Str) (i : Nat) : sgS ts (i, 0) = "" := by
  apply cod_inj
  show ((txc ts i).take 0).drop (0 - 1) = _
  rw [List.take_zero, List.drop_nil]
  rfl
section
variable {P : Program} {w : World} {K : PySem.W.Frag} {mg : Str → Option Value} {base : Heap}
abbrev sRow : Stmt := topS 32
theorem scRow : FnScope ["texts", "found", "number", "at", "text"] ["texts"] (defScope sRow) := ⟨rfl, rfl, rfl, by decide +kernel, rfl, by decide +kernel, by decide +kernel⟩
theorem ok_Row {f : Addr} {fd : FuncData} (F : Fun K "_law_row" "_law_row" sRow f fd)  {fOrder : Addr} {fdOrder : FuncData} (DOrder : Dk P w K mg base "_law_order" sOrder ["texts"] 1 spLOrder2 fOrder fdOrder) (T : Glob mg) : FnOk P w K mg base CX0 2 f fd ["texts"] spLRow := by
  refine F.ok scRow (fun vs H Q E h => ?_) (fun cdv A outer s H vs Q E hr h => ?_)
  · obtain ⟨a, ts, rfl, _⟩ := h
    rfl
  · refine ⟨_, (pss_cons (ps_setLc (i := 1) (own := [("text", 4)]) (g := gName 4) (by rfl) scRow.nd rfl rfl (sw_true rfl rfl rfl (by decide +kernel)) (pi_tup (pv 0)) (blkOk_by (N := ["texts", "found", "number", "at", "text"]) (sc := defScope sRow) (by decide +kernel)) (fun _ _ _ _ _ => pg_name (i := 4) scRow.nd rfl (.inl rfl)) (fun _ _ _ _ _ => pts_nil) (fun _ _ _ _ _ => (pe_slice sl_str (pv 4) (po_some (pe_un un_neg pe_int)) po_none)))
      (pss_cons (ps_for PassesOwn.never rfl (pi_list (pe_call DOrder.ok (hr.mono (by decide)) (by rfl) DOrder.g DOrder.F.kp DOrder.b .nil pass0 (pa_cons (pv 0) pa_nil))) (pg_tup (by rfl) (pgs_cons (pg_name (i := 2) scRow.nd rfl (.inl rfl)) (pgs_cons (pg_name (i := 3) scRow.nd rfl (.inl rfl)) pgs_nil)))
      (pss_one (ps_expr (pe_bm PySem.F.plainAttrs_list PySem.F.slot_list_append PySem.F.type_list_append mt_append (pv 1) (pa_cons (pe_ifExp (pt_cmpR op_gt (pv 3) pe_int (nomark _)) (pe_slice sl_str (pe_ix ix_tup (pv 0) (pv 2) (fun _ _ => rfl)) (po_some (pe_op op_sub (pv 3) pe_int)) (po_some (pv 3))) pe_str) pa_nil)))))
      (pss_one (ps_ret (pe_callTy call_tuple_of (by rfl) T.tuple (by decide +kernel) (pa_cons (pv 1) pa_nil)))))), ?_⟩
    obtain ⟨a, ts, rfl, ht, q⟩ := h
    have few8 := ht.few
    have ol : (ord ts).length ≤ 1600 := ord_len ht.len ht.few
    refine ⟨.ref a, rfl, a, rfl, ⟨_, SqT.of ht.at_⟩, fun D nD => lc_tup (K := K) (xs := ts.map V.str) (fun i H' => Same H H' ∧ H' D = some (.lst (((List.range i).map fun i => sgS ts (i, (txc ts i).length)).map V.str))) ⟨Same.new nD, upd_same⟩ (fun i H' _ w => SqT.of (w.1 _ _ ht.at_)) ?_ ?_⟩
    · rintro i x H1 hx ⟨k1, hD⟩
      rw [List.getElem?_map] at hx
      obtain ⟨t, het, rfl⟩ := Option.map_eq_some_iff.mp hx
      have et : tx ts i = t := by show ts.getD i Str.empty = t; rw [List.getD_eq_getElem?_getD, het]; rfl
      have il : i < ts.length := (List.getElem?_eq_some_iff.mp het).1
      refine ⟨rfl, .str t, rfl, _, rfl, _, rfl, t, rfl, len5 (Nat.le_trans (ht.len t (List.mem_of_getElem? het)) (by decide)), _, hD, ?_, sameAt k1 nD, ?_⟩
      · rw [List.length_map, List.length_map, List.length_range, sizeLine_eq]
        omega
      · rw [upd_same, List.range_succ, List.map_append, List.map_append]
        show some (HO.lst (_ ++ [V.str (cutS t (some (-1)) none)])) = some (HO.lst (_ ++ [V.str (sgS ts (i, (txc ts i).length))]))
        rw [← sgS_end, et]
    rintro H1 ⟨k1, hD⟩
    rw [List.length_map] at hD
    dsimp only [gName, tSeq]
    refine ⟨.ref a, rfl, a, ts, rfl, ht.same k1, fun O H2 k2 nO ⟨vs, hO, hv⟩ => ?_⟩
    have hD2 := k2 _ _ hD
    have ht2 := (ht.same k1).same k2
    have lv := hv.len
    refine ⟨O, rfl, ⟨_, sq_of hO⟩, for_list (xs := vs) (fun j σ H' => ∃ u2 u3 : Option V, σ = [some (.ref a), some (.ref D), u2, u3, none] ∧ Same H H' ∧ (∀ c xs, H2 c = some (.tup xs) → H' c = some (.tup xs)) ∧ H' O = some (.lst vs) ∧ H' D = some (.lst ((((List.range ts.length).map fun i => sgS ts (i, (txc ts i).length)) ++ ((ord ts).take j).map (sgS ts)).map V.str))) ⟨_, _, rfl, k1.trans k2, fun _ _ h => h, hO, by rw [hD2]; simp⟩ (fun j σ H' _ w => by obtain ⟨_, _, _, _, _, w, _⟩ := w; exact sq_of w) ?_ ?_⟩
    · rintro j x σ H3 hx ⟨u2, u3, rfl, k3, kt, hO3, hD3⟩
      obtain ⟨p, ep, b, rfl, eb⟩ := hv.at hx
      have ip := ord_mem.mp (List.mem_of_getElem? ep)
      have eb3 := kt _ _ eb
      have ta3 := kt _ _ ht2.at_
      have tl := tx_len ht.len p.1
      have nOD : O ≠ D := fun e => by rw [e, (k2 _ _ hD)] at hO; exact absurd nO (by rw [e, hD]; simp)
      have fin : ∀ {σ' : L2.St} (z : Str), z = sgS ts p → σ' = [some (.ref a), some (.ref D), some (.int (p.1 : Nat)), some (.int (p.2 : Nat)), none] → ∃ u2 u3 : Option V, σ' = [some (.ref a), some (.ref D), u2, u3, none] ∧ Same H (upd H3 D (.lst ((((List.range ts.length).map fun i => sgS ts (i, (txc ts i).length)) ++ ((ord ts).take j).map (sgS ts)).map V.str ++ [.str z]))) ∧ (∀ c xs, H2 c = some (.tup xs) → upd H3 D (.lst ((((List.range ts.length).map fun i => sgS ts (i, (txc ts i).length)) ++ ((ord ts).take j).map (sgS ts)).map V.str ++ [.str z])) c = some (.tup xs)) ∧ upd H3 D (.lst ((((List.range ts.length).map fun i => sgS ts (i, (txc ts i).length)) ++ ((ord ts).take j).map (sgS ts)).map V.str ++ [.str z])) O = some (.lst vs) ∧ upd H3 D (.lst ((((List.range ts.length).map fun i => sgS ts (i, (txc ts i).length)) ++ ((ord ts).take j).map (sgS ts)).map V.str ++ [.str z])) D = some (.lst ((((List.range ts.length).map fun i => sgS ts (i, (txc ts i).length)) ++ ((ord ts).take (j + 1)).map (sgS ts)).map V.str)) := fun z e1 e2 => by
        refine ⟨_, _, e2, sameAt k3 nD, fun c xs h => ?_, ?_, ?_⟩
        · have h3 := kt _ _ h
          have n : c ≠ D := fun e => by rw [e, hD3] at h3; cases h3
          rw [upd_ne n]
          exact h3
        · rw [upd_ne nOD]
          exact hO3
        · rw [upd_same, take_snoc ep, e1]
          simp
      have len : ((((List.range ts.length).map fun i => sgS ts (i, (txc ts i).length)) ++ ((ord ts).take j).map (sgS ts)).map V.str).length < sizeLine := by
        rw [List.length_map, List.length_append, List.length_map, List.length_range, List.length_map, List.length_take, sizeLine_eq]
        omega
      have lp : p.2 ≤ (txc ts p.1).length := by have := ip.at_; rw [len_S] at this; exact Nat.le_of_lt this
      refine ⟨b, _, rfl, SqT.of eb3, rfl, _, _, rfl, _, _, rfl, rfl, ?_⟩
      refine ⟨.ref D, rfl, .inl ⟨rfl, _, sq_of hD3⟩, ?_⟩
      refine ⟨.int (p.2 : Nat), rfl, _, _, rfl, rfl, _, rfl, ite2 (fun e => ?_) (fun e => ?_)⟩
      · have p0 : 0 < p.2 := by have := of_decide_eq_true e; omega
        refine ⟨.ref a, rfl, .int (p.1 : Nat), rfl, a, _, _, _, rfl, rfl, SqT.of ta3, atI_nat (tx_at ip.text), .int (p.2 : Nat), rfl, _, _, rfl, rfl, _, rfl, .int (p.2 : Nat), rfl, _, rfl, _, rfl, len5 (by omega), D, _, _, rfl, rfl, hD3, len, ?_⟩
        exact fin _ (sg_cut p0 lp) rfl
      · have p0 : p.2 = 0 := by
          rcases Nat.eq_zero_or_pos p.2 with z | z
          · exact z
          · exact absurd (decide_eq_true (show (0 : Int) < ((p.2 : Nat) : Int) by omega)) e
        refine ⟨D, _, _, rfl, rfl, hD3, len, ?_⟩
        refine fin _ ?_ rfl
        rw [show p = (p.1, 0) from Prod.ext rfl p0, sg_first]
    · rintro σ H3 ⟨u2, u3, rfl, k3, kt, hO3, hD3⟩
      rw [lv, List.take_length, ← row_split] at hD3
      exact ⟨.ref D, rfl, D, _, rfl, .inl ⟨sq_of hD3, fun t nt => q t _ (k3.trans (Same.new nt)) upd_same⟩⟩
end
end LawK
set_option maxHeartbeats 4000000
namespace LawK
open PySem PySem.Spec PyProof.Rows L2 Ev

open PySem.W
/-- texts in a list -/
structure TsL (H : Hp) (a : Addr) (ts : List Str) : Prop where
  at_ : H a = some (.lst (ts.map V.str))
  few : ts.length ≤ 8
  sg : ∀ t ∈ ts, sgB t = true
  len : ∀ t ∈ ts, t.length ≤ 200
theorem TsL.same {H H' : Hp} {a : Addr} {ts : List Str} (k : Same H H') (h : TsL H a ts) : TsL H' a ts := ⟨k _ _ h.at_, h.few, h.sg, h.len⟩
def spLOrderL : Sp := fun vs H Q _ => ∃ (a : Addr) (ts : List Str), vs = [.ref a] ∧ TsL H a ts ∧ ∀ b H', Same H H' → H b = none → PsL H' b (ord ts) → Q (.ref b) H'
def spLRowL : Sp := fun vs H Q _ => ∃ (a : Addr) (ts : List Str), vs = [.ref a] ∧ TsL H a ts ∧ ∀ b H', Same H H' → H' b = some (.tup ((rowL ts).map V.str)) → Q (.ref b) H'
section
variable {P : Program} {w : World} {K : PySem.W.Frag} {mg : Str → Option Value} {base : Heap}
theorem okz_Order {f : Addr} {fd : FuncData} (F : Fun K "_law_order" "_law_order" sOrder f fd)   (T : Glob mg) : FnOk P w K mg base CX0 1 f fd ["texts"] spLOrderL := by
  refine F.ok scOrder (fun vs H Q E h => ?_) (fun cdv A outer s H vs Q E hr h => ?_)
  · obtain ⟨a, ts, rfl, _⟩ := h
    rfl
  · refine ⟨_, (pss_cons (ps_set (i := 1) scOrder.nd rfl (.inl rfl) (pe_lst pa_nil))
      (pss_cons (ps_for PassesOwn.never rfl (pi_enum (by rfl) T.enumerate (pa_cons (pv 0) pa_nil)) (pg_tup (by rfl) (pgs_cons (pg_name (i := 2) scOrder.nd rfl (.inr rfl)) (pgs_cons (pg_name (i := 3) scOrder.nd rfl (.inr rfl)) pgs_nil)))
      (pss_one (ps_expr (pe_bm PySem.F.plainAttrs_list PySem.F.slot_list_extend PySem.F.type_list_extend mt_extend (pv 1) (pa_cons (pe_lc (own := [("at", 4)]) (g := gName 4) (by rfl) scOrder.nd (pi_range1 (by rfl) T.range (pa_cons (pe_callB call_lenZ (by rfl) T.len PySem.boot_len (pa_cons (pv 3) pa_nil)) pa_nil)) (blkOk_by (N := ["texts", "found", "number", "text", "at", "ending", "place"]) (sc := defScope sOrder) (by decide +kernel)) (fun _ _ _ _ _ => pg_name (i := 4) scOrder.nd rfl (.inl rfl)) (fun _ _ _ _ _ => pts_nil) (fun _ _ _ _ _ => (pe_tup (pa_cons (pe_slice sl_str (pv 3) (po_some (pv 4)) po_none) (pa_cons (pe_tup (pa_cons (pv 2) (pa_cons (pv 4) pa_nil))) pa_nil))))) pa_nil)))))
      (pss_one (ps_ret (pe_lc (own := [("ending", 5), ("place", 6)]) (g := (gTup K 2 (gCons (gName 5) (gCons (gName 6) gNil)))) (by rfl) scOrder.nd (pi_list (pe_callB (cr_sortedD hr.units) (by rfl) T.sorted (by decide +kernel) (pa_cons (pv 1) pa_nil))) (blkOk_by (N := ["texts", "found", "number", "text", "at", "ending", "place"]) (sc := defScope sOrder) (by decide +kernel)) (fun _ _ _ _ _ => pg_tup (by rfl) (pgs_cons (pg_name (i := 5) scOrder.nd rfl (.inl rfl)) (pgs_cons (pg_name (i := 6) scOrder.nd rfl (.inl rfl)) pgs_nil))) (fun _ _ _ _ _ => pts_nil) (fun _ _ _ _ _ => (pv 6))))))), ?_⟩
    obtain ⟨a, ts, rfl, ht, q⟩ := h
    refine ⟨by show 0 ≤ sizeLine; decide, fun f nf => ?_⟩
    have lm : (ts.map V.str).length = ts.length := List.length_map ..
    have few8 := ht.few
    refine ⟨.ref a, rfl, a, _, rfl, sq_of ((Same.new nf) _ _ ht.at_), for_it (walk_enum (K := K) (a := a) (xs := ts.map V.str)) (fun i σ H' => ∃ (x y : Option V) (us : List V), σ = [some (.ref a), some (.ref f), x, y, none, none, none] ∧ Same H H' ∧ H' f = some (.lst us) ∧ All2 (RB ts H') us (plN ts i)) ⟨_, _, [], rfl, Same.new nf, upd_same, .nil⟩ (fun i σ H' _ w => ?_) ?_ ?_⟩
    · obtain ⟨x, y, us, rfl, k, _⟩ := w
      exact sq_of (k _ _ ht.at_)
    · rintro i x σ H1 H2 hi ⟨u, y, us, rfl, k1, hf, hu⟩ ⟨T, x1, x2, rfl, nT, rfl, e1, e2⟩
      rw [lm] at hi
      cases e1
      obtain rfl : V.str (tx ts i) = x2 := Option.some.inj ((tx_at hi).symm.trans e2)
      have k2 : Same H1 (upd H1 T (.tup [.int (i : Nat), .str (tx ts i)])) := Same.new nT
      have hT : upd H1 T (.tup [.int (i : Nat), .str (tx ts i)]) T = some (.tup [.int (i : Nat), .str (tx ts i)]) := upd_same
      revert k2 hT
      generalize upd H1 T (.tup [.int (i : Nat), .str (tx ts i)]) = H2
      intro k2 hT
      have ln1 : (tx ts i).length ≤ 200 := tx_len ht.len i
      refine ⟨T, _, rfl, SqT.of hT, rfl, _, _, rfl, _, _, rfl, rfl, ?_⟩
      dsimp only [tNext, tDrop, gNil]
      refine ⟨.ref f, rfl, .inl ⟨rfl, _, sq_of (k2 _ _ hf)⟩, .str (tx ts i), rfl, _, rfl, len5 (by omega), _, rfl, by omega, by omega, fun D nD => lc_range (fun j H' => Same H2 H' ∧ ∃ vs, H' D = some (.lst vs) ∧ All2 (RB ts H') vs ((List.range j).map (fun k => (i, k)))) ⟨Same.new nD, [], upd_same, .nil⟩ ?_ ?_⟩
      · rintro j H3 hj ⟨k3, vs, hD, hv⟩
        have hj2 : j < (tx ts i).length := by omega
        have e0 : (0 + (j : Int)) = (j : Nat) := by omega
        rw [e0]
        refine ⟨rfl, .str (tx ts i), rfl, .int (j : Nat), rfl, _, rfl, _, rfl, len5 (by omega), _, rfl, _, rfl, by show 2 ≤ sizeLine; decide, fun c nc => ⟨by show 2 ≤ sizeLine; decide, fun b nb => ⟨vs, ?_, ?_, sameAt ((k3.trans (Same.new nc)).trans (Same.new nb)) nD, vs ++ [.ref b], upd_same, ?_⟩⟩⟩
        · exact (Same.new nb) _ _ ((Same.new nc) _ _ hD)
        · have z1 := hv.len
          rw [List.length_map, List.length_range] at z1
          have h3 : sizeLine = 16777216 := sizeLine_eq
          omega
        · rw [row_take ts i j hj2]
          exact add_rowB (p := (i, j)) rfl upd_same nb ((Same.new nc) _ _ hD) (hv.imp fun _ _ r => r.same (Same.new nc))
      · rintro H3 ⟨k3, vs, hD, hv⟩
        have kk := k2.trans k3
        have e : (List.range (((tx ts i).length : Nat) : Int).toNat).map (fun k => ((i, k) : Pl)) = row ts i := by
          unfold row
          rw [show (((tx ts i).length : Nat) : Int).toNat = (tx ts i).length by omega]
        rw [e] at hv
        have hf3 := kk _ _ hf
        refine ⟨f, D, us, vs, rfl, rfl, hf3, hD, ?_, _, _, us ++ vs, rfl, sameAt (k1.trans kk) nf, upd_same, ?_⟩
        · rw [hu.len, hv.len]
          have z2 := plN_len ht.len i
          have : (row ts i).length = (tx ts i).length := by unfold row; rw [List.length_map, List.length_range]
          have h3 : sizeLine = 16777216 := sizeLine_eq
          omega
        · rw [plN_succ]
          have keep : ∀ d xs, H3 d = some (.tup xs) → upd H3 f (.lst (us ++ vs)) d = some (.tup xs) := fun d xs r => by
            have nd : d ≠ f := fun e => by rw [e, hf3] at r; cases r
            rw [upd_ne nd]
            exact r
          exact (hu.imp fun _ _ ⟨d, c, e, r1, r2⟩ => ⟨d, c, e, keep _ _ (kk _ _ r1), keep _ _ (kk _ _ r2)⟩).app (hv.imp fun _ _ ⟨d, c, e, r1, r2⟩ => ⟨d, c, e, keep _ _ r1, keep _ _ r2⟩)
    · rintro σ H1 ⟨x, y, us, rfl, k1, hf, hu⟩
      rw [lm] at hu
      refine ⟨.ref f, rfl, ?_⟩
      dsimp only [tNil]
      refine sorted_rowsB hf hu fun A ws nA hw => ?_
      have kA : Same H (upd H1 A (.lst ws)) := k1.trans (Same.new nA)
      have hw := hw.imp fun _ _ r => r.same (Same.new (o := .lst ws) nA)
      have hA : upd H1 A (.lst ws) A = some (.lst ws) := upd_same
      have few : (plN ts ts.length).length ≤ 2000 := by
        have := plN_len ht.len ts.length
        omega
      revert kA hw hA
      generalize upd H1 A (.lst ws) = HX
      intro kA hw hA
      have lq : ((plN ts ts.length).mergeSort (leP ts)).length ≤ 2000 := by rw [List.length_mergeSort]; exact few
      have q : ∀ b H', Same H H' → H b = none → PsL H' b ((plN ts ts.length).mergeSort (leP ts)) → Q (.ref b) H' := q
      revert q lq hw
      generalize (plN ts ts.length).mergeSort (leP ts) = qs
      intro hw lq q
      refine ⟨A, rfl, ⟨_, sq_of hA⟩, fun D nD => lc_list (xs := ws) (fun i H' => Same HX H' ∧ ∃ us, H' D = some (.lst us) ∧ All2 (PAt H') us (qs.take i)) ⟨Same.new nD, [], upd_same, .nil⟩ (fun i H' _ w => sq_of (w.1 _ _ hA)) ?_ ?_⟩
      · rintro i x H2 hx ⟨k2, us, hD, hu⟩
        obtain ⟨p, ep, b, c, rfl, eb, ec⟩ := hw.at hx
        have eb2 := k2 _ _ eb
        refine ⟨b, _, rfl, SqT.of eb2, rfl, _, _, rfl, _, _, rfl, rfl, rfl, .ref c, rfl, us, hD, ?_, sameAt k2 nD, us ++ [.ref c], upd_same, ?_⟩
        · have z1 := hu.len
          rw [List.length_take] at z1
          have h3 : sizeLine = 16777216 := sizeLine_eq
          have h4 : i < qs.length := (List.getElem?_eq_some_iff.mp ep).1
          omega
        · rw [take_snoc ep]
          have keep : ∀ d xs, H2 d = some (.tup xs) → upd H2 D (.lst (us ++ [.ref c])) d = some (.tup xs) := fun d xs r => by
            have nd : d ≠ D := fun e => by rw [e, hD] at r; cases r
            rw [upd_ne nd]
            exact r
          exact All2.snoc (hu.imp fun _ _ ⟨d, e, r⟩ => ⟨d, e, keep _ _ r⟩) ⟨c, rfl, keep _ _ (k2 _ _ ec)⟩
      · rintro H2 ⟨k2, us, hD, hu⟩
        rw [hw.len, List.take_length] at hu
        exact q D H2 (kA.trans k2) (Same.free kA nD) ⟨us, hD, hu⟩
theorem okz_Row {f : Addr} {fd : FuncData} (F : Fun K "_law_row" "_law_row" sRow f fd)  {fOrder : Addr} {fdOrder : FuncData} (DOrder : Dk P w K mg base "_law_order" sOrder ["texts"] 1 spLOrderL fOrder fdOrder) (T : Glob mg) : FnOk P w K mg base CX0 2 f fd ["texts"] spLRowL := by
  refine F.ok scRow (fun vs H Q E h => ?_) (fun cdv A outer s H vs Q E hr h => ?_)
  · obtain ⟨a, ts, rfl, _⟩ := h
    rfl
  · refine ⟨_, (pss_cons (ps_setLc (i := 1) (own := [("text", 4)]) (g := gName 4) (by rfl) scRow.nd rfl rfl (sw_true rfl rfl rfl (by decide +kernel)) (pi_list (pv 0)) (blkOk_by (N := ["texts", "found", "number", "at", "text"]) (sc := defScope sRow) (by decide +kernel)) (fun _ _ _ _ _ => pg_name (i := 4) scRow.nd rfl (.inl rfl)) (fun _ _ _ _ _ => pts_nil) (fun _ _ _ _ _ => (pe_slice sl_str (pv 4) (po_some (pe_un un_neg pe_int)) po_none)))
      (pss_cons (ps_for PassesOwn.never rfl (pi_list (pe_call DOrder.ok (hr.mono (by decide)) (by rfl) DOrder.g DOrder.F.kp DOrder.b .nil pass0 (pa_cons (pv 0) pa_nil))) (pg_tup (by rfl) (pgs_cons (pg_name (i := 2) scRow.nd rfl (.inl rfl)) (pgs_cons (pg_name (i := 3) scRow.nd rfl (.inl rfl)) pgs_nil)))
      (pss_one (ps_expr (pe_bm PySem.F.plainAttrs_list PySem.F.slot_list_append PySem.F.type_list_append mt_append (pv 1) (pa_cons (pe_ifExp (pt_cmpR op_gt (pv 3) pe_int (nomark _)) (pe_slice sl_str (pe_ix ix_list (pv 0) (pv 2) (fun _ _ => rfl)) (po_some (pe_op op_sub (pv 3) pe_int)) (po_some (pv 3))) pe_str) pa_nil)))))
      (pss_one (ps_ret (pe_callTy call_tuple_of (by rfl) T.tuple (by decide +kernel) (pa_cons (pv 1) pa_nil)))))), ?_⟩
    obtain ⟨a, ts, rfl, ht, q⟩ := h
    have few8 := ht.few
    have ol : (ord ts).length ≤ 1600 := ord_len ht.len ht.few
    refine ⟨.ref a, rfl, a, rfl, ⟨_, sq_of ht.at_⟩, fun D nD => lc_list (xs := ts.map V.str) (fun i H' => Same H H' ∧ H' D = some (.lst (((List.range i).map fun i => sgS ts (i, (txc ts i).length)).map V.str))) ⟨Same.new nD, upd_same⟩ (fun i H' _ w => sq_of (w.1 _ _ ht.at_)) ?_ ?_⟩
    · rintro i x H1 hx ⟨k1, hD⟩
      rw [List.getElem?_map] at hx
      obtain ⟨t, het, rfl⟩ := Option.map_eq_some_iff.mp hx
      have et : tx ts i = t := by show ts.getD i Str.empty = t; rw [List.getD_eq_getElem?_getD, het]; rfl
      have il : i < ts.length := (List.getElem?_eq_some_iff.mp het).1
      refine ⟨rfl, .str t, rfl, _, rfl, _, rfl, t, rfl, len5 (Nat.le_trans (ht.len t (List.mem_of_getElem? het)) (by decide)), _, hD, ?_, sameAt k1 nD, ?_⟩
      · rw [List.length_map, List.length_map, List.length_range, sizeLine_eq]
        omega
      · rw [upd_same, List.range_succ, List.map_append, List.map_append]
        show some (HO.lst (_ ++ [V.str (cutS t (some (-1)) none)])) = some (HO.lst (_ ++ [V.str (sgS ts (i, (txc ts i).length))]))
        rw [← sgS_end, et]
    rintro H1 ⟨k1, hD⟩
    rw [List.length_map] at hD
    dsimp only [gName, tSeq]
    refine ⟨.ref a, rfl, a, ts, rfl, ht.same k1, fun O H2 k2 nO ⟨vs, hO, hv⟩ => ?_⟩
    have hD2 := k2 _ _ hD
    have ht2 := (ht.same k1).same k2
    have lv := hv.len
    refine ⟨O, rfl, ⟨_, sq_of hO⟩, for_list (xs := vs) (fun j σ H' => ∃ u2 u3 : Option V, σ = [some (.ref a), some (.ref D), u2, u3, none] ∧ Same H H' ∧ (∀ c xs, H2 c = some (.tup xs) → H' c = some (.tup xs)) ∧ H' a = some (.lst (ts.map V.str)) ∧ H' O = some (.lst vs) ∧ H' D = some (.lst ((((List.range ts.length).map fun i => sgS ts (i, (txc ts i).length)) ++ ((ord ts).take j).map (sgS ts)).map V.str))) ⟨_, _, rfl, k1.trans k2, fun _ _ h => h, ht2.at_, hO, by rw [hD2]; simp⟩ (fun j σ H' _ w => by obtain ⟨_, _, _, _, _, _, w, _⟩ := w; exact sq_of w) ?_ ?_⟩
    · rintro j x σ H3 hx ⟨u2, u3, rfl, k3, kt, kl, hO3, hD3⟩
      obtain ⟨p, ep, b, rfl, eb⟩ := hv.at hx
      have ip := ord_mem.mp (List.mem_of_getElem? ep)
      have eb3 := kt _ _ eb
      have ta3 := kl
      have tl := tx_len ht.len p.1
      have nOD : O ≠ D := fun e => by rw [e, (k2 _ _ hD)] at hO; exact absurd nO (by rw [e, hD]; simp)
      have naD : a ≠ D := fun e => by rw [← e, ht.at_] at nD; cases nD
      have fin : ∀ {σ' : L2.St} (z : Str), z = sgS ts p → σ' = [some (.ref a), some (.ref D), some (.int (p.1 : Nat)), some (.int (p.2 : Nat)), none] → ∃ u2 u3 : Option V, σ' = [some (.ref a), some (.ref D), u2, u3, none] ∧ Same H (upd H3 D (.lst ((((List.range ts.length).map fun i => sgS ts (i, (txc ts i).length)) ++ ((ord ts).take j).map (sgS ts)).map V.str ++ [.str z]))) ∧ (∀ c xs, H2 c = some (.tup xs) → upd H3 D (.lst ((((List.range ts.length).map fun i => sgS ts (i, (txc ts i).length)) ++ ((ord ts).take j).map (sgS ts)).map V.str ++ [.str z])) c = some (.tup xs)) ∧ upd H3 D (.lst ((((List.range ts.length).map fun i => sgS ts (i, (txc ts i).length)) ++ ((ord ts).take j).map (sgS ts)).map V.str ++ [.str z])) a = some (.lst (ts.map V.str)) ∧ upd H3 D (.lst ((((List.range ts.length).map fun i => sgS ts (i, (txc ts i).length)) ++ ((ord ts).take j).map (sgS ts)).map V.str ++ [.str z])) O = some (.lst vs) ∧ upd H3 D (.lst ((((List.range ts.length).map fun i => sgS ts (i, (txc ts i).length)) ++ ((ord ts).take j).map (sgS ts)).map V.str ++ [.str z])) D = some (.lst ((((List.range ts.length).map fun i => sgS ts (i, (txc ts i).length)) ++ ((ord ts).take (j + 1)).map (sgS ts)).map V.str)) := fun z e1 e2 => by
        refine ⟨_, _, e2, sameAt k3 nD, fun c xs h => ?_, ?_, ?_, ?_⟩
        · have h3 := kt _ _ h
          have n : c ≠ D := fun e => by rw [e, hD3] at h3; cases h3
          rw [upd_ne n]
          exact h3
        · rw [upd_ne naD]
          exact kl
        · rw [upd_ne nOD]
          exact hO3
        · rw [upd_same, take_snoc ep, e1]
          simp
      have len : ((((List.range ts.length).map fun i => sgS ts (i, (txc ts i).length)) ++ ((ord ts).take j).map (sgS ts)).map V.str).length < sizeLine := by
        rw [List.length_map, List.length_append, List.length_map, List.length_range, List.length_map, List.length_take, sizeLine_eq]
        omega
      have lp : p.2 ≤ (txc ts p.1).length := by have := ip.at_; rw [len_S] at this; exact Nat.le_of_lt this
      refine ⟨b, _, rfl, SqT.of eb3, rfl, _, _, rfl, _, _, rfl, rfl, ?_⟩
      refine ⟨.ref D, rfl, .inl ⟨rfl, _, sq_of hD3⟩, ?_⟩
      refine ⟨.int (p.2 : Nat), rfl, _, _, rfl, rfl, _, rfl, ite2 (fun e => ?_) (fun e => ?_)⟩
      · have p0 : 0 < p.2 := by have := of_decide_eq_true e; omega
        refine ⟨.ref a, rfl, .int (p.1 : Nat), rfl, a, _, _, _, rfl, rfl, sq_of ta3, atI_nat (tx_at ip.text), .int (p.2 : Nat), rfl, _, _, rfl, rfl, _, rfl, .int (p.2 : Nat), rfl, _, rfl, _, rfl, len5 (by omega), D, _, _, rfl, rfl, hD3, len, ?_⟩
        exact fin _ (sg_cut p0 lp) rfl
      · have p0 : p.2 = 0 := by
          rcases Nat.eq_zero_or_pos p.2 with z | z
          · exact z
          · exact absurd (decide_eq_true (show (0 : Int) < ((p.2 : Nat) : Int) by omega)) e
        refine ⟨D, _, _, rfl, rfl, hD3, len, ?_⟩
        refine fin _ ?_ rfl
        rw [show p = (p.1, 0) from Prod.ext rfl p0, sg_first]
    · rintro σ H3 ⟨u2, u3, rfl, k3, kt, kl, hO3, hD3⟩
      rw [lv, List.take_length, ← row_split] at hD3
      exact ⟨.ref D, rfl, D, _, rfl, .inl ⟨sq_of hD3, fun t nt => q t _ (k3.trans (Same.new nt)) upd_same⟩⟩
end
end LawK
set_option maxHeartbeats 4000000
namespace LawK
open PySem PySem.Spec PyProof.Rows L2 Ev

open PySem.W
def lit : V → Bool
  | .str z => decide (z.length < 2)
  | _ => false
theorem z_len0 {z : Str} (h : ¬ z = "") : 0 < z.length := by
  rcases Nat.eq_zero_or_pos z.length with e | e
  · refine absurd ?_ h
    have en : z.cps.toList = [] := List.eq_nil_of_length_eq_zero (by rw [← len_S]; exact e)
    rw [← S_eta z, en]
    rfl
  · exact e
theorem lit_map : ∀ {vs : List V}, vs.all lit = true → vs = (vs.map toS).map V.str
  | [], _ => rfl
  | v :: vs, h => by
    rw [List.all_cons, Bool.and_eq_true] at h
    have ih := lit_map h.2
    rw [List.map_cons, List.map_cons, ← ih]
    cases v with
    | str z => rfl
    | _ => cases h.1
theorem one1_lit {vs : List V} (h : vs.all one1 = true) : vs.all lit = true := by
  rw [List.all_eq_true] at *
  intro v hv
  have := h v hv
  cases v with
  | str z =>
    have this : (sgB z && decide (z.length < 2)) = true := this
    exact (Bool.and_eq_true_iff.mp this).2
  | _ => cases this
theorem rng_sg {z : Str} (h : z.length = 1) : (if (!decide (cod z < (" " : Str).cps.toList)) = true then !decide (("~" : Str).cps.toList < cod z) else false) = sgB z := by
  have e32 : (" " : Str).cps.toList = [32] := by decide +kernel
  have e126 : ("~" : Str).cps.toList = [126] := by decide +kernel
  rw [len_S] at h
  obtain ⟨c, ec⟩ : ∃ c, cod z = [c] := by
    match hh : cod z, h with
    | [c], _ => exact ⟨c, rfl⟩
    | [], h => have hh : z.cps.toList = [] := hh; rw [hh] at h; cases h
    | a :: b :: r, h => have hh : z.cps.toList = a :: b :: r := hh; rw [hh] at h; simp at h
  have ez : z = SX.S [c] := cod_inj ec
  rw [e32, e126, ec, ez, sgB_S]
  have l1 : ([c] < [32]) ↔ c < 32 := by
    rw [RowM.ltc]
    exact ⟨fun h => h.elim id fun h => absurd h.2 (RowM.lirr _), .inl⟩
  have l2 : ([126] < [c]) ↔ 126 < c := by
    rw [RowM.ltc]
    exact ⟨fun h => h.elim id fun h => absurd h.2 (RowM.lirr _), .inl⟩
  have d1 : decide ([c] < [32]) = decide (c < 32) := decide_eq_decide.mpr l1
  have d2 : decide ([126] < [c]) = decide (126 < c) := decide_eq_decide.mpr l2
  rw [d1, d2]
  show _ = (sgC c && true)
  rw [Bool.and_true]
  unfold sgC
  by_cases a : c < 32 <;> by_cases b : 126 < c <;> simp [a, b] <;> omega
theorem sfj_sg {zs : List Str} (rz : Rz zs) {i : Nat} (hi : i < zs.length) : ∀ m, sgB (SX.S (RowI.sfj (sZ zs) zs.length i m)) = true
  | 0 => rfl
  | m + 1 => by
    have ih := sfj_sg rz hi m
    rw [sgB_S] at ih ⊢
    show ((sZ zs (RowI.w (sZ zs) zs.length i m)) ++ _).all sgC = true
    rw [List.all_append, ih, Bool.and_true]
    have hw := RowI.w_lt (s := sZ zs) hi m
    have : rwZ zs (RowI.w (sZ zs) zs.length i m) ∈ zs := by
      unfold rwZ
      rw [List.getD_eq_getElem?_getD, List.getElem?_eq_getElem hw]
      exact List.getElem_mem hw
    have g := (rz.sg _ this).1
    exact List.all_eq_true.mpr fun c hc => sgB_mem g hc
def spReadRow : Sp := fun vs H Q _ => ∃ (x : V) (o : Option (List V)), vs = [x] ∧ Th H x o ∧ (dueO o = none → ∀ H', Same H H' → Q .non H') ∧ ∀ ts, dueO o = some ts → ∀ b H', Same H H' → H' b = some (.tup (ts.map V.str)) → Q (.ref b) H'
section
variable {P : Program} {w : World} {K : PySem.W.Frag} {mg : Str → Option Value} {base : Heap}
abbrev sReadRow : Stmt := topS 37
theorem scReadRow : FnScope ["row", "many", "texts", "number", "text", "at", "turn", "sign", "one"] ["row"] (defScope sReadRow) := ⟨rfl, rfl, rfl, by decide +kernel, rfl, by decide +kernel, by decide +kernel⟩
theorem ok_ReadRow {f : Addr} {fd : FuncData} (F : Fun K "_law_read_row" "_law_read_row" sReadRow f fd)  {fRow : Addr} {fdRow : FuncData} (DRow : Dk P w K mg base "_law_row" sRow ["texts"] 2 spLRowL fRow fdRow) (T : Glob mg) : FnOk P w K mg base CX0 3 f fd ["row"] spReadRow := by
  refine F.ok scReadRow (fun vs H Q E h => ?_) (fun cdv A outer s H vs Q E hr h => ?_)
  · obtain ⟨x, o, rfl, _⟩ := h
    rfl
  · refine ⟨_, (pss_cons (ps_if (PW.pt (pw_or (pt_not (pt_val (pe_callB call_isi (by rfl) T.isinstance PyProof.Rows.boot_isinstance (pa_cons (pv 0) (pa_cons (pe_bltn (v := .ty "tuple") (by rfl) T.tuple (by decide +kernel) rfl) pa_nil))))) (pw_or1 (pt_not (pt_val (pe_callB (cr_all rfl) (by rfl) T.all (by decide +kernel) (pa_cons (pe_lc (own := [("sign", 7)]) (g := gName 7) (by rfl) scReadRow.nd (pi_tup (pv 0)) (blkOk_by (N := ["row", "many", "texts", "number", "text", "at", "turn", "sign", "one"]) (sc := defScope sReadRow) (by decide +kernel)) (fun _ _ _ _ _ => pg_name (i := 7) scReadRow.nd rfl (.inl rfl)) (fun _ _ _ _ _ => pts_nil) (fun _ _ _ _ _ => (pe_and (pe_callB (r := rIsi K) call_isi (by rfl) T.isinstance PyProof.Rows.boot_isinstance (pa_cons (pv 7) (pa_cons (pe_bltn (v := .ty "str") (by rfl) T.str (by decide +kernel) rfl) pa_nil))) (pe_one (pe_cmpR op_lt (pe_callB call_lenZ (by rfl) T.len PySem.boot_len (pa_cons (pv 7) pa_nil)) pe_int (nomark _)))))) pa_nil)))))))
      (pss_one (ps_ret pe_non))
      pss_nil)
      (pss_cons (ps_set (i := 1) scReadRow.nd rfl (.inl rfl) (pe_callB call_len_seq (by rfl) T.len PySem.boot_len (pa_cons (pe_lc (own := [("sign", 7)]) (g := gName 7) (by rfl) scReadRow.nd (pi_tup (pv 0)) (blkOk_by (N := ["row", "many", "texts", "number", "text", "at", "turn", "sign", "one"]) (sc := defScope sReadRow) (by decide +kernel)) (fun _ _ _ _ _ => pg_name (i := 7) scReadRow.nd rfl (.inl rfl)) (fun _ _ _ _ _ => (pts_one (pt_cmpR op_eq (pv 7) pe_str (nomark _)))) (fun _ _ _ _ _ => (pv 7))) pa_nil)))
      (pss_cons (ps_if (PW.pt (pw_or (pt_cmpR op_gt (pv 1) pe_int (nomark _)) (pw_or (pt_cmpR op_gt (pv 1) (pe_callB call_len_seq (by rfl) T.len PySem.boot_len (pa_cons (pv 0) pa_nil)) (nomark _)) (pw_or1 (pt_not (pt_val (pe_callB (cr_all rfl) (by rfl) T.all (by decide +kernel) (pa_cons (pe_lc (own := [("sign", 7)]) (g := gName 7) (by rfl) scReadRow.nd (pi_tup (pv 0)) (blkOk_by (N := ["row", "many", "texts", "number", "text", "at", "turn", "sign", "one"]) (sc := defScope sReadRow) (by decide +kernel)) (fun _ _ _ _ _ => pg_name (i := 7) scReadRow.nd rfl (.inl rfl)) (fun _ _ _ _ _ => (pts_one (pt_cmpR op_ne (pv 7) pe_str (nomark _)))) (fun _ _ _ _ _ => (pe_chain op_le_str op_le_str pe_str (pv 7) pe_str))) pa_nil))))))))
      (pss_one (ps_ret pe_non))
      pss_nil)
      (pss_cons (ps_set (i := 2) scReadRow.nd rfl (.inl rfl) (pe_lst pa_nil))
      (pss_cons (ps_for PassesOwn.never rfl (pi_range1 (by rfl) T.range (pa_cons (pv 1) pa_nil)) (pg_name (i := 3) scReadRow.nd rfl (.inl rfl))
      (pss_cons (ps_par (i := 4) (j := 5) (by rfl) scReadRow.nd rfl rfl (by decide) rfl rfl (pa_cons pe_str (pa_cons (pv 3) pa_nil)) (by rfl))
        (pss_cons (ps_for PassesOwn.never rfl (pi_range1 (by rfl) T.range (pa_cons (pe_callB call_len_seq (by rfl) T.len PySem.boot_len (pa_cons (pv 0) pa_nil)) pa_nil)) (pg_name (i := 6) scReadRow.nd rfl (.inl rfl))
        (pss_cons (ps_set (i := 7) scReadRow.nd rfl (.inr rfl) (pe_ix ix_tup (pv 0) (pv 5) (fun _ _ => rfl)))
          (pss_one (ps_if (pt_cmpR op_ne (pv 7) pe_str (nomark _))
          (pss_cons (ps_set (i := 4) scReadRow.nd rfl (.inl rfl) (pe_op op_add_str (pv 7) (pv 4)))
            (pss_one (ps_set (i := 5) scReadRow.nd rfl (.inl rfl) (pe_op op_add (pe_op op_add (pv 1) (pe_callB call_len_seq (by rfl) T.len PySem.boot_len (pa_cons (pe_lc (own := [("one", 8)]) (g := gName 8) (by rfl) scReadRow.nd (pi_tup (pv 0)) (blkOk_by (N := ["row", "many", "texts", "number", "text", "at", "turn", "sign", "one"]) (sc := defScope sReadRow) (by decide +kernel)) (fun _ _ _ _ _ => pg_name (i := 8) scReadRow.nd rfl (.inl rfl)) (fun _ _ _ _ _ => (pts_one (PW.pt (pw_and (pt_cmpR op_ne (pv 8) pe_str (nomark _)) (pw_and1 (pt_cmpR op_lt_str (pv 8) (pv 7) (nomark _))))))) (fun _ _ _ _ _ => (pv 8))) pa_nil))) (pe_callB call_len_seq (by rfl) T.len PySem.boot_len (pa_cons (pe_lc (own := [("one", 8)]) (g := gName 8) (by rfl) scReadRow.nd (pi_tup (pe_slice sl_tupF (pv 0) po_none (po_some (pv 5)))) (blkOk_by (N := ["row", "many", "texts", "number", "text", "at", "turn", "sign", "one"]) (sc := defScope sReadRow) (by decide +kernel)) (fun _ _ _ _ _ => pg_name (i := 8) scReadRow.nd rfl (.inl rfl)) (fun _ _ _ _ _ => (pts_one (pt_cmpR op_eq (pv 8) (pv 7) (nomark _)))) (fun _ _ _ _ _ => (pv 8))) pa_nil))))))
          pss_nil))))
        (pss_cons (ps_if (PW.pt (pw_or (pt_cmpR op_ge (pv 5) (pe_callB call_len_seq (by rfl) T.len PySem.boot_len (pa_cons (pv 0) pa_nil)) (nomark _)) (pw_or1 (pt_cmpR op_ne (pe_ix ix_tup (pv 0) (pv 5) (fun _ _ => rfl)) pe_str (nomark _)))))
        (pss_one (ps_ret pe_non))
        pss_nil)
        (pss_one (ps_expr (pe_bm PySem.F.plainAttrs_list PySem.F.slot_list_append PySem.F.type_list_append mt_append (pv 2) (pa_cons (pv 4) pa_nil))))))))
      (pss_one (ps_ret (pe_ifExp (pt_cmpR (op_eqD hr.units) (pe_call DRow.ok (hr.mono (by decide)) (by rfl) DRow.g DRow.F.kp DRow.b .nil pass0 (pa_cons (pv 2) pa_nil)) (pv 0) (nomark _)) (pe_callTy call_tuple_of (by rfl) T.tuple (by decide +kernel) (pa_cons (pv 2) pa_nil)) pe_non)))))))), ?_⟩
    obtain ⟨x, o, rfl, ht, q0, q1⟩ := h
    have sz := sizeLine_eq
    refine (?_ : ∀ Q : Bool → Hp → Prop, (∀ H1, Same H H1 → (∀ b, (b = false → ∃ a vs, x = .ref a ∧ o = some vs ∧ vs.all lit = true) → (b = true → dueO o = none) → Q b H1)) → tOr _ _ _ H Q) _ ?_
    · intro Q0 k0
      cases ht with
      | @no _ k hk n =>
        refine ⟨x, rfl, x, .ty "tuple", .type (Kn.name k), .type "tuple", kitB k .tup, rfl, .ty _, hk.ty, kit_kn k .tup, _, rfl, ?_⟩
        have kf : kitB k .tup = false := by
          cases k <;> first | rfl | exact absurd rfl n
        rw [kf]
        exact iteT (k0 H (Same.refl H) true (fun z => by cases z) fun _ => rfl)
      | @tup a vs ha few hv =>
        refine ⟨.ref a, rfl, .ref a, .ty "tuple", .type (Kn.name .tup), .type "tuple", kitB .tup .tup, rfl, .ty _, (let ⟨o, e, _⟩ := ha; .fTuple e), kit_kn .tup .tup, _, rfl, iteF ?_⟩
        refine ⟨.ref a, rfl, a, rfl, ⟨_, ha.sq⟩, fun D nD => lc_tup (K := K) (xs := vs) (fun i H' => Same H H' ∧ H' D = some (.lst (((vs.take i).map lit).map V.bl))) ⟨Same.new nD, upd_same⟩ (fun i H' _ w => (TupF.same w.1 ha).sq) ?_ ?_⟩
        · rintro i y H1 hx ⟨k1, hD⟩
          obtain ⟨lz, k, hk⟩ := hv y (List.mem_of_getElem? hx)
          have il := (List.getElem?_eq_some_iff.mp hx).1
          have len : (((vs.take i).map lit).map V.bl).length < sizeLine := by
            rw [List.length_map, List.length_map, List.length_take]
            omega
          refine ⟨rfl, y, rfl, y, .ty "str", .type (Kn.name k), .type "str", kitB k .str, rfl, .ty _, (hk.same k1).ty, kit_kn k .str, _, rfl, ?_⟩
          by_cases e : k = .str
          · obtain ⟨z, rfl⟩ := hk.str e
            subst e
            have lz := lz z rfl
            have o1 : lit (.str z) = decide ((z.length : Int) < 2) := by
              show decide (z.length < 2) = _
              exact decide_eq_decide.mpr (by omega)
            refine iteT ⟨.str z, rfl, z, rfl, len5 lz, _, _, rfl, rfl, _, hD, len, sameAt k1 nD, ?_⟩
            rw [upd_same, take_snoc hx, List.map_append, List.map_append]
            dsimp only
            rw [← o1]
            rfl
          · have kf : kitB k .str = false := by
              cases k <;> first | rfl | exact absurd rfl e
            have o1 : lit y = false := by
              cases y with
              | str z =>
                rcases hk with hk | ⟨_, _, _, w, _⟩
                · cases hk
                  exact absurd rfl e
                · cases w
              | _ => rfl
            rw [kf]
            refine iteF ⟨_, hD, len, sameAt k1 nD, ?_⟩
            rw [upd_same, take_snoc hx, List.map_append, List.map_append]
            show some (HO.lst (_ ++ [V.bl false])) = some (HO.lst (_ ++ [V.bl (lit y)]))
            rw [o1]
        rintro H1 ⟨k1, hD⟩
        rw [List.take_length] at hD
        refine ⟨D, _, rfl, sq_of hD, _, rfl, ?_⟩
        have eb : (vs.map lit).all id = vs.all lit := by
          rw [List.all_map]
          rfl
        rw [eb]
        refine k0 H1 k1 _ (fun e => ⟨a, vs, rfl, rfl, by simpa using e⟩) fun e => if_neg fun z => ?_
        have := one1_lit (Bool.and_eq_true_iff.mp z.1).1
        rw [this] at e
        cases e
    intro H1 k1 b hb hn
    cases b with
    | true => exact iteT (q0 (hn rfl) H1 k1)
    | false =>
      obtain ⟨a, vs, rfl, rfl, hl⟩ := hb rfl
      refine iteF ?_
      dsimp only [tNext, tDrop]
      obtain ⟨ha, few, hv⟩ : TupF H a vs ∧ vs.length ≤ 200 ∧ ∀ v ∈ vs, Vs v ∧ ∃ k, Ko H v k := by
        cases ht with
        | tup h few hv => exact ⟨h, few, hv⟩
      have em := lit_map hl
      obtain ⟨zs, ez⟩ : ∃ zs, zs = vs.map toS := ⟨_, rfl⟩
      rw [← ez] at em
      subst em
      have ez : (zs.map V.str).map toS = zs := ez.symm
      have ha : TupF H1 a (zs.map V.str) := TupF.same k1 ha
      rw [List.length_map] at few
      have one : ∀ z ∈ zs, z.length < 2 := fun z hz => of_decide_eq_true (List.all_eq_true.mp hl (.str z) (List.mem_map.mpr ⟨z, hz, rfl⟩))
      clear hl hn hb hv ht
      have ln1 : (zs.map V.str).length = zs.length := List.length_map ..
      refine ⟨.ref a, rfl, a, rfl, ⟨_, ha.sq⟩, fun D nD => lc_tup (K := K) (xs := zs.map V.str) (fun i H' => Same H1 H' ∧ H' D = some (.lst (((zs.take i).filter fun z => decide (z = ("" : Str))).map V.str))) ⟨Same.new nD, upd_same⟩ (fun i H' _ w => (TupF.same w.1 ha).sq) ?_ ?_⟩
      · rintro i x H2 hx ⟨k2, hD⟩
        rw [List.getElem?_map] at hx
        obtain ⟨z, hz, rfl⟩ := Option.map_eq_some_iff.mp hx
        refine ⟨rfl, .str z, rfl, rfl, _, rfl, ?_⟩
        rw [take_snoc hz, List.filter_append, dec_str]
        refine ite2 (fun c => ?_) (fun c => ?_)
        · refine ⟨.str z, rfl, _, hD, ?_, sameAt k2 nD, ?_⟩
          · have z1 := List.length_filter_le (fun z => decide (z = ("" : Str))) (zs.take i)
            rw [List.length_take] at z1
            rw [List.length_map]
            omega
          · rw [upd_same, List.filter_cons, if_pos c, List.map_append]
            rfl
        · rw [List.filter_cons, if_neg c, List.filter_nil, List.append_nil]
          exact ⟨k2, hD⟩
      rintro H2 ⟨k2, hD⟩
      rw [ln1, List.take_length] at hD
      have cm : (zs.filter fun z => decide (z = ("" : Str))).length = zs.count ("" : Str) := by
        have := count_map (fun z : Str => z) ("" : Str) zs
        rw [List.map_id'] at this
        exact this.symm
      refine ⟨D, _, rfl, .inl (sq_of hD), ?_⟩
      rw [List.length_map, cm]
      have ha := TupF.same k2 ha
      have k12 := k1.trans k2
      have cle : zs.count ("" : Str) ≤ zs.length := List.count_le_length
      clear hD nD
      dsimp only [tNext, tDrop, gName, tSeq]
      refine (?_ : ∀ Q : Bool → Hp → Prop, (∀ H3, Same H2 H3 → ∀ b, (b = false → Rz zs) → (b = true → formV (zs.map V.str) = false) → Q b H3) → tOr _ _ _ H2 Q) _ ?_
      · intro Q0 k0
        have bad : (8 < zs.count ("" : Str)) → formV (zs.map V.str) = false := fun g => by
          unfold formV
          rw [ez, decide_eq_false (by omega), Bool.and_false]
        refine ⟨_, rfl, _, _, rfl, rfl, _, rfl, ite2 (fun c => ?_) (fun c => ?_)⟩
        · exact k0 H2 (Same.refl H2) true (fun z => by cases z) fun _ => bad (by have := of_decide_eq_true c; omega)
        have f8 : zs.count ("" : Str) ≤ 8 := Nat.le_of_not_lt fun z => c (decide_eq_true (by omega))
        refine (?_ : ∀ Q : Bool → Hp → Prop, (∀ H3, Same H2 H3 → ∀ b, (b = false → Rz zs) → (b = true → formV (zs.map V.str) = false) → Q b H3) → tOr _ _ _ H2 Q) _ k0
        intro Q1 k1'
        refine ⟨_, rfl, .ref a, rfl, a, _, rfl, .inr ha.sq, _, _, rfl, rfl, _, rfl, ite2 (fun c => ?_) (fun c => ?_)⟩
        · have := of_decide_eq_true c
          rw [ln1] at this
          omega
        refine ⟨.ref a, rfl, a, rfl, ⟨_, ha.sq⟩, fun D nD => lc_tup (K := K) (xs := zs.map V.str) (fun i H' => Same H2 H' ∧ H' D = some (.lst ((((zs.take i).filter fun z => !decide (z = ("" : Str))).map sgB).map V.bl))) ⟨Same.new nD, upd_same⟩ (fun i H' _ w => (TupF.same w.1 ha).sq) ?_ ?_⟩
        · rintro i x H3 hx ⟨k3, hD⟩
          rw [List.getElem?_map] at hx
          obtain ⟨z, hz, rfl⟩ := Option.map_eq_some_iff.mp hx
          have lz := one z (List.mem_of_getElem? hz)
          refine ⟨rfl, .str z, rfl, rfl, _, rfl, ?_⟩
          rw [take_snoc hz, List.filter_append, dec_str]
          refine ite2 (fun c => ?_) (fun c => ?_)
          · have ne : ¬ z = "" := fun e => by rw [decide_eq_true e] at c; cases c
            have l1 : z.length = 1 := by have := z_len0 ne; omega
            have rs := rng_sg l1
            have len : ((((zs.take i).filter fun z => !decide (z = ("" : Str))).map sgB).map V.bl).length < sizeLine := by
              have z1 := List.length_filter_le (fun z => !decide (z = ("" : Str))) (zs.take i)
              rw [List.length_take] at z1
              rw [List.length_map, List.length_map]
              omega
            have fin : ∀ b, b = sgB z → ∃ acc, H3 D = some (.lst acc) ∧ acc.length < sizeLine ∧ Same H2 (upd H3 D (.lst (acc ++ [V.bl b]))) ∧ upd H3 D (.lst (acc ++ [V.bl b])) D = some (.lst ((((zs.take i).filter (fun z => !decide (z = ("" : Str))) ++ [z].filter (fun z => !decide (z = ("" : Str)))).map sgB).map V.bl)) := fun b e => by
              refine ⟨_, hD, len, sameAt k3 nD, ?_⟩
              rw [upd_same, List.filter_cons, if_pos c, e]
              simp
            refine ⟨.str z, rfl, _, _, rfl, rfl, _, rfl, ?_⟩
            by_cases g : (!decide (cod z < (" " : Str).cps.toList)) = true
            · rw [if_pos g] at rs
              rw [if_pos g]
              exact ⟨_, _, rfl, rfl, fin _ rs⟩
            · rw [if_neg g] at rs
              rw [if_neg g]
              exact fin _ rs
          · rw [List.filter_cons, if_neg c, List.filter_nil, List.append_nil]
            exact ⟨k3, hD⟩
        rintro H3 ⟨k3, hD⟩
        rw [ln1, List.take_length] at hD
        refine ⟨D, _, rfl, sq_of hD, _, rfl, ?_⟩
        have al : ((zs.filter fun z => !decide (z = ("" : Str))).map sgB).all id = decide (∀ z ∈ zs, sgB z = true) := by
          rw [Bool.eq_iff_iff, decide_eq_true_eq, List.all_eq_true]
          constructor
          · intro h z hz
            by_cases e : z = ""
            · rw [e]; decide +kernel
            · exact h (sgB z) (List.mem_map.mpr ⟨z, List.mem_filter.mpr ⟨hz, by rw [decide_eq_false e]; rfl⟩, rfl⟩)
          · intro h b hb
            obtain ⟨z, hz, rfl⟩ := List.mem_map.mp hb
            exact h z (List.mem_filter.mp hz).1
        rw [al]
        by_cases g : ∀ z ∈ zs, sgB z = true
        · rw [decide_eq_true g]
          exact k1' H3 k3 false (fun _ => ⟨few, fun z hz => ⟨g z hz, one z hz⟩, f8⟩) (fun z => by cases z)
        · rw [decide_eq_false g]
          refine k1' H3 k3 true (fun z => by cases z) fun _ => ?_
          unfold formV
          rw [show (zs.map V.str).all one1 = false from ?_, Bool.false_and]
          refine Bool.eq_false_iff.mpr fun z => g fun y hy => ?_
          have := one1_sg z
          rw [ez] at this
          exact (this y hy).1
      clear ha
      intro H3 k3 b hb hn
      have k13 := k12.trans k3
      have ha : TupF H3 a (zs.map V.str) := TupF.same k13 ‹TupF H a (zs.map V.str)›
      cases b with
      | true => exact iteT (q0 (if_neg fun z => by rw [hn rfl] at z; exact absurd z.1 (by decide)) H3 k13)
      | false =>
        have rz := hb rfl
        have f8 := rz.few
        refine iteF ?_
        dsimp only [tNext, tDrop, gName, tSeq]
        have em := emptZ zs
        have one1z := sZ_one rz
        have enl : RowI.empt (sZ zs) zs.length ≤ zs.length := RowI.empt_le
        have lts := tsI_len (ts := zs)
        refine ⟨by show 0 ≤ sizeLine; decide, fun F nF => ?_⟩
        have kF : Same H3 (upd H3 F (.lst [])) := Same.new nF
        refine ⟨_, rfl, _, rfl, by omega, by omega, for_range (fun i σ H' => ∃ u3 u4 u5 u6 u7 u8 : Option V, σ = [some (.ref a), some (.int (zs.count ("" : Str) : Nat)), some (.ref F), u3, u4, u5, u6, u7, u8] ∧ Same H3 H' ∧ H' F = some (.lst (((tsI zs).take i).map V.str))) ⟨_, _, _, _, _, _, rfl, kF, upd_same⟩ ?_ ?_⟩
        · rintro i σ H4 hi ⟨u3, u4, u5, u6, u7, u8, rfl, k4, hF⟩
          have hi : i < zs.count ("" : Str) := by omega
          have hie : i < RowI.empt (sZ zs) zs.length := by omega
          obtain ⟨ok1, ok2⟩ := RowI.ml_ok hie
          have lml := RowI.ml_lt hie
          have ha4 := TupF.same k4 ha
          have e0 : (0 + (i : Int)) = (i : Nat) := by omega
          rw [e0]
          refine ⟨_, rfl, _, _, rfl, ?_⟩
          refine ⟨.ref a, rfl, a, _, rfl, .inr ha4.sq, _, rfl, by omega, by omega, for_range (fun t σ H' => ∃ (j : Nat) (u6 u7 u8 : Option V), σ = [some (.ref a), some (.int (zs.count ("" : Str) : Nat)), some (.ref F), some (.int (i : Nat)), some (.str (SX.S (RowI.sfj (sZ zs) zs.length i j))), some (.int (RowI.w (sZ zs) zs.length i j : Nat)), u6, u7, u8] ∧ j ≤ RowI.ml (sZ zs) zs.length i ∧ (t ≤ j ∨ j = RowI.ml (sZ zs) zs.length i) ∧ Same H4 H') ⟨0, _, _, _, rfl, Nat.zero_le _, .inl (Nat.le_refl _), Same.refl H4⟩ ?_ ?_⟩
          · rintro t σ H5 ht ⟨j, u6, u7, u8, rfl, hj, hc, k5⟩
            have ha5 := TupF.same k5 ha4
            have hn2 : RowI.w (sZ zs) zs.length i j < zs.length := RowI.w_lt (by omega) j
            have at5 : atI (zs.map V.str) ((RowI.w (sZ zs) zs.length i j : Nat) : Int) = some (.str (rwZ zs (RowI.w (sZ zs) zs.length i j))) := atI_nat (by
              rw [List.getElem?_map, List.getElem?_eq_getElem hn2]
              unfold rwZ
              rw [List.getD_eq_getElem?_getD, List.getElem?_eq_getElem hn2]
              rfl)
            refine ⟨.ref a, rfl, _, rfl, a, _, _, _, rfl, rfl, ha5.sq, at5, ?_⟩
            refine ⟨.str (rwZ zs (RowI.w (sZ zs) zs.length i j)), rfl, rfl, _, rfl, ite2 (fun c => ?_) (fun c => ?_)⟩
            · have ne : ¬ rwZ zs (RowI.w (sZ zs) zs.length i j) = "" := fun e => by rw [e] at c; exact absurd c (by decide)
              have g : j < RowI.ml (sZ zs) zs.length i := by
                rcases Nat.lt_or_ge j (RowI.ml (sZ zs) zs.length i) with g | g
                · exact g
                · have : j = RowI.ml (sZ zs) zs.length i := by omega
                  subst this
                  exact absurd ((sZ_nil _ _).mp ok1) ne
              have lsf := RowI.sfj_len one1z i j (ok2.less hj)
              have lsf2 : (SX.S (RowI.sfj (sZ zs) zs.length i j)).length = j := lsf
              have mem : rwZ zs (RowI.w (sZ zs) zs.length i j) ∈ zs := by
                unfold rwZ
                rw [List.getD_eq_getElem?_getD, List.getElem?_eq_getElem hn2]
                exact List.getElem_mem hn2
              have lo := one _ mem
              have ps := pos_split hn2 ne
              refine ⟨.str (rwZ zs (RowI.w (sZ zs) zs.length i j)), rfl, .str (SX.S (RowI.sfj (sZ zs) zs.length i j)), rfl, _, _, rfl, rfl, by omega, ?_⟩
              refine ⟨_, rfl, .ref a, rfl, a, rfl, ⟨_, ha5.sq⟩, fun D nD => lc_tup (K := K) (xs := zs.map V.str) (fun l H' => Same H5 H' ∧ H' D = some (.lst (((zs.take l).filter fun z => !decide (z = ("" : Str)) && decide (cod z < cod (rwZ zs (RowI.w (sZ zs) zs.length i j)))).map V.str))) ⟨Same.new nD, upd_same⟩ (fun l H' _ w => (TupF.same w.1 ha5).sq) ?_ ?_⟩
              · rintro l x H6 hx ⟨k6, hD⟩
                rw [List.getElem?_map] at hx
                obtain ⟨z, hz, rfl⟩ := Option.map_eq_some_iff.mp hx
                refine ⟨rfl, ?_⟩
                rw [take_snoc hz, List.filter_append]
                refine (?_ : ∀ Q : Bool → Hp → Prop, Q (!decide (z = ("" : Str)) && decide (cod z < cod (rwZ zs (RowI.w (sZ zs) zs.length i j)))) H6 → tAnd _ _ _ H6 Q) _ ?_
                · intro Q0 k0
                  refine ⟨.str z, rfl, rfl, _, rfl, ?_⟩
                  rw [dec_str]
                  refine ite2 (fun c => ?_) (fun c => ?_)
                  · rw [c, Bool.true_and] at k0
                    exact ⟨.str z, rfl, .str _, rfl, _, _, rfl, rfl, _, rfl, k0⟩
                  · rw [show (!decide (z = ("" : Str))) = false from by simpa using c, Bool.false_and] at k0
                    exact k0
                · refine ite2 (fun c => ?_) (fun c => ?_)
                  · refine ⟨.str z, rfl, _, hD, ?_, sameAt k6 nD, ?_⟩
                    · have z1 := List.length_filter_le (fun z => !decide (z = ("" : Str)) && decide (cod z < cod (rwZ zs (RowI.w (sZ zs) zs.length i j)))) (zs.take l)
                      rw [List.length_take] at z1
                      rw [List.length_map]
                      omega
                    · rw [upd_same, List.filter_cons, if_pos c, List.map_append]
                      rfl
                  · rw [List.filter_cons, if_neg c, List.filter_nil, List.append_nil]
                    exact ⟨k6, hD⟩
              rintro H6 ⟨k6, hD⟩
              rw [ln1, List.take_length] at hD
              refine ⟨D, _, rfl, .inl (sq_of hD), _, _, rfl, rfl, ?_⟩
              have ha6 := TupF.same k6 ha5
              refine ⟨.ref a, rfl, _, rfl, _, rfl, a, _, rfl, ha6, fun b2 H7 k7 hb2 => ?_⟩
              have ec : cutV (zs.map V.str) none (some ((RowI.w (sZ zs) zs.length i j : Nat) : Int)) = (zs.take (RowI.w (sZ zs) zs.length i j)).map V.str := by
                rw [cutV_to (Int.natCast_nonneg _), List.map_take]
                rfl
              rw [ec] at hb2
              refine ⟨b2, rfl, ⟨_, hb2.sq⟩, fun D2 nD2 => lc_tup (K := K) (xs := (zs.take (RowI.w (sZ zs) zs.length i j)).map V.str) (fun l H' => Same H7 H' ∧ H' D2 = some (.lst ((((zs.take (RowI.w (sZ zs) zs.length i j)).take l).filter fun z => decide (z = rwZ zs (RowI.w (sZ zs) zs.length i j))).map V.str))) ⟨Same.new nD2, upd_same⟩ (fun l H' _ w => (TupF.same w.1 hb2).sq) ?_ ?_⟩
              · rintro l x H8 hx ⟨k8, hD2⟩
                rw [List.getElem?_map] at hx
                obtain ⟨z, hz, rfl⟩ := Option.map_eq_some_iff.mp hx
                refine ⟨rfl, .str z, rfl, .str _, rfl, rfl, _, rfl, ?_⟩
                rw [take_snoc hz, List.filter_append, dec_str]
                refine ite2 (fun c => ?_) (fun c => ?_)
                · refine ⟨.str z, rfl, _, hD2, ?_, sameAt k8 nD2, ?_⟩
                  · have z1 := List.length_filter_le (fun z => decide (z = rwZ zs (RowI.w (sZ zs) zs.length i j))) ((zs.take (RowI.w (sZ zs) zs.length i j)).take l)
                    rw [List.length_take, List.length_take] at z1
                    rw [List.length_map]
                    omega
                  · rw [upd_same, List.filter_cons, if_pos c, List.map_append]
                    rfl
                · rw [List.filter_cons, if_neg c, List.filter_nil, List.append_nil]
                  exact ⟨k8, hD2⟩
              rintro H8 ⟨k8, hD2⟩
              rw [List.length_map, List.take_length] at hD2
              refine ⟨D2, _, rfl, .inl (sq_of hD2), _, _, rfl, rfl, ?_⟩
              refine ⟨j + 1, some (.int (0 + (t : Int))), some (.str (rwZ zs (RowI.w (sZ zs) zs.length i j))), u8, ?_, by omega, by omega, (((k5.trans k6).trans k7).trans k8)⟩
              have e1 : rwZ zs (RowI.w (sZ zs) zs.length i j) ++ SX.S (RowI.sfj (sZ zs) zs.length i j) = SX.S (RowI.sfj (sZ zs) zs.length i (j + 1)) := by
                apply cod_inj
                rw [show cod (rwZ zs (RowI.w (sZ zs) zs.length i j) ++ SX.S (RowI.sfj (sZ zs) zs.length i j)) = cod (rwZ zs (RowI.w (sZ zs) zs.length i j)) ++ RowI.sfj (sZ zs) zs.length i j from by show (_ : Array Nat).toList = _; exact Array.toList_append]
                rfl
              have e2 : ((zs.count ("" : Str) : Nat) : Int) + ((((zs.filter fun z => !decide (z = ("" : Str)) && decide (cod z < cod (rwZ zs (RowI.w (sZ zs) zs.length i j)))).map V.str).length : Nat) : Int) + (((((zs.take (RowI.w (sZ zs) zs.length i j)).filter fun z => decide (z = rwZ zs (RowI.w (sZ zs) zs.length i j))).map V.str).length : Nat) : Int) = ((RowI.w (sZ zs) zs.length i (j + 1) : Nat) : Int) := by
                rw [List.length_map, List.length_map]
                have : RowI.w (sZ zs) zs.length i (j + 1) = posZ zs (RowI.w (sZ zs) zs.length i j) := rfl
                rw [this, ps]
                omega
              rw [← e1, ← e2]
              rfl
            · refine ⟨j, _, _, _, rfl, hj, ?_, k5⟩
              have z : rwZ zs (RowI.w (sZ zs) zs.length i j) = "" := Classical.byContradiction fun n => c (by
                show (!decide (V.str (rwZ zs (RowI.w (sZ zs) zs.length i j)) = V.str "")) = true
                rw [dec_str, decide_eq_false n]
                rfl)
              have := RowI.ml_one hie ((sZ_nil _ _).mpr z) (ok2.less hj)
              exact .inr this
          · rintro σ H5 ⟨j, u6, u7, u8, rfl, hj, hc, k5⟩
            rw [ln1] at hc
            have ej : j = RowI.ml (sZ zs) zs.length i := by omega
            subst ej
            have ha5 := TupF.same k5 ha4
            have hF5 := k5 _ _ hF
            have hn2 : RowI.w (sZ zs) zs.length i (RowI.ml (sZ zs) zs.length i) < zs.length := RowI.w_lt (by omega) _
            have at5 : atI (zs.map V.str) ((RowI.w (sZ zs) zs.length i (RowI.ml (sZ zs) zs.length i) : Nat) : Int) = some (.str "") := atI_nat (by
              have z := (sZ_nil _ _).mp ok1
              unfold rwZ at z
              rw [List.getD_eq_getElem?_getD, List.getElem?_eq_getElem hn2] at z
              rw [List.getElem?_map, List.getElem?_eq_getElem hn2]
              exact congrArg (fun z => some (V.str z)) z)
            dsimp only [tNext, tDrop, gName, tSeq]
            refine (?_ : ∀ Q : Bool → Hp → Prop, Q false H5 → tOr _ _ _ H5 Q) _ ?_
            · intro Q0 k0
              refine ⟨_, rfl, .ref a, rfl, a, _, rfl, .inr ha5.sq, _, _, rfl, rfl, _, rfl, ite2 (fun c => ?_) (fun c => ?_)⟩
              · have := of_decide_eq_true c
                rw [ln1] at this
                omega
              · exact ⟨.ref a, rfl, _, rfl, a, _, _, _, rfl, rfl, ha5.sq, at5, rfl, _, rfl, k0⟩
            · refine iteF ?_
              have et : (tsI zs)[i]? = some (SX.S (RowI.sfj (sZ zs) zs.length i (RowI.ml (sZ zs) zs.length i))) := by
                unfold tsI
                rw [List.getElem?_map, List.getElem?_range hi]
                rfl
              refine ⟨.ref F, rfl, .inl ⟨rfl, _, sq_of hF5⟩, _, rfl, F, _, _, rfl, rfl, hF5, ?_, _, _, _, _, _, _, rfl, sameAt (k4.trans k5) nF, ?_⟩
              · rw [List.length_map, List.length_take]
                omega
              · rw [upd_same, take_snoc et, List.map_append]
                rfl
        · rintro σ H4 ⟨u3, u4, u5, u6, u7, u8, rfl, k4, hF⟩
          rw [Int.toNat_natCast, ← lts, List.take_length] at hF
          have ha4 := TupF.same k4 ha
          have hTs : TsL H4 F (tsI zs) := ⟨hF, by omega, fun t ht => by
            obtain ⟨i, hi, rfl⟩ := List.mem_map.mp ht
            exact sfj_sg rz (by have := List.mem_range.mp hi; omega) _, tsI_each rz⟩
          dsimp only [tNext, tDrop, gName, tSeq]
          refine (?_ : ∀ Q : V → Hp → Prop, (dueO (some (zs.map V.str)) = none → ∀ H', Same H4 H' → Q .non H') → (∀ ts, dueO (some (zs.map V.str)) = some ts → ∀ b H', Same H4 H' → H' b = some (.tup (ts.map V.str)) → Q (.ref b) H') → tIf _ _ _ _ H4 Q) _ (fun du H' k' => q0 du H' ((k13.trans k4).trans k')) (fun ts du b H' k' hb => q1 ts du b H' ((k13.trans k4).trans k') hb)
          intro Q0 k0 k1'
          have fo : formV (zs.map V.str) = true := by
            unfold formV
            rw [ez, decide_eq_true f8, Bool.and_true, List.all_eq_true]
            intro v hv
            obtain ⟨z, hz, rfl⟩ := List.mem_map.mp hv
            show (sgB z && decide (z.length < 2)) = true
            rw [(rz.sg z hz).1, decide_eq_true (rz.sg z hz).2]
            rfl
          refine ⟨.ref F, rfl, F, tsI zs, rfl, hTs, fun b H5 k5 hb => ⟨.ref a, rfl, .tuple ((rowL (tsI zs)).map PyData.str), .tuple (zs.map PyData.str), .tup (SqT.of hb) (dp_strs _), .tup (ha4.same k5).sq (dp_strs _), shaped_strs fun z hz => (row_in hTs.sg hz).1, shaped_strs fun z hz => (rz.sg z hz).1, _, rfl, ?_⟩⟩
          have eq1 : PyData.eqv (.tuple ((rowL (tsI zs)).map PyData.str)) (.tuple (zs.map PyData.str)) = decide (rowL (tsI zs) = zs) := eqv_strs _ _
          rw [eq1]
          refine ite2 (fun c => ?_) (fun c => ?_)
          · have t := (tot_row rz).mpr (of_decide_eq_true c)
            have du : dueO (some (zs.map V.str)) = some (tsI ((zs.map V.str).map toS)) := if_pos ⟨fo, by rw [ez]; exact t⟩
            rw [ez] at du
            exact ⟨.ref F, rfl, F, _, rfl, .inl ⟨sq_of (k5 _ _ hF), fun t nt => k1' _ du t _ (k5.trans (Same.new nt)) upd_same⟩⟩
          · have t : ¬ Tot zs := fun t => c (decide_eq_true ((tot_row rz).mp t))
            have du : dueO (some (zs.map V.str)) = none := if_neg fun z => t (by have := z.2; rw [ez] at this; exact this)
            exact k0 du H5 k5
end
end LawK
set_option maxHeartbeats 4000000
/-! isinstance(e, C), e an error with a field that the handler holds. -/
namespace LawK
open PySem PySem.Spec PyProof.Rows L2 Ev
def rIsEd (K : PySem.W.Frag) (D a : Addr) (cls : Value) (d : Option Addr) : List V → Hp → VK → Prop := fun xs H Q => ∃ (c : V) (cv : Value) (b : Bool) (dd : Addr) (fs : List (Str × V)), xs = [.ref a, c] ∧ cls = .ref D ∧ d = some dd ∧ H dd = some (.xd fs) ∧ ClsV c cv ∧ PySem.W.kitOne K (.ref D) cv = some b ∧ Q (.bl b) H
theorem call_isEd {X : Cx} {a D : Addr} {oe : Obj} {cls : Value} {d : Option Addr} {pn : List (Addr × Obj)} (T : ExcC X.K D) (hz : Zc cls d oe) (hf : ∃ vs, oe.data = .fields vs) : CallR (X.suite a ((a, oe) :: pn)) (.builtin "isinstance") (rIsEd X.K D a cls d) := by
  intro pins s σ H xs us Q I r h
  obtain ⟨c, cv, b, dd, fs, rfl, ec, ed, ea, k, e, q⟩ := h
  obtain ⟨u1, u2, rfl, r1, r2⟩ := vals2 r
  have e2 := k.eq r2
  subst e2
  obtain rfl : u1 = Value.ref a := r1
  subst ec
  subst ed
  obtain ⟨hget, _⟩ := I.pin (a, oe) (List.mem_append_left _ List.mem_cons_self)
  obtain ⟨vs, hd⟩ := hf
  have hx : ObjOk X.prog X.w H s.heap dd (.xd fs) := I.hok dd _ ea
  obtain ⟨mA, hns, hr⟩ := hx
  obtain ⟨od, ho, hl⟩ := lookIn_ns hns
  have J : PySem.W.InstAt s.heap a oe D (some od) := by
    obtain ⟨oc, od2, oda, osl⟩ := oe
    obtain ⟨h1, h2⟩ := hz
    dsimp only at h1 h2 hd
    subst h1 h2 hd
    exact ⟨hget, rfl, rfl, ho⟩
  have hcl : (PySem.W.clsIn X.K D).isSome = true := by
    obtain ⟨cd, hc, _⟩ := PySem.W.any_some T.hd
    rw [hc]
    rfl
  exact PySem.W.kia_one (PySem.W.kitx_exc hcl T.hg T.hk T.hs T.ha T.hn T.ht T.hm) I.kIn J e (fun z => nomatch z) fun tk => ⟨.bl b, H, I.kept (t' := tk) fun _ _ z => z, rfl, q⟩
section
variable {K : PySem.W.Frag} {PE C : Addr}
theorem kit_baseX (B : BaseX K PE) (hc : (PySem.W.clsIn K PE).isSome = true) (T : ErC K PE C) : PySem.W.kitOne K (.ref C) (.ref PE) = some true := by
  unfold PySem.W.kitOne
  by_cases e : C = PE
  · subst e
    rw [if_pos (by simp)]
  · rw [if_neg (by simpa using e)]
    show (if ((PySem.W.clsIn K PE).isSome && PySem.W.typeIn K (.ref PE) == some (.type "type")) = true then PySem.W.subIn K (.ref C) (.ref PE) else none) = some true
    rw [if_pos (by rw [hc, B.isT]; rfl), T.sub]
    simp [veT]
theorem kit_ve (T : ErC K PE C) : PySem.W.kitOne K (.ref C) (.type "ValueError") = some true := by
  have h : PySem.W.kitMeta "ValueError" = true := by decide +kernel
  unfold PySem.W.kitOne
  rw [if_neg (by simp)]
  show (if PySem.W.kitMeta "ValueError" = true then PySem.W.subIn K (.ref C) (.type "ValueError") else none) = some true
  rw [if_pos h, T.sub]
  simp [veT]
end
end LawK
namespace LawK
open PySem PySem.Spec PyProof.Rows L2 Ev
def chkB (K : PySem.W.Frag) (PE : Addr) : Bool := decide (PySem.W.subIn K (.ref PE) (.type "BaseException") = some true) && (PySem.W.hasDictIn K PE && (decide (PySem.W.typeIn K (.ref PE) = some (.type "type")) && (PySem.W.clsIn K PE).isSome))
theorem baseX_mk {K : PySem.W.Frag} {PE : Addr} (h : chkB K PE = true) : BaseX K PE ∧ (PySem.W.clsIn K PE).isSome = true := by
  obtain ⟨h1, h⟩ := Bool.and_eq_true_iff.mp h
  obtain ⟨h2, h⟩ := Bool.and_eq_true_iff.mp h
  obtain ⟨h3, h4⟩ := Bool.and_eq_true_iff.mp h
  exact ⟨⟨of_decide_eq_true h1, h2, of_decide_eq_true h3⟩, h4⟩
end LawK
set_option maxHeartbeats 4000000
namespace LawK
open PySem PySem.Spec PyProof.Rows L2 Ev

open PySem.W
def spRToldBack (C cR : Addr) : Sp := fun vs H Q E => ∃ (x : V) (o : Option (List V)), vs = [x] ∧ Th H x o ∧ (dueO o = none → ∀ H', Same H H' → E (.ref cR) none H') ∧ (∀ ts, dueO o = some ts → ∀ s H', Same H H' → LibAt H' C s ts → Q (.ref s) H')
def spRLeads (cR : Addr) : Sp := fun vs H Q E => ∃ (x : V) (o : Option (List V)), vs = [x] ∧ Th H x o ∧ (dueO o = none → ∀ H', Same H H' → E (.ref cR) none H') ∧ (∀ ts, dueO o = some ts → ∀ v H', Same H H' → Q v H')
theorem due_rz {H : Hp} {x : V} {o : Option (List V)} (h : Th H x o) {ts : List Str} (e : dueO o = some ts) : ∃ a vs, x = .ref a ∧ o = some vs ∧ RowZ H a (vs.map toS) ∧ Rz (vs.map toS) ∧ ts = tsI (vs.map toS) := by
  cases h with
  | no _ _ => cases e
  | @tup a vs ha few hv =>
    by_cases c : formV vs = true ∧ Tot (vs.map toS)
    · have e2 : dueO (some vs) = some (tsI (vs.map toS)) := if_pos c
      rw [e2] at e
      obtain ⟨em, rz⟩ := formV_rz few c.1
      refine ⟨a, vs, rfl, rfl, ?_, rz, (Option.some.inj e).symm⟩
      unfold RowZ
      rw [← em]
      exact ha
    · have e2 : dueO (some vs) = none := if_neg c
      rw [e2] at e
      cases e
theorem tsI_rw {zs : List Str} (rz : Rz zs) : Rw (tsI zs) := ⟨by rw [tsI_len]; exact rz.few, fun t ht => by
  obtain ⟨i, hi, rfl⟩ := List.mem_map.mp ht
  have enl : RowI.empt (sZ zs) zs.length ≤ zs.length := RowI.empt_le
  rw [emptZ] at enl
  exact sfj_sg rz (by have := List.mem_range.mp hi; omega) _, tsI_each rz⟩
/-- isinstance of a caught error without a field -/
def rIsE0 (K : PySem.W.Frag) (D a : Addr) (cls : Value) (d : Option Addr) : List V → Hp → VK → Prop := fun xs H Q => ∃ (c : V) (cv : Value) (b : Bool), xs = [.ref a, c] ∧ cls = .ref D ∧ d = none ∧ ClsV c cv ∧ PySem.W.kitOne K (.ref D) cv = some b ∧ Q (.bl b) H
theorem call_isE0 {X : Cx} {a D : Addr} {oe : Obj} {cls : Value} {d : Option Addr} {pn : List (Addr × Obj)} (T : ExcC X.K D) (hz : Zc cls d oe) (hf : ∃ vs, oe.data = .fields vs) : CallR (X.suite a ((a, oe) :: pn)) (.builtin "isinstance") (rIsE0 X.K D a cls d) := by
  intro pins s σ H xs us Q I r h
  obtain ⟨c, cv, b, rfl, ec, ed, k, e, q⟩ := h
  obtain ⟨u1, u2, rfl, r1, r2⟩ := vals2 r
  have e2 := k.eq r2
  subst e2
  obtain rfl : u1 = Value.ref a := r1
  subst ec
  subst ed
  obtain ⟨hget, _⟩ := I.pin (a, oe) (List.mem_append_left _ List.mem_cons_self)
  obtain ⟨vs, hd⟩ := hf
  have J : PySem.W.InstAt s.heap a oe D none := by
    obtain ⟨oc, od2, oda, osl⟩ := oe
    obtain ⟨h1, h2⟩ := hz
    dsimp only at h1 h2 hd
    subst h1 h2 hd
    exact ⟨hget, rfl, rfl, trivial⟩
  have hcl : (PySem.W.clsIn X.K D).isSome = true := by
    obtain ⟨cd, hc, _⟩ := PySem.W.any_some T.hd
    rw [hc]
    rfl
  exact PySem.W.kia_one (PySem.W.kitx_exc hcl T.hg T.hk T.hs T.ha T.hn T.ht T.hm) I.kIn J e (fun z => nomatch z) fun tk => ⟨.bl b, H, I.kept (t' := tk) fun _ _ z => z, rfl, q⟩
section
variable {P : Program} {w : World} {K : PySem.W.Frag} {mg : Str → Option Value} {base : Heap}
variable {C fI : Addr} {fdI : FuncData}
variable {PE cR : Addr}
theorem okz_PToldBack {f : Addr} {fd : FuncData} (F : Fun K "told_back" "told_back" sPToldBack f fd) (L : LibC K mg C fI fdI) (GI : FnOk P w K mg base (L2.CX P w) 4 fI fdI ["self", "texts"] (spLInit C)) (ENoRow : Cls0 P K mg PE "NoRow" cR) {fQTextsOf : Addr} {fdQTextsOf : FuncData} (DQTextsOf : Dk P w K mg base "_texts_of" sQTextsOf ["thing"] 3 spTextsOfO fQTextsOf fdQTextsOf) (T : Glob mg) : FnOk P w K mg base (L2.CX P w) 6 f fd ["row"] (spRToldBack C cR) := by
  obtain ⟨fR, SNoRow⟩ := ENoRow.sup
  refine F.okX scPToldBack (fun vs H Q E h => ?_) (fun cdv A outer s H vs Q E hr h => ?_)
  · obtain ⟨x, o, rfl, _⟩ := h
    rfl
  · refine ⟨_, (pss_cons (ps_set (i := 1) scPToldBack.nd rfl (.inl rfl) (pe_call DQTextsOf.ok (hr.mono (by decide)) (by rfl) DQTextsOf.g DQTextsOf.F.kp DQTextsOf.b .nil pass0 (pa_cons (pv 0) pa_nil)))
      (pss_cons (ps_if (pt_cmpR op_isN (pv 1) pe_non (nomark _))
      (pss_one (ps_raise rfl (takes_of rfl rfl rfl rfl) (pmk_exc0 SNoRow hr (by rfl) ENoRow.g)))
      pss_nil)
      (pss_one (ps_ret (pe_mkS (E := fun _ => E0) L.mak GI (hr.mono (by decide)) (by rfl) L.g L.bI (fun σ => passL_at σ) (pa_cons (pv 1) pa_nil)))))), ?_⟩
    obtain ⟨x, o, rfl, ht, q0, q1⟩ := h
    refine ⟨x, rfl, x, o, rfl, ht, fun du H1 k1 => ?_, fun ts du b H1 k1 hb => ?_⟩
    · exact ⟨.non, rfl, rfl, _, rfl, iteT (q0 du H1 k1)⟩
    · obtain ⟨a, vs, rfl, rfl, _, rz, rfl⟩ := due_rz ht du
      have hT := (tsI_rw rz).at hb
      refine ⟨.ref b, rfl, rfl, _, rfl, iteF ?_⟩
      dsimp only [tNext, tDrop]
      refine ⟨.ref b, rfl, fun s dx ns' ndx ndxs => ?_⟩
      refine ⟨s, dx, b, _, rfl, upd_same, lib_in hT ns' ndx ndxs, hT.few, hT.sg, hT.len, fun H5 ha5 ho5 => ⟨rfl, ?_⟩⟩
      obtain ⟨k5, hL⟩ := lib_new hT ns' ndx ndxs ha5 ho5
      exact q1 _ du s H5 (k1.trans k5) hL
theorem okz_PLeads {f : Addr} {fd : FuncData} (F : Fun K "leads" "leads" sPLeads f fd) (ENoRow : Cls0 P K mg PE "NoRow" cR) {fPRowLeads : Addr} {fdPRowLeads : FuncData} (DPRowLeads : Dk P w K mg base "row_leads" sPRowLeads ["row"] 1 spLeadsZ fPRowLeads fdPRowLeads) {fPIsRow : Addr} {fdPIsRow : FuncData} (DPIsRow : Dk P w K mg base "is_row" sPIsRow ["thing"] 4 spIsRowO fPIsRow fdPIsRow) (T : Glob mg) : FnOk P w K mg base (L2.CX P w) 5 f fd ["row"] (spRLeads cR) := by
  obtain ⟨fR, SNoRow⟩ := ENoRow.sup
  refine F.okX scPLeads (fun vs H Q E h => ?_) (fun cdv A outer s H vs Q E hr h => ?_)
  · obtain ⟨x, o, rfl, _⟩ := h
    rfl
  · refine ⟨_, (pss_cons (ps_if (pt_not (pt_val (pe_call DPIsRow.ok (hr.mono (by decide)) (by rfl) DPIsRow.g DPIsRow.F.kp DPIsRow.b .nil pass0 (pa_cons (pv 0) pa_nil))))
      (pss_one (ps_raise rfl (takes_of rfl rfl rfl rfl) (pmk_exc0 SNoRow hr (by rfl) ENoRow.g)))
      pss_nil)
      (pss_one (ps_ret (pe_callTy call_tuple_of (by rfl) T.tuple (by decide +kernel) (pa_cons (pe_call DPRowLeads.ok (hr.mono (by decide)) (by rfl) DPRowLeads.g DPRowLeads.F.kp DPRowLeads.b .nil pass0 (pa_cons (pv 0) pa_nil)) pa_nil))))), ?_⟩
    obtain ⟨x, o, rfl, ht, q0, q1⟩ := h
    refine ⟨x, rfl, x, o, rfl, ht, fun H1 k1 => ⟨_, rfl, ?_⟩⟩
    cases du : dueO o with
    | none => exact iteT (q0 du H1 k1)
    | some ts =>
      obtain ⟨a, vs, rfl, rfl, ha, rz, rfl⟩ := due_rz ht du
      refine iteF ?_
      dsimp only [tNext, tDrop]
      refine ⟨.ref a, rfl, a, vs.map toS, rfl, TupF.same k1 ha, rz, fun b H2 k2 nb hb => ⟨b, _, rfl, .inl ⟨sq_of hb, fun t nt => q1 _ du _ _ ((k1.trans k2).trans (Same.new nt))⟩⟩⟩
end
end LawK
set_option maxHeartbeats 4000000
namespace Ev
open PySem PySem.Spec PyProof.Rows L2
/-- the entries of a written dict with texts as keys -/
inductive Ents (P : Params) : List DictEntry → List (Str × V) → Prop
  | nil : Ents P [] []
  | cons {x : Str} {t : Tok} {u : Value} {v : V} {es : List DictEntry} {kvs : List (Str × V)} (r : RelV v u) (h : Ents P es kvs) : Ents P (⟨PyData.keyHash P x, .str x t, u⟩ :: es) ((x, v) :: kvs)
/-- a dict of the module at a -/
structure KD (K : PySem.W.Frag) (w : World) (a : Addr) (kvs : List (Str × V)) : Prop where
  lk : ∃ (es : List DictEntry) (n : Nat), K.lookup a = some ⟨.type "dict", none, .dict es.toArray n, #[]⟩ ∧ Ents w.params es kvs
  ne : (a == sysModules) = false
theorem Ents.lit {P : Params} {es : List DictEntry} {kvs : List (Str × V)} (h : Ents P es kvs) : PySem.W.KeysLit P es := by
  induction h with
  | nil => trivial
  | cons r h ih => exact ⟨⟨_, _, rfl, rfl⟩, ih⟩
theorem Ents.find {P : Params} {es : List DictEntry} {kvs : List (Str × V)} (h : Ents P es kvs) (z : Str) :
    (kvs.lookup z = none ∧ findBy Value.isStrOf es.toArray z = none) ∨ ∃ v u, kvs.lookup z = some v ∧ findBy Value.isStrOf es.toArray z = some u ∧ RelV v u := by
  induction h with
  | nil => exact .inl ⟨rfl, rfl⟩
  | @cons x t u v es kvs r h ih =>
    unfold findBy at ih ⊢
    rw [List.find?_toArray, List.find?_cons, List.lookup_cons]
    by_cases e : z = x
    · subst e
      have e1 : Value.isStrOf z (.str z t) = true := by simp [Value.isStrOf]
      rw [e1, beq_self_eq_true]
      exact .inr ⟨v, u, rfl, rfl, r⟩
    · have e1 : Value.isStrOf z (.str x t) = false := by
        cases q : Value.isStrOf z (.str x t) with
        | false => rfl
        | true =>
          obtain ⟨t', q⟩ := Value.isStrOf_shape q
          injection q with q1 _
          exact absurd q1.symm e
      rw [e1, beq_false_of_ne e]
      rw [List.find?_toArray] at ih
      exact ih
theorem kd_mk {K : PySem.W.Frag} {w : World} {a : Addr} {es : List DictEntry} {n : Nat} {kvs : List (Str × V)} (l : K.lookup a = some ⟨.type "dict", none, .dict es.toArray n, #[]⟩) (ne : (a == sysModules) = false) (h : Ents w.params es kvs) : KD K w a kvs := ⟨⟨es, n, l, h⟩, ne⟩
def rNotInKD (K : PySem.W.Frag) (w : World) : R2 := fun x y H Q => ∃ a z kvs, x = .str z ∧ y = .ref a ∧ KD K w a kvs ∧ Q (.bl (!(kvs.lookup z).isSome)) H
def rIxKD (K : PySem.W.Frag) (w : World) : R2 := fun x y H Q => ∃ a z kvs v, x = .ref a ∧ y = .str z ∧ KD K w a kvs ∧ kvs.lookup z = some v ∧ Q v H
section
variable {X : Cx}
theorem op_notInKD : OpR X (compareOp .NotIn) (rNotInKD X.K X.w) := by
  intro pins s σ H x y v u Q I rx ry h
  obtain ⟨a, z, kvs, rfl, rfl, ⟨⟨es, n, hl, en⟩, ne⟩, q⟩ := h
  obtain ⟨t, rfl⟩ := (show ∃ t, v = Value.str z t from rx)
  obtain rfl : u = Value.ref a := ry
  have hm := PySem.W.mapOf_K (prog := X.prog) (w := X.w) I.kIn hl en.lit
  refine wpAny_notIn_of (strKind_is X.prog X.w z t) ne hm ⟨.bl (!(findBy Value.isStrOf es.toArray z).isSome), H, I.tok _, rfl, ?_⟩
  rcases en.find z with ⟨e1, e2⟩ | ⟨v0, u0, e1, e2, _⟩
  · rw [e1] at q
    rw [e2]
    exact q
  · rw [e1] at q
    rw [e2]
    exact q
theorem ix_KD : IxR X (rIxKD X.K X.w) := by
  intro value slice pins s σ H x y v u Q I rx ry h hs
  obtain ⟨a, z, kvs, r, rfl, rfl, ⟨⟨es, n, hl, en⟩, ne⟩, e, q⟩ := h
  obtain rfl : v = Value.ref a := rx
  obtain ⟨t, rfl⟩ := ry
  have hm := PySem.W.mapOf_K (prog := X.prog) (w := X.w) I.kIn hl en.lit
  rcases en.find z with ⟨e1, e2⟩ | ⟨v0, u0, e1, e2, ru⟩
  · rw [e1] at e
    cases e
  · rw [e1] at e
    cases e
    exact tail_any hm.typeIs slot_dict_getitem.lookup (wpAny_getItem_of (strKind_is X.prog X.w z t) hm e2 ⟨r, H, I.tok _, ru, q⟩) hs
end
/-- a local name that holds one of several defs -/
def tCallR (i : Nat) (S : Addr → Sp → Prop) (t : TA) : TE := fun σ H Q => ∃ f sp, σ[i]? = some (some (.ref f)) ∧ S f sp ∧ t σ H fun vs H1 => sp vs H1 Q (fun _ _ _ => False)
theorem pe_callR {X : Cx} {k i : Nat} {x : Str} {p pos : Pos} {e : Expr} {es : List Expr} {t : TA} {S : Addr → Sp → Prop} (A : ∀ f sp, S f sp → Held X.prog X.w X.K X.mg X.base k f sp) (hr : Room k X.A) (hN : X.N[i]? = some x) (hv : Vis X.env.scope x) (ha : PA X (e :: es) t)
    (hdb : (x == ("__debug__" : Str)) = false := by decide) (hcd : (x == ("__classdict__" : Str)) = false := by decide)
    (he : starEach (e :: es) X.env = (false, eval e X.env) :: starEach es X.env := by rfl) (hpl : (backTo pos (starEach es X.env)).any (·.1) = false := by rfl) : PE X (.Call (.Name x p) (e :: es) [] pos) (tCallR i S t) := by
  refine ⟨fun pins s σ H Q I h => ?_⟩
  obtain ⟨f, sp, hs, hS, ht⟩ := h
  obtain ⟨fd, ps, F, hk, hb⟩ := (A f sp hS).ex
  refine (pe_callL (i := i) (f := f) (sp := sp) (dvs := []) (E := fun _ _ _ => False) F hr hN hv hk hb .nil (fun _ _ _ _ _ _ _ z => z.elim) ha hdb hcd he hpl).run pins s σ H Q I ⟨hs, ?_⟩
  have e0 : (fun (vs : List V) (H1 : Hp) => sp (vs ++ []) H1 Q (fun _ _ _ => False)) = fun vs H1 => sp vs H1 Q (fun _ _ _ => False) := by
    funext vs H1
    rw [List.append_nil]
  show t σ H (fun vs H1 => sp (vs ++ []) H1 Q (fun _ _ _ => False))
  rw [e0]
  exact ht
end Ev
set_option maxHeartbeats 4000000
namespace LawK
open PySem PySem.Spec PyProof.Rows L2 Ev

open PySem.W
theorem TupF.but {H H' : Hp} {p l a : Addr} {xs : List V} (h : TupF H a xs) (h0 : HandL H p l) (b : But p H H') : TupF H' a xs := by
  obtain ⟨o, e, q⟩ := h
  exact ⟨o, b _ _ (hand_ne h0 e fun _ _ _ _ _ z => by cases z) e, q⟩
theorem TupX.but {H H' : Hp} {p l a : Addr} {xs : List V} (h : TupX H a xs) (h0 : HandL H p l) (b : But p H H') : TupX H' a xs := by
  rcases h with e | ⟨o, e⟩
  · exact .inl (b _ _ (hand_ne h0 e fun _ _ _ _ _ z => by cases z) e)
  · exact .inr ⟨o, b _ _ (hand_ne h0 e fun _ _ _ _ _ z => by cases z) e⟩
theorem Ko.but {H H' : Hp} {p l : Addr} {x : V} {k : Kn} (h : Ko H x k) (h0 : HandL H p l) (h1 : HandL H' p l) (b : But p H H') : Ko H' x k := by
  rcases h with h | ⟨e, a, xs, ex, h⟩
  · exact .inl (Kd.but h h0 h1 b)
  · exact .inr ⟨e, a, xs, ex, h.but h0 b⟩
theorem Th.but {H H' : Hp} {p l : Addr} {x : V} {o : Option (List V)} (h : Th H x o) (h0 : HandL H p l) (h1 : HandL H' p l) (b : But p H H') : Th H' x o := by
  cases h with
  | no h n => exact .no (h.but h0 h1 b) n
  | tup h few hv => exact .tup (TupF.but h h0 b) few fun v hm => let ⟨l, k, e⟩ := hv v hm; ⟨l, k, e.but h0 h1 b⟩
theorem TupF.ko {H : Hp} {a : Addr} {xs : List V} (h : TupF H a xs) : Ko H (.ref a) .tup := let ⟨o, e, _⟩ := h; .inr ⟨rfl, a, xs, rfl, .inr ⟨o, e⟩⟩
theorem Th.ko {H : Hp} {x : V} {o : Option (List V)} (h : Th H x o) : ∃ k, Ko H x k := by
  cases h with
  | no h n => exact ⟨_, h⟩
  | tup h _ _ => exact ⟨_, TupF.ko h⟩
theorem vs_ref (a : Addr) : Vs (.ref a) := fun z e => by cases e
theorem th_one {H : Hp} {a : Addr} {x : V} (h : TupF H a [x]) (k : ∃ k, Ko H x k) (v : Vs x) : Th H (.ref a) (some [x]) := .tup h (by show 1 ≤ 200; decide) fun y hy => by
  rw [List.mem_singleton.mp hy]
  exact ⟨v, k⟩
theorem but_write {q : Addr} {H H1 : Hp} {o o2 : HO} (n : H q = none) (k : Same (upd H q o) H1) : Same H (upd H1 q o2) := fun b u e => by
  have nb : b ≠ q := fun z => by rw [z, n] at e; cases e
  rw [upd_ne nb]
  exact k _ _ (by rw [upd_ne nb]; exact e)
def spDeepT : Sp := fun vs H Q _ => ∃ (p : Addr), vs = [.ref p] ∧ ∃ l, HandL H p l ∧ ∀ x o H', Th H' x o → Vs x → Hn p l H H' → Q x H'
section
variable {P : Program} {w : World} {K : PySem.W.Frag} {mg : Str → Option Value} {base : Heap}
abbrev sDeep : Stmt := topS 36
theorem scDeep : FnScope ["hand", "found", "turn"] ["hand"] (defScope sDeep) := ⟨rfl, rfl, rfl, by decide +kernel, rfl, by decide +kernel, by decide +kernel⟩
theorem ok_Deep {f : Addr} {fd : FuncData} (F : Fun K "_law_deep" "_law_deep" sDeep f fd)  {fDraw : Addr} {fdDraw : FuncData} (DDraw : Dk P w K mg base "_law_draw" sDraw ["hand", "many"] 1 spDraw fDraw fdDraw) (T : Glob mg) : FnOk P w K mg base CX0 2 f fd ["hand"] spDeepT := by
  refine F.ok scDeep (fun vs H Q E h => ?_) (fun cdv A outer s H vs Q E hr h => ?_)
  · obtain ⟨p, rfl, _⟩ := h
    rfl
  · refine ⟨_, (pss_cons (ps_set (i := 1) scDeep.nd rfl (.inl rfl) (pe_ix ix_list (pe_lst (pa_cons pe_non (pa_cons pe_str (pa_cons (pe_un un_neg pe_int) (pa_cons pe_dnewK pa_nil))))) (pe_call DDraw.ok (hr.mono (by decide)) (by rfl) DDraw.g DDraw.F.kp DDraw.b .nil pass0 (pa_cons (pv 0) (pa_cons pe_int pa_nil))) (fun _ _ => rfl)))
      (pss_cons (ps_for PassesOwn.never rfl (pi_range1 (by rfl) T.range (pa_cons (pe_op op_add pe_int (pe_call DDraw.ok (hr.mono (by decide)) (by rfl) DDraw.g DDraw.F.kp DDraw.b .nil pass0 (pa_cons (pv 0) (pa_cons pe_int pa_nil)))) pa_nil)) (pg_name (i := 2) scDeep.nd rfl (.inl rfl))
      (pss_one (ps_set (i := 1) scDeep.nd rfl (.inl rfl) (pe_ix ix_list (pe_lst (pa_cons (pe_tupF (pa_cons (pv 1) pa_nil)) (pa_cons (pe_lst (pa_cons (pv 1) pa_nil)) (pa_cons (pe_slice sl_tupF (pe_tupF (pa_cons (pv 1) (pa_cons (pv 1) pa_nil))) po_none (po_some pe_int)) (pa_cons (pe_disp (pps_cons pe_int (pv 1) pps_nil) (by rfl) (by rfl) (by simp) (by decide)) pa_nil))))) (pe_call DDraw.ok (hr.mono (by decide)) (by rfl) DDraw.g DDraw.F.kp DDraw.b .nil pass0 (pa_cons (pv 0) (pa_cons pe_int pa_nil))) (fun _ _ => rfl)))))
      (pss_one (ps_ret (pv 1))))), ?_⟩
    obtain ⟨p, rfl, l, hH, q⟩ := h
    refine ⟨_, rfl, fun d nd => ⟨by show 4 ≤ sizeLine; decide, fun a na => ?_⟩⟩
    have k1 := (Same.new (o := .dK []) nd).trans (Same.new (o := .lst [.non, .str "a", .int (-1), .ref d]) na)
    have hA : upd (upd H d (.dK [])) a (.lst [.non, .str "a", .int (-1), .ref d]) a = some (.lst [.non, .str "a", .int (-1), .ref d]) := upd_same
    have hd : upd (upd H d (.dK [])) a (.lst [.non, .str "a", .int (-1), .ref d]) d = some (.dK []) := Same.new na _ _ upd_same
    have n1 := (Hn.refl hH).same k1
    revert n1 hA hd
    generalize upd (upd H d (.dK [])) a (.lst [.non, .str "a", .int (-1), .ref d]) = H1
    intro hA hd n1
    have nap : a ≠ p := hand_ne n1.at_ hA (fun x1 x2 x3 x4 x5 z => by cases z)
    have ndp : d ≠ p := hand_ne n1.at_ hd (fun x1 x2 x3 x4 x5 z => by cases z)
    refine ⟨.ref p, rfl, p, 4, rfl, by decide, by decide, l, n1.at_, fun v H2 v0 v1 h2 b2 => ?_⟩
    have hA2 := b2 _ _ nap hA
    have n2 := n1.go h2 b2
    obtain ⟨x, ex, hx, hv⟩ : ∃ x, atI [V.non, V.str "a", V.int (-1), V.ref d] v = some x ∧ Th H2 x none ∧ Vs x := by
      have e4 : v = 0 ∨ v = 1 ∨ v = 2 ∨ v = 3 := by omega
      rcases e4 with rfl | rfl | rfl | rfl
      · exact ⟨_, rfl, .no (.inl .non) (by decide), fun z e => by cases e⟩
      · exact ⟨_, rfl, .no (.inl (.str _)) (by decide), fun z e => by cases e; decide +kernel⟩
      · exact ⟨_, rfl, .no (.inl (.int _)) (by decide), fun z e => by cases e⟩
      · exact ⟨_, rfl, .no (.inl (.dic (b2 _ _ ndp hd))) (by decide), fun z e => by cases e⟩
    refine ⟨a, _, v, x, rfl, rfl, sq_of hA2, ex, ?_⟩
    dsimp only [tNext, tDrop]
    refine ⟨.ref p, rfl, p, 30, rfl, by decide, by decide, l, n2.at_, fun m H3 m0 m1 h3 b3 => ?_⟩
    have n3 := n2.go h3 b3
    have hx3 := Th.but hx h2 h3 b3
    refine ⟨_, _, rfl, rfl, 1 + m, rfl, by omega, by omega, for_range (fun i σ H' => ∃ x u o, σ = [some (.ref p), some x, u] ∧ Th H' x o ∧ Vs x ∧ Hn p l H H') ⟨x, _, none, rfl, hx3, hv, n3⟩ ?_ ?_⟩
    · rintro i σ H4 hi ⟨x, u, o, rfl, hx, hv, n4⟩
      have s1 : 1 ≤ sizeLine := by decide
      have s2 : 2 ≤ sizeLine := by decide
      refine ⟨x, rfl, s1, fun t1 o1 nt1 p1 => ⟨x, rfl, s1, fun t2 nt2 => ⟨x, rfl, x, rfl, s2, fun t3 o3 nt3 p3 => ?_⟩⟩⟩
      have ka := ((Same.new (o := .frz o1 (.tup [x])) nt1).trans (Same.new (o := .lst [x]) nt2)).trans (Same.new (o := .frz o3 (.tup [x, x])) nt3)
      refine ⟨_, rfl, t3, [x, x], rfl, ⟨o3, upd_same, p3⟩, fun t4 H5 k5 h5 => ?_⟩
      refine fun d2 nd2 => ⟨x, rfl, ?_⟩
      refine ⟨upd_same, [(.inl 0, x)], rfl, by show 1 ≤ 15; decide, ?_⟩
      have kd := but_write (o := .dK []) (o2 := .dK (mergeK [] [(.inl 0, x)])) nd2 (Same.refl _)
      have kall := (ka.trans k5).trans kd
      refine ⟨by show 4 ≤ sizeLine; decide, fun b nb => ?_⟩
      have kb := kall.trans (Same.new (o := .lst [.ref t1, .ref t2, .ref t4, .ref d2]) nb)
      have e1 := ((Same.new (o := .lst [x]) nt2).trans (Same.new (o := .frz o3 (.tup [x, x])) nt3)).trans ((k5.trans kd).trans (Same.new (o := .lst [.ref t1, .ref t2, .ref t4, .ref d2]) nb)) _ _ (upd_same (H := H4) (a := t1) (o := .frz o1 (.tup [x])))
      have e2 := ((Same.new (o := .frz o3 (.tup [x, x])) nt3).trans ((k5.trans kd).trans (Same.new (o := .lst [.ref t1, .ref t2, .ref t4, .ref d2]) nb))) _ _ (upd_same (a := t2) (o := .lst [x]))
      have e3 := TupF.same (kd.trans (Same.new (o := .lst [.ref t1, .ref t2, .ref t4, .ref d2]) nb)) h5
      have e4 := (Same.new (o := .lst [.ref t1, .ref t2, .ref t4, .ref d2]) nb) _ _ (upd_same (a := d2) (o := .dK (mergeK [] [(.inl 0, x)])))
      have eb : (upd (upd (upd H5 d2 (.dK [])) d2 (.dK (mergeK [] [(.inl 0, x)]))) b (.lst [.ref t1, .ref t2, .ref t4, .ref d2])) b = some (.lst [.ref t1, .ref t2, .ref t4, .ref d2]) := upd_same
      revert kb e1 e2 e3 e4 eb
      generalize (upd (upd (upd H5 d2 (.dK [])) d2 (.dK (mergeK [] [(.inl 0, x)]))) b (.lst [.ref t1, .ref t2, .ref t4, .ref d2])) = H6
      intro kb e1 e2 e3 e4 eb
      have n6 := n4.same kb
      have hx6 := hx.same kb
      have nw : ∀ {a : Addr} {o : HO}, H6 a = some o → (∀ x1 x2 x3 x4 x5, o ≠ .lst [x1, x2, x3, x4, x5]) → a ≠ p := fun h n => hand_ne n6.at_ h n
      refine ⟨.ref p, rfl, p, 4, rfl, by decide, by decide, l, n6.at_, fun v H7 v0 v1 h7 b7 => ?_⟩
      have hx7 := Th.ko (hx6.but n6.at_ h7 b7)
      have g1 : TupF H7 t1 [x] := TupF.but ⟨o1, e1, p1⟩ n6.at_ b7
      have g2 := b7 _ _ (nw e2 (fun x1 x2 x3 x4 x5 z => by cases z)) e2
      have g3 : TupF H7 t4 [x] := TupF.but e3 n6.at_ b7
      have g4 := b7 _ _ (nw e4 (fun x1 x2 x3 x4 x5 z => by cases z)) e4
      have g5 := b7 _ _ (nw eb (fun x1 x2 x3 x4 x5 z => by cases z)) eb
      obtain ⟨y, o, ey, hy⟩ : ∃ y o, atI [V.ref t1, .ref t2, .ref t4, .ref d2] v = some (.ref y) ∧ Th H7 (.ref y) o := by
        have e4 : v = 0 ∨ v = 1 ∨ v = 2 ∨ v = 3 := by omega
        rcases e4 with rfl | rfl | rfl | rfl
        · exact ⟨_, _, rfl, th_one g1 hx7 hv⟩
        · exact ⟨_, _, rfl, .no (.inl (.lst g2)) (by decide)⟩
        · exact ⟨_, _, rfl, th_one g3 hx7 hv⟩
        · exact ⟨_, _, rfl, .no (.inl (.dic g4)) (by decide)⟩
      exact ⟨b, _, v, .ref y, rfl, rfl, sq_of g5, ey, .ref y, _, o, rfl, hy, vs_ref y, n6.go h7 b7⟩
    · rintro σ H4 ⟨x, u, o, rfl, hx, hv, n4⟩
      exact ⟨x, rfl, q x o H4 hx hv n4⟩
end
end LawK
set_option maxHeartbeats 4000000
namespace LawK
open PySem PySem.Spec PyProof.Rows L2 Ev

open PySem.W
def spLRowF : Sp := fun vs H Q _ => ∃ (a : Addr) (ts : List Str), vs = [.ref a] ∧ TsAt H a ts ∧ ∀ b H', Same H H' → RowZ H' b (rowL ts) → Q (.ref b) H'
theorem sum_most {m : Nat} : ∀ ts : List Str, (∀ t ∈ ts, t.length ≤ m) → (ts.map fun t => ((t.length : Nat) : Int)).sum ≤ ((m * ts.length : Nat) : Int)
  | [], _ => Int.le_refl _
  | t :: ts, h => by
    have a := sum_most ts fun u hu => h u (List.mem_cons_of_mem _ hu)
    have b := h t (List.mem_cons_self ..)
    simp only [List.map_cons, List.sum_cons, List.length_cons]
    rw [Nat.mul_succ]
    omega
section
variable {P : Program} {w : World} {K : PySem.W.Frag} {mg : Str → Option Value} {base : Heap}
theorem okf_Row {f : Addr} {fd : FuncData} (F : Fun K "_law_row" "_law_row" sRow f fd)  {fOrder : Addr} {fdOrder : FuncData} (DOrder : Dk P w K mg base "_law_order" sOrder ["texts"] 1 spLOrder2 fOrder fdOrder) (T : Glob mg) : FnOk P w K mg base CX0 2 f fd ["texts"] spLRowF := by
  refine F.ok scRow (fun vs H Q E h => ?_) (fun cdv A outer s H vs Q E hr h => ?_)
  · obtain ⟨a, ts, rfl, _⟩ := h
    rfl
  · refine ⟨_, (pss_cons (ps_setLc (i := 1) (own := [("text", 4)]) (g := gName 4) (by rfl) scRow.nd rfl rfl (sw_true rfl rfl rfl (by decide +kernel)) (pi_tup (pv 0)) (blkOk_by (N := ["texts", "found", "number", "at", "text"]) (sc := defScope sRow) (by decide +kernel)) (fun _ _ _ _ _ => pg_name (i := 4) scRow.nd rfl (.inl rfl)) (fun _ _ _ _ _ => pts_nil) (fun _ _ _ _ _ => (pe_slice sl_str (pv 4) (po_some (pe_un un_neg pe_int)) po_none)))
      (pss_cons (ps_for PassesOwn.never rfl (pi_list (pe_call DOrder.ok (hr.mono (by decide)) (by rfl) DOrder.g DOrder.F.kp DOrder.b .nil pass0 (pa_cons (pv 0) pa_nil))) (pg_tup (by rfl) (pgs_cons (pg_name (i := 2) scRow.nd rfl (.inl rfl)) (pgs_cons (pg_name (i := 3) scRow.nd rfl (.inl rfl)) pgs_nil)))
      (pss_one (ps_expr (pe_bm PySem.F.plainAttrs_list PySem.F.slot_list_append PySem.F.type_list_append mt_append (pv 1) (pa_cons (pe_ifExp (pt_cmpR op_gt (pv 3) pe_int (nomark _)) (pe_slice sl_str (pe_ix ix_tup (pv 0) (pv 2) (fun _ _ => rfl)) (po_some (pe_op op_sub (pv 3) pe_int)) (po_some (pv 3))) pe_str) pa_nil)))))
      (pss_one (ps_ret (pe_callTy call_tupF (by rfl) T.tuple (by decide +kernel) (pa_cons (pv 1) pa_nil)))))), ?_⟩
    obtain ⟨a, ts, rfl, ht, q⟩ := h
    have few8 := ht.few
    have ol : (ord ts).length ≤ 1600 := ord_len ht.len ht.few
    refine ⟨.ref a, rfl, a, rfl, ⟨_, SqT.of ht.at_⟩, fun D nD => lc_tup (K := K) (xs := ts.map V.str) (fun i H' => Same H H' ∧ H' D = some (.lst (((List.range i).map fun i => sgS ts (i, (txc ts i).length)).map V.str))) ⟨Same.new nD, upd_same⟩ (fun i H' _ w => SqT.of (w.1 _ _ ht.at_)) ?_ ?_⟩
    · rintro i x H1 hx ⟨k1, hD⟩
      rw [List.getElem?_map] at hx
      obtain ⟨t, het, rfl⟩ := Option.map_eq_some_iff.mp hx
      have et : tx ts i = t := by show ts.getD i Str.empty = t; rw [List.getD_eq_getElem?_getD, het]; rfl
      have il : i < ts.length := (List.getElem?_eq_some_iff.mp het).1
      refine ⟨rfl, .str t, rfl, _, rfl, _, rfl, t, rfl, len5 (Nat.le_trans (ht.len t (List.mem_of_getElem? het)) (by decide)), _, hD, ?_, sameAt k1 nD, ?_⟩
      · rw [List.length_map, List.length_map, List.length_range, sizeLine_eq]
        omega
      · rw [upd_same, List.range_succ, List.map_append, List.map_append]
        show some (HO.lst (_ ++ [V.str (cutS t (some (-1)) none)])) = some (HO.lst (_ ++ [V.str (sgS ts (i, (txc ts i).length))]))
        rw [← sgS_end, et]
    rintro H1 ⟨k1, hD⟩
    rw [List.length_map] at hD
    dsimp only [gName, tSeq]
    refine ⟨.ref a, rfl, a, ts, rfl, ht.same k1, fun O H2 k2 nO ⟨vs, hO, hv⟩ => ?_⟩
    have hD2 := k2 _ _ hD
    have ht2 := (ht.same k1).same k2
    have lv := hv.len
    refine ⟨O, rfl, ⟨_, sq_of hO⟩, for_list (xs := vs) (fun j σ H' => ∃ u2 u3 : Option V, σ = [some (.ref a), some (.ref D), u2, u3, none] ∧ Same H H' ∧ (∀ c xs, H2 c = some (.tup xs) → H' c = some (.tup xs)) ∧ H' O = some (.lst vs) ∧ H' D = some (.lst ((((List.range ts.length).map fun i => sgS ts (i, (txc ts i).length)) ++ ((ord ts).take j).map (sgS ts)).map V.str))) ⟨_, _, rfl, k1.trans k2, fun _ _ h => h, hO, by rw [hD2]; simp⟩ (fun j σ H' _ w => by obtain ⟨_, _, _, _, _, w, _⟩ := w; exact sq_of w) ?_ ?_⟩
    · rintro j x σ H3 hx ⟨u2, u3, rfl, k3, kt, hO3, hD3⟩
      obtain ⟨p, ep, b, rfl, eb⟩ := hv.at hx
      have ip := ord_mem.mp (List.mem_of_getElem? ep)
      have eb3 := kt _ _ eb
      have ta3 := kt _ _ ht2.at_
      have tl := tx_len ht.len p.1
      have nOD : O ≠ D := fun e => by rw [e, (k2 _ _ hD)] at hO; exact absurd nO (by rw [e, hD]; simp)
      have fin : ∀ {σ' : L2.St} (z : Str), z = sgS ts p → σ' = [some (.ref a), some (.ref D), some (.int (p.1 : Nat)), some (.int (p.2 : Nat)), none] → ∃ u2 u3 : Option V, σ' = [some (.ref a), some (.ref D), u2, u3, none] ∧ Same H (upd H3 D (.lst ((((List.range ts.length).map fun i => sgS ts (i, (txc ts i).length)) ++ ((ord ts).take j).map (sgS ts)).map V.str ++ [.str z]))) ∧ (∀ c xs, H2 c = some (.tup xs) → upd H3 D (.lst ((((List.range ts.length).map fun i => sgS ts (i, (txc ts i).length)) ++ ((ord ts).take j).map (sgS ts)).map V.str ++ [.str z])) c = some (.tup xs)) ∧ upd H3 D (.lst ((((List.range ts.length).map fun i => sgS ts (i, (txc ts i).length)) ++ ((ord ts).take j).map (sgS ts)).map V.str ++ [.str z])) O = some (.lst vs) ∧ upd H3 D (.lst ((((List.range ts.length).map fun i => sgS ts (i, (txc ts i).length)) ++ ((ord ts).take j).map (sgS ts)).map V.str ++ [.str z])) D = some (.lst ((((List.range ts.length).map fun i => sgS ts (i, (txc ts i).length)) ++ ((ord ts).take (j + 1)).map (sgS ts)).map V.str)) := fun z e1 e2 => by
        refine ⟨_, _, e2, sameAt k3 nD, fun c xs h => ?_, ?_, ?_⟩
        · have h3 := kt _ _ h
          have n : c ≠ D := fun e => by rw [e, hD3] at h3; cases h3
          rw [upd_ne n]
          exact h3
        · rw [upd_ne nOD]
          exact hO3
        · rw [upd_same, take_snoc ep, e1]
          simp
      have len : ((((List.range ts.length).map fun i => sgS ts (i, (txc ts i).length)) ++ ((ord ts).take j).map (sgS ts)).map V.str).length < sizeLine := by
        rw [List.length_map, List.length_append, List.length_map, List.length_range, List.length_map, List.length_take, sizeLine_eq]
        omega
      have lp : p.2 ≤ (txc ts p.1).length := by have := ip.at_; rw [len_S] at this; exact Nat.le_of_lt this
      refine ⟨b, _, rfl, SqT.of eb3, rfl, _, _, rfl, _, _, rfl, rfl, ?_⟩
      refine ⟨.ref D, rfl, .inl ⟨rfl, _, sq_of hD3⟩, ?_⟩
      refine ⟨.int (p.2 : Nat), rfl, _, _, rfl, rfl, _, rfl, ite2 (fun e => ?_) (fun e => ?_)⟩
      · have p0 : 0 < p.2 := by have := of_decide_eq_true e; omega
        refine ⟨.ref a, rfl, .int (p.1 : Nat), rfl, a, _, _, _, rfl, rfl, SqT.of ta3, atI_nat (tx_at ip.text), .int (p.2 : Nat), rfl, _, _, rfl, rfl, _, rfl, .int (p.2 : Nat), rfl, _, rfl, _, rfl, len5 (by omega), D, _, _, rfl, rfl, hD3, len, ?_⟩
        exact fin _ (sg_cut p0 lp) rfl
      · have p0 : p.2 = 0 := by
          rcases Nat.eq_zero_or_pos p.2 with z | z
          · exact z
          · exact absurd (decide_eq_true (show (0 : Int) < ((p.2 : Nat) : Int) by omega)) e
        refine ⟨D, _, _, rfl, rfl, hD3, len, ?_⟩
        refine fin _ ?_ rfl
        rw [show p = (p.1, 0) from Prod.ext rfl p0, sg_first]
    · rintro σ H3 ⟨u2, u3, rfl, k3, kt, hO3, hD3⟩
      rw [lv, List.take_length, ← row_split] at hD3
      exact ⟨.ref D, rfl, D, _, rfl, sq_of hD3, fun t o nt pt => q t _ (k3.trans (Same.new nt)) ⟨o, upd_same, pt⟩⟩
end
end LawK
set_option maxHeartbeats 4000000
namespace LawK
open PySem PySem.Spec PyProof.Rows L2 Ev

open PySem.W
def numV : V → Bool
  | .int i => decide (0 ≤ i)
  | _ => false
def wordV : V → Bool
  | .str z => sgB z && decide ((0 : Int) < (z.length : Int))
  | _ => false
def signV : V → Bool
  | .str z => sgB z && decide (z.length = 1)
  | _ => false
theorem sgV_word {x : V} (h : sgV x = false) : wordV x = false ∧ signV x = false := by
  cases x with
  | str z =>
    have e : sgB z = false := h
    show (sgB z && _) = false ∧ (sgB z && _) = false
    rw [e]
    exact ⟨rfl, rfl⟩
  | _ => exact ⟨rfl, rfl⟩
def spNumO : Sp := fun vs H Q _ => ∃ (x : V) (k : Kn), vs = [x] ∧ Ko H x k ∧ Q (.bl (numV x)) H
def spWdO : Sp := fun vs H Q _ => ∃ (x : V) (k : Kn), vs = [x] ∧ Ko H x k ∧ Vs x ∧ Q (.bl (wordV x)) H
def spSnO : Sp := fun vs H Q _ => ∃ (x : V) (k : Kn), vs = [x] ∧ Ko H x k ∧ Vs x ∧ Q (.bl (signV x)) H
def wholeV (x : V) (l m : Int) : Bool := match x with
  | .int i => decide (l ≤ i) && decide (i ≤ m)
  | _ => false
def spWhole : Sp := fun vs H Q _ => ∃ (x : V) (k : Kn) (l m : Int), vs = [x, .int l, .int m] ∧ Ko H x k ∧ Q (.bl (wholeV x l m)) H
section
variable {P : Program} {w : World} {K : PySem.W.Frag} {mg : Str → Option Value} {base : Heap}
abbrev sPNumber : Stmt := topS 8
theorem scPNumber : FnScope ["thing"] ["thing"] (defScope sPNumber) := ⟨rfl, rfl, rfl, by decide +kernel, rfl, by decide +kernel, by decide +kernel⟩
theorem ok_PNumber {f : Addr} {fd : FuncData} (F : Fun K "is_number" "is_number" sPNumber f fd)   (T : Glob mg) : FnOk P w K mg base CX0 1 f fd ["thing"] spNumO := by
  refine F.ok scPNumber (fun vs H Q E h => ?_) (fun cdv A outer s H vs Q E hr h => ?_)
  · obtain ⟨x, k, rfl, _⟩ := h
    rfl
  · refine ⟨_, (pss_one (ps_ret (pe_and (pe_callB call_isi (by rfl) T.isinstance PyProof.Rows.boot_isinstance (pa_cons (pv 0) (pa_cons (pe_bltn (v := .ty "int") (by rfl) T.int (by decide +kernel) rfl) pa_nil))) (pe_and (pe_not (pe_callB call_isi (by rfl) T.isinstance PyProof.Rows.boot_isinstance (pa_cons (pv 0) (pa_cons (pe_bltn (v := .ty "bool") (by rfl) T.bool (by decide +kernel) rfl) pa_nil)))) (pe_one (pe_cmpR op_ge (pv 0) pe_int (nomark _))))))), ?_⟩
    obtain ⟨x, k, rfl, hk, q⟩ := h
    refine ⟨x, rfl, x, .ty "int", .type (Kn.name k), .type "int", kitB k .int, rfl, .ty _, hk.ty, kit_kn k .int, _, rfl, ?_⟩
    rcases hk with hk | ⟨rfl, a, xs, rfl, hk⟩
    · cases hk with
      | int i => exact iteT ⟨.int i, rfl, .int i, .ty "bool", .type (Kn.name .int), .type "bool", kitB .int .bl, rfl, .ty _, Kd.tyx (.int i), kit_kn .int .bl, _, rfl, _, rfl, iteT ⟨.int i, rfl, _, _, rfl, rfl, q⟩⟩
      | bl b => exact iteT ⟨.bl b, rfl, .bl b, .ty "bool", .type (Kn.name .bl), .type "bool", kitB .bl .bl, rfl, .ty _, Kd.tyx (.bl b), kit_kn .bl .bl, _, rfl, _, rfl, iteF q⟩
      | str z => exact iteF q
      | non => exact iteF q
      | lst e => exact iteF q
      | tup e => exact iteF q
      | dic e => exact iteF q
    · exact iteF q
abbrev sWhole : Stmt := topS 38
theorem scWhole : FnScope ["thing", "least", "most"] ["thing", "least", "most"] (defScope sWhole) := ⟨rfl, rfl, rfl, by decide +kernel, rfl, by decide +kernel, by decide +kernel⟩
theorem ok_Whole {f : Addr} {fd : FuncData} (F : Fun K "_law_whole" "_law_whole" sWhole f fd)   (T : Glob mg) : FnOk P w K mg base CX0 1 f fd ["thing", "least", "most"] spWhole := by
  refine F.ok scWhole (fun vs H Q E h => ?_) (fun cdv A outer s H vs Q E hr h => ?_)
  · obtain ⟨x, k, l, m, rfl, _⟩ := h
    rfl
  · refine ⟨_, (pss_one (ps_ret (pe_and (pe_callB call_isi (by rfl) T.isinstance PyProof.Rows.boot_isinstance (pa_cons (pv 0) (pa_cons (pe_bltn (v := .ty "int") (by rfl) T.int (by decide +kernel) rfl) pa_nil))) (pe_and (pe_not (pe_callB call_isi (by rfl) T.isinstance PyProof.Rows.boot_isinstance (pa_cons (pv 0) (pa_cons (pe_bltn (v := .ty "bool") (by rfl) T.bool (by decide +kernel) rfl) pa_nil)))) (pe_one (pe_chain op_le op_le (pv 1) (pv 0) (pv 2))))))), ?_⟩
    obtain ⟨x, k, l, m, rfl, hk, q⟩ := h
    refine ⟨x, rfl, x, .ty "int", .type (Kn.name k), .type "int", kitB k .int, rfl, .ty _, hk.ty, kit_kn k .int, _, rfl, ?_⟩
    rcases hk with hk | ⟨rfl, a, xs, rfl, hk⟩
    · cases hk with
      | int i => exact iteT ⟨.int i, rfl, .int i, .ty "bool", .type (Kn.name .int), .type "bool", kitB .int .bl, rfl, .ty _, Kd.tyx (.int i), kit_kn .int .bl, _, rfl, _, rfl, iteT (⟨_, rfl, _, rfl, _, _, rfl, rfl, _, rfl, ite2 (fun c => ⟨_, rfl, _, _, rfl, rfl, by
          have q2 : Q (.bl (decide (l ≤ i) && decide (i ≤ m))) H := q
          rw [c, Bool.true_and] at q2
          exact q2⟩) (fun c => by
          have q2 : Q (.bl (decide (l ≤ i) && decide (i ≤ m))) H := q
          rw [eq_false_of_ne_true c, Bool.false_and] at q2
          exact eq_false_of_ne_true c ▸ q2)⟩)⟩
      | bl b => exact iteT ⟨.bl b, rfl, .bl b, .ty "bool", .type (Kn.name .bl), .type "bool", kitB .bl .bl, rfl, .ty _, Kd.tyx (.bl b), kit_kn .bl .bl, _, rfl, _, rfl, iteF q⟩
      | str z => exact iteF q
      | non => exact iteF q
      | lst e => exact iteF q
      | tup e => exact iteF q
      | dic e => exact iteF q
    · exact iteF q
abbrev sPWord : Stmt := topS 10
theorem scPWord : FnScope ["thing"] ["thing"] (defScope sPWord) := ⟨rfl, rfl, rfl, by decide +kernel, rfl, by decide +kernel, by decide +kernel⟩
theorem ok_PWord {f : Addr} {fd : FuncData} (F : Fun K "is_word" "is_word" sPWord f fd)  {fPSigns : Addr} {fdPSigns : FuncData} (DPSigns : Dk P w K mg base "is_signs" sPSigns ["thing"] 1 spSgO fPSigns fdPSigns) (T : Glob mg) : FnOk P w K mg base CX0 2 f fd ["thing"] spWdO := by
  refine F.ok scPWord (fun vs H Q E h => ?_) (fun cdv A outer s H vs Q E hr h => ?_)
  · obtain ⟨x, k, rfl, _⟩ := h
    rfl
  · refine ⟨_, (pss_one (ps_ret (pe_and (pe_call DPSigns.ok (hr.mono (by decide)) (by rfl) DPSigns.g DPSigns.F.kp DPSigns.b .nil pass0 (pa_cons (pv 0) pa_nil)) (pe_one (pe_cmpR op_gt (pe_callB call_lenZ (by rfl) T.len PySem.boot_len (pa_cons (pv 0) pa_nil)) pe_int (nomark _)))))), ?_⟩
    obtain ⟨x, k, rfl, hk, hv, q⟩ := h
    refine ⟨x, rfl, x, k, rfl, hk, _, rfl, ?_⟩
    cases e : sgV x with
    | false =>
      have e2 := sgV_word e
      rw [e2.1] at q
      exact iteF q
    | true =>
      obtain ⟨z, rfl⟩ : ∃ z, x = .str z := by
        cases x with
        | str z => exact ⟨z, rfl⟩
        | _ => cases e
      have e1 : sgB z = true := e
      refine iteT ⟨.str z, rfl, z, rfl, len5 (hv z rfl), _, _, rfl, rfl, by have q2 : Q (.bl (sgB z && decide ((0 : Int) < (z.length : Int)))) H := q; rw [e1, Bool.true_and] at q2; exact q2⟩
abbrev sPSign : Stmt := topS 11
theorem scPSign : FnScope ["thing"] ["thing"] (defScope sPSign) := ⟨rfl, rfl, rfl, by decide +kernel, rfl, by decide +kernel, by decide +kernel⟩
theorem ok_PSign {f : Addr} {fd : FuncData} (F : Fun K "is_sign" "is_sign" sPSign f fd)  {fPSigns : Addr} {fdPSigns : FuncData} (DPSigns : Dk P w K mg base "is_signs" sPSigns ["thing"] 1 spSgO fPSigns fdPSigns) (T : Glob mg) : FnOk P w K mg base CX0 2 f fd ["thing"] spSnO := by
  refine F.ok scPSign (fun vs H Q E h => ?_) (fun cdv A outer s H vs Q E hr h => ?_)
  · obtain ⟨x, k, rfl, _⟩ := h
    rfl
  · refine ⟨_, (pss_one (ps_ret (pe_and (pe_call DPSigns.ok (hr.mono (by decide)) (by rfl) DPSigns.g DPSigns.F.kp DPSigns.b .nil pass0 (pa_cons (pv 0) pa_nil)) (pe_one (pe_cmpR op_eq (pe_callB call_lenZ (by rfl) T.len PySem.boot_len (pa_cons (pv 0) pa_nil)) pe_int (nomark _)))))), ?_⟩
    obtain ⟨x, k, rfl, hk, hv, q⟩ := h
    refine ⟨x, rfl, x, k, rfl, hk, _, rfl, ?_⟩
    cases e : sgV x with
    | false =>
      have e2 := sgV_word e
      rw [e2.2] at q
      exact iteF q
    | true =>
      obtain ⟨z, rfl⟩ : ∃ z, x = .str z := by
        cases x with
        | str z => exact ⟨z, rfl⟩
        | _ => cases e
      have e1 : sgB z = true := e
      refine iteT ⟨.str z, rfl, z, rfl, len5 (hv z rfl), rfl, by have q2 : Q (.bl (sgB z && decide (z.length = 1))) H := q; rw [e1, Bool.true_and] at q2; exact (congrArg (fun b => Q (.bl b) H) (decide_eq_decide.mpr ⟨fun h => by have := V.int.inj h; omega, fun h => by rw [h]; rfl⟩ : decide (V.int (z.length : Int) = V.int 1) = decide (z.length = 1))).mpr q2⟩
end
end LawK
set_option maxHeartbeats 4000000
namespace LawK
open PySem PySem.Spec PyProof.Rows L2 Ev

open PySem.W
/-- the words for the errors -/
inductive ErK where
  | row | sign | word | number
def ErK.w : ErK → Str
  | .row => "row"
  | .sign => "sign"
  | .word => "word"
  | .number => "number"
def ErK.ad (cR cS cW cN : Addr) : ErK → Addr
  | .row => cR
  | .sign => cS
  | .word => cW
  | .number => cN
def lenO : Option (List V) → Int
  | some vs => ((vs.length : Nat) : Int)
  | none => 0
noncomputable def erLess (o : Option (List V)) (y : V) : Option ErK := if (dueO o).isSome then (if signV y then none else some .sign) else some .row
noncomputable def erFound (o : Option (List V)) (y : V) : Option ErK := if (dueO o).isSome then (if wordV y then none else some .word) else some .row
noncomputable def erMany (o : Option (List V)) (y n : V) : Option ErK := if (dueO o).isSome then (if signV y then (if wholeV n 0 (lenO o) then none else some .number) else some .sign) else some .row
noncomputable def erRow (o : Option (List V)) : Option ErK := if (dueO o).isSome then none else some .row
/-- what is raised, or something is given -/
def Gv (cR cS cW cN : Addr) (H : Hp) (Q : V → Hp → Prop) (E : XK) (e : Option ErK) : Prop := (∀ e', e = some e' → ∀ H', Same H H' → E (.ref (e'.ad cR cS cW cN)) none H') ∧ (e = none → ∀ v H', Same H H' → Q v H')
def spELess (cR cS cW cN : Addr) : Sp := fun vs H Q E => ∃ (x : V) (o : Option (List V)) (y : V) (k : Kn), vs = [x, y] ∧ Th H x o ∧ Ko H y k ∧ Vs y ∧ Gv cR cS cW cN H Q E (erLess o y)
def spEFound (cR cS cW cN : Addr) : Sp := fun vs H Q E => ∃ (x : V) (o : Option (List V)) (y : V) (k : Kn), vs = [x, y] ∧ Th H x o ∧ Ko H y k ∧ Vs y ∧ Gv cR cS cW cN H Q E (erFound o y)
def spEMany (cR cS cW cN : Addr) : Sp := fun vs H Q E => ∃ (x : V) (o : Option (List V)) (y : V) (k : Kn) (n : V) (kn : Kn), vs = [x, y, n] ∧ Th H x o ∧ Ko H y k ∧ Vs y ∧ Ko H n kn ∧ Gv cR cS cW cN H Q E (erMany o y n)
def spQManyZ : Sp := fun vs H Q _ => ∃ (a : Addr) (zs : List Str) (w : Str) (n : Int), vs = [.ref a, .str w, .int n] ∧ RowZ H a zs ∧ 0 ≤ n ∧ ∀ (m : Nat) H', Same H H' → Q (.int (m : Nat)) H'
def spQLessZ : Sp := fun vs H Q _ => ∃ (a : Addr) (zs : List Str) (w : Str), vs = [.ref a, .str w] ∧ RowZ H a zs ∧ zs.length ≤ 200 ∧ ∀ (m : Nat) H', Same H H' → Q (.int (m : Nat)) H'
section
variable {P : Program} {w : World} {K : PySem.W.Frag} {mg : Str → Option Value} {base : Heap}
variable {cR cS cW cN : Addr}
abbrev sQMany : Stmt := topS 24
theorem scQMany : FnScope ["row", "sign", "number"] ["row", "sign", "number"] (defScope sQMany) := ⟨rfl, rfl, rfl, by decide +kernel, rfl, by decide +kernel, by decide +kernel⟩
theorem ok_QMany {f : Addr} {fd : FuncData} (F : Fun K "_many_ahead" "_many_ahead" sQMany f fd)   (T : Glob mg) : FnOk P w K mg base CX0 1 f fd ["row", "sign", "number"] spQManyZ := by
  refine F.ok scQMany (fun vs H Q E h => ?_) (fun cdv A outer s H vs Q E hr h => ?_)
  · obtain ⟨a, zs, w, n, rfl, _⟩ := h
    rfl
  · refine ⟨_, (pss_one (ps_ret (pe_bmT PySem.F.plainAttrs_tuple PySem.F.slot_tuple_count PySem.F.type_tuple_count mt_tcount (pe_slice sl_tupF (pv 0) po_none (po_some (pv 2))) (pa_cons (pv 1) pa_nil)))), ?_⟩
    obtain ⟨a, zs, w, n, rfl, ha, hn, q⟩ := h
    refine ⟨.ref a, rfl, _, rfl, _, rfl, a, _, rfl, ha, fun b H1 k1 hb => ?_⟩
    have eb : cutV (zs.map V.str) none (some n) = (zs.take n.toNat).map V.str := by
      rw [cutV_to hn, List.map_take]
    rw [eb] at hb
    exact ⟨⟨b, _, rfl, hb⟩, .str w, rfl, b, _, w, rfl, rfl, hb.sq, q _ H1 k1⟩
abbrev sQLess : Stmt := topS 26
theorem scQLess : FnScope ["row", "sign", "other"] ["row", "sign"] (defScope sQLess) := ⟨rfl, rfl, rfl, by decide +kernel, rfl, by decide +kernel, by decide +kernel⟩
theorem ok_QLess {f : Addr} {fd : FuncData} (F : Fun K "_less_than" "_less_than" sQLess f fd)   (T : Glob mg) : FnOk P w K mg base CX0 1 f fd ["row", "sign"] spQLessZ := by
  refine F.ok scQLess (fun vs H Q E h => ?_) (fun cdv A outer s H vs Q E hr h => ?_)
  · obtain ⟨a, zs, w, rfl, _⟩ := h
    rfl
  · refine ⟨_, (pss_one (ps_ret (pe_callB call_len_seq (by rfl) T.len PySem.boot_len (pa_cons (pe_lc (own := [("other", 2)]) (g := gName 2) (by rfl) scQLess.nd (pi_tup (pv 0)) (blkOk_by (N := ["row", "sign", "other"]) (sc := defScope sQLess) (by decide +kernel)) (fun _ _ _ _ _ => pg_name (i := 2) scQLess.nd rfl (.inl rfl)) (fun _ _ _ _ _ => (pts_one (pt_cmpR op_lt_str (pv 2) (pv 1) (nomark _)))) (fun _ _ _ _ _ => (pv 2))) pa_nil)))), ?_⟩
    obtain ⟨a, zs, w, rfl, ha, few, q⟩ := h
    refine ⟨.ref a, rfl, a, rfl, ⟨_, ha.sq⟩, fun D nD => lc_tup (K := K) (xs := zs.map V.str) (fun i H' => Same H H' ∧ ∃ ys : List V, H' D = some (.lst ys) ∧ ys.length ≤ i) ⟨Same.new nD, [], upd_same, Nat.le_refl _⟩ (fun i H' _ w => (TupF.same w.1 ha).sq) ?_ ?_⟩
    · rintro i x H1 hx ⟨k1, ys, hD, hl⟩
      rw [List.getElem?_map] at hx
      obtain ⟨z, hz, rfl⟩ := Option.map_eq_some_iff.mp hx
      refine ⟨rfl, .str z, rfl, .str w, rfl, _, _, rfl, rfl, _, rfl, ?_⟩
      have hi : i < zs.length := (List.getElem?_eq_some_iff.mp hz).1
      refine ite2 (fun c => ?_) (fun c => ?_)
      · refine ⟨.str z, rfl, _, hD, ?_, sameAt k1 nD, _, upd_same, ?_⟩
        · have h200 : (200 : Nat) < sizeLine := by decide
          omega
        · rw [List.length_append]
          show ys.length + 1 ≤ i + 1
          omega
      · exact ⟨k1, ys, hD, by omega⟩
    rintro H1 ⟨k1, ys, hD, hl⟩
    exact ⟨D, _, rfl, .inl (SqL.of hD), q _ H1 k1⟩

theorem signV_str {x : V} (h : signV x = true) : ∃ z, x = .str z := by
  cases x with
  | str z => exact ⟨z, rfl⟩
  | _ => cases h
theorem wordV_str {x : V} (h : wordV x = true) : ∃ z, x = .str z := by
  cases x with
  | str z => exact ⟨z, rfl⟩
  | _ => cases h
theorem numV_int {x : V} (h : numV x = true) : ∃ i, x = .int i ∧ 0 ≤ i := by
  cases x with
  | int i => exact ⟨i, rfl, of_decide_eq_true h⟩
  | _ => cases h
theorem whole_num {x : V} {m : Int} (h : numV x = false) : wholeV x 0 m = false := by
  cases x with
  | int i =>
    have e : decide ((0 : Int) ≤ i) = false := h
    show (decide ((0 : Int) ≤ i) && _) = false
    rw [e, Bool.false_and]
  | _ => rfl
abbrev sPLess : Stmt := topS 27
theorem scPLess : FnScope ["row", "sign"] ["row", "sign"] (defScope sPLess) := ⟨rfl, rfl, rfl, by decide +kernel, rfl, by decide +kernel, by decide +kernel⟩
theorem ok_PLess {f : Addr} {fd : FuncData} (F : Fun K "less_than" "less_than" sPLess f fd) {PE : Addr} (ENoRow : Cls0 P K mg PE "NoRow" cR) (ENoSign : Cls0 P K mg PE "NoSign" cS) (ENoWord : Cls0 P K mg PE "NoWord" cW) (ENoNumber : Cls0 P K mg PE "NoNumber" cN) {fPSign : Addr} {fdPSign : FuncData} (DPSign : Dk P w K mg base "is_sign" sPSign ["thing"] 2 spSnO fPSign fdPSign) {fPIsRow : Addr} {fdPIsRow : FuncData} (DPIsRow : Dk P w K mg base "is_row" sPIsRow ["thing"] 4 spIsRowO fPIsRow fdPIsRow) {fQLess : Addr} {fdQLess : FuncData} (DQLess : Dk P w K mg base "_less_than" sQLess ["row", "sign"] 1 spQLessZ fQLess fdQLess) (T : Glob mg) : FnOk P w K mg base (L2.CX P w) 5 f fd ["row", "sign"] (spELess cR cS cW cN) := by
  obtain ⟨fR, SNoRow⟩ := ENoRow.sup
  obtain ⟨fS, SNoSign⟩ := ENoSign.sup
  obtain ⟨fW, SNoWord⟩ := ENoWord.sup
  obtain ⟨fN, SNoNumber⟩ := ENoNumber.sup
  refine F.okX scPLess (fun vs H Q E h => ?_) (fun cdv A outer s H vs Q E hr h => ?_)
  · obtain ⟨x, o, y, k, rfl, _⟩ := h
    rfl
  · refine ⟨_, (pss_cons (ps_if (pt_not (pt_val (pe_call DPIsRow.ok (hr.mono (by decide)) (by rfl) DPIsRow.g DPIsRow.F.kp DPIsRow.b .nil pass0 (pa_cons (pv 0) pa_nil))))
      (pss_one (ps_raise rfl (takes_of rfl rfl rfl rfl) (pmk_exc0 SNoRow hr (by rfl) ENoRow.g)))
      pss_nil)
      (pss_cons (ps_if (pt_not (pt_val (pe_call DPSign.ok (hr.mono (by decide)) (by rfl) DPSign.g DPSign.F.kp DPSign.b .nil pass0 (pa_cons (pv 1) pa_nil))))
      (pss_one (ps_raise rfl (takes_of rfl rfl rfl rfl) (pmk_exc0 SNoSign hr (by rfl) ENoSign.g)))
      pss_nil)
      (pss_one (ps_ret (pe_call DQLess.ok (hr.mono (by decide)) (by rfl) DQLess.g DQLess.F.kp DQLess.b .nil pass0 (pa_cons (pv 0) (pa_cons (pv 1) pa_nil))))))), ?_⟩
    obtain ⟨x, o, y, k, rfl, ht, hy, vy, g0, g1⟩ := h
    refine ⟨x, rfl, x, o, rfl, ht, fun H1 k1 => ⟨_, rfl, ?_⟩⟩
    cases du : dueO o with
    | none => exact iteT (g0 .row (by unfold erLess; rw [du]; rfl) H1 k1)
    | some ts =>
      obtain ⟨a, vs, rfl, rfl, ha, rz, rfl⟩ := due_rz ht du
      have few := rz.len
      refine iteF ?_
      dsimp only [tNext, tDrop]
      refine ⟨y, rfl, y, k, rfl, hy.same k1, vy, _, rfl, ?_⟩
      cases sv : signV y with
      | false => exact iteT (g0 .sign (by unfold erLess; rw [du, sv]; rfl) H1 k1)
      | true =>
        refine iteF ?_
        obtain ⟨z, rfl⟩ := signV_str sv
        have ha1 := TupF.same k1 ha
        dsimp only [tNext, tDrop]
    
        exact ⟨.ref a, rfl, .str z, rfl, a, vs.map toS, z, rfl, ha1, few, fun m H2 k2 => g1 (by unfold erLess; rw [du, sv]; rfl) _ H2 (k1.trans k2)⟩
abbrev sPMany : Stmt := topS 25
theorem scPMany : FnScope ["row", "sign", "number"] ["row", "sign", "number"] (defScope sPMany) := ⟨rfl, rfl, rfl, by decide +kernel, rfl, by decide +kernel, by decide +kernel⟩
theorem ok_PMany {f : Addr} {fd : FuncData} (F : Fun K "many_ahead" "many_ahead" sPMany f fd) {PE : Addr} (ENoRow : Cls0 P K mg PE "NoRow" cR) (ENoSign : Cls0 P K mg PE "NoSign" cS) (ENoWord : Cls0 P K mg PE "NoWord" cW) (ENoNumber : Cls0 P K mg PE "NoNumber" cN) {fPSign : Addr} {fdPSign : FuncData} (DPSign : Dk P w K mg base "is_sign" sPSign ["thing"] 2 spSnO fPSign fdPSign) {fPIsRow : Addr} {fdPIsRow : FuncData} (DPIsRow : Dk P w K mg base "is_row" sPIsRow ["thing"] 4 spIsRowO fPIsRow fdPIsRow) {fQMany : Addr} {fdQMany : FuncData} (DQMany : Dk P w K mg base "_many_ahead" sQMany ["row", "sign", "number"] 1 spQManyZ fQMany fdQMany) {fPNumber : Addr} {fdPNumber : FuncData} (DPNumber : Dk P w K mg base "is_number" sPNumber ["thing"] 1 spNumO fPNumber fdPNumber) (T : Glob mg) : FnOk P w K mg base (L2.CX P w) 5 f fd ["row", "sign", "number"] (spEMany cR cS cW cN) := by
  obtain ⟨fR, SNoRow⟩ := ENoRow.sup
  obtain ⟨fS, SNoSign⟩ := ENoSign.sup
  obtain ⟨fW, SNoWord⟩ := ENoWord.sup
  obtain ⟨fN, SNoNumber⟩ := ENoNumber.sup
  refine F.okX scPMany (fun vs H Q E h => ?_) (fun cdv A outer s H vs Q E hr h => ?_)
  · obtain ⟨x, o, y, k, n, kn, rfl, _⟩ := h
    rfl
  · refine ⟨_, (pss_cons (ps_if (pt_not (pt_val (pe_call DPIsRow.ok (hr.mono (by decide)) (by rfl) DPIsRow.g DPIsRow.F.kp DPIsRow.b .nil pass0 (pa_cons (pv 0) pa_nil))))
      (pss_one (ps_raise rfl (takes_of rfl rfl rfl rfl) (pmk_exc0 SNoRow hr (by rfl) ENoRow.g)))
      pss_nil)
      (pss_cons (ps_if (pt_not (pt_val (pe_call DPSign.ok (hr.mono (by decide)) (by rfl) DPSign.g DPSign.F.kp DPSign.b .nil pass0 (pa_cons (pv 1) pa_nil))))
      (pss_one (ps_raise rfl (takes_of rfl rfl rfl rfl) (pmk_exc0 SNoSign hr (by rfl) ENoSign.g)))
      pss_nil)
      (pss_cons (ps_if (PW.pt (pw_or (pt_not (pt_val (pe_call DPNumber.ok (hr.mono (by decide)) (by rfl) DPNumber.g DPNumber.F.kp DPNumber.b .nil pass0 (pa_cons (pv 2) pa_nil)))) (pw_or1 (pt_cmpR op_gt (pv 2) (pe_callB call_len_seq (by rfl) T.len PySem.boot_len (pa_cons (pv 0) pa_nil)) (nomark _)))))
      (pss_one (ps_raise rfl (takes_of rfl rfl rfl rfl) (pmk_exc0 SNoNumber hr (by rfl) ENoNumber.g)))
      pss_nil)
      (pss_one (ps_ret (pe_call DQMany.ok (hr.mono (by decide)) (by rfl) DQMany.g DQMany.F.kp DQMany.b .nil pass0 (pa_cons (pv 0) (pa_cons (pv 1) (pa_cons (pv 2) pa_nil))))))))), ?_⟩
    obtain ⟨x, o, y, k, n, kn, rfl, ht, hy, vy, hn, g0, g1⟩ := h
    refine ⟨x, rfl, x, o, rfl, ht, fun H1 k1 => ⟨_, rfl, ?_⟩⟩
    cases du : dueO o with
    | none => exact iteT (g0 .row (by unfold erMany; rw [du]; rfl) H1 k1)
    | some ts =>
      obtain ⟨a, vs, rfl, rfl, ha, rz, rfl⟩ := due_rz ht du
      have few := rz.len
      refine iteF ?_
      dsimp only [tNext, tDrop]
      refine ⟨y, rfl, y, k, rfl, hy.same k1, vy, _, rfl, ?_⟩
      cases sv : signV y with
      | false => exact iteT (g0 .sign (by unfold erMany; rw [du, sv]; rfl) H1 k1)
      | true =>
        refine iteF ?_
        obtain ⟨z, rfl⟩ := signV_str sv
        have ha1 := TupF.same k1 ha
        dsimp only [tNext, tDrop]
    
        refine ⟨n, rfl, n, kn, rfl, hn.same k1, _, rfl, ?_⟩
        cases nv : numV n with
        | false => exact iteT (g0 .number (by unfold erMany; rw [du, sv, whole_num nv]; rfl) H1 k1)
        | true =>
          obtain ⟨i, rfl, i0⟩ := numV_int nv
          refine iteF ⟨_, rfl, .ref a, rfl, a, _, rfl, .inr ha1.sq, _, _, rfl, rfl, _, rfl, ite2 (fun c => ?_) (fun c => ?_)⟩
          · have c2 := of_decide_eq_true c
            rw [List.length_map, List.length_map] at c2
            have wv : wholeV (.int i) 0 (lenO (some vs)) = false := by
              show (decide ((0 : Int) ≤ i) && decide (i ≤ ((vs.length : Nat) : Int))) = false
              rw [decide_eq_false (show ¬ i ≤ ((vs.length : Nat) : Int) by omega), Bool.and_false]
            exact g0 .number (by unfold erMany; rw [du, sv, wv]; rfl) H1 k1
          · have c2 : ¬ (_ : Int) < _ := fun z => c (decide_eq_true z)
            rw [List.length_map, List.length_map] at c2
            have wv : wholeV (.int i) 0 (lenO (some vs)) = true := by
              show (decide ((0 : Int) ≤ i) && decide (i ≤ ((vs.length : Nat) : Int))) = true
              rw [decide_eq_true i0, decide_eq_true (show i ≤ ((vs.length : Nat) : Int) by omega)]
              rfl
            exact ⟨.ref a, rfl, .str z, rfl, _, rfl, a, vs.map toS, z, i, rfl, ha1, i0, fun m H2 k2 => g1 (by unfold erMany; rw [du, sv, wv]; rfl) _ H2 (k1.trans k2)⟩
abbrev sPFound : Stmt := topS 28
theorem scPFound : FnScope ["row", "word", "first", "behind", "sign", "less"] ["row", "word"] (defScope sPFound) := ⟨rfl, rfl, rfl, by decide +kernel, rfl, by decide +kernel, by decide +kernel⟩
theorem ok_PFound {f : Addr} {fd : FuncData} (F : Fun K "found_behind" "found_behind" sPFound f fd) {PE : Addr} (ENoRow : Cls0 P K mg PE "NoRow" cR) (ENoSign : Cls0 P K mg PE "NoSign" cS) (ENoWord : Cls0 P K mg PE "NoWord" cW) (ENoNumber : Cls0 P K mg PE "NoNumber" cN) {fPWord : Addr} {fdPWord : FuncData} (DPWord : Dk P w K mg base "is_word" sPWord ["thing"] 2 spWdO fPWord fdPWord) {fPIsRow : Addr} {fdPIsRow : FuncData} (DPIsRow : Dk P w K mg base "is_row" sPIsRow ["thing"] 4 spIsRowO fPIsRow fdPIsRow) {fQMany : Addr} {fdQMany : FuncData} (DQMany : Dk P w K mg base "_many_ahead" sQMany ["row", "sign", "number"] 1 spQManyZ fQMany fdQMany) {fQLess : Addr} {fdQLess : FuncData} (DQLess : Dk P w K mg base "_less_than" sQLess ["row", "sign"] 1 spQLessZ fQLess fdQLess) (T : Glob mg) : FnOk P w K mg base (L2.CX P w) 5 f fd ["row", "word"] (spEFound cR cS cW cN) := by
  obtain ⟨fR, SNoRow⟩ := ENoRow.sup
  obtain ⟨fS, SNoSign⟩ := ENoSign.sup
  obtain ⟨fW, SNoWord⟩ := ENoWord.sup
  obtain ⟨fN, SNoNumber⟩ := ENoNumber.sup
  refine F.okX scPFound (fun vs H Q E h => ?_) (fun cdv A outer s H vs Q E hr h => ?_)
  · obtain ⟨x, o, y, k, rfl, _⟩ := h
    rfl
  · refine ⟨_, (pss_cons (ps_if (pt_not (pt_val (pe_call DPIsRow.ok (hr.mono (by decide)) (by rfl) DPIsRow.g DPIsRow.F.kp DPIsRow.b .nil pass0 (pa_cons (pv 0) pa_nil))))
      (pss_one (ps_raise rfl (takes_of rfl rfl rfl rfl) (pmk_exc0 SNoRow hr (by rfl) ENoRow.g)))
      pss_nil)
      (pss_cons (ps_if (pt_not (pt_val (pe_call DPWord.ok (hr.mono (by decide)) (by rfl) DPWord.g DPWord.F.kp DPWord.b .nil pass0 (pa_cons (pv 1) pa_nil))))
      (pss_one (ps_raise rfl (takes_of rfl rfl rfl rfl) (pmk_exc0 SNoWord hr (by rfl) ENoWord.g)))
      pss_nil)
      (pss_cons (ps_set (i := 2) scPFound.nd rfl (.inl rfl) pe_int)
      (pss_cons (ps_set (i := 3) scPFound.nd rfl (.inl rfl) (pe_callB call_len_seq (by rfl) T.len PySem.boot_len (pa_cons (pv 0) pa_nil)))
      (pss_cons (ps_for (passes_of rfl) rfl (pi_str (pe_revS (pv 1))) (pg_name (i := 4) scPFound.nd rfl (.inl rfl))
      (pss_cons (ps_set (i := 5) scPFound.nd rfl (.inl rfl) (pe_call DQLess.ok (hr.mono (by decide)) (by rfl) DQLess.g DQLess.F.kp DQLess.b .nil pass0 (pa_cons (pv 0) (pa_cons (pv 4) pa_nil))))
        (pss_cons (ps_set (i := 2) scPFound.nd rfl (.inl rfl) (pe_op op_add (pv 5) (pe_call DQMany.ok (hr.mono (by decide)) (by rfl) DQMany.g DQMany.F.kp DQMany.b .nil pass0 (pa_cons (pv 0) (pa_cons (pv 4) (pa_cons (pv 2) pa_nil))))))
        (pss_cons (ps_set (i := 3) scPFound.nd rfl (.inl rfl) (pe_op op_add (pv 5) (pe_call DQMany.ok (hr.mono (by decide)) (by rfl) DQMany.g DQMany.F.kp DQMany.b .nil pass0 (pa_cons (pv 0) (pa_cons (pv 4) (pa_cons (pv 3) pa_nil))))))
        (pss_one (ps_if (pt_cmpR op_eq (pv 2) (pv 3) (nomark _))
        (pss_one ps_break)
        pss_nil))))))
      (pss_one (ps_ret (pe_tup (pa_cons (pv 2) (pa_cons (pv 3) pa_nil)))))))))), ?_⟩
    obtain ⟨x, o, y, k, rfl, ht, hy, vy, g0, g1⟩ := h
    refine ⟨x, rfl, x, o, rfl, ht, fun H1 k1 => ⟨_, rfl, ?_⟩⟩
    cases du : dueO o with
    | none => exact iteT (g0 .row (by unfold erFound; rw [du]; rfl) H1 k1)
    | some ts =>
      obtain ⟨a, vs, rfl, rfl, ha, rz, rfl⟩ := due_rz ht du
      have few := rz.len
      refine iteF ?_
      dsimp only [tNext, tDrop]
      refine ⟨y, rfl, y, k, rfl, hy.same k1, vy, _, rfl, ?_⟩
      cases sv : wordV y with
      | false => exact iteT (g0 .word (by unfold erFound; rw [du, sv]; rfl) H1 k1)
      | true =>
        refine iteF ?_
        obtain ⟨z, rfl⟩ := wordV_str sv
        have ha1 := TupF.same k1 ha
        dsimp only [tNext, tDrop]
    
        have ok : erFound (some vs) (.str z) = none := by unfold erFound; rw [du, sv]; rfl
        refine ⟨.ref a, rfl, a, _, rfl, .inr ha1.sq, ?_⟩
        refine ⟨.str z, rfl, z, rfl, len5 (vy z rfl), revZ z, rfl, for_it (walk_str (z := revZ z)) (fun i σ H' => ∃ (p p2 : Nat) (u4 u5 : Option V), σ = [some (.ref a), some (.str z), some (.int (p : Nat)), some (.int (p2 : Nat)), u4, u5] ∧ Same H1 H') ⟨0, _, _, _, rfl, Same.refl H1⟩ (fun _ _ _ _ _ => trivial) ?_ ?_⟩
        · rintro i x σ H2 H3 hi ⟨p, p2, u4, u5, rfl, k2⟩ ⟨rfl, c, hc, rfl⟩
          have ha2 := TupF.same k2 ha1
          refine ⟨.ref a, rfl, .str ⟨#[c]⟩, rfl, a, _, ⟨#[c]⟩, rfl, ha2, few, fun m H4 k4 => ?_⟩
          have ha4 := TupF.same k4 ha2
          refine ⟨_, rfl, .ref a, rfl, .str ⟨#[c]⟩, rfl, _, rfl, a, _, ⟨#[c]⟩, (p : Nat), rfl, ha4, Int.natCast_nonneg _, fun m5 H5 k5 => ⟨_, _, rfl, rfl, ?_⟩⟩
          have ha5 := TupF.same k5 ha4
          refine ⟨_, rfl, .ref a, rfl, .str ⟨#[c]⟩, rfl, _, rfl, a, _, ⟨#[c]⟩, (p2 : Nat), rfl, ha5, Int.natCast_nonneg _, fun m6 H6 k6 => ⟨_, _, rfl, rfl, ?_⟩⟩
          have k16 := ((k2.trans k4).trans k5).trans k6
          refine ⟨_, rfl, _, rfl, rfl, _, rfl, ite2 (fun e => ?_) (fun e => ?_)⟩
          · exact ⟨_, rfl, _, rfl, by show 2 ≤ sizeLine; decide, fun b nb => g1 ok _ _ ((k1.trans k16).trans (Same.new nb))⟩
          · refine ⟨m + m5, m + m6, some (.str ⟨#[c]⟩), some (.int (m : Nat)), ?_, k16⟩
            rw [Int.natCast_add, Int.natCast_add]
            rfl
        rintro σ H2 ⟨p, p2, u4, u5, rfl, k2⟩
        exact ⟨_, rfl, _, rfl, by show 2 ≤ sizeLine; decide, fun b nb => g1 ok _ _ ((k1.trans k2).trans (Same.new nb))⟩
end
end LawK
set_option maxHeartbeats 4000000
namespace LawK
open PySem PySem.Spec PyProof.Rows L2 Ev

open PySem.W
def spIsWd : Sp := fun vs H Q _ => ∃ (x : V) (k : Kn), vs = [x] ∧ Ko H x k ∧ Vs x ∧ ∀ H', Same H H' → Q (.bl (wordV x)) H'
structure PairsL (H : Hp) (a : Addr) (ps : List (Str × Bool)) : Prop where
  few : ps.length ≤ 3
  ex : ∃ xs : List V, H a = some (.lst xs) ∧ xs.length = ps.length ∧ ∀ (i : Nat) (w : Str) (b : Bool), ps[i]? = some (w, b) → ∃ t, xs[i]? = some (V.ref t) ∧ H t = some (.tup [.str w, .bl b])
def fstW (ps : List (Str × Bool)) : Str := (((ps.filter fun (p : Str × Bool) => !p.2).map fun (p : Str × Bool) => p.1) ++ [("let" : Str)]).headD ("let" : Str)
def spFirst : Sp := fun vs H Q _ => ∃ (a : Addr) (ps : List (Str × Bool)), vs = [.ref a] ∧ PairsL H a ps ∧ ∀ H', Same H H' → Q (.str (fstW ps)) H'
theorem all_sg (z : Str) : (((z.cps.toList.map fun c => sgB ⟨#[c]⟩)).all id) = sgB z := by
  rw [Bool.eq_iff_iff, List.all_eq_true]
  constructor
  · intro h
    refine sgB_of_mem fun c hc => ?_
    have := h _ (List.mem_map.mpr ⟨c, hc, rfl⟩)
    exact sgB_mem this (c := c) (by show c ∈ [c]; exact List.mem_singleton.mpr rfl)
  · intro h b hb
    obtain ⟨c, hc, rfl⟩ := List.mem_map.mp hb
    refine sgB_of_mem fun d hd => ?_
    have hd : d ∈ [c] := hd
    rw [List.mem_singleton.mp hd]
    exact sgB_mem h hc
section
variable {P : Program} {w : World} {K : PySem.W.Frag} {mg : Str → Option Value} {base : Heap}
abbrev sIsWord : Stmt := topS 40
theorem scIsWord : FnScope ["thing", "sign"] ["thing"] (defScope sIsWord) := ⟨rfl, rfl, rfl, by decide +kernel, rfl, by decide +kernel, by decide +kernel⟩
theorem ok_IsWord {f : Addr} {fd : FuncData} (F : Fun K "_law_is_word" "_law_is_word" sIsWord f fd)   (T : Glob mg) : FnOk P w K mg base CX0 1 f fd ["thing"] spIsWd := by
  refine F.ok scIsWord (fun vs H Q E h => ?_) (fun cdv A outer s H vs Q E hr h => ?_)
  · obtain ⟨x, k, rfl, _⟩ := h
    rfl
  · refine ⟨_, (pss_one (ps_ret (pe_and (pe_callB call_isi (by rfl) T.isinstance PyProof.Rows.boot_isinstance (pa_cons (pv 0) (pa_cons (pe_bltn (v := .ty "str") (by rfl) T.str (by decide +kernel) rfl) pa_nil))) (pe_and (pe_cmpR op_ne (pv 0) pe_str (nomark _)) (pe_one (pe_callB (cr_all rfl) (by rfl) T.all (by decide +kernel) (pa_cons (pe_lc (own := [("sign", 1)]) (g := gName 1) (by rfl) scIsWord.nd (pi_str (pv 0)) (blkOk_by (N := ["thing", "sign"]) (sc := defScope sIsWord) (by decide +kernel)) (fun _ _ _ _ _ => pg_name (i := 1) scIsWord.nd rfl (.inl rfl)) (fun _ _ _ _ _ => pts_nil) (fun _ _ _ _ _ => (pe_chain op_le_str op_le_str pe_str (pv 1) pe_str))) pa_nil))))))), ?_⟩
    obtain ⟨x, k, rfl, hk, hv, q⟩ := h
    refine ⟨x, rfl, x, .ty "str", .type (Kn.name k), .type "str", kitB k .str, rfl, .ty _, hk.ty, kit_kn k .str, _, rfl, ?_⟩
    by_cases e : k = .str
    · obtain ⟨z, rfl⟩ := hk.str e
      subst e
      have l5 := hv z rfl
      refine iteT ⟨.str z, rfl, rfl, _, rfl, ?_⟩
      rw [dec_str]
      refine ite2 (fun c => ?_) (fun c => ?_)
      · have ne : ¬ z = "" := fun e => by rw [decide_eq_true e] at c; cases c
        have wv : wordV (.str z) = sgB z := by
          show (sgB z && decide ((0 : Int) < (z.length : Int))) = _
          rw [decide_eq_true (by have := z_len0 ne; omega), Bool.and_true]
        refine ⟨.str z, rfl, z, rfl, fun D nD => lc_it (walk_str (z := z)) (fun i H' => Same H H' ∧ H' D = some (.lst (((z.cps.toList.take i).map fun c => sgB ⟨#[c]⟩).map V.bl))) ⟨Same.new nD, upd_same⟩ (fun _ _ _ _ => trivial) ?_ ?_⟩
        · rintro i x H1 H2 hi ⟨k1, hD⟩ ⟨rfl, c, hc, rfl⟩
          refine ⟨rfl, ?_⟩
          have hc2 : z.cps.toList[i]? = some c := by rw [Array.getElem?_toList]; exact hc
          have rs := rng_sg (z := ⟨#[c]⟩) rfl
          have fin : ∀ b, b = sgB ⟨#[c]⟩ → ∃ acc, H2 D = some (.lst acc) ∧ acc.length < sizeLine ∧ Same H (upd H2 D (.lst (acc ++ [V.bl b]))) ∧ upd H2 D (.lst (acc ++ [V.bl b])) D = some (.lst (((z.cps.toList.take (i + 1)).map fun c => sgB ⟨#[c]⟩).map V.bl)) := fun b e => by
            refine ⟨_, hD, ?_, sameAt k1 nD, ?_⟩
            · have h5 : (5000 : Nat) < sizeLine := by decide
              rw [List.length_map, List.length_map, List.length_take]
              have : z.cps.toList.length = z.length := rfl
              omega
            · rw [upd_same, take_snoc hc2, List.map_append, List.map_append, e]
              rfl
          refine iteT (B := True) ?_
          refine ⟨.str ⟨#[c]⟩, rfl, _, _, rfl, rfl, _, rfl, ?_⟩
          by_cases g : (!decide (cod ⟨#[c]⟩ < (" " : Str).cps.toList)) = true
          · rw [if_pos g] at rs
            rw [if_pos g]
            exact ⟨_, _, rfl, rfl, fin _ rs⟩
          · rw [if_neg g] at rs
            rw [if_neg g]
            exact fin _ rs
        · rintro H1 ⟨k1, hD⟩
          rw [show z.cps.toList.take z.cps.size = z.cps.toList from List.take_of_length_le (Nat.le_refl _)] at hD
          refine ⟨D, _, rfl, sq_of hD, ?_⟩
          rw [all_sg, ← wv]
          exact q H1 k1
      · have ee : z = "" := Classical.byContradiction fun n => c (by rw [decide_eq_false n]; rfl)
        subst ee
        exact q H (Same.refl H)
    · have kf : kitB k .str = false := by
        cases k <;> first | rfl | exact absurd rfl e
      have wv := (sgV_word (hk.nstr e)).1
      rw [kf]
      rw [wv] at q
      exact iteF (q H (Same.refl H))
abbrev sFirst : Stmt := topS 41
theorem scFirst : FnScope ["pairs", "word", "right"] ["pairs"] (defScope sFirst) := ⟨rfl, rfl, rfl, by decide +kernel, rfl, by decide +kernel, by decide +kernel⟩
theorem ok_First {f : Addr} {fd : FuncData} (F : Fun K "_law_first" "_law_first" sFirst f fd)   (T : Glob mg) : FnOk P w K mg base CX0 1 f fd ["pairs"] spFirst := by
  refine F.ok scFirst (fun vs H Q E h => ?_) (fun cdv A outer s H vs Q E hr h => ?_)
  · obtain ⟨a, ps, rfl, _⟩ := h
    rfl
  · refine ⟨_, (pss_one (ps_ret (pe_ix ix_list (pe_op op_cat (pe_lc (own := [("word", 1), ("right", 2)]) (g := (gTup K 2 (gCons (gName 1) (gCons (gName 2) gNil)))) (by rfl) scFirst.nd (pi_list (pv 0)) (blkOk_by (N := ["pairs", "word", "right"]) (sc := defScope sFirst) (by decide +kernel)) (fun _ _ _ _ _ => pg_tup (by rfl) (pgs_cons (pg_name (i := 1) scFirst.nd rfl (.inl rfl)) (pgs_cons (pg_name (i := 2) scFirst.nd rfl (.inl rfl)) pgs_nil))) (fun _ _ _ _ _ => (pts_one (pt_not (pt_val (pv 2))))) (fun _ _ _ _ _ => (pv 1))) (pe_lst (pa_cons pe_str pa_nil))) pe_int (fun _ _ => rfl)))), ?_⟩
    obtain ⟨a, ps, rfl, ⟨few, xs, ha, hl, hx⟩, q⟩ := h
    have hb : ∀ H1 t o, H t = some o → Same H H1 → H1 t = some o := fun H1 t o e k => k _ _ e
    refine ⟨.ref a, rfl, a, rfl, ⟨_, SqL.of ha⟩, fun D nD => lc_list (K := K) (xs := xs) (fun i H' => Same H H' ∧ H' D = some (.lst ((((ps.take i).filter fun (p : Str × Bool) => !p.2).map fun (p : Str × Bool) => p.1).map V.str))) ⟨Same.new nD, upd_same⟩ (fun i H' _ w => SqL.of (w.1 _ _ ha)) ?_ ?_⟩
    · rintro i x H1 hx1 ⟨k1, hD⟩
      have hi : i < ps.length := by have := (List.getElem?_eq_some_iff.mp hx1).1; omega
      obtain ⟨⟨w0, b0⟩, hp⟩ : ∃ p, ps[i]? = some p := ⟨_, List.getElem?_eq_getElem hi⟩
      obtain ⟨t, et, ht⟩ := hx i w0 b0 hp
      rw [hx1] at et
      obtain rfl := Option.some.inj et
      refine ⟨t, _, rfl, SqT.of (k1 _ _ ht), rfl, _, _, rfl, _, _, rfl, rfl, rfl, .bl b0, rfl, _, rfl, ?_⟩
      rw [take_snoc hp, List.filter_append, List.map_append, List.map_append]
      cases b0 with
      | true => exact iteF ⟨k1, by rw [hD]; simp⟩
      | false =>
        refine iteT ⟨.str w0, rfl, _, hD, ?_, sameAt k1 nD, ?_⟩
        · have z1 := List.length_filter_le (fun (p : Str × Bool) => !p.2) (ps.take i)
          have h3 : (3 : Nat) < sizeLine := by decide
          rw [List.length_take] at z1
          rw [List.length_map, List.length_map]
          omega
        · rw [upd_same]
          simp
    · rintro H1 ⟨k1, hD⟩
      rw [hl, List.take_length] at hD
      have z1 := List.length_filter_le (fun (p : Str × Bool) => !p.2) ps
      refine ⟨by show 1 ≤ sizeLine; decide, fun l nl => ?_⟩
      refine ⟨D, l, _, _, rfl, rfl, (Same.new nl) _ _ hD, upd_same, ?_, fun p np => ?_⟩
      · have h3 : (5 : Nat) < sizeLine := by decide
        rw [List.length_map, List.length_map]
        show _ + 1 ≤ _
        omega
      · refine ⟨p, _, 0, .str (fstW ps), rfl, rfl, SqL.of upd_same, ?_, q _ ((k1.trans (Same.new nl)).trans (Same.new np))⟩
        unfold fstW
        generalize (ps.filter fun (p : Str × Bool) => !p.2).map (fun (p : Str × Bool) => p.1) = ws
        cases ws with
        | nil => rfl
        | cons h t => exact atI_nat (j := 0) rfl
end
end LawK
set_option maxHeartbeats 4000000
/-! How many times a flat thing stands in a list of flat things. -/
namespace Ev
open PySem PySem.Spec PyProof.Rows L2
def rCntF (K : PySem.W.Frag) : V → List V → Hp → VK → Prop := fun x xs H Q => ∃ (p : Addr) (ys : List V) (y : V), x = .ref p ∧ xs = [y] ∧ SqL K H p ys ∧ flatV y = true ∧ ys.all flatV = true ∧ Q (.int ((ys.countP fun z => eqV z y : Nat) : Int)) H
section
variable {X : Cx}
theorem mt_fcount : MtR X "list.count" (rCntF X.K) := by
  intro pins s σ H x xs v us Q I rx rxs h
  obtain ⟨p, ys, y, rfl, rfl, hs, fy, fs, q⟩ := h
  cases rx
  obtain ⟨u, rfl, ru⟩ := rxs.one
  obtain ⟨its, rv, ⟨⟨cls, dd, data, sl⟩, n, ho, hc, hdn, hd⟩, hlen⟩ := I.list hs
  simp only at hc hd
  subst hc hd
  refine call_meets PySem.F.slot_list_count ⟨_, ho, rfl⟩ PySem.F.entry_list_count (PySem.F.args_list_count_2 _ _)
    (SeqAt.list_countAt p its.toArray n dd sl u (eqU y)) ⟨ho, fun z hz => mem_eqAt ru fy rv fs z (by simpa using hz), ?_⟩
  have ec : its.toArray.toList.countP (eqU y) = ys.countP fun z => eqV z y := by
    rw [show its.toArray.toList = its by simp, count_eqU rv fs]
  refine ⟨.int ((ys.countP fun z => eqV z y : Nat) : Int), H, I.tok _, ⟨s.toks, ?_⟩, q⟩
  show Value.int ((its.toArray.toList.countP (eqU y) : Nat) : Int) s.toks = Value.int ((ys.countP fun z => eqV z y : Nat) : Int) s.toks
  rw [ec]
end
end Ev
set_option maxHeartbeats 4000000
namespace LawK
open PySem PySem.Spec PyProof.Rows L2 Ev

open PySem.W LamX
/-- what a handler sees: as many names as the def has -/
theorem takes_len {X : Cx} {W : WX} (h : Takes X W) : Takes X (fun cls d σ H => σ.length = X.N.length → W cls d σ H) := fun u s' ⟨a, B, sI, pins, σ, H, cls, d, h1, I, h2, h3, h4, h5, h6, h7, h8⟩ => h u s' ⟨a, B, sI, pins, σ, H, cls, d, h1, I, h2, h3, h4, h5, h6, h7, h8 I.len⟩
/-- isinstance of a caught error without a field, whichever its class -/
def rIsEG (K : PySem.W.Frag) (a : Addr) (cls : Value) (d : Option Addr) : List V → Hp → VK → Prop := fun xs H Q => ∃ D, ExcC K D ∧ rIsE0 K D a cls d xs H Q
theorem call_isEG {X : Cx} {a : Addr} {oe : Obj} {cls : Value} {d : Option Addr} {pn : List (Addr × Obj)} (hz : Zc cls d oe) (hf : ∃ vs, oe.data = .fields vs) : CallR (X.suite a ((a, oe) :: pn)) (.builtin "isinstance") (rIsEG X.K a cls d) := by
  intro pins s σ H xs us Q I r h
  obtain ⟨D, T, h⟩ := h
  exact call_isE0 T hz hf pins s σ H xs us Q I r h
/-- the word for what a call raises, "let" for nothing -/
def TTe (cR cS cW cN : Addr) : (XK → Hp → VK → Prop) → Hp → VK → Prop := fun tl H Q => tl (fun cls d H' => ∃ e : ErK, cls = .ref (e.ad cR cS cW cN) ∧ d = none ∧ ∀ H'', Same H' H'' → Q (.str e.w) H'') H (fun _ H' => Q (.str "let") H')
structure ErNe (cR cS cW cN : Addr) : Prop where
  rs : cR ≠ cS
  rw : cR ≠ cW
  rn : cR ≠ cN
  sw : cS ≠ cW
  sn : cS ≠ cN
  wn : cW ≠ cN
def ErK.eqb : ErK → ErK → Bool
  | .row, .row => true
  | .sign, .sign => true
  | .word, .word => true
  | .number, .number => true
  | _, _ => false
theorem ad_dec {cR cS cW cN : Addr} (n : ErNe cR cS cW cN) (e k : ErK) : decide (e.ad cR cS cW cN = k.ad cR cS cW cN) = e.eqb k := by
  obtain ⟨h1, h2, h3, h4, h5, h6⟩ := n
  cases e <;> cases k <;> first | exact decide_eq_true rfl | exact decide_eq_false h1 | exact decide_eq_false h2 | exact decide_eq_false h3 | exact decide_eq_false h4 | exact decide_eq_false h5 | exact decide_eq_false h6 | exact decide_eq_false h1.symm | exact decide_eq_false h2.symm | exact decide_eq_false h3.symm | exact decide_eq_false h4.symm | exact decide_eq_false h5.symm | exact decide_eq_false h6.symm
abbrev sError : Stmt := topS 39
theorem scError : FnScope ["call", "word", "e", "flags"] ["call"] (defScope sError) := ⟨rfl, rfl, rfl, by decide +kernel, rfl, by decide +kernel, by decide +kernel⟩

section
variable {X : Cx} {PE cR cS cW cN : Addr}
theorem gives_error {g : Addr} {cdg : Value} {q : Str} (T : Glob X.mg) (ER : Cls0 X.prog X.K X.mg PE "NoRow" cR) (ES : Cls0 X.prog X.K X.mg PE "NoSign" cS) (EW : Cls0 X.prog X.K X.mg PE "NoWord" cW) (EN : Cls0 X.prog X.K X.mg PE "NoNumber" cN) (NE : ErNe cR cS cW cN) (BX : BaseX X.K PE) (gPE : X.mg "PieceError" = some (.ref PE)) (gVE : X.mg "ValueError" = none) : GivesTo X ["call", "word", "e", "flags"] "_law_error" (defScope sError) g cdg (defBody sError) "call" q (TTe cR cS cW cN) := by
  intro f c' s H Q tl hcall hc ht
  have S := scError
  have eC : ∀ e : ErK, ErC X.K PE (e.ad cR cS cW cN) ∧ e.ad cR cS cW cN ≠ PE := fun e => by
    cases e
    · exact ⟨ER.er, ER.ne⟩
    · exact ⟨ES.er, ES.ne⟩
    · exact ⟨EW.er, EW.ne⟩
    · exact ⟨EN.er, EN.ne⟩
  have kit : ∀ e k : ErK, PySem.W.kitOne X.K (.ref (e.ad cR cS cW cN)) (.ref (k.ad cR cS cW cN)) = some (e.eqb k) := fun e k => by
    rw [← ad_dec NE]
    exact kit_at (eC k).1 (eC e).1 (eC k).2
  refine ⟨_, pss_cons (ps_set (i := 1) scError.nd rfl (.inl rfl) pe_str) (pss_cons (ps_try_as (i := 2) (tb := fun W D σ H => (∀ cls d σ' H', (∃ e : ErK, cls = .ref (e.ad cR cS cW cN) ∧ d = none ∧ ∀ H'', Same H' H'' → Q (.str e.w) H'') → σ'.length = 4 → W cls d σ' H') ∧ tDrop (fun σZ HZ Q' => σZ[0]? = some (some (.ref f)) ∧ HZ c' = some (CodeO c' q) ∧ tl (fun cls d H' => ∃ e : ErK, cls = .ref (e.ad cR cS cW cN) ∧ d = none ∧ ∀ H'', Same H' H'' → Q (.str e.w) H'') HZ Q') D σ H) (Wout := fun _ _ _ _ => False) rfl rfl scError.nd rfl rfl ⟨rfl, by decide, .inl gPE⟩ L2.takes0
      (fun W pn xe tk _ => ⟨fun pins s σ H D I h => (pss_one (ps_expr (hcall (fun cls d σ H => σ.length = 4 → W cls d σ H) pn xe (fun cls d H' => ∃ e : ErK, cls = .ref (e.ad cR cS cW cN) ∧ d = none ∧ ∀ H'', Same H' H'' → Q (.str e.w) H'') _ _ (takes_len tk) h.1))).run pins s σ H D I h.2⟩)
      (fun a oe cls d pn hz hf => by exact (pss_cons (ps_set (i := 3) scError.nd rfl (.inl rfl) (pe_lst (pa_cons (pe_callB (call_isEG hz hf) (by rfl) T.isinstance PyProof.Rows.boot_isinstance (pa_cons (pv 2) (pa_cons (pe_glob (v := .ref cR) (by rfl) ER.g rfl) pa_nil))) (pa_cons (pe_callB (call_isEG hz hf) (by rfl) T.isinstance PyProof.Rows.boot_isinstance (pa_cons (pv 2) (pa_cons (pe_glob (v := .ref cS) (by rfl) ES.g rfl) pa_nil))) (pa_cons (pe_callB (call_isEG hz hf) (by rfl) T.isinstance PyProof.Rows.boot_isinstance (pa_cons (pv 2) (pa_cons (pe_glob (v := .ref cW) (by rfl) EW.g rfl) pa_nil))) (pa_cons (pe_callB (call_isEG hz hf) (by rfl) T.isinstance PyProof.Rows.boot_isinstance (pa_cons (pv 2) (pa_cons (pe_glob (v := .ref cN) (by rfl) EN.g rfl) pa_nil))) pa_nil)))))) (pss_cons (ps_set (i := 1) scError.nd rfl (.inl rfl) pe_str) (pss_one (ps_if (PW.pt (pw_and (pt_cmpR op_eq (show L2.PE _ _ (tBM X.K "list" (rCntF X.K) (tVar 3) (tCons (tC (.bl true)) tNil)) from (pe_bm PySem.F.plainAttrs_list PySem.F.slot_list_count PySem.F.type_list_count mt_fcount (pv 3) (pa_cons pe_bl pa_nil))) pe_int (nomark _)) (pw_and1 (pt_val (pe_callB (call_isEG hz hf) (by rfl) T.isinstance PyProof.Rows.boot_isinstance (pa_cons (pv 2) (pa_cons (pe_bltn (v := .ty "ValueError") (by rfl) gVE (by decide +kernel) rfl) pa_nil))))))) (pss_one (ps_set (i := 1) scError.nd rfl (.inl rfl) (pe_ix (r := rIxL X.K) ix_list (pe_lst (pa_cons pe_str (pa_cons pe_str (pa_cons pe_str (pa_cons pe_str pa_nil))))) (show L2.PE _ _ (tBM X.K "list" (rIndex X.K) (tVar 3) (tCons (tC (.bl true)) tNil)) from (pe_bm PySem.F.plainAttrs_list PySem.F.slot_list_index PySem.F.type_list_index mt_index (pv 3) (pa_cons pe_bl pa_nil))) (fun _ _ => rfl)))) pss_nil))))))
    (pss_one (ps_ret (pv 1)))), ?_⟩
  have ce : ∀ (T1 T2 : VK), (∀ v H', T1 v H' ↔ T2 v H') → T1 = T2 := fun T1 T2 h => by
    funext v H'
    exact propext (h v H')
  dsimp only [tNext, tDrop, gName, tSeq]
  refine ⟨fun cls d σ' H' ⟨e, e1, e2, hq⟩ hl => ?_, rfl, hc, ?_⟩
  · subst e1
    subst e2
    obtain ⟨x, y, z, u, rfl⟩ : ∃ x y z u, σ' = [x, y, z, u] := by
      match σ', hl with
      | [x, y, z, u], _ => exact ⟨x, y, z, u, rfl⟩
    refine ⟨true, exm_base BX (eC e).1, (fun _ a1 na1 => ?_), fun z => Bool.noConfusion z⟩
    have isx := (eC e).1.isx
    refine ⟨.ref a1, rfl, _, isx, .ref cR, .ref cR, _, rfl, rfl, rfl, .own cR, kit e .row, ?_⟩
    refine ⟨.ref a1, rfl, _, isx, .ref cS, .ref cS, _, rfl, rfl, rfl, .own cS, kit e .sign, ?_⟩
    refine ⟨.ref a1, rfl, _, isx, .ref cW, .ref cW, _, rfl, rfl, rfl, .own cW, kit e .word, ?_⟩
    refine ⟨.ref a1, rfl, _, isx, .ref cN, .ref cN, _, rfl, rfl, rfl, .own cN, kit e .number, ?_⟩
    refine ⟨by show 4 ≤ sizeLine; decide, fun p np => ?_⟩
    dsimp only [gName, tSeq, tAsg]
    have hk : upd H' p (.lst [.bl (e.eqb .row), .bl (e.eqb .sign), .bl (e.eqb .word), .bl (e.eqb .number)]) p = some (.lst [.bl (e.eqb .row), .bl (e.eqb .sign), .bl (e.eqb .word), .bl (e.eqb .number)]) := upd_same
    have kp : Same H' (upd H' p (.lst [.bl (e.eqb .row), .bl (e.eqb .sign), .bl (e.eqb .word), .bl (e.eqb .number)])) := Same.new np
    show tIfS _ _ _ _ _ (upd H' p (.lst [.bl (e.eqb .row), .bl (e.eqb .sign), .bl (e.eqb .word), .bl (e.eqb .number)]))
    revert hk kp
    generalize upd H' p (.lst [.bl (e.eqb .row), .bl (e.eqb .sign), .bl (e.eqb .word), .bl (e.eqb .number)]) = H2
    intro hk kp
    have ve := kit_ve (eC e).1
    clear ht
    cases e
    all_goals
      refine ⟨.ref p, rfl, .inl ⟨rfl, _, SqL.of hk⟩, p, _, .bl true, rfl, rfl, SqL.of hk, rfl, rfl, rfl, _, rfl, ite2 (fun _ => ?_) (fun c => absurd (decide_eq_true rfl) c)⟩
      refine ⟨.ref a1, rfl, _, isx, .ty "ValueError", .type "ValueError", true, rfl, rfl, rfl, .ty _, ve, _, rfl, iteT ?_⟩
      refine ⟨by show 4 ≤ sizeLine; decide, fun l nl => ?_⟩
      have hk2 := (Same.new (o := .lst [V.str "row", V.str "sign", V.str "word", V.str "number"]) nl) _ _ hk
    · exact ⟨.ref p, rfl, .inl ⟨rfl, _, SqL.of hk2⟩, p, _, .bl true, 0, _, rfl, rfl, SqL.of hk2, rfl, rfl, rfl, rfl, (fun m z' hm hz => by omega), l, _, _, _, rfl, rfl, SqL.of upd_same, rfl, _, rfl, hq _ (kp.trans (Same.new nl))⟩
    · exact ⟨.ref p, rfl, .inl ⟨rfl, _, SqL.of hk2⟩, p, _, .bl true, 1, _, rfl, rfl, SqL.of hk2, rfl, rfl, rfl, rfl, (fun m z' hm hz => match m, hm with | 0, _ => by cases hz; rfl), l, _, _, _, rfl, rfl, SqL.of upd_same, rfl, _, rfl, hq _ (kp.trans (Same.new nl))⟩
    · exact ⟨.ref p, rfl, .inl ⟨rfl, _, SqL.of hk2⟩, p, _, .bl true, 2, _, rfl, rfl, SqL.of hk2, rfl, rfl, rfl, rfl, (fun m z' hm hz => match m, hm with | 0, _ => by cases hz; rfl | 1, _ => by cases hz; rfl), l, _, _, _, rfl, rfl, SqL.of upd_same, rfl, _, rfl, hq _ (kp.trans (Same.new nl))⟩
    · exact ⟨.ref p, rfl, .inl ⟨rfl, _, SqL.of hk2⟩, p, _, .bl true, 3, _, rfl, rfl, SqL.of hk2, rfl, rfl, rfl, rfl, (fun m z' hm hz => match m, hm with | 0, _ => by cases hz; rfl | 1, _ => by cases hz; rfl | 2, _ => by cases hz; rfl), l, _, _, _, rfl, rfl, SqL.of upd_same, rfl, _, rfl, hq _ (kp.trans (Same.new nl))⟩
  · have h2 : tl (fun cls d H' => ∃ e : ErK, cls = .ref (e.ad cR cS cW cN) ∧ d = none ∧ ∀ H'', Same H' H'' → Q (.str e.w) H'') H (fun _ H' => Q (.str "let") H') := ht
    refine Eq.mpr (congrArg (fun T2 : VK => tl (fun cls d H' => ∃ e : ErK, cls = .ref (e.ad cR cS cW cN) ∧ d = none ∧ ∀ H'', Same H' H'' → Q (.str e.w) H'') H T2) (ce _ (fun _ H' => Q (.str "let") H') fun v H' => ?_)) h2
    constructor
    · rintro ⟨v', e, h⟩
      cases e
      exact h
    · exact fun h => ⟨_, rfl, h⟩
end
end LawK
set_option maxHeartbeats 4000000
namespace LawK
open PySem PySem.Spec PyProof.Rows L2 Ev

open PySem.W LamX
theorem Kd.ext {H H' : Hp} (s : ExtN H H') {x : V} {k : Kn} (h : Kd H x k) : Kd H' x k := by
  cases h with
  | non => exact .non
  | bl b => exact .bl b
  | int i => exact .int i
  | str z => exact .str z
  | lst e => exact .lst (s _ _ e fun ps z => by cases z)
  | tup e => exact .tup (s _ _ e fun ps z => by cases z)
  | dic e => exact .dic (s _ _ e fun ps z => by cases z)
theorem TupX.ext {H H' : Hp} (s : ExtN H H') {a : Addr} {xs : List V} (h : TupX H a xs) : TupX H' a xs := by
  rcases h with e | ⟨o, e⟩
  · exact .inl (s _ _ e fun ps z => by cases z)
  · exact .inr ⟨o, s _ _ e fun ps z => by cases z⟩
theorem Ko.ext {H H' : Hp} (s : ExtN H H') {x : V} {k : Kn} (h : Ko H x k) : Ko H' x k := by
  rcases h with h | ⟨e, a, xs, ex, h⟩
  · exact .inl (Kd.ext s h)
  · exact .inr ⟨e, a, xs, ex, h.ext s⟩
theorem TupF.ext {H H' : Hp} (s : ExtN H H') {a : Addr} {xs : List V} (h : TupF H a xs) : TupF H' a xs := by
  obtain ⟨o, e, q⟩ := h
  exact ⟨o, s _ _ e fun ps z => (by cases z), q⟩
theorem Th.ext {H H' : Hp} (s : ExtN H H') {x : V} {o : Option (List V)} (h : Th H x o) : Th H' x o := by
  cases h with
  | no h n => exact .no (h.ext s) n
  | tup h few hv => exact .tup (TupF.ext s h) few fun v hm => let ⟨l, k, e⟩ := hv v hm; ⟨l, k, e.ext s⟩
theorem HandL.ext {H H' : Hp} (s : ExtN H H') {p l : Addr} (h : HandL H p l) : HandL H' p l := by
  obtain ⟨cells, i, r, s1, n, hp, hl, q⟩ := h
  exact ⟨cells, i, r, s1, n, s _ _ hp (fun ps z => by cases z), s _ _ hl (fun ps z => by cases z), q⟩
theorem LibAt.ext {H H' : Hp} (k : ExtN H H') {C s : Addr} {ts : List Str} (h : LibAt H C s ts) : LibAt H' C s ts := by
  obtain ⟨⟨dx, a, h1, h2⟩, h3, h4, h5⟩ := h
  exact ⟨⟨dx, a, k _ _ h1 (fun ps z => by cases z), k _ _ h2 (fun ps z => by cases z)⟩, h3, h4, h5⟩
theorem Tabs.but {T : List (Addr × Str)} {H H' : Hp} {p l : Addr} (t : Tabs T H) (h0 : HandL H p l) (b : But p H H') : Tabs T H' := fun x hx => by
  obtain ⟨ps, e, tr, q⟩ := t x hx
  refine ⟨ps, b _ _ (hand_ne h0 e fun _ _ _ _ _ z => by cases z) e, tr, fun pos cv hc => ?_⟩
  obtain ⟨c, e1, e2⟩ := q pos cv hc
  exact ⟨c, e1, b _ _ (hand_ne h0 e2 fun _ _ _ _ _ z => by cases z) e2⟩
/-- parts of a row, perhaps with one that is none -/
def Pt (H : Hp) (v : V) : Prop := Vs v ∧ ∃ k, Ko H v k
theorem Pt.str {H : Hp} {z : Str} (h : z.length ≤ 5000) : Pt H (.str z) := ⟨fun y e => by cases e; exact h, _, .inl (.str z)⟩
theorem th_of {H : Hp} {a : Addr} {vs : List V} (h : TupF H a vs) (few : vs.length ≤ 200) (hv : ∀ v ∈ vs, Pt H v) : Th H (.ref a) (some vs) := .tup h few hv
theorem pt_cut {H : Hp} {xs : List V} {lo hi : Option Int} (h : ∀ v ∈ xs, Pt H v) : ∀ v ∈ cutV xs lo hi, Pt H v := fun v hv => h v (cutV_mem hv)
noncomputable def erW : Option ErK → Str
  | none => "let"
  | some e => e.w
theorem lam_gv {T : List (Addr × Str)} {cR cS cW cN p l : Addr} {t : XK → TE} {σ : L2.St} {H : Hp} {Q : V → Hp → Prop} {er : Option ErK} (tb : Tabs T H) (h0 : HandL H p l) (h : ∀ E Q' H1, ExtN H H1 → Gv cR cS cW cN H1 Q' E er → t E σ H1 Q')
    (k : ∀ H', ExtN H H' → Tabs T H' → HandL H' p l → Q (.str (erW er)) H') : tLam T (TTe cR cS cW cN) t σ H Q := by
  refine ⟨tb, fun H1 e1 tb1 => h _ _ H1 e1 ⟨fun e' he H2 k2 => ⟨e', rfl, rfl, fun H3 k3 => ?_⟩, fun he v H2 k2 => ?_⟩⟩
  · have z := k H3 (e1.trans (ExtN.of (k2.trans k3))) (Tabs.ext tb1 (k2.trans k3)) ((h0.ext e1).same (k2.trans k3))
    rw [he] at z
    exact z
  · have z := k H2 (e1.trans (ExtN.of k2)) (Tabs.ext tb1 k2) ((h0.ext e1).same k2)
    rw [he] at z
    exact z
theorem ext_write {q : Addr} {H H1 : Hp} {o o2 : HO} (n : H q = none) (k : ExtN (upd H q o) H1) : ExtN H (upd H1 q o2) := fun b u e z => by
  have nb : b ≠ q := fun z => by rw [z, n] at e; cases e
  rw [upd_ne nb]
  exact k b u (by rw [upd_ne nb]; exact e) z
theorem Tabs.write {T : List (Addr × Str)} {H : Hp} {R : Addr} {xs : List V} {o2 : HO} (t : Tabs T H) (hR : H R = some (.lst xs)) : Tabs T (upd H R o2) := fun x hx => by
  obtain ⟨ps, e, tr, q⟩ := t x hx
  have ne : ∀ {b : Addr} {u : HO}, H b = some u → (∀ ys, u ≠ .lst ys) → upd H R o2 b = some u := fun {b u} e n => by
    rw [upd_ne (fun z => n xs (by rw [z, hR] at e; exact (Option.some.inj e).symm))]
    exact e
  refine ⟨ps, ne e (fun _ z => by cases z), tr, fun pos cv hc => ?_⟩
  obtain ⟨c, e1, e2⟩ := q pos cv hc
  exact ⟨c, e1, ne e2 fun _ z => by cases z⟩
theorem pairs1 {H : Hp} {R t1 : Addr} {w1 : Str} {b1 : Bool} (hR : H R = some (.lst [.ref t1])) (h1 : H t1 = some (.tup [.str w1, .bl b1])) : PairsL H R [(w1, b1)] :=
  ⟨by show 1 ≤ 3; decide, _, hR, rfl, fun i w b e => by
    match i, e with
    | 0, e => cases e; exact ⟨t1, rfl, h1⟩⟩
theorem pairs2 {H : Hp} {R t1 t2 : Addr} {w1 w2 : Str} {b1 b2 : Bool} (hR : H R = some (.lst [.ref t1, .ref t2])) (h1 : H t1 = some (.tup [.str w1, .bl b1])) (h2 : H t2 = some (.tup [.str w2, .bl b2])) : PairsL H R [(w1, b1), (w2, b2)] :=
  ⟨by show 2 ≤ 3; decide, _, hR, rfl, fun i w b e => by
    match i, e with
    | 0, e => cases e; exact ⟨t1, rfl, h1⟩
    | 1, e => cases e; exact ⟨t2, rfl, h2⟩⟩
theorem pairs3 {H : Hp} {R t1 t2 t3 : Addr} {w1 w2 w3 : Str} {b1 b2 b3 : Bool} (hR : H R = some (.lst [.ref t1, .ref t2, .ref t3])) (h1 : H t1 = some (.tup [.str w1, .bl b1])) (h2 : H t2 = some (.tup [.str w2, .bl b2])) (h3 : H t3 = some (.tup [.str w3, .bl b3])) : PairsL H R [(w1, b1), (w2, b2), (w3, b3)] :=
  ⟨by show 3 ≤ 3; decide, _, hR, rfl, fun i w b e => by
    match i, e with
    | 0, e => cases e; exact ⟨t1, rfl, h1⟩
    | 1, e => cases e; exact ⟨t2, rfl, h2⟩
    | 2, e => cases e; exact ⟨t3, rfl, h3⟩⟩
theorem sign_no {y : V} (h : wordV y = false) : signV y = false := by
  cases y with
  | str z =>
    have h : (sgB z && decide ((0 : Int) < (z.length : Int))) = false := h
    show (sgB z && decide (z.length = 1)) = false
    cases e : sgB z with
    | false => rfl
    | true =>
      rw [e, Bool.true_and] at h
      have := of_decide_eq_false h
      rw [Bool.true_and, decide_eq_false (by omega)]
  | _ => rfl
theorem sign_yes {z : Str} (h : wordV (.str z) = true) : decide (V.int (z.length : Int) = V.int 1) = signV (.str z) := by
  have h : (sgB z && decide ((0 : Int) < (z.length : Int))) = true := h
  show _ = (sgB z && decide (z.length = 1))
  rw [(Bool.and_eq_true_iff.mp h).1, Bool.true_and]
  exact decide_eq_decide.mpr ⟨fun h => by have := V.int.inj h; omega, fun h => by rw [h]; rfl⟩
noncomputable def moO (o : Option (List V)) : Int := if (dueO o).isSome then lenO o else 0
theorem fst_less (o : Option (List V)) (y : V) : erW (erLess o y) = fstW [("row", (dueO o).isSome), ("sign", signV y)] := by
  unfold erLess
  cases (dueO o).isSome <;> cases signV y <;> rfl
theorem fst_found (o : Option (List V)) (y : V) : erW (erFound o y) = fstW [("row", (dueO o).isSome), ("word", wordV y)] := by
  unfold erFound
  cases (dueO o).isSome <;> cases wordV y <;> rfl
theorem fst_row (o : Option (List V)) : erW (erRow o) = fstW [("row", (dueO o).isSome)] := by
  unfold erRow
  cases (dueO o).isSome <;> rfl
theorem fst_many (o : Option (List V)) (y n : V) : erW (erMany o y n) = fstW [("row", (dueO o).isSome), ("sign", signV y), ("number", wholeV n 0 (moO o))] := by
  unfold erMany moO
  cases (dueO o).isSome with
  | false => cases signV y <;> rfl
  | true =>
    rw [if_pos rfl, if_pos rfl]
    cases signV y with
    | false => rfl
    | true => cases wholeV n 0 (lenO o) <;> rfl

def spLawT (P0 : Addr) (K : PySem.W.Frag) : Sp := fun vs H Q _ => ∃ (a : Addr) (ns : List Int), vs = [.ref a] ∧ H P0 = some (.tbl #[]) ∧ SqL K H a (ns.map V.int) ∧ ∀ H', Q (.bl true) H'
abbrev sLaw : Stmt := topS 42
theorem scLaw : FnScope ["script", "hand", "turn", "right", "rows", "row", "fits", "words", "word", "numbers", "number", "is_sign_v", "most", "pairs", "due"] ["script"] (defScope sLaw) := ⟨rfl, rfl, rfl, by decide +kernel, rfl, by decide +kernel, by decide +kernel⟩
section
variable {P : Program} {w : World} {K : PySem.W.Frag} {mg : Str → Option Value} {base : Heap}
variable {C fI : Addr} {fdI : FuncData}
variable {PE cR cS cW cN c P0 : Addr}

theorem ok_law {f fT fLess fMany fFound fLE fTB : Addr} {fdT fdLess fdMany fdFound fdLE fdTB : FuncData} {oc kV doc pm ct : Value} {an od : Option Addr} {osl : Array (Option Value)}
    (lk : K.lookup f = some ⟨oc, od, .func (PySem.W.fnOf "law" "law" (defArgs sLaw) (defBody sLaw) (defScope sLaw) .none kV doc pm an (.ref c) ct), osl⟩) (hcd : PySem.W.codeIn K (.ref c) "law" = true) (TB : TabB base mg c P0) {fHand : Addr} {fdHand : FuncData} (DHand : Dk P w K mg base "_law_hand" sHand ["script"] 1 (spHand K) fHand fdHand) {fRow : Addr} {fdRow : FuncData} (DRow : Dk P w K mg base "_law_row" sRow ["texts"] 2 spLRowF fRow fdRow) {fDraw : Addr} {fdDraw : FuncData} (DDraw : Dk P w K mg base "_law_draw" sDraw ["hand", "many"] 1 spDraw fDraw fdDraw) {fTexts : Addr} {fdTexts : FuncData} (DTexts : Dk P w K mg base "_law_texts" sTexts ["hand", "most"] 3 spLTexts fTexts fdTexts) {fDeep : Addr} {fdDeep : FuncData} (DDeep : Dk P w K mg base "_law_deep" sDeep ["hand"] 2 spDeepT fDeep fdDeep) {fReadRow : Addr} {fdReadRow : FuncData} (DReadRow : Dk P w K mg base "_law_read_row" sReadRow ["row"] 3 spReadRow fReadRow fdReadRow) {fWhole : Addr} {fdWhole : FuncData} (DWhole : Dk P w K mg base "_law_whole" sWhole ["thing", "least", "most"] 1 spWhole fWhole fdWhole) {fIsWord : Addr} {fdIsWord : FuncData} (DIsWord : Dk P w K mg base "_law_is_word" sIsWord ["thing"] 1 spIsWd fIsWord fdIsWord) {fFirst : Addr} {fdFirst : FuncData} (DFirst : Dk P w K mg base "_law_first" sFirst ["pairs"] 1 spFirst fFirst fdFirst)
    (ER : Cls0 P K mg PE "NoRow" cR) (ES : Cls0 P K mg PE "NoSign" cS) (EW : Cls0 P K mg PE "NoWord" cW) (EN : Cls0 P K mg PE "NoNumber" cN) (NE : ErNe cR cS cW cN) (BX : BaseX K PE) (gPE : mg "PieceError" = some (.ref PE)) (gVE : mg "ValueError" = none)
    (FT : Fun K "_law_error" "_law_error" sError fT fdT) (bT : Binds K fdT ["call"] []) (gT : mg "_law_error" = some (.ref fT))
    (FLess : Fun K "less_than" "less_than" sPLess fLess fdLess) (bLess : Binds K fdLess ["row", "sign"] []) (gLess : mg "less_than" = some (.ref fLess)) (GLess : FnOk P w K mg base (L2.CX P w) 5 fLess fdLess ["row", "sign"] (spELess cR cS cW cN))
    (FMany : Fun K "many_ahead" "many_ahead" sPMany fMany fdMany) (bMany : Binds K fdMany ["row", "sign", "number"] []) (gMany : mg "many_ahead" = some (.ref fMany)) (GMany : FnOk P w K mg base (L2.CX P w) 5 fMany fdMany ["row", "sign", "number"] (spEMany cR cS cW cN))
    (FFound : Fun K "found_behind" "found_behind" sPFound fFound fdFound) (bFound : Binds K fdFound ["row", "word"] []) (gFound : mg "found_behind" = some (.ref fFound)) (GFound : FnOk P w K mg base (L2.CX P w) 5 fFound fdFound ["row", "word"] (spEFound cR cS cW cN))
    (FLE : Fun K "leads" "leads" sPLeads fLE fdLE) (bLE : Binds K fdLE ["row"] []) (gLE : mg "leads" = some (.ref fLE)) (GLE : FnOk P w K mg base (L2.CX P w) 5 fLE fdLE ["row"] (spRLeads cR))
    (FTB : Fun K "told_back" "told_back" sPToldBack fTB fdTB) (bTB : Binds K fdTB ["row"] []) (gTB : mg "told_back" = some (.ref fTB)) (GTB : FnOk P w K mg base (L2.CX P w) 6 fTB fdTB ["row"] (spRToldBack C cR)) (T : Glob mg) :
    FnOk P w K mg base CX0 13 f (PySem.W.fnOf "law" "law" (defArgs sLaw) (defBody sLaw) (defScope sLaw) .none kV doc pm an (.ref c) ct) ["script"] (spLawT P0 K) := by
  obtain ⟨ocT, odT, kVT, docT, pmT, anT, cdvT, ctT, oslT, rfl, lkT, hcT⟩ := FT.ex
  refine ⟨fun vs H Q E h => ?_, fun A outer s H args us vs Q E hr0 e0 hb hv h => ?_⟩
  · obtain ⟨a, ns, rfl, _⟩ := h
    rfl
  refine run_ofS lk hcd scLaw hr0 e0 hb hv (by obtain ⟨a, ns, rfl, _⟩ := h; rfl) fun hr => ?_
  have hLLess : LamS (defScope sLaw) { kind := ScopeKind.function, names := [("row", NameKind.free), ("word", NameKind.free), ("less_than", NameKind.globalImplicit)], isGenerator := false, isCoroutine := false } := lamS_by (by decide +kernel)
  have hLMany : LamS (defScope sLaw) { kind := ScopeKind.function, names := [("number", NameKind.free), ("row", NameKind.free), ("word", NameKind.free), ("many_ahead", NameKind.globalImplicit)], isGenerator := false, isCoroutine := false } := lamS_by (by decide +kernel)
  have hLFound : LamS (defScope sLaw) { kind := ScopeKind.function, names := [("row", NameKind.free), ("word", NameKind.free), ("found_behind", NameKind.globalImplicit)], isGenerator := false, isCoroutine := false } := lamS_by (by decide +kernel)
  have hLLE : LamS (defScope sLaw) { kind := ScopeKind.function, names := [("row", NameKind.free), ("leads", NameKind.globalImplicit)], isGenerator := false, isCoroutine := false } := lamS_by (by decide +kernel)
  have hLTB : LamS (defScope sLaw) { kind := ScopeKind.function, names := [("row", NameKind.free), ("told_back", NameKind.globalImplicit)], isGenerator := false, isCoroutine := false } := lamS_by (by decide +kernel)
  suffices hh : ∃ t, PSs (cxOf CX0 P w K mg base ["script", "hand", "turn", "right", "rows", "row", "fits", "words", "word", "numbers", "number", "is_sign_v", "most", "pairs", "due"] "law" (defScope sLaw) f (.ref c) A outer s H E).nox (defBody sLaw) t ∧ t { nx := fun _ H' => Q .non H', rt := Q } (start ["script", "hand", "turn", "right", "rows", "row", "fits", "words", "word", "numbers", "number", "is_sign_v", "most", "pairs", "due"] vs) H by
    obtain ⟨t, ht, hq⟩ := hh
    exact ⟨t, ht.nox, hq⟩
  refine ⟨_, (pss_cons (ps_set (i := 1) scLaw.nd rfl (.inl rfl) (pe_call DHand.ok (hr.mono (by decide)) (by rfl) DHand.g DHand.F.kp DHand.b .nil pass0 (pa_cons (pv 0) pa_nil)))
      (pss_cons (ps_for PassesOwn.never rfl (pi_range1 (by rfl) T.range (pa_cons pe_int pa_nil)) (pg_name (i := 2) scLaw.nd rfl (.inl rfl))
      (pss_cons (ps_set (i := 3) scLaw.nd rfl (.inl rfl) (pe_call DRow.ok (hr.mono (by decide)) (by rfl) DRow.g DRow.F.kp DRow.b .nil pass0 (pa_cons (pe_call DTexts.ok (hr.mono (by decide)) (by rfl) DTexts.g DTexts.F.kp DTexts.b .nil pass0 (pa_cons (pv 1) (pa_cons pe_int pa_nil))) pa_nil)))
        (pss_cons (ps_set (i := 4) scLaw.nd rfl (.inl rfl) (pe_lst (pa_cons (pv 3) (pa_cons (pv 3) (pa_cons (pv 3) (pa_cons (pe_slice sl_tupF (pv 3) (po_some pe_int) po_none) (pa_cons (pe_op op_catF (pv 3) (pe_tupF (pa_cons pe_str pa_nil))) (pa_cons (pe_callTy call_list_of (by rfl) T.list (by decide +kernel) (pa_cons (pv 3) pa_nil)) (pa_cons pe_non (pa_cons pe_int (pa_cons pe_str (pa_cons pe_dnewK (pa_cons (pe_op op_repF (pe_tupF (pa_cons pe_str pa_nil)) pe_int) (pa_cons (pe_tupF (pa_cons (pe_tupF (pa_cons pe_str pa_nil)) pa_nil)) (pa_cons (pe_call DDeep.ok (hr.mono (by decide)) (by rfl) DDeep.g DDeep.F.kp DDeep.b .nil pass0 (pa_cons (pv 1) pa_nil)) pa_nil)))))))))))))))
        (pss_cons (ps_set (i := 5) scLaw.nd rfl (.inr rfl) (pe_ix ix_list (pv 4) (pe_call DDraw.ok (hr.mono (by decide)) (by rfl) DDraw.g DDraw.F.kp DDraw.b .nil pass0 (pa_cons (pv 1) (pa_cons pe_int pa_nil))) (fun _ _ => rfl)))
        (pss_cons (ps_set (i := 6) scLaw.nd rfl (.inl rfl) (pe_cmpR op_notN (pe_call DReadRow.ok (hr.mono (by decide)) (by rfl) DReadRow.g DReadRow.F.kp DReadRow.b .nil pass0 (pa_cons (pv 5) pa_nil)) pe_non (nomark _)))
        (pss_cons (ps_set (i := 7) scLaw.nd rfl (.inl rfl) (pe_lst (pa_cons pe_str (pa_cons pe_str (pa_cons pe_str (pa_cons pe_str (pa_cons pe_str (pa_cons pe_str (pa_cons pe_non (pa_cons pe_int (pa_cons (pe_tupF (pa_cons pe_str pa_nil)) (pa_cons (pe_lst (pa_cons pe_str pa_nil)) (pa_cons pe_dnewK (pa_cons (pe_call DDeep.ok (hr.mono (by decide)) (by rfl) DDeep.g DDeep.F.kp DDeep.b .nil pass0 (pa_cons (pv 1) pa_nil)) (pa_cons pe_str pa_nil)))))))))))))))
        (pss_cons (ps_set (i := 8) scLaw.nd rfl (.inr rfl) (pe_ix ix_list (pv 7) (pe_call DDraw.ok (hr.mono (by decide)) (by rfl) DDraw.g DDraw.F.kp DDraw.b .nil pass0 (pa_cons (pv 1) (pa_cons pe_int pa_nil))) (fun _ _ => rfl)))
        (pss_cons (ps_set (i := 9) scLaw.nd rfl (.inl rfl) (pe_lst (pa_cons pe_int (pa_cons pe_int (pa_cons (pe_callB call_len_seq (by rfl) T.len PySem.boot_len (pa_cons (pv 3) pa_nil)) (pa_cons (pe_op op_add (pe_callB call_len_seq (by rfl) T.len PySem.boot_len (pa_cons (pv 3) pa_nil)) pe_int) (pa_cons (pe_un un_neg pe_int) (pa_cons pe_bl (pa_cons pe_non (pa_cons pe_str (pa_cons (pe_op op_pow pe_int pe_int) (pa_cons (pe_tupF (pa_cons pe_int pa_nil)) (pa_cons (pe_call DDeep.ok (hr.mono (by decide)) (by rfl) DDeep.g DDeep.F.kp DDeep.b .nil pass0 (pa_cons (pv 1) pa_nil)) pa_nil)))))))))))))
        (pss_cons (ps_set (i := 10) scLaw.nd rfl (.inr rfl) (pe_ix ix_list (pv 9) (pe_call DDraw.ok (hr.mono (by decide)) (by rfl) DDraw.g DDraw.F.kp DDraw.b .nil pass0 (pa_cons (pv 1) (pa_cons pe_int pa_nil))) (fun _ _ => rfl)))
        (pss_cons (ps_set (i := 11) scLaw.nd rfl (.inl rfl) (pe_and (pe_call DIsWord.ok (hr.mono (by decide)) (by rfl) DIsWord.g DIsWord.F.kp DIsWord.b .nil pass0 (pa_cons (pv 8) pa_nil)) (pe_one (pe_cmpR op_eq (pe_callB call_lenZ (by rfl) T.len PySem.boot_len (pa_cons (pv 8) pa_nil)) pe_int (nomark _)))))
        (pss_cons (ps_set (i := 12) scLaw.nd rfl (.inl rfl) (pe_ifExp (pt_val (pv 6)) (pe_callB call_len_seq (by rfl) T.len PySem.boot_len (pa_cons (pv 5) pa_nil)) pe_int))
        (pss_cons (ps_set (i := 13) scLaw.nd rfl (.inl rfl) (pe_lst (pa_cons (pe_tup (pa_cons pe_str (pa_cons (pv 6) pa_nil))) (pa_cons (pe_tup (pa_cons pe_str (pa_cons (pv 11) pa_nil))) pa_nil))))
        (pss_cons (ps_if (pt_cmpR op_ne (pe_lamcall (T := [(P0, (envOfC "law" (defScope sLaw) s.heap.objs.size f (.ref c)).qual ++ "<lambda>")]) (k := 8) (t := fun E => tCallS (spELess cR cS cW cN) (fun _ => E) (tCons (tVar 5) (tCons (tVar 8) tNil))) (by rfl) gT FT.kp lkT hcT bT scError rfl (.inl rfl) (gives_error (X := (cxOf CX0 P w K mg base ["script", "hand", "turn", "right", "rows", "row", "fits", "words", "word", "numbers", "number", "is_sign_v", "most", "pairs", "due"] "law" (defScope sLaw) f (.ref c) A outer s H E).nox) T ER ES EW EN NE BX gPE gVE) TB rfl (List.mem_singleton.mpr rfl) (fun p hp _ => by rw [List.mem_singleton.mp hp]; rfl) (hr.mono (by decide)) hLLess (by rfl) (fun q cl pm cv ctv => rfl)
        (fun A' outer' s' H' E' f' c' hrA => pe_callS (E := fun _ => E') GLess (hrA.mono (by decide)) (by rfl) gLess FLess.kp bLess (fun σ => passAt (takes_of rfl rfl rfl rfl) σ) (pa_cons (pv 5) (pa_cons (pv 8) pa_nil)))) (pe_call DFirst.ok (hr.mono (by decide)) (by rfl) DFirst.g DFirst.F.kp DFirst.b .nil pass0 (pa_cons (pv 13) pa_nil)) (nomark _))
        (pss_one (ps_ret pe_bl))
        pss_nil)
        (pss_cons (ps_expr (pe_bm PySem.F.plainAttrs_list PySem.F.slot_list_append PySem.F.type_list_append mt_append (pv 13) (pa_cons (pe_tup (pa_cons pe_str (pa_cons (pe_call DWhole.ok (hr.mono (by decide)) (by rfl) DWhole.g DWhole.F.kp DWhole.b .nil pass0 (pa_cons (pv 10) (pa_cons pe_int (pa_cons (pv 12) pa_nil)))) pa_nil))) pa_nil)))
        (pss_cons (ps_if (pt_cmpR op_ne (pe_lamcall (T := [(P0, (envOfC "law" (defScope sLaw) s.heap.objs.size f (.ref c)).qual ++ "<lambda>")]) (k := 8) (t := fun E => tCallS (spEMany cR cS cW cN) (fun _ => E) (tCons (tVar 5) (tCons (tVar 8) (tCons (tVar 10) tNil)))) (by rfl) gT FT.kp lkT hcT bT scError rfl (.inl rfl) (gives_error (X := (cxOf CX0 P w K mg base ["script", "hand", "turn", "right", "rows", "row", "fits", "words", "word", "numbers", "number", "is_sign_v", "most", "pairs", "due"] "law" (defScope sLaw) f (.ref c) A outer s H E).nox) T ER ES EW EN NE BX gPE gVE) TB rfl (List.mem_singleton.mpr rfl) (fun p hp _ => by rw [List.mem_singleton.mp hp]; rfl) (hr.mono (by decide)) hLMany (by rfl) (fun q cl pm cv ctv => rfl)
        (fun A' outer' s' H' E' f' c' hrA => pe_callS (E := fun _ => E') GMany (hrA.mono (by decide)) (by rfl) gMany FMany.kp bMany (fun σ => passAt (takes_of rfl rfl rfl rfl) σ) (pa_cons (pv 5) (pa_cons (pv 8) (pa_cons (pv 10) pa_nil))))) (pe_call DFirst.ok (hr.mono (by decide)) (by rfl) DFirst.g DFirst.F.kp DFirst.b .nil pass0 (pa_cons (pv 13) pa_nil)) (nomark _))
        (pss_one (ps_ret pe_bl))
        pss_nil)
        (pss_cons (ps_if (pt_cmpR op_ne (pe_lamcall (T := [(P0, (envOfC "law" (defScope sLaw) s.heap.objs.size f (.ref c)).qual ++ "<lambda>")]) (k := 8) (t := fun E => tCallS (spEFound cR cS cW cN) (fun _ => E) (tCons (tVar 5) (tCons (tVar 8) tNil))) (by rfl) gT FT.kp lkT hcT bT scError rfl (.inl rfl) (gives_error (X := (cxOf CX0 P w K mg base ["script", "hand", "turn", "right", "rows", "row", "fits", "words", "word", "numbers", "number", "is_sign_v", "most", "pairs", "due"] "law" (defScope sLaw) f (.ref c) A outer s H E).nox) T ER ES EW EN NE BX gPE gVE) TB rfl (List.mem_singleton.mpr rfl) (fun p hp _ => by rw [List.mem_singleton.mp hp]; rfl) (hr.mono (by decide)) hLFound (by rfl) (fun q cl pm cv ctv => rfl)
        (fun A' outer' s' H' E' f' c' hrA => pe_callS (E := fun _ => E') GFound (hrA.mono (by decide)) (by rfl) gFound FFound.kp bFound (fun σ => passAt (takes_of rfl rfl rfl rfl) σ) (pa_cons (pv 5) (pa_cons (pv 8) pa_nil)))) (pe_call DFirst.ok (hr.mono (by decide)) (by rfl) DFirst.g DFirst.F.kp DFirst.b .nil pass0 (pa_cons (pe_lst (pa_cons (pe_tup (pa_cons pe_str (pa_cons (pv 6) pa_nil))) (pa_cons (pe_tup (pa_cons pe_str (pa_cons (pe_call DIsWord.ok (hr.mono (by decide)) (by rfl) DIsWord.g DIsWord.F.kp DIsWord.b .nil pass0 (pa_cons (pv 8) pa_nil)) pa_nil))) pa_nil))) pa_nil)) (nomark _))
        (pss_one (ps_ret pe_bl))
        pss_nil)
        (pss_cons (ps_set (i := 14) scLaw.nd rfl (.inl rfl) (pe_call DFirst.ok (hr.mono (by decide)) (by rfl) DFirst.g DFirst.F.kp DFirst.b .nil pass0 (pa_cons (pe_lst (pa_cons (pe_tup (pa_cons pe_str (pa_cons (pv 6) pa_nil))) pa_nil)) pa_nil)))
        (pss_cons (ps_if (pt_cmpR op_ne (pe_lamcall (T := [(P0, (envOfC "law" (defScope sLaw) s.heap.objs.size f (.ref c)).qual ++ "<lambda>")]) (k := 8) (t := fun E => tCallS (spRLeads cR) (fun _ => E) (tCons (tVar 5) tNil)) (by rfl) gT FT.kp lkT hcT bT scError rfl (.inl rfl) (gives_error (X := (cxOf CX0 P w K mg base ["script", "hand", "turn", "right", "rows", "row", "fits", "words", "word", "numbers", "number", "is_sign_v", "most", "pairs", "due"] "law" (defScope sLaw) f (.ref c) A outer s H E).nox) T ER ES EW EN NE BX gPE gVE) TB rfl (List.mem_singleton.mpr rfl) (fun p hp _ => by rw [List.mem_singleton.mp hp]; rfl) (hr.mono (by decide)) hLLE (by rfl) (fun q cl pm cv ctv => rfl)
        (fun A' outer' s' H' E' f' c' hrA => pe_callS (E := fun _ => E') GLE (hrA.mono (by decide)) (by rfl) gLE FLE.kp bLE (fun σ => passAt (takes_of rfl rfl rfl rfl) σ) (pa_cons (pv 5) pa_nil))) (pv 14) (nomark _))
        (pss_one (ps_ret pe_bl))
        pss_nil)
        (pss_one (ps_if (pt_cmpR op_ne (pe_lamcall (T := [(P0, (envOfC "law" (defScope sLaw) s.heap.objs.size f (.ref c)).qual ++ "<lambda>")]) (k := 8) (t := fun E => tCallS (spRToldBack C cR) (fun _ => E) (tCons (tVar 5) tNil)) (by rfl) gT FT.kp lkT hcT bT scError rfl (.inl rfl) (gives_error (X := (cxOf CX0 P w K mg base ["script", "hand", "turn", "right", "rows", "row", "fits", "words", "word", "numbers", "number", "is_sign_v", "most", "pairs", "due"] "law" (defScope sLaw) f (.ref c) A outer s H E).nox) T ER ES EW EN NE BX gPE gVE) TB rfl (List.mem_singleton.mpr rfl) (fun p hp _ => by rw [List.mem_singleton.mp hp]; rfl) (hr.mono (by decide)) hLTB (by rfl) (fun q cl pm cv ctv => rfl)
        (fun A' outer' s' H' E' f' c' hrA => pe_callS (E := fun _ => E') GTB (hrA.mono (by decide)) (by rfl) gTB FTB.kp bTB (fun σ => passAt (takes_of rfl rfl rfl rfl) σ) (pa_cons (pv 5) pa_nil))) (pv 14) (nomark _))
        (pss_one (ps_ret pe_bl))
        pss_nil))))))))))))))))))))
      (pss_one (ps_ret pe_bl)))), ?_⟩
  obtain ⟨a, ns, rfl, hP, hS, q⟩ := h
  have eq0 : (envOfC "law" (defScope sLaw) s.heap.objs.size f (.ref c)).qual ++ ("<lambda>" : Str) = (envOfC "law" (defScope sLaw) s.heap.objs.size f (.ref c)).qual ++ ("<lambda>" : Str) := rfl
  generalize (envOfC "law" (defScope sLaw) s.heap.objs.size f (.ref c)).qual ++ ("<lambda>" : Str) = qn at eq0 ⊢
  clear eq0
  refine ⟨.ref a, rfl, a, ns, rfl, hS, fun p l H1 np nl h1 k1 => ?_⟩
  have tb1 : Tabs [(P0, qn)] H1 := fun x hx => by
    rw [List.mem_singleton.mp hx]
    exact TabS.nil (k1 _ _ hP)
  refine ⟨5, rfl, by decide, by decide, for_range (fun i σ H' => ∃ u2 u3 u4 u5 u6 u7 u8 u9 u10 u11 u12 u13 u14 : Option V, σ = [some (.ref a), some (.ref p), u2, u3, u4, u5, u6, u7, u8, u9, u10, u11, u12, u13, u14] ∧ HandL H' p l ∧ Tabs [(P0, qn)] H') ⟨_, _, _, _, _, _, _, _, _, _, _, _, _, rfl, h1, tb1⟩ ?_ ?_⟩
  · rintro i σ H2 hi ⟨u2, u3, u4, u5, u6, u7, u8, u9, u10, u11, u12, u13, u14, rfl, h2, tb2⟩
    clear h1 tb1 k1
    refine ⟨.ref p, rfl, p, 10, rfl, by decide, by decide, l, h2, fun ta ts H3 ht tm h3 b3 => ?_⟩
    have tb3 : Tabs _ _ := Tabs.but tb2 h2 b3
    refine ⟨ta, ts, rfl, ht, fun b H4 k4 hb => ?_⟩
    have h4 := h3.same k4
    have tb4 : Tabs _ _ := Tabs.ext tb3 k4
    have lz : (rowL ts).length ≤ 180 := by
      have z := sum_most (m := 10) ts fun t h => by have := tm t h; omega
      have z2 := row_len ts
      have z3 := ht.few
      have z4 := len_sum ts
      omega
    have lm : ((rowL ts).map V.str).length = (rowL ts).length := List.length_map ..
    have pz : ∀ H' : Hp, ∀ v ∈ (rowL ts).map V.str, Pt H' v := fun H' v hv => by
      obtain ⟨z, hz, rfl⟩ := List.mem_map.mp hv
      exact Pt.str (by have := (row_in ht.sg hz).2; omega)
    have thR : ∀ {H'}, TupF H' b ((rowL ts).map V.str) → Th H' (.ref b) (some ((rowL ts).map V.str)) := fun h => th_of h (by omega) (pz _)
    have hb : TupF H4 b ((rowL ts).map V.str) := hb
    have s5 : (1000 : Nat) ≤ sizeLine := by decide
    clear b3 k4 tb2 tb3 h2 h3
    dsimp only [gName, tSeq]
    refine (?_ : ∀ Q : V → Hp → Prop, (∀ (R : Addr) (xs : List V) H', H' R = some (.lst xs) → xs.length = 13 → (∀ v ∈ xs, ∃ o, Th H' v o) → Hn p l H4 H' → Q (.ref R) H') → tLst _ _ H4 Q) _ ?_
    · intro Q0 k0
      refine ⟨.ref b, rfl, .ref b, rfl, .ref b, rfl, .ref b, rfl, 1, rfl, b, _, rfl, hb, fun c5 H5 k5 h5 => ?_⟩
      have hb5 := TupF.same k5 hb
      refine ⟨.ref b, rfl, by show 1 ≤ sizeLine; decide, fun d o nd pd => ⟨b, d, _, _, rfl, rfl, TupF.same (Same.new nd) hb5, ⟨o, upd_same, pd⟩, by show _ + 1 ≤ _; omega, fun r6 H6 k6 h6 => ?_⟩⟩
      have kA6 := (k5.trans (Same.new nd)).trans k6
      have hb6 := TupF.same kA6 hb
      refine ⟨.ref b, rfl, b, _, rfl, .inr hb6.sq, fun l7 nl7 => ?_⟩
      have k7 := Same.new (o := .lst ((rowL ts).map V.str)) nl7
      have e7 : upd H6 l7 (.lst ((rowL ts).map V.str)) l7 = some (.lst ((rowL ts).map V.str)) := upd_same
      revert k7 e7
      generalize upd H6 l7 (.lst ((rowL ts).map V.str)) = H7
      intro k7 e7
      refine fun d8 nd8 => ?_
      have k8 := Same.new (o := .dK []) nd8
      have e8 : upd H7 d8 (.dK []) d8 = some (.dK []) := upd_same
      revert k8 e8
      generalize upd H7 d8 (.dK []) = H8
      intro k8 e8
      refine ⟨by show 1 ≤ sizeLine; decide, fun c1 o1 nc1 pc1 => ⟨c1, 9, [.str ""], rfl, rfl, ⟨o1, upd_same, pc1⟩, by simp, by decide, by decide, by decide, fun r9 H9 k9' h9 => ?_⟩⟩
      have k9 := (Same.new nc1).trans k9'
      refine ⟨by show 1 ≤ sizeLine; decide, fun f1 o2 nf1 pf1 => ⟨by show 1 ≤ sizeLine; decide, fun f2 o3 nf2 pf2 => ?_⟩⟩
      have k10 := Same.new (o := .frz o2 (.tup [.str "a"])) nf1
      have k11 := Same.new (o := .frz o3 (.tup [.ref f1])) nf2
      have e10 : TupF (upd H9 f1 (.frz o2 (.tup [.str "a"]))) f1 [.str "a"] := ⟨o2, upd_same, pf1⟩
      have e11 : TupF (upd (upd H9 f1 (.frz o2 (.tup [.str "a"]))) f2 (.frz o3 (.tup [.ref f1]))) f2 [.ref f1] := ⟨o3, upd_same, pf2⟩
      have hA : HandL (upd (upd H9 f1 (.frz o2 (.tup [.str "a"]))) f2 (.frz o3 (.tup [.ref f1]))) p l := (((((h4.same kA6).same k7).same k8).same k9).same k10).same k11
      have kA : Same H6 (upd (upd H9 f1 (.frz o2 (.tup [.str "a"]))) f2 (.frz o3 (.tup [.ref f1]))) := (((k7.trans k8).trans k9).trans k10).trans k11
      have k8A := ((k9.trans k10).trans k11)
      have k9A := k10.trans k11
      have e7A := k8A _ _ (k8 _ _ e7)
      have e8A := k8A _ _ e8
      revert e11 hA kA k8A k9A e7A e8A k11
      generalize upd (upd H9 f1 (.frz o2 (.tup [.str "a"]))) f2 (.frz o3 (.tup [.ref f1])) = HA
      intro k11 e11 hA kA k8A k9A e7A e8A
      refine ⟨.ref p, rfl, p, rfl, l, hA, fun x o HB hx vx hn => ⟨by show 13 ≤ sizeLine; decide, fun R nR => ?_⟩⟩
      refine k0 R _ _ upd_same rfl ?_ ⟨(hn.at_.same (Same.new nR)), ((But.same (kA6.trans kA)).trans hn.but).and (Same.new nR)⟩
      have tr : ∀ {oo : HO} {x : V} {o : Option (List V)}, Th HA x o → ∃ o, Th (upd HB R oo) x o := fun h => ⟨_, (h.but hA hn.at_ hn.but).same (Same.new nR)⟩
      refine fun v hv => ?_
      simp only [List.mem_cons, List.not_mem_nil, or_false] at hv
      have c1 := cutV_length ((rowL ts).map V.str) (some 1) none
      rcases hv with rfl | rfl | rfl | rfl | rfl | rfl | rfl | rfl | rfl | rfl | rfl | rfl | rfl
      · exact tr (thR (TupF.same (kA6.trans kA) hb))
      · exact tr (thR (TupF.same (kA6.trans kA) hb))
      · exact tr (thR (TupF.same (kA6.trans kA) hb))
      · exact tr (th_of (TupF.same (((Same.new nd).trans k6).trans kA) h5) (by omega) (pt_cut (pz _)))
      · refine tr (th_of (TupF.same kA h6) (by rw [List.length_append]; show _ + 1 ≤ _; omega) fun w hw => ?_)
        rcases List.mem_append.mp hw with g | g
        · exact pz _ w g
        · rw [List.mem_singleton.mp g]
          exact Pt.str (by decide)
      · exact tr (.no (.inl (.lst e7A)) (by decide))
      · exact tr (.no (.inl .non) (by decide))
      · exact tr (.no (.inl (.int 0)) (by decide))
      · exact tr (.no (.inl (.str "")) (by decide))
      · exact tr (.no (.inl (.dic e8A)) (by decide))
      · refine tr (th_of (TupF.same (k10.trans k11) h9) (by decide) fun w hw => ?_)
        obtain ⟨y, hy, hw⟩ := List.mem_flatten.mp hw
        rw [(List.mem_replicate.mp hy).2] at hw
        rw [List.mem_singleton.mp hw]
        exact Pt.str (by decide)
      · exact tr (th_one e11 ⟨_, TupF.ko (TupF.same k11 e10)⟩ (vs_ref _))
      · exact ⟨_, hx.same (Same.new nR)⟩
    intro R xs H5 hR x13 hxs hn5
    have hb5 := TupF.but hb h4 hn5.but
    have tb5 : Tabs _ _ := Tabs.but tb4 h4 hn5.but
    dsimp only [gName, tSeq]
    refine ⟨_, rfl, .ref p, rfl, p, 13, rfl, by decide, by decide, l, hn5.at_, fun v H6 v0 v1 h6 b6 => ?_⟩
    obtain ⟨x, ex, hx⟩ := atI_in (xs := xs) v0 (by rw [x13]; exact v1)
    obtain ⟨o, hx⟩ := hxs x hx
    have hx6 := hx.but hn5.at_ h6 b6
    refine ⟨R, _, v, x, rfl, rfl, SqL.of (b6 _ _ (hand_ne hn5.at_ hR fun _ _ _ _ _ z => by rw [HO.lst.inj z] at x13; cases x13) hR), ex, ?_⟩
    have hb6 := TupF.but hb5 hn5.at_ b6
    have tb6 : Tabs _ _ := Tabs.but tb5 hn5.at_ b6
    clear hxs hR ex hx hn5 hb5 tb5 v0 v1 x13 b6 tb4 h4 hb
    dsimp only [gName, tSeq]
    refine (?_ : ∀ Q : V → Hp → Prop, (∀ H7, Same H6 H7 → Q (.bl (dueO o).isSome) H7) → tOp _ _ _ _ H6 Q) _ ?_
    · intro Q0 k0
      cases du : dueO o with
      | none =>
        refine ⟨_, rfl, x, o, rfl, hx6, fun _ H7 k7 => ⟨rfl, ?_⟩, fun ts du2 => by rw [du] at du2; cases du2⟩
        have z := k0 H7 k7
        rw [du] at z
        rw [decide_eq_true rfl]
        exact z
      | some us =>
        refine ⟨_, rfl, x, o, rfl, hx6, (fun du2 => by rw [du] at du2; cases du2), fun us du2 b7 H7 k7 hb7 => ⟨rfl, ?_⟩⟩
        have z := k0 H7 k7
        rw [du] at z
        rw [decide_eq_false (by nofun)]
        exact z
    intro H7 k7
    have hx7 := hx6.same k7
    have h7 := h6.same k7
    have hb7 := TupF.same k7 hb6
    have tb7 : Tabs _ _ := Tabs.ext tb6 k7
    clear hx6 h6 hb6 tb6 k7
    dsimp only [gName, tSeq]
    refine (?_ : ∀ Q : V → Hp → Prop, (∀ (R : Addr) (xs : List V) H', H' R = some (.lst xs) → xs.length = 13 → (∀ v ∈ xs, Vs v ∧ ∃ k, Ko H' v k) → Hn p l H7 H' → Q (.ref R) H') → tLst _ _ H7 Q) _ ?_
    · intro Q0 k0
      refine ⟨by show 1 ≤ sizeLine; decide, fun f1 o2 nf1 pf1 => ⟨by show 1 ≤ sizeLine; decide, fun f2 nf2 => fun f3 nf3 => ?_⟩⟩
      have k10 := Same.new (o := .frz o2 (.tup [.str "a"])) nf1
      have k11 := Same.new (o := .lst [.str "a"]) nf2
      have k12 := Same.new (o := .dK []) nf3
      have e10 : TupF (upd H7 f1 (.frz o2 (.tup [.str "a"]))) f1 [.str "a"] := ⟨o2, upd_same, pf1⟩
      have e11 : (upd (upd H7 f1 (.frz o2 (.tup [.str "a"]))) f2 (.lst [.str "a"])) f2 = some (.lst [.str "a"]) := upd_same
      have e12 : (upd (upd (upd H7 f1 (.frz o2 (.tup [.str "a"]))) f2 (.lst [.str "a"])) f3 (.dK [])) f3 = some (.dK []) := upd_same
      have e10 := TupF.same (k11.trans k12) e10
      have e11 := k12 _ _ e11
      have kA := (k10.trans k11).trans k12
      have hA := h7.same kA
      clear k10 k11 k12
      revert e10 e11 e12 hA kA
      generalize upd (upd (upd H7 f1 (.frz o2 (.tup [.str "a"]))) f2 (.lst [.str "a"])) f3 (.dK []) = HA
      intro e12 e10 e11 kA hA
      refine ⟨.ref p, rfl, p, rfl, l, hA, fun y oy HB hy vy hn => ⟨by show 13 ≤ sizeLine; decide, fun R nR => ?_⟩⟩
      refine k0 R _ _ upd_same rfl ?_ ⟨(hn.at_.same (Same.new nR)), ((But.same kA).trans hn.but).and (Same.new nR)⟩
      have tr : ∀ {oo : HO} {x : V} {k : Kn}, Ko HA x k → ∃ k, Ko (upd HB R oo) x k := fun h => ⟨_, (h.but hA hn.at_ hn.but).same (Same.new nR)⟩
      refine fun v hv => ?_
      simp only [List.mem_cons, List.not_mem_nil, or_false] at hv
      rcases hv with rfl | rfl | rfl | rfl | rfl | rfl | rfl | rfl | rfl | rfl | rfl | rfl | rfl
      · exact ⟨(Pt.str (H := HA) (by decide +kernel)).1, tr (.inl (.str _))⟩
      · exact ⟨(Pt.str (H := HA) (by decide +kernel)).1, tr (.inl (.str _))⟩
      · exact ⟨(Pt.str (H := HA) (by decide +kernel)).1, tr (.inl (.str _))⟩
      · exact ⟨(Pt.str (H := HA) (by decide +kernel)).1, tr (.inl (.str _))⟩
      · exact ⟨(Pt.str (H := HA) (by decide +kernel)).1, tr (.inl (.str _))⟩
      · exact ⟨(Pt.str (H := HA) (by decide +kernel)).1, tr (.inl (.str _))⟩
      · exact ⟨fun z e => (by cases e), tr (.inl .non)⟩
      · exact ⟨fun z e => (by cases e), tr (.inl (.int 1))⟩
      · exact ⟨vs_ref _, tr (TupF.ko e10)⟩
      · exact ⟨vs_ref _, tr (.inl (.lst e11))⟩
      · exact ⟨vs_ref _, tr (.inl (.dic e12))⟩
      · obtain ⟨k, hk⟩ := Th.ko hy
        exact ⟨vy, k, hk.same (Same.new nR)⟩
      · exact ⟨(Pt.str (H := HA) (by decide +kernel)).1, tr (.inl (.str _))⟩
    intro R xs H8 hR x13 hxs hn8
    have hx8 := hx7.but h7 hn8.at_ hn8.but
    have hb8 := TupF.but hb7 h7 hn8.but
    have tb8 : Tabs _ _ := Tabs.but tb7 h7 hn8.but
    clear hx7 hb7 tb7
    dsimp only [gName, tSeq]
    refine ⟨_, rfl, .ref p, rfl, p, 13, rfl, by decide, by decide, l, hn8.at_, fun v H9 v0 v1 h9 b9 => ?_⟩
    obtain ⟨y, ey, hy⟩ := atI_in (xs := xs) v0 (by rw [x13]; exact v1)
    obtain ⟨vy, ky, hy⟩ := hxs y hy
    have hy9 := hy.but hn8.at_ h9 b9
    have hx9 := hx8.but hn8.at_ h9 b9
    refine ⟨R, _, v, y, rfl, rfl, SqL.of (b9 _ _ (hand_ne hn8.at_ hR fun _ _ _ _ _ z => by rw [HO.lst.inj z] at x13; cases x13) hR), ey, ?_⟩
    have hb9 := TupF.but hb8 hn8.at_ b9
    have tb9 : Tabs _ _ := Tabs.but tb8 hn8.at_ b9
    clear hxs hR ey hy hn8 hb8 tb8 v0 v1 x13 b9 h7 hx8
    dsimp only [gName, tSeq]
    refine (?_ : ∀ Q : V → Hp → Prop, (∀ (R : Addr) (xs : List V) H', H' R = some (.lst xs) → xs.length = 11 → (∀ v ∈ xs, ∃ k, Ko H' v k) → Hn p l H9 H' → Q (.ref R) H') → tLst _ _ H9 Q) _ ?_
    · intro Q0 k0
      refine ⟨.ref b, rfl, b, _, rfl, .inr hb9.sq, .ref b, rfl, b, _, rfl, .inr hb9.sq, _, _, rfl, rfl, _, rfl, _, _, rfl, rfl, ⟨by decide, by decide, by decide⟩, ?_⟩
      refine ⟨by show 1 ≤ sizeLine; decide, fun f1 o2 nf1 pf1 => ?_⟩
      have kA := Same.new (o := .frz o2 (.tup [.int 0])) nf1
      have e10 : TupF (upd H9 f1 (.frz o2 (.tup [.int 0]))) f1 [.int 0] := ⟨o2, upd_same, pf1⟩
      have hA := h9.same kA
      revert e10 hA kA
      generalize upd H9 f1 (.frz o2 (.tup [.int 0])) = HA
      intro kA e10 hA
      refine ⟨.ref p, rfl, p, rfl, l, hA, fun y oy HB hy vy hn => ⟨by show 11 ≤ sizeLine; decide, fun R nR => ?_⟩⟩
      refine k0 R _ _ upd_same rfl ?_ ⟨(hn.at_.same (Same.new nR)), ((But.same kA).trans hn.but).and (Same.new nR)⟩
      have tr : ∀ {oo : HO} {x : V} {k : Kn}, Ko HA x k → ∃ k, Ko (upd HB R oo) x k := fun h => ⟨_, (h.but hA hn.at_ hn.but).same (Same.new nR)⟩
      refine fun v hv => ?_
      simp only [List.mem_cons, List.not_mem_nil, or_false] at hv
      rcases hv with rfl | rfl | rfl | rfl | rfl | rfl | rfl | rfl | rfl | rfl | rfl
      · exact tr (.inl (.int _))
      · exact tr (.inl (.int _))
      · exact tr (.inl (.int _))
      · exact tr (.inl (.int _))
      · exact tr (.inl (.int _))
      · exact tr (.inl (.bl _))
      · exact tr (.inl .non)
      · exact tr (.inl (.str _))
      · exact tr (.inl (.int _))
      · exact tr (TupF.ko e10)
      · obtain ⟨k, hk⟩ := Th.ko hy
        exact ⟨k, hk.same (Same.new nR)⟩
    intro R xs H10 hR x13 hxs hn10
    have hx10 := hx9.but h9 hn10.at_ hn10.but
    have hy10 := hy9.but h9 hn10.at_ hn10.but
    have tb10 : Tabs _ _ := Tabs.but tb9 h9 hn10.but
    clear hx9 hy9 tb9
    dsimp only [gName, tSeq]
    refine ⟨_, rfl, .ref p, rfl, p, 11, rfl, by decide, by decide, l, hn10.at_, fun v H11 v0 v1 h11 b11 => ?_⟩
    obtain ⟨n, en, hn⟩ := atI_in (xs := xs) v0 (by rw [x13]; exact v1)
    obtain ⟨kn, hn⟩ := hxs n hn
    have hn11 := hn.but hn10.at_ h11 b11
    have hy11 := hy10.but hn10.at_ h11 b11
    have hx11 := hx10.but hn10.at_ h11 b11
    refine ⟨R, _, v, n, rfl, rfl, SqL.of (b11 _ _ (hand_ne hn10.at_ hR fun _ _ _ _ _ z => by rw [HO.lst.inj z] at x13; cases x13) hR), en, ?_⟩
    have tb11 : Tabs _ _ := Tabs.but tb10 hn10.at_ b11
    clear hxs hR en hn hn10 tb10 v0 v1 x13 b11 h9 hx10 hy10 hb9
    dsimp only [gName, tSeq]
    refine (?_ : ∀ Q : V → Hp → Prop, (∀ H', Same H11 H' → Q (.bl (signV y)) H') → tAndV _ _ _ H11 Q) _ ?_
    · intro Q0 k0
      refine ⟨y, rfl, y, ky, rfl, hy11, vy, fun H12 k12 => ⟨_, rfl, ?_⟩⟩
      have z := k0 H12 k12
      cases wv : wordV y with
      | false =>
        rw [sign_no wv] at z
        exact iteF z
      | true =>
        obtain ⟨y0, rfl⟩ := wordV_str wv
        rw [← sign_yes wv] at z
        exact iteT ⟨.str y0, rfl, y0, rfl, len5 (vy y0 rfl), rfl, z⟩
    intro H12 k12
    have hx := hx11.same k12
    have hy := hy11.same k12
    have hn := hn11.same k12
    have h12 := h11.same k12
    have tb12 : Tabs _ _ := Tabs.ext tb11 k12
    clear hx11 hy11 hn11 h11 tb11 k12
    dsimp only [gName, tSeq]
    refine (?_ : ∀ Q : V → Hp → Prop, Q (.int (moO o)) H12 → tIf _ _ _ _ H12 Q) _ ?_
    · intro Q0 k0
      unfold moO at k0
      cases du : dueO o with
      | none =>
        rw [du] at k0
        exact ⟨_, rfl, _, rfl, iteF k0⟩
      | some us =>
        rw [du] at k0
        obtain ⟨a2, vs2, rfl, rfl, ha2, _, _⟩ := due_rz hx du
        have ha2 : TupF H12 a2 ((vs2.map toS).map V.str) := ha2
        have ln : ((vs2.map toS).map V.str).length = vs2.length := by rw [List.length_map, List.length_map]
        refine ⟨_, rfl, _, rfl, iteT ⟨.ref a2, rfl, a2, _, rfl, .inr ha2.sq, ?_⟩⟩
        rw [ln]
        exact k0
    dsimp only [gName, tSeq]
    refine (?_ : ∀ Q : V → Hp → Prop, (∀ (R t1 t2 : Addr) (HC : Hp) H', HC R = none → Same H12 HC → H' = upd HC R (.lst [.ref t1, .ref t2]) → H' t1 = some (.tup [.str "row", .bl (dueO o).isSome]) → H' t2 = some (.tup [.str "sign", .bl (signV y)]) → Q (.ref R) H') → tLst _ _ H12 Q) _ ?_
    · intro Q0 k0
      refine ⟨_, rfl, by show 2 ≤ sizeLine; decide, fun t1 nt1 => ⟨_, rfl, by show 2 ≤ sizeLine; decide, fun t2 nt2 => ⟨by show 2 ≤ sizeLine; decide, fun R nR => ?_⟩⟩⟩
      exact k0 R t1 t2 _ _ nR ((Same.new nt1).trans (Same.new nt2)) rfl ((Same.new nR) _ _ ((Same.new nt2) _ _ upd_same)) ((Same.new nR) _ _ upd_same)
    intro R t1 t2 HC H13 nR kC e13 ht1 ht2
    have hR : H13 R = some (.lst [.ref t1, .ref t2]) := by rw [e13, upd_same]
    have kR : Same HC H13 := by rw [e13]; exact Same.new nR
    have x13 : ExtN H12 H13 := ExtN.of (kC.trans kR)
    have tb13 : Tabs _ _ := Tabs.ext tb12 (kC.trans kR)
    dsimp only [gName, tSeq]
    refine (?_ : ∀ Q : Bool → Hp → Prop, (∀ H', ExtN H13 H' → Tabs [(P0, qn)] H' → Q false H') → tTest _ _ H13 Q) _ ?_
    · intro Q0 k0
      refine lam_gv tb13 (h12.ext x13) (fun E1 Q1 H1 e1 g => ⟨x, rfl, y, rfl, x, o, y, ky, rfl, hx.ext (x13.trans e1), hy.ext (x13.trans e1), vy, g⟩) fun H' e' tb' h' => ?_
      have eR := e' _ _ hR fun ps z => by cases z
      have et1 := e' _ _ ht1 fun ps z => by cases z
      have et2 := e' _ _ ht2 fun ps z => by cases z
      refine ⟨.ref R, rfl, R, _, rfl, pairs2 eR et1 et2, fun H'' k'' => ⟨rfl, _, rfl, ?_⟩⟩
      rw [decide_eq_true (congrArg V.str (fst_less o y))]
      exact k0 H'' (e'.trans (ExtN.of k'')) (Tabs.ext tb' k'')
    intro H14 e14 tb14
    refine iteF ?_
    dsimp only [gName, tNext, tDrop, tSeq]
    have x14 := x13.trans e14
    have hR14 := e14 _ _ hR fun ps z => by cases z
    have et1 := e14 _ _ ht1 fun ps z => by cases z
    have et2 := e14 _ _ ht2 fun ps z => by cases z
    refine ⟨.ref R, rfl, .inl ⟨rfl, _, SqL.of hR14⟩, n, rfl, _, rfl, n, kn, 0, moO o, rfl, hn.ext x14, by show 2 ≤ sizeLine; decide, fun t3 nt3 => ?_⟩
    have k15 := Same.new (o := .tup [.str "number", .bl (wholeV n 0 (moO o))]) nt3
    refine ⟨R, _, _, rfl, rfl, k15 _ _ hR14, by show 2 < sizeLine; decide, ?_⟩
    have hR15 := k15 _ _ hR14
    have et1 := k15 _ _ et1
    have et2 := k15 _ _ et2
    have et3 : upd H14 t3 (.tup [.str "number", .bl (wholeV n 0 (moO o))]) t3 = some (.tup [.str "number", .bl (wholeV n 0 (moO o))]) := upd_same
    have kk : ExtN (upd HC R (.lst [.ref t1, .ref t2])) (upd H14 t3 (.tup [.str "number", .bl (wholeV n 0 (moO o))])) := by
      rw [← e13]
      exact e14.trans (ExtN.of k15)
    have x16 : ExtN H12 (upd (upd H14 t3 (.tup [.str "number", .bl (wholeV n 0 (moO o))])) R (.lst ([.ref t1, .ref t2] ++ [.ref t3]))) := (ExtN.of kC).trans (ext_write nR kk)
    have tb16 : Tabs [(P0, qn)] (upd (upd H14 t3 (.tup [.str "number", .bl (wholeV n 0 (moO o))])) R (.lst ([.ref t1, .ref t2] ++ [.ref t3]))) := Tabs.write (Tabs.ext tb14 k15) hR15
    have eR16 : upd (upd H14 t3 (.tup [.str "number", .bl (wholeV n 0 (moO o))])) R (.lst ([.ref t1, .ref t2] ++ [.ref t3])) R = some (.lst ([.ref t1, .ref t2] ++ [.ref t3])) := upd_same
    have ne : ∀ {t : Addr} {ys : List V}, upd H14 t3 (.tup [.str "number", .bl (wholeV n 0 (moO o))]) t = some (.tup ys) → upd (upd H14 t3 (.tup [.str "number", .bl (wholeV n 0 (moO o))])) R (.lst ([.ref t1, .ref t2] ++ [.ref t3])) t = some (.tup ys) := fun {t ys} e => by
      rw [upd_ne (fun z => by rw [z, hR15] at e; cases e)]
      exact e
    have et1 := ne et1
    have et2 := ne et2
    have et3 := ne et3
    clear ne kk k15 hR15 hR14 e14 tb14 x14 x13 kR kC nR ht1 ht2 tb13
    revert x16 tb16 eR16 et1 et2 et3
    generalize upd (upd H14 t3 (.tup [.str "number", .bl (wholeV n 0 (moO o))])) R (.lst ([.ref t1, .ref t2] ++ [.ref t3])) = H16
    intro x16 tb16 eR16 et1 et2 et3
    refine (?_ : ∀ Q : Bool → Hp → Prop, (∀ H', ExtN H16 H' → Tabs [(P0, qn)] H' → Q false H') → tTest _ _ H16 Q) _ ?_
    · intro Q0 k0
      refine lam_gv tb16 (h12.ext x16) (fun E1 Q1 H1 e1 g => ⟨x, rfl, y, rfl, n, rfl, x, o, y, ky, n, kn, rfl, hx.ext (x16.trans e1), hy.ext (x16.trans e1), vy, hn.ext (x16.trans e1), g⟩) fun H' e' tb' h' => ?_
      have eR := e' _ _ eR16 fun ps z => by cases z
      have et1 := e' _ _ et1 fun ps z => by cases z
      have et2 := e' _ _ et2 fun ps z => by cases z
      have et3 := e' _ _ et3 fun ps z => by cases z
      refine ⟨.ref R, rfl, R, _, rfl, pairs3 eR et1 et2 et3, fun H'' k'' => ⟨rfl, _, rfl, ?_⟩⟩
      rw [decide_eq_true (congrArg V.str (fst_many o y n))]
      exact k0 H'' (e'.trans (ExtN.of k'')) (Tabs.ext tb' k'')
    intro H17 e17 tb17
    refine iteF ?_
    have x17 := x16.trans e17
    clear et1 et2 et3 eR16 tb16 x16 e17
    dsimp only [gName, tNext, tDrop, tSeq]
    refine (?_ : ∀ Q : Bool → Hp → Prop, (∀ H', ExtN H17 H' → Tabs [(P0, qn)] H' → Q false H') → tTest _ _ H17 Q) _ ?_
    · intro Q0 k0
      refine lam_gv tb17 (h12.ext x17) (fun E1 Q1 H1 e1 g => ⟨x, rfl, y, rfl, x, o, y, ky, rfl, hx.ext (x17.trans e1), hy.ext (x17.trans e1), vy, g⟩) fun H' e' tb' h' => ?_
      refine ⟨_, rfl, by show 2 ≤ sizeLine; decide, fun t4 nt4 => ⟨y, rfl, y, ky, rfl, (hy.ext (x17.trans e')).same (Same.new nt4), vy, fun H5 k5 => ⟨by show 2 ≤ sizeLine; decide, fun t5 nt5 => ⟨by show 2 ≤ sizeLine; decide, fun R2 nR2 => ?_⟩⟩⟩⟩
      have k55 := (Same.new (o := .tup [.str "word", .bl (wordV y)]) nt5)
      refine ⟨R2, _, rfl, pairs2 upd_same ((Same.new nR2) _ _ (k55 _ _ (k5 _ _ upd_same))) ((Same.new nR2) _ _ upd_same), fun H'' k'' => ⟨rfl, _, rfl, ?_⟩⟩
      rw [decide_eq_true (congrArg V.str (fst_found o y))]
      have ka := ((((Same.new nt4).trans k5).trans k55).trans (Same.new nR2)).trans k''
      exact k0 H'' (e'.trans (ExtN.of ka)) (Tabs.ext tb' ka)
    intro H18 e18 tb18
    refine iteF ?_
    have x18 := x17.trans e18
    clear tb17 x17 e18
    dsimp only [gName, tNext, tDrop, tSeq]
    refine ⟨_, rfl, by show 2 ≤ sizeLine; decide, fun t6 nt6 => ⟨by show 1 ≤ sizeLine; decide, fun R3 nR3 => ?_⟩⟩
    refine ⟨R3, _, rfl, pairs1 upd_same ((Same.new nR3) _ _ upd_same), fun H19 k19 => ?_⟩
    have kb := ((Same.new nt6).trans (Same.new nR3)).trans k19
    have x19 := x18.trans (ExtN.of kb)
    have tb19 : Tabs _ _ := Tabs.ext tb18 kb
    clear kb k19 nR3 nt6 tb18 x18
    dsimp only [gName, tNext, tDrop, tSeq]
    refine (?_ : ∀ Q : Bool → Hp → Prop, (∀ H', ExtN H19 H' → Tabs [(P0, qn)] H' → Q false H') → tTest _ _ H19 Q) _ ?_
    · intro Q0 k0
      refine lam_gv (er := erRow o) tb19 (h12.ext x19) (fun E1 Q1 H1 e1 g => ⟨x, rfl, x, o, rfl, hx.ext (x19.trans e1), fun du H2 k2 => g.1 .row (by unfold erRow; rw [du]; rfl) H2 k2, fun ts du v H2 k2 => g.2 (by unfold erRow; rw [du]; rfl) v H2 k2⟩) fun H' e' tb' h' => ?_
      refine ⟨_, rfl, rfl, _, rfl, ?_⟩
      rw [decide_eq_true (congrArg V.str (fst_row o))]
      exact k0 H' e' tb'
    intro H20 e20 tb20
    refine iteF ?_
    have x20 := x19.trans e20
    clear tb19 x19 e20
    dsimp only [gName, tNext, tDrop, tSeq]
    refine (?_ : ∀ Q : Bool → Hp → Prop, (∀ H', ExtN H20 H' → Tabs [(P0, qn)] H' → Q false H') → tTest _ _ H20 Q) _ ?_
    · intro Q0 k0
      refine lam_gv (er := erRow o) tb20 (h12.ext x20) (fun E1 Q1 H1 e1 g => ⟨x, rfl, x, o, rfl, hx.ext (x20.trans e1), fun du H2 k2 => g.1 .row (by unfold erRow; rw [du]; rfl) H2 k2, fun ts du s2 H2 k2 _ => g.2 (by unfold erRow; rw [du]; rfl) _ H2 k2⟩) fun H' e' tb' h' => ?_
      refine ⟨_, rfl, rfl, _, rfl, ?_⟩
      rw [decide_eq_true (congrArg V.str (fst_row o))]
      exact k0 H' e' tb'
    intro H21 e21 tb21
    refine iteF ?_
    exact ⟨_, _, _, _, _, _, _, _, _, _, _, _, _, rfl, h12.ext (x20.trans e21), tb21⟩
  · rintro σ H2 ⟨u2, u3, u4, u5, u6, u7, u8, u9, u10, u11, u12, u13, u14, rfl, h2, tb2⟩
    exact q H2
end
end LawK
set_option maxHeartbeats 8000000
namespace LawK
open PySem PySem.Spec PyProof.Rows L2 Ev
structure Df (K : PySem.W.Frag) (mg : Str → Option Value) (x : Str) (st : Stmt) (ps : List Str) (f : Addr) (fd : FuncData) : Prop where
  F : Fun K x x st f fd
  b : Binds K fd ps []
  g : mg x = some (.ref f)
section
variable {P : Program} {w : World} {K : PySem.W.Frag} {mg : Str → Option Value} {h : Heap} {x : Str}
theorem df_mk {st : Stmt} {ps : List Str} {oc kV dc pm cd ct : Value} {od an : Option Addr} {sl : Array (Option Value)} {fa : Addr} (X : K.In h) (G : h.Ns mainGlobals mg)
    (hb : ∀ (kV doc pm : Value) (an : Option Addr) (cdv ct : Value) (us : List Value), us.length = ps.length → bindArgs (PySem.W.fnOf x x (defArgs st) (defBody st) (defScope st) .none kV doc pm an cdv ct) ⟨us, []⟩ = pure (ps.zip us))
    (a : PySem.W.nsIn K mainGlobals x = some (some (.ref fa))) (l : K.lookup fa = some ⟨oc, od, .func (PySem.W.fnOf x x (defArgs st) (defBody st) (defScope st) .none kV dc pm an cd ct), sl⟩)
    (ck : (PySem.W.codeIn K cd x && PySem.W.keepIn K (.ref fa)) = true) : ∃ fd, Df K mg x st ps fa fd := by
  obtain ⟨c1, c2⟩ := Bool.and_eq_true_iff.mp ck
  have F1 := fun_mk (st := st) l c1 c2
  exact ⟨_, F1, F1.binds (ps := ps) hb, PySem.W.mg_of X G a⟩
end
def chkL (K : PySem.W.Frag) (C fI : Addr) : Bool := PySem.W.makesIn K C && (PySem.W.isFn K (.ref fI) && (PySem.W.keepIn K (.ref C) && (PySem.W.plainGet K C Str.empty && (PySem.W.hasDictIn K C && (PySem.W.plainOver K C &&
  (decide (PySem.W.findIn K (.ref C) "__setattr__" = some (some (.builtin "object.__setattr__"))) && decide (PySem.W.findIn K (.ref C) "texts" = some none)))))))
theorem lib_mk {K : PySem.W.Frag} {mg : Str → Option Value} {h : Heap} {oc1 kV1 dc1 pm1 cd1 ct1 : Value} {od1 an1 : Option Addr} {sl1 : Array (Option Value)} {C fI : Addr} (X : K.In h) (G : h.Ns mainGlobals mg)
    (aC : PySem.W.nsIn K mainGlobals "Library" = some (some (.ref C))) (iC : PySem.W.findIn K (.ref C) "__init__" = some (some (.ref fI)))
    (lI : K.lookup fI = some ⟨oc1, od1, .func (PySem.W.fnOf "__init__" "Library.__init__" (defArgs sLInit) (defBody sLInit) (defScope sLInit) .none kV1 dc1 pm1 an1 cd1 ct1), sl1⟩)
    (c1 : (PySem.W.codeIn K cd1 "Library.__init__" && PySem.W.keepIn K (.ref fI)) = true) (ck : chkL K C fI = true) : ∃ fI fdI, LibC K mg C fI fdI := by
  obtain ⟨i1, i2⟩ := Bool.and_eq_true_iff.mp c1
  have FI := fun_mk (st := sLInit) lI i1 i2
  obtain ⟨h1, ck⟩ := Bool.and_eq_true_iff.mp ck
  obtain ⟨h2, ck⟩ := Bool.and_eq_true_iff.mp ck
  obtain ⟨h3, ck⟩ := Bool.and_eq_true_iff.mp ck
  obtain ⟨h4, ck⟩ := Bool.and_eq_true_iff.mp ck
  obtain ⟨h5, ck⟩ := Bool.and_eq_true_iff.mp ck
  obtain ⟨h6, ck⟩ := Bool.and_eq_true_iff.mp ck
  obtain ⟨h7, h8⟩ := Bool.and_eq_true_iff.mp ck
  have h8' := of_decide_eq_true h8
  exact ⟨_, _, ⟨h1, iC, h2, h3⟩, ⟨h4, h5, h6, of_decide_eq_true h7⟩, h8',
    FI, FI.binds (ps := ["self", "texts"]) (fun _ _ _ _ _ _ us hl => match us, hl with | [_, _], _ => rfl), PySem.W.mg_of X G aC⟩
theorem end_mk {c P0 : Addr} {P : Program} {w : World} {K : PySem.W.Frag} {mg : Str → Option Value} {h : Heap} {fa f PE C cER cES cEW cEN fPNumber fPSigns fPWord fPSign fQHasForm fPRowLeads fQSpelled fQTextsOf fPIsRow fPToldBack fPLeads fQMany fPMany fQLess fPLess fPFound fHand fOrder fRow fDraw fText fTexts fDeep fReadRow fWhole fError fIsWord fFirst : Addr} {oc kV dc pm ct : Value} {od an : Option Addr} {sl : Array (Option Value)} (X : K.In h) (G : h.Ns mainGlobals mg) (hfa : mg "law" = some (.ref fa))
    (aL : PySem.W.nsIn K mainGlobals "law" = some (some (.ref f))) (lL : K.lookup f = some ⟨oc, od, .func (PySem.W.fnOf "law" "law" (defArgs sLaw) (defBody sLaw) (defScope sLaw) .none kV dc pm an (.ref c) ct), sl⟩) (ck : (PySem.W.codeIn K (.ref c) "law" && PySem.W.keepIn K (.ref f)) = true)
    {tMOST_TEXTS : Tok} (aMOST_TEXTS : PySem.W.nsIn K mainGlobals "MOST_TEXTS" = some (some (.int 8 tMOST_TEXTS)))
    {tMOST_SIGNS : Tok} (aMOST_SIGNS : PySem.W.nsIn K mainGlobals "MOST_SIGNS" = some (some (.int 2000 tMOST_SIGNS)))
    (DPNumber : ∃ fd, Df K mg "is_number" sPNumber ["thing"] fPNumber fd)
    (DPSigns : ∃ fd, Df K mg "is_signs" sPSigns ["thing"] fPSigns fd)
    (DPWord : ∃ fd, Df K mg "is_word" sPWord ["thing"] fPWord fd)
    (DPSign : ∃ fd, Df K mg "is_sign" sPSign ["thing"] fPSign fd)
    (DQHasForm : ∃ fd, Df K mg "_has_form" sQHasForm ["thing"] fQHasForm fd)
    (DPRowLeads : ∃ fd, Df K mg "row_leads" sPRowLeads ["row"] fPRowLeads fd)
    (DQSpelled : ∃ fd, Df K mg "_spelled" sQSpelled ["row"] fQSpelled fd)
    (DQTextsOf : ∃ fd, Df K mg "_texts_of" sQTextsOf ["thing"] fQTextsOf fd)
    (DPIsRow : ∃ fd, Df K mg "is_row" sPIsRow ["thing"] fPIsRow fd)
    (DPToldBack : ∃ fd, Df K mg "told_back" sPToldBack ["row"] fPToldBack fd)
    (DPLeads : ∃ fd, Df K mg "leads" sPLeads ["row"] fPLeads fd)
    (DQMany : ∃ fd, Df K mg "_many_ahead" sQMany ["row", "sign", "number"] fQMany fd)
    (DPMany : ∃ fd, Df K mg "many_ahead" sPMany ["row", "sign", "number"] fPMany fd)
    (DQLess : ∃ fd, Df K mg "_less_than" sQLess ["row", "sign"] fQLess fd)
    (DPLess : ∃ fd, Df K mg "less_than" sPLess ["row", "sign"] fPLess fd)
    (DPFound : ∃ fd, Df K mg "found_behind" sPFound ["row", "word"] fPFound fd)
    (DHand : ∃ fd, Df K mg "_law_hand" sHand ["script"] fHand fd)
    (DOrder : ∃ fd, Df K mg "_law_order" sOrder ["texts"] fOrder fd)
    (DRow : ∃ fd, Df K mg "_law_row" sRow ["texts"] fRow fd)
    (DDraw : ∃ fd, Df K mg "_law_draw" sDraw ["hand", "many"] fDraw fd)
    (DText : ∃ fd, Df K mg "_law_text" sText ["hand", "most"] fText fd)
    (DTexts : ∃ fd, Df K mg "_law_texts" sTexts ["hand", "most"] fTexts fd)
    (DDeep : ∃ fd, Df K mg "_law_deep" sDeep ["hand"] fDeep fd)
    (DReadRow : ∃ fd, Df K mg "_law_read_row" sReadRow ["row"] fReadRow fd)
    (DWhole : ∃ fd, Df K mg "_law_whole" sWhole ["thing", "least", "most"] fWhole fd)
    (DError : ∃ fd, Df K mg "_law_error" sError ["call"] fError fd)
    (DIsWord : ∃ fd, Df K mg "_law_is_word" sIsWord ["thing"] fIsWord fd)
    (DFirst : ∃ fd, Df K mg "_law_first" sFirst ["pairs"] fFirst fd)
    (ER : Cls0 P K mg PE "NoRow" cER) (ES : Cls0 P K mg PE "NoSign" cES) (EW : Cls0 P K mg PE "NoWord" cEW) (EN : Cls0 P K mg PE "NoNumber" cEN) (CB : chkB K PE = true) (aPE : PySem.W.nsIn K mainGlobals "PieceError" = some (some (.ref PE))) (gVE : mg "ValueError" = none) (neERES : cER ≠ cES) (neEREW : cER ≠ cEW) (neEREN : cER ≠ cEN) (neESEW : cES ≠ cEW) (neESEN : cES ≠ cEN) (neEWEN : cEW ≠ cEN) (LL : ∃ fI fdI, LibC K mg C fI fdI) (T : Glob mg) :
    ∃ fd : FuncData, (∀ (s : Shared) (u : Value), BindsTo s fd ⟨[u], []⟩ [("script", u)]) ∧ ∀ base : Heap, K.In base → base.Ns mainGlobals mg → LamX.TabB base mg c P0 → FnOk P w K mg base CX0 13 fa fd ["script"] (spLawT P0 K) := by
  have e := hfa.symm.trans (PySem.W.mg_of X G aL)
  cases e
  obtain ⟨fI, fdI, L⟩ := LL
  obtain ⟨fdPNumber, DPNumber⟩ := DPNumber
  obtain ⟨fdPSigns, DPSigns⟩ := DPSigns
  obtain ⟨fdPWord, DPWord⟩ := DPWord
  obtain ⟨fdPSign, DPSign⟩ := DPSign
  obtain ⟨fdQHasForm, DQHasForm⟩ := DQHasForm
  obtain ⟨fdPRowLeads, DPRowLeads⟩ := DPRowLeads
  obtain ⟨fdQSpelled, DQSpelled⟩ := DQSpelled
  obtain ⟨fdQTextsOf, DQTextsOf⟩ := DQTextsOf
  obtain ⟨fdPIsRow, DPIsRow⟩ := DPIsRow
  obtain ⟨fdPToldBack, DPToldBack⟩ := DPToldBack
  obtain ⟨fdPLeads, DPLeads⟩ := DPLeads
  obtain ⟨fdQMany, DQMany⟩ := DQMany
  obtain ⟨fdPMany, DPMany⟩ := DPMany
  obtain ⟨fdQLess, DQLess⟩ := DQLess
  obtain ⟨fdPLess, DPLess⟩ := DPLess
  obtain ⟨fdPFound, DPFound⟩ := DPFound
  obtain ⟨fdHand, DHand⟩ := DHand
  obtain ⟨fdOrder, DOrder⟩ := DOrder
  obtain ⟨fdRow, DRow⟩ := DRow
  obtain ⟨fdDraw, DDraw⟩ := DDraw
  obtain ⟨fdText, DText⟩ := DText
  obtain ⟨fdTexts, DTexts⟩ := DTexts
  obtain ⟨fdDeep, DDeep⟩ := DDeep
  obtain ⟨fdReadRow, DReadRow⟩ := DReadRow
  obtain ⟨fdWhole, DWhole⟩ := DWhole
  obtain ⟨fdError, DError⟩ := DError
  obtain ⟨fdIsWord, DIsWord⟩ := DIsWord
  obtain ⟨fdFirst, DFirst⟩ := DFirst
  obtain ⟨c1, c2⟩ := Bool.and_eq_true_iff.mp ck
  have BX := baseX_mk CB
  refine ⟨PySem.W.fnOf "law" "law" (defArgs sLaw) (defBody sLaw) (defScope sLaw) .none kV dc pm an (.ref c) ct, fun s u => .of_eq rfl, fun base _ _ TB => ?_⟩
  have TPSigns : Dk P w K mg base "is_signs" sPSigns ["thing"] 1 spSgO fPSigns fdPSigns := ⟨DPSigns.F, DPSigns.b, DPSigns.g, okz_PSigns (DPSigns.F) (T)⟩
  have TPSignsA : Dk P w K mg base "is_signs" sPSigns ["thing"] 1 spSg fPSigns fdPSigns := ⟨DPSigns.F, DPSigns.b, DPSigns.g, ok_PSigns DPSigns.F T⟩
  have GI : FnOk P w K mg base (L2.CX P w) 4 fI fdI ["self", "texts"] (spLInit C) := ok_LInit L (PySem.W.mg_of X G aMOST_TEXTS) (PySem.W.mg_of X G aMOST_SIGNS) TPSignsA T
  have TQHasForm : Dk P w K mg base "_has_form" sQHasForm ["thing"] 2 spHasFormO fQHasForm fdQHasForm := ⟨DQHasForm.F, DQHasForm.b, DQHasForm.g, okz_QHasForm (DQHasForm.F) (PySem.W.mg_of X G aMOST_SIGNS) (PySem.W.mg_of X G aMOST_TEXTS) (TPSigns) (T)⟩
  have TPRowLeads : Dk P w K mg base "row_leads" sPRowLeads ["row"] 1 spLeadsZ fPRowLeads fdPRowLeads := ⟨DPRowLeads.F, DPRowLeads.b, DPRowLeads.g, okz_PRowLeads (DPRowLeads.F) (T)⟩
  have TQSpelled : Dk P w K mg base "_spelled" sQSpelled ["row"] 2 spSpelledZ fQSpelled fdQSpelled := ⟨DQSpelled.F, DQSpelled.b, DQSpelled.g, okz_QSpelled (DQSpelled.F) (TPRowLeads) (T)⟩
  have TQTextsOf : Dk P w K mg base "_texts_of" sQTextsOf ["thing"] 3 spTextsOfO fQTextsOf fdQTextsOf := ⟨DQTextsOf.F, DQTextsOf.b, DQTextsOf.g, okz_QTextsOf (DQTextsOf.F) (TQHasForm) (TQSpelled) (T)⟩
  have GTB : FnOk P w K mg base (L2.CX P w) 6 fPToldBack fdPToldBack ["row"] (spRToldBack C cER) := okz_PToldBack (DPToldBack.F) (L) (GI) (ER) (TQTextsOf) (T)
  have TPIsRow : Dk P w K mg base "is_row" sPIsRow ["thing"] 4 spIsRowO fPIsRow fdPIsRow := ⟨DPIsRow.F, DPIsRow.b, DPIsRow.g, okz_PIsRow (DPIsRow.F) (TQTextsOf) (T)⟩
  have GLE : FnOk P w K mg base (L2.CX P w) 5 fPLeads fdPLeads ["row"] (spRLeads cER) := okz_PLeads (DPLeads.F) (ER) (TPRowLeads) (TPIsRow) (T)
  have TPNumber : Dk P w K mg base "is_number" sPNumber ["thing"] 1 spNumO fPNumber fdPNumber := ⟨DPNumber.F, DPNumber.b, DPNumber.g, ok_PNumber (DPNumber.F) (T)⟩
  have TPSign : Dk P w K mg base "is_sign" sPSign ["thing"] 2 spSnO fPSign fdPSign := ⟨DPSign.F, DPSign.b, DPSign.g, ok_PSign (DPSign.F) (TPSigns) (T)⟩
  have TQMany : Dk P w K mg base "_many_ahead" sQMany ["row", "sign", "number"] 1 spQManyZ fQMany fdQMany := ⟨DQMany.F, DQMany.b, DQMany.g, ok_QMany (DQMany.F) (T)⟩
  have GMany : FnOk P w K mg base (L2.CX P w) 5 fPMany fdPMany ["row", "sign", "number"] (spEMany cER cES cEW cEN) := ok_PMany (DPMany.F) (ER) (ES) (EW) (EN) (TPSign) (TPIsRow) (TQMany) (TPNumber) (T)
  have TQLess : Dk P w K mg base "_less_than" sQLess ["row", "sign"] 1 spQLessZ fQLess fdQLess := ⟨DQLess.F, DQLess.b, DQLess.g, ok_QLess (DQLess.F) (T)⟩
  have GLess : FnOk P w K mg base (L2.CX P w) 5 fPLess fdPLess ["row", "sign"] (spELess cER cES cEW cEN) := ok_PLess (DPLess.F) (ER) (ES) (EW) (EN) (TPSign) (TPIsRow) (TQLess) (T)
  have TPWord : Dk P w K mg base "is_word" sPWord ["thing"] 2 spWdO fPWord fdPWord := ⟨DPWord.F, DPWord.b, DPWord.g, ok_PWord (DPWord.F) (TPSigns) (T)⟩
  have GFound : FnOk P w K mg base (L2.CX P w) 5 fPFound fdPFound ["row", "word"] (spEFound cER cES cEW cEN) := ok_PFound (DPFound.F) (ER) (ES) (EW) (EN) (TPWord) (TPIsRow) (TQMany) (TQLess) (T)
  have THand : Dk P w K mg base "_law_hand" sHand ["script"] 1 (spHand K) fHand fdHand := ⟨DHand.F, DHand.b, DHand.g, ok_Hand (DHand.F) (T)⟩
  have TOrder : Dk P w K mg base "_law_order" sOrder ["texts"] 1 spLOrder2 fOrder fdOrder := ⟨DOrder.F, DOrder.b, DOrder.g, ok_Order (DOrder.F) (T)⟩
  have TRow : Dk P w K mg base "_law_row" sRow ["texts"] 2 spLRowF fRow fdRow := ⟨DRow.F, DRow.b, DRow.g, okf_Row DRow.F TOrder T⟩
  have TOrderL : Dk P w K mg base "_law_order" sOrder ["texts"] 1 spLOrderL fOrder fdOrder := ⟨DOrder.F, DOrder.b, DOrder.g, okz_Order DOrder.F T⟩
  have TRowL : Dk P w K mg base "_law_row" sRow ["texts"] 2 spLRowL fRow fdRow := ⟨DRow.F, DRow.b, DRow.g, okz_Row DRow.F TOrderL T⟩
  have TDraw : Dk P w K mg base "_law_draw" sDraw ["hand", "many"] 1 spDraw fDraw fdDraw := ⟨DDraw.F, DDraw.b, DDraw.g, ok_Draw (DDraw.F) (T)⟩
  have TText : Dk P w K mg base "_law_text" sText ["hand", "most"] 2 spLText fText fdText := ⟨DText.F, DText.b, DText.g, ok_Text (DText.F) (TDraw) (T)⟩
  have TTexts : Dk P w K mg base "_law_texts" sTexts ["hand", "most"] 3 spLTexts fTexts fdTexts := ⟨DTexts.F, DTexts.b, DTexts.g, ok_Texts (DTexts.F) (TDraw) (TText) (T)⟩
  have TDeep : Dk P w K mg base "_law_deep" sDeep ["hand"] 2 spDeepT fDeep fdDeep := ⟨DDeep.F, DDeep.b, DDeep.g, ok_Deep (DDeep.F) (TDraw) (T)⟩
  have TReadRow : Dk P w K mg base "_law_read_row" sReadRow ["row"] 3 spReadRow fReadRow fdReadRow := ⟨DReadRow.F, DReadRow.b, DReadRow.g, ok_ReadRow DReadRow.F TRowL T⟩
  have TWhole : Dk P w K mg base "_law_whole" sWhole ["thing", "least", "most"] 1 spWhole fWhole fdWhole := ⟨DWhole.F, DWhole.b, DWhole.g, ok_Whole (DWhole.F) (T)⟩
  have TIsWord : Dk P w K mg base "_law_is_word" sIsWord ["thing"] 1 spIsWd fIsWord fdIsWord := ⟨DIsWord.F, DIsWord.b, DIsWord.g, ok_IsWord (DIsWord.F) (T)⟩
  have TFirst : Dk P w K mg base "_law_first" sFirst ["pairs"] 1 spFirst fFirst fdFirst := ⟨DFirst.F, DFirst.b, DFirst.g, ok_First (DFirst.F) (T)⟩
  exact ok_law lL c1 TB THand TRow TDraw TTexts TDeep TReadRow TWhole TIsWord TFirst ER ES EW EN ⟨neERES, neEREW, neEREN, neESEW, neESEN, neEWEN⟩ BX.1 (PySem.W.mg_of X G aPE) gVE DError.F DError.b DError.g DPLess.F DPLess.b DPLess.g GLess DPMany.F DPMany.b DPMany.g GMany DPFound.F DPFound.b DPFound.g GFound DPLeads.F DPLeads.b DPLeads.g GLE DPToldBack.F DPToldBack.b DPToldBack.g GTB T

theorem lawat_mk {l : PySem.W.OpenLaw} {w : World} {K : PySem.W.Frag} {mg : Str → Option Value} {fa c P0 : Addr} {h : Heap} (X : K.In h) (hT : h.get? P0 = some { cls := .none, data := .fields #[] }) (nP : K.lookup P0 = none) (cH : PySem.W.codeHdIn K c P0 = true)
    (E : ∃ fd : FuncData, (∀ (s : Shared) (u : Value), BindsTo s fd ⟨[u], []⟩ [("script", u)]) ∧ ∀ base : Heap, K.In base → base.Ns mainGlobals mg → LamX.TabB base mg c P0 → FnOk l.prog w K mg base CX0 13 fa fd ["script"] (spLawT P0 K)) : LamX.LawAtS l w K CX0 13 63 "script" mg fa h := by
  obtain ⟨fd, hb, hF⟩ := E
  refine ⟨fd, [(c, P0)], spLawT P0 K, fun p hp => ?_, fun p hp => ?_, fun p hp => ?_, hb, fun H a ns _ _ t hS => ⟨a, ns, rfl, t _ (List.mem_singleton.mpr rfl), hS, fun _ => rfl⟩, fun base X G T => hF base X G (T _ (List.mem_singleton.mpr rfl))⟩
  · rw [List.mem_singleton.mp hp]
    exact hT
  · rw [List.mem_singleton.mp hp]
    exact nP
  · rw [List.mem_singleton.mp hp]
    exact PySem.W.codeHd_of_K X cH
end LawK
open PySem PySem.W PyProof.Rows L2
set_option maxRecDepth 100000 in
set_option maxHeartbeats 0 in
theorem PySem.Challenge.cw_everypiece_k25_rows_refused_holds : PySem.Challenge.rw_everypiece_k25_rows_refused.Holds := by
  w_on; o_law; k_head; (case hw => w_witness2)
  k_fill
  refine LamX.walk_ofTs (l := PySem.Challenge.rw_everypiece_k25_rows_refused) (n := 63) (k := 13) (x := "script") (CX := fun _ => CX0) rfl (by decide) rfl ⟨rfl, by decide, by decide⟩ (fun w h Y => PySem.W.km_in_of Y) ?F (fun _ _ _ _ _ z => z)
  case F =>
    intro w mg fa h Y KX G hmg
    have hT8 := PySem.W.km_tabs_of Y 334 (List.mem_singleton.mpr rfl)
    clear Y
    have hfa : mg "law" = some (.ref fa) := hmg
    clear hmg
    refine LawK.say KX (fun K => LawK.Sh0 (PySem.W.OpenLaw.prog PySem.Challenge.rw_everypiece_k25_rows_refused) K mg) (by
      refine' LawK.sh0_mk KX G ?kq1a ?kq1b ?kq1c ?kq1d ?kq1e
      (case kq1a => k_is); (case kq1b => k_is); (case kq1c => k_is); (case kq1d => decide +kernel); (case kq1e => k_is)) ?_
    intro S
    refine LawK.say KX (fun K => LawK.Cls0 (PySem.W.OpenLaw.prog PySem.Challenge.rw_everypiece_k25_rows_refused) K mg 24 "NoRow" 107) (by
      refine' LawK.cls0_mk (qual := "NoRow.__init__") KX G S ?kq2a ?kq2l ?kq2i ?kq2f ?kq2d ?kq2e ?kq2v ?kq2w ?kq2p ?kq2c
      (case kq2a => k_is); (case kq2l => k_is); (case kq2i => k_is); (case kq2f => k_is); (case kq2d => k_is); (case kq2e => k_is); (case kq2v => rfl); (case kq2w => rfl); (case kq2p => rfl); (case kq2c => kernel_rfl)) ?_
    intro ER
    refine LawK.say KX (fun K => LawK.Cls0 (PySem.W.OpenLaw.prog PySem.Challenge.rw_everypiece_k25_rows_refused) K mg 24 "NoSign" 128) (by
      refine' LawK.cls0_mk (qual := "NoSign.__init__") KX G S ?kq3a ?kq3l ?kq3i ?kq3f ?kq3d ?kq3e ?kq3v ?kq3w ?kq3p ?kq3c
      (case kq3a => k_is); (case kq3l => k_is); (case kq3i => k_is); (case kq3f => k_is); (case kq3d => k_is); (case kq3e => k_is); (case kq3v => rfl); (case kq3w => rfl); (case kq3p => rfl); (case kq3c => kernel_rfl)) ?_
    intro ES
    refine LawK.say KX (fun K => LawK.Cls0 (PySem.W.OpenLaw.prog PySem.Challenge.rw_everypiece_k25_rows_refused) K mg 24 "NoWord" 65) (by
      refine' LawK.cls0_mk (qual := "NoWord.__init__") KX G S ?kq4a ?kq4l ?kq4i ?kq4f ?kq4d ?kq4e ?kq4v ?kq4w ?kq4p ?kq4c
      (case kq4a => k_is); (case kq4l => k_is); (case kq4i => k_is); (case kq4f => k_is); (case kq4d => k_is); (case kq4e => k_is); (case kq4v => rfl); (case kq4w => rfl); (case kq4p => rfl); (case kq4c => kernel_rfl)) ?_
    intro EW
    refine LawK.say KX (fun K => LawK.Cls0 (PySem.W.OpenLaw.prog PySem.Challenge.rw_everypiece_k25_rows_refused) K mg 24 "NoNumber" 86) (by
      refine' LawK.cls0_mk (qual := "NoNumber.__init__") KX G S ?kq5a ?kq5l ?kq5i ?kq5f ?kq5d ?kq5e ?kq5v ?kq5w ?kq5p ?kq5c
      (case kq5a => k_is); (case kq5l => k_is); (case kq5i => k_is); (case kq5f => k_is); (case kq5d => k_is); (case kq5e => k_is); (case kq5v => rfl); (case kq5w => rfl); (case kq5p => rfl); (case kq5c => kernel_rfl)) ?_
    intro EN
    refine LawK.say KX (fun K => LawK.chkB K 24 = true) (by kernel_rfl) ?_
    intro CB
    refine LawK.say KX (fun K => ∃ fd, LawK.Df K mg "is_number" LawK.sPNumber ["thing"] 137 fd) (by
      refine' LawK.df_mk KX G (fun _ _ _ _ _ _ us hl => match us, hl with | [_], _ => rfl) ?kq7a ?kq7l ?kq7c
      (case kq7a => k_is); (case kq7l => k_is); (case kq7c => kernel_rfl)) ?_
    intro DPNumber
    refine LawK.say KX (fun K => ∃ fd, LawK.Df K mg "is_signs" LawK.sPSigns ["thing"] 144 fd) (by
      refine' LawK.df_mk KX G (fun _ _ _ _ _ _ us hl => match us, hl with | [_], _ => rfl) ?kq8a ?kq8l ?kq8c
      (case kq8a => k_is); (case kq8l => k_is); (case kq8c => kernel_rfl)) ?_
    intro DPSigns
    refine LawK.say KX (fun K => ∃ fd, LawK.Df K mg "is_word" LawK.sPWord ["thing"] 151 fd) (by
      refine' LawK.df_mk KX G (fun _ _ _ _ _ _ us hl => match us, hl with | [_], _ => rfl) ?kq9a ?kq9l ?kq9c
      (case kq9a => k_is); (case kq9l => k_is); (case kq9c => kernel_rfl)) ?_
    intro DPWord
    refine LawK.say KX (fun K => ∃ fd, LawK.Df K mg "is_sign" LawK.sPSign ["thing"] 158 fd) (by
      refine' LawK.df_mk KX G (fun _ _ _ _ _ _ us hl => match us, hl with | [_], _ => rfl) ?kq10a ?kq10l ?kq10c
      (case kq10a => k_is); (case kq10l => k_is); (case kq10c => kernel_rfl)) ?_
    intro DPSign
    refine LawK.say KX (fun K => ∃ fd, LawK.Df K mg "_has_form" LawK.sQHasForm ["thing"] 189 fd) (by
      refine' LawK.df_mk KX G (fun _ _ _ _ _ _ us hl => match us, hl with | [_], _ => rfl) ?kq11a ?kq11l ?kq11c
      (case kq11a => k_is); (case kq11l => k_is); (case kq11c => kernel_rfl)) ?_
    intro DQHasForm
    refine LawK.say KX (fun K => ∃ fd, LawK.Df K mg "row_leads" LawK.sPRowLeads ["row"] 194 fd) (by
      refine' LawK.df_mk KX G (fun _ _ _ _ _ _ us hl => match us, hl with | [_], _ => rfl) ?kq12a ?kq12l ?kq12c
      (case kq12a => k_is); (case kq12l => k_is); (case kq12c => kernel_rfl)) ?_
    intro DPRowLeads
    refine LawK.say KX (fun K => ∃ fd, LawK.Df K mg "_spelled" LawK.sQSpelled ["row"] 201 fd) (by
      refine' LawK.df_mk KX G (fun _ _ _ _ _ _ us hl => match us, hl with | [_], _ => rfl) ?kq13a ?kq13l ?kq13c
      (case kq13a => k_is); (case kq13l => k_is); (case kq13c => kernel_rfl)) ?_
    intro DQSpelled
    refine LawK.say KX (fun K => ∃ fd, LawK.Df K mg "_texts_of" LawK.sQTextsOf ["thing"] 206 fd) (by
      refine' LawK.df_mk KX G (fun _ _ _ _ _ _ us hl => match us, hl with | [_], _ => rfl) ?kq14a ?kq14l ?kq14c
      (case kq14a => k_is); (case kq14l => k_is); (case kq14c => kernel_rfl)) ?_
    intro DQTextsOf
    refine LawK.say KX (fun K => ∃ fd, LawK.Df K mg "is_row" LawK.sPIsRow ["thing"] 213 fd) (by
      refine' LawK.df_mk KX G (fun _ _ _ _ _ _ us hl => match us, hl with | [_], _ => rfl) ?kq15a ?kq15l ?kq15c
      (case kq15a => k_is); (case kq15l => k_is); (case kq15c => kernel_rfl)) ?_
    intro DPIsRow
    refine LawK.say KX (fun K => ∃ fd, LawK.Df K mg "told_back" LawK.sPToldBack ["row"] 220 fd) (by
      refine' LawK.df_mk KX G (fun _ _ _ _ _ _ us hl => match us, hl with | [_], _ => rfl) ?kq16a ?kq16l ?kq16c
      (case kq16a => k_is); (case kq16l => k_is); (case kq16c => kernel_rfl)) ?_
    intro DPToldBack
    refine LawK.say KX (fun K => ∃ fd, LawK.Df K mg "leads" LawK.sPLeads ["row"] 227 fd) (by
      refine' LawK.df_mk KX G (fun _ _ _ _ _ _ us hl => match us, hl with | [_], _ => rfl) ?kq17a ?kq17l ?kq17c
      (case kq17a => k_is); (case kq17l => k_is); (case kq17c => kernel_rfl)) ?_
    intro DPLeads
    refine LawK.say KX (fun K => ∃ fd, LawK.Df K mg "_many_ahead" LawK.sQMany ["row", "sign", "number"] 234 fd) (by
      refine' LawK.df_mk KX G (fun _ _ _ _ _ _ us hl => match us, hl with | [_, _, _], _ => rfl) ?kq18a ?kq18l ?kq18c
      (case kq18a => k_is); (case kq18l => k_is); (case kq18c => kernel_rfl)) ?_
    intro DQMany
    refine LawK.say KX (fun K => ∃ fd, LawK.Df K mg "many_ahead" LawK.sPMany ["row", "sign", "number"] 241 fd) (by
      refine' LawK.df_mk KX G (fun _ _ _ _ _ _ us hl => match us, hl with | [_, _, _], _ => rfl) ?kq19a ?kq19l ?kq19c
      (case kq19a => k_is); (case kq19l => k_is); (case kq19c => kernel_rfl)) ?_
    intro DPMany
    refine LawK.say KX (fun K => ∃ fd, LawK.Df K mg "_less_than" LawK.sQLess ["row", "sign"] 246 fd) (by
      refine' LawK.df_mk KX G (fun _ _ _ _ _ _ us hl => match us, hl with | [_, _], _ => rfl) ?kq20a ?kq20l ?kq20c
      (case kq20a => k_is); (case kq20l => k_is); (case kq20c => kernel_rfl)) ?_
    intro DQLess
    refine LawK.say KX (fun K => ∃ fd, LawK.Df K mg "less_than" LawK.sPLess ["row", "sign"] 253 fd) (by
      refine' LawK.df_mk KX G (fun _ _ _ _ _ _ us hl => match us, hl with | [_, _], _ => rfl) ?kq21a ?kq21l ?kq21c
      (case kq21a => k_is); (case kq21l => k_is); (case kq21c => kernel_rfl)) ?_
    intro DPLess
    refine LawK.say KX (fun K => ∃ fd, LawK.Df K mg "found_behind" LawK.sPFound ["row", "word"] 260 fd) (by
      refine' LawK.df_mk KX G (fun _ _ _ _ _ _ us hl => match us, hl with | [_, _], _ => rfl) ?kq22a ?kq22l ?kq22c
      (case kq22a => k_is); (case kq22l => k_is); (case kq22c => kernel_rfl)) ?_
    intro DPFound
    refine LawK.say KX (fun K => ∃ fd, LawK.Df K mg "_law_hand" LawK.sHand ["script"] 265 fd) (by
      refine' LawK.df_mk KX G (fun _ _ _ _ _ _ us hl => match us, hl with | [_], _ => rfl) ?kq23a ?kq23l ?kq23c
      (case kq23a => k_is); (case kq23l => k_is); (case kq23c => kernel_rfl)) ?_
    intro DHand
    refine LawK.say KX (fun K => ∃ fd, LawK.Df K mg "_law_order" LawK.sOrder ["texts"] 270 fd) (by
      refine' LawK.df_mk KX G (fun _ _ _ _ _ _ us hl => match us, hl with | [_], _ => rfl) ?kq24a ?kq24l ?kq24c
      (case kq24a => k_is); (case kq24l => k_is); (case kq24c => kernel_rfl)) ?_
    intro DOrder
    refine LawK.say KX (fun K => ∃ fd, LawK.Df K mg "_law_row" LawK.sRow ["texts"] 275 fd) (by
      refine' LawK.df_mk KX G (fun _ _ _ _ _ _ us hl => match us, hl with | [_], _ => rfl) ?kq25a ?kq25l ?kq25c
      (case kq25a => k_is); (case kq25l => k_is); (case kq25c => kernel_rfl)) ?_
    intro DRow
    refine LawK.say KX (fun K => ∃ fd, LawK.Df K mg "_law_draw" LawK.sDraw ["hand", "many"] 282 fd) (by
      refine' LawK.df_mk KX G (fun _ _ _ _ _ _ us hl => match us, hl with | [_, _], _ => rfl) ?kq26a ?kq26l ?kq26c
      (case kq26a => k_is); (case kq26l => k_is); (case kq26c => kernel_rfl)) ?_
    intro DDraw
    refine LawK.say KX (fun K => ∃ fd, LawK.Df K mg "_law_text" LawK.sText ["hand", "most"] 289 fd) (by
      refine' LawK.df_mk KX G (fun _ _ _ _ _ _ us hl => match us, hl with | [_, _], _ => rfl) ?kq27a ?kq27l ?kq27c
      (case kq27a => k_is); (case kq27l => k_is); (case kq27c => kernel_rfl)) ?_
    intro DText
    refine LawK.say KX (fun K => ∃ fd, LawK.Df K mg "_law_texts" LawK.sTexts ["hand", "most"] 296 fd) (by
      refine' LawK.df_mk KX G (fun _ _ _ _ _ _ us hl => match us, hl with | [_, _], _ => rfl) ?kq28a ?kq28l ?kq28c
      (case kq28a => k_is); (case kq28l => k_is); (case kq28c => kernel_rfl)) ?_
    intro DTexts
    refine LawK.say KX (fun K => ∃ fd, LawK.Df K mg "_law_deep" LawK.sDeep ["hand"] 303 fd) (by
      refine' LawK.df_mk KX G (fun _ _ _ _ _ _ us hl => match us, hl with | [_], _ => rfl) ?kq29a ?kq29l ?kq29c
      (case kq29a => k_is); (case kq29l => k_is); (case kq29c => kernel_rfl)) ?_
    intro DDeep
    refine LawK.say KX (fun K => ∃ fd, LawK.Df K mg "_law_read_row" LawK.sReadRow ["row"] 308 fd) (by
      refine' LawK.df_mk KX G (fun _ _ _ _ _ _ us hl => match us, hl with | [_], _ => rfl) ?kq30a ?kq30l ?kq30c
      (case kq30a => k_is); (case kq30l => k_is); (case kq30c => kernel_rfl)) ?_
    intro DReadRow
    refine LawK.say KX (fun K => ∃ fd, LawK.Df K mg "_law_whole" LawK.sWhole ["thing", "least", "most"] 315 fd) (by
      refine' LawK.df_mk KX G (fun _ _ _ _ _ _ us hl => match us, hl with | [_, _, _], _ => rfl) ?kq31a ?kq31l ?kq31c
      (case kq31a => k_is); (case kq31l => k_is); (case kq31c => kernel_rfl)) ?_
    intro DWhole
    refine LawK.say KX (fun K => ∃ fd, LawK.Df K mg "_law_error" LawK.sError ["call"] 322 fd) (by
      refine' LawK.df_mk KX G (fun _ _ _ _ _ _ us hl => match us, hl with | [_], _ => rfl) ?kq32a ?kq32l ?kq32c
      (case kq32a => k_is); (case kq32l => k_is); (case kq32c => kernel_rfl)) ?_
    intro DError
    refine LawK.say KX (fun K => ∃ fd, LawK.Df K mg "_law_is_word" LawK.sIsWord ["thing"] 327 fd) (by
      refine' LawK.df_mk KX G (fun _ _ _ _ _ _ us hl => match us, hl with | [_], _ => rfl) ?kq33a ?kq33l ?kq33c
      (case kq33a => k_is); (case kq33l => k_is); (case kq33c => kernel_rfl)) ?_
    intro DIsWord
    refine LawK.say KX (fun K => ∃ fd, LawK.Df K mg "_law_first" LawK.sFirst ["pairs"] 332 fd) (by
      refine' LawK.df_mk KX G (fun _ _ _ _ _ _ us hl => match us, hl with | [_], _ => rfl) ?kq34a ?kq34l ?kq34c
      (case kq34a => k_is); (case kq34l => k_is); (case kq34c => kernel_rfl)) ?_
    intro DFirst
    refine LawK.say KX (fun K => ∃ fI fdI, LawK.LibC K mg 180 fI fdI) (by
      refine' LawK.lib_mk KX G ?kq35a ?kq35b ?kq35d ?kq35f ?kq35i
      (case kq35a => k_is); (case kq35b => k_is); (case kq35d => k_is); (case kq35f => kernel_rfl); (case kq35i => kernel_rfl)) ?_
    intro LL
    have GL : LawK.Glob mg := ⟨mg_none_of KX G (by k_is), mg_none_of KX G (by k_is), mg_none_of KX G (by k_is), mg_none_of KX G (by k_is), mg_none_of KX G (by k_is), mg_none_of KX G (by k_is), mg_none_of KX G (by k_is), mg_none_of KX G (by k_is), mg_none_of KX G (by k_is), mg_none_of KX G (by k_is), mg_none_of KX G (by k_is), mg_none_of KX G (by k_is), mg_none_of KX G (by k_is), mg_none_of KX G (by k_is), mg_none_of KX G (by k_is), mg_none_of KX G (by k_is), mg_none_of KX G (by k_is), mg_none_of KX G (by k_is), mg_none_of KX G (by k_is), mg_none_of KX G (by k_is)⟩
    refine' LawK.lawat_mk (P0 := 334) KX hT8 ?zn ?zc ?ze
    case ze =>
      refine' LawK.end_mk KX G hfa ?kq36a ?kq36l ?kq36c ?kq36b ?kq36d DPNumber DPSigns DPWord DPSign DQHasForm DPRowLeads DQSpelled DQTextsOf DPIsRow DPToldBack DPLeads DQMany DPMany DQLess DPLess DPFound DHand DOrder DRow DDraw DText DTexts DDeep DReadRow DWhole DError DIsWord DFirst ER ES EW EN CB ?kq36p (mg_none_of KX G (by k_is)) (by decide) (by decide) (by decide) (by decide) (by decide) (by decide) LL GL
      (case kq36a => k_is); (case kq36l => k_is); (case kq36c => kernel_rfl); (case kq36b => k_is); (case kq36d => k_is); (case kq36p => k_is)
    case zn => kernel_rfl
    case zc => kernel_rfl
