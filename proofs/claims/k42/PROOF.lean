import PyProof.Rows.All
import Wide.All
import OpenK.AllK
import Wide.FinOn
import HandS.ForMost
import HandS.ForExc
import PyProof.ReprRoads
import PyProof.ReprLen
import HandS.Dict
import HandS.ExcInit
import PyProof.StrBlock2
import HandS.IsInst
import HandS.Codes
import HandS.StrMore
import HandS.TupMul
import HandS.Style
import HandS.TupAny
import HandS.Zip
import PyProof.Rows.StrRev
import HandS.SetKeys
import PyProof.DictMoreH
import HandS.Iter
import HandS.Walk
import HandS.DictTup
import HandS.Rev
import HandS.Base
import HandS.Call
import HandS.List
import HandS.Comp
import HandS.Set
import HandS.SetBool
import HandS.SortOrd
import HandS.SortInts
import PyProof.Rows.SortStr
import KE.SortData
import KE.DataCmp
import HandS.SetFor
import HandS.OwnEq
import HandS.ExcValue
import KE.KExcSuper
import KE.KExcMake
import HandS.ExcIs
import KE.KExcIs
import HandS.ExcField
import HandS.TryMany
import HandS.TryOnly
import HandS.Deep
import PySem.Challenge.RW_everypiece_k42_whole_runs_periods_and_bo
set_option Elab.async false
set_option linter.all false
set_option maxRecDepth 100000
set_option maxHeartbeats 4000000
/-! repr of nested data that the law has made. -/
namespace Ev
open PySem PySem.Spec PyProof.Rows L2

/-- a display of a list; its place is not the table of modules -/
def tLstN (t : TA) : TE := fun σ H Q => t σ H fun xs H1 => xs.length ≤ sizeLine ∧ ∀ p, H1 p = none → p ≠ sysModules → Q (.ref p) (upd H1 p (.lst xs))
theorem pe_lstN {X : Cx} {es : List Expr} {pos : Pos} {t : TA} (h : PA X es t) : PE X (.List es pos) (tLstN t) := by
  refine ⟨fun pins s σ H Q I hq => ?_⟩
  refine wpAny_List_spliced (thn (h.run pos pins s σ H _ I hq) fun us s1 hh => ?_)
  obtain ⟨xs, H1, I1, r, z, q⟩ := hh
  have hf : H1 s1.heap.objs.size = none := I1.hok.fresh (Nat.le_refl _)
  refine ⟨by rw [← r.length]; exact z, .ref s1.heap.objs.size, upd H1 s1.heap.objs.size (.lst xs), I1.laid (t' := s1.toks) (o := .lst xs) (fun b u e => Heap.get?_push_of_some _ e) (Nat.le_refl _) ⟨z, us, 0, r, Heap.get?_push_size _ rfl⟩, rfl, q _ hf (Ne.symm (Nat.ne_of_lt I1.big))⟩

/-- the datum d is told by v -/
inductive Dt (H : Hp) : V → PyData → Prop
  | non : Dt H .non .none
  | bl (b : Bool) : Dt H (.bl b) (.bool b)
  | int (i : Int) : Dt H (.int i) (.int i)
  | str (x : Str) : Dt H (.str x) (.str x)
  | dic {a : Addr} : H a = some (.dK []) → Dt H (.ref a) (.dict [])
  | l0 {a : Addr} : H a = some (.lst []) → a ≠ sysModules → Dt H (.ref a) (.list [])
  | l1 {a : Addr} {x : V} {d : PyData} : H a = some (.lst [x]) → a ≠ sysModules → Dt H x d → Dt H (.ref a) (.list [d])
  | l2 {a : Addr} {x y : V} {d e : PyData} : H a = some (.lst [x, y]) → a ≠ sysModules → Dt H x d → Dt H y e → Dt H (.ref a) (.list [d, e])
  | t0 {a : Addr} : H a = some (.tup []) → Dt H (.ref a) (.tuple [])
  | t1 {a : Addr} {x : V} {d : PyData} : H a = some (.tup [x]) → Dt H x d → Dt H (.ref a) (.tuple [d])
  | t2 {a : Addr} {x y : V} {d e : PyData} : H a = some (.tup [x, y]) → Dt H x d → Dt H y e → Dt H (.ref a) (.tuple [d, e])
theorem Dt.keep {H H' : Hp} {v : V} {d : PyData} (h : Dt H v d) (k : ∀ b o, H b = some o → H' b = some o) : Dt H' v d := by
  induction h with
  | non => exact .non
  | bl b => exact .bl b
  | int i => exact .int i
  | str x => exact .str x
  | dic e => exact .dic (k _ _ e)
  | l0 e n => exact .l0 (k _ _ e) n
  | l1 e n _ ih => exact .l1 (k _ _ e) n ih
  | l2 e n _ _ i1 i2 => exact .l2 (k _ _ e) n i1 i2
  | t0 e => exact .t0 (k _ _ e)
  | t1 e _ ih => exact .t1 (k _ _ e) ih
  | t2 e _ _ i1 i2 => exact .t2 (k _ _ e) i1 i2
section
variable {X : Cx} {pins : List (Addr × Obj)} {σ : L2.St} {H : Hp} {s : Shared}
theorem lst_at (I : L2.Inv X pins σ H s) {a : Addr} {xs : List V} (h : H a = some (.lst xs)) : ∃ (its : List Value) (n : Nat), Vals xs its ∧ s.heap.get? a = some { cls := .type "list", data := .seq its.toArray n } := by
  obtain ⟨_, its, n, r, e⟩ := (show ObjOk X.prog X.w H s.heap a (.lst xs) from I.hok a _ h)
  exact ⟨its, n, r, e⟩
theorem tup_at (I : L2.Inv X pins σ H s) {a : Addr} {xs : List V} (h : H a = some (.tup xs)) : ∃ (its : List Value) (o : Obj) (n : Nat), Vals xs its ∧ s.heap.get? a = some o ∧ o.cls = .type "tuple" ∧ o.data = .seq its.toArray n := by
  obtain ⟨_, its, r, o, e, c, n, d⟩ := (show ObjOk X.prog X.w H s.heap a (.tup xs) from I.hok a _ h)
  exact ⟨its, o, n, r, e, c, d⟩
theorem Dt.reads (I : L2.Inv X pins σ H s) {v : V} {d : PyData} (h : Dt H v d) : ∀ {u : Value}, RelV v u → ∃ as, Reads s.heap u d as ∧ sysModules ∉ as := by
  induction h with
  | non => intro u r; cases r; exact ⟨_, .none, by simp⟩
  | bl b => intro u r; cases r; exact ⟨_, .bool b, by simp⟩
  | int i => intro u r; obtain ⟨t, rfl⟩ := r; exact ⟨_, .int i t, by simp⟩
  | str x => intro u r; obtain ⟨t, rfl⟩ := r; exact ⟨_, .str x t, by simp⟩
  | @dic a e =>
    intro u r
    cases r
    obtain ⟨_, hs, vs, kv, o, es, ep, ho, hx, hd, hk, hp, _⟩ := (show ObjOk X.prog X.w H s.heap a (.dK []) from I.hok a _ e)
    cases kv
    have he : es.toList = [] := by
      generalize es.toList = l at hp
      cases hp
      rfl
    refine ⟨a :: [] ++ [], .dict (as := []) (bs := []) ho hx.1 hd ?_ ?_, ?_⟩
    · rw [he]; exact .nil
    · rw [he]; exact .nil
    · have : a ≠ sysModules := by simpa using hs
      simp [Ne.symm this]
  | @l0 a e n =>
    intro u r
    cases r
    obtain ⟨its, m, rv, ho⟩ := lst_at I e
    cases rv
    exact ⟨_, .list ho rfl rfl .nil, by simp [Ne.symm n]⟩
  | @l1 a x d e n hx ih =>
    intro u r
    cases r
    obtain ⟨its, m, rv, ho⟩ := lst_at I e
    cases rv with
    | cons r1 rr =>
      cases rr
      obtain ⟨as, q, nq⟩ := ih r1
      exact ⟨_, .list ho rfl rfl (.cons q .nil), by simp [Ne.symm n, nq]⟩
  | @l2 a x y d e2 e n hx hy ih1 ih2 =>
    intro u r
    cases r
    obtain ⟨its, m, rv, ho⟩ := lst_at I e
    cases rv with
    | cons r1 rr =>
      cases rr with
      | cons r2 rr =>
        cases rr
        obtain ⟨as, q, nq⟩ := ih1 r1
        obtain ⟨bs, q2, nq2⟩ := ih2 r2
        exact ⟨_, .list ho rfl rfl (.cons q (.cons q2 .nil)), by simp [Ne.symm n, nq, nq2]⟩
  | @t0 a e =>
    intro u r
    cases r
    obtain ⟨its, o, m, rv, ho, hc, hd⟩ := tup_at I e
    cases rv
    exact ⟨_, .tuple ho hc hd .nil, by simp⟩
  | @t1 a x d e hx ih =>
    intro u r
    cases r
    obtain ⟨its, o, m, rv, ho, hc, hd⟩ := tup_at I e
    cases rv with
    | cons r1 rr =>
      cases rr
      obtain ⟨as, q, nq⟩ := ih r1
      exact ⟨_, .tuple ho hc hd (.cons q .nil), by simp [nq]⟩
  | @t2 a x y d e2 e hx hy ih1 ih2 =>
    intro u r
    cases r
    obtain ⟨its, o, m, rv, ho, hc, hd⟩ := tup_at I e
    cases rv with
    | cons r1 rr =>
      cases rr with
      | cons r2 rr =>
        cases rr
        obtain ⟨as, q, nq⟩ := ih1 r1
        obtain ⟨bs, q2, nq2⟩ := ih2 r2
        exact ⟨_, .tuple ho hc hd (.cons q (.cons q2 .nil)), by simp [nq, nq2]⟩
end
/-- repr(x), x a datum of small depth and size -/
def rRepr : List V → Hp → VK → Prop := fun xs H Q => ∃ (x : V) (d : PyData), xs = [x] ∧ Dt H x d ∧ d.showable = true ∧ d.depth ≤ 100 ∧ d.shown.length ≤ 100000 ∧ Q (.str d.shown) H
theorem call_repr {X : Cx} {k : Nat} (hg : X.A.guards = some []) (hr : Room k X.A) : CallR X (.builtin "repr") rRepr := by
  intro pins s σ H xs us Q I r h
  obtain ⟨x, d, rfl, hd, hs, hdp, hz, q⟩ := h
  obtain ⟨u, rfl, ru⟩ := vals1 r
  have hz' : d.shown.length ≤ sizeLine := Nat.le_trans hz (by decide)
  obtain ⟨as, rd, ns⟩ := hd.reads I ru
  have hu : X.A.units + (d.depth + 1) < cLine := by have := hr.un; omega
  have viaRef : ∀ a, u = .ref a → wpAny (model X.prog X.w) X.A (call (.builtin "repr") [u]) (EP X pins σ Q) X.xe s := fun a e => by
    subst e
    exact repr_of_reads' rd hs (fun _ => ns) hg hu (fun _ _ e => e) (fun h' u tk k => ⟨.str d.shown, H, I.kept k, ⟨_, rfl⟩, q⟩) hz'
  cases hd with
  | non => cases ru; exact PySem.P.repr_of_none ⟨.str _, H, I.tok _, ⟨_, rfl⟩, by simpa only [PyData.shown] using q⟩
  | bl b => cases ru; exact PySem.P.repr_of_bool ⟨.str _, H, I.tok _, ⟨_, rfl⟩, by simpa only [PyData.shown] using q⟩
  | int i => obtain ⟨t, rfl⟩ := ru; exact PySem.P.repr_of_int (by simpa [PyData.showable] using hs) ⟨.str _, H, I.tok _, ⟨_, rfl⟩, by simpa only [PyData.shown] using q⟩
  | str x => obtain ⟨t, rfl⟩ := ru; exact PySem.P.repr_of_str ⟨.str _, H, I.tok _, ⟨_, rfl⟩, by simpa only [PyData.shown] using q⟩ (by simpa only [PyData.shown] using hz')
  | dic e => exact viaRef _ ru
  | l0 e n => exact viaRef _ ru
  | l1 e n h1 => exact viaRef _ ru
  | l2 e n h1 h2 => exact viaRef _ ru
  | t0 e => exact viaRef _ ru
  | t1 e h1 => exact viaRef _ ru
  | t2 e h1 h2 => exact viaRef _ ru
/-- what is told of a datum: it may be shown, so deep, so long -/
def Small (d : PyData) (n m : Nat) : Prop := d.showable = true ∧ d.depth ≤ n ∧ d.shown.length ≤ m
theorem int_len {k : Int} (hk : 0 ≤ k ∧ k < 100) : (PyData.shown (.int k)).length ≤ 3 := by
  have e : (toString k).length ≤ 2 + 1 := int_text_length_le10 (by decide) (by omega)
  simp only [PyData.shown]
  rw [PySem.ofString_length]
  exact e
theorem int_show {k : Int} (hk : 0 ≤ k ∧ k < 100) : k.natAbs.log2 < 1920 := by
  have := Nat.log2_le_self k.natAbs
  omega
theorem small_tup {d : PyData} {n m : Nat} {k : Int} (h : Small d n m) (hk : 0 ≤ k ∧ k < 100) : Small (.tuple [d, .int k]) (n + 1) (m + 10) := by
  obtain ⟨h1, h2, h3⟩ := h
  refine ⟨by simp [PyData.showable, PyData.showableAll, h1, int_show hk], by simp only [PyData.depth, PyData.depthAll]; omega, ?_⟩
  have e := tupleText_len_le (PyData.shownAll [d, .int k])
  have e2 := int_len hk
  simp only [PyData.shownAll, List.map_cons, List.map_nil, List.sum_cons, List.sum_nil, List.length_cons, List.length_nil] at e
  show (tupleText (PyData.shownAll [d, .int k])).length ≤ m + 10
  simp only [PyData.shownAll]
  omega
theorem small_lst {d : PyData} {n m : Nat} {k : Int} (h : Small d n m) (hk : 0 ≤ k ∧ k < 100) : Small (.list [.int k, d]) (n + 1) (m + 10) := by
  obtain ⟨h1, h2, h3⟩ := h
  refine ⟨by simp [PyData.showable, PyData.showableAll, h1, int_show hk], by simp only [PyData.depth, PyData.depthAll]; omega, ?_⟩
  have e := listText_len_le (PyData.shownAll [.int k, d])
  have e2 := int_len hk
  simp only [PyData.shownAll, List.map_cons, List.map_nil, List.sum_cons, List.sum_nil, List.length_cons, List.length_nil] at e
  show (listText (PyData.shownAll [.int k, d])).length ≤ m + 10
  simp only [PyData.shownAll]
  omega
theorem Small.mono {d : PyData} {n m n' m' : Nat} (h : Small d n m) (h1 : n ≤ n') (h2 : m ≤ m') : Small d n' m' := ⟨h.1, Nat.le_trans h.2.1 h1, Nat.le_trans h.2.2 h2⟩
end Ev
set_option maxHeartbeats 4000000
namespace LawK
open PySem PySem.Spec PyProof.Rows L2 Ev

def topS (i : Nat) : Stmt := PySem.Challenge.pw_everypiece_k42_whole_runs_periods_and_bo.main.body.getD i (.Pass ⟨0, 0, 0, 0⟩)
abbrev sHand : Stmt := topS 20
theorem scHand : FnScope ["script", "cells", "cell"] ["script"] (defScope sHand) := ⟨rfl, rfl, rfl, by decide +kernel, rfl, by decide +kernel, by decide +kernel⟩
abbrev sDraw : Stmt := topS 21
theorem scDraw : FnScope ["hand", "many", "cell", "digit", "number"] ["hand", "many"] (defScope sDraw) := ⟨rfl, rfl, rfl, by decide +kernel, rfl, by decide +kernel, by decide +kernel⟩
/-! ### the hand of a law: what is left of the script, and a seed -/
def HandL (H : Hp) (p l : Addr) : Prop := ∃ (cells : List Int) (i r s n : Int), H p = some (.lst [.ref l, .int i, .int r, .int s, .int n]) ∧ H l = some (.lst (cells.map V.int)) ∧ l ≠ p ∧ 0 ≤ i ∧ 0 ≤ s ∧ s < 2147483647
/-- nothing but the hand at p has changed -/
def But (p : Addr) (H H' : Hp) : Prop := ∀ b o, b ≠ p → H b = some o → H' b = some o
theorem But.refl (p : Addr) (H : Hp) : But p H H := fun _ _ _ h => h
theorem But.trans {p : Addr} {H H1 H2 : Hp} (a : But p H H1) (b : But p H1 H2) : But p H H2 := fun c o n h => b c o n (a c o n h)
theorem But.new {p q : Addr} {H H1 : Hp} {o : HO} (a : But p H H1) (h : H1 q = none) : But p H (upd H1 q o) := fun c u n e => by
  have z := a c u n e
  rw [upd_ne (ne_of_none z h)]
  exact z
theorem But.same {p : Addr} {H H' : Hp} (a : Same H H') : But p H H' := fun c o _ e => a c o e
def spDraw : Sp := fun vs H Q _ => ∃ (p : Addr) (m : Int), vs = [.ref p, .int m] ∧ 0 < m ∧ m < 1000000 ∧ ∃ l, HandL H p l ∧ ∀ v H', 0 ≤ v → v < m → HandL H' p l → But p H H' → Q (.int v) H'
def spHand (K : PySem.W.Frag) : Sp := fun vs H Q _ => ∃ (a : Addr) (ns : List Int), vs = [.ref a] ∧ SqL K H a (ns.map V.int) ∧ ∀ p l H', H p = none → H l = none → HandL H' p l → Same H H' → Q (.ref p) H'
structure Glob (mg : Str → Option Value) : Prop where
  abs : mg "abs" = none
  any : mg "any" = none
  repr : mg "repr" = none
  reversed : mg "reversed" = none
  len : mg "len" = none
  int : mg "int" = none
  list : mg "list" = none
  range : mg "range" = none
  isinstance : mg "isinstance" = none
  bool : mg "bool" = none
  str : mg "str" = none
  tuple : mg "tuple" = none
  sum : mg "sum" = none
  ord : mg "ord" = none
  zip : mg "zip" = none
  max : mg "max" = none
  min : mg "min" = none
  all : mg "all" = none
  enumerate : mg "enumerate" = none
  sorted : mg "sorted" = none

theorem sq_of {K : PySem.W.Frag} {H : Hp} {a : Addr} {xs : List V} (h : H a = some (.lst xs)) : SqL K H a xs := .inl (.inl h)
theorem atI_in {α : Type} {xs : List α} {i : Int} (h0 : 0 ≤ i) (h1 : i < xs.length) : ∃ v, atI xs i = some v ∧ v ∈ xs := by
  obtain ⟨j, rfl⟩ := Int.eq_ofNat_of_zero_le h0
  have hj : j < xs.length := by omega
  exact ⟨xs[j], atI_nat (by rw [List.getElem?_eq_getElem hj]), List.getElem_mem hj⟩
theorem atI_int {xs : List Int} {i : Int} (h0 : 0 ≤ i) (h1 : i < xs.length) : ∃ c : Int, atI (xs.map V.int) i = some (.int c) := by
  obtain ⟨v, e, hm⟩ := atI_in (xs := xs.map V.int) h0 (by rw [List.length_map]; exact h1)
  obtain ⟨c, _, rfl⟩ := List.mem_map.mp hm
  exact ⟨c, e⟩
theorem Same.new {H : Hp} {q : Addr} {o : HO} (h : H q = none) : Same H (upd H q o) := fun b u e => by
  rw [upd_ne (ne_of_none e h)]
  exact e
theorem sameAt {H H' : Hp} {q : Addr} {o : HO} (k : Same H H') (h : H q = none) : Same H (upd H' q o) := fun b u e => by
  rw [upd_ne (ne_of_none e h)]
  exact k b u e
theorem Same.free {H H' : Hp} (k : Same H H') {a : Addr} (h : H' a = none) : H a = none := by
  cases e : H a with
  | none => rfl
  | some o =>
    rw [k _ _ e] at h
    cases h
theorem cells_cut {ns : List Int} {h : Option Int} : ∃ ms : List Int, cutV (ns.map V.int) none h = ms.map V.int ∧ ms.length ≤ ns.length := by
  refine ⟨(ns.drop (HT.sIx (ns.map V.int).length 0 none)).take (HT.sIx (ns.map V.int).length (ns.map V.int).length h - HT.sIx (ns.map V.int).length 0 none), ?_, ?_⟩
  · show ((ns.map V.int).drop _).take _ = _
    rw [← List.map_drop, ← List.map_take]
  · rw [List.length_take, List.length_drop]
    omega
theorem PSs.imp {X : Cx} {st : List Stmt} {t u : TS} (h : PSs X st u) (k : ∀ D σ H, t D σ H → u D σ H) : PSs X st t := ⟨fun pins s σ H D I q => h.run pins s σ H D I (k D σ H q)⟩
theorem PE.imp {X : Cx} {e : Expr} {t u : TE} (h : PE X e u) (k : ∀ σ H Q, t σ H Q → u σ H Q) : PE X e t := ⟨fun pins s σ H Q I q => h.run pins s σ H Q I (k σ H Q q)⟩
theorem PS.imp {X : Cx} {st : Stmt} {t u : TS} (h : PS X st u) (k : ∀ D σ H, t D σ H → u D σ H) : PS X st t := ⟨fun pins s σ H D I q => h.run pins s σ H D I (k D σ H q)⟩
def tTail : TS := fun D σ H => ∃ (p : Addr) (m : Int) (l : Addr) (cells : List Int) (i r s n : Int) (c f x : Option V), σ = [some (.ref p), some (.int m), c, f, x] ∧ 0 < m ∧ m < 1000000 ∧ H p = some (.lst [.ref l, .int i, .int r, .int s, .int n]) ∧ H l = some (.lst (cells.map V.int)) ∧ l ≠ p ∧ 0 ≤ i ∧ 0 ≤ s ∧ s < 2147483647 ∧
  ∀ v H', 0 ≤ v → v < m → HandL H' p l → But p H H' → D.rt (.int v) H'
theorem HandL.mk {H : Hp} {p l : Addr} {cells : List Int} {i r s n : Int} (hp : H p = some (.lst [.ref l, .int i, .int r, .int s, .int n])) (hl : H l = some (.lst (cells.map V.int))) (n0 : l ≠ p) (h1 : 0 ≤ i) (h2 : 0 ≤ s) (h3 : s < 2147483647) : HandL H p l := ⟨cells, i, r, s, n, hp, hl, n0, h1, h2, h3⟩
theorem but_upd {p : Addr} {H : Hp} {o : HO} : But p H (upd H p o) := fun b u n e => by
  rw [upd_ne n]
  exact e
theorem boot_ty_int : bootBuiltins "int" = some (.type "int") := by decide +kernel
section
variable {P : Program} {w : World} {K : PySem.W.Frag} {mg : Str → Option Value} {base : Heap}

theorem ok_Hand {f : Addr} {fd : FuncData} (F : Fun K "_law_hand" "_law_hand" sHand f fd) (T : Glob mg) : FnOk P w K mg base CX0 1 f fd ["script"] (spHand K) := by
  refine F.ok scHand (fun vs H Q E h => ?_) (fun cdv A outer s H vs Q E hr h => ?_)
  · obtain ⟨a, ns, rfl, _⟩ := h
    rfl
  · obtain ⟨a, ns, rfl, hS, q⟩ := h
    refine ⟨_, (pss_cons (ps_setLc (i := 1) (own := [("cell", 2)]) (g := gName 2) (by rfl) scHand.nd rfl rfl (sw_true rfl rfl rfl (by decide +kernel)) (pi_list (pe_slice sl_list (pv 0) po_none (po_some pe_int))) (blkOk_by (N := ["script", "cells", "cell"]) (sc := defScope sHand) (by decide +kernel)) (fun _ _ _ _ _ => pg_name (i := 2) scHand.nd rfl (.inl rfl)) (fun _ _ _ _ _ => pts_nil) (fun _ _ _ _ _ => (pe_callB call_abs (by rfl) T.abs (by decide +kernel) (pa_cons (pe_callTy call_int1 (by rfl) T.int boot_ty_int (pa_cons (pv 2) pa_nil)) pa_nil))))
      (pss_one (ps_ret (pe_lst (pa_cons (pv 1) (pa_cons pe_int (pa_cons pe_int (pa_cons (pe_op op_add pe_int (pe_callB call_len_seq (by rfl) T.len PySem.boot_len (pa_cons (pv 1) pa_nil))) (pa_cons pe_int pa_nil))))))))), ?_⟩
    obtain ⟨ms, ec, lm⟩ := cells_cut (ns := ns) (h := some 63)
    have lc : (cutV (ns.map V.int) none (some (63 : Int))).length ≤ 63 := by
      show (((ns.map V.int).drop _).take _).length ≤ 63
      rw [List.length_take]
      have : HT.sIx (ns.map V.int).length (ns.map V.int).length (some (63 : Int)) ≤ 63 := Nat.min_le_left _ _
      omega
    refine ⟨.ref a, rfl, 63, rfl, a, _, rfl, hS, fun c nc => ?_⟩
    rw [ec]
    rw [ec, List.length_map] at lc
    have kc := Same.new (o := .lst (ms.map V.int)) nc
    have hc : upd H c (.lst (ms.map V.int)) c = some (.lst (ms.map V.int)) := upd_same
    revert kc hc
    generalize upd H c (.lst (ms.map V.int)) = H1
    intro kc hc
    refine ⟨c, rfl, ⟨_, sq_of hc⟩, fun l nl => lc_list (xs := ms.map V.int) (fun i H' => Same H1 H' ∧ ∃ zs : List Int, H' l = some (.lst (zs.map V.int)) ∧ zs.length = i) ⟨Same.new nl, [], upd_same, rfl⟩ (fun i H' _ w => sq_of (w.1 _ _ hc)) ?_ ?_⟩
    · rintro i x H2 hx ⟨k2, zs, hl, lz⟩
      rw [List.getElem?_map] at hx
      obtain ⟨y, hy, rfl⟩ := Option.map_eq_some_iff.mp hx
      have li := (List.getElem?_eq_some_iff.mp hy).1
      refine ⟨rfl, .int y, rfl, .inl ⟨y, rfl, y, rfl, _, hl, ?_, sameAt k2 nl, zs ++ [if y < 0 then -y else y], ?_, by rw [List.length_append, lz]; rfl⟩⟩
      · rw [List.length_map, lz, sizeLine_eq]
        omega
      · rw [upd_same, List.map_append]
        rfl
    · rintro H2 ⟨k2, zs, hl, lz⟩
      rw [List.length_map] at lz
      refine ⟨.ref l, rfl, .ref l, rfl, l, _, rfl, .inl (sq_of hl), _, _, rfl, rfl, by show 5 ≤ sizeLine; decide, fun p hp => ?_⟩
      have nlp : l ≠ p := fun e => by
        rw [e] at hl
        rw [hl] at hp
        cases hp
      have kH2 : Same H H2 := kc.trans k2
      have ncl : H l = none := Same.free kc nl
      refine q p l _ (Same.free kH2 hp) ncl ⟨zs, 0, 0, 1 + (((zs.map V.int).length : Nat) : Int), 0, upd_same, by rw [upd_ne nlp]; exact hl, nlp, by decide, by omega, ?_⟩ (sameAt kH2 (Same.free kH2 hp))
      rw [List.length_map]
      omega
theorem ok_Draw {f : Addr} {fd : FuncData} (F : Fun K "_law_draw" "_law_draw" sDraw f fd) (T : Glob mg) : FnOk P w K mg base CX0 1 f fd ["hand", "many"] spDraw := by
  refine F.ok scDraw (fun vs H Q E h => ?_) (fun cdv A outer s H vs Q E hr h => ?_)
  · obtain ⟨p, m, rfl, _⟩ := h
    rfl
  · obtain ⟨p, m, rfl, m0, m1, l, ⟨cells, i, r, s0, n, hp, hl, npl, hi, hs0, hs1⟩, q⟩ := h
    refine ⟨_, (pss_cons (ps_if (PW.pt (pw_and (pt_cmpR op_eq (pe_ix ix_list (pv 0) pe_int (fun _ _ => rfl)) pe_int (nomark _)) (pw_and1 (pt_cmpR op_lt (pe_ix ix_list (pv 0) pe_int (fun _ _ => rfl)) (pe_callB call_len_seq (by rfl) T.len PySem.boot_len (pa_cons (pe_ix ix_list (pv 0) pe_int (fun _ _ => rfl)) pa_nil)) (nomark _)))))
      (pss_cons (ps_set (i := 2) scDraw.nd rfl (.inl rfl) (pe_ix ix_list (pe_ix ix_list (pv 0) pe_int (fun _ _ => rfl)) (pe_ix ix_list (pv 0) pe_int (fun _ _ => rfl)) (fun _ _ => rfl)))
        (pss_cons (ps_asg (pe_op op_add (pe_ix ix_list (pv 0) pe_int (fun _ _ => rfl)) pe_int) (pg_sub (pv 0) pe_int set_list))
        (pss_cons (ps_asg (pe_op op_mod (pe_callTy call_int1 (by rfl) T.int boot_ty_int (pa_cons (pe_op op_add (pe_op op_add (pe_op op_mul (pe_ix ix_list (pv 0) pe_int (fun _ _ => rfl)) pe_int) (pv 2)) pe_int) pa_nil)) pe_int) (pg_sub (pv 0) pe_int set_list))
        (pss_one (ps_if (pt_cmpR op_ge (pv 2) (pe_op op_pow pe_int pe_int) (nomark _))
        (pss_one (ps_asg (pv 2) (pg_sub (pv 0) pe_int set_list)))
        pss_nil)))))
      pss_nil)
      (PSs.imp (t := tTail) (pss_cons (ps_if (pt_cmpR op_gt (pe_ix ix_list (pv 0) pe_int (fun _ _ => rfl)) pe_int (nomark _))
      (pss_cons (ps_set (i := 3) scDraw.nd rfl (.inl rfl) (pe_op op_mod (pe_callTy call_int1 (by rfl) T.int boot_ty_int (pa_cons (pe_ix ix_list (pv 0) pe_int (fun _ _ => rfl)) pa_nil)) (pv 1)))
        (pss_cons (ps_asg (pe_op op_fdiv (pe_ix ix_list (pv 0) pe_int (fun _ _ => rfl)) (pv 1)) (pg_sub (pv 0) pe_int set_list))
        (pss_one (ps_ret (pv 3)))))
      pss_nil)
      (pss_cons (ps_asg (pe_op op_add (pe_ix ix_list (pv 0) pe_int (fun _ _ => rfl)) pe_int) (pg_sub (pv 0) pe_int set_list))
      (pss_cons (ps_set (i := 4) scDraw.nd rfl (.inl rfl) (pe_op op_mod (pe_callTy call_int1 (by rfl) T.int boot_ty_int (pa_cons (pe_op op_mul (pe_callTy call_int1 (by rfl) T.int boot_ty_int (pa_cons (pe_op op_add (pe_ix ix_list (pv 0) pe_int (fun _ _ => rfl)) (pe_op op_mul pe_int (pe_ix ix_list (pv 0) pe_int (fun _ _ => rfl)))) pa_nil)) pe_int) pa_nil)) pe_int))
      (pss_cons (ps_set (i := 4) scDraw.nd rfl (.inl rfl) (pe_op op_mod (pe_callTy call_int1 (by rfl) T.int boot_ty_int (pa_cons (pe_op op_mul (pv 4) (pe_op op_add (pe_op op_fdiv (pv 4) pe_int) pe_int)) pa_nil)) pe_int))
      (pss_cons (ps_set (i := 4) scDraw.nd rfl (.inl rfl) (pe_op op_mod (pe_callTy call_int1 (by rfl) T.int boot_ty_int (pa_cons (pe_op op_mul (pv 4) (pe_op op_add (pe_op op_fdiv (pv 4) pe_int) pe_int)) pa_nil)) pe_int))
      (pss_one (ps_ret (pe_op op_mod (pe_callTy call_int1 (by rfl) T.int boot_ty_int (pa_cons (pe_op op_fdiv (pv 4) pe_int) pa_nil)) (pv 1))))))))) ?tail)), ?_⟩
    case tail =>
      rintro D σ H ⟨p, m, l, cells, i, r, s, n, c, f, x, rfl, m0, m1, hp, hl, npl, hi, hs0, hs1, q⟩
      refine ⟨.ref p, rfl, p, _, 2, _, rfl, rfl, sq_of hp, rfl, _, _, rfl, rfl, _, rfl, ite2 (fun e => ?_) (fun e => ?_)⟩
      · refine ⟨.ref p, rfl, p, _, 2, _, rfl, rfl, sq_of hp, rfl, .inl ⟨r, rfl, .int m, rfl, _, _, rfl, rfl, m0, ?_⟩⟩
        refine ⟨.ref p, rfl, p, _, 2, _, rfl, rfl, sq_of hp, rfl, .int m, rfl, _, _, rfl, rfl, ⟨m0, by omega⟩, ?_⟩
        refine ⟨.ref p, rfl, p, _, 2, 2, rfl, rfl, hp, rfl, ?_⟩
        refine ⟨_, rfl, ?_⟩
        refine q _ _ (Int.emod_nonneg _ (by omega)) (Int.emod_lt_of_pos _ m0) (.mk upd_same (by rw [upd_ne npl]; exact hl) npl hi hs0 hs1) but_upd
      · dsimp only [tNext, tDrop]
        refine ⟨.ref p, rfl, p, _, 4, _, rfl, rfl, sq_of hp, rfl, _, _, rfl, rfl, .ref p, rfl, p, _, 4, 4, rfl, rfl, hp, rfl, ?_⟩
        dsimp only
        have hp2 : upd H p (.lst (List.set [.ref l, .int i, .int r, .int s, .int n] 4 (.int (n + 1)))) p = some (.lst [.ref l, .int i, .int r, .int s, .int (n + 1)]) := upd_same
        have hl2 : upd H p (.lst (List.set [.ref l, .int i, .int r, .int s, .int n] 4 (.int (n + 1)))) l = some (.lst (cells.map V.int)) := by rw [upd_ne npl]; exact hl
        have b2 : But p H (upd H p (.lst (List.set [.ref l, .int i, .int r, .int s, .int n] 4 (.int (n + 1))))) := but_upd
        generalize upd H p (.lst (List.set [.ref l, .int i, .int r, .int s, .int n] 4 (.int (n + 1)))) = H2 at hp2 hl2 b2 ⊢
        refine ⟨.ref p, rfl, p, _, 3, _, rfl, rfl, sq_of hp2, rfl, .ref p, rfl, p, _, 4, _, rfl, rfl, sq_of hp2, rfl, 7919, n + 1, rfl, rfl, .inl ⟨by decide, by decide⟩, _, _, rfl, rfl, .inl ⟨_, rfl, _, _, rfl, rfl, .inr ⟨by decide, by decide⟩, .inl ⟨_, rfl, _, _, rfl, rfl, (by show (0 : Int) < 2147483647; decide), ?_⟩⟩⟩
        dsimp only
        have a2 : 0 ≤ ((s + 7919 * (n + 1)) * 48271) % 2147483647 := Int.emod_nonneg _ (by decide)
        have a3 : ((s + 7919 * (n + 1)) * 48271) % 2147483647 < 2147483647 := Int.emod_lt_of_pos _ (by decide)
        generalize ((s + 7919 * (n + 1)) * 48271) % 2147483647 = y at a2 a3 ⊢
        refine ⟨.int y, rfl, .int y, rfl, _, _, rfl, rfl, ⟨by decide, by decide⟩, _, _, rfl, rfl, _, _, rfl, rfl, .inl ⟨by omega, by omega⟩, .inl ⟨_, rfl, _, _, rfl, rfl, (by show (0 : Int) < 2147483647; decide), ?_⟩⟩
        dsimp only
        have a4 : 0 ≤ (y * (y / 1009 + 69621)) % 2147483647 := Int.emod_nonneg _ (by decide)
        have a5 : (y * (y / 1009 + 69621)) % 2147483647 < 2147483647 := Int.emod_lt_of_pos _ (by decide)
        generalize (y * (y / 1009 + 69621)) % 2147483647 = z at a4 a5 ⊢
        refine ⟨.int z, rfl, .int z, rfl, _, _, rfl, rfl, ⟨by decide, by decide⟩, _, _, rfl, rfl, _, _, rfl, rfl, .inl ⟨by omega, by omega⟩, .inl ⟨_, rfl, _, _, rfl, rfl, (by show (0 : Int) < 2147483399; decide), ?_⟩⟩
        refine ⟨_, rfl, _, _, rfl, rfl, ⟨by decide, by decide⟩, .inl ⟨_, rfl, .int m, rfl, _, _, rfl, rfl, m0, ?_⟩⟩
        exact q _ _ (Int.emod_nonneg _ (by omega)) (Int.emod_lt_of_pos _ m0) (.mk hp2 hl2 npl hi hs0 hs1) b2
    have fin : ∀ {H2 : Hp} {i r s n : Int} {c : Option V}, H2 p = some (.lst [.ref l, .int i, .int r, .int s, .int n]) → H2 l = some (.lst (cells.map V.int)) → 0 ≤ i → 0 ≤ s → s < 2147483647 → But p H H2 →
        tTail { nx := fun _ H' => Q .non H', rt := Q } [some (.ref p), some (.int m), c, none, none] H2 := fun {H2 i r s n c} h1 h2 h3 h4 h5 h6 =>
      ⟨p, m, l, cells, i, r, s, n, c, none, none, rfl, m0, m1, h1, h2, npl, h3, h4, h5, fun v H' g1 g2 g3 g4 => q v H' g1 g2 g3 (h6.trans g4)⟩
    refine ⟨.ref p, rfl, p, _, 2, _, rfl, rfl, sq_of hp, rfl, rfl, _, rfl, ite2 (fun e => ?_) (fun e => ?_)⟩
    · refine ⟨.ref p, rfl, p, _, 1, _, rfl, rfl, sq_of hp, rfl, .ref p, rfl, p, _, 0, _, rfl, rfl, sq_of hp, rfl, l, _, rfl, .inl (sq_of hl), _, _, rfl, rfl, _, rfl, ite2 (fun e2 => ?_) (fun e2 => ?_)⟩
      · have hlt : i < (cells.length : Int) := by
          have z := of_decide_eq_true e2
          rw [List.length_map] at z
          exact z
        obtain ⟨c, hc⟩ := atI_int hi hlt
        refine ⟨.ref p, rfl, p, _, 0, _, rfl, rfl, sq_of hp, rfl, .ref p, rfl, p, _, 1, _, rfl, rfl, sq_of hp, rfl, l, _, i, _, rfl, rfl, sq_of hl, hc, ?_⟩
        refine ⟨.ref p, rfl, p, _, 1, _, rfl, rfl, sq_of hp, rfl, _, _, rfl, rfl, .ref p, rfl, p, _, 1, 1, rfl, rfl, hp, rfl, ?_⟩
        dsimp only
        have hp2 : upd H p (.lst (List.set [.ref l, .int i, .int r, .int s0, .int n] 1 (.int (i + 1)))) p = some (.lst [.ref l, .int (i + 1), .int r, .int s0, .int n]) := upd_same
        have hl2 : upd H p (.lst (List.set [.ref l, .int i, .int r, .int s0, .int n] 1 (.int (i + 1)))) l = some (.lst (cells.map V.int)) := by rw [upd_ne npl]; exact hl
        have b2 : But p H (upd H p (.lst (List.set [.ref l, .int i, .int r, .int s0, .int n] 1 (.int (i + 1))))) := but_upd
        generalize upd H p (.lst (List.set [.ref l, .int i, .int r, .int s0, .int n] 1 (.int (i + 1)))) = H2 at hp2 hl2 b2 ⊢
        refine ⟨.ref p, rfl, p, _, 3, _, rfl, rfl, sq_of hp2, rfl, s0, 69621, rfl, rfl, .inl ⟨by omega, by omega⟩, .int c, rfl, _, _, rfl, rfl, _, _, rfl, rfl, .inl ⟨_, rfl, _, _, rfl, rfl, (by show (0 : Int) < 2147483629; decide), .ref p, rfl, p, _, 3, 3, rfl, rfl, hp2, rfl, ?_⟩⟩
        dsimp only
        have a0 : 0 ≤ (s0 * 69621 + c + 11) % 2147483629 := Int.emod_nonneg _ (by decide)
        have a1 : (s0 * 69621 + c + 11) % 2147483629 < 2147483629 := Int.emod_lt_of_pos _ (by decide)
        generalize (s0 * 69621 + c + 11) % 2147483629 = s2 at a0 a1 ⊢
        have hp3 : upd H2 p (.lst (List.set [.ref l, .int (i + 1), .int r, .int s0, .int n] 3 (.int s2))) p = some (.lst [.ref l, .int (i + 1), .int r, .int s2, .int n]) := upd_same
        have hl3 : upd H2 p (.lst (List.set [.ref l, .int (i + 1), .int r, .int s0, .int n] 3 (.int s2))) l = some (.lst (cells.map V.int)) := by rw [upd_ne npl]; exact hl2
        have b3 : But p H (upd H2 p (.lst (List.set [.ref l, .int (i + 1), .int r, .int s0, .int n] 3 (.int s2)))) := b2.trans but_upd
        generalize upd H2 p (.lst (List.set [.ref l, .int (i + 1), .int r, .int s0, .int n] 3 (.int s2))) = H3 at hp3 hl3 b3 ⊢
        refine ⟨.int c, rfl, _, _, rfl, rfl, ⟨by decide, by decide, by decide⟩, _, _, rfl, rfl, _, rfl, ite2 (fun _ => ?_) (fun _ => ?_)⟩
        · refine ⟨.int c, rfl, .ref p, rfl, p, _, 2, 2, rfl, rfl, hp3, rfl, ?_⟩
          exact fin upd_same (by rw [upd_ne npl]; exact hl3) (by omega) a0 (by omega) (b3.trans but_upd)
        · dsimp only [tNext, tDrop]
          exact fin hp3 hl3 (by omega) a0 (by omega) b3
      · dsimp only [tNext, tDrop]
        exact fin hp hl hi hs0 hs1 (But.refl _ _)
    · dsimp only [tNext, tDrop]
      exact fin hp hl hi hs0 hs1 (But.refl _ _)
end
end LawK
set_option maxHeartbeats 4000000
/-! Texts: how long, so many times, which signs; kinds of values. -/
namespace Ev
open PySem PySem.Spec PyProof.Rows L2
def rLenZ : List V → Hp → VK → Prop := fun xs H Q => ∃ z : Str, xs = [.str z] ∧ z.length ≤ sizeLine ∧ Q (.int z.length) H
theorem call_lenZ {X : Cx} : CallR X (.builtin "len") rLenZ := fun pins s σ H xs us Q I r h =>
  call_len pins s σ H xs us Q I r (let ⟨z, e, hz, q⟩ := h; ⟨.str z, z.length, e, ⟨hz, rfl⟩, q⟩)
def rMulS : R2 := fun x y H Q => ∃ (z : Str) (n : Int), x = .str z ∧ y = .int n ∧ 0 ≤ n ∧ n ≤ 3000 ∧ z.length ≤ 1000 ∧ Q (.str (Txt.mul z n)) H
theorem mul_ok {z : Str} {n : Int} (h0 : 0 ≤ n) (h1 : n ≤ 3000) (h2 : z.length ≤ 1000) : MulOk z n := by
  refine ⟨by simp; omega, fun a _ => ?_, fun _ _ => ?_⟩
  · have e : (1000 : Int) ≤ (2 ^ 63 - 1) / n := by
      refine Int.le_ediv_of_mul_le (by omega) ?_
      have : (2 : Int) ^ 63 - 1 = 9223372036854775807 := by decide
      omega
    omega
  · have e : z.length * n.toNat ≤ 1000 * 3000 := Nat.mul_le_mul h2 (by omega)
    have h3 : sizeLine = 16777216 := sizeLine_eq
    show decide (z.length * n.toNat > sizeLine) = false
    exact decide_eq_false (by omega)
theorem op_mulS {X : Cx} : OpR X (binaryOp .Mult) rMulS := by
  intro pins s σ H x y v u Q I rx ry h
  obtain ⟨z, n, rfl, rfl, h0, h1, h2, q⟩ := h
  obtain ⟨t, rfl⟩ := rx
  obtain ⟨t', rfl⟩ := ry
  exact SB.mul (mul_ok h0 h1 h2) fun t' k => ⟨.str _, H, I.tok _, ⟨_, rfl⟩, q⟩
/-- every sign of the text is one from the blank to the tilde -/
def sgC (c : Nat) : Bool := decide (32 ≤ c) && decide (c ≤ 126)
def sgB (z : Str) : Bool := z.cps.toList.all sgC
theorem prn128 : ∀ c : Fin 128, Unicode.isPrintable c.val = sgC c.val := by decide +kernel
theorem sgC_of (c : Nat) : (decide (c < 128) && Unicode.isPrintable c) = sgC c := by
  by_cases h : c < 128
  · rw [decide_eq_true h, Bool.true_and]
    exact prn128 ⟨c, h⟩
  · rw [decide_eq_false h, Bool.false_and]
    unfold sgC
    rw [decide_eq_false (show ¬ c ≤ 126 by omega), Bool.and_false]
theorem sgB_of (z : Str) : (Txt.isascii z && Txt.isprintable z) = sgB z := by
  unfold Txt.isascii Txt.isprintable sgB
  rw [← Array.all_toList, ← Array.all_toList]
  generalize z.cps.toList = l
  induction l with
  | nil => rfl
  | cons c l ih =>
    rw [List.all_cons, List.all_cons, List.all_cons, ← sgC_of, ← ih]
    cases decide (c < 128) <;> cases Unicode.isPrintable c <;> cases l.all (fun c => decide (c < 128)) <;> rfl
/-! ### kinds -/
inductive Kn | non | bl | int | str | lst | tup | dic
  deriving DecidableEq
def Kn.name : Kn → String
  | .non => "NoneType"
  | .bl => "bool"
  | .int => "int"
  | .str => "str"
  | .lst => "list"
  | .tup => "tuple"
  | .dic => "dict"
def kitB : Kn → Kn → Bool
  | .bl, .int => true
  | a, b => decide (a = b)
inductive Kd (H : Hp) : V → Kn → Prop
  | non : Kd H .non .non
  | bl (b : Bool) : Kd H (.bl b) .bl
  | int (i : Int) : Kd H (.int i) .int
  | str (z : Str) : Kd H (.str z) .str
  | lst {a : Addr} {xs : List V} (e : H a = some (.lst xs)) : Kd H (.ref a) .lst
  | tup {a : Addr} {xs : List V} (e : H a = some (.tup xs)) : Kd H (.ref a) .tup
  | dic {a : Addr} {kvs : List (Key × V)} (e : H a = some (.dK kvs)) : Kd H (.ref a) .dic
theorem Kd.tyx {K : PySem.W.Frag} {H : Hp} {x : V} {k : Kn} (h : Kd H x k) : TyX K H x (.type k.name) := by
  cases h with
  | non => exact .base .non
  | bl b => exact .base (.bl b)
  | int i => exact .base (.int i)
  | str z => exact .base (.str z)
  | lst e => exact .base (.lst e)
  | tup e => exact .base (.tup e)
  | dic e => exact .base (.dK e)
theorem Kd.same {H H' : Hp} (s : ∀ b o, H b = some o → H' b = some o) {x : V} {k : Kn} (h : Kd H x k) : Kd H' x k := by
  cases h with
  | non => exact .non
  | bl b => exact .bl b
  | int i => exact .int i
  | str z => exact .str z
  | lst e => exact .lst (s _ _ e)
  | tup e => exact .tup (s _ _ e)
  | dic e => exact .dic (s _ _ e)
theorem kit_kn {K : PySem.W.Frag} : ∀ a b : Kn, PySem.W.kitOne K (.type a.name) (.type b.name) = some (kitB a b) := by
  intro a b
  cases a <;> cases b <;> exact kit_ty (by decide +kernel)
theorem rd_isi {K : PySem.W.Frag} {H : Hp} {x : V} {k : Kn} {Q : VK} (T : Kn) (h : Kd H x k) (q : Q (.bl (kitB k T)) H) : rIsi K [x, .ty T.name] H Q :=
  ⟨x, .ty T.name, .type k.name, .type T.name, kitB k T, rfl, .ty _, h.tyx, kit_kn k T, q⟩
/-- for c in s -/
theorem for_strZ {z : Str} {g : TG} {tb : TS} {D : Ends} {σ : L2.St} {H : Hp} (Pv : Nat → L2.St → Hp → Prop) (h0 : Pv 0 σ H)
    (hs : ∀ i c σ H, z.cps[i]? = some c → Pv i σ H → g (.str ⟨#[c]⟩) σ H fun σ2 H2 => tb { D with nx := Pv (i + 1), ct := Pv (i + 1), bk := D.nx } σ2 H2) (hd : ∀ σ H, Pv z.cps.size σ H → D.nx σ H) :
    ∃ W : Nat → Nat → L2.St → Hp → Prop, (∃ m, W 0 m σ H) ∧ ∀ i m σ H, W i m σ H →
      ((Its z).stop i H ∧ D.nx σ H) ∨ ((Its z).go i H ∧ ∃ N : L2.St → Hp → Prop, (∀ σ' H', N σ' H' → ∃ m', m' < m ∧ W (i + 1) m' σ' H') ∧ ∀ x H', (Its z).yld i H x H' → g x σ H' fun σ2 H2 => tb { D with nx := N, ct := N, bk := D.nx } σ2 H2) := by
  refine ⟨fun i m σ H => m = z.cps.size - i ∧ i ≤ z.cps.size ∧ Pv i σ H, ⟨z.cps.size, by simp, Nat.zero_le _, h0⟩, ?_⟩
  rintro i m σ H ⟨rfl, hi, p⟩
  by_cases hlt : i < z.cps.size
  · refine .inr ⟨hlt, Pv (i + 1), fun σ' H' p' => ⟨z.cps.size - (i + 1), by omega, rfl, hlt, p'⟩, fun x H' y => ?_⟩
    obtain ⟨e, c, hc, ex⟩ := y
    subst e ex
    exact hs i c σ _ hc p
  · have e : i = z.cps.size := by omega
    subst e
    exact .inl ⟨Nat.le_refl _, hd σ H p⟩
def sgV : V → Bool
  | .str z => sgB z
  | _ => false
def wordV : V → Bool
  | .str z => sgB z && decide ((0 : Int) < (z.length : Int))
  | _ => false
/-- no text is too long -/
def Vs (x : V) : Prop := ∀ z, x = .str z → z.length ≤ 5000
theorem len5 {n : Nat} (h : n ≤ 5000) : n ≤ sizeLine := by
  have h3 : sizeLine = 16777216 := sizeLine_eq
  omega
def spSg : Sp := fun vs H Q _ => ∃ x k, vs = [x] ∧ Kd H x k ∧ Vs x ∧ Q (.bl (sgV x)) H
def spWd : Sp := fun vs H Q _ => ∃ x k, vs = [x] ∧ Kd H x k ∧ Vs x ∧ Q (.bl (wordV x)) H
def spInt : Sp := fun vs H Q _ => ∃ x k, vs = [x] ∧ Kd H x k ∧ Q (.bl (decide (k = .int))) H
def numV : V → Bool
  | .int i => decide (0 ≤ i)
  | _ => false
def spNum : Sp := fun vs H Q _ => ∃ x k, vs = [x] ∧ Kd H x k ∧ Q (.bl (numV x)) H
def inV2 (a b : Int) : V → Bool
  | .int i => decide (a ≤ i) && decide (i ≤ b)
  | _ => false
def spIn : Sp := fun vs H Q _ => ∃ x k a b, vs = [x, .int a, .int b] ∧ Kd H x k ∧ Q (.bl (inV2 a b x)) H
theorem sgB_at {z : Str} {i c : Nat} (h : z.cps[i]? = some c) (n : sgC c = false) : sgB z = false := by
  unfold sgB
  rw [List.all_eq_false]
  refine ⟨c, ?_, by simp [n]⟩
  rw [← Array.getElem?_toList] at h
  exact List.mem_of_getElem? h
theorem sgB_all {z : Str} (h : ∀ i c : Nat, z.cps[i]? = some c → sgC c = true) : sgB z = true := by
  unfold sgB
  rw [List.all_eq_true]
  intro c hc
  obtain ⟨i, hi, e⟩ := List.mem_iff_getElem.mp hc
  refine h i c ?_
  rw [← Array.getElem?_toList, List.getElem?_eq_getElem hi, e]
end Ev
set_option maxHeartbeats 4000000
/-! Things that are judged: what they are, as far as it is asked. -/
namespace Ev
open PySem PySem.Spec PyProof.Rows L2
def dsm0 : PyData → Bool
  | .str z => decide (z.length ≤ 100) && PyData.strOk z
  | _ => true
/-- no text in it is long -/
def dsm : PyData → Bool
  | .list ds => ds.all dsm0
  | .tuple ds => ds.all dsm0
  | d => dsm0 d
theorem Dt.kd {H : Hp} {v : V} {d : PyData} (h : Dt H v d) : ∃ k, Kd H v k := by
  cases h with
  | non => exact ⟨_, .non⟩
  | bl b => exact ⟨_, .bl b⟩
  | int i => exact ⟨_, .int i⟩
  | str x => exact ⟨_, .str x⟩
  | dic e => exact ⟨_, .dic e⟩
  | l0 e n => exact ⟨_, .lst e⟩
  | l1 e n _ => exact ⟨_, .lst e⟩
  | l2 e n _ _ => exact ⟨_, .lst e⟩
  | t0 e => exact ⟨_, .tup e⟩
  | t1 e _ => exact ⟨_, .tup e⟩
  | t2 e _ _ => exact ⟨_, .tup e⟩
theorem Dt.vs {H : Hp} {v : V} {d : PyData} (h : Dt H v d) (s : dsm0 d = true) : Vs v := by
  cases h with
  | str x =>
    intro z e
    cases e
    have q : x.length ≤ 100 := of_decide_eq_true (Bool.and_eq_true_iff.mp s).1
    exact Nat.le_trans q (by decide)
  | non => exact fun z e => by cases e
  | bl b => exact fun z e => by cases e
  | int i => exact fun z e => by cases e
  | dic e => exact fun z e => by cases e
  | l0 e n => exact fun z e => by cases e
  | l1 e n _ => exact fun z e => by cases e
  | l2 e n _ _ => exact fun z e => by cases e
  | t0 e => exact fun z e => by cases e
  | t1 e _ => exact fun z e => by cases e
  | t2 e _ _ => exact fun z e => by cases e
/-- a thing; some xs: a tuple of xs -/
inductive Tg (H : Hp) : V → Option (List V) → Prop
  | no {x : V} {k : Kn} (h : Kd H x k) (n : k ≠ .tup) (s : Vs x) : Tg H x none
  | tup {a : Addr} {xs : List V} (e : H a = some (.tup xs)) (n : xs.length ≤ 30) (h : ∀ y ∈ xs, (∃ k, Kd H y k) ∧ Vs y) : Tg H (.ref a) (some xs)
theorem Tg.kd {H : Hp} {x : V} {o : Option (List V)} (h : Tg H x o) : ∃ k, Kd H x k ∧ (k = .tup ↔ o.isSome = true) := by
  cases h with
  | no h n s => exact ⟨_, h, fun e => absurd e n, fun e => by cases e⟩
  | tup e n h => exact ⟨_, .tup e, fun _ => rfl, fun _ => rfl⟩
theorem Tg.vs {H : Hp} {x : V} {o : Option (List V)} (h : Tg H x o) : Vs x := by
  cases h with
  | no h n s => exact s
  | tup e n h => exact fun z e => by cases e
theorem Tg.same {H H' : Hp} (s : ∀ b o, H b = some o → H' b = some o) {x : V} {o : Option (List V)} (h : Tg H x o) : Tg H' x o := by
  cases h with
  | no h n z => exact .no (h.same s) n z
  | tup e n h => exact .tup (s _ _ e) n fun y hy => ⟨let ⟨k, q⟩ := (h y hy).1; ⟨k, q.same s⟩, (h y hy).2⟩
theorem Dt.tg {H : Hp} {v : V} {d : PyData} (h : Dt H v d) (s : dsm d = true) : ∃ o, Tg H v o := by
  cases h with
  | non => exact ⟨_, .no .non (by decide) fun z e => by cases e⟩
  | bl b => exact ⟨_, .no (.bl b) (by decide) fun z e => by cases e⟩
  | int i => exact ⟨_, .no (.int i) (by decide) fun z e => by cases e⟩
  | str x => exact ⟨_, .no (.str x) (by decide) (Dt.vs (.str (H := H) x) s)⟩
  | dic e => exact ⟨_, .no (.dic e) (by decide) fun z e => by cases e⟩
  | l0 e n => exact ⟨_, .no (.lst e) (by decide) fun z e => by cases e⟩
  | l1 e n _ => exact ⟨_, .no (.lst e) (by decide) fun z e => by cases e⟩
  | l2 e n _ _ => exact ⟨_, .no (.lst e) (by decide) fun z e => by cases e⟩
  | t0 e => exact ⟨_, .tup e (by decide) fun y hy => absurd hy (by simp)⟩
  | @t1 a x d e hx =>
    have s1 : dsm0 d = true := List.all_eq_true.mp s d (by simp)
    exact ⟨_, .tup e (by simp) fun y hy => by
      obtain rfl := List.mem_singleton.mp hy
      exact ⟨hx.kd, hx.vs s1⟩⟩
  | @t2 a x z d1 d2 e hx hz =>
    have s1 : dsm0 d1 = true := List.all_eq_true.mp s d1 (by simp)
    have s2 : dsm0 d2 = true := List.all_eq_true.mp s d2 (by simp)
    refine ⟨_, .tup e (by simp) fun y hy => ?_⟩
    rcases List.mem_cons.mp hy with g | g
    · rw [g]
      exact ⟨hx.kd, hx.vs s1⟩
    · rw [List.mem_singleton.mp g]
      exact ⟨hz.kd, hz.vs s2⟩
def slen : V → Nat
  | .str z => z.length
  | _ => 0
/-- what is wrong with a thing that is to be texts -/
def badOf : Option (List V) → V
  | none => .int (-1)
  | some xs => if xs.length > 8 then .int (-1) else match xs.findIdx? (fun y => !sgV y) with
    | some k => .int (k : Int)
    | none => if (xs.map slen).sum > 2000 then .str (Str.ofString "long") else .non
/-- whether a thing is a place of these texts -/
def placeV (ts : List Str) : Option (List V) → Bool
  | some [x, y] => inV2 0 ((ts.length : Int) - 1) x && (match x with
    | .int i => inV2 0 (((ts.getD i.toNat Str.empty).length : Int) - 1) y
    | _ => false)
  | _ => false
end Ev
set_option maxHeartbeats 4000000
namespace Ev
open PySem PySem.Spec PyProof.Rows L2
theorem bad1 {xs : List V} (h : xs.length > 8) : badOf (some xs) = .int (-1) := if_pos h
theorem bad2 {xs : List V} {i : Nat} {y : V} (h : ¬ xs.length > 8) (hy : xs[i]? = some y) (b : sgV y = false) (g : ∀ (j : Nat) c, j < i → xs[j]? = some c → sgV c = true) : badOf (some xs) = .int (i : Int) := by
  obtain ⟨hi, ey⟩ := List.getElem?_eq_some_iff.mp hy
  have e : xs.findIdx? (fun y => !sgV y) = some i := by
    rw [List.findIdx?_eq_some_iff_getElem]
    refine ⟨hi, by rw [ey, b]; rfl, fun j hj => ?_⟩
    rw [g j xs[j] hj (List.getElem?_eq_getElem (by omega))]
    simp
  show (if xs.length > 8 then V.int (-1) else match xs.findIdx? (fun y => !sgV y) with
    | some k => V.int (k : Int)
    | none => if (xs.map slen).sum > 2000 then V.str (Str.ofString "long") else V.non) = _
  rw [if_neg h, e]
theorem good_none {xs : List V} (g : ∀ c ∈ xs, sgV c = true) : xs.findIdx? (fun y => !sgV y) = none := by
  rw [List.findIdx?_eq_none_iff]
  intro c hc
  rw [g c hc]
  rfl
theorem bad3 {xs : List V} (h : ¬ xs.length > 8) (g : ∀ c ∈ xs, sgV c = true) (s : (xs.map slen).sum > 2000) : badOf (some xs) = .str (Str.ofString "long") := by
  show (if xs.length > 8 then V.int (-1) else match xs.findIdx? (fun y => !sgV y) with
    | some k => V.int (k : Int)
    | none => if (xs.map slen).sum > 2000 then V.str (Str.ofString "long") else V.non) = _
  rw [if_neg h, good_none g]
  exact if_pos s
theorem bad4 {xs : List V} (h : ¬ xs.length > 8) (g : ∀ c ∈ xs, sgV c = true) (s : ¬ (xs.map slen).sum > 2000) : badOf (some xs) = .non := by
  show (if xs.length > 8 then V.int (-1) else match xs.findIdx? (fun y => !sgV y) with
    | some k => V.int (k : Int)
    | none => if (xs.map slen).sum > 2000 then V.str (Str.ofString "long") else V.non) = _
  rw [if_neg h, good_none g]
  exact if_neg s
/-- what is right: at most eight texts of signs -/
theorem bad_non {o : Option (List V)} (h : badOf o = .non) : ∃ xs, o = some xs ∧ xs.length ≤ 8 ∧ (∀ c ∈ xs, sgV c = true) ∧ (xs.map slen).sum ≤ 2000 := by
  cases o with
  | none => cases h
  | some xs =>
    by_cases h1 : xs.length > 8
    · rw [bad1 h1] at h
      cases h
    · cases e : xs.findIdx? (fun y => !sgV y) with
      | some k =>
        have h' : (if xs.length > 8 then V.int (-1) else match xs.findIdx? (fun y => !sgV y) with
          | some k => V.int (k : Int)
          | none => if (xs.map slen).sum > 2000 then V.str (Str.ofString "long") else V.non) = V.non := h
        rw [if_neg h1, e] at h'
        cases h'
      | none =>
        have g : ∀ c ∈ xs, sgV c = true := fun c hc => by
          have := List.findIdx?_eq_none_iff.mp e c hc
          simpa using this
        refine ⟨xs, rfl, by omega, g, ?_⟩
        by_cases s : (xs.map slen).sum > 2000
        · rw [bad3 h1 g s] at h
          cases h
        · omega
theorem sg_str {y : V} (h : sgV y = true) : ∃ z, y = .str z := by
  cases y with
  | str z => exact ⟨z, rfl⟩
  | non => cases h
  | bl b => cases h
  | int i => cases h
  | byt b => cases h
  | flt b => cases h
  | ref a => cases h
  | ty n => cases h
theorem bad_strs {xs : List V} (g : ∀ c ∈ xs, sgV c = true) : ∃ ts : List Str, xs = ts.map V.str ∧ ∀ t ∈ ts, sgB t = true := by
  induction xs with
  | nil => exact ⟨[], rfl, fun t h => absurd h (by simp)⟩
  | cons y xs ih =>
    obtain ⟨z, rfl⟩ := sg_str (g y (by simp))
    obtain ⟨ts, rfl, h⟩ := ih fun c hc => g c (List.mem_cons_of_mem _ hc)
    refine ⟨z :: ts, rfl, fun t ht => ?_⟩
    rcases List.mem_cons.mp ht with e | e
    · rw [e]
      exact g (.str z) (by simp)
    · exact h t e
theorem sum_cast (ns : List Nat) : (ns.map fun n : Nat => (n : Int)).sum = ((ns.sum : Nat) : Int) := by
  induction ns with
  | nil => rfl
  | cons n ns ih =>
    rw [List.map_cons, List.sum_cons, List.sum_cons, ih]
    simp
/-- the lengths of the texts of a tuple -/
theorem lc_lens {K : PySem.W.Frag} {a : Addr} {ts : List Str} {i : Nat} {σ : L2.St} {H1 : Hp} {D : Addr} {Qd : Hp → Prop} (hi : i < σ.length) (ha : H1 a = some (.tup (ts.map V.str))) (nD : H1 D = none) (hlen : ∀ t ∈ ts, t.length ≤ 5000) (hn : ts.length ≤ 1000)
    (hd : ∀ H, H D = some (.lst ((ts.map fun t => (t.length : Int)).map V.int)) → Same H1 H → Qd H) :
    ∃ W : Nat → Nat → Hp → Prop, (∃ m, W 0 m (upd H1 D (.lst []))) ∧ ∀ j m H, W j m H →
      ((Itt K a).stop j H ∧ Qd H) ∨ ((Itt K a).go j H ∧ ∃ Nx : Hp → Prop, (∀ H', Nx H' → ∃ m', m' < m ∧ W (j + 1) m' H') ∧ ∀ x H', (Itt K a).yld j H x H' → gName i x (wipe σ [i]) H' fun σ2 H2 => wipe σ2 [i] = wipe σ [i] ∧ tYes σ2 H2 fun b H3 =>
        if b = true then tCB rLenZ (tCons (tVar i) tNil) σ2 H3 fun y H4 => ∃ acc, H4 D = some (.lst acc) ∧ acc.length < sizeLine ∧ Nx (upd H4 D (.lst (acc ++ [y]))) else Nx H3) := by
  have sAt : ∀ {H' : Hp} {o : HO}, Same H1 H' → Same H1 (upd H' D o) := fun {H' o} k b u e => by
    rw [upd_ne (ne_of_none e nD)]
    exact k b u e
  refine lc_tup (K := K) (xs := ts.map V.str) (fun j H => H D = some (.lst (((ts.take j).map fun t => (t.length : Int)).map V.int)) ∧ Same H1 H) ⟨upd_same, sAt (Same.refl _)⟩ (fun j H _ p => SqT.of (p.2 _ _ ha)) (fun j x H hx p => ?_) (fun H p => ?_)
  · rw [List.getElem?_map] at hx
    cases e : ts[j]? with
    | none => rw [e] at hx; cases hx
    | some t =>
      rw [e] at hx
      obtain rfl : V.str t = x := Option.some.inj hx
      have hm := List.mem_of_getElem? e
      obtain ⟨hD, hs⟩ := p
      have hw : ((wipe σ [i]).set i (some (V.str t)))[i]? = some (some (V.str t)) := by
        rw [List.getElem?_set_self]
        show i < (σ.set i none).length
        rw [List.length_set]
        exact hi
      refine ⟨?_, .str t, hw, t, rfl, len5 (hlen t hm), _, hD, ?_, ?_, sAt hs⟩
      · show ((σ.set i none).set i (some (V.str t))).set i none = σ.set i none
        rw [List.set_set, List.set_set]
      · have h3 : sizeLine = 16777216 := sizeLine_eq
        rw [List.length_map, List.length_map, List.length_take]
        omega
      · rw [upd_same]
        have et : ts.take (j + 1) = ts.take j ++ [t] := by
          rw [List.take_add_one, e]
          rfl
        rw [et, List.map_append, List.map_append]
        rfl
  · obtain ⟨hD, hs⟩ := p
    rw [List.length_map, List.take_length] at hD
    exact hd H hD hs
theorem lens_sum (ts : List Str) : (ts.map fun t => (t.length : Int)).sum = ((((ts.map V.str).map slen).sum : Nat) : Int) := by
  rw [List.map_map, ← sum_cast, List.map_map]
  rfl
end Ev
set_option maxHeartbeats 4000000
namespace Ev
open PySem PySem.Spec PyProof.Rows L2
theorem joinL1 : ∀ cs : List Nat, TL.joinL [] (cs.map fun c => [c]) = cs
  | [] => rfl
  | [c] => rfl
  | c :: d :: r => by
    have e := joinL1 (d :: r)
    show [c] ++ ([] ++ TL.joinL [] ((d :: r).map fun c => [c])) = c :: d :: r
    rw [e]
    rfl
theorem join1 (cs : List Nat) : Txt.join (Str.ofString "") (cs.map fun c => SX.S [c]) = SX.S cs := by
  have e := SX.join_S [] (cs.map fun c => [c])
  rw [List.map_map, joinL1] at e
  exact e
theorem sgB_S (cs : List Nat) : sgB (SX.S cs) = cs.all sgC := rfl
theorem S_eta (z : Str) : SX.S z.cps.toList = z := SX.S_tl z
theorem len_S (z : Str) : z.length = z.cps.toList.length := by simp [Str.length]
theorem sgB_mem {z : Str} (h : sgB z = true) {c : Nat} (hc : c ∈ z.cps.toList) : sgC c = true := List.all_eq_true.mp h c hc
theorem sgB_of_mem {z : Str} (h : ∀ c ∈ z.cps.toList, sgC c = true) : sgB z = true := List.all_eq_true.mpr h
theorem sgB_cut {z : Str} (h : sgB z = true) (lo hi : Option Int) : sgB (cutS z lo hi) = true := by
  refine sgB_of_mem fun c hc => sgB_mem h ?_
  have hc' : c ∈ (z.cps.toList.drop (HT.sIx z.length 0 lo)).take (HT.sIx z.length z.length hi - HT.sIx z.length 0 lo) := by
    simpa [cutS] using hc
  exact List.mem_of_mem_drop (List.mem_of_mem_take hc')
theorem cut_len {z : Str} (lo hi : Option Int) : (cutS z lo hi).length ≤ z.length := by
  rw [len_S, len_S]
  have e : (cutS z lo hi).cps.toList = (z.cps.toList.drop (HT.sIx z.length 0 lo)).take (HT.sIx z.length z.length hi - HT.sIx z.length 0 lo) := by simp [cutS]
  rw [e, List.length_take, List.length_drop]
  omega
theorem cut_len2 {z : Str} (lo hi : Option Int) : (cutS z lo hi).length ≤ HT.sIx z.length z.length hi - HT.sIx z.length 0 lo := by
  rw [len_S]
  have e : (cutS z lo hi).cps.toList = (z.cps.toList.drop (HT.sIx z.length 0 lo)).take (HT.sIx z.length z.length hi - HT.sIx z.length 0 lo) := by simp [cutS]
  rw [e, List.length_take]
  omega
theorem sgB_app {a b : Str} (h1 : sgB a = true) (h2 : sgB b = true) : sgB (a ++ b) = true := by
  refine sgB_of_mem fun c hc => ?_
  have e : (a ++ b).cps.toList = a.cps.toList ++ b.cps.toList := TL.tl_append a b
  rw [e] at hc
  rcases List.mem_append.mp hc with h | h
  · exact sgB_mem h1 h
  · exact sgB_mem h2 h
theorem app_len (a b : Str) : (a ++ b).length = a.length + b.length := by
  have e : (a ++ b).cps.toList = a.cps.toList ++ b.cps.toList := TL.tl_append a b
  rw [len_S, e, List.length_append, ← len_S, ← len_S]
theorem rep_all (x : Array Nat) : ∀ (n : Nat) (acc : Array Nat), ((List.replicate n x).foldl (· ++ ·) acc).size = acc.size + n * x.size ∧ ∀ c ∈ ((List.replicate n x).foldl (· ++ ·) acc).toList, c ∈ acc.toList ∨ c ∈ x.toList
  | 0, acc => ⟨by simp, fun c h => .inl h⟩
  | n + 1, acc => by
    obtain ⟨h1, h2⟩ := rep_all x n (acc ++ x)
    rw [List.replicate_succ, List.foldl_cons]
    refine ⟨by rw [h1, Array.size_append, Nat.succ_mul]; omega, fun c hc => ?_⟩
    rcases h2 c hc with h | h
    · rw [Array.toList_append] at h
      exact List.mem_append.mp h
    · exact .inr h
theorem mul_facts (z : Str) (n : Int) : (Txt.mul z n).length ≤ z.length * n.toNat ∧ (sgB z = true → sgB (Txt.mul z n) = true) := by
  unfold Txt.mul
  by_cases h1 : n < 1
  · rw [if_pos h1]
    exact ⟨Nat.zero_le _, fun _ => rfl⟩
  · rw [if_neg h1]
    by_cases h2 : (n == 1 || z.length == 0) = true
    · rw [if_pos h2]
      exact ⟨Nat.le_mul_of_pos_right _ (by omega), fun h => h⟩
    · rw [if_neg h2]
      obtain ⟨r1, r2⟩ := rep_all z.cps n.toNat #[]
      refine ⟨?_, fun h => sgB_of_mem fun c hc => ?_⟩
      · show Array.size _ ≤ _
        rw [r1, Nat.mul_comm]
        show 0 + _ ≤ _
        rw [Nat.zero_add]
        exact Nat.le_refl _
      · rcases r2 c hc with q | q
        · cases q
        · exact sgB_mem h q
theorem cut_hi {z : Str} {lo : Option Int} {u : Int} (h : 0 ≤ u) : ((cutS z lo (some u)).length : Int) ≤ u := by
  have e := cut_len2 (z := z) lo (some u)
  have e2 : HT.sIx z.length z.length (some u) ≤ u.toNat := by
    show (if u < 0 then (u + (z.length : Int)).toNat else min u.toNat z.length) ≤ u.toNat
    rw [if_neg (by omega)]
    exact Nat.min_le_left _ _
  omega
theorem cut_lohi {z : Str} {b e : Int} (h : 0 ≤ b) (h2 : b ≤ e) : ((cutS z (some b) (some e)).length : Int) ≤ e - b := by
  have q := cut_len2 (z := z) (some b) (some e)
  have e1 : HT.sIx z.length z.length (some e) = min e.toNat z.length := by
    show (if e < 0 then (e + (z.length : Int)).toNat else min e.toNat z.length) = _
    rw [if_neg (by omega)]
  have e2 : HT.sIx z.length 0 (some b) = min b.toNat z.length := by
    show (if b < 0 then (b + (z.length : Int)).toNat else min b.toNat z.length) = _
    rw [if_neg (by omega)]
  rw [e1, e2] at q
  omega
end Ev
set_option maxHeartbeats 4000000
/-! Tuples put together and cut, the heap only growing. -/
namespace Ev
open PySem PySem.Spec PyProof.Rows L2
def rCatM : R2 := fun x y H Q => ∃ a b xs ys, x = .ref a ∧ y = .ref b ∧ H a = some (.tup xs) ∧ H b = some (.tup ys) ∧ xs.length + ys.length ≤ 1000 ∧ ∀ p H', Same H H' → H' p = some (.tup (xs ++ ys)) → Q (.ref p) H'
theorem sameNew {H : Hp} {q : Addr} {o : HO} (h : H q = none) : Same H (upd H q o) := fun b u e => by
  rw [upd_ne (ne_of_none e h)]
  exact e
theorem op_catM {X : Cx} : OpR X (binaryOp .Add) rCatM := fun pins s σ H x y v u Q I rx ry h =>
  op_catA pins s σ H x y v u Q I rx ry (by
    obtain ⟨a, b, xs, ys, ex, ey, ha, hb, hz, q⟩ := h
    refine ⟨a, b, xs, ys, ex, ey, SqT.of ha, SqT.of hb, ?_, fun e => ?_, fun _ e => ?_, fun _ _ p np => ?_⟩
    · have h3 : sizeLine = 16777216 := sizeLine_eq
      omega
    · refine q b H (Same.refl H) ?_
      rw [e, List.nil_append]
      exact hb
    · refine q a H (Same.refl H) ?_
      rw [e, List.append_nil]
      exact ha
    · exact q p _ (sameNew np) upd_same)
def rSlM : V → Option Int → Option Int → Hp → VK → Prop := fun x lo hi H Q => ∃ a xs, x = .ref a ∧ H a = some (.tup xs) ∧ ∀ p H', Same H H' → H' p = some (.tup (cutV xs lo hi)) → Q (.ref p) H'
theorem sl_tupM {X : Cx} : SlR X rSlM := fun pins s σ H x v vl vu lo hi sl Q I rx hs pl pu h =>
  sl_tupA pins s σ H x v vl vu lo hi sl Q I rx hs pl pu (by
    obtain ⟨a, xs, ex, ha, q⟩ := h
    refine ⟨a, xs, ex, SqT.of ha, fun e => ?_, fun _ p np => q p _ (sameNew np) upd_same⟩
    refine q a H (Same.refl H) ?_
    have ec : cutV xs lo hi = xs := by
      unfold cutV
      rw [e.1, e.2, List.drop_zero, Nat.sub_zero, List.take_length]
    rw [ec]
    exact ha)
theorem cutV_mem {xs : List V} {lo hi : Option Int} {y : V} (h : y ∈ cutV xs lo hi) : y ∈ xs := List.mem_of_mem_drop (List.mem_of_mem_take h)
/-- the place that is one -/
theorem place_true {ts : List Str} {o : Option (List V)} (h : placeV ts o = true) : ∃ (i j : Int), o = some [.int i, .int j] ∧ 0 ≤ i ∧ i < ts.length ∧ 0 ≤ j ∧ j < ((ts.getD i.toNat Str.empty).length : Int) := by
  unfold placeV at h
  split at h
  · rename_i x y
    obtain ⟨h1, h2⟩ := Bool.and_eq_true_iff.mp h
    cases x with
    | int i =>
      obtain ⟨a1, a2⟩ := Bool.and_eq_true_iff.mp (show (decide (0 ≤ i) && decide (i ≤ (ts.length : Int) - 1)) = true from h1)
      have a1 := of_decide_eq_true a1
      have a2 := of_decide_eq_true a2
      cases y with
      | int j =>
        obtain ⟨b1, b2⟩ := Bool.and_eq_true_iff.mp (show (decide (0 ≤ j) && decide (j ≤ ((ts.getD i.toNat Str.empty).length : Int) - 1)) = true from h2)
        have b1 := of_decide_eq_true b1
        have b2 := of_decide_eq_true b2
        exact ⟨i, j, rfl, a1, by omega, b1, by omega⟩
      | non => cases h2
      | bl b => cases h2
      | str b => cases h2
      | byt b => cases h2
      | flt b => cases h2
      | ref b => cases h2
      | ty b => cases h2
    | non => cases h1
    | bl b => cases h1
    | str b => cases h1
    | byt b => cases h1
    | flt b => cases h1
    | ref b => cases h1
    | ty b => cases h1
  · cases h
theorem text_at {ts : List Str} {i : Int} (h0 : 0 ≤ i) (h1 : i < ts.length) : atI (ts.map V.str) i = some (.str (ts.getD i.toNat Str.empty)) ∧ ts.getD i.toNat Str.empty ∈ ts := by
  have hi : i.toNat < ts.length := by omega
  constructor
  · have e1 : i = ((i.toNat : Nat) : Int) := by omega
    rw [e1]
    refine atI_nat ?_
    rw [List.getElem?_map, List.getD_eq_getElem?_getD, Int.toNat_natCast, List.getElem?_eq_getElem hi]
    rfl
  · rw [List.getD_eq_getElem?_getD, List.getElem?_eq_getElem hi]
    exact List.getElem_mem hi
end Ev
set_option maxHeartbeats 4000000
namespace Ev
open PySem PySem.Spec PyProof.Rows L2
/-- x is True, x is False, x any value of a kind -/
def rIsT : R2 := fun x y H Q => ∃ (b : Bool) (k : Kn), y = .bl b ∧ Kd H x k ∧ Q (.bl (decide (x = .bl b))) H
theorem op_isT {X : Cx} : OpR X (compareOp .Is) rIsT := by
  intro pins s σ H x y v u Q I rx ry h
  obtain ⟨b, k, rfl, hk, q⟩ := h
  cases (show u = Value.bool b from ry)
  cases hk with
  | bl a =>
    refine op_isBl pins s σ H _ (.bl b) v _ Q I rx rfl ⟨a, b, rfl, rfl, ?_⟩
    have e : decide (V.bl a = V.bl b) = decide (a = b) := by
      by_cases z : a = b
      · subst z
        simp
      · rw [decide_eq_false z, decide_eq_false fun w => z (V.bl.inj w)]
    rw [e] at q
    exact q
  | non =>
    cases rx
    exact wpAny_is_other rfl (fun z => by cases z) ⟨.bl false, H, I, rfl, by simpa using q⟩
  | int i =>
    obtain ⟨t, rfl⟩ := rx
    exact wpAny_is_other rfl (fun z => by cases z) ⟨.bl false, H, I, rfl, by simpa using q⟩
  | str i =>
    obtain ⟨t, rfl⟩ := rx
    exact wpAny_is_other rfl (fun z => by cases z) ⟨.bl false, H, I, rfl, by simpa using q⟩
  | lst e =>
    cases rx
    exact wpAny_is_other rfl (fun z => by cases z) ⟨.bl false, H, I, rfl, by simpa using q⟩
  | tup e =>
    cases rx
    exact wpAny_is_other rfl (fun z => by cases z) ⟨.bl false, H, I, rfl, by simpa using q⟩
  | dic e =>
    cases rx
    exact wpAny_is_other rfl (fun z => by cases z) ⟨.bl false, H, I, rfl, by simpa using q⟩
end Ev
set_option maxHeartbeats 4000000
namespace LawK
open PySem PySem.Spec PyProof.Rows L2 Ev
theorem HandL.same {H H' : Hp} {p l : Addr} (k : Same H H') (h : HandL H p l) : HandL H' p l := by
  obtain ⟨cells, i, r, s, n, h1, h2, h3⟩ := h
  exact ⟨cells, i, r, s, n, k _ _ h1, k _ _ h2, h3⟩
theorem But.and {p : Addr} {H H1 H2 : Hp} (a : But p H H1) (k : Same H1 H2) : But p H H2 := fun b o n e => k b o (a b o n e)
theorem hand_ne {H : Hp} {p l' a : Addr} {o : HO} (h : HandL H p l') (e : H a = some o) (n : ∀ x1 x2 x3 x4 x5, o ≠ .lst [x1, x2, x3, x4, x5]) : a ≠ p := fun z => by
  obtain ⟨cells, i, r, s, m, h1, _⟩ := h
  rw [z, h1] at e
  exact n _ _ _ _ _ (Option.some.inj e).symm
theorem dt_but {H H' : Hp} {p l' : Addr} {v : V} {d : PyData} (h : Dt H v d) (hp : HandL H p l') (k : But p H H') : Dt H' v d := by
  induction h with
  | non => exact .non
  | bl b => exact .bl b
  | int i => exact .int i
  | str x => exact .str x
  | dic e => exact .dic (k _ _ (hand_ne hp e fun _ _ _ _ _ z => by cases z) e)
  | l0 e n => exact .l0 (k _ _ (hand_ne hp e fun _ _ _ _ _ z => by cases z) e) n
  | l1 e n _ ih => exact .l1 (k _ _ (hand_ne hp e fun _ _ _ _ _ z => by cases z) e) n ih
  | l2 e n _ _ i1 i2 => exact .l2 (k _ _ (hand_ne hp e fun _ _ _ _ _ z => by cases z) e) n i1 i2
  | t0 e => exact .t0 (k _ _ (hand_ne hp e fun _ _ _ _ _ z => by cases z) e)
  | t1 e _ ih => exact .t1 (k _ _ (hand_ne hp e fun _ _ _ _ _ z => by cases z) e) ih
  | t2 e _ _ i1 i2 => exact .t2 (k _ _ (hand_ne hp e fun _ _ _ _ _ z => by cases z) e) i1 i2
structure Hn (p l : Addr) (H H' : Hp) : Prop where
  at_ : HandL H' p l
  but : But p H H'
theorem HandL.ne {H : Hp} {p l q : Addr} (h : HandL H p l) (n : H q = none) : q ≠ p ∧ q ≠ l := by
  obtain ⟨cells, i, r, s, m, h1, h2, _⟩ := h
  exact ⟨fun z => (by rw [z, h1] at n; cases n), fun z => (by rw [z, h2] at n; cases n)⟩
theorem Hn.new {p l q : Addr} {H H' : Hp} {o : HO} (h : Hn p l H H') (n : H' q = none) : Hn p l H (upd H' q o) := ⟨h.at_.same (Same.new n), h.but.and (Same.new n)⟩
theorem Hn.trans {p l : Addr} {H H1 H2 : Hp} (a : Hn p l H H1) (b : Hn p l H1 H2) : Hn p l H H2 := ⟨b.at_, a.but.trans b.but⟩
theorem Hn.refl {p l : Addr} {H : Hp} (h : HandL H p l) : Hn p l H H := ⟨h, But.refl p H⟩
theorem Hn.go {p l : Addr} {H H1 H2 : Hp} (a : Hn p l H H1) (h : HandL H2 p l) (b : But p H1 H2) : Hn p l H H2 := ⟨h, a.but.trans b⟩
theorem Hn.same {p l : Addr} {H H1 H2 : Hp} (a : Hn p l H H1) (k : Same H1 H2) : Hn p l H H2 := ⟨a.at_.same k, a.but.and k⟩
/-- an object that is new since H, at q, changes -/
theorem Hn.at {p l q : Addr} {H H' : Hp} {o : HO} (h : Hn p l H H') (h0 : HandL H p l) (n : H q = none) : Hn p l H (upd H' q o) := by
  obtain ⟨n1, n2⟩ := h0.ne n
  refine ⟨?_, fun b u nb e => ?_⟩
  · obtain ⟨cells, i, r, s, m, h1, h2, h3⟩ := h.at_
    exact ⟨cells, i, r, s, m, by rw [upd_ne (Ne.symm n1)]; exact h1, by rw [upd_ne (Ne.symm n2)]; exact h2, h3⟩
  · rw [upd_ne (ne_of_none e n)]
    exact h.but b u nb e
theorem sqBut {K : PySem.W.Frag} {H H' : Hp} {p a : Addr} {xs : List V} (h : SqL K H a xs) (n : a ≠ p) (b : But p H H') : SqL K H' a xs := by
  rcases h with (h | ⟨o, h⟩) | h
  · exact .inl (.inl (b _ _ n h))
  · exact .inl (.inr ⟨o, b _ _ n h⟩)
  · exact .inr h
structure Dk (P : Program) (w : World) (K : PySem.W.Frag) (mg : Str → Option Value) (base : Heap) (x : Str) (st : Stmt) (ps : List Str) (k : Nat) (sp : Sp) (f : Addr) (fd : FuncData) : Prop where
  F : Fun K x x st f fd
  b : Binds K fd ps []
  g : mg x = some (.ref f)
  ok : FnOk P w K mg base CX0 k f fd ps sp
theorem len6 {z : Str} {n : Nat} (h : z.length ≤ n) (hn : n ≤ 5000 := by decide) : z.length ≤ sizeLine := len5 (Nat.le_trans h hn)
theorem sg_at {z : Str} {v : Int} (hz : sgB z = true) (h0 : 0 ≤ v) (h1 : v < (z.length : Int)) : ∃ c, atI z.cps.toList v = some c ∧ sgC c = true := by
  obtain ⟨c, e, hm⟩ := atI_in (xs := z.cps.toList) h0 (by rw [← len_S]; exact h1)
  exact ⟨c, e, sgB_mem hz hm⟩
theorem str_ok {ts : List Str} (hts : ∀ t ∈ ts, t.length ≤ 5000) {H : Hp} {y : V} (h : y ∈ ts.map V.str) : (∃ k, Kd H y k) ∧ Vs y := by
  obtain ⟨z, hz, rfl⟩ := List.mem_map.mp h
  refine ⟨⟨_, .str z⟩, fun w e => ?_⟩
  cases e
  exact hts z hz
theorem lit_ok {z : Str} (h : z.length ≤ 5000) {H : Hp} : (∃ k, Kd H (.str z) k) ∧ Vs (.str z) := ⟨⟨_, .str z⟩, fun w e => by
  cases e
  exact h⟩
theorem int_ok {i : Int} {H : Hp} : (∃ k, Kd H (.int i) k) ∧ Vs (.int i) := ⟨⟨_, .int i⟩, fun w e => by cases e⟩
theorem tup_ne {H : Hp} {p l a : Addr} {xs : List V} (h : HandL H p l) (e : H a = some (.tup xs)) : a ≠ p := hand_ne h e fun _ _ _ _ _ z => by cases z
theorem Kd.but {H H' : Hp} {p l : Addr} {x : V} {k : Kn} (h : Kd H x k) (h0 : HandL H p l) (h1 : HandL H' p l) (b : But p H H') : Kd H' x k := by
  cases h with
  | non => exact .non
  | bl b => exact .bl b
  | int i => exact .int i
  | str z => exact .str z
  | @lst a xs e =>
    by_cases z : a = p
    · obtain ⟨cells, i, r, s, m, h2, _⟩ := h1
      rw [z]
      exact .lst h2
    · exact .lst (b _ _ z e)
  | tup e => exact .tup (b _ _ (tup_ne h0 e) e)
  | dic e => exact .dic (b _ _ (hand_ne h0 e fun _ _ _ _ _ z => by cases z) e)
theorem Tg.but {H H' : Hp} {p l : Addr} {x : V} {o : Option (List V)} (h : Tg H x o) (h0 : HandL H p l) (h1 : HandL H' p l) (b : But p H H') : Tg H' x o := by
  cases h with
  | no h n s => exact .no (Kd.but h h0 h1 b) n s
  | tup e n h => exact .tup (b _ _ (tup_ne h0 e) e) n fun y hy => ⟨let ⟨k, q⟩ := (h y hy).1; ⟨k, Kd.but q h0 h1 b⟩, (h y hy).2⟩
/-- what a thing's texts may be -/
inductive All2 {α β : Type} (R : α → β → Prop) : List α → List β → Prop
  | nil : All2 R [] []
  | cons {x : α} {y : β} {xs : List α} {ys : List β} (h : R x y) (t : All2 R xs ys) : All2 R (x :: xs) (y :: ys)
theorem All2.imp {α β : Type} {R S : α → β → Prop} {xs : List α} {ys : List β} (f : ∀ x y, R x y → S x y) (h : All2 R xs ys) : All2 S xs ys := by
  induction h with
  | nil => exact .nil
  | cons h _ ih => exact .cons (f _ _ h) ih
theorem All2.len {α β : Type} {R : α → β → Prop} {xs : List α} {ys : List β} (h : All2 R xs ys) : xs.length = ys.length := by
  induction h with
  | nil => rfl
  | cons _ _ ih => exact congrArg (· + 1) ih
theorem All2.at {α β : Type} {R : α → β → Prop} {xs : List α} {ys : List β} (h : All2 R xs ys) : ∀ {i : Nat} {x : α}, xs[i]? = some x → ∃ y, ys[i]? = some y ∧ R x y := by
  induction h with
  | nil => intro i x e; simp at e
  | cons r _ ih =>
    intro i x e
    cases i with
    | zero => cases e; exact ⟨_, rfl, r⟩
    | succ i => exact ih e
theorem All2.snoc {α β : Type} {R : α → β → Prop} {xs : List α} {ys : List β} {x : α} {y : β} (h : All2 R xs ys) (r : R x y) : All2 R (xs ++ [x]) (ys ++ [y]) := by
  induction h with
  | nil => exact .cons r .nil
  | cons r1 _ ih => exact .cons r1 ih
theorem sne {a b : Str} (h : a ≠ b) {A B : Prop} (k : B) : if decide (V.str a = V.str b) = true then A else B := by
  rw [decide_eq_false (fun z => h (V.str.inj z))]
  exact iteF k
theorem seq {a : Str} {A B : Prop} (k : A) : if decide (V.str a = V.str a) = true then A else B := by
  rw [decide_eq_true rfl]
  exact iteT k
end LawK
set_option maxHeartbeats 4000000
namespace LawK
open PySem PySem.Spec PyProof.Rows L2 Ev

def signV : V → Bool
  | .str z => sgB z && decide ((z.length : Int) = 1)
  | _ => false
theorem dec_int {a b : Int} : decide (V.int a = V.int b) = decide (a = b) := by
  by_cases h : a = b
  · rw [h, decide_eq_true rfl, decide_eq_true rfl]
  · rw [decide_eq_false h, decide_eq_false (fun e => h (V.int.inj e))]
theorem dec_str {a b : Str} : decide (V.str a = V.str b) = decide (a = b) := by
  by_cases h : a = b
  · rw [h, decide_eq_true rfl, decide_eq_true rfl]
  · rw [decide_eq_false h, decide_eq_false (fun e => h (V.str.inj e))]
def spSign : Sp := fun vs H Q _ => ∃ x k, vs = [x] ∧ Kd H x k ∧ Vs x ∧ Q (.bl (signV x)) H
/-- is x a tuple of m? -/
def tupO (o : Option (List V)) (m : Int) : Bool := match o with
  | none => false
  | some xs => decide ((xs.length : Int) = m)
def spTuple : Sp := fun vs H Q _ => ∃ x m o, vs = [x, .int m] ∧ Tg H x o ∧ Q (.bl (tupO o m)) H
def spTextY : Sp := fun vs H Q _ => ∃ (z : Str), vs = [.str z] ∧ sgB z = true ∧ z.length ≤ 2000 ∧ Q (.bl true) H
def blV (b : Bool) : V → Bool
  | .bl c => decide (c = b)
  | _ => false
def spFlag : Sp := fun vs H Q _ => ∃ (x b : Bool), vs = [.bl x, .bl b] ∧ Q (.bl (decide (x = b))) H
/-- a tuple within tuples -/
inductive Nest (H : Hp) : Nat → V → Prop
  | zero {a : Addr} (e : H a = some (.tup [])) : Nest H 0 (.ref a)
  | succ {a : Addr} {n : Nat} {x : V} (e : H a = some (.tup [x])) (h : Nest H n x) : Nest H (n + 1) (.ref a)
theorem Nest.same {H H' : Hp} {n : Nat} {x : V} (h : Nest H n x) (k : Same H H') : Nest H' n x := by
  induction h with
  | zero e => exact .zero (k _ _ e)
  | succ e _ ih => exact .succ (k _ _ e) ih
def spDeep : Sp := fun vs H Q _ => ∃ (m : Int), vs = [.int m] ∧ 0 ≤ m ∧ m ≤ 100 ∧ ∀ x H', Nest H' m.toNat x → Same H H' → Q x H'
section
variable {P : Program} {w : World} {K : PySem.W.Frag} {mg : Str → Option Value} {base : Heap}
abbrev sPSigns : Stmt := topS 5
theorem scPSigns : FnScope ["thing"] ["thing"] (defScope sPSigns) := ⟨rfl, rfl, rfl, by decide +kernel, rfl, by decide +kernel, by decide +kernel⟩
theorem ok_PSigns {f : Addr} {fd : FuncData} (F : Fun K "is_signs" "is_signs" sPSigns f fd)  (T : Glob mg) : FnOk P w K mg base CX0 1 f fd ["thing"] spSg := by
  refine F.ok scPSigns (fun vs H Q E h => ?_) (fun cdv A outer s H vs Q E hr h => ?_)
  · obtain ⟨x, k, rfl, _⟩ := h
    rfl
  · refine ⟨_, (pss_one (ps_ret (pe_and (pe_callB call_isi (by rfl) T.isinstance PyProof.Rows.boot_isinstance (pa_cons (pv 0) (pa_cons (pe_bltn (v := .ty "str") (by rfl) T.str (by decide +kernel) rfl) pa_nil))) (pe_and (pe_bm0 PySem.F.plainAttrs_str PySem.F.slot_str_isascii PySem.F.type_str_isascii mt_isascii (pv 0)) (pe_one (pe_bm0 PySem.F.plainAttrs_str PySem.F.slot_str_isprintable PySem.F.type_str_isprintable mt_isprintable (pv 0))))))), ?_⟩
    obtain ⟨x, k, rfl, hk, hz, q⟩ := h
    refine ⟨x, rfl, x, .ty "str", .type (Kn.name k), .type "str", kitB k .str, rfl, .ty _, Kd.tyx hk, kit_kn k .str, _, rfl, ?_⟩
    cases hk with
    | str z =>
      refine iteT ⟨.str z, rfl, rfl, z, rfl, rfl, trivial, _, rfl, ite2 (fun e => ⟨.str z, rfl, rfl, z, rfl, rfl, trivial, ?_⟩) (fun e => ?_)⟩
      · have q' : Q (.bl (sgB z)) H := q
        rw [← sgB_of, e, Bool.true_and] at q'
        exact q'
      · have e' : Txt.isascii z = false := by simpa using e
        have q' : Q (.bl (sgB z)) H := q
        rw [← sgB_of, e', Bool.false_and] at q'
        exact q'
    | non => exact iteF q
    | bl b => exact iteF q
    | int i => exact iteF q
    | lst e => exact iteF q
    | tup e => exact iteF q
    | dic e => exact iteF q
abbrev sPNumber : Stmt := topS 4
theorem scPNumber : FnScope ["thing"] ["thing"] (defScope sPNumber) := ⟨rfl, rfl, rfl, by decide +kernel, rfl, by decide +kernel, by decide +kernel⟩
theorem ok_PNumber {f : Addr} {fd : FuncData} (F : Fun K "is_number" "is_number" sPNumber f fd)   (T : Glob mg) : FnOk P w K mg base CX0 1 f fd ["thing"] spNum := by
  refine F.ok scPNumber (fun vs H Q E h => ?_) (fun cdv A outer s H vs Q E hr h => ?_)
  · obtain ⟨x, k, rfl, _⟩ := h
    rfl
  · refine ⟨_, (pss_one (ps_ret (pe_and (pe_callB call_isi (by rfl) T.isinstance PyProof.Rows.boot_isinstance (pa_cons (pv 0) (pa_cons (pe_bltn (v := .ty "int") (by rfl) T.int (by decide +kernel) rfl) pa_nil))) (pe_and (pe_not (pe_callB call_isi (by rfl) T.isinstance PyProof.Rows.boot_isinstance (pa_cons (pv 0) (pa_cons (pe_bltn (v := .ty "bool") (by rfl) T.bool (by decide +kernel) rfl) pa_nil)))) (pe_one (pe_cmpR op_ge (pv 0) pe_int (nomark _))))))), ?_⟩
    obtain ⟨x, k, rfl, hk, q⟩ := h
    refine ⟨x, rfl, x, .ty "int", .type (Kn.name k), .type "int", kitB k .int, rfl, .ty _, Kd.tyx hk, kit_kn k .int, _, rfl, ?_⟩
    cases hk with
    | int i => exact iteT ⟨.int i, rfl, .int i, .ty "bool", .type (Kn.name .int), .type "bool", kitB .int .bl, rfl, .ty _, Kd.tyx (.int i), kit_kn .int .bl, _, rfl, _, rfl, iteT ⟨.int i, rfl, _, _, rfl, rfl, q⟩⟩
    | bl b => exact iteT ⟨.bl b, rfl, .bl b, .ty "bool", .type (Kn.name .bl), .type "bool", kitB .bl .bl, rfl, .ty _, Kd.tyx (.bl b), kit_kn .bl .bl, _, rfl, _, rfl, iteF q⟩
    | str z => exact iteF q
    | non => exact iteF q
    | lst e => exact iteF q
    | tup e => exact iteF q
    | dic e => exact iteF q
abbrev sPTuple : Stmt := topS 6
theorem scPTuple : FnScope ["thing", "many"] ["thing", "many"] (defScope sPTuple) := ⟨rfl, rfl, rfl, by decide +kernel, rfl, by decide +kernel, by decide +kernel⟩
theorem ok_PTuple {f : Addr} {fd : FuncData} (F : Fun K "is_tuple" "is_tuple" sPTuple f fd)   (T : Glob mg) : FnOk P w K mg base CX0 1 f fd ["thing", "many"] spTuple := by
  refine F.ok scPTuple (fun vs H Q E h => ?_) (fun cdv A outer s H vs Q E hr h => ?_)
  · obtain ⟨x, m, o, rfl, _⟩ := h
    rfl
  · refine ⟨_, (pss_one (ps_ret (pe_and (pe_callB call_isi (by rfl) T.isinstance PyProof.Rows.boot_isinstance (pa_cons (pv 0) (pa_cons (pe_bltn (v := .ty "tuple") (by rfl) T.tuple (by decide +kernel) rfl) pa_nil))) (pe_one (pe_cmpR op_eq (pe_callB call_len_seq (by rfl) T.len PySem.boot_len (pa_cons (pv 0) pa_nil)) (pv 1) (nomark _)))))), ?_⟩
    obtain ⟨x, m, o, rfl, ht, q⟩ := h
    cases ht with
    | @no _ k hk n s =>
      refine ⟨x, rfl, x, .ty "tuple", .type (Kn.name k), .type "tuple", kitB k .tup, rfl, .ty _, Kd.tyx hk, kit_kn k .tup, _, rfl, ?_⟩
      cases hk with
      | tup e => exact absurd rfl n
      | int i => exact iteF q
      | bl b => exact iteF q
      | str z => exact iteF q
      | non => exact iteF q
      | lst e => exact iteF q
      | dic e => exact iteF q
    | @tup a xs e n h =>
      refine ⟨.ref a, rfl, .ref a, .ty "tuple", .type (Kn.name .tup), .type "tuple", kitB .tup .tup, rfl, .ty _, Kd.tyx (.tup e), kit_kn .tup .tup, _, rfl, iteT ?_⟩
      refine ⟨.ref a, rfl, a, xs, rfl, .inr (SqT.of e), .int m, rfl, rfl, ?_⟩
      rw [dec_int]
      exact q
abbrev sPText : Stmt := topS 9
theorem scPText : FnScope ["thing"] ["thing"] (defScope sPText) := ⟨rfl, rfl, rfl, by decide +kernel, rfl, by decide +kernel, by decide +kernel⟩
theorem ok_PText {f : Addr} {fd : FuncData} (F : Fun K "is_text" "is_text" sPText f fd) {tM : Tok} (gM : mg "MOST_SIGNS" = some (.int 2000 tM)) {fPSigns : Addr} {fdPSigns : FuncData} (DPSigns : Dk P w K mg base "is_signs" sPSigns ["thing"] 1 spSg fPSigns fdPSigns) (T : Glob mg) : FnOk P w K mg base CX0 2 f fd ["thing"] spTextY := by
  refine F.ok scPText (fun vs H Q E h => ?_) (fun cdv A outer s H vs Q E hr h => ?_)
  · obtain ⟨z, rfl, _⟩ := h
    rfl
  · refine ⟨_, (pss_one (ps_ret (pe_and (pe_call DPSigns.ok (hr.mono (by decide)) (by rfl) DPSigns.g DPSigns.F.kp DPSigns.b .nil pass0 (pa_cons (pv 0) pa_nil)) (pe_one (pe_cmpR op_le (pe_callB call_len (by rfl) T.len PySem.boot_len (pa_cons (pv 0) pa_nil)) (pe_glob (v := .int 2000) (by rfl) gM ⟨_, rfl⟩) (nomark _)))))), ?_⟩
    obtain ⟨z, rfl, hz, hl, q⟩ := h
    refine ⟨.str z, rfl, .str z, .str, rfl, .str z, (fun w e => by cases e; omega), _, rfl, ?_⟩
    refine ite2 (fun _ => ?_) (fun c => absurd hz c)
    refine ⟨.str z, rfl, .str z, z.length, rfl, ⟨len5 (by omega), rfl⟩, _, _, rfl, rfl, ?_⟩
    have e : decide ((z.length : Int) ≤ 2000) = true := decide_eq_true (by omega)
    show Q (.bl (decide ((z.length : Int) ≤ 2000))) H
    rw [e]
    exact q
abbrev sIsInt : Stmt := topS 23
theorem scIsInt : FnScope ["thing", "least", "most"] ["thing", "least", "most"] (defScope sIsInt) := ⟨rfl, rfl, rfl, by decide +kernel, rfl, by decide +kernel, by decide +kernel⟩
theorem ok_IsInt {f : Addr} {fd : FuncData} (F : Fun K "_law_is_int" "_law_is_int" sIsInt f fd)   (T : Glob mg) : FnOk P w K mg base CX0 1 f fd ["thing", "least", "most"] spIn := by
  refine F.ok scIsInt (fun vs H Q E h => ?_) (fun cdv A outer s H vs Q E hr h => ?_)
  · obtain ⟨x, k, a, b, rfl, _⟩ := h
    rfl
  · refine ⟨_, (pss_one (ps_ret (pe_and (pe_callB call_isi (by rfl) T.isinstance PyProof.Rows.boot_isinstance (pa_cons (pv 0) (pa_cons (pe_bltn (v := .ty "int") (by rfl) T.int (by decide +kernel) rfl) pa_nil))) (pe_and (pe_not (pe_callB call_isi (by rfl) T.isinstance PyProof.Rows.boot_isinstance (pa_cons (pv 0) (pa_cons (pe_bltn (v := .ty "bool") (by rfl) T.bool (by decide +kernel) rfl) pa_nil)))) (pe_one (pe_chain op_le op_le (pv 1) (pv 0) (pv 2))))))), ?_⟩
    obtain ⟨x, k, a, b, rfl, hk, q⟩ := h
    refine ⟨x, rfl, x, .ty "int", .type (Kn.name k), .type "int", kitB k .int, rfl, .ty _, Kd.tyx hk, kit_kn k .int, _, rfl, ?_⟩
    cases hk with
    | int i =>
      refine iteT ⟨.int i, rfl, .int i, .ty "bool", .type (Kn.name .int), .type "bool", kitB .int .bl, rfl, .ty _, Kd.tyx (.int i), kit_kn .int .bl, _, rfl, _, rfl, iteT ?_⟩
      refine ⟨.int a, rfl, .int i, rfl, a, i, rfl, rfl, _, rfl, ite2 (fun e => ?_) (fun e => ?_)⟩
      · have q' : Q (.bl (decide (a ≤ i) && decide (i ≤ b))) H := q
        rw [e, Bool.true_and] at q'
        exact ⟨.int b, rfl, i, b, rfl, rfl, q'⟩
      · have e' : decide (a ≤ i) = false := by simpa using e
        have q' : Q (.bl (decide (a ≤ i) && decide (i ≤ b))) H := q
        rw [e', Bool.false_and] at q'
        exact q'
    | bl b => exact iteT ⟨.bl b, rfl, .bl b, .ty "bool", .type (Kn.name .bl), .type "bool", kitB .bl .bl, rfl, .ty _, Kd.tyx (.bl b), kit_kn .bl .bl, _, rfl, _, rfl, iteF q⟩
    | str z => exact iteF q
    | non => exact iteF q
    | lst e => exact iteF q
    | tup e => exact iteF q
    | dic e => exact iteF q
abbrev sDeep : Stmt := topS 24
theorem scDeep : FnScope ["many", "found", "turn"] ["many"] (defScope sDeep) := ⟨rfl, rfl, rfl, by decide +kernel, rfl, by decide +kernel, by decide +kernel⟩
theorem ok_Deep {f : Addr} {fd : FuncData} (F : Fun K "_law_deep" "_law_deep" sDeep f fd)   (T : Glob mg) : FnOk P w K mg base CX0 1 f fd ["many"] spDeep := by
  refine F.ok scDeep (fun vs H Q E h => ?_) (fun cdv A outer s H vs Q E hr h => ?_)
  · obtain ⟨m, rfl, _⟩ := h
    rfl
  · refine ⟨_, (pss_cons (ps_set (i := 1) scDeep.nd rfl (.inl rfl) (pe_tup pa_nil))
      (pss_cons (ps_for PassesOwn.never rfl (pi_range1 (by rfl) T.range (pa_cons (pv 0) pa_nil)) (pg_name (i := 2) scDeep.nd rfl (.inl rfl))
      (pss_one (ps_set (i := 1) scDeep.nd rfl (.inl rfl) (pe_tup (pa_cons (pv 1) pa_nil)))))
      (pss_one (ps_ret (pv 1))))), ?_⟩
    obtain ⟨m, rfl, m0, m1, q⟩ := h
    refine ⟨by show 0 ≤ sizeLine; decide, fun a0 na0 => ?_⟩
    refine ⟨.int m, rfl, m, rfl, by omega, by omega, for_range (fun i σ H' => ∃ x u, σ = [some (.int m), some x, u] ∧ Nest H' i x ∧ Same H H') ⟨_, _, rfl, .zero upd_same, Same.new na0⟩ ?_ ?_⟩
    · rintro i σ H1 hi ⟨x, u, rfl, hx, k1⟩
      refine ⟨x, rfl, by show 1 ≤ sizeLine; decide, fun a1 na1 => ?_⟩
      exact ⟨_, _, rfl, .succ upd_same (hx.same (Same.new na1)), sameAt k1 (Same.free k1 na1)⟩
    · rintro σ H1 ⟨x, u, rfl, hx, k1⟩
      exact ⟨x, rfl, q _ _ hx k1⟩
abbrev sIsFlag : Stmt := topS 27
theorem scIsFlag : FnScope ["told", "due"] ["told", "due"] (defScope sIsFlag) := ⟨rfl, rfl, rfl, by decide +kernel, rfl, by decide +kernel, by decide +kernel⟩
theorem ok_IsFlag {f : Addr} {fd : FuncData} (F : Fun K "_law_is_flag" "_law_is_flag" sIsFlag f fd)   (T : Glob mg) : FnOk P w K mg base CX0 1 f fd ["told", "due"] spFlag := by
  refine F.ok scIsFlag (fun vs H Q E h => ?_) (fun cdv A outer s H vs Q E hr h => ?_)
  · obtain ⟨x, b, rfl, _⟩ := h
    rfl
  · refine ⟨_, (pss_one (ps_ret (pe_and (pe_callB call_isi (by rfl) T.isinstance PyProof.Rows.boot_isinstance (pa_cons (pv 0) (pa_cons (pe_bltn (v := .ty "bool") (by rfl) T.bool (by decide +kernel) rfl) pa_nil))) (pe_one (pe_cmpR op_eq (pv 0) (pv 1) (nomark _)))))), ?_⟩
    obtain ⟨x, b, rfl, q⟩ := h
    refine ⟨.bl x, rfl, .bl x, .ty "bool", .type (Kn.name .bl), .type "bool", kitB .bl .bl, rfl, .ty _, Kd.tyx (.bl x), kit_kn .bl .bl, _, rfl, iteT ?_⟩
    refine ⟨.bl x, rfl, .bl b, rfl, rfl, ?_⟩
    show Q (.bl (decide (V.bl x = V.bl b))) H
    have e : decide (V.bl x = V.bl b) = decide (x = b) := by cases x <;> cases b <;> rfl
    rw [e]
    exact q
end
end LawK
set_option maxHeartbeats 4000000
namespace LawK
open PySem PySem.Spec PyProof.Rows L2 Ev

def spAny (K : PySem.W.Frag) : Sp := fun vs H Q _ => ∃ (p a : Addr) (xs : List V), vs = [.ref p, .ref a] ∧ SqL K H a xs ∧ a ≠ p ∧ 0 < xs.length ∧ xs.length < 1000000 ∧ ∃ l, HandL H p l ∧ ∀ x H', x ∈ xs → HandL H' p l → But p H H' → Q x H'
/-- one sign of a text -/
def spAnyS : Sp := fun vs H Q _ => ∃ (p : Addr) (z : Str), vs = [.ref p, .str z] ∧ sgB z = true ∧ 0 < z.length ∧ z.length ≤ 100 ∧ ∃ l, HandL H p l ∧ ∀ c H', sgC c = true → HandL H' p l → But p H H' → Q (.str (SX.S [c])) H'
def spSigns : Sp := fun vs H Q _ => ∃ (p : Addr), vs = [.ref p] ∧ ∃ l, HandL H p l ∧ ∀ z H', sgB z = true → 0 < z.length → z.length ≤ 100 → HandL H' p l → But p H H' → Q (.str z) H'
def spLText : Sp := fun vs H Q _ => ∃ (p : Addr) (z : Str) (m : Int), vs = [.ref p, .str z, .int m] ∧ sgB z = true ∧ 0 < z.length ∧ z.length ≤ 100 ∧ 0 ≤ m ∧ ∃ l, HandL H p l ∧
  ∀ y H', sgB y = true → (y.length : Int) ≤ m → HandL H' p l → But p H H' → Q (.str y) H'
section
variable {P : Program} {w : World} {K : PySem.W.Frag} {mg : Str → Option Value} {base : Heap}
abbrev sAny : Stmt := topS 22
theorem scAny : FnScope ["hand", "some"] ["hand", "some"] (defScope sAny) := ⟨rfl, rfl, rfl, by decide +kernel, rfl, by decide +kernel, by decide +kernel⟩
theorem ok_Any {f : Addr} {fd : FuncData} (F : Fun K "_law_any" "_law_any" sAny f fd)  {fDraw : Addr} {fdDraw : FuncData} (DDraw : Dk P w K mg base "_law_draw" sDraw ["hand", "many"] 1 spDraw fDraw fdDraw) (T : Glob mg) : FnOk P w K mg base CX0 2 f fd ["hand", "some"] (spAny K) := by
  refine F.ok scAny (fun vs H Q E h => ?_) (fun cdv A outer s H vs Q E hr h => ?_)
  · obtain ⟨p, a, xs, rfl, _⟩ := h
    rfl
  · refine ⟨_, (pss_one (ps_ret (pe_ix ix_list (pv 1) (pe_call DDraw.ok (hr.mono (by decide)) (by rfl) DDraw.g DDraw.F.kp DDraw.b .nil pass0 (pa_cons (pv 0) (pa_cons (pe_callB call_len_seq (by rfl) T.len PySem.boot_len (pa_cons (pv 1) pa_nil)) pa_nil))) (fun _ _ => rfl)))), ?_⟩
    obtain ⟨p, a, xs, rfl, ha, nap, h0, h1, lh, hH, q⟩ := h
    refine ⟨.ref a, rfl, .ref p, rfl, .ref a, rfl, a, xs, rfl, .inl ha, p, (xs.length : Int), rfl, by omega, by omega, lh, hH, fun v H1 v0 v1 h2 b2 => ?_⟩
    obtain ⟨x, e, hm⟩ := atI_in v0 v1
    exact ⟨a, xs, v, x, rfl, rfl, sqBut ha nap b2, e, q x H1 hm h2 b2⟩
abbrev sSigns : Stmt := topS 26
theorem scSigns : FnScope ["hand"] ["hand"] (defScope sSigns) := ⟨rfl, rfl, rfl, by decide +kernel, rfl, by decide +kernel, by decide +kernel⟩
theorem ok_Signs {f : Addr} {fd : FuncData} (F : Fun K "_law_signs" "_law_signs" sSigns f fd)  {fAny : Addr} {fdAny : FuncData} (DAny : Dk P w K mg base "_law_any" sAny ["hand", "some"] 2 (spAny K) fAny fdAny) (T : Glob mg) : FnOk P w K mg base CX0 3 f fd ["hand"] spSigns := by
  refine F.ok scSigns (fun vs H Q E h => ?_) (fun cdv A outer s H vs Q E hr h => ?_)
  · obtain ⟨p, rfl, _⟩ := h
    rfl
  · refine ⟨_, (pss_one (ps_ret (pe_call DAny.ok (hr.mono (by decide)) (by rfl) DAny.g DAny.F.kp DAny.b .nil pass0 (pa_cons (pv 0) (pa_cons (pe_lst (pa_cons pe_str (pa_cons pe_str (pa_cons pe_str (pa_cons pe_str (pa_cons pe_str (pa_cons pe_str (pa_cons pe_str pa_nil)))))))) pa_nil))))), ?_⟩
    obtain ⟨p, rfl, lh, hH, q⟩ := h
    refine ⟨.ref p, rfl, by show 7 ≤ sizeLine; decide, fun a na => ?_⟩
    refine ⟨p, a, _, rfl, sq_of upd_same, (hH.ne na).1, by decide, by decide, lh, hH.same (Same.new na), fun x H' hx h1 b1 => ?_⟩
    have b2 := (But.same (p := p) (Same.new (o := .lst [.str "a", .str "ab", .str "ab", .str "abc", .str "ab ~", .str "xyzw", .str "0123456789"]) na)).trans b1
    have fin : ∀ z : Str, sgB z = true ∧ 0 < z.length ∧ z.length ≤ 100 → x = .str z → Q x H' := fun z w e => by
      rw [e]
      exact q z H' w.1 w.2.1 w.2.2 h1 b2
    simp only [List.mem_cons, List.not_mem_nil, or_false] at hx
    rcases hx with e | e | e | e | e | e | e
    all_goals exact fin _ ⟨by decide +kernel, by decide +kernel, by decide +kernel⟩ e
theorem ok_AnyS {f : Addr} {fd : FuncData} (F : Fun K "_law_any" "_law_any" sAny f fd)  {fDraw : Addr} {fdDraw : FuncData} (DDraw : Dk P w K mg base "_law_draw" sDraw ["hand", "many"] 1 spDraw fDraw fdDraw) (T : Glob mg) : FnOk P w K mg base CX0 2 f fd ["hand", "some"] spAnyS := by
  refine F.ok scAny (fun vs H Q E h => ?_) (fun cdv A outer s H vs Q E hr h => ?_)
  · obtain ⟨p, z, rfl, _⟩ := h
    rfl
  · refine ⟨_, (pss_one (ps_ret (pe_ix ix_str (pv 1) (pe_call DDraw.ok (hr.mono (by decide)) (by rfl) DDraw.g DDraw.F.kp DDraw.b .nil pass0 (pa_cons (pv 0) (pa_cons (pe_callB call_lenZ (by rfl) T.len PySem.boot_len (pa_cons (pv 1) pa_nil)) pa_nil))) (fun _ _ => rfl)))), ?_⟩
    obtain ⟨p, z, rfl, hz, z0, z1, lh, hH, q⟩ := h
    refine ⟨.str z, rfl, .ref p, rfl, .str z, rfl, z, rfl, len6 z1, p, (z.length : Int), rfl, by omega, by omega, lh, hH, fun v H1 v0 v1 h2 b2 => ?_⟩
    obtain ⟨c, ec, hc⟩ := sg_at hz v0 v1
    exact ⟨z, v, c, rfl, rfl, len6 z1, ec, q c H1 hc h2 b2⟩
abbrev sText : Stmt := topS 25
theorem scText : FnScope ["hand", "signs", "most", "found", "turn", "begin", "sign"] ["hand", "signs", "most"] (defScope sText) := ⟨rfl, rfl, rfl, by decide +kernel, rfl, by decide +kernel, by decide +kernel⟩
theorem ok_Text {f : Addr} {fd : FuncData} (F : Fun K "_law_text" "_law_text" sText f fd)  {fDraw : Addr} {fdDraw : FuncData} (DDraw : Dk P w K mg base "_law_draw" sDraw ["hand", "many"] 1 spDraw fDraw fdDraw) {fAny : Addr} {fdAny : FuncData} (DAny : Dk P w K mg base "_law_any" sAny ["hand", "some"] 2 spAnyS fAny fdAny) (T : Glob mg) : FnOk P w K mg base CX0 3 f fd ["hand", "signs", "most"] spLText := by
  refine F.ok scText (fun vs H Q E h => ?_) (fun cdv A outer s H vs Q E hr h => ?_)
  · obtain ⟨p, z, m, rfl, _⟩ := h
    rfl
  · refine ⟨_, (pss_cons (ps_set (i := 3) scText.nd rfl (.inl rfl) pe_str)
      (pss_cons (ps_for PassesOwn.never rfl (pi_range1 (by rfl) T.range (pa_cons (pe_call DDraw.ok (hr.mono (by decide)) (by rfl) DDraw.g DDraw.F.kp DDraw.b .nil pass0 (pa_cons (pv 0) (pa_cons pe_int pa_nil))) pa_nil)) (pg_name (i := 4) scText.nd rfl (.inl rfl))
      (pss_one (ps_if (PW.pt (pw_and (pt_cmpR op_ne (pv 3) pe_str (nomark _)) (pw_and1 (pt_cmpR op_eq (pe_call DDraw.ok (hr.mono (by decide)) (by rfl) DDraw.g DDraw.F.kp DDraw.b .nil pass0 (pa_cons (pv 0) (pa_cons pe_int pa_nil))) pe_int (nomark _)))))
        (pss_cons (ps_set (i := 5) scText.nd rfl (.inl rfl) (pe_call DDraw.ok (hr.mono (by decide)) (by rfl) DDraw.g DDraw.F.kp DDraw.b .nil pass0 (pa_cons (pv 0) (pa_cons (pe_callB call_lenZ (by rfl) T.len PySem.boot_len (pa_cons (pv 3) pa_nil)) pa_nil))))
          (pss_one (ps_set (i := 3) scText.nd rfl (.inl rfl) (pe_op op_add_str (pv 3) (pe_slice sl_str (pv 3) (po_some (pv 5)) (po_some (pe_op op_add (pe_op op_add (pv 5) pe_int) (pe_call DDraw.ok (hr.mono (by decide)) (by rfl) DDraw.g DDraw.F.kp DDraw.b .nil pass0 (pa_cons (pv 0) (pa_cons pe_int pa_nil))))))))))
        (pss_one (ps_set (i := 3) scText.nd rfl (.inl rfl) (pe_op op_add_str (pv 3) (pe_join pe_str (pe_lc (own := [("sign", 6)]) (g := gName 6) (by rfl) scText.nd (pi_range1 (by rfl) T.range (pa_cons (pe_op op_add pe_int (pe_call DDraw.ok (hr.mono (by decide)) (by rfl) DDraw.g DDraw.F.kp DDraw.b .nil pass0 (pa_cons (pv 0) (pa_cons pe_int pa_nil)))) pa_nil)) (blkOk_by (N := ["hand", "signs", "most", "found", "turn", "begin", "sign"]) (sc := defScope sText) (by decide +kernel)) (fun _ _ _ _ _ => pg_name (i := 6) scText.nd rfl (.inl rfl)) (fun _ _ _ _ _ => pts_nil) (fun _ _ _ _ _ => (pe_call DAny.ok (hr.mono (by decide)) (by rfl) DAny.g DAny.F.kp DAny.b .nil pass0 (pa_cons (pv 0) (pa_cons (pv 1) pa_nil))))))))))))
      (pss_one (ps_ret (pe_slice sl_str (pv 3) po_none (po_some (pv 2))))))), ?_⟩
    obtain ⟨p, z, m, rfl, hz, z0, z1, m0, lh, hH, q⟩ := h
    refine ⟨.ref p, rfl, p, 9, rfl, by decide, by decide, lh, hH, fun v H1 v0 v1 h1 b1 => ?_⟩
    refine ⟨v, rfl, by omega, by omega, for_range (fun i σ H' => ∃ (y : Str) (u1 u2 : Option V), σ = [some (.ref p), some (.str z), some (.int m), some (.str y), u1, u2, none] ∧ sgB y = true ∧ y.length ≤ 12 * i ∧ Hn p lh H1 H') ⟨_, none, none, rfl, rfl, Nat.zero_le _, Hn.refl h1⟩ ?_ ?_⟩
    · rintro i σ H2 hi ⟨y, u1, u2, rfl, sy, ly, hn⟩
      have hi2 : i < 9 := by omega
      refine (?_ : ∀ Q : Bool → Hp → Prop, (∀ b H3, Hn p lh H1 H3 → (b = true → 0 < y.length) → Q b H3) → tAnd _ _ _ H2 Q) _ ?_
      · intro Q0 k0
        refine ⟨.str y, rfl, rfl, _, rfl, ite2 (fun e => ?_) (fun e => k0 _ _ hn (fun w => Bool.noConfusion w))⟩
        have ly0 : 0 < y.length := by
          rcases Nat.eq_zero_or_pos y.length with z0 | z0
          · have : y = "" := by
              have en : y.cps.toList = [] := List.eq_nil_of_length_eq_zero (by rw [← len_S]; exact z0)
              rw [← S_eta y, en]
              rfl
            rw [this] at e
            exact absurd e (by decide)
          · exact z0
        refine ⟨.ref p, rfl, p, 2, rfl, by decide, by decide, lh, hn.at_, fun u H3 w0 w1 h3 b3 => ⟨rfl, _, rfl, k0 _ _ (hn.go h3 b3) (fun _ => ly0)⟩⟩
      · intro b H3 hn3 hb
        cases b with
        | true =>
          have ly0 := hb rfl
          refine iteT ⟨.ref p, rfl, .str y, rfl, y, rfl, len6 (n := 108) (by omega), p, (y.length : Int), rfl, by omega, by omega, lh, hn3.at_, fun u H4 w0 w1 h4 b4 => ?_⟩
          have hn4 := hn3.go h4 b4
          refine ⟨.str y, rfl, .str y, rfl, .int u, rfl, u, rfl, .int u, rfl, _, _, rfl, rfl, .ref p, rfl, p, 12, rfl, by decide, by decide, lh, hn4.at_, fun x H5 x0 x1 h5 b5 => ?_⟩
          have hn5 := hn4.go h5 b5
          have cc := cut_lohi (z := y) (b := u) (e := u + 1 + x) w0 (by omega)
          refine ⟨_, _, rfl, rfl, u + 1 + x, rfl, y, rfl, len6 (n := 108) (by omega), y, cutS y (some u) (some (u + 1 + x)), rfl, rfl, ?_, ?_⟩
          · rw [sizeLine_eq]
            omega
          · exact ⟨_, _, _, rfl, sgB_app sy (sgB_cut sy _ _), by rw [app_len]; omega, hn5⟩
        | false =>
          refine iteF ?_
          refine ⟨.str y, rfl, ⟨_, rfl⟩, .ref p, rfl, p, 6, rfl, by decide, by decide, lh, hn3.at_, fun u H4 w0 w1 h4 b4 => ?_⟩
          have hn4 := hn3.go h4 b4
          refine ⟨_, _, rfl, rfl, 1 + u, rfl, by omega, by omega, fun D nD => lc_range (fun i H' => ∃ cs : List Nat, H' D = some (.lst (cs.map fun c => V.str (SX.S [c]))) ∧ cs.length = i ∧ (∀ c ∈ cs, sgC c = true) ∧ Hn p lh H4 H') ⟨[], upd_same, rfl, fun c hc => absurd hc (by simp), (Hn.refl h4).new nD⟩ ?_ ?_⟩
          · rintro i H' hi ⟨cs, hD, hl, hs, hn⟩
            refine ⟨rfl, .ref p, rfl, .str z, rfl, p, z, rfl, hz, z0, z1, lh, hn.at_, fun c H2 hc h2 b2 => ?_⟩
            have nDp := (h4.ne nD).1
            refine ⟨_, b2 _ _ nDp hD, ?_, cs ++ [c], ?_, ?_, ?_, (hn.go h2 b2).at h4 nD⟩
            · rw [List.length_map, hl, sizeLine_eq]
              omega
            · rw [upd_same, List.map_append]
              rfl
            · rw [List.length_append, hl]
              rfl
            · intro d hd
              rcases List.mem_append.mp hd with g | g
              · exact hs d g
              · rw [List.mem_singleton.mp g]
                exact hc
          · rintro H' ⟨cs, hD, hl, hs, hn⟩
            have e1 : (cs.map fun c => V.str (SX.S [c])) = (cs.map fun c => SX.S [c]).map V.str := by rw [List.map_map]; rfl
            have hln : cs.length ≤ 6 := by omega
            have hsum : ((cs.map fun c => SX.S [c]).map (·.length)).sum ≤ cs.length := by
              clear hD hl hs e1 hln
              induction cs with
              | nil => exact Nat.le_refl _
              | cons c cs ih =>
                simp only [List.map_cons, List.sum_cons, List.length_cons]
                have : (SX.S [c]).length = 1 := rfl
                omega
            have sj : sgB (SX.S cs) = true := by rw [sgB_S]; exact List.all_eq_true.mpr hs
            have lj : (SX.S cs).length = cs.length := rfl
            refine ⟨_, D, cs.map (fun c => SX.S [c]), rfl, rfl, .inl (sq_of (e1 ▸ hD)), ?_, ?_⟩
            · rw [List.length_map]
              have : (Str.ofString "").length = 0 := by decide +kernel
              rw [this]
              omega
            · rw [join1]
              refine ⟨y, SX.S cs, rfl, rfl, ?_, ?_⟩
              · rw [lj, sizeLine_eq]
                omega
              · exact ⟨_, _, _, rfl, sgB_app sy sj, by rw [app_len, lj]; omega, hn4.trans hn⟩
    · rintro σ H2 ⟨y, u1, u2, rfl, sy, ly, hn⟩
      have c1 := cut_hi (z := y) (lo := none) (u := m) (by omega)
      exact ⟨.str y, rfl, .int m, rfl, m, rfl, y, rfl, len5 (by omega), q _ H2 (sgB_cut sy _ _) (by omega) hn.at_ (b1.trans hn.but)⟩
end
end LawK
set_option maxHeartbeats 4000000
/-! stretches and runs, over plain lists -/
namespace LawK
abbrev Sg := List Nat
/-- q tells each sign of x from a to b by the one q behind it -/
def Per (x : Sg) (a b q : Nat) : Prop := ∀ i, a ≤ i → i + q < b → x[i]? = x[i + q]?
theorem Per.sub {x : Sg} {a b a' b' q : Nat} (h : Per x a b q) (ha : a ≤ a') (hb : b' ≤ b) : Per x a' b' q := fun i h1 h2 => h i (by omega) (by omega)
structure Mx (x : Sg) (a b q : Nat) : Prop where
  q0 : 0 < q
  bn : b ≤ x.length
  two : a + 2 * q ≤ b
  pr : Per x a b q
  lf : a = 0 ∨ x[a - 1]? ≠ x[a - 1 + q]?
  rt : b = x.length ∨ x[b - q]? ≠ x[b]?
def Run (x : Sg) (a b q : Nat) : Prop := Mx x a b q ∧ ∀ p, 0 < p → p < q → ¬ Per x a b p
theorem Mx.less {x : Sg} {a b q p : Nat} (h : Mx x a b q) (p0 : 0 < p) (pq : p < q) (k : Per x a b p) : Mx x a b p := by
  obtain ⟨q0, bn, two, pr, lf, rt⟩ := h
  refine ⟨p0, bn, by omega, k, ?_, ?_⟩
  · rcases Nat.eq_zero_or_pos a with e | a0
    · exact .inl e
    · refine .inr fun e => ?_
      rcases lf with z | z
      · omega
      · apply z
        have e1 := pr (a - 1 + p) (by omega) (by omega)
        have e2 := k (a - 1 + q) (by omega) (by omega)
        rw [show a - 1 + q + p = a - 1 + p + q by omega] at e2
        rw [e, e1, ← e2]
  · rcases rt with z | z
    · exact .inl z
    · refine .inr fun e => z ?_
      have e1 := k (b - q - p) (by omega) (by omega)
      have e2 := pr (b - q - p) (by omega) (by omega)
      rw [show b - q - p + p = b - q by omega] at e1
      rw [show b - q - p + q = b - p by omega] at e2
      rw [← e1, e2, e]
theorem Run.one {x : Sg} {a b q q' : Nat} (h : Run x a b q) (k : Run x a b q') : q = q' := by
  rcases Nat.lt_trichotomy q q' with g | g | g
  · exact absurd h.1.pr (k.2 q h.1.q0 g)
  · exact g
  · exact absurd k.1.pr (h.2 q' k.1.q0 g)
theorem Run.order {x : Sg} {a b b' q q' : Nat} (h : Run x a b q) (k : Run x a b' q') (g : q < q') : b < b' := by
  refine Classical.byContradiction fun c => ?_
  exact k.2 q h.1.q0 g (h.1.pr.sub (Nat.le_refl _) (by omega))
theorem Run.of_least {x : Sg} {a b q : Nat} (h : Mx x a b q) (k : ∀ p, p < q → ¬ Mx x a b p) : Run x a b q := ⟨h, fun p p0 pq c => k p pq (h.less p0 pq c)⟩
/-- a maximal stretch with period q within which a.. b lies -/
theorem Mx.same {x : Sg} {a b a' b' c d q : Nat} (h : Mx x a b q) (k : Mx x a' b' q) (h1 : a ≤ c) (h2 : d ≤ b) (k1 : a' ≤ c) (k2 : d ≤ b') (l : c + q ≤ d) : a = a' ∧ b = b' := by
  have lf : ∀ {a b a' b' : Nat}, Mx x a b q → Mx x a' b' q → a ≤ c → d ≤ b → a' ≤ c → d ≤ b' → ¬ a < a' := fun {a b a' b'} h k h1 h2 k1 k2 g => by
    rcases k.lf with z | z
    · omega
    · exact z (h.pr (a' - 1) (by omega) (by omega))
  have rt : ∀ {a b a' b' : Nat}, Mx x a b q → Mx x a' b' q → a ≤ c → d ≤ b → a' ≤ c → d ≤ b' → ¬ b < b' := fun {a b a' b'} h k h1 h2 k1 k2 g => by
    rcases h.rt with z | z
    · have := k.bn
      omega
    · apply z
      have := k.pr (b - q) (by omega) (by omega)
      rw [show b - q + q = b by omega] at this
      exact this
  have a1 := lf h k h1 h2 k1 k2
  have a2 := lf k h k1 k2 h1 h2
  have b1 := rt h k h1 h2 k1 k2
  have b2 := rt k h k1 k2 h1 h2
  omega
/-- the stretch can be made as long as it goes -/
theorem ext_left {x : Sg} {b q : Nat} : ∀ (a : Nat), Per x a b q → ∃ a', a' ≤ a ∧ Per x a' b q ∧ (a' = 0 ∨ x[a' - 1]? ≠ x[a' - 1 + q]?)
  | 0, h => ⟨0, Nat.le_refl _, h, .inl rfl⟩
  | a + 1, h => by
    by_cases e : x[a]? = x[a + q]?
    · have h2 : Per x a b q := fun i h1 h2 => by
        rcases Nat.eq_or_lt_of_le h1 with g | g
        · rw [← g]
          exact e
        · exact h i g h2
      obtain ⟨a', l, r⟩ := ext_left a h2
      exact ⟨a', by omega, r⟩
    · exact ⟨a + 1, Nat.le_refl _, h, .inr e⟩
theorem ext_right {x : Sg} {a q : Nat} : ∀ (m b : Nat), m = x.length - b → b ≤ x.length → a + q ≤ b → Per x a b q → ∃ b', b ≤ b' ∧ b' ≤ x.length ∧ Per x a b' q ∧ (b' = x.length ∨ x[b' - q]? ≠ x[b']?)
  | 0, b, e, l, _, h => ⟨b, Nat.le_refl _, l, h, .inl (by omega)⟩
  | m + 1, b, e, l, g, h => by
    by_cases c : x[b - q]? = x[b]?
    · have h2 : Per x a (b + 1) q := fun i h1 h2 => by
        rcases Nat.eq_or_lt_of_le (show i + q ≤ b by omega) with z | z
        · rw [z, show i = b - q by omega]
          exact c
        · exact h i h1 z
      obtain ⟨b', l1, r⟩ := ext_right m (b + 1) (by omega) (by omega) (by omega) h2
      exact ⟨b', by omega, r⟩
    · exact ⟨b, Nat.le_refl _, l, h, .inr c⟩
/-- each stretch with its least period, twice as long as that, lies in just one run of that period -/
theorem run_of {x : Sg} {c d q : Nat} (q0 : 0 < q) (dn : d ≤ x.length) (two : c + 2 * q ≤ d) (h : Per x c d q) (k : ∀ p, 0 < p → p < q → ¬ Per x c d p) : ∃ a b, a ≤ c ∧ d ≤ b ∧ Run x a b q ∧ ∀ a' b', a' ≤ c → d ≤ b' → Run x a' b' q → a' = a ∧ b' = b := by
  obtain ⟨a, la, pa, ea⟩ := ext_left c h
  obtain ⟨b, lb, lbn, pb, eb⟩ := ext_right _ d rfl dn (by omega) pa
  have mx : Mx x a b q := ⟨q0, lbn, by omega, pb, ea, eb⟩
  have rn : Run x a b q := ⟨mx, fun p p0 pq z => k p p0 pq (z.sub la lb)⟩
  refine ⟨a, b, la, lb, rn, fun a' b' l1 l2 r => ?_⟩
  obtain ⟨e1, e2⟩ := Mx.same mx r.1 la lb l1 l2 (by omega)
  exact ⟨e1.symm, e2.symm⟩
/-- lists that ascend strictly and have the same members -/
theorem asc_eq {α : Type} {R : α → α → Prop} (irr : ∀ a, ¬ R a a) (asy : ∀ a b, R a b → ¬ R b a) : ∀ {xs ys : List α}, xs.Pairwise R → ys.Pairwise R → (∀ z, z ∈ xs ↔ z ∈ ys) → xs = ys
  | [], [], _, _, _ => rfl
  | [], y :: ys, _, _, h => by
    have := (h y).mpr List.mem_cons_self
    cases this
  | x :: xs, [], _, _, h => by
    have := (h x).mp List.mem_cons_self
    cases this
  | x :: xs, y :: ys, hx, hy, h => by
    obtain ⟨x1, x2⟩ := List.pairwise_cons.mp hx
    obtain ⟨y1, y2⟩ := List.pairwise_cons.mp hy
    have e : x = y := by
      rcases List.mem_cons.mp ((h x).mp List.mem_cons_self) with e | m
      · exact e
      · rcases List.mem_cons.mp ((h y).mpr List.mem_cons_self) with e | m2
        · exact e.symm
        · exact absurd (x1 y m2) (asy _ _ (y1 x m))
    subst e
    congr 1
    refine asc_eq irr asy x2 y2 fun z => ⟨fun m => ?_, fun m => ?_⟩
    · rcases List.mem_cons.mp ((h z).mp (List.mem_cons_of_mem _ m)) with e | m2
      · rw [e] at m
        exact absurd (x1 _ m) (irr _)
      · exact m2
    · rcases List.mem_cons.mp ((h z).mpr (List.mem_cons_of_mem _ m)) with e | m2
      · rw [e] at m
        exact absurd (y1 _ m) (irr _)
      · exact m2
abbrev Tr := Nat × Nat × Nat
def ltT (s t : Tr) : Prop := s.1 < t.1 ∨ s.1 = t.1 ∧ (s.2.1 < t.2.1 ∨ s.2.1 = t.2.1 ∧ s.2.2 < t.2.2)
theorem ltT_irr (s : Tr) : ¬ ltT s s := fun h => by unfold ltT at h; omega
theorem ltT_asy (s t : Tr) (h : ltT s t) : ¬ ltT t s := fun k => by unfold ltT at h k; omega
/-- the runs of x, in order -/
structure Runs (x : Sg) (rs : List Tr) : Prop where
  mem : ∀ t : Tr, t ∈ rs ↔ Run x t.1 t.2.1 t.2.2
  asc : rs.Pairwise ltT
theorem Runs.one {x : Sg} {rs ss : List Tr} (h : Runs x rs) (k : Runs x ss) : rs = ss := asc_eq ltT_irr ltT_asy h.asc k.asc fun z => (h.mem z).trans (k.mem z).symm
/-- slices -/
def sl (x : Sg) (a b : Nat) : Sg := (x.take b).drop a
theorem sl_at {x : Sg} {a b i : Nat} (h : b ≤ x.length) : (sl x a b)[i]? = if a + i < b then x[a + i]? else none := by
  unfold sl
  rw [List.getElem?_drop, List.getElem?_take]
theorem sl_len {x : Sg} {a b : Nat} (h : b ≤ x.length) : (sl x a b).length = b - a := by
  unfold sl
  rw [List.length_drop, List.length_take]
  omega
theorem per_sl {x : Sg} {a b q : Nat} (h : b ≤ x.length) (l : a + q ≤ b) : sl x (a + q) b = sl x a (b - q) ↔ Per x a b q := by
  constructor
  · intro e i h1 h2
    have this : (sl x (a + q) b)[i - a]? = (sl x a (b - q))[i - a]? := by rw [e]
    rw [sl_at h, sl_at (by omega), if_pos (by omega), if_pos (by omega), show a + q + (i - a) = i + q by omega, show a + (i - a) = i by omega] at this
    exact this.symm
  · intro p
    refine List.ext_getElem? fun i => ?_
    rw [sl_at h, sl_at (by omega)]
    by_cases c : a + q + i < b
    · rw [if_pos c, if_pos (by omega), show a + q + i = a + i + q by omega]
      exact (p (a + i) (by omega) (by omega)).symm
    · rw [if_neg c, if_neg (by omega)]
theorem per_in {x : Sg} {a b q : Nat} (h : b ≤ x.length) : Per (sl x a b) 0 (b - a) q ↔ Per x a b q := by
  constructor
  · intro p i h1 h2
    have := p (i - a) (by omega) (by omega)
    rw [sl_at h, sl_at h, if_pos (by omega), if_pos (by omega), show a + (i - a) = i by omega, show a + (i - a + q) = i + q by omega] at this
    exact this
  · intro p i h1 h2
    rw [sl_at h, sl_at h, if_pos (by omega), if_pos (by omega), show a + (i + q) = a + i + q by omega]
    exact p (a + i) (by omega) (by omega)
/-- the least period -/
structure Lst (x : Sg) (q : Nat) : Prop where
  q0 : 0 < q
  pr : Per x 0 x.length q
  least : ∀ p, 0 < p → p < q → ¬ Per x 0 x.length p
theorem Lst.one {x : Sg} {p q : Nat} (h : Lst x p) (k : Lst x q) : p = q := by
  rcases Nat.lt_trichotomy p q with g | g | g
  · exact absurd h.pr (k.least p h.q0 g)
  · exact g
  · exact absurd k.pr (h.least q k.q0 g)
theorem Lst.at {x : Sg} {a b q : Nat} (h : b ≤ x.length) (k : Lst (sl x a b) q) : 0 < q ∧ Per x a b q ∧ ∀ p, 0 < p → p < q → ¬ Per x a b p := by
  obtain ⟨q0, pr, ls⟩ := k
  rw [sl_len h] at pr ls
  exact ⟨q0, (per_in h).mp pr, fun p p0 pq z => ls p p0 pq ((per_in h).mpr z)⟩
theorem Lst.mk' {x : Sg} {a b q : Nat} (h : b ≤ x.length) (q0 : 0 < q) (pr : Per x a b q) (ls : ∀ p, 0 < p → p < q → ¬ Per x a b p) : Lst (sl x a b) q := by
  refine ⟨q0, ?_, fun p p0 pq z => ls p p0 pq ?_⟩
  · rw [sl_len h]
    exact (per_in h).mpr pr
  · rw [sl_len h] at z
    exact (per_in h).mp z
theorem per_ext {x : Sg} {a b q : Nat} (a0 : 0 < a) (l : a + q ≤ b) (h : Per x a b q) : Per x (a - 1) b q ↔ x[a - 1]? = x[a - 1 + q]? := by
  constructor
  · intro p
    exact p (a - 1) (Nat.le_refl _) (by omega)
  · intro e i h1 h2
    rcases Nat.eq_or_lt_of_le h1 with g | g
    · rw [← g]
      exact e
    · exact h i (by omega) h2
theorem per_extR {x : Sg} {a b q : Nat} (l : a + q ≤ b) (h : Per x a b q) : Per x a (b + 1) q ↔ x[b - q]? = x[b]? := by
  constructor
  · intro p
    have := p (b - q) (by omega) (by omega)
    rw [show b - q + q = b by omega] at this
    exact this
  · intro e i h1 h2
    rcases Nat.eq_or_lt_of_le (show i + q ≤ b by omega) with g | g
    · rw [show i = b - q by omega, show b - q + q = b by omega]
      exact e
    · exact h i h1 g
end LawK
set_option maxHeartbeats 4000000
/-! Slices by natural bounds. -/
namespace Ev
open PySem PySem.Spec PyProof.Rows L2
theorem sIx_int {n d : Nat} {i : Int} (h : 0 ≤ i) : HT.sIx n d (some i) = min i.toNat n := by
  show (if i < 0 then (i + (n : Int)).toNat else min i.toNat n) = _
  rw [if_neg (by omega)]
theorem cutV_to {xs : List V} {i : Int} (h : 0 ≤ i) : cutV xs none (some i) = xs.take i.toNat := by
  unfold cutV
  rw [sIx_int h]
  show (xs.drop 0).take (min i.toNat xs.length - 0) = _
  rw [List.drop_zero, Nat.sub_zero, ← List.take_eq_take_min]
theorem cutV_from {xs : List V} {i : Int} (h : 0 ≤ i) : cutV xs (some i) none = xs.drop i.toNat := by
  unfold cutV
  rw [sIx_int h]
  show (xs.drop (min i.toNat xs.length)).take (xs.length - min i.toNat xs.length) = _
  rw [List.take_of_length_le (by rw [List.length_drop]; exact Nat.le_refl _)]
  by_cases g : i.toNat ≤ xs.length
  · rw [Nat.min_eq_left g]
  · rw [Nat.min_eq_right (by omega), List.drop_length, List.drop_of_length_le (by omega)]
theorem cutV_set {xs : List V} {i : Int} {z : V} (h : 0 ≤ i) (h2 : i < xs.length) : cutV xs none (some i) ++ [z] ++ cutV xs (some (i + 1)) none = xs.set i.toNat z := by
  rw [cutV_to h, cutV_from (by omega)]
  have e : (i + 1).toNat = i.toNat + 1 := by omega
  rw [e, List.set_eq_take_append_cons_drop, if_pos (by omega)]
  simp
theorem cutS_to {z : Str} {i : Int} (h : 0 ≤ i) : (cutS z none (some i)).cps.toList = z.cps.toList.take i.toNat := by
  have e : (cutS z none (some i)).cps.toList = (z.cps.toList.drop 0).take (HT.sIx z.length z.length (some i) - 0) := by simp [cutS, HT.sIx]
  rw [e, sIx_int h, List.drop_zero, Nat.sub_zero, len_S, ← List.take_eq_take_min]
theorem cutS_from {z : Str} {i : Int} (h : 0 ≤ i) : (cutS z (some i) none).cps.toList = z.cps.toList.drop i.toNat := by
  have e : (cutS z (some i) none).cps.toList = (z.cps.toList.drop (HT.sIx z.length 0 (some i))).take (z.length - HT.sIx z.length 0 (some i)) := by simp [cutS, HT.sIx]
  rw [e, sIx_int h, len_S]
  rw [List.take_of_length_le (by rw [List.length_drop]; exact Nat.le_refl _)]
  by_cases g : i.toNat ≤ z.cps.toList.length
  · rw [Nat.min_eq_left g]
  · rw [Nat.min_eq_right (by omega), List.drop_length, List.drop_of_length_le (by omega)]
theorem cutS_of {z : Str} {i j : Int} (h : 0 ≤ i) (h2 : i ≤ j) : (cutS z (some i) (some j)).cps.toList = (z.cps.toList.drop i.toNat).take (j - i).toNat := by
  have e : (cutS z (some i) (some j)).cps.toList = (z.cps.toList.drop (HT.sIx z.length 0 (some i))).take (HT.sIx z.length z.length (some j) - HT.sIx z.length 0 (some i)) := by simp [cutS]
  rw [e, sIx_int h, sIx_int (by omega), len_S]
  apply List.ext_getElem?
  intro k
  rw [List.getElem?_take, List.getElem?_take, List.getElem?_drop, List.getElem?_drop]
  by_cases g : i.toNat ≤ z.cps.toList.length
  · rw [Nat.min_eq_left g]
    by_cases a : k < (j - i).toNat
    · rw [if_pos a]
      by_cases b : k < min j.toNat z.cps.toList.length - i.toNat
      · rw [if_pos b]
      · rw [if_neg b]
        exact (List.getElem?_eq_none (by omega)).symm
    · rw [if_neg a, if_neg (by omega)]
  · rw [List.getElem?_eq_none (show z.cps.toList.length ≤ i.toNat + k by omega), if_neg (by omega)]
    split <;> rfl
end Ev
set_option maxHeartbeats 4000000
/-! A text read from its end. -/
namespace Ev
open PySem PySem.Spec PyProof.Rows L2
def revC (z : Str) : List Nat := (List.range z.length).map fun k => z.cps.getD (z.length - 1 - k) 0
def revZ (z : Str) : Str := SX.S (revC z)
theorem rev_pick (z : Str) : (Builtin.Str.strSliceIndices none none (-1) z.length).filterMap (z.cps[·]?) = revC z := by
  rw [picked_rev, filterMap_get, List.map_map]
  · rfl
  · intro i hi
    obtain ⟨k, hk, rfl⟩ := List.mem_map.mp hi
    have hk' := List.mem_range.mp hk
    show z.length - 1 - k < z.length
    omega
theorem revC_len (z : Str) : (revC z).length = z.length := by
  unfold revC
  rw [List.length_map, List.length_range]
theorem revZ_len (z : Str) : (revZ z).length = z.length := (SX.S_len _).trans (revC_len z)
theorem revC_mem {z : Str} {c : Nat} (h : c ∈ revC z) : c ∈ z.cps.toList := by
  obtain ⟨k, hk, rfl⟩ := List.mem_map.mp h
  have hk' := List.mem_range.mp hk
  have hi : z.length - 1 - k < z.cps.size := by
    show z.length - 1 - k < z.length
    omega
  have e : z.cps.getD (z.length - 1 - k) 0 = z.cps[z.length - 1 - k] := by simp [Array.getD, hi]
  rw [e]
  exact Array.getElem_mem_toList hi
theorem sgB_rev {z : Str} (h : sgB z = true) : sgB (revZ z) = true := List.all_eq_true.mpr fun c hc => sgB_mem h (revC_mem hc)
def tRevS (te : TE) : TE := fun σ H Q => te σ H fun x H1 => ∃ z : Str, x = .str z ∧ z.length ≤ sizeLine ∧ Q (.str (revZ z)) H1
theorem pe_revS {X : Cx} {e : Expr} {te : TE} {k : Nat} {p1 p2 p3 pos : Pos} (he : PE X e te) :
    PE X (.Subscript e (.Slice none none (some (.UnaryOp .USub (.Constant (.int 1) k p1) p2)) p3) pos) (tRevS te) := by
  constructor
  intro pins s σ H Q I h
  apply Subscript_
  refine thn (he.run pins s σ H _ I h) ?_
  rintro v s1 ⟨x, H1, I1, r1, z, rfl, hz, q⟩
  obtain ⟨t, rfl⟩ := r1
  have hst : PO X (some (.UnaryOp .USub (.Constant (.int 1) k p1) p2)) _ := po_some (pe_un un_neg pe_int)
  apply wpAny_Slice
  refine thn (po_none.run pins s1 σ H1 (fun o H2 => o = none ∧ H2 = H1) I1 ⟨rfl, rfl⟩) ?_
  rintro vl s2 ⟨l, H2, I2, pl, rfl, rfl⟩
  refine thn (po_none.run pins s2 σ _ (fun o H3 => o = none ∧ H3 = H2) I2 ⟨rfl, rfl⟩) ?_
  rintro vu s3 ⟨u, H3, I3, pu, rfl, rfl⟩
  refine thn (hst.run pins s3 σ _ (fun o H4 => o = some (-1) ∧ H4 = H3) I3 ⟨1, rfl, -1, rfl, rfl, rfl⟩) ?_
  rintro vs s4 ⟨o, H4, I4, pz, rfl, rfl⟩
  have I5 := I4.kept (t' := s4.toks) (h' := s4.heap.push { cls := .type "slice", data := .fields #[vl, vu, vs] }) fun b ob g => Heap.get?_push_of_some _ g
  obtain ⟨l', rfl, el⟩ := IsPart.raw pl
  obtain ⟨u', rfl, eu⟩ := IsPart.raw pu
  obtain ⟨w', rfl, ew⟩ := IsPart.raw pz
  refine tail_any (ops := [.str z t, .ref s4.heap.objs.size]) (typeIs_str _ _ _) F.slot_str_getitem.lookup ?_ (by with_unfolding_all rfl)
  have e1 : ((w'.map (·.1)).getD 1 == 1) = false := by rw [ew]; rfl
  have e0 : ((w'.map (·.1)).getD 1 == 0) = false := by rw [ew]; rfl
  refine wpAny_getItem_str_slice (l := l') (u := u') (st := w') (Heap.IsSliceOf.new ..) e0 ?_
  have em : sliceMade z t l' u' w' = Made.str (revZ z) := by
    unfold sliceMade
    rw [e1, Bool.false_and, if_neg (by decide)]
    have e2 : slicePicked z l' u' w' = Builtin.Str.strSliceIndices none none (-1) z.length := by
      unfold slicePicked
      rw [el, eu, ew]
      rfl
    rw [e2, rev_pick]
    rfl
  rw [em]
  refine ⟨?_, .str (revZ z), H4, I5.tok _, ⟨_, rfl⟩, q⟩
  rw [revZ_len]
  exact hz
end Ev
set_option maxHeartbeats 4000000
/-! xs[::-1] of a list. -/
namespace Ev
open PySem PySem.Spec PyProof.Rows L2
theorem pick_all {α : Type} (its : List α) (d : α) : ∀ l : List Nat, (∀ i ∈ l, i < its.length) → l.filterMap (its.toArray[·]?) = l.map fun i => its.getD i d
  | [], _ => rfl
  | i :: l, h => by
    have hi := h i (List.mem_cons_self ..)
    have e : its.toArray[i]? = some (its.getD i d) := by
      rw [List.getElem?_toArray, List.getD_eq_getElem?_getD, List.getElem?_eq_getElem hi]
      rfl
    rw [List.filterMap_cons, e, List.map_cons, pick_all its d l fun j hj => h j (List.mem_cons_of_mem _ hj)]
theorem rev_get {α : Type} (its : List α) (d : α) : ((List.range its.length).map fun k => its.getD (its.length - 1 - k) d) = its.reverse := by
  apply List.ext_getElem?
  intro i
  rw [List.getElem?_map]
  by_cases h : i < its.length
  · rw [List.getElem?_range h, List.getElem?_reverse h]
    show some (its.getD (its.length - 1 - i) d) = its[its.length - 1 - i]?
    rw [List.getD_eq_getElem?_getD, List.getElem?_eq_getElem (show its.length - 1 - i < its.length by omega)]
    rfl
  · rw [List.getElem?_eq_none (by rw [List.length_range]; omega), List.getElem?_eq_none (by rw [List.length_reverse]; omega)]
    rfl
theorem rev_bounds (n : Nat) : sliceRange (sliceBounds none none (some (-1)) n).1 (sliceBounds none none (some (-1)) n).2.1 (sliceBounds none none (some (-1)) n).2.2 = (List.range n).map fun k => n - 1 - k := by
  have g : ¬ ((-1 : Int) > 0) := by decide
  unfold sliceRange sliceBounds
  simp only [Option.getD_some, g, if_false]
  have c : (if (n : Int) - 1 > -1 then ((n : Int) - 1 - -1 - -1 - 1) / (- -1) else 0).toNat = n := by
    by_cases h : (n : Int) - 1 > -1
    · rw [if_pos h, show (- -1 : Int) = 1 from rfl, Int.ediv_one]
      omega
    · rw [if_neg h]
      omega
  rw [c]
  refine List.map_congr_left fun k hk => ?_
  have hk := List.mem_range.mp hk
  omega
theorem pick_revL (its : List Value) : slicePick its.toArray none none (some (-1)) = its.reverse.toArray := by
  unfold slicePick
  rw [show its.toArray.size = its.length from List.size_toArray .., rev_bounds, pick_all its .none _ (fun i hi => by
    obtain ⟨k, hk, rfl⟩ := List.mem_map.mp hi
    have := List.mem_range.mp hk
    omega), List.map_map]
  exact congrArg List.toArray (rev_get its .none)
def tRevL (K : PySem.W.Frag) (te : TE) : TE := fun σ H Q => te σ H fun x H1 => ∃ (a : Addr) (xs : List V), x = .ref a ∧ SqL K H1 a xs ∧ ∀ q, H1 q = none → Q (.ref q) (upd H1 q (.lst xs.reverse))
theorem pe_revL {X : Cx} {e : Expr} {te : TE} {k : Nat} {p1 p2 p3 pos : Pos} (he : PE X e te) :
    PE X (.Subscript e (.Slice none none (some (.UnaryOp .USub (.Constant (.int 1) k p1) p2)) p3) pos) (tRevL X.K te) := by
  constructor
  intro pins s σ H Q I h
  apply Subscript_
  refine thn (he.run pins s σ H _ I h) ?_
  rintro v s1 ⟨x, H1, I1, r1, a, xs, rfl, hq, q⟩
  obtain rfl : v = Value.ref a := r1
  have hst : PO X (some (.UnaryOp .USub (.Constant (.int 1) k p1) p2)) _ := po_some (pe_un un_neg pe_int)
  apply wpAny_Slice
  refine thn (po_none.run pins s1 σ H1 (fun o H2 => o = none ∧ H2 = H1) I1 ⟨rfl, rfl⟩) ?_
  rintro vl s2 ⟨l, H2, I2, pl, rfl, rfl⟩
  refine thn (po_none.run pins s2 σ _ (fun o H3 => o = none ∧ H3 = H2) I2 ⟨rfl, rfl⟩) ?_
  rintro vu s3 ⟨u, H3, I3, pu, rfl, rfl⟩
  refine thn (hst.run pins s3 σ _ (fun o H4 => o = some (-1) ∧ H4 = H3) I3 ⟨1, rfl, -1, rfl, rfl, rfl⟩) ?_
  rintro vs s4 ⟨o, H4, I4, pz, rfl, rfl⟩
  have I5 := I4.kept (t' := s4.toks) (h' := s4.heap.push { cls := .type "slice", data := .fields #[vl, vu, vs] }) fun b ob g => Heap.get?_push_of_some _ g
  obtain ⟨its, rv, p', hz⟩ := I5.list hq
  have hl := rv.length
  refine tail_any (ops := [.ref a, .ref s4.heap.objs.size]) p'.isList.typeIs F.slot_list_getitem.lookup ?_ (by with_unfolding_all rfl)
  refine wpAny_getItem_list_slice p'.isList (Heap.IsSliceOf.new ..) pl pu pz (by simp) ?_ (by rw [List.size_toArray]; omega)
  rw [pick_revL]
  refine ⟨.ref _, _, I5.laid (t' := s4.toks) (o := .lst xs.reverse) (fun b ob g => Heap.get?_push_of_some _ g) (Nat.le_refl _) ?_, rfl, q _ (I5.hok.fresh (Nat.le_refl _))⟩
  exact ⟨by rw [List.length_reverse]; exact hz, its.reverse, 0, rv.reverse, Heap.get?_push_size _ rfl⟩
end Ev
set_option maxHeartbeats 4000000
namespace LawK
open PySem PySem.Spec PyProof.Rows L2 Ev

abbrev cd (z : Str) : Sg := z.cps.toList
theorem cd_len (z : Str) : (cd z).length = z.length := (len_S z).symm
theorem cd_inj {a b : Str} (h : cd a = cd b) : a = b := by rw [← S_eta a, ← S_eta b]; exact congrArg SX.S h
theorem dec_cd {a b : Str} : decide (V.str a = V.str b) = decide (cd a = cd b) := decide_eq_decide.mpr ⟨fun h => by rw [V.str.inj h], fun h => by rw [cd_inj h]⟩
theorem cut_sl {z : Str} {a b : Nat} (h : a ≤ b) : cd (cutS z (some (a : Int)) (some (b : Int))) = sl (cd z) a b := by
  have := cutS_of (z := z) (i := (a : Int)) (j := (b : Int)) (by omega) (by omega)
  rw [show ((a : Int)).toNat = a by omega, show ((b : Int) - (a : Int)).toNat = b - a by omega] at this
  unfold sl cd
  rw [this, List.drop_take]
theorem cut_to {z : Str} {b : Nat} : cd (cutS z none (some (b : Int))) = sl (cd z) 0 b := by
  unfold sl cd
  rw [cutS_to (by omega), List.drop_zero]
  rfl
theorem cut_from {z : Str} {a : Nat} : cd (cutS z (some (a : Int)) none) = sl (cd z) a z.length := by
  unfold sl cd
  rw [cutS_from (by omega), len_S, List.take_of_length_le (Nat.le_refl _)]
  rfl
def perB (x : Sg) (a b q : Nat) : Bool := decide (sl x (a + q) b = sl x a (b - q))
theorem perB_iff {x : Sg} {a b q : Nat} (h : b ≤ x.length) (l : a + q ≤ b) : perB x a b q = true ↔ Per x a b q := by
  unfold perB
  rw [decide_eq_true_iff]
  exact per_sl h l
def spHasP : Sp := fun vs H Q _ => ∃ (z : Str) (a b q : Nat), vs = [.str z, .int (a : Nat), .int (b : Nat), .int (q : Nat)] ∧ z.length ≤ 2000 ∧ b ≤ z.length ∧ a + q ≤ b ∧ Q (.bl (perB (cd z) a b q)) H
/-- the periods of the whole -/
def persN (x : Sg) (i : Nat) : List Nat := ((List.range i).map (· + 1)).filter fun q => perB x 0 x.length q
def pers (x : Sg) : List Nat := persN x x.length
theorem persN_y {x : Sg} {i : Nat} (h : perB x 0 x.length (i + 1) = true) : persN x (i + 1) = persN x i ++ [i + 1] := by
  unfold persN
  rw [List.range_succ, List.map_append, List.filter_append]
  congr 1
  rw [List.map_cons, List.map_nil, List.filter_cons_of_pos h]
  rfl
theorem persN_n {x : Sg} {i : Nat} (h : ¬ perB x 0 x.length (i + 1) = true) : persN x (i + 1) = persN x i := by
  unfold persN
  rw [List.range_succ, List.map_append, List.filter_append, List.map_cons, List.map_nil, List.filter_cons_of_neg h]
  exact List.append_nil _
theorem persN_le (x : Sg) (i : Nat) : (persN x i).length ≤ i := by
  have := List.length_filter_le (fun q => perB x 0 x.length q) ((List.range i).map (· + 1))
  rw [List.length_map, List.length_range] at this
  exact this
def spPers : Sp := fun vs H Q _ => ∃ (z : Str), vs = [.str z] ∧ z.length ≤ 2000 ∧ ∀ D H', H D = none → H' D = some (.lst ((pers (cd z)).map fun q => V.int (q : Nat))) → Same H H' → Q (.ref D) H'
theorem take_snoc {α : Type} {xs : List α} {i : Nat} {x : α} (h : xs[i]? = some x) : xs.take (i + 1) = xs.take i ++ [x] := by rw [List.take_succ, h]; rfl
theorem range_snoc {α : Type} (f : Nat → α) (i : Nat) : (List.range (i + 1)).map f = (List.range i).map f ++ [f i] := by rw [List.range_succ, List.map_append]; rfl
section
variable {P : Program} {w : World} {K : PySem.W.Frag} {mg : Str → Option Value} {base : Heap}
abbrev sQHas : Stmt := topS 11
theorem scQHas : FnScope ["text", "first", "behind", "many"] ["text", "first", "behind", "many"] (defScope sQHas) := ⟨rfl, rfl, rfl, by decide +kernel, rfl, by decide +kernel, by decide +kernel⟩
theorem ok_QHas {f : Addr} {fd : FuncData} (F : Fun K "_has_period" "_has_period" sQHas f fd)   (T : Glob mg) : FnOk P w K mg base CX0 1 f fd ["text", "first", "behind", "many"] spHasP := by
  refine F.ok scQHas (fun vs H Q E h => ?_) (fun cdv A outer s H vs Q E hr h => ?_)
  · obtain ⟨z, a, b, q, rfl, _⟩ := h
    rfl
  · refine ⟨_, (pss_one (ps_ret (pe_cmpR op_eq (pe_slice sl_str (pv 0) (po_some (pe_op op_add (pv 1) (pv 3))) (po_some (pv 2))) (pe_slice sl_str (pv 0) (po_some (pv 1)) (po_some (pe_op op_sub (pv 2) (pv 3)))) (nomark _)))), ?_⟩
    obtain ⟨z, a, b, m, rfl, lz, lb, l, q⟩ := h
    refine ⟨.str z, rfl, .int a, rfl, .int m, rfl, _, _, rfl, rfl, _, rfl, .int b, rfl, _, rfl, z, rfl, len6 lz, .str z, rfl, .int a, rfl, _, rfl, .int b, rfl, .int m, rfl, _, _, rfl, rfl, _, rfl, z, rfl, len6 lz, rfl, ?_⟩
    have e1 : ((a : Nat) : Int) + ((m : Nat) : Int) = ((a + m : Nat) : Int) := by omega
    have e2 : ((b : Nat) : Int) - ((m : Nat) : Int) = ((b - m : Nat) : Int) := by omega
    rw [e1, e2, dec_cd, cut_sl l, cut_sl (by omega)]
    exact q
abbrev sQPeriods : Stmt := topS 12
theorem scQPeriods : FnScope ["text", "many"] ["text"] (defScope sQPeriods) := ⟨rfl, rfl, rfl, by decide +kernel, rfl, by decide +kernel, by decide +kernel⟩
theorem ok_QPeriods {f : Addr} {fd : FuncData} (F : Fun K "_periods" "_periods" sQPeriods f fd)  {fQHas : Addr} {fdQHas : FuncData} (DQHas : Dk P w K mg base "_has_period" sQHas ["text", "first", "behind", "many"] 1 spHasP fQHas fdQHas) (T : Glob mg) : FnOk P w K mg base CX0 2 f fd ["text"] spPers := by
  refine F.ok scQPeriods (fun vs H Q E h => ?_) (fun cdv A outer s H vs Q E hr h => ?_)
  · obtain ⟨z, rfl, _⟩ := h
    rfl
  · refine ⟨_, (pss_one (ps_ret (pe_lc (own := [("many", 1)]) (g := gName 1) (by rfl) scQPeriods.nd (pi_range2 (by rfl) T.range (pa_cons pe_int (pa_cons (pe_op op_add (pe_callB call_lenZ (by rfl) T.len PySem.boot_len (pa_cons (pv 0) pa_nil)) pe_int) pa_nil))) (blkOk_by (N := ["text", "many"]) (sc := defScope sQPeriods) (by decide +kernel)) (fun _ _ _ _ _ => pg_name (i := 1) scQPeriods.nd rfl (.inl rfl)) (fun _ _ _ _ _ => (pts_one (pt_val (pe_call DQHas.ok (hr.mono (by decide)) (by rfl) DQHas.g DQHas.F.kp DQHas.b .nil pass0 (pa_cons (pv 0) (pa_cons pe_int (pa_cons (pe_callB call_lenZ (by rfl) T.len PySem.boot_len (pa_cons (pv 0) pa_nil)) (pa_cons (pv 1) pa_nil)))))))) (fun _ _ _ _ _ => (pv 1))))), ?_⟩
    obtain ⟨z, rfl, lz, q⟩ := h
    have lc := cd_len z
    refine ⟨.str z, rfl, z, rfl, len6 lz, _, _, rfl, rfl, _, _, rfl, ⟨by omega, by omega, by omega, by omega⟩, fun D nD => lc_range (fun i H' => H' D = some (.lst ((persN (cd z) i).map fun q => V.int (q : Nat))) ∧ Same H H') ⟨upd_same, Same.new nD⟩ ?_ ?_⟩
    · rintro i H2 hi ⟨hD, k2⟩
      have hi : i < z.length := by omega
      refine ⟨rfl, .str z, rfl, .str z, rfl, z, rfl, len6 lz, _, rfl, z, 0, z.length, i + 1, ?_, lz, Nat.le_refl _, by omega, _, rfl, ?_⟩
      · rw [show (1 : Int) + (i : Int) = ((i + 1 : Nat) : Int) by omega]
        rfl
      · dsimp only
        rw [← lc]
        refine ite2 (fun c => ?_) (fun c => ?_)
        · refine ⟨_, rfl, _, hD, ?_, ?_, sameAt k2 nD⟩
          · have h1 := persN_le (cd z) i
            rw [List.length_map, sizeLine_eq]
            omega
          · rw [upd_same, persN_y c, List.map_append, show (1 : Int) + (i : Int) = ((i + 1 : Nat) : Int) by omega]
            rfl
        · rw [persN_n c]
          exact ⟨hD, k2⟩
    · rintro H2 ⟨hD, k2⟩
      refine q D H2 nD ?_ k2
      rw [hD]
      unfold pers
      rw [show (((z.length : Nat) : Int) + 1 - 1).toNat = (cd z).length by omega]
end
end LawK
set_option maxHeartbeats 4000000
namespace Ev
open PySem PySem.Spec PyProof.Rows L2
/-! d.setdefault(k, x) of a dict whose keys are tuples -/
def tSetdT (td ty tx : TE) : TE := fun σ H Q => td σ H fun x H1 => ∃ a, x = .ref a ∧ IsD H1 a ∧ ty σ H1 fun y H2 => tx σ H2 fun z H3 => ∃ (kvs : List (List Key × V)) (k : List Key) (b : Addr), H3 a = some (.dT kvs) ∧ y = .ref b ∧ H3 b = some (.tup (k.map kV)) ∧ kvs.length < sizeLine ∧
  (∀ v, valV kvs k = some v → Q v H3) ∧ (valV kvs k = none → Q z (upd H3 a (.dT (putK kvs k z))))
section
variable {X : Cx} {o e f : Expr} {td ty tx : TE} {apos cpos : Pos} {k : Nat}
theorem pe_setdT (hu : X.A.units + 1 < cLine) (ho : PE X o td) (he : PE X e ty) (hf : PE X f tx) (m : M2 X o "setdefault" apos e f cpos) : PE X (.Call (.Attribute o "setdefault" apos) [e, f] [] cpos) (tSetdT td ty tx) := by
  refine ⟨fun pins s σ H Q I h => ?_⟩
  refine wpAny_Call_method m.base m.few m.line PySem.F.plainAttrs_dict PySem.F.slot_dict_setdefault PySem.F.type_dict_setdefault ?_
  refine thn (ho.run pins s σ H _ I h) fun u s1 ⟨x, H1, I1, rx, a, ex, d, q1⟩ => ?_
  subst ex
  obtain rfl : u = Value.ref a := rx
  obtain ⟨t1, t2, _⟩ := isD_at I1 d
  refine ⟨t1, t2, ?_⟩
  rw [m.trees]
  refine Calls.callWith_builtin rfl (Calls.evalArgs_plain (Calls.spliced_cons ?_))
  refine thn (he.run pins s1 σ H1 _ I1 q1) fun iv s2 ⟨y, H2, I2, ry, q2⟩ => ?_
  refine Calls.spliced_cons (thn (hf.run pins s2 σ H2 _ I2 q2) fun fv s3 hz => Calls.spliced_nil ?_)
  obtain ⟨z, H3, I3, rz, kvs, k, b, ea, ey, eb, hl, q3, q4⟩ := hz
  subst ey
  cases (show iv = Value.ref b from ry)
  obtain ⟨zz, hd, xs, rel, dd⟩ := dt_of I3.hok ea
  have lx : xs.length ≤ sizeLine := by
    have := Paired.length rel
    omega
  have vk := rel.val k
  refine call_setdefault_heap (hsz := lx) (tupleKind_room_in1 hu) (key_of I3.hok eb) hd dd (fun p hp => ?_) fun hn h' dd' hs => ?_
  · rw [hp] at vk
    cases q0 : valV kvs k with
    | none =>
      rw [q0] at vk
      exact (show False from vk).elim
    | some v0 =>
      rw [q0] at vk
      exact ⟨v0, _, I3.tok _, vk, q3 v0 q0⟩
  · rw [hn] at vk
    cases q0 : valV kvs k with
    | some v0 =>
      rw [q0] at vk
      exact (show False from vk).elim
    | none =>
      have l2 : (putK kvs k z).length ≤ sizeLine := by
        have := length_putK kvs k z
        omega
      have kt := rel.put k eb rz
      obtain ⟨w1, es, ep, hq, h2, h3, h4, _, h5⟩ := dd'
      refine ⟨z, _, d_write (ob := .dT (putK kvs k z)) I3 (by rw [ea]; exact True.intro) hs ⟨w1, hq⟩ ⟨l2, hd, _, kt.keeps fun c ys ec => ?_, w1, es, ep, hq, h2, h3, h4, h5⟩, rz, q4 q0⟩
      rw [upd_ne (ne_of ec ea (fun z => nomatch z))]
      exact ec
end
end Ev
set_option maxHeartbeats 4000000
namespace Ev
open PySem PySem.Spec PyProof.Rows L2
/-! for .. in d.items() of a locked dict whose keys are tuples: each a new pair of the key's own tuple and the value -/
def ItiT (d : Addr) (o : Obj) (kvs : List (List Key × V)) : It where
  go := fun i H => H d = some (.frz o (.dT kvs)) ∧ i < kvs.length
  yld := fun i H x H' => ∃ (T : Addr) (k : List Key) (v : V) (q : Addr), kvs[i]? = some (k, v) ∧ x = .ref T ∧ H T = none ∧ H q = some (.tup (k.map kV)) ∧ H' = upd H T (.tup [.ref q, v])
  stop := fun i H => H d = some (.frz o (.dT kvs)) ∧ kvs.length ≤ i
section
variable {X : Cx} {pins : List (Addr × Obj)} {σ : L2.St} {H : Hp} {s : Shared} {d : Addr} {o : Obj}
theorem frzT_all {kvs : List (List Key × V)} (I : L2.Inv X pins σ H s) (h : H d = some (.frz o (.dT kvs))) :
    (d == sysModules) = false ∧ ∃ (es : Array DictEntry) (ep : Nat), DT.Raw s.heap d es ep ∧ s.heap.get? d = some o ∧ o.data = .dict es ep ∧ es.size = kvs.length ∧
      ∀ (i : Nat) (k : List Key) (v : V), kvs[i]? = some (k, v) → ∃ (en : DictEntry) (q : Addr), es[i]? = some en ∧ en.key = .ref q ∧ H q = some (.tup (k.map kV)) ∧ RelV v en.val := by
  obtain ⟨hd, z, hs, xs, pr, o', es, ep, ho, hx, hdt, he, _⟩ := I.hok d _ h
  rw [hd] at ho
  cases ho
  refine ⟨hs, es, ep, ⟨o, hd, hx, hdt⟩, hd, hdt, ?_, fun i k v e => ?_⟩
  · have l1 : es.size = xs.length := size_of_entries he
    have l2 : kvs.length = xs.length := Paired.length pr
    omega
  · obtain ⟨b, hb, e1, e2, e3⟩ := paired_get pr e
    have q := entry_at he i
    rw [hb] at q
    exact ⟨_, b.2.1, q, rfl, e2, e3⟩
end
section
variable {P : Program} {w : World} {K : PySem.W.Frag} {d : Addr} {o : Obj} {es : Array DictEntry} {ep : Nat}
theorem turn_itemsT {kvs : List (List Key × V)} {elts : List Expr} {kk : Nat} {tpos : Pos} (it : Addr) (hod : o.data = .dict es ep) :
    Turn P w K (.Tuple elts kk tpos) (ItiT d o kvs) [it] it (fun i h => ∃ ok ov, IsItemIter h it d i kvs.length ep ok ov) where
  mem := List.mem_singleton.mpr rfl
  obj := fun i h st b hb => by
    obtain ⟨ok, ov, e⟩ := st
    rw [List.mem_singleton.mp hb]
    exact ⟨_, e, fun v z => nomatch z⟩
  keep := fun i h h' st k => let ⟨ok, ov, e⟩ := st; ⟨ok, ov, k it (List.mem_singleton.mpr rfl) _ e⟩
  self := fun A i s Q E st h => let ⟨_, _, e⟩ := st; PySem.W.kcp_self e h
  done := by
    intro X hP hw hK hc i pins s σ H E I hf st hg
    subst hP hw hK
    obtain ⟨f0, f1, f2, f3, f4, f5⟩ := hf it (List.mem_singleton.mpr rfl)
    obtain ⟨hs, es', ep', raw, hgd, hdt, hsz, ent⟩ := frzT_all I hg.1
    obtain ⟨rfl, rfl⟩ := dict_ep hod hdt
    obtain ⟨ok, ov, he⟩ := st
    rw [← hsz] at he
    exact DT.endI (I.ok.hd hc) he raw (by have := hg.2; omega) fun h' eb => ⟨rfl, I.turned (t' := s.toks) (fun b ob hb e => eb b ob hb e) f0 f1 f3 f4 f5⟩
  item := by
    intro X hP hw hK hc i pins s σ H E I hf st hg
    subst hP hw hK
    obtain ⟨hs, es', ep', raw, hgd, hdt, hsz, ent⟩ := frzT_all I hg.1
    obtain ⟨rfl, rfl⟩ := dict_ep hod hdt
    have hi : i < es'.size := by rw [hsz]; exact hg.2
    obtain ⟨k, v, hkv⟩ : ∃ k v, kvs[i]? = some (k, v) := ⟨_, _, List.getElem?_eq_getElem hg.2⟩
    obtain ⟨en, q, hen, ek, hq, rv⟩ := ent i k v hkv
    have een : es'[i] = en := by
      rw [Array.getElem?_eq_getElem hi] at hen
      exact Option.some.inj hen
    obtain ⟨ok, ov, he⟩ := st
    rw [← hsz] at he
    have hlt : it < s.heap.objs.size := Heap.lt_size he
    refine DT.nextI he raw hi fun h' ho hT hz hk => ?_
    rw [een] at ho hT
    refine ⟨_, rfl, wpAny_letOwnedTupleGo_items (s := { s with heap := h' }) ho fun h'' he' sb => ?_⟩
    have hT2 : h''.get? s.heap.objs.size = some { cls := .type "tuple", data := .seq #[en.key, en.val] } := (sb.2 _ (Nat.ne_of_gt hlt)).trans hT
    have new : ObjOk X.prog X.w (upd H s.heap.objs.size (.tup [.ref q, v])) h'' s.heap.objs.size (.tup [.ref q, v]) :=
      ⟨by show 2 ≤ sizeLine; decide, [en.key, en.val], .cons ek (.cons rv .nil), ⟨_, hT2, rfl, _, rfl⟩⟩
    have I1 : L2.Inv X pins σ (upd H s.heap.objs.size (.tup [.ref q, v])) { s with heap := h'' } :=
      I.turnedNew (t' := s.toks) (ch := [it]) (fun b ob hb e => (sb.2 b (by simpa using hb)).trans (hk b ob (by simpa using hb) e)) hf (Nat.le_refl _) new
    refine ⟨.ref s.heap.objs.size, _, I1, rfl, ⟨_, k, v, q, hkv, rfl, I.hok.fresh (Nat.le_refl _), hq, rfl⟩, ⟨en.key, en.val, ?_⟩, fun b hb => ?_⟩
    · rw [← hsz]
      exact he'
    · rw [List.mem_singleton.mp hb, upd_ne (Nat.ne_of_lt hlt)]
      exact (hf it (List.mem_singleton.mpr rfl)).1
end
def iItemsT (td : TE) : TI := fun σ H R => td σ H fun x H1 => ∃ d o kvs, x = .ref d ∧ H1 d = some (.frz o (.dT kvs)) ∧ R (ItiT d o kvs) H1
section
variable {X : Cx} {tg e : Expr} {td : TE} {apos cpos : Pos}
theorem pi_itemsT {elts : List Expr} {kk : Nat} {tpos : Pos} (he : PE X e td) (hbase : attributeBase e "items" X.env (eval e X.env) = eval e X.env := by rfl) (hline : (apos.endLine == cpos.line) = true := by rfl) :
    PI X (.Tuple elts kk tpos) (.Call (.Attribute e "items" apos) [] [] cpos) (iItemsT td) := by
  refine ⟨fun pins s σ H R I h => ?_⟩
  refine wpAny_Call_method (T := "dict") (id := "dict.items") hbase rfl hline F.plainAttrs_dict F.slot_dict_items F.type_dict_items ?_
  refine thn (he.run pins s σ H _ I h) fun u s1 ⟨x, H1, I1, rx, d, o, kvs, ex, hd, q⟩ => ?_
  subst ex
  obtain rfl : u = Value.ref d := rx
  obtain ⟨hs, es, ep, raw, hgd, hdt, hsz, ent⟩ := frzT_all I1 hd
  have hx : o.ExactDict := by
    obtain ⟨o2, h1, h2, h3⟩ := raw
    rw [hgd] at h1
    cases h1
    exact h2
  refine ⟨raw.typeIs, (fun b q => by cases q; exact ⟨o, hgd, hx.2.1⟩), ?_⟩
  have I2 : L2.Inv X pins σ H1 { s1 with heap := s1.heap.push { cls := .type "dict_items", data := .fields #[.ref d] } } := I1.kept (t' := s1.toks) fun b ob q => Heap.get?_push_of_some _ q
  show wpAny _ _ (callWith cpos (.builtin "dict.items") [.ref d] [] []) _ X.xe s1
  refine method_meetsIn F.slot_dict_items F.entry_dict_items rfl (PySem.evalArgs_none ⟨rfl, raw.typeIs, F.args_dict_items_1 _, _, DT.meetsItems (es := es) (ep := ep) hs, ⟨raw, ?_⟩⟩)
  refine DT.iterI (d := d) ⟨_, Heap.get?_push_size _ rfl, rfl, rfl⟩ (raw.push _) ?_
  refine pi_one (tk := s1.toks) I2 _ (turn_itemsT _ hdt) ⟨.none, .none, ?_⟩ q
  rw [hsz]
  exact Heap.get?_push_size _ rfl
end
theorem walk_itemsT {d : Addr} {o : Obj} {kvs : List (List Key × V)} : Walk (ItiT d o kvs) kvs.length (fun H => H d = some (.frz o (.dT kvs))) (fun i H x H' => ∃ (T : Addr) (k : List Key) (v : V) (q : Addr), kvs[i]? = some (k, v) ∧ x = .ref T ∧ H T = none ∧ H q = some (.tup (k.map kV)) ∧ H' = upd H T (.tup [.ref q, v])) := by
  exact ⟨fun _ _ hi q => ⟨q, hi⟩, fun _ q => ⟨q, Nat.le_refl _⟩, fun _ _ _ _ _ _ y => y⟩
end Ev
set_option maxHeartbeats 4000000
namespace LawK
open PySem PySem.Spec PyProof.Rows L2 Ev

theorem ps_dead {X : Cx} {st : Stmt} : PS X st (fun _ _ _ => False) := ⟨fun pins s σ H D I q => q.elim⟩
theorem Mx.at_end {x : Sg} {a b f m : Nat} (h : Mx x a b m) (p : Per x f b m) (lf : f = 0 ∨ x[f - 1]? ≠ x[f - 1 + m]?) (l : f + m ≤ b) : a = f := by
  have two := h.two
  rcases Nat.lt_trichotomy a f with g | g | g
  · rcases lf with z | z
    · omega
    · exact absurd (h.pr (f - 1) (by omega) (by omega)) z
  · exact g
  · rcases h.lf with z | z
    · omega
    · exact absurd (p (a - 1) (by omega) (by omega)) z
def PrAt (H : Hp) (v : V) (p : Nat × Nat) : Prop := ∃ b, v = .ref b ∧ H b = some (.tup [.int (p.1 : Nat), .int (p.2 : Nat)])
theorem PrAt.same {H H' : Hp} {v : V} {p : Nat × Nat} (k : Same H H') (h : PrAt H v p) : PrAt H' v p := let ⟨b, e, r⟩ := h; ⟨b, e, k _ _ r⟩
theorem PrAt.put {H : Hp} {D : Addr} {xs : List V} {o : HO} {v : V} {p : Nat × Nat} (hD : H D = some (.lst xs)) (h : PrAt H v p) : PrAt (upd H D o) v p := by
  obtain ⟨b, e, r⟩ := h
  refine ⟨b, e, ?_⟩
  rw [upd_ne]
  · exact r
  · intro z
    rw [z, hD] at r
    cases r
def spStr : Sp := fun vs H Q _ => ∃ (z : Str) (m : Nat), vs = [.str z, .int (m : Nat)] ∧ z.length ≤ 2000 ∧ 0 < m ∧ m ≤ z.length ∧ ∀ D ts ps H', H' D = some (.lst ts) → All2 (PrAt H') ts ps → ts.length ≤ 2001 → (∀ p : Nat × Nat, p ∈ ps ↔ Mx (cd z) p.1 p.2 m) → Same H H' → H D = none → Q (.ref D) H'
def bords (z : Str) : List Str := ((pers (cd z)).reverse.filter fun q => decide (q < z.length)).map fun q => cutS z none (some (((z.length - q : Nat)) : Int))
def spPeriods : Sp := fun vs H Q _ => ∃ (z : Str), vs = [.str z] ∧ sgB z = true ∧ z.length ≤ 2000 ∧ ∀ t H', H' t = some (.tup ((pers (cd z)).map fun q => V.int (q : Nat))) → Same H H' → Q (.ref t) H'
def spBorders : Sp := fun vs H Q _ => ∃ (z : Str), vs = [.str z] ∧ sgB z = true ∧ z.length ≤ 2000 ∧ ∀ D H', H' D = some (.lst ((bords z).map V.str)) → Same H H' → Q (.ref D) H'
theorem sg_ix {z : Str} {a : Nat} (h : a < z.length) : ∃ c, (cd z)[a]? = some c ∧ atI z.cps.toList (a : Int) = some c := by
  rw [len_S] at h
  exact ⟨_, List.getElem?_eq_getElem h, atI_nat (List.getElem?_eq_getElem h)⟩
theorem pers_len (z : Str) : (pers (cd z)).length ≤ z.length := by
  have := persN_le (cd z) (cd z).length
  rw [cd_len z] at this
  unfold pers
  rw [cd_len z]
  exact this
theorem one_sign {c d : Nat} : (!decide (V.str (SX.S [c]) = V.str (SX.S [d]))) = decide (c ≠ d) := by
  by_cases h : c = d
  · rw [h]
    simp
  · have : ¬ V.str (SX.S [c]) = V.str (SX.S [d]) := fun e => by
      have e := congrArg (fun s : Str => s.cps.toList) (V.str.inj e)
      have e : [c] = [d] := e
      injection e with e
      exact h e
    rw [decide_eq_false this, decide_eq_true h]
    rfl
section
variable {P : Program} {w : World} {K : PySem.W.Frag} {mg : Str → Option Value} {base : Heap}
abbrev sPPeriods : Stmt := topS 13
theorem scPPeriods : FnScope ["text"] ["text"] (defScope sPPeriods) := ⟨rfl, rfl, rfl, by decide +kernel, rfl, by decide +kernel, by decide +kernel⟩
theorem ok_PPeriods {f : Addr} {fd : FuncData} (F : Fun K "periods" "periods" sPPeriods f fd)  {fQPeriods : Addr} {fdQPeriods : FuncData} (DQPeriods : Dk P w K mg base "_periods" sQPeriods ["text"] 2 spPers fQPeriods fdQPeriods) {fPText : Addr} {fdPText : FuncData} (DPText : Dk P w K mg base "is_text" sPText ["thing"] 2 spTextY fPText fdPText) (T : Glob mg) : FnOk P w K mg base CX0 3 f fd ["text"] spPeriods := by
  refine F.ok scPPeriods (fun vs H Q E h => ?_) (fun cdv A outer s H vs Q E hr h => ?_)
  · obtain ⟨z, rfl, _⟩ := h
    rfl
  · refine ⟨_, (pss_cons (ps_if (pt_not (pt_val (pe_call DPText.ok (hr.mono (by decide)) (by rfl) DPText.g DPText.F.kp DPText.b .nil pass0 (pa_cons (pv 0) pa_nil))))
      (pss_one ps_dead)
      pss_nil)
      (pss_one (ps_ret (pe_callTy call_tuple_of (by rfl) T.tuple (by decide +kernel) (pa_cons (pe_call DQPeriods.ok (hr.mono (by decide)) (by rfl) DQPeriods.g DQPeriods.F.kp DQPeriods.b .nil pass0 (pa_cons (pv 0) pa_nil)) pa_nil))))), ?_⟩
    obtain ⟨z, rfl, sz, lz, q⟩ := h
    refine ⟨.str z, rfl, z, rfl, sz, lz, _, rfl, iteF ?_⟩
    refine ⟨.str z, rfl, z, rfl, lz, fun D H1 nD hD k1 => ⟨D, _, rfl, .inl ⟨sq_of hD, fun t nt => ?_⟩⟩⟩
    exact q t _ upd_same (k1.trans (Same.new nt))
abbrev sPBorders : Stmt := topS 14
theorem scPBorders : FnScope ["text", "many"] ["text"] (defScope sPBorders) := ⟨rfl, rfl, rfl, by decide +kernel, rfl, by decide +kernel, by decide +kernel⟩
theorem ok_PBorders {f : Addr} {fd : FuncData} (F : Fun K "borders" "borders" sPBorders f fd)  {fQPeriods : Addr} {fdQPeriods : FuncData} (DQPeriods : Dk P w K mg base "_periods" sQPeriods ["text"] 2 spPers fQPeriods fdQPeriods) {fPText : Addr} {fdPText : FuncData} (DPText : Dk P w K mg base "is_text" sPText ["thing"] 2 spTextY fPText fdPText) (T : Glob mg) : FnOk P w K mg base CX0 3 f fd ["text"] spBorders := by
  refine F.ok scPBorders (fun vs H Q E h => ?_) (fun cdv A outer s H vs Q E hr h => ?_)
  · obtain ⟨z, rfl, _⟩ := h
    rfl
  · refine ⟨_, (pss_cons (ps_if (pt_not (pt_val (pe_call DPText.ok (hr.mono (by decide)) (by rfl) DPText.g DPText.F.kp DPText.b .nil pass0 (pa_cons (pv 0) pa_nil))))
      (pss_one ps_dead)
      pss_nil)
      (pss_one (ps_ret (pe_lc (own := [("many", 1)]) (g := gName 1) (by rfl) scPBorders.nd (RT.pi_revA (by rfl) T.reversed (pe_call DQPeriods.ok (hr.mono (by decide)) (by rfl) DQPeriods.g DQPeriods.F.kp DQPeriods.b .nil pass0 (pa_cons (pv 0) pa_nil))) (blkOk_by (N := ["text", "many"]) (sc := defScope sPBorders) (by decide +kernel)) (fun _ _ _ _ _ => pg_name (i := 1) scPBorders.nd rfl (.inl rfl)) (fun _ _ _ _ _ => (pts_one (pt_cmpR op_lt (pv 1) (pe_callB call_lenZ (by rfl) T.len PySem.boot_len (pa_cons (pv 0) pa_nil)) (nomark _)))) (fun _ _ _ _ _ => (pe_slice sl_str (pv 0) po_none (po_some (pe_op op_sub (pe_callB call_lenZ (by rfl) T.len PySem.boot_len (pa_cons (pv 0) pa_nil)) (pv 1))))))))), ?_⟩
    obtain ⟨z, rfl, sz, lz, q⟩ := h
    have lp := pers_len z
    refine ⟨.str z, rfl, z, rfl, sz, lz, _, rfl, iteF ?_⟩
    refine ⟨.str z, rfl, z, rfl, lz, fun A H1 nA hA k1 => ?_⟩
    have lxs : ((pers (cd z)).map fun q => V.int ((q : Nat) : Int)).length = (pers (cd z)).length := List.length_map _
    refine ⟨A, _, rfl, .inl ⟨sq_of hA, fun D nD => lc_it (walk_rev (K := K) (xs := (pers (cd z)).map fun q => V.int ((q : Nat) : Int))) (fun i H' => Same H1 H' ∧ H' D = some (.lst ((((((pers (cd z)).reverse.take i).filter fun q => decide (q < z.length)).map fun q => cutS z none (some (((z.length - q : Nat)) : Int)))).map V.str))) ⟨Same.new nD, upd_same⟩ (fun i H' _ w => sq_of (w.1 _ _ hA)) ?_ ?_⟩⟩
    · rintro i x H2 H3 hi ⟨k2, hD⟩ ⟨rfl, hx⟩
      rw [lxs] at hi hx
      rw [List.getElem?_map] at hx
      obtain ⟨m, hm, rfl⟩ := Option.map_eq_some_iff.mp hx
      have hr : (pers (cd z)).reverse[i]? = some m := by
        rw [List.getElem?_reverse hi]
        exact hm
      refine ⟨rfl, .int (m : Nat), rfl, .str z, rfl, z, rfl, len6 lz, _, _, rfl, rfl, _, rfl, ?_⟩
      dsimp only
      rw [take_snoc hr, List.filter_append]
      refine ite2 (fun c => ?_) fun c => ?_
      · have c : m < z.length := by
          have c := of_decide_eq_true c
          omega
        refine ⟨.str z, rfl, .str z, rfl, z, rfl, len6 lz, .int (m : Nat), rfl, _, _, rfl, rfl, _, rfl, z, rfl, len6 lz, _, hD, ?_, sameAt k2 nD, ?_⟩
        · have h1 := List.length_filter_le (fun q => decide (q < z.length)) ((pers (cd z)).reverse.take i)
          rw [List.length_take] at h1
          rw [List.length_map, List.length_map, sizeLine_eq]
          omega
        · rw [upd_same, List.filter_cons_of_pos (by exact decide_eq_true c), List.filter_nil, List.map_append, List.map_append, show ((z.length : Nat) : Int) - ((m : Nat) : Int) = ((z.length - m : Nat) : Int) by omega]
          rfl
      · have c : ¬ m < z.length := fun e => c (decide_eq_true (by omega))
        rw [List.filter_cons_of_neg (by simp [c]), List.filter_nil, List.append_nil]
        exact ⟨k2, hD⟩
    · rintro H2 ⟨k2, hD⟩
      refine q D H2 ?_ (k1.trans k2)
      rw [hD]
      unfold bords
      rw [List.take_of_length_le (by rw [List.length_reverse, lxs]; exact Nat.le_refl _)]
abbrev sQStretches : Stmt := topS 15
theorem scQStretches : FnScope ["text", "many", "found", "first", "at"] ["text", "many"] (defScope sQStretches) := ⟨rfl, rfl, rfl, by decide +kernel, rfl, by decide +kernel, by decide +kernel⟩
theorem ok_QStretches {f : Addr} {fd : FuncData} (F : Fun K "_stretches" "_stretches" sQStretches f fd)   (T : Glob mg) : FnOk P w K mg base CX0 1 f fd ["text", "many"] spStr := by
  refine F.ok scQStretches (fun vs H Q E h => ?_) (fun cdv A outer s H vs Q E hr h => ?_)
  · obtain ⟨z, m, rfl, _⟩ := h
    rfl
  · refine ⟨_, (pss_cons (ps_set (i := 2) scQStretches.nd rfl (.inl rfl) (pe_lst pa_nil))
      (pss_cons (ps_set (i := 3) scQStretches.nd rfl (.inl rfl) pe_int)
      (pss_cons (ps_for PassesOwn.never rfl (pi_range1 (by rfl) T.range (pa_cons (pe_op op_add (pe_op op_sub (pe_callB call_lenZ (by rfl) T.len PySem.boot_len (pa_cons (pv 0) pa_nil)) (pv 1)) pe_int) pa_nil)) (pg_name (i := 4) scQStretches.nd rfl (.inl rfl))
      (pss_one (ps_if (PW.pt (pw_or (pt_cmpR op_eq (pe_op op_add (pv 4) (pv 1)) (pe_callB call_lenZ (by rfl) T.len PySem.boot_len (pa_cons (pv 0) pa_nil)) (nomark _)) (pw_or1 (pt_cmpR op_ne (pe_ix ix_str (pv 0) (pv 4) (fun _ _ => rfl)) (pe_ix ix_str (pv 0) (pe_op op_add (pv 4) (pv 1)) (fun _ _ => rfl)) (nomark _)))))
        (pss_cons (ps_if (pt_cmpR op_ge (pe_op op_sub (pv 4) (pv 3)) (pv 1) (nomark _))
          (pss_one (ps_expr (pe_bm PySem.F.plainAttrs_list PySem.F.slot_list_append PySem.F.type_list_append mt_append (pv 2) (pa_cons (pe_tup (pa_cons (pv 3) (pa_cons (pe_op op_add (pv 4) (pv 1)) pa_nil))) pa_nil))))
          pss_nil)
          (pss_one (ps_set (i := 3) scQStretches.nd rfl (.inl rfl) (pe_op op_add (pv 4) pe_int))))
        pss_nil)))
      (pss_one (ps_ret (pv 2)))))), ?_⟩
    obtain ⟨z, m, rfl, lz, m0, ml, q⟩ := h
    have lc := cd_len z
    refine ⟨by show 0 ≤ sizeLine; decide, fun D nD => ?_⟩
    refine ⟨.str z, rfl, z, rfl, len6 lz, .int m, rfl, _, _, rfl, rfl, _, _, rfl, rfl, _, rfl, by omega, by omega, for_range (fun i σ H' => ∃ (f : Nat) (ts : List V) (ps : List (Nat × Nat)) (u4 : Option V), σ = [some (.str z), some (.int m), some (.ref D), some (.int (f : Nat)), u4] ∧ f ≤ i ∧ Same H H' ∧ H' D = some (.lst ts) ∧ All2 (PrAt H') ts ps ∧ ts.length ≤ i ∧ (∀ p : Nat × Nat, p ∈ ps ↔ Mx (cd z) p.1 p.2 m ∧ p.2 < i + m) ∧ (i + m ≤ z.length → Per (cd z) f (i + m) m ∧ (f = 0 ∨ (cd z)[f - 1]? ≠ (cd z)[f - 1 + m]?))) ⟨0, [], [], _, rfl, Nat.le_refl _, Same.new nD, upd_same, .nil, Nat.le_refl _, fun p => ⟨fun h => (by cases h), fun ⟨h, l⟩ => by have := h.two; omega⟩, fun _ => ⟨fun i h1 h2 => by omega, .inl rfl⟩⟩ ?_ ?_⟩
    · rintro i σ H2 hi ⟨f, ts, ps, u4, rfl, fi, k2, hD, hps, lts, mem, inv⟩
      have hi : i + m ≤ z.length := by omega
      obtain ⟨pr, lf⟩ := inv hi
      dsimp only [tSeq, tAsg, gName]
      refine (?_ : ∀ Q : Bool → Hp → Prop, Q (decide (i + m = z.length ∨ (cd z)[i]? ≠ (cd z)[i + m]?)) H2 → tOr _ _ _ H2 Q) _ ?_
      · intro Q hQ
        refine ⟨_, rfl, .int m, rfl, _, _, rfl, rfl, .str z, rfl, z, rfl, len6 lz, rfl, _, rfl, ite2 (fun c => ?_) fun c => ?_⟩
        · rw [dec_int] at c
          have c := of_decide_eq_true c
          rw [decide_eq_true (show i + m = z.length ∨ (cd z)[i]? ≠ (cd z)[i + m]? from .inl (by omega))] at hQ
          exact hQ
        · rw [dec_int] at c
          have c : i + m ≠ z.length := fun e => c (decide_eq_true (by omega))
          obtain ⟨x, ex, ax⟩ := sg_ix (z := z) (a := i) (by omega)
          obtain ⟨y, ey, ay⟩ := sg_ix (z := z) (a := i + m) (by omega)
          refine ⟨.str z, rfl, .int (0 + (i : Int)), rfl, z, _, x, rfl, rfl, len6 lz, by rw [Int.zero_add]; exact ax, .str z, rfl, .int (0 + (i : Int)), rfl, .int m, rfl, _, _, rfl, rfl, z, _, y, rfl, rfl, len6 lz, by rw [Int.zero_add, show ((i : Int)) + ((m : Nat) : Int) = ((i + m : Nat) : Int) by omega]; exact ay, rfl, _, rfl, ?_⟩
          rw [one_sign]
          have e : decide (i + m = z.length ∨ (cd z)[i]? ≠ (cd z)[i + m]?) = decide (x ≠ y) := decide_eq_decide.mpr (by
            rw [ex, ey]
            exact ⟨fun h => h.elim (fun h => absurd h c) fun h e => h (by rw [e]), fun h => .inr fun e => h (Option.some.inj e)⟩)
          rw [e] at hQ
          exact hQ
      · refine ite2 (fun c => ?_) fun c => ?_
        · have c := of_decide_eq_true c
          have nxt : ∀ (ts' : List V) (ps' : List (Nat × Nat)) (H' : Hp), Same H2 H' ∨ Same H H' → Same H H' → H' D = some (.lst ts') → All2 (PrAt H') ts' ps' → ts'.length ≤ i + 1 → (∀ p : Nat × Nat, p ∈ ps' ↔ Mx (cd z) p.1 p.2 m ∧ p.2 < i + 1 + m) → ∃ (f' : Nat) (ts : List V) (ps : List (Nat × Nat)) (u4 : Option V), [some (.str z), some (.int (m : Nat)), some (.ref D), some (.int (0 + (i : Int) + 1)), some (.int (0 + (i : Int)))] = [some (.str z), some (.int (m : Nat)), some (.ref D), some (V.int (f' : Nat)), u4] ∧ f' ≤ i + 1 ∧ Same H H' ∧ H' D = some (.lst ts) ∧ All2 (PrAt H') ts ps ∧ ts.length ≤ i + 1 ∧ (∀ p : Nat × Nat, p ∈ ps ↔ Mx (cd z) p.1 p.2 m ∧ p.2 < i + 1 + m) ∧ (i + 1 + m ≤ z.length → Per (cd z) f' (i + 1 + m) m ∧ (f' = 0 ∨ (cd z)[f' - 1]? ≠ (cd z)[f' - 1 + m]?)) := fun ts' ps' H' _ k hD' hp' l' mem' => by
            refine ⟨i + 1, ts', ps', _, by rw [show (0 : Int) + (i : Int) + 1 = ((i + 1 : Nat) : Int) by omega], Nat.le_refl _, k, hD', hp', l', mem', fun g => ⟨fun j h1 h2 => by omega, .inr ?_⟩⟩
            rcases c with y | y
            · omega
            · exact y
          have ends : ∀ p : Nat × Nat, Mx (cd z) p.1 p.2 m → p.2 = i + m → p = (f, i + m) ∧ f + m ≤ i := fun p h e => by
            have two := h.two
            rw [e] at h two
            have l : f + m ≤ i + m := by omega
            have ea := h.at_end pr lf l
            exact ⟨Prod.ext ea e, by omega⟩
          refine ⟨_, rfl, .int (f : Nat), rfl, _, _, rfl, rfl, .int m, rfl, _, _, rfl, rfl, _, rfl, ite2 (fun c2 => ?_) fun c2 => ?_⟩
          · have c2 : f + m ≤ i := by
              have c2 := of_decide_eq_true c2
              omega
            refine ⟨.ref D, rfl, .inl ⟨rfl, _, sq_of hD⟩, .int (f : Nat), rfl, .int (0 + (i : Int)), rfl, .int m, rfl, _, _, rfl, rfl, by show 2 ≤ sizeLine; decide, fun t nt => ?_⟩
            have ntD : D ≠ t := ne_of_none hD nt
            have k3 := Same.new (o := .tup [.int (f : Nat), .int (0 + (i : Int) + ((m : Nat) : Int))]) nt
            have hD3 := k3 _ _ hD
            have ht3 : upd H2 t (.tup [.int (f : Nat), .int (0 + (i : Int) + ((m : Nat) : Int))]) t = some (.tup [.int (f : Nat), .int (0 + (i : Int) + ((m : Nat) : Int))]) := upd_same
            have hps3 := hps.imp fun _ _ r => PrAt.same k3 r
            have k23 := k2.trans k3
            revert hD3 ht3 hps3 k23 k3
            generalize upd H2 t (.tup [.int (f : Nat), .int (0 + (i : Int) + ((m : Nat) : Int))]) = H3
            intro k3 hD3 ht3 hps3 k23
            refine ⟨D, ts, .ref t, rfl, rfl, hD3, by rw [sizeLine_eq]; omega, ?_⟩
            refine ⟨_, rfl, _, _, rfl, rfl, ?_⟩
            have pt : PrAt H3 (.ref t) (f, i + m) := ⟨t, rfl, by rw [ht3, show (0 : Int) + (i : Int) + ((m : Nat) : Int) = ((i + m : Nat) : Int) by omega]⟩
            refine nxt (ts ++ [.ref t]) (ps ++ [(f, i + m)]) _ (.inr (sameAt k23 nD)) (sameAt k23 nD) upd_same ((hps3.snoc pt).imp fun _ _ r => PrAt.put hD3 r) (by rw [List.length_append, List.length_singleton]; omega) fun p => ?_
            rw [List.mem_append, List.mem_singleton, mem p]
            constructor
            · rintro (h | rfl)
              · exact ⟨h.1, by omega⟩
              · refine ⟨⟨m0, by rw [lc]; exact hi, by show f + 2 * m ≤ i + m; omega, pr, lf, ?_⟩, by show i + m < i + 1 + m; omega⟩
                show i + m = _ ∨ (cd z)[i + m - m]? ≠ (cd z)[i + m]?
                rw [lc, show i + m - m = i by omega]
                exact c
            · intro h
              rcases Nat.lt_or_ge p.2 (i + m) with g | g
              · exact .inl ⟨h.1, g⟩
              · exact .inr (ends p h.1 (by omega)).1
          · have c2 : ¬ f + m ≤ i := fun e => c2 (decide_eq_true (by omega))
            dsimp only [tNext, tDrop]
            refine ⟨_, rfl, _, _, rfl, rfl, ?_⟩
            refine nxt ts ps H2 (.inl (Same.refl _)) k2 hD hps (by omega) fun p => (mem p).trans ⟨fun h => ⟨h.1, by omega⟩, fun h => ⟨h.1, ?_⟩⟩
            refine Nat.lt_of_le_of_ne (by omega) fun e => ?_
            exact c2 (ends p h.1 e).2
        · dsimp only [tNext, tDrop]
          have c : ¬ (i + m = z.length ∨ (cd z)[i]? ≠ (cd z)[i + m]?) := fun e => c (decide_eq_true e)
          have c1 : i + m ≠ z.length := fun e => c (.inl e)
          have c2 : (cd z)[i]? = (cd z)[i + m]? := Classical.byContradiction fun e => c (.inr e)
          refine ⟨f, ts, ps, _, rfl, by omega, k2, hD, hps, by omega, fun p => (mem p).trans ⟨fun h => ⟨h.1, by omega⟩, fun h => ⟨h.1, ?_⟩⟩, fun _ => ⟨fun j h1 h2 => ?_, lf⟩⟩
          · refine Nat.lt_of_le_of_ne (by omega) fun e => ?_
            rcases h.1.rt with y | y
            · omega
            · apply y
              rw [e, show i + m - m = i by omega]
              exact c2
          · rcases Nat.eq_or_lt_of_le (show j ≤ i by omega) with e | e
            · rw [e]
              exact c2
            · exact pr j h1 (by omega)
    · rintro σ H2 ⟨f, ts, ps, u4, rfl, fi, k2, hD, hps, lts, mem, inv⟩
      refine ⟨.ref D, rfl, q D ts ps H2 hD hps (by omega) (fun p => (mem p).trans ⟨fun h => h.1, fun h => ⟨h, ?_⟩⟩) k2 nD⟩
      have := h.bn
      omega
end
end LawK
set_option maxHeartbeats 4000000
namespace Ev
open PySem PySem.Spec PyProof.Rows L2
/-! sets of keys of one kind whose table can be walked -/
section
variable {P : Program} {w : World} {K : Type} [DecidableEq K]
/-- no two of them are one key -/
def Apart (κ : KeyKind P w K) (l : List (Int × Value)) : Prop := l.Pairwise fun e f => ∀ k, κ.is k e.2 = true → κ.is k f.2 = true → False
/-- the set at a, S its members, n their number; its table rises and can be walked -/
def SetG (κ : KeyKind P w K) (h : Heap) (a : Addr) (S : K → Bool) (n : Nat) : Prop :=
  ∃ o es ep t, h.get? a = some o ∧ (o.ExactSet ∧ o.data = .set es ep t) ∧ (ElemsOf κ es.toList ∧ Apart κ es.toList) ∧ (∀ k, S k = true ↔ ∃ e ∈ es.toList, κ.is k e.2 = true) ∧ (es.size < scanBound ∧ t.fits es.size = true ∧ es.size = n) ∧ (Ris t.place.toList ∧ (w.params.followText "set-order" = true ∨ t.led = true))
variable {κ : KeyKind P w K} {h h' : Heap} {a : Addr} {S : K → Bool} {n : Nat}
theorem SetG.keep (R : SetG κ h a S n) (k : ∀ o, h.get? a = some o → h'.get? a = some o) : SetG κ h' a S n := let ⟨o, es, ep, t, ho, r⟩ := R; ⟨o, es, ep, t, k o ho, r⟩
theorem SetG.of (R : SetG κ h a S n) : h.SetOf κ a S n := let ⟨o, es, ep, t, ho, x, g, m, b, _⟩ := R; ⟨o, es, ep, t, ho, x.1, x.2, g.1, m, b⟩
theorem Apart.perm {l m : List (Int × Value)} (p : l.Perm m) (x : Apart κ l) : Apart κ m := List.Perm.pairwise p x fun {e f} q k h1 h2 => q k h2 h1
variable {A : Around} {E : Value → Shared → Prop} {s : Shared}
theorem setG_tail {g : Bool → Sem Unit} (gg : ∀ (b : Bool) (z : Shared) (W : Unit → Shared → Prop), W () z → wpAny (model P w) A (g b) W E z)
    {o : Obj} {es fs : Array (Int × Value)} {ep : Nat} {t u : SetTable} (ho : s.heap.get? a = some o) (xs : o.ExactSet) (hd : o.data = .set es ep t) (g1 : ElemsOf κ fs.toList) (n1 : Apart κ fs.toList) (m1 : ∀ k, S k = true ↔ ∃ e ∈ fs.toList, κ.is k e.2 = true)
    (b1 : fs.size < scanBound) (f1 : u.fits fs.size = true) (r1 : Ris u.place.toList) (l1 : w.params.followText "set-order" = true ∨ u.led = true) {wd : Bool} {R : Option Bool → Shared → Prop}
    (fin : ∀ z, Heap.SameBut a s.heap z → SetG κ z a S fs.size → R (some true) { s with heap := z }) :
    wpAny (model P w) A (storeSet a fs u >>= fun _ => if (!wd && u.tooFull) = true then (g (relayAll u fs (SetTable.grown fs.size)).2.2 >>= fun _ => storeSet a (relayAll u fs (SetTable.grown fs.size)).1 (relayAll u fs (SetTable.grown fs.size)).2.1 >>= fun _ => pure (some true)) else pure (some true)) R E s := by
  have put : ∀ {z : Heap} {o : Obj} {es : Array (Int × Value)} {ep : Nat} {t : SetTable} (fs : Array (Int × Value)) (u : SetTable), z.get? a = some o → o.data = .set es ep t → (z.update a (Obj.putSet fs u)).get? a = some { o with data := .set fs (ep + 1) u } := fun {z o es ep t} fs u e d => by
    have q := Heap.get?_update_self (Obj.putSet fs u) e (by rw [putSet_of fs u d] <;> rfl); rw [putSet_of fs u d] at q; exact q
  refine wpAny_bind (wpAny_storeSet_of ho hd ?_ (fits_of_scanBound b1))
  have o1 := put fs u ho hd
  have s1 := Heap.SameBut.update s.heap a (Obj.putSet fs u)
  split
  · have p2 := relayAll_perm u fs (SetTable.grown fs.size); have f2 := relayAll_fits u fs (SetTable.grown fs.size)
    have r2 := relayAll_ris u fs (SetTable.grown fs.size); have l2 := relayAll_led u fs (SetTable.grown fs.size)
    revert p2 f2 r2 l2
    generalize relayAll u fs (SetTable.grown fs.size) = Z
    obtain ⟨gs, v, gv⟩ := Z
    intro p2 f2 r2 l2; dsimp only at p2 f2 r2 l2 ⊢
    have sz : gs.size = fs.size := by have := p2.length_eq; rw [Array.length_toList, Array.length_toList] at this; exact this
    refine wpAny_bind (gg _ _ _ (wpAny_bind (wpAny_storeSet_of o1 rfl ?_ (fits_of_scanBound (by rw [sz] <;> exact b1)))))
    refine wpAny_pure (fin _ (s1.trans (Heap.SameBut.update _ a _)) ⟨_, gs, _, v, put gs v o1 rfl, ⟨xs, rfl⟩, ⟨fun e q => g1 e (p2.mem_iff.mp q), Apart.perm p2.symm n1⟩, fun k => (m1 k).trans ⟨fun ⟨e, q, z⟩ => ⟨e, p2.mem_iff.mpr q, z⟩, fun ⟨e, q, z⟩ => ⟨e, p2.mem_iff.mp q, z⟩⟩, ⟨by rw [sz] <;> exact b1, f2, sz⟩, r2, l1.imp id fun z => l2.trans z⟩)
  · exact wpAny_pure (fin _ s1 ⟨_, fs, _, u, o1, ⟨xs, rfl⟩, ⟨g1, n1⟩, m1, ⟨b1, f1, rfl⟩, r1, l1⟩)
theorem setG_hashed {k : K} {v : Value} {Q : Bool → Shared → Prop} (hv : κ.is k v = true) (sc : v.scannable = true) (R : SetG κ s.heap a S n) (room : n + 1 < scanBound)
    (q : ∀ z, Heap.SameBut a s.heap z → SetG κ z a (fun j => S j || decide (j = k)) (if S k = true then n else n + 1) → Q (!S k) { s with heap := z }) :
    wpAny (model P w) A (setAddHashed a v (κ.hash k)) Q E s := by
  obtain ⟨o, es, ep, t, ho, ⟨xs, hd⟩, ⟨hel, nd⟩, hm, ⟨hb, hf, hn⟩, hr, hl⟩ := R
  unfold setAddHashed; unfold setAddHashedIn
  refine wpAny_holding (wpAny_bind (wpAny_setState_of ho hd hf ?_)); dsimp only
  rw [byScan_of sc hb hel]; simp only [↓reduceIte]
  unfold setAddByScan
  refine wpAny_bind (wpAny_bind (wpAny_rule (wpAny_bind (wpAny_setScan_of hv ho hd hf hel ?_))))
  cases hfi : List.findIdx? (fun e => κ.is k e.2) es.toList with
  | some j =>
    dsimp only
    obtain ⟨hj, pj, _⟩ := List.findIdx?_eq_some_iff_getElem.mp hfi
    have hk : S k = true := (hm k).mpr ⟨es.toList[j], List.getElem_mem hj, pj⟩
    have q1 := q s.heap (Heap.SameBut.refl a s.heap) ⟨o, es, ep, t, ho, ⟨xs, hd⟩, ⟨hel, nd⟩, fun i => by
      rw [Bool.or_eq_true, decide_eq_true_eq, ← hm i]; exact ⟨fun z => z.elim id fun e => by rw [e] <;> exact hk, .inl⟩, ⟨hb, hf, by rw [if_pos hk] <;> exact hn⟩, hr, hl⟩
    rw [hk] at q1; exact wpAny_pure (wpAny_pure q1)
  | none =>
    dsimp only
    have nk : ∀ e ∈ es.toList, κ.is k e.2 = true → False := fun e he z => by
      have c := List.findIdx?_eq_none_iff.mp hfi e he; rw [z] at c; cases c
    have hk : S k = false := Bool.eq_false_iff.mpr fun z => let ⟨e, he, y⟩ := (hm k).mp z; nk e he y
    have gw : ∀ (b : Bool) {z : Shared} {W : Unit → Shared → Prop}, W () z → wpAny (model P w) A (match b with | true => rule "set.scan.the-table-gave-way" | false => pure ()) W E z := fun b {z W} y => by cases b <;> first | exact wpAny_pure y | exact wpAny_rule y
    have pm := layNew_perm t es (κ.hash k) v; have f1 := layNew_fits t es (κ.hash k) v
    have r1 := layNew_ris t es (κ.hash k) v hr; have l1 := layNew_led t es (κ.hash k) v
    revert pm f1 r1 l1
    generalize layNew t es (κ.hash k) v = Z
    obtain ⟨fs, u, wd, gv⟩ := Z
    intro pm f1 r1 l1; dsimp only at pm f1 r1 l1 ⊢
    rw [Array.toList_push] at pm
    have pc : fs.toList.Perm ((κ.hash k, v) :: es.toList) := pm.trans (List.perm_append_singleton _ _)
    have g1 : ElemsOf κ fs.toList := fun e he => by
      rcases List.mem_cons.mp (pc.mem_iff.mp he) with z | z
      · rw [z]; exact ⟨⟨k, hv, rfl⟩, sc⟩
      · exact hel e z
    have n1 : Apart κ fs.toList := Apart.perm pc.symm (List.pairwise_cons.mpr ⟨fun e he j x y => nk e he (by rw [← κ.inj v j k x hv] <;> exact y), nd⟩)
    have m1 : ∀ i, (S i || decide (i = k)) = true ↔ ∃ e ∈ fs.toList, κ.is i e.2 = true := fun i => by
      rw [Bool.or_eq_true, decide_eq_true_eq, hm i]
      constructor
      · rintro (⟨e, he, y⟩ | y)
        · exact ⟨e, pc.mem_iff.mpr (List.mem_cons_of_mem _ he), y⟩
        · exact ⟨_, pc.mem_iff.mpr List.mem_cons_self, by rw [y] <;> exact hv⟩
      · rintro ⟨e, he, y⟩
        rcases List.mem_cons.mp (pc.mem_iff.mp he) with z | z
        · rw [z] at y; exact .inr (κ.inj v i k y hv)
        · exact .inl ⟨e, z, y⟩
    have sz : fs.size = n + 1 := by have := pc.length_eq; rw [Array.length_toList, List.length_cons, Array.length_toList, hn] at this; exact this
    have b1 : fs.size < scanBound := by rw [sz] <;> exact room
    have ld : w.params.followText "set-order" = true ∨ u.led = true := hl.imp id fun z => l1.trans z
    have fin : ∀ z, Heap.SameBut a s.heap z → SetG κ z a (fun j => S j || decide (j = k)) fs.size → Q true { s with heap := z } := fun z sb r => by
      have q1 := q z sb; rw [hk] at q1; rw [sz] at r; exact q1 r
    have last : ∀ {u' : SetTable} {R : Option Bool → Shared → Prop} {g : Bool → Sem Unit}, (∀ (b : Bool) (z : Shared) (W : Unit → Shared → Prop), W () z → wpAny (model P w) A (g b) W E z) → u'.fits fs.size = true → Ris u'.place.toList → (w.params.followText "set-order" = true ∨ u'.led = true) → (∀ z, Heap.SameBut a s.heap z → SetG κ z a (fun j => S j || decide (j = k)) fs.size → R (some true) { s with heap := z }) → _ := fun {u' R g} gg a1 a2 a3 a4 => setG_tail (κ := κ) (wd := wd) (A := A) (E := E) (s := s) (R := R) gg ho xs hd g1 n1 m1 b1 a1 a2 a3 a4
    refine wpAny_bind (gw _ ?_)
    split
    · rw [hashByValue_scannable 8 sc]
      refine wpAny_bind (wpAny_pure (last ?_ ?_ ?_ ?_ ?_))
      · intro b z W y; cases b <;> first | exact wpAny_pure y | exact wpAny_rule y
      · first | (split <;> first | exact f1 | exact SetTable.fits_plain_off f1) | exact f1
      · first | (split <;> exact r1) | exact r1
      · first | (split <;> exact ld) | exact ld
      · intro z sb r; dsimp only; exact wpAny_pure (fin z sb r)
    · refine wpAny_bind (wpAny_pure ?_); simp only [↓reduceIte]
      refine last ?_ f1 r1 ld ?_
      · intro b z W y; cases b <;> first | exact wpAny_pure y | exact wpAny_rule y
      · intro z sb r; dsimp only; exact wpAny_pure (fin z sb r)
end
end Ev
set_option maxHeartbeats 4000000
namespace Ev
open PySem PySem.Spec PyProof.Rows L2
/-- one turn of a block's loop: the next thing, its store, the tests, then the body -/
def oneTurn (c : Code) (ip : Pos) (tg : Expr) (ifs : List Expr) (it : Value) (env : Env) (body : Sem PySem.Fin) : Sem PySem.Fin := standAt ip >>= fun _ => pyNext it >>= fun r => match r with
  | none => pure (.done .next)
  | some v => letOwnedTupleGo tg it v >>= fun _ => assign tg env v >>= fun _ => (forIn ifs true fun c r => if r = true then (do let ok ← isTrue c env (eval c env); pure (ForInStep.yield ok)) else pure (ForInStep.yield r)) >>= fun ok => if ok = true then body else again c
theorem turn_set1 (elt tg iter : Expr) (ifs : List Expr) (scope : Scope) (pos : Pos) (it acc : Value) (env : Env) :
    compTurn (.SetComp elt [⟨tg, iter, ifs, 0⟩] scope pos) 0 it acc env = oneTurn (.compLoop (.SetComp elt [⟨tg, iter, ifs, 0⟩] scope pos) 0 it acc env) iter.pos tg ifs it env ((eval elt env >>= fun v => standAt elt.pos >>= fun _ => call (.builtin "set.add") [acc, v] >>= fun _ => pure ()) >>= fun _ => again (.compLoop (.SetComp elt [⟨tg, iter, ifs, 0⟩] scope pos) 0 it acc env)) := by
  unfold oneTurn
  rfl
theorem turn_set2i (elt t0 i0 t1 i1 : Expr) (ifs0 ifs1 : List Expr) (scope : Scope) (pos : Pos) (it acc : Value) (env : Env) :
    compTurn (.SetComp elt [⟨t0, i0, ifs0, 0⟩, ⟨t1, i1, ifs1, 0⟩] scope pos) 1 it acc env = oneTurn (.compLoop (.SetComp elt [⟨t0, i0, ifs0, 0⟩, ⟨t1, i1, ifs1, 0⟩] scope pos) 1 it acc env) i1.pos t1 ifs1 it env ((eval elt env >>= fun v => standAt elt.pos >>= fun _ => call (.builtin "set.add") [acc, v] >>= fun _ => pure ()) >>= fun _ => again (.compLoop (.SetComp elt [⟨t0, i0, ifs0, 0⟩, ⟨t1, i1, ifs1, 0⟩] scope pos) 1 it acc env)) := by
  unfold oneTurn
  rfl
theorem turn_set2o (elt t0 i0 t1 i1 : Expr) (ifs0 ifs1 : List Expr) (scope : Scope) (pos : Pos) (it acc : Value) (env : Env) :
    compTurn (.SetComp elt [⟨t0, i0, ifs0, 0⟩, ⟨t1, i1, ifs1, 0⟩] scope pos) 0 it acc env = oneTurn (.compLoop (.SetComp elt [⟨t0, i0, ifs0, 0⟩, ⟨t1, i1, ifs1, 0⟩] scope pos) 0 it acc env) i0.pos t0 ifs0 it env
      (eval i1 env >>= fun x => standAt i1.pos >>= fun _ => foldedSetIterable i1 env x >>= fun x => holding [x] (pyIter x) >>= fun j => runOwn (.compStart (.SetComp elt [⟨t0, i0, ifs0, 0⟩, ⟨t1, i1, ifs1, 0⟩] scope pos) 1 j acc env) env >>= fun _ => again (.compLoop (.SetComp elt [⟨t0, i0, ifs0, 0⟩, ⟨t1, i1, ifs1, 0⟩] scope pos) 0 it acc env)) := by
  unfold oneTurn
  rfl
section
variable {Y : Cx} {e : Expr} {ci : Nat} {it : Addr} {acc : Value} {ip : Pos} {tg : Expr} {ifs : List Expr} {body : Sem PySem.Fin} {J : It} {fp : List Addr} {tn : Nat → Heap → Prop} {R : Result → Shared → Prop} {pins : List (Addr × Obj)} {σ : L2.St} {vs : List Nat} {g : TG} {tt : TT}
/-- what a body says of the slots: those that were wiped may be anything -/
def Slots (σ τ : L2.St) (vs : List Nat) : Prop := τ.length = σ.length ∧ ∀ (j : Nat) v, (wipe σ vs)[j]? = some (some v) → τ[j]? = some (some v)
/-- a block's loop over what is walked: W at each turn, and the body's own word B -/
theorem loop_any (B : L2.St → Hp → (Hp → Prop) → Prop) (hden : (model Y.prog Y.w).den (.compLoop e ci (.ref it) acc Y.env) = (oneTurn (.compLoop e ci (.ref it) acc Y.env) ip tg ifs (.ref it) Y.env body).onRaise (fun x => do noteFrame x Y.env; theTreesLotGoes x))
    (hu : Y.A.under (.compLoop e ci (.ref it) acc Y.env) = Y.A) (hq : (Code.compLoop e ci (.ref it) acc Y.env).quiet = true) (hc : Y.calm = true) (T : Turn Y.prog Y.w Y.K tg J fp it tn) (pg : PG Y tg g) (pt : PTs Y ifs tt) (hA : ∀ x s, ¬ Y.xe x s)
    (hb : ∀ (pins' : List (Addr × Obj)) s τ H (N : Hp → Prop), (∀ p ∈ pins, p ∈ pins') → Inv Y pins' τ H s → B τ H N → wpAny (model Y.prog Y.w) Y.A body (fun r s' => r = .again (.compLoop e ci (.ref it) acc Y.env) ∧ ∃ τ' H', Inv Y pins' τ' H' s' ∧ Slots τ τ' vs ∧ N H') Y.xe s)
    (fok : ∀ {H : Hp}, (∀ b ∈ fp, H b = none) → ∀ b ∈ fp, FpOk Y pins H b) (W : Nat → Nat → Hp → Prop) (F : Hp → Prop)
    (turn : ∀ i m H, W i m H → (J.stop i H ∧ F H) ∨ (J.go i H ∧ ∃ N : Hp → Prop, (∀ H', N H' → ∃ m', m' < m ∧ W (i + 1) m' H') ∧ ∀ x H', J.yld i H x H' → g x (wipe σ vs) H' fun σ2 H2 => wipe σ2 vs = wipe σ vs ∧ tt σ2 H2 fun b H3 => if b = true then B σ2 H3 N else N H3))
    (fin : ∀ s' H', Inv Y pins (wipe σ vs) H' s' → F H' → R (.ok .next) s') (m0 : Nat) (s : Shared) (H : Hp) (w0 : W 0 m0 H) (I : Inv Y pins (wipe σ vs) H s) (t0 : tn 0 s.heap) (n0 : ∀ b ∈ fp, H b = none) :
    codeAny (model Y.prog Y.w) Y.A (.compLoop e ci (.ref it) acc Y.env) R s := by
  have th : ∀ {α : Type} {t : Sem α} {Q Q' : α → Shared → Prop} {E : Value → Shared → Prop} {s : Shared}, wpAny (model Y.prog Y.w) Y.A t Q Y.xe s → (∀ a s, Q a s → Q' a s) → wpAny (model Y.prog Y.w) Y.A t Q' E s := fun h q => wpAny_mono h q fun x s z => (hA x s z).elim
  refine codeAny_loop hq (fun m s' => ∃ i H', W i m H' ∧ Inv Y pins (wipe σ vs) H' s' ∧ tn i s'.heap ∧ ∀ b ∈ fp, H' b = none) (fun m s1 hI => ?_) m0 ⟨0, H, w0, I, t0, n0⟩
  obtain ⟨i, H1, w1, I1, t1, n1⟩ := hI
  rw [hden, hu]
  refine wpAny_noted ?_
  unfold oneTurn
  refine wpAny_bind (wpAny_standAt (wpAny_bind ?_))
  rcases turn i m H1 w1 with ⟨stop, f1⟩ | ⟨go, N, hN, step⟩
  · refine thnF (T.done Y rfl rfl rfl hc i pins s1 _ H1 (fun _ _ => False) I1 (fok n1) t1 stop) fun r s2 ⟨er, I2⟩ => ?_
    subst er
    exact wpAny_pure (fin s2 H1 I2 f1)
  · refine thnF (T.item Y rfl rfl rfl hc i pins s1 _ H1 (fun _ _ => False) I1 (fok n1) t1 go) fun r s2 ⟨u, er, h2⟩ => ?_
    subst er
    refine wpAny_bind (thnF h2 fun _ s3 ⟨x, H3, I3, r3, y3, t3, n3⟩ => wpAny_bind ?_)
    have J3 := I3.pinned (fok n3) (T.obj _ _ t3)
    refine th (pg.run _ s3 _ H3 x u _ J3 r3 (step x H3 y3)) fun _ s4 ⟨τ, H4, I4, e4, q4⟩ => wpAny_bind ?_
    refine th (pt.run _ s4 τ H4 _ I4 q4) fun b s5 ⟨H5, I5, q5⟩ => ?_
    have back : ∀ {τ' : L2.St} {s' : Shared} {H' : Hp}, Inv Y (pins ++ pinsAt fp s3.heap) τ' H' s' → Slots τ τ' vs → N H' → ∃ m', m' < m ∧ ∃ i H', W i m' H' ∧ Inv Y pins (wipe σ vs) H' s' ∧ tn i s'.heap ∧ ∀ b ∈ fp, H' b = none := fun {τ' s' H'} I' sl nx => by
      obtain ⟨m', lm, w'⟩ := hN H' nx
      have pin : ∀ b ∈ fp, ∀ o, s3.heap.get? b = some o → s'.heap.get? b = some o ∧ H' b = none := fun b hb o eo => let z := I'.pin (b, o) (List.mem_append_right _ (List.mem_append_right _ (mem_pinsAt hb eo))); ⟨z.1, z.2.1⟩
      refine ⟨m', lm, i + 1, H', w', I'.unpinned.weak ?_ (fun j v ev => sl.2 j v (by rw [e4] <;> exact ev)), T.keep _ _ _ t3 fun b hb o eo => (pin b hb o eo).1, fun b hb => ?_⟩
      · rw [sl.1, ← wipe_length τ vs, e4] <;> rfl
      · obtain ⟨o, eo, _⟩ := T.obj _ _ t3 b hb
        exact (pin b hb o eo).2
    cases b with
    | false =>
      simp only [Bool.false_eq_true, if_false] at q5 ⊢
      exact wpAny_pure ⟨rfl, back I5 ⟨rfl, fun j v ev => (wipe_some ev).1⟩ q5⟩
    | true =>
      simp only [if_true] at q5 ⊢
      exact th (hb _ s5 τ H5 N (fun p hp => List.mem_append_left _ hp) I5 q5) fun r s6 ⟨er, τ', H6, I6, sl, q6⟩ => by subst er; exact ⟨rfl, back I6 sl q6⟩
end
end Ev
set_option maxHeartbeats 4000000
namespace Ev
open PySem PySem.Spec PyProof.Rows L2
theorem setG_add {P : Program} {w : World} {K : Type} [DecidableEq K] {κ : KeyKind P w K} {A : Around} {E : Value → Shared → Prop} {s : Shared} {a : Addr} {S : K → Bool} {n : Nat} {k : K} {v : Value} {Q : Value → Shared → Prop} (hv : κ.is k v = true) (sc : v.scannable = true) (R : SetG κ s.heap a S n) (room : n + 1 < scanBound)
    (q : ∀ z, Heap.SameBut a s.heap z → SetG κ z a (fun j => S j || decide (j = k)) (if S k = true then n else n + 1) → Q .none { s with heap := z, toks := s.toks + 1 }) : wpAny (model P w) A (call (.builtin "set.add") [.ref a, v]) Q E s := by
  refine wpAny_call_entry F.slot_set_add R.of.typeIs F.entry_set_add ?_ (F.args_set_add_2 _ _)
  unfold Builtin.«set.add»; unfold Builtin.Frozenset.oneOther
  simp only [List.isEmpty_nil, bind_assoc]; unfold Builtin.Frozenset.addrOf; unfold setAdd
  refine wpAny_bind (wpAny_pure ?_); try dsimp only
  refine wpAny_bind (wpAny_pure ?_); try dsimp only
  refine wpAny_bind (wpAny_holding (wpAny_bind (κ.pyHash hv (setG_hashed (s := { s with toks := s.toks + 1 }) hv sc R room fun z sb r => ?_))))
  show wpAny _ _ (ret Value.none) _ _ _; exact wpAny_pure ⟨_, rfl, q z sb r⟩
/-- the set of keys at a, that can be walked -/
def SetX (P : Program) (w : World) (a : Addr) (S : Key → Bool) (n : Nat) : HO := .ext fun h => SetG (mixKind P w) h a S n
theorem setX_new {P : Program} {w : World} {H : Hp} {h : Heap} {a : Addr} {S : Key → Bool} {n : Nat} (R : SetG (mixKind P w) h a S n) : ObjOk P w H h a (SetX P w a S n) := by
  have ⟨o, _, _, _, ho, _⟩ := R
  exact ⟨R, ⟨o, ho⟩, fun h1 h2 p k => SetG.keep p k⟩
/-- the set with one more -/
def put1 (P : Program) (w : World) (D : Addr) (S : Key → Bool) (n : Nat) (k : Key) : HO := SetX P w D (fun j => S j || decide (j = k)) (if S k = true then n else n + 1)
section
variable {X : Cx} {pins : List (Addr × Obj)} {σ : L2.St} {H : Hp} {s : Shared}
theorem setX_get {a : Addr} {S : Key → Bool} {n : Nat} (I : Inv X pins σ H s) (ha : H a = some (SetX X.prog X.w a S n)) : SetG (mixKind X.prog X.w) s.heap a S n := (I.hok a _ ha).1
/-- set.add of a key -/
theorem addX_ok {E : Value → Shared → Prop} {D : Addr} {S : Key → Bool} {n : Nat} {k : Key} {v : Value} {Q : Value → Shared → Prop} (I : Inv X pins σ H s) (r : RelV (kV k) v) (hD : H D = some (SetX X.prog X.w D S n)) (room : n + 1 < scanBound)
    (h : ∀ s', Inv X pins σ (upd H D (put1 X.prog X.w D S n k)) s' → Q .none s') : wpAny (model X.prog X.w) X.A (call (.builtin "set.add") [.ref D, v]) Q E s := by
  refine setG_add (kV_is r) (key_scan r) (setX_get I hD) room fun z sb new => ?_
  have ⟨o, _, _, _, ho, _⟩ := new
  exact h _ (I.write (e := D) (t' := s.toks + 1) (by rw [hD] <;> trivial) (.inl rfl) (fun b u hb hu => (sb.2 b hb).trans hu) ⟨o, ho⟩ (setX_new new))
end
/-- what a body asks that puts one key more into D -/
def bAdd (P : Program) (w : World) (D : Addr) (te : TE) : L2.St → Hp → (Hp → Prop) → Prop := fun τ H N => te τ H fun y H4 => ∃ (k : Key) (S : Key → Bool) (n : Nat), y = kV k ∧ H4 D = some (SetX P w D S n) ∧ n + 1 < scanBound ∧ N (upd H4 D (put1 P w D S n k))
theorem body_add {Y : Cx} {elt : Expr} {te : TE} {c : Code} {D : Addr} {vs : List Nat} (pe : PE Y elt te) (pins' : List (Addr × Obj)) (s : Shared) (τ : L2.St) (H : Hp) (N : Hp → Prop) (I : Inv Y pins' τ H s) (h : bAdd Y.prog Y.w D te τ H N) :
    wpAny (model Y.prog Y.w) Y.A ((eval elt Y.env >>= fun v => standAt elt.pos >>= fun _ => call (.builtin "set.add") [.ref D, v] >>= fun _ => pure ()) >>= fun _ => again c) (fun r s' => r = .again c ∧ ∃ τ' H', Inv Y pins' τ' H' s' ∧ Slots τ τ' vs ∧ N H') Y.xe s := by
  refine wpAny_bind (wpAny_bind (thn (pe.run pins' s τ H _ I h) fun v s1 ⟨y, H1, I1, r1, k, S, n, ey, hD, room, nx⟩ => wpAny_bind (wpAny_standAt (wpAny_bind ?_))))
  subst ey
  exact addX_ok I1 r1 hD room fun s2 I2 => wpAny_pure (wpAny_pure ⟨rfl, τ, _, I2, ⟨rfl, fun j v e => (wipe_some e).1⟩, nx⟩)
/-- over anything that is walked -/
theorem wk {J : It} {n : Nat} {G : Hp → Prop} {Y : Nat → Hp → V → Hp → Prop} (w : Walk J n G Y) {F : Hp → Prop} {H0 : Hp} {T : V → Hp → (Hp → Prop) → Prop} (Pv : Nat → Hp → Prop) (h0 : Pv 0 H0) (hG : ∀ i H, i ≤ n → Pv i H → G H)
    (hs : ∀ i x H H', i < n → Pv i H → Y i H x H' → T x H' (Pv (i + 1))) (hd : ∀ H, Pv n H → F H) :
    ∃ W : Nat → Nat → Hp → Prop, (∃ m, W 0 m H0) ∧ ∀ i m H, W i m H → (J.stop i H ∧ F H) ∨ (J.go i H ∧ ∃ N : Hp → Prop, (∀ H', N H' → ∃ m', m' < m ∧ W (i + 1) m' H') ∧ ∀ x H', J.yld i H x H' → T x H' N) := by
  refine ⟨fun i m H => i ≤ n ∧ m + i = n ∧ Pv i H, ⟨n, Nat.zero_le _, rfl, h0⟩, fun i m H ⟨hi, em, p⟩ => ?_⟩
  rcases Nat.lt_or_ge i n with hlt | hge
  · exact .inr ⟨w.goes i H hlt (hG i H hi p), Pv (i + 1), fun H' p' => ⟨m - 1, by omega, hlt, by omega, p'⟩, fun x H' y => hs i x H H' hlt p (w.yields i H x H' hlt (hG i H hi p) y)⟩
  · obtain rfl : i = n := Nat.le_antisymm hi hge
    exact .inl ⟨w.stops H (hG i H hi p), hd H p⟩
end Ev
set_option maxHeartbeats 4000000
namespace Ev
open PySem PySem.Spec PyProof.Rows L2
/-- an empty set, new at the heap's end -/
abbrev emptyS (w : World) : Obj := { cls := .type "set", dict := none, data := .set #[] 0 (.fresh 0 0 (!w.params.followText "set-order")) }
theorem setG_new {P : Program} {w : World} {K : Type} [DecidableEq K] {κ : KeyKind P w K} {h : Heap} : SetG κ (h.push (emptyS w)) h.objs.size (fun _ => false) 0 := by
  refine ⟨_, #[], 0, _, Heap.get?_push_size _ rfl, ⟨⟨rfl, rfl, rfl⟩, rfl⟩, ⟨fun e he => by simp at he, List.Pairwise.nil⟩, fun k => by simp, ⟨by decide, by rfl, rfl⟩, List.Pairwise.nil, ?_⟩
  show _ ∨ (!w.params.followText "set-order") = true
  cases w.params.followText "set-order" with
  | true => exact .inl rfl
  | false => exact .inr rfl
/-- {.. for tg in iter if ..}, B: what each turn's body asks, D the new set -/
def tScG (P : Program) (w : World) (wi : TI) (g : TG) (tt : TT) (B : Addr → L2.St → Hp → (Hp → Prop) → Prop) (vs : List Nat) : TE := fun σ H Q => wi σ H fun J H1 => ∀ D, H1 D = none → ∃ W : Nat → Nat → Hp → Prop, (∃ m, W 0 m (upd H1 D (SetX P w D (fun _ => false) 0))) ∧ ∀ i m H, W i m H → (J.stop i H ∧ Q (.ref D) H) ∨ (J.go i H ∧ ∃ N : Hp → Prop, (∀ H', N H' → ∃ m', m' < m ∧ W (i + 1) m' H') ∧ ∀ x H', J.yld i H x H' → g x (wipe σ vs) H' fun σ2 H2 => wipe σ2 vs = wipe σ vs ∧ tt σ2 H2 fun b H3 => if b = true then B D σ2 H3 N else N H3)
/-- what an inner clause asks -/
def bIn (P : Program) (w : World) (wi1 : TI) (g1 : TG) (tt1 : TT) (te : TE) (vs1 : List Nat) (D : Addr) : L2.St → Hp → (Hp → Prop) → Prop := fun τ H N => wi1 τ H fun J1 H4 => ∃ W1 : Nat → Nat → Hp → Prop, (∃ m, W1 0 m H4) ∧ ∀ j k H, W1 j k H → (J1.stop j H ∧ N H) ∨ (J1.go j H ∧ ∃ N1 : Hp → Prop, (∀ H', N1 H' → ∃ k', k' < k ∧ W1 (j + 1) k' H') ∧ ∀ x H', J1.yld j H x H' → g1 x (wipe τ vs1) H' fun σ3 H5 => wipe σ3 vs1 = wipe τ vs1 ∧ tt1 σ3 H5 fun b H6 => if b = true then bAdd P w D te σ3 H6 N1 else N1 H6)
/-- the block that a comprehension runs in -/
abbrev blkC (X : Cx) (s : Shared) (H : Hp) (scope : Scope) (fp : List Addr) : Cx := X.blk s H scope (compEnvC scope (cellsFrom (s.heap.objs.size + 1) scope.names (cloFrom X.env.cells scope.names [])) s.heap.objs.size X.env) fp
section
variable {X : Cx} {elt tg iter : Expr} {ifs : List Expr} {rest : List Comprehension} {scope : Scope} {own : List (Str × Nat)} {pos pos' : Pos} {wi : TI} {g : TG} {tt : TT} {B : Addr → L2.St → Hp → (Hp → Prop) → Prop}
theorem scG_core (bodyK : Addr → Addr → Env → Sem PySem.Fin) (hc : X.calm = true) (hN : X.N.Nodup) (hi : PI X tg iter wi) (ok : BlkOk X.N X.env.scope scope own)
    (hg : ∀ s H fp, PG (blkC X s H scope fp) tg g) (ht : ∀ s H fp, PTs (blkC X s H scope fp) ifs tt) (hs : ∀ x, foldedSetIterable iter X.env x = pure x)
    (hden : ∀ (it D : Addr) (env : Env), compTurn (.SetComp elt (⟨tg, iter, ifs, 0⟩ :: rest) scope pos) 0 (.ref it) (.ref D) env = oneTurn (.compLoop (.SetComp elt (⟨tg, iter, ifs, 0⟩ :: rest) scope pos) 0 (.ref it) (.ref D) env) iter.pos tg ifs (.ref it) env (bodyK it D env))
    (hb : ∀ (s0 : Shared) (H0 : Hp) (fp : List Addr) (it D : Addr) pins' s τ H (N : Hp → Prop), Inv (blkC X s0 H0 scope fp) pins' τ H s → B D τ H N →
      wpAny (model X.prog X.w) X.A (bodyK it D (blkC X s0 H0 scope fp).env) (fun r s' => r = .again (.compLoop (.SetComp elt (⟨tg, iter, ifs, 0⟩ :: rest) scope pos) 0 (.ref it) (.ref D) (blkC X s0 H0 scope fp).env) ∧ ∃ τ' H', Inv (blkC X s0 H0 scope fp) pins' τ' H' s' ∧ Slots τ τ' (own.map (·.2)) ∧ N H') (blkC X s0 H0 scope fp).xe s) :
    PE X (.SetComp elt (⟨tg, iter, ifs, 0⟩ :: rest) scope pos) (tScG X.prog X.w wi g tt B (own.map (·.2))) := by
  refine ⟨fun pins s σ H Q I h => ?_⟩
  show wpAny _ _ (comprehension (.SetComp elt (⟨tg, iter, ifs, 0⟩ :: rest) scope pos) scope X.env _ (newSet (.type "set")) false (eval iter X.env) none) _ _ _
  have free : ∀ y ∈ scope.names, y.2 = .free → ∃ c, X.env.cells.lookup y.1 = some c := fun y hy e => (ok.free y hy e).elim (fun k => I.ok.has _ (.inl k)) fun k => I.ok.has _ (.inr k)
  refine wpAny_comprehension_free (use := none) rfl hs (closure_ok free) ok.kind (fun y hy e => by rw [ok.uniq y hy, e]) (thn (hi.run pins s σ H _ I h) fun xv s1 hx => thn hx fun itv s2 ⟨it, fp, tn, J, H2, eit, I2, T, t2, f2, q⟩ => PpSet.newSet_ok (newEnv_comp ?_))
  subst eit
  have fresh : H2 s2.heap.objs.size = none := I2.hok.fresh (Nat.le_refl _)
  obtain ⟨W, ⟨m0, w0⟩, turn⟩ := q _ fresh
  have old : ∀ b ∈ fp, b < s2.heap.objs.size := fun b hb => let ⟨o, e, _⟩ := T.obj _ _ t2 b hb; Heap.lt_size e
  -- with the new set
  obtain ⟨D, eD⟩ : ∃ D, s2.heap.objs.size = D := ⟨_, rfl⟩
  obtain ⟨s3, e3⟩ : ∃ s3 : Shared, s3 = { s2 with heap := s2.heap.push (emptyS X.w) } := ⟨_, rfl⟩
  have h3 : s3.heap = s2.heap.push (emptyS X.w) := by rw [e3]
  obtain ⟨H3, eH⟩ : ∃ H3, H3 = upd H2 s2.heap.objs.size (SetX X.prog X.w s2.heap.objs.size (fun _ => false) 0) := ⟨_, rfl⟩
  have I3 : Inv X pins σ H3 s3 := by
    rw [eH, e3]
    exact I2.laid (t' := s2.toks) (fun b o e => Heap.get?_push_of_some _ e) (Nat.le_refl _) (setX_new setG_new)
  have f3 : ∀ b ∈ fp, FpOk X pins H3 b ∧ b < s3.heap.objs.size := fun b hb => by
    have lt := old b hb
    refine ⟨⟨?_, (f2 b hb).2⟩, by rw [h3, Heap.size_push] <;> exact Nat.lt_succ_of_lt lt⟩
    rw [eH, upd_ne (Nat.ne_of_lt lt)] <;> exact (f2 b hb).1
  have t3 : tn 0 s3.heap := T.keep _ _ _ t2 fun b _ o e => by rw [h3] <;> exact Heap.get?_push_of_some _ e
  rw [← eH] at w0
  rw [eD] at turn
  show codeAny _ _ (.compStart (.SetComp elt (⟨tg, iter, ifs, 0⟩ :: rest) scope pos) 0 (.ref it) (.ref s2.heap.objs.size) _) (compPost _ _ _ _ _ (.ref s2.heap.objs.size) _) _
  rw [eD]
  have I4 := block_start I3 ok hN f3
  have goal : codeAny (model X.prog X.w) X.A (.compStart (.SetComp elt (⟨tg, iter, ifs, 0⟩ :: rest) scope pos) 0 (.ref it) (.ref D) (blkC X s3 H3 scope fp).env) (compPost (model X.prog X.w) X.A X.xe none (EP X pins σ Q) (.ref D) s3.heap.objs.size) { s3 with heap := pushCells (s3.heap.push { cls := .type "dict", data := .dict #[] }) scope.names } := by
    have t4 : tn 0 ({ s3 with heap := pushCells (s3.heap.push { cls := .type "dict", data := .dict #[] }) scope.names } : Shared).heap := T.keep _ _ _ t3 fun b _ o e => pushCells_keeps _ _ _ _ (Heap.get?_push_of_some _ e)
    revert I4 t4
    generalize ({ s3 with heap := pushCells (s3.heap.push { cls := .type "dict", data := .dict #[] }) scope.names } : Shared) = s4
    intro I4 t4
    have stat : ∀ {H' : Hp}, (∀ b ∈ fp, H' b = none) → ∀ b ∈ fp, FpOk (blkC X s3 H3 scope fp) [] H' b := fun hn b hb =>
      ⟨hn b hb, (I4.ok.exf b hb).1, I4.ok.exfs b hb, .inl hb, fun x c e => (I4.ok.exf b hb).2 x c e, fun p hp => nomatch (show p ∈ ([] : List (Addr × Obj)) from hp)⟩
    have loop := loop_any (Y := blkC X s3 H3 scope fp) (e := .SetComp elt (⟨tg, iter, ifs, 0⟩ :: rest) scope pos) (ci := 0) (it := it) (acc := .ref D) (ip := iter.pos) (body := bodyK it D (blkC X s3 H3 scope fp).env) (R := compPost (model X.prog X.w) X.A X.xe none (EP X pins σ Q) (.ref D) s3.heap.objs.size) (σ := σ) (vs := own.map (·.2)) (pins := []) (B D)
      (by show (compTurn _ 0 (.ref it) (.ref D) _).onRaise _ = _; rw [hden]) rfl rfl hc T (hg s3 H3 fp) (ht s3 H3 fp) (fun _ _ z => z) (fun pins' s τ H N _ I' b => hb s3 H3 fp it D pins' s τ H N I' b) stat W (fun H => Q (.ref D) H) turn (fun s' H' I' qq => ?_) m0 s4 H3 w0 I4 t4 (fun b hb => (f3 b hb).1.1)
    · exact PpSet.codeAny_compStart_set loop (T.self X.A 0 _ _ _ t4 loop)
    · have J' : Inv X pins σ H' s' := I3.call' (ch := fp) I'.os I'.base I'.hok I'.bare fun b hb => let z := (f3 b hb).1.2; ⟨z.2.2.1, z.1, z.2.2.2.1, z.2.2.2.2⟩
      obtain ⟨m, hm, _⟩ := I'.loc
      have f := I3.fpOk (H' := H') (Nat.le_refl _) I'.free
      exact ⟨m, hm, fun z sb => ⟨.ref D, H', J'.turned (t' := s'.toks) (fun b o hb e => (sb.2 b hb).trans e) f.1 f.2.1 f.2.2.2.1 f.2.2.2.2.1 f.2.2.2.2.2, rfl, qq⟩⟩
  subst e3
  exact goal
/-- one clause -/
theorem pe_sc1 {te : TE} (hc : X.calm = true) (hN : X.N.Nodup) (hi : PI X tg iter wi) (ok : BlkOk X.N X.env.scope scope own) (hg : ∀ s H fp, PG (blkC X s H scope fp) tg g) (ht : ∀ s H fp, PTs (blkC X s H scope fp) ifs tt) (he : ∀ s H fp, PE (blkC X s H scope fp) elt te)
    (hs : ∀ x, foldedSetIterable iter X.env x = pure x := by intro _; rfl) : PE X (.SetComp elt [⟨tg, iter, ifs, 0⟩] scope pos) (tScG X.prog X.w wi g tt (fun D => bAdd X.prog X.w D te) (own.map (·.2))) :=
  scG_core (B := fun D => bAdd X.prog X.w D te) _ hc hN hi ok hg ht hs (fun it D env => turn_set1 elt tg iter ifs scope pos (.ref it) (.ref D) env) fun s0 H0 fp it D pins' s τ H N I b => body_add (Y := blkC X s0 H0 scope fp) (he s0 H0 fp) pins' s τ H N I b
end
end Ev
set_option maxHeartbeats 4000000
namespace Ev
open PySem PySem.Spec PyProof.Rows L2
theorem start_in {prog : Program} {w : World} {A : Around} {R : Result → Shared → Prop} {s : Shared} {env : Env} {elt t0 i0 t1 i1 : Expr} {ifs0 ifs1 : List Expr} {scope : Scope} {pos : Pos} {it acc : Value}
    (h0 : codeAny (model prog w) A (.compLoop (.SetComp elt [⟨t0, i0, ifs0, 0⟩, ⟨t1, i1, ifs1, 0⟩] scope pos) 1 it acc env) R s)
    (h : wpAny (model prog w) A (pyIter it) (fun j s' => codeAny (model prog w) A (.compLoop (.SetComp elt [⟨t0, i0, ifs0, 0⟩, ⟨t1, i1, ifs1, 0⟩] scope pos) 1 j acc env) R s') (notedBy (model prog w) A env fun x s' => R (.error x) s') s) :
    codeAny (model prog w) A (.compStart (.SetComp elt [⟨t0, i0, ifs0, 0⟩, ⟨t1, i1, ifs1, 0⟩] scope pos) 1 it acc env) R s := by
  refine codeAny_of_tree ?_
  show wpAny _ _ ((compStart _ 1 it acc env).onRaise (fun x => do noteFrame x env; standAt theWindowsPlace)) _ _ s
  refine wpAny_notedAt ?_; unfold compStart
  show wpAny _ _ (ask >>= _) _ _ s
  refine wpAny_bind (wpAny_askSetting (wpAny_ite ?_)); split
  · first | exact wpAny_bind (wpAny_pure (wpAny_pure ⟨rfl, h0⟩)) | exact wpAny_pure ⟨rfl, h0⟩
  · have go : ∀ {W : PySem.Fin → Shared → Prop}, (∀ j s', codeAny (model prog w) A (.compLoop (.SetComp elt [⟨t0, i0, ifs0, 0⟩, ⟨t1, i1, ifs1, 0⟩] scope pos) 1 j acc env) R s' → W (.again (.compLoop (.SetComp elt [⟨t0, i0, ifs0, 0⟩, ⟨t1, i1, ifs1, 0⟩] scope pos) 1 j acc env)) s') → wpAny (model prog w) A (pyIter it >>= fun j => again (.compLoop (.SetComp elt [⟨t0, i0, ifs0, 0⟩, ⟨t1, i1, ifs1, 0⟩] scope pos) 1 j acc env)) W (notedBy (model prog w) A env fun x s' => R (.error x) s') s := fun k => wpAny_bind (wpAny_mono h (fun j s' z => wpAny_pure (k j s' z)) fun _ _ x => x)
    refine wpAny_bind (wpAny_rule ?_)
    show wpAny _ _ (standAt i1.pos >>= _) _ _ s
    exact wpAny_bind (wpAny_standAt (go fun j s' z => ⟨rfl, z⟩))
section
variable {X : Cx} {elt tg iter tg1 iter1 : Expr} {ifs ifs1 : List Expr} {scope : Scope} {own : List (Str × Nat)} {vs1 : List Nat} {pos : Pos} {wi wi1 : TI} {g g1 : TG} {tt tt1 : TT} {te : TE}
theorem body_in (hc : X.calm = true) (hv : ∀ i ∈ vs1, i ∈ own.map (·.2)) (hi1 : ∀ s H fp, PI (blkC X s H scope fp) tg1 iter1 wi1) (hg1 : ∀ s H fp, PG (blkC X s H scope fp) tg1 g1) (ht1 : ∀ s H fp, PTs (blkC X s H scope fp) ifs1 tt1) (he : ∀ s H fp, PE (blkC X s H scope fp) elt te) (hs1 : ∀ env x, foldedSetIterable iter1 env x = pure x)
    (s0 : Shared) (H0 : Hp) (fp : List Addr) (it D : Addr) pins' s τ H (N : Hp → Prop) (I : Inv (blkC X s0 H0 scope fp) pins' τ H s) (b : bIn X.prog X.w wi1 g1 tt1 te vs1 D τ H N) :
    wpAny (model X.prog X.w) X.A (eval iter1 (blkC X s0 H0 scope fp).env >>= fun x => standAt iter1.pos >>= fun _ => foldedSetIterable iter1 (blkC X s0 H0 scope fp).env x >>= fun x => holding [x] (pyIter x) >>= fun j => runOwn (.compStart (.SetComp elt [⟨tg, iter, ifs, 0⟩, ⟨tg1, iter1, ifs1, 0⟩] scope pos) 1 j (.ref D) (blkC X s0 H0 scope fp).env) (blkC X s0 H0 scope fp).env >>= fun _ => again (.compLoop (.SetComp elt [⟨tg, iter, ifs, 0⟩, ⟨tg1, iter1, ifs1, 0⟩] scope pos) 0 (.ref it) (.ref D) (blkC X s0 H0 scope fp).env))
      (fun r s' => r = .again (.compLoop (.SetComp elt [⟨tg, iter, ifs, 0⟩, ⟨tg1, iter1, ifs1, 0⟩] scope pos) 0 (.ref it) (.ref D) (blkC X s0 H0 scope fp).env) ∧ ∃ τ' H', Inv (blkC X s0 H0 scope fp) pins' τ' H' s' ∧ Slots τ τ' (own.map (·.2)) ∧ N H') (blkC X s0 H0 scope fp).xe s := by
  refine wpAny_bind (thn ((hi1 s0 H0 fp).run pins' s τ H _ I b) fun x s1 hx => wpAny_bind (wpAny_standAt (wpAny_bind (wpAny_of_eq (hs1 _ x) (wpAny_bind (wpAny_holding (thn hx fun j s2 h2 => ?_)))))))
  obtain ⟨it1, fp1, tn1, J1, H2, ej, I2, T1, t2, f2, W1, ⟨m1, w1⟩, turn1⟩ := h2
  subst ej
  have loop := loop_any (Y := blkC X s0 H0 scope fp) (e := .SetComp elt [⟨tg, iter, ifs, 0⟩, ⟨tg1, iter1, ifs1, 0⟩] scope pos) (ci := 1) (it := it1) (acc := .ref D) (ip := iter1.pos) (R := fun r s' => match r with | .ok _ => ∃ τ' H', Inv (blkC X s0 H0 scope fp) pins' τ' H' s' ∧ Slots τ τ' (own.map (·.2)) ∧ N H' | .error _ => False) (σ := τ) (vs := vs1) (pins := pins') (bAdd X.prog X.w D te)
    (by show (compTurn _ 1 (.ref it1) (.ref D) _).onRaise _ = _; rw [turn_set2i]) rfl rfl hc T1 (hg1 s0 H0 fp) (ht1 s0 H0 fp) (fun _ _ z => z) (fun pins' s τ H N _ I' b => body_add (Y := blkC X s0 H0 scope fp) (he s0 H0 fp) pins' s τ H N I' b) (fun hn b hb => ⟨hn b hb, (f2 b hb).2⟩) W1 N turn1 (fun s' H' I' nx => ⟨wipe τ vs1, H', I', ⟨wipe_length τ vs1, fun i v e => ?_⟩, nx⟩) m1 s2 H2 w1 (I2.weak (wipe_length _ _) fun i v e => (wipe_some e).1) t2 (fun b hb => (f2 b hb).1)
  · refine wpAny_bind (wpAny_runOwn ?_)
    rw [Around.mark_none]
    refine codeAny_mono (start_in loop (T1.self X.A 0 _ _ _ t2 loop)) fun r s' hr => ?_
    cases r with
    | ok f => first | exact wpAny_pure ⟨rfl, hr⟩ | exact wpAny_bind (wpAny_pure (wpAny_pure ⟨rfl, hr⟩))
    | error x => exact hr.elim
  · obtain ⟨e1, e2⟩ := wipe_some e
    rw [wipe_out fun z => e2 (hv i z)] <;> exact e1
/-- two clauses -/
theorem pe_sc2 (hc : X.calm = true) (hN : X.N.Nodup) (hi : PI X tg iter wi) (ok : BlkOk X.N X.env.scope scope own) (hv : ∀ i ∈ vs1, i ∈ own.map (·.2)) (hg : ∀ s H fp, PG (blkC X s H scope fp) tg g) (ht : ∀ s H fp, PTs (blkC X s H scope fp) ifs tt)
    (hi1 : ∀ s H fp, PI (blkC X s H scope fp) tg1 iter1 wi1) (hg1 : ∀ s H fp, PG (blkC X s H scope fp) tg1 g1) (ht1 : ∀ s H fp, PTs (blkC X s H scope fp) ifs1 tt1) (he : ∀ s H fp, PE (blkC X s H scope fp) elt te)
    (hs : ∀ x, foldedSetIterable iter X.env x = pure x := by intro _; rfl) (hs1 : ∀ env x, foldedSetIterable iter1 env x = pure x := by intro _ _; rfl) :
    PE X (.SetComp elt [⟨tg, iter, ifs, 0⟩, ⟨tg1, iter1, ifs1, 0⟩] scope pos) (tScG X.prog X.w wi g tt (bIn X.prog X.w wi1 g1 tt1 te vs1) (own.map (·.2))) :=
  scG_core (B := bIn X.prog X.w wi1 g1 tt1 te vs1) _ hc hN hi ok hg ht hs (fun it D env => turn_set2o elt tg iter tg1 iter1 ifs ifs1 scope pos (.ref it) (.ref D) env) (body_in hc hv hi1 hg1 ht1 he hs1)
end
end Ev
set_option maxHeartbeats 4000000
namespace Ev
open PySem PySem.Spec PyProof.Rows L2
/-! sorted, any number: texts, and the members of a set -/
abbrev ltC (x y : Str) : Prop := x.cps.toList < y.cps.toList
def ltSv (v u : Value) : Bool := decide (ltC (strOf v) (strOf u))
theorem swo_str : SrtO.Swo ltSv := by
  refine ⟨fun x y h => decide_eq_false fun z => ?_, fun x y z h1 h2 => decide_eq_false fun h => ?_⟩
  · exact List.lt_irrefl _ (List.lt_trans (of_decide_eq_true h : ltC (strOf x) (strOf y)) z)
  · have a : ¬ ltC (strOf y) (strOf x) := of_decide_eq_false h1
    have b : ¬ ltC (strOf z) (strOf y) := of_decide_eq_false h2
    exact absurd h (List.not_lt.mpr (List.le_trans (List.not_lt.mp a) (List.not_lt.mp b)))
section
variable {prog : Program} {w : World} {A : Around} {E : Value → Shared → Prop} {s : Shared}
theorem str_cmp {vs : List Value} (hI : ∀ v ∈ vs, ∃ x t, v = Value.str x t) : SrtO.Cmp prog w A s oneType' (fun p => p.1 ∈ vs) (SrtO.lt2 ltSv) := fun p q hm hm' => by
  obtain ⟨a, t, e⟩ := hI _ hm
  obtain ⟨b, u, e'⟩ := hI _ hm'
  show wpAny (model prog w) A (keyLt' oneType' p.1 q.1) (fun r s' => s' = s ∧ r = ltSv p.1 q.1) (fun _ _ => False) s
  rw [e, e']
  exact PySem.W.kas_lt_str ⟨rfl, rfl⟩
theorem strs_sortable {a : Addr} {vs : List Value} (hI : ∀ v ∈ vs, ∃ x t, v = Value.str x t) (h2 : 2 ≤ vs.length) : SrtO.SortableO prog w A s a vs ltSv := fun h' _ => by
  refine ⟨oneType', fun Q E hq => ?_, str_cmp hI⟩
  have hS := strsAre_map vs hI
  revert hS h2
  rcases vs with _ | ⟨v, _ | ⟨u, r⟩⟩
  · intro h2; exact absurd h2 (by decide)
  · intro h2; exact absurd h2 (by simp)
  · intro h2 hS; rw [keyKind_strs hS]; exact wpAny_pure hq
theorem ints_sortable2 {a : Addr} {vs : List Value} (hI : ∀ v ∈ vs, ∃ i t, v = Value.int i t) (h2 : 2 ≤ vs.length) : SrtO.SortableO prog w A s a vs SrtO.ltIv := SrtO.ints_sortable (SrtO.ints_iv hI) h2
/-- sorted of a set: its members by ltv, at a new place -/
theorem sorted_setG {K : Type} [DecidableEq K] {κ : KeyKind prog w K} {a : Addr} {S : K → Bool} {n : Nat} {ltv : Value → Value → Bool} {Q : Value → Shared → Prop} (O : SrtO.Swo ltv) (R : SetG κ s.heap a S n) (hh : A.handled = none)
    (so : ∀ (vs : List Value), (∀ v ∈ vs, ∃ k, κ.is k v = true ∧ S k = true) → 2 ≤ vs.length → ∀ (A' : Around) (z : Shared) (d : Addr), SrtO.SortableO prog w A' z d vs ltv)
    (q : ∀ (z : Shared) (p : Addr) (out : List Value) (c : Nat), (∀ b o, s.heap.get? b = some o → z.heap.get? b = some o) → z.gens = s.gens → z.os = s.os → s.heap.objs.size ≤ p → z.heap.get? p = some (seqObj "list" out.toArray c) → SrtO.Srtd ltv out →
      (∀ v ∈ out, ∃ k, κ.is k v = true ∧ S k = true) → (∀ k, S k = true → ∃ v ∈ out, κ.is k v = true) → out.Pairwise (fun u v => ∀ k, κ.is k u = true → κ.is k v = true → False) → out.length = n → Q (.ref p) z) :
    wpAny (model prog w) A (call (.builtin "sorted") [.ref a]) Q E s := by
  obtain ⟨o, es, ep, t, ho, ⟨xs, hd⟩, ⟨hel, nd⟩, hm, ⟨hb, hf, hn⟩, hr, hl⟩ := R
  refine Calls.call_function_entry kind_sorted plain_sorted entry_sorted (args_sorted1 _) ?_; unfold Builtin.«sorted»
  refine wpAny_bind (m := checkCount "sorted" 1 1 _) (wpAny_pure (wpAny_bind (collect_set (A := A.in1) hh ⟨o, ho, xs.1, hd⟩ hf hb hr hl fun s1 vs k1 hz g1 o1 pm => ?_)))
  have len : vs.length = n := by rw [pm.length_eq, List.length_map, Array.length_toList] <;> exact hn
  have small : vs.length ≤ sizeLine := by rw [len, ← hn] <;> exact fits_of_scanBound hb
  have mem : ∀ v ∈ vs, ∃ k, κ.is k v = true ∧ S k = true := fun v hv => by
    obtain ⟨e, he, ev⟩ := List.mem_map.mp (pm.mem_iff.mp hv)
    obtain ⟨⟨k, hk, _⟩, _⟩ := hel e he
    exact ⟨k, by rw [← ev] <;> exact hk, (hm k).mpr ⟨e, he, hk⟩⟩
  have all : ∀ k, S k = true → ∃ v ∈ vs, κ.is k v = true := fun k hk => let ⟨e, he, z⟩ := (hm k).mp hk; ⟨e.2, pm.mem_iff.mpr (List.mem_map.mpr ⟨e, he, rfl⟩), z⟩
  have apart : vs.Pairwise (fun u v => ∀ k, κ.is k u = true → κ.is k v = true → False) := List.Perm.pairwise pm.symm (List.pairwise_map.mpr nd) fun {u v} z k h1 h2 => z k h2 h1
  refine wpAny_bind (wpAny_newList ?_ small)
  have hoL : (s1.heap.push (seqObj "list" vs.toArray 0)).get? s1.heap.objs.size = some (seqObj "list" vs.toArray 0) := Heap.get?_push_size _ rfl
  refine wpAny_bind (wpAny_holding (wpAny_call_entry slot_list_sort ⟨_, hoL, rfl⟩ entry_list_sort (SrtO.list_sort_ord O hoL small (fun h2 => so vs mem h2 _ _ _) fun out h1 h2 => ⟨_, rfl, ?_⟩) (args_list_sort _)))
  obtain ⟨c, hc⟩ := sortedHeap_at (vs := vs) (out := out.toArray) hoL
  have p2 : out.Perm vs := h2.perm
  refine wpAny_pure ⟨_, rfl, q _ s1.heap.objs.size out c (fun b u e => ?_) g1 o1 hz hc h1 (fun v hv => mem v (p2.mem_iff.mp hv)) (fun k hk => let ⟨v, hv, z⟩ := all k hk; ⟨v, p2.mem_iff.mpr hv, z⟩) (List.Perm.pairwise p2.symm apart fun {u v} z k h1 h2 => z k h2 h1) (by rw [p2.length_eq] <;> exact len)⟩
  have e1 := k1 b u e
  have lt := Heap.lt_size e1
  show (sortedHeap (s1.heap.push (seqObj "list" vs.toArray 0)) s1.heap.objs.size vs out.toArray).get? b = some u
  rw [sortedHeap_old (Nat.ne_of_lt lt) (by rw [size_push'] <;> exact Nat.lt_succ_of_lt lt)]; exact Heap.get?_push_of_some _ e1
end
section
variable {X : Cx}
/-- sorted(xs), texts, any number of them -/
def rSortedTx (K : PySem.W.Frag) : List V → Hp → VK → Prop := fun vs H Q => ∃ (a : Addr) (ss : List Str), vs = [V.ref a] ∧ SqL K H a (ss.map V.str) ∧ ∀ (zs : List Str) (p : Addr), zs.Perm ss → zs.Pairwise (fun x y => ¬ ltC y x) → H p = none → Q (.ref p) (upd H p (.lst (zs.map V.str)))
theorem vals_strs : ∀ {out : List Value}, (∀ v ∈ out, ∃ x t, v = Value.str x t) → Vals ((out.map strOf).map V.str) out
  | [], _ => .nil
  | v :: out, h => by
    obtain ⟨x, t, e⟩ := h v List.mem_cons_self
    subst e
    exact .cons ⟨t, rfl⟩ (vals_strs fun u hu => h u (List.mem_cons_of_mem _ hu))
theorem strs_vals : ∀ {ss : List Str} {us : List Value}, Vals (ss.map V.str) us → (∀ v ∈ us, ∃ x t, v = Value.str x t) ∧ us.map strOf = ss
  | [], _, .nil => ⟨fun v h => absurd h (by simp), rfl⟩
  | z :: ss, _, .cons r t => by
    obtain ⟨tk, rfl⟩ := r
    obtain ⟨h1, h2⟩ := strs_vals t
    exact ⟨fun v hv => (List.mem_cons.mp hv).elim (fun e => ⟨z, tk, e⟩) (h1 v), congrArg (z :: ·) h2⟩
theorem cr_sortedTx : CallR X (.builtin "sorted") (rSortedTx X.K) := fun pins s σ H vs us Q I r h => by
  obtain ⟨a, ss, rfl, hs, q⟩ := h
  obtain ⟨its, rv, hl, hz⟩ := I.list hs
  rw [Vals.ref1 r]
  obtain ⟨hI, es⟩ := strs_vals rv
  have lz : its.length ≤ sizeLine := by rw [← rv.length] <;> exact hz
  refine SrtO.sorted_ord swo_str hl.isList lz (fun h2 h₁ a' _ _ => strs_sortable hI h2) fun out h1 h2 => ?_
  obtain ⟨ep, he⟩ := PyProof.Rows.sortedAll_at s.heap its out.toArray
  have hO : ∀ v ∈ out, ∃ x t, v = Value.str x t := fun v hv => hI v (h2.perm.mem_iff.mp hv)
  have lo : ((out.map strOf).map V.str).length ≤ sizeLine := by rw [List.length_map, List.length_map, h2.perm.length_eq] <;> exact lz
  refine ⟨.ref _, upd H (s.heap.objs.size + 1) (.lst ((out.map strOf).map V.str)), I.laid (t' := s.toks) (fun _ _ => PyProof.Rows.sortedAll_old) (Nat.le_succ _) ⟨lo, out, ep, vals_strs hO, he⟩, rfl, q _ _ ?_ ?_ (I.hok.fresh (Nat.le_succ _))⟩
  · rw [← es] <;> exact h2.perm.map strOf
  · exact List.pairwise_map.mpr (h1.imp fun {x y} h => of_decide_eq_false h)
/-- sorted(s), s a set of texts: ascending -/
def rSortedSx (P : Program) (w : World) : List V → Hp → VK → Prop := fun vs H Q => ∃ (a : Addr) (S : Key → Bool) (n : Nat), vs = [V.ref a] ∧ H a = some (SetX P w a S n) ∧ (∀ k, S k = true → ∃ z, k = Sum.inr z) ∧
  ∀ (zs : List Str) (p : Addr), zs.Pairwise ltC → (∀ z, z ∈ zs ↔ S (Sum.inr z) = true) → zs.length = n → H p = none → Q (.ref p) (upd H p (.lst (zs.map V.str)))
theorem ltC_str {x y : Str} (h : ¬ ltC y x) (ne : x ≠ y) : ltC x y := by
  rcases Decidable.em (ltC x y) with z | z
  · exact z
  · refine absurd ?_ ne
    have e : x.cps.toList = y.cps.toList := List.le_antisymm (List.not_lt.mp h) (List.not_lt.mp z)
    cases x; cases y; exact congrArg Str.mk (Array.toList_inj.mp e)
theorem cr_sortedSx (hc : X.calm = true) : CallR X (.builtin "sorted") (rSortedSx X.prog X.w) := fun pins s σ H vs us Q I r h => by
  obtain ⟨a, S, n, rfl, ha, hS, q⟩ := h
  rw [Vals.ref1 r]
  have isS : ∀ v, (∃ k, (mixKind X.prog X.w).is k v = true ∧ S k = true) → ∃ x t, v = Value.str x t ∧ S (.inr x) = true := fun v ⟨k, h1, h2⟩ => by
    obtain ⟨z, rfl⟩ := hS k h2
    rcases keyIs_shape (show keyIs (.inr z) v = true from h1) with ⟨i, t, e1, e2⟩ | ⟨x, t, e1, e2⟩
    · cases e1
    · cases e1; exact ⟨z, t, e2, h2⟩
  refine sorted_setG swo_str (setX_get I ha) (I.ok.hd hc) (fun vs mem h2 A' z d => strs_sortable (fun v hv => let ⟨x, t, e, _⟩ := isS v (mem v hv); ⟨x, t, e⟩) h2) fun z p out c k g o hp hg hs mem all ap hl => ?_
  have hO : ∀ v ∈ out, ∃ x t, v = Value.str x t ∧ S (.inr x) = true := fun v hv => isS v (mem v hv)
  have hV := vals_strs fun v hv => let ⟨x, t, e, _⟩ := hO v hv; ⟨x, t, e⟩
  have lo : ((out.map strOf).map V.str).length ≤ sizeLine := by
    obtain ⟨o, es, ep, t, ho, _, _, _, ⟨hb, hf, hn⟩, _⟩ := setX_get I ha
    rw [List.length_map, List.length_map, hl, ← hn] <;> exact fits_of_scanBound hb
  have hn : H p = none := I.hok.fresh hp
  have J : Inv X pins σ (upd H p (.lst ((out.map strOf).map V.str))) z := I.call' (ch := []) o (Un.laid k hp hn) (I.hok.laid k hp ⟨lo, out, c, hV, hg⟩) (by rw [g] <;> exact I.bare) (fun _ z => nomatch z)
  refine ⟨.ref p, _, J, rfl, q _ p ?_ (fun y => ⟨fun hy => ?_, fun hy => ?_⟩) (by rw [List.length_map] <;> exact hl) hn⟩
  · refine List.pairwise_map.mpr (List.Pairwise.imp_of_mem (fun {u v} hu hv w => ?_) (hs.and ap))
    obtain ⟨x, t, rfl, _⟩ := hO u hu
    obtain ⟨y, t', rfl, _⟩ := hO v hv
    refine ltC_str (of_decide_eq_false w.1) fun e => w.2 (.inr x) (mixKind_str _ _ x t) ?_
    have e : x = y := e
    rw [e] <;> exact mixKind_str _ _ y t'
  · obtain ⟨v, hv, rfl⟩ := List.mem_map.mp hy
    obtain ⟨x, t, rfl, z⟩ := hO v hv
    exact z
  · obtain ⟨v, hv, z⟩ := all _ hy
    obtain ⟨x, t, rfl, _⟩ := hO v hv
    refine List.mem_map.mpr ⟨_, hv, ?_⟩
    have := (mixKind X.prog X.w).inj _ _ _ z (mixKind_str X.prog X.w x t)
    exact (Sum.inr.inj this).symm
/-- len(s) of a set -/
def rLenSx (P : Program) (w : World) : List V → Hp → VK → Prop := fun vs H Q => ∃ (a : Addr) (S : Key → Bool) (n : Nat), vs = [V.ref a] ∧ H a = some (SetX P w a S n) ∧ Q (.int (n : Nat)) H
theorem cr_lenSx : CallR X (.builtin "len") (rLenSx X.prog X.w) := fun pins s σ H vs us Q I r h => by
  obtain ⟨a, S, n, rfl, ha, q⟩ := h
  rw [Vals.ref1 r]
  obtain ⟨o, es, ep, t, ho, ⟨xs, hd⟩, _, _, ⟨hb, hf, hn⟩, _⟩ := setX_get I ha
  subst hn
  have lz : es.size ≤ 16777216 := fits_of_scanBound hb
  exact call_len_set ho xs hd hf (by omega) ⟨.int (es.size : Nat), H, I.tok _, ⟨_, rfl⟩, q⟩
end
end Ev
set_option maxHeartbeats 4000000
namespace Ev
open PySem PySem.Spec PyProof.Rows L2 PySem.W
/-! sorted, lists that read as data; < of data -/
/-- a value, and what it reads as -/
abbrev DV := V × PyData
section
variable {X : Cx}
theorem each_dp {pins : List (Addr × Obj)} {σ : L2.St} {H : Hp} {s : Shared} (I : Inv X pins σ H s) : ∀ {bs : List DV} {us : List Value}, Vals (bs.map (·.1)) us → (∀ b ∈ bs, Dp X.K H b.1 b.2) →
    EachIs (fun v (b : DV) => RelV b.1 v) us bs ∧ EachIs (fun v (b : DV) => ∃ as, Reads s.heap v b.2 as) us bs
  | [], _, .nil, _ => ⟨.nil, .nil⟩
  | b :: bs, _, .cons r t, h => by
    obtain ⟨e1, e2⟩ := each_dp I t fun c hc => h c (List.mem_cons_of_mem _ hc)
    exact ⟨.cons r e1, .cons (Dp.reads I b.2 _ _ (h b List.mem_cons_self) r) e2⟩
theorem each_vals : ∀ {bs : List DV} {us : List Value}, EachIs (fun v (b : DV) => RelV b.1 v) us bs → Vals (bs.map (·.1)) us
  | [], _, .nil => .nil
  | _ :: _, _, .cons r t => .cons r (each_vals t)
def leD (a b : DV) : Bool := dataLe false (fun b : DV => b.2) a b
def rSortedD (K : PySem.W.Frag) : List V → Hp → VK → Prop := fun vs H Q => ∃ (a : Addr) (bs : List DV), vs = [V.ref a] ∧ SqL K H a (bs.map (·.1)) ∧ (∀ b ∈ bs, Dp K H b.1 b.2) ∧ AllAlike (bs.map (·.2)) ∧ Sortable (bs.map (·.2)) ∧ (∀ b ∈ bs, b.2.depth ≤ 60) ∧
  ∀ p, H p = none → Q (.ref p) (upd H p (.lst ((bs.mergeSort leD).map (·.1))))
theorem cr_sortedD (hu : X.A.units + 64 < cLine) : CallR X (.builtin "sorted") (rSortedD X.K) := fun pins s σ H vs us Q I r h => by
  obtain ⟨a, bs, rfl, hs, hd, hal, hk, hdep, q⟩ := h
  obtain ⟨its, rv, hl, hz⟩ := I.list hs
  rw [Vals.ref1 r]
  obtain ⟨e1, e2⟩ := each_dp I rv hd
  have lz : bs.length ≤ sizeLine := by rw [List.length_map] at hz; exact hz
  refine sorted_data (R := fun v (b : DV) => RelV b.1 v) (enc := fun b : DV => b.2) hl.isList e1 e2 hal hk lz (fun b hb => by have := hdep b hb; omega) fun out h1 h2 => ?_
  obtain ⟨ep, he⟩ := PyProof.Rows.sortedAll_at s.heap its out.toArray
  have lo : ((bs.mergeSort leD).map (·.1)).length ≤ sizeLine := by rw [List.length_map, List.length_mergeSort]; exact lz
  exact ⟨.ref _, upd H (s.heap.objs.size + 1) (.lst ((bs.mergeSort leD).map (·.1))), I.laid (t' := s.toks) (fun _ _ => PyProof.Rows.sortedAll_old) (Nat.le_succ _) ⟨lo, out, ep, each_vals h2, he⟩, rfl, q _ (I.hok.fresh (Nat.le_succ _))⟩
/-- x < y of data -/
def rLtD (K : PySem.W.Frag) : R2 := fun x y H Q => ∃ d e, Dp K H x d ∧ Dp K H y e ∧ alike d e = true ∧ d ≠ .none ∧ min d.depth e.depth ≤ 60 ∧ Q (.bl (dataLt d e)) H
theorem op_ltD (hu : X.A.units + 64 < cLine) : OpR X (compareOp .Lt) (rLtD X.K) := by
  intro pins s σ H x y v u Q I rx ry h
  obtain ⟨d, e, hd, he, al, nn, dp, q⟩ := h
  obtain ⟨as, r1⟩ := Dp.reads I d x v hd rx
  obtain ⟨bs, r2⟩ := Dp.reads I e y u he ry
  exact lt_data r1 r2 al nn (by omega) ⟨.bl _, H, I, rfl, q⟩
end
end Ev
set_option maxHeartbeats 4000000
namespace LawK
open PySem PySem.Spec PyProof.Rows L2 Ev PySem.W

theorem dataLt_iii (a b c x y z : Int) : dataLt (.tuple [.int a, .int b, .int c]) (.tuple [.int x, .int y, .int z]) = decide (a < x ∨ a = x ∧ (b < y ∨ b = y ∧ c < z)) := by
  rw [dataLt_tuple, dataLt_cons (by simp [alike]), dataLt_cons (by simp [alike]), dataLt_cons (by simp [alike])]
  have e0 : PyProof.Rows.lexLt itemOrd (keyToksAll []) (keyToksAll []) = false := lex_irrefl _
  rw [e0, dataLt_int, dataLt_int, dataLt_int]
  have e2 : ∀ a b : Int, PyData.eqv (.int a) (.int b) = decide (a = b) := fun a b => by
    simp only [PyData.eqv]
    first | rfl | exact Bool.eq_iff_iff.mpr (by simp)
  rw [e2, e2, e2]
  by_cases h1 : a = x
  · subst h1
    by_cases h2 : b = y
    · subst h2
      by_cases h3 : c = z
      · subst h3; simp
      · simp [h3]
    · simp [h2]
  · simp [h1]
instance (s t : Tr) : Decidable (ltT s t) := by unfold ltT; infer_instance
def leE (d e : PyData) : Bool := !dataLt e d
def encT (t : Tr) : PyData := .tuple [.int (t.1 : Nat), .int (t.2.1 : Nat), .int (t.2.2 : Nat)]
theorem encT_lt (s t : Tr) : dataLt (encT s) (encT t) = decide (ltT s t) := by
  unfold encT
  rw [dataLt_iii]
  exact decide_eq_decide.mpr (by unfold ltT; omega)
def TrAt (H : Hp) (v : V) (t : Tr) : Prop := ∃ b, v = .ref b ∧ H b = some (.tup [.int (t.1 : Nat), .int (t.2.1 : Nat), .int (t.2.2 : Nat)])
theorem TrAt.same {H H' : Hp} {v : V} {p : Tr} (k : Same H H') (h : TrAt H v p) : TrAt H' v p := let ⟨b, e, r⟩ := h; ⟨b, e, k _ _ r⟩
theorem TrAt.put {H : Hp} {D : Addr} {xs : List V} {o : HO} {v : V} {p : Tr} (hD : H D = some (.lst xs)) (h : TrAt H v p) : TrAt (upd H D o) v p := by
  obtain ⟨b, e, r⟩ := h
  refine ⟨b, e, ?_⟩
  rw [upd_ne]
  · exact r
  · intro z
    rw [z, hD] at r
    cases r
theorem All2.zs {α β : Type} {R : α → β → Prop} {xs : List α} {ys : List β} (h : All2 R xs ys) : ∃ zs : List (α × β), xs = zs.map (·.1) ∧ ys = zs.map (·.2) ∧ ∀ z ∈ zs, R z.1 z.2 := by
  induction h with
  | nil => exact ⟨[], rfl, rfl, fun z h => absurd h (by simp)⟩
  | @cons x y xs ys r _ ih =>
    obtain ⟨zs, e1, e2, h⟩ := ih
    refine ⟨(x, y) :: zs, by rw [e1]; rfl, by rw [e2]; rfl, fun z hz => ?_⟩
    rcases List.mem_cons.mp hz with e | e
    · rw [e]; exact r
    · exact h z e
theorem All2.ofZ {α β : Type} {R : α → β → Prop} : ∀ {zs : List (α × β)}, (∀ z ∈ zs, R z.1 z.2) → All2 R (zs.map (·.1)) (zs.map (·.2))
  | [], _ => .nil
  | z :: zs, h => .cons (h z List.mem_cons_self) (All2.ofZ fun y hy => h y (List.mem_cons_of_mem _ hy))
theorem encT_depth (t : Tr) : (encT t).depth ≤ 60 := by
  unfold encT
  simp [PyData.depth, PyData.depthAll]
theorem encT_dp {K : PySem.W.Frag} {H : Hp} {v : V} {t : Tr} (h : TrAt H v t) : Dp K H v (encT t) := by
  obtain ⟨b, rfl, e⟩ := h
  exact .tup (SqT.of e) (.cons (.int _) (.cons (.int _) (.cons (.int _) .nil)))
def leT (s t : Tr) : Bool := leE (encT s) (encT t)
theorem leT_iff (s t : Tr) : leT s t = true ↔ ¬ ltT t s := by
  unfold leT leE
  rw [encT_lt]
  simp
theorem leT_trans (a b c : Tr) (h : leT a b = true) (k : leT b c = true) : leT a c = true := by
  rw [leT_iff] at *
  unfold ltT at *
  omega
theorem leT_total (a b : Tr) : (leT a b || leT b a) = true := by
  rw [Bool.or_eq_true, leT_iff, leT_iff]
  unfold ltT
  omega
/-- sorted of a list of triples -/
theorem sorted_tr {K : PySem.W.Frag} {H : Hp} {a : Addr} {vs : List V} {ps : List Tr} {Q : VK} (ha : H a = some (.lst vs)) (h : All2 (TrAt H) vs ps)
    (q : ∀ p vs', H p = none → All2 (TrAt H) vs' (ps.mergeSort leT) → Q (.ref p) (upd H p (.lst vs'))) : rSortedD K [.ref a] H Q := by
  obtain ⟨zs, rfl, rfl, hz⟩ := h.zs
  refine ⟨a, zs.map (fun z => (z.1, encT z.2)), rfl, ?_, ?_, ?_, ?_, ?_, fun p np => ?_⟩
  · rw [List.map_map]; exact sq_of ha
  · intro b hb
    obtain ⟨z, hz', rfl⟩ := List.mem_map.mp hb
    exact encT_dp (hz z hz')
  · rw [List.map_map]
    exact AllAlike.of (enc := fun z : V × Tr => encT z.2) fun b b' => by
      unfold encT
      simp [alike, alikeAll]
  · rw [List.map_map]
    exact Sortable.tuples (enc := fun z : V × Tr => encT z.2) fun b => ⟨_, _, rfl⟩
  · intro b hb
    obtain ⟨z, hz', rfl⟩ := List.mem_map.mp hb
    exact encT_depth z.2
  · have e1 : (zs.map fun z => ((z.1, encT z.2) : DV)).mergeSort leD = (zs.mergeSort fun z w => leT z.2 w.2).map fun z => (z.1, encT z.2) := (List.map_mergeSort (r := fun z w : V × Tr => leT z.2 w.2) (s := leD) (f := fun z : V × Tr => ((z.1, encT z.2) : DV)) (l := zs) fun x _ y _ => rfl).symm
    have e2 : (zs.map (·.2)).mergeSort leT = (zs.mergeSort fun z w => leT z.2 w.2).map (·.2) := (List.map_mergeSort (r := fun z w : V × Tr => leT z.2 w.2) (s := leT) (f := fun z : V × Tr => z.2) (l := zs) fun x _ y _ => rfl).symm
    rw [e2] at q
    rw [e1, List.map_map]
    exact q p _ np (All2.ofZ fun z hz' => hz z ((List.mergeSort_perm _ _).mem_iff.mp hz'))
/-- the dict of the stretches, the least period of each -/
def kP (p : Nat × Nat) : List L2.Key := [.inl (p.1 : Nat), .inl (p.2 : Nat)]
theorem kP_inj {p q : Nat × Nat} (h : kP p = kP q) : p = q := by
  unfold kP at h
  injection h with h1 h2
  injection h2 with h2 h3
  exact Prod.ext (by exact Int.ofNat.inj (Sum.inl.inj h1)) (by exact Int.ofNat.inj (Sum.inl.inj h2))
def kvT (ks : List Tr) : List (List L2.Key × V) := ks.map fun t => (kP (t.1, t.2.1), V.int (t.2.2 : Nat))
theorem kvT_none {ks : List Tr} {p : Nat × Nat} (h : valV (kvT ks) (kP p) = none) : ∀ t ∈ ks, (t.1, t.2.1) ≠ p := fun t m e => by
  refine valV_not h ?_
  unfold kvT
  rw [List.map_map]
  exact List.mem_map.mpr ⟨t, m, by show kP (t.1, t.2.1) = _; rw [e]⟩
theorem kvT_some {ks : List Tr} {p : Nat × Nat} {v : V} (h : valV (kvT ks) (kP p) = some v) : ∃ t ∈ ks, (t.1, t.2.1) = p := by
  have := valV_in h
  unfold kvT at this
  rw [List.map_map] at this
  obtain ⟨t, m, e⟩ := List.mem_map.mp this
  exact ⟨t, m, kP_inj e⟩
structure LT (x : Sg) (m : Nat) (pr : Nat → Nat → Nat → Prop) (ks : List Tr) : Prop where
  mx : ∀ t ∈ ks, Mx x t.1 t.2.1 t.2.2
  met : ∀ a b q, Mx x a b q → pr a b q → ∃ t ∈ ks, (t.1, t.2.1) = (a, b) ∧ t.2.2 ≤ q
  one : ks.Pairwise fun s t => (s.1, s.2.1) ≠ (t.1, t.2.1)
  le : ∀ t ∈ ks, t.2.2 ≤ m
theorem LT.there {x : Sg} {m : Nat} {pr pr' : Nat → Nat → Nat → Prop} {ks : List Tr} {p : Nat × Nat} (h : LT x m pr ks) (i : ∃ t ∈ ks, (t.1, t.2.1) = p) (k : ∀ a b q, pr' a b q → pr a b q ∨ (a, b) = p ∧ q = m) : LT x m pr' ks := by
  refine ⟨h.mx, fun a b q hm hp => ?_, h.one, h.le⟩
  rcases k a b q hp with z | ⟨z, e⟩
  · exact h.met a b q hm z
  · obtain ⟨t, mt, et⟩ := i
    exact ⟨t, mt, et.trans z.symm, by rw [e]; exact h.le t mt⟩
theorem LT.new {x : Sg} {m : Nat} {pr pr' : Nat → Nat → Nat → Prop} {ks : List Tr} {p : Nat × Nat} (h : LT x m pr ks) (i : ∀ t ∈ ks, (t.1, t.2.1) ≠ p) (hp : Mx x p.1 p.2 m) (k : ∀ a b q, pr' a b q → pr a b q ∨ (a, b) = p ∧ q = m) : LT x m pr' (ks ++ [(p.1, p.2, m)]) := by
  refine ⟨fun t mt => ?_, fun a b q hm hpr => ?_, ?_, fun t mt => ?_⟩
  · rcases List.mem_append.mp mt with z | z
    · exact h.mx t z
    · rw [List.mem_singleton.mp z]
      exact hp
  · rcases k a b q hpr with z | ⟨z, e⟩
    · obtain ⟨t, mt, r⟩ := h.met a b q hm z
      exact ⟨t, List.mem_append_left _ mt, r⟩
    · exact ⟨_, List.mem_append_right _ List.mem_cons_self, z.symm, by rw [e]; exact Nat.le_refl _⟩
  · rw [List.pairwise_append]
    refine ⟨h.one, List.pairwise_singleton _ _, fun s ms t mt => ?_⟩
    rw [List.mem_singleton.mp mt]
    exact i s ms
  · rcases List.mem_append.mp mt with z | z
    · exact h.le t z
    · rw [List.mem_singleton.mp z]
      exact Nat.le_refl _
theorem LT.up {x : Sg} {m : Nat} {pr pr' : Nat → Nat → Nat → Prop} {ks : List Tr} (h : LT x m pr ks) (k : ∀ a b q, Mx x a b q → pr' a b q → pr a b q) : LT x (m + 1) pr' ks :=
  ⟨h.mx, fun a b q hm hp => h.met a b q hm (k a b q hm hp), h.one, fun t mt => Nat.le_succ_of_le (h.le t mt)⟩
theorem LT.runs {x : Sg} {m : Nat} {pr : Nat → Nat → Nat → Prop} {ks : List Tr} (h : LT x m pr ks) (al : ∀ a b q, Mx x a b q → pr a b q) : Runs x (ks.mergeSort leT) := by
  have perm := List.mergeSort_perm ks leT
  have same : ∀ s ∈ ks, ∀ t ∈ ks, (s.1, s.2.1) = (t.1, t.2.1) → s = t := fun s hs t ht e => by
    obtain ⟨i, hi, ei⟩ := List.getElem_of_mem hs
    obtain ⟨j, hj, ej⟩ := List.getElem_of_mem ht
    have pw := List.pairwise_iff_getElem.mp h.one
    rcases Nat.lt_trichotomy i j with g | g | g
    · have := pw i j hi hj g
      rw [ei, ej] at this
      exact absurd e this
    · subst g
      exact ei.symm.trans ej
    · have := pw j i hj hi g
      rw [ei, ej] at this
      exact absurd e.symm this
  have mem : ∀ t : Tr, t ∈ ks ↔ Run x t.1 t.2.1 t.2.2 := fun t => by
    constructor
    · intro mt
      refine Run.of_least (h.mx t mt) fun p pq hm => ?_
      obtain ⟨t', mt', e, l⟩ := h.met _ _ _ hm (al _ _ _ hm)
      have := same t' mt' t mt e
      rw [this] at l
      omega
    · intro r
      obtain ⟨t', mt', e, l⟩ := h.met _ _ _ r.1 (al _ _ _ r.1)
      injection e with e1 e2
      have hm := h.mx t' mt'
      have : t'.2.2 = t.2.2 := by
        rcases Nat.lt_or_ge t'.2.2 t.2.2 with z | z
        · have p := hm.pr
          rw [e1, e2] at p
          exact absurd p (r.2 _ hm.q0 z)
        · omega
      have : t' = t := Prod.ext e1 (Prod.ext e2 this)
      rw [← this]
      exact mt'
  refine ⟨fun t => perm.mem_iff.trans (mem t), ?_⟩
  have p1 : (ks.mergeSort leT).Pairwise fun a b => leT a b = true := List.pairwise_mergeSort leT_trans leT_total ks
  have p2 : (ks.mergeSort leT).Pairwise fun a b => a ≠ b := perm.symm.pairwise (h.one.imp fun n e => n (by rw [e])) fun n => n.symm
  refine (p1.and p2).imp fun {a b} r => ?_
  obtain ⟨r1, r2⟩ := r
  rw [leT_iff] at r1
  unfold ltT at *
  rcases Nat.lt_trichotomy a.1 b.1 with g | g | g
  · exact .inl g
  · rcases Nat.lt_trichotomy a.2.1 b.2.1 with g2 | g2 | g2
    · exact .inr ⟨g, .inl g2⟩
    · rcases Nat.lt_trichotomy a.2.2 b.2.2 with g3 | g3 | g3
      · exact .inr ⟨g, .inr ⟨g2, g3⟩⟩
      · exact absurd (Prod.ext g (Prod.ext g2 g3)) r2
      · omega
    · omega
  · omega
def spRuns : Sp := fun vs H Q _ => ∃ (z : Str), vs = [.str z] ∧ sgB z = true ∧ z.length ≤ 2000 ∧ ∀ D us rs H', H' D = some (.lst us) → All2 (TrAt H') us rs → Runs (cd z) rs → Same H H' → Q (.ref D) H'
section
variable {P : Program} {w : World} {K : PySem.W.Frag} {mg : Str → Option Value} {base : Heap}
end
end LawK
set_option maxHeartbeats 4000000
namespace LawK
open PySem PySem.Spec PyProof.Rows L2 Ev
section
variable {P : Program} {w : World} {K : PySem.W.Frag} {mg : Str → Option Value} {base : Heap}
abbrev sPRuns : Stmt := topS 16
theorem scPRuns : FnScope ["text", "least", "many", "stretch", "first", "behind"] ["text"] (defScope sPRuns) := ⟨rfl, rfl, rfl, by decide +kernel, rfl, by decide +kernel, by decide +kernel⟩
theorem ok_PRuns {f : Addr} {fd : FuncData} (F : Fun K "runs" "runs" sPRuns f fd)  {fQStretches : Addr} {fdQStretches : FuncData} (DQStretches : Dk P w K mg base "_stretches" sQStretches ["text", "many"] 1 spStr fQStretches fdQStretches) {fPText : Addr} {fdPText : FuncData} (DPText : Dk P w K mg base "is_text" sPText ["thing"] 2 spTextY fPText fdPText) (T : Glob mg) : FnOk P w K mg base CX0 3 f fd ["text"] spRuns := by
  refine F.ok scPRuns (fun vs H Q E h => ?_) (fun cdv A outer s H vs Q E hr h => ?_)
  · obtain ⟨z, rfl, _⟩ := h
    rfl
  · refine ⟨_, (pss_cons (ps_if (pt_not (pt_val (pe_call DPText.ok (hr.mono (by decide)) (by rfl) DPText.g DPText.F.kp DPText.b .nil pass0 (pa_cons (pv 0) pa_nil))))
      (pss_one ps_dead)
      pss_nil)
      (pss_cons (ps_set (i := 1) scPRuns.nd rfl (.inl rfl) pe_dnewT)
      (pss_cons (ps_for PassesOwn.never rfl (pi_range2 (by rfl) T.range (pa_cons pe_int (pa_cons (pe_op op_add (pe_op op_fdiv (pe_callB call_lenZ (by rfl) T.len PySem.boot_len (pa_cons (pv 0) pa_nil)) pe_int) pe_int) pa_nil))) (pg_name (i := 2) scPRuns.nd rfl (.inl rfl))
      (pss_one (ps_for PassesOwn.never rfl (pi_list (pe_call DQStretches.ok (hr.mono (by decide)) (by rfl) DQStretches.g DQStretches.F.kp DQStretches.b .nil pass0 (pa_cons (pv 0) (pa_cons (pv 2) pa_nil)))) (pg_name (i := 3) scPRuns.nd rfl (.inl rfl))
        (pss_one (ps_expr (pe_setdT (hu_of hr) (pv 1) (pv 3) (pv 2) ⟨rfl, rfl, rfl, rfl⟩))))))
      (pss_one (ps_ret (pe_lock (pe_callB (cr_sortedD hr.units) (by rfl) T.sorted (by decide +kernel) (pa_cons (pe_lc (own := [("first", 4), ("behind", 5), ("many", 2)]) (g := gTup K 2 (gCons (gTup K 2 (gCons (gName 4) (gCons (gName 5) gNil))) (gCons (gName 2) gNil))) (by rfl) scPRuns.nd (pi_itemsT (pv 1)) (blkOk_by (N := ["text", "least", "many", "stretch", "first", "behind"]) (sc := defScope sPRuns) (by decide +kernel)) (fun _ _ _ _ _ => pg_tup (by rfl) (pgs_cons (pg_tup (by rfl) (pgs_cons (pg_name (i := 4) scPRuns.nd rfl (.inl rfl)) (pgs_cons (pg_name (i := 5) scPRuns.nd rfl (.inl rfl)) pgs_nil))) (pgs_cons (pg_name (i := 2) scPRuns.nd rfl (.inl rfl)) pgs_nil))) (fun _ _ _ _ _ => pts_nil) (fun _ _ _ _ _ => (pe_tup (pa_cons (pv 4) (pa_cons (pv 5) (pa_cons (pv 2) pa_nil)))))) pa_nil)))))))), ?_⟩
    obtain ⟨z, rfl, sz, lz, q⟩ := h
    have lc := cd_len z
    refine ⟨.str z, rfl, z, rfl, sz, lz, _, rfl, iteF ?_⟩
    dsimp only [tNext, tDrop]
    refine fun d nd => ?_
    refine ⟨.str z, rfl, z, rfl, len6 lz, _, _, rfl, rfl, ⟨by decide, by decide⟩, _, _, rfl, rfl, _, _, rfl, ⟨by omega, by omega, by omega, by omega⟩, for_range (fun i σ H' => ∃ (ks : List Tr) (u2 u3 : Option V), σ = [some (.str z), some (.ref d), u2, u3, none, none] ∧ Same H H' ∧ H' d = some (.dT (kvT ks)) ∧ LT (cd z) i (fun _ _ q => q ≤ i) ks ∧ ks.length ≤ i * 2001) ⟨[], _, _, rfl, Same.new nd, upd_same, ⟨fun t h => (by cases h), fun a b q h l => (by have := h.q0; omega), .nil, fun t h => (by cases h)⟩, Nat.zero_le _⟩ ?_ ?_⟩
    · rintro i σ H1 hi ⟨ks, u2, u3, rfl, k1, hd, lt, lk⟩
      have him : (i + 1) + (i + 1) ≤ z.length := by omega
      refine ⟨.str z, rfl, .int (1 + (i : Int)), rfl, z, i + 1, by rw [show (1 : Int) + (i : Int) = ((i + 1 : Nat) : Int) by omega]; rfl, lz, by omega, by omega, fun D ts ps H2 hD hps lts mem k2 nD => ?_⟩
      have nDd : D ≠ d := (ne_of_none hd nD).symm
      refine ⟨D, rfl, ⟨_, sq_of hD⟩, for_list (K := K) (xs := ts) (fun j σ H' => ∃ (ks : List Tr) (u3 : Option V), σ = [some (.str z), some (.ref d), some (.int (1 + (i : Int))), u3, none, none] ∧ Same H H' ∧ H' D = some (.lst ts) ∧ All2 (PrAt H') ts ps ∧ H' d = some (.dT (kvT ks)) ∧ LT (cd z) (i + 1) (fun a b q => q ≤ i ∨ (a, b) ∈ ps.take j ∧ q = i + 1) ks ∧ ks.length ≤ i * 2001 + j) ⟨ks, _, rfl, k1.trans k2, hD, hps, k2 _ _ hd, lt.up fun a b q hm h => ?_, by omega⟩ (fun j σ H' _ ⟨_, _, _, _, w, _⟩ => sq_of w) ?_ ?_⟩
      · rcases h with h | ⟨h, _⟩
        · exact h
        · cases h
      · rintro j u σ H3 hj ⟨ks, u3, rfl, k3, hD, hps, hd, lt, lk⟩
        obtain ⟨p, ep, b, rfl, hb⟩ := hps.at hj
        have lj := (List.getElem?_eq_some_iff.mp hj).1
        have hpm := (mem p).mp (List.mem_of_getElem? ep)
        have split : ∀ a c q, (q ≤ i ∨ (a, c) ∈ ps.take (j + 1) ∧ q = i + 1) → (q ≤ i ∨ (a, c) ∈ ps.take j ∧ q = i + 1) ∨ (a, c) = p ∧ q = i + 1 := fun a c q h => by
          rcases h with h | ⟨h, e⟩
          · exact .inl (.inl h)
          · rw [take_snoc ep] at h
            rcases List.mem_append.mp h with h | h
            · exact .inl (.inr ⟨h, e⟩)
            · exact .inr ⟨List.mem_singleton.mp h, e⟩
        have few : (kvT ks).length < sizeLine := by
          have lks : i * 2001 ≤ 1000 * 2001 := Nat.mul_le_mul_right _ (by omega)
          unfold kvT
          rw [List.length_map, sizeLine_eq]
          omega
        refine ⟨.ref d, rfl, d, rfl, .inr ⟨_, .inl hd⟩, .ref b, rfl, .int (1 + (i : Int)), rfl, kvT ks, kP p, b, hd, rfl, hb, few, fun v hv => ?_, fun hv => ?_⟩
        · exact ⟨ks, _, rfl, k3, hD, hps, hd, lt.there (kvT_some hv) split, by omega⟩
        · have en : putK (kvT ks) (kP p) (.int (1 + (i : Int))) = kvT (ks ++ [(p.1, p.2, i + 1)]) := by
            rw [putK_new _ hv, show (1 : Int) + (i : Int) = ((i + 1 : Nat) : Int) by omega]
            unfold kvT
            rw [List.map_append]
            rfl
          rw [en]
          refine ⟨_, _, rfl, sameAt k3 nd, by rw [upd_ne nDd]; exact hD, hps.imp fun _ _ r => ?_, upd_same, lt.new (kvT_none hv) hpm split, by rw [List.length_append, List.length_singleton]; omega⟩
          obtain ⟨c, e, hc⟩ := r
          refine ⟨c, e, ?_⟩
          rw [upd_ne]
          · exact hc
          · intro y
            rw [y, hd] at hc
            cases hc
      · rintro σ H3 ⟨ks, u3, rfl, k3, hD, hps, hd, lt, lk⟩
        refine ⟨ks, _, _, rfl, k3, hd, ⟨lt.mx, fun a b q hm l => lt.met a b q hm ?_, lt.one, lt.le⟩, by omega⟩
        rcases Nat.lt_or_ge i q with g | g
        · have : q = i + 1 := by omega
          subst this
          refine .inr ⟨?_, rfl⟩
          rw [List.take_of_length_le (by rw [hps.len]; exact Nat.le_refl _)]
          exact (mem (a, b)).mpr hm
        · exact .inl g
    · rintro σ H1 ⟨ks, u2, u3, rfl, k1, hd, lt, lk⟩
      have rn := lt.runs fun a b q h => by
        have h1 := h.two
        have h2 := h.bn
        rw [lc] at h2
        omega
      refine ⟨d, _, hd, trivial, fun od => ?_⟩
      have k3 := sameAt (o := .frz od (.dT (kvT ks))) k1 nd
      have hf : upd H1 d (.frz od (.dT (kvT ks))) d = some (.frz od (.dT (kvT ks))) := upd_same
      revert k3 hf
      generalize upd H1 d (.frz od (.dT (kvT ks))) = H3
      intro k3 hf
      refine ⟨.ref d, rfl, d, od, kvT ks, rfl, hf, fun D nD => lc_it walk_itemsT (fun i H' => Same H3 H' ∧ ∃ us, H' D = some (.lst us) ∧ All2 (TrAt H') us (ks.take i)) ⟨Same.new nD, [], upd_same, .nil⟩ (fun i H' _ w => w.1 _ _ hf) ?_ ?_⟩
      · rintro i x H4 H5 hi ⟨k4, us, hD, hus⟩ ⟨T, k, v, qa, hk, rfl, nT, hq, rfl⟩
        have hk : ((ks.map fun t => (kP (t.1, t.2.1), V.int (t.2.2 : Nat))) : List (List L2.Key × V))[i]? = some (k, v) := hk
        rw [List.getElem?_map] at hk
        obtain ⟨t, ht, e⟩ := Option.map_eq_some_iff.mp hk
        injection e with e1 e2
        subst e1
        subst e2
        have kT := Same.new (o := .tup [.ref qa, .int (t.2.2 : Nat)]) nT
        have hT : upd H4 T (.tup [.ref qa, .int (t.2.2 : Nat)]) T = some (.tup [.ref qa, .int (t.2.2 : Nat)]) := upd_same
        have hq := kT _ _ hq
        have hD2 := kT _ _ hD
        have hus2 := hus.imp fun _ _ r => TrAt.same kT r
        have k5 := k4.trans kT
        revert kT hT hq hD2 hus2 k5
        generalize upd H4 T (.tup [.ref qa, .int (t.2.2 : Nat)]) = H5
        intro kT hT hq hD2 hus2 k5
        have hq : H5 qa = some (.tup [.int (t.1 : Nat), .int (t.2.1 : Nat)]) := hq
        refine ⟨T, _, rfl, SqT.of hT, rfl, _, _, rfl, qa, _, rfl, SqT.of hq, rfl, _, _, rfl, _, _, rfl, rfl, _, _, rfl, rfl, rfl, ?_⟩
        refine ⟨.int (t.1 : Nat), rfl, .int (t.2.1 : Nat), rfl, .int (t.2.2 : Nat), rfl, by show 3 ≤ sizeLine; decide, fun r nr => ?_⟩
        have kr := Same.new (o := .tup [.int (t.1 : Nat), .int (t.2.1 : Nat), .int (t.2.2 : Nat)]) nr
        refine ⟨us, kr _ _ hD2, ?_, sameAt (k5.trans kr) nD, us ++ [.ref r], upd_same, ?_⟩
        · have := hus.len
          rw [List.length_take] at this
          rw [sizeLine_eq]
          have lks : ks.length ≤ 1000 * 2001 := Nat.le_trans lk (Nat.mul_le_mul_right _ (by omega))
          omega
        · rw [take_snoc ht]
          exact ((hus2.imp fun _ _ r => TrAt.same kr r).snoc ⟨r, rfl, upd_same⟩).imp fun _ _ r => TrAt.put (kr _ _ hD2) r
      · rintro H4 ⟨k4, us, hD, hus⟩
        have lks : (kvT ks).length = ks.length := by
          unfold kvT
          exact List.length_map _
        rw [lks, List.take_of_length_le (Nat.le_refl _)] at hus
        dsimp only [tNil]
        refine sorted_tr (K := K) hD hus fun p vs' np hp => ⟨?_, ?_⟩
        · rw [upd_ne (ne_of_none (k4 _ _ hf) np)]
          exact k4 _ _ hf
        · have k5 := (k3.trans k4).trans (Same.new (o := .lst vs') np)
          have npd : p ≠ d := fun e => by
            rw [e, k4 _ _ hf] at np
            cases np
          refine q p vs' _ _ (by rw [upd_ne npd]; exact upd_same) (hp.imp fun _ _ r => ?_) rn (sameAt k5 nd)
          obtain ⟨b, e, hb⟩ := r
          refine ⟨b, e, ?_⟩
          rw [upd_ne, upd_ne (ne_of_none hb np)]
          · exact hb
          · intro z
            rw [z, k4 _ _ hf] at hb
            cases hb
end
end LawK
set_option maxHeartbeats 4000000
namespace LawK
open PySem PySem.Spec PyProof.Rows L2 Ev

def strB (z : Str) : Option (List V) → Bool
  | some [.int a, .int b, .int q] => (decide (0 ≤ a) && (decide (0 ≤ b) && decide (0 ≤ q))) && (decide (b ≤ (z.length : Int)) && (decide (0 < q) && decide (a + 2 * q ≤ b)))
  | _ => false
def spIsStr : Sp := fun vs H Q _ => ∃ (z : Str) (x : V) (o : Option (List V)), vs = [.str z, x] ∧ z.length ≤ 2000 ∧ Tg H x o ∧ ∀ H', Same H H' → Q (.bl (strB z o)) H'
def spIsRun : Sp := fun vs H Q _ => ∃ (z : Str) (x : V) (o : Option (List V)), vs = [.str z, x] ∧ sgB z = true ∧ z.length ≤ 2000 ∧ Tg H x o ∧ ∀ c H', Same H H' → (c = true ↔ ∃ a b q : Nat, o = some [.int (a : Nat), .int (b : Nat), .int (q : Nat)] ∧ Run (cd z) a b q) → Q (.bl c) H'
theorem strB_no {z : Str} {x y w : V} (h : (numV x && (numV y && numV w)) = false) : strB z (some [x, y, w]) = false := by
  cases x with
  | int a =>
    cases y with
    | int b =>
      cases w with
      | int q =>
        have h : (decide (0 ≤ a) && (decide (0 ≤ b) && decide (0 ≤ q))) = false := h
        show ((decide (0 ≤ a) && (decide (0 ≤ b) && decide (0 ≤ q))) && _) = false
        rw [h]
        rfl
      | _ => rfl
    | _ => rfl
  | _ => rfl
theorem one_eq {c d : Nat} : decide (V.str (SX.S [c]) = V.str (SX.S [d])) = decide (c = d) := by
  have h := @one_sign c d
  have h := congrArg Bool.not h
  rw [Bool.not_not] at h
  rw [h, ← decide_not]
  exact decide_eq_decide.mpr ⟨fun h => Classical.byContradiction h, fun h n => n h⟩
theorem strB_nat {z : Str} {a b q : Nat} : strB z (some [.int (a : Nat), .int (b : Nat), .int (q : Nat)]) = true ↔ b ≤ z.length ∧ 0 < q ∧ a + 2 * q ≤ b := by
  show (((decide (0 ≤ (a : Int)) && (decide (0 ≤ (b : Int)) && decide (0 ≤ (q : Int)))) && (decide ((b : Int) ≤ (z.length : Int)) && (decide ((0 : Int) < (q : Int)) && decide ((a : Int) + 2 * (q : Int) ≤ (b : Int))))) = true) ↔ _
  simp only [Bool.and_eq_true, decide_eq_true_iff]
  omega
theorem strB_true {z : Str} {o : Option (List V)} (h : strB z o = true) : ∃ a b q : Nat, o = some [.int (a : Nat), .int (b : Nat), .int (q : Nat)] ∧ b ≤ z.length ∧ 0 < q ∧ a + 2 * q ≤ b := by
  have key : ∃ i j k : Int, o = some [.int i, .int j, .int k] := by
    match o, h with
    | some [.int i, .int j, .int k], _ => exact ⟨i, j, k, rfl⟩
  obtain ⟨i, j, k, rfl⟩ := key
  have h1 : ((decide (0 ≤ i) && (decide (0 ≤ j) && decide (0 ≤ k))) && (decide (j ≤ (z.length : Int)) && (decide (0 < k) && decide (i + 2 * k ≤ j)))) = true := h
  simp only [Bool.and_eq_true, decide_eq_true_iff] at h1
  obtain ⟨⟨a1, a2, a3⟩, a4, a5, a6⟩ := h1
  refine ⟨i.toNat, j.toNat, k.toNat, ?_, by omega, by omega, by omega⟩
  rw [Int.toNat_of_nonneg a1, Int.toNat_of_nonneg a2, Int.toNat_of_nonneg a3]
theorem numV_int {x : V} (h : numV x = true) : ∃ a : Nat, x = .int (a : Nat) := by
  cases x with
  | int i =>
    have h : decide (0 ≤ i) = true := h
    have := of_decide_eq_true h
    exact ⟨i.toNat, by rw [Int.toNat_of_nonneg this]⟩
  | _ => cases h
section
variable {P : Program} {w : World} {K : PySem.W.Frag} {mg : Str → Option Value} {base : Heap}
abbrev sQIsStretch : Stmt := topS 17
theorem scQIsStretch : FnScope ["text", "thing", "first", "behind", "many", "part"] ["text", "thing"] (defScope sQIsStretch) := ⟨rfl, rfl, rfl, by decide +kernel, rfl, by decide +kernel, by decide +kernel⟩
theorem ok_QIsStretch {f : Addr} {fd : FuncData} (F : Fun K "_is_stretch" "_is_stretch" sQIsStretch f fd)  {fPNumber : Addr} {fdPNumber : FuncData} (DPNumber : Dk P w K mg base "is_number" sPNumber ["thing"] 1 spNum fPNumber fdPNumber) {fPTuple : Addr} {fdPTuple : FuncData} (DPTuple : Dk P w K mg base "is_tuple" sPTuple ["thing", "many"] 1 spTuple fPTuple fdPTuple) (T : Glob mg) : FnOk P w K mg base CX0 2 f fd ["text", "thing"] spIsStr := by
  refine F.ok scQIsStretch (fun vs H Q E h => ?_) (fun cdv A outer s H vs Q E hr h => ?_)
  · obtain ⟨z, x, o, rfl, _⟩ := h
    rfl
  · refine ⟨_, (pss_cons (ps_if (PW.pt (pw_or (pt_not (pt_val (pe_call DPTuple.ok (hr.mono (by decide)) (by rfl) DPTuple.g DPTuple.F.kp DPTuple.b .nil pass0 (pa_cons (pv 1) (pa_cons pe_int pa_nil))))) (pw_or1 (pt_not (pt_val (pe_callB (cr_all rfl) (by rfl) T.all (by decide +kernel) (pa_cons (pe_lc (own := [("part", 5)]) (g := gName 5) (by rfl) scQIsStretch.nd (pi_tup (pv 1)) (blkOk_by (N := ["text", "thing", "first", "behind", "many", "part"]) (sc := defScope sQIsStretch) (by decide +kernel)) (fun _ _ _ _ _ => pg_name (i := 5) scQIsStretch.nd rfl (.inl rfl)) (fun _ _ _ _ _ => pts_nil) (fun _ _ _ _ _ => (pe_call DPNumber.ok (hr.mono (by decide)) (by rfl) DPNumber.g DPNumber.F.kp DPNumber.b .nil pass0 (pa_cons (pv 5) pa_nil)))) pa_nil)))))))
      (pss_one (ps_ret pe_bl))
      pss_nil)
      (pss_cons (ps_asg (pv 1) (pg_tup (by rfl) (pgs_cons (pg_name (i := 2) scQIsStretch.nd rfl (.inl rfl)) (pgs_cons (pg_name (i := 3) scQIsStretch.nd rfl (.inl rfl)) (pgs_cons (pg_name (i := 4) scQIsStretch.nd rfl (.inl rfl)) pgs_nil)))))
      (pss_one (ps_ret (pe_and (pe_cmpR op_le (pv 3) (pe_callB call_lenZ (by rfl) T.len PySem.boot_len (pa_cons (pv 0) pa_nil)) (nomark _)) (pe_and (pe_cmpR op_gt (pv 4) pe_int (nomark _)) (pe_one (pe_cmpR op_le (pe_op op_add (pv 2) (pe_op op_mul pe_int (pv 4))) (pv 3) (nomark _))))))))), ?_⟩
    obtain ⟨z, x, o, rfl, lz, hx, q⟩ := h
    dsimp only [tSeq, tAsg, gName]
    cases o with
    | none =>
      refine (?_ : ∀ Q : Bool → Hp → Prop, Q true H → tOr _ _ _ H Q) _ ?_
      · intro Q hQ
        exact ⟨x, rfl, x, 3, none, rfl, hx, _, rfl, iteT hQ⟩
      · exact iteT (q H (Same.refl H))
    | some xs =>
      cases ht : tupO (some xs) 3 with
      | false =>
        refine (?_ : ∀ Q : Bool → Hp → Prop, Q true H → tOr _ _ _ H Q) _ ?_
        · intro Q hQ
          exact ⟨x, rfl, x, 3, some xs, rfl, hx, _, rfl, by rw [ht]; exact iteT hQ⟩
        · have e : strB z (some xs) = false := by
            match xs, ht with
            | [], _ => rfl
            | [a], _ => cases a <;> rfl
            | [a, b], _ => cases a <;> first | rfl | (cases b <;> rfl)
            | [a, b, c], e => exact absurd (show tupO (some [a, b, c]) 3 = true from rfl) (by rw [e]; exact Bool.false_ne_true)
            | a :: b :: c :: d :: r, _ => cases a <;> first | rfl | (cases b <;> first | rfl | (cases c <;> rfl))
          have q' := q H (Same.refl H)
          rw [e] at q'
          exact iteT q'
      | true =>
        have le3 : xs.length = 3 := by
          have e := of_decide_eq_true (show decide (((xs.length : Nat) : Int) = 3) = true from ht)
          omega
        obtain ⟨x1, x2, x3, rfl⟩ : ∃ x1 x2 x3, xs = [x1, x2, x3] := by
          match xs, le3 with
          | [a, b, c], _ => exact ⟨a, b, c, rfl⟩
        clear le3
        obtain ⟨a, rfl, ha, kd⟩ : ∃ a, x = .ref a ∧ H a = some (.tup [x1, x2, x3]) ∧ ∀ y ∈ [x1, x2, x3], (∃ k, Kd H y k) ∧ Vs y := by
          cases hx with
          | tup e n h => exact ⟨_, rfl, e, h⟩
        have nums : ([x1, x2, x3].map numV) = [numV x1, numV x2, numV x3] := rfl
        refine (?_ : ∀ Q : Bool → Hp → Prop, (∀ H', Same H H' → Q (!(numV x1 && (numV x2 && numV x3))) H') → tOr _ _ _ H Q) _ ?_
        · intro Q hQ
          refine ⟨.ref a, rfl, .ref a, 3, some [x1, x2, x3], rfl, hx, _, rfl, ?_⟩
          rw [ht]
          refine iteF ?_
          refine ⟨.ref a, rfl, a, rfl, ⟨_, SqT.of ha⟩, fun D nD => lc_tup (K := K) (xs := [x1, x2, x3]) (fun i H' => H' D = some (.lst ((([x1, x2, x3].take i).map numV).map V.bl)) ∧ Same H H') ⟨upd_same, Same.new nD⟩ (fun i H' _ g => SqT.of (g.2 _ _ ha)) ?_ ?_⟩
          · rintro i u H2 hu ⟨hD, k2⟩
            obtain ⟨⟨k, hk⟩, _⟩ := kd u (List.mem_of_getElem? hu)
            have li := (List.getElem?_eq_some_iff.mp hu).1
            refine ⟨rfl, u, rfl, u, k, rfl, hk.same k2, _, hD, ?_, ?_, sameAt k2 nD⟩
            · rw [List.length_map, List.length_map, List.length_take]
              show _ < 16777216
              have : [x1, x2, x3].length = 3 := rfl
              omega
            · rw [upd_same, take_snoc hu, List.map_append, List.map_append]
              rfl
          · rintro H2 ⟨hD, k2⟩
            refine ⟨D, [numV x1, numV x2, numV x3], rfl, sq_of hD, _, rfl, ?_⟩
            have := hQ H2 k2
            simp only [List.all_cons, List.all_nil, id, Bool.and_true]
            exact this
        · intro H' k
          cases hn : (numV x1 && (numV x2 && numV x3)) with
          | false =>
            have q' := q H' k
            rw [strB_no hn] at q'
            exact iteT q'
          | true =>
            refine iteF ?_
            obtain ⟨n1, n2⟩ := Bool.and_eq_true_iff.mp hn
            obtain ⟨n2, n3⟩ := Bool.and_eq_true_iff.mp n2
            obtain ⟨b1, rfl⟩ := numV_int n1
            obtain ⟨b2, rfl⟩ := numV_int n2
            obtain ⟨b3, rfl⟩ := numV_int n3
            have q' := q H' k
            have e : strB z (some [.int (b1 : Nat), .int (b2 : Nat), .int (b3 : Nat)]) = (decide ((b2 : Int) ≤ (z.length : Int)) && (decide ((0 : Int) < (b3 : Int)) && decide ((b1 : Int) + 2 * (b3 : Int) ≤ (b2 : Int)))) := by
              show ((decide (0 ≤ (b1 : Int)) && (decide (0 ≤ (b2 : Int)) && decide (0 ≤ (b3 : Int)))) && _) = _
              rw [decide_eq_true (show (0 : Int) ≤ b1 by omega), decide_eq_true (show (0 : Int) ≤ b2 by omega), decide_eq_true (show (0 : Int) ≤ b3 by omega)]
              rfl
            rw [e] at q'
            refine ⟨.ref a, rfl, a, _, rfl, SqT.of (k _ _ ha), rfl, _, _, rfl, _, _, rfl, _, _, rfl, rfl, ?_⟩
            refine ⟨_, rfl, .str z, rfl, z, rfl, len6 lz, _, _, rfl, rfl, _, rfl, ?_⟩
            cases c1 : decide ((b2 : Int) ≤ (z.length : Int)) with
            | false =>
              rw [c1] at q'
              exact iteF q'
            | true =>
              rw [c1, Bool.true_and] at q'
              refine iteT ⟨_, rfl, _, _, rfl, rfl, _, rfl, ?_⟩
              cases c2 : decide ((0 : Int) < (b3 : Int)) with
              | false =>
                rw [c2] at q'
                exact iteF q'
              | true =>
                rw [c2, Bool.true_and] at q'
                refine iteT ⟨.int (b1 : Nat), rfl, .int (b3 : Nat), rfl, _, _, rfl, rfl, .inl ⟨by decide, by decide⟩, _, _, rfl, rfl, .int (b2 : Nat), rfl, _, _, rfl, rfl, ?_⟩
                exact q'
abbrev sPIsRun : Stmt := topS 18
theorem scPIsRun : FnScope ["text", "thing", "first", "behind", "many", "less"] ["text", "thing"] (defScope sPIsRun) := ⟨rfl, rfl, rfl, by decide +kernel, rfl, by decide +kernel, by decide +kernel⟩
theorem ok_PIsRun {f : Addr} {fd : FuncData} (F : Fun K "is_run" "is_run" sPIsRun f fd)  {fQHas : Addr} {fdQHas : FuncData} (DQHas : Dk P w K mg base "_has_period" sQHas ["text", "first", "behind", "many"] 1 spHasP fQHas fdQHas) {fQIsStretch : Addr} {fdQIsStretch : FuncData} (DQIsStretch : Dk P w K mg base "_is_stretch" sQIsStretch ["text", "thing"] 2 spIsStr fQIsStretch fdQIsStretch) {fPText : Addr} {fdPText : FuncData} (DPText : Dk P w K mg base "is_text" sPText ["thing"] 2 spTextY fPText fdPText) (T : Glob mg) : FnOk P w K mg base CX0 3 f fd ["text", "thing"] spIsRun := by
  refine F.ok scPIsRun (fun vs H Q E h => ?_) (fun cdv A outer s H vs Q E hr h => ?_)
  · obtain ⟨z, x, o, rfl, _⟩ := h
    rfl
  · refine ⟨_, (pss_cons (ps_if (pt_not (pt_val (pe_call DPText.ok (hr.mono (by decide)) (by rfl) DPText.g DPText.F.kp DPText.b .nil pass0 (pa_cons (pv 0) pa_nil))))
      (pss_one ps_dead)
      pss_nil)
      (pss_cons (ps_if (pt_not (pt_val (pe_call DQIsStretch.ok (hr.mono (by decide)) (by rfl) DQIsStretch.g DQIsStretch.F.kp DQIsStretch.b .nil pass0 (pa_cons (pv 0) (pa_cons (pv 1) pa_nil)))))
      (pss_one (ps_ret pe_bl))
      pss_nil)
      (pss_cons (ps_asg (pv 1) (pg_tup (by rfl) (pgs_cons (pg_name (i := 2) scPIsRun.nd rfl (.inr rfl)) (pgs_cons (pg_name (i := 3) scPIsRun.nd rfl (.inr rfl)) (pgs_cons (pg_name (i := 4) scPIsRun.nd rfl (.inl rfl)) pgs_nil)))))
      (pss_cons (ps_if (pt_not (pt_val (pe_call DQHas.ok (hr.mono (by decide)) (by rfl) DQHas.g DQHas.F.kp DQHas.b .nil pass0 (pa_cons (pv 0) (pa_cons (pv 2) (pa_cons (pv 3) (pa_cons (pv 4) pa_nil)))))))
      (pss_one (ps_ret pe_bl))
      pss_nil)
      (pss_cons (ps_if (PW.pt (pw_and (pt_cmpR op_gt (pv 2) pe_int (nomark _)) (pw_and1 (pt_cmpR op_eq (pe_ix ix_str (pv 0) (pe_op op_sub (pv 2) pe_int) (fun _ _ => rfl)) (pe_ix ix_str (pv 0) (pe_op op_add (pe_op op_sub (pv 2) pe_int) (pv 4)) (fun _ _ => rfl)) (nomark _)))))
      (pss_one (ps_ret pe_bl))
      pss_nil)
      (pss_cons (ps_if (PW.pt (pw_and (pt_cmpR op_lt (pv 3) (pe_callB call_lenZ (by rfl) T.len PySem.boot_len (pa_cons (pv 0) pa_nil)) (nomark _)) (pw_and1 (pt_cmpR op_eq (pe_ix ix_str (pv 0) (pv 3) (fun _ _ => rfl)) (pe_ix ix_str (pv 0) (pe_op op_sub (pv 3) (pv 4)) (fun _ _ => rfl)) (nomark _)))))
      (pss_one (ps_ret pe_bl))
      pss_nil)
      (pss_one (ps_ret (pe_not (pe_callB (cr_any rfl) (by rfl) T.any (by decide +kernel) (pa_cons (pe_lc (own := [("less", 5)]) (g := gName 5) (by rfl) scPIsRun.nd (pi_range2 (by rfl) T.range (pa_cons pe_int (pa_cons (pv 4) pa_nil))) (blkOk_by (N := ["text", "thing", "first", "behind", "many", "less"]) (sc := defScope sPIsRun) (by decide +kernel)) (fun _ _ _ _ _ => pg_name (i := 5) scPIsRun.nd rfl (.inl rfl)) (fun _ _ _ _ _ => pts_nil) (fun _ _ _ _ _ => (pe_call DQHas.ok (hr.mono (by decide)) (by rfl) DQHas.g DQHas.F.kp DQHas.b .nil pass0 (pa_cons (pv 0) (pa_cons (pv 2) (pa_cons (pv 3) (pa_cons (pv 5) pa_nil))))))) pa_nil))))))))))), ?_⟩
    obtain ⟨z, x, o, rfl, sz, lz, hx, q⟩ := h
    have lc := cd_len z
    refine ⟨.str z, rfl, z, rfl, sz, lz, _, rfl, iteF ?_⟩
    dsimp only [tNext, tDrop]
    refine ⟨.str z, rfl, x, rfl, z, x, o, rfl, lz, hx, fun H1 k1 => ⟨_, rfl, ?_⟩⟩
    cases hs : strB z o with
    | false =>
      refine iteT (q false H1 k1 ⟨fun h => (by cases h), fun ⟨a, b, m, e, r⟩ => ?_⟩)
      rw [e] at hs
      have := strB_nat.mpr ⟨by rw [← lc]; exact r.1.bn, r.1.q0, r.1.two⟩
      rw [hs] at this
      cases this
    | true =>
      refine iteF ?_
      dsimp only [tNext, tDrop]
      obtain ⟨a, b, m, rfl, bn, m0, two⟩ := strB_true hs
      clear hs
      obtain ⟨c, rfl, hc⟩ : ∃ c, x = .ref c ∧ H c = some (.tup [.int (a : Nat), .int (b : Nat), .int (m : Nat)]) := by
        cases hx with
        | tup e n h => exact ⟨_, rfl, e⟩
      have bl : b ≤ (cd z).length := by rw [lc]; exact bn
      have no : ∀ (H' : Hp), Same H1 H' → ¬ Run (cd z) a b m → Q (.bl false) H' := fun H' k n => q false H' (k1.trans k) ⟨fun h => (by cases h), fun ⟨a', b', m', e, r⟩ => by
        injection e with e
        injection e with e1 e
        injection e with e2 e
        injection e with e3 e
        have e1 : a = a' := Int.ofNat.inj (V.int.inj e1)
        have e2 : b = b' := Int.ofNat.inj (V.int.inj e2)
        have e3 : m = m' := Int.ofNat.inj (V.int.inj e3)
        subst e1
        subst e2
        subst e3
        exact absurd r n⟩
      refine ⟨.ref c, rfl, c, _, rfl, SqT.of (k1 _ _ hc), rfl, _, _, rfl, _, _, rfl, _, _, rfl, rfl, ?_⟩
      refine ⟨.str z, rfl, .int (a : Nat), rfl, .int (b : Nat), rfl, .int (m : Nat), rfl, z, a, b, m, rfl, lz, bn, by omega, _, rfl, ?_⟩
      cases hp : perB (cd z) a b m with
      | false =>
        refine iteT (no H1 (Same.refl _) fun r => ?_)
        have := (perB_iff bl (by omega)).mpr r.1.pr
        rw [hp] at this
        cases this
      | true =>
        have pr := (perB_iff bl (by omega)).mp hp
        refine iteF ?_
        dsimp only [tNext, tDrop]
        refine (?_ : ∀ Q : Bool → Hp → Prop, Q (decide (0 < a ∧ (cd z)[a - 1]? = (cd z)[a - 1 + m]?)) H1 → tAnd _ _ _ H1 Q) _ ?_
        · intro Q hQ
          refine ⟨.int (a : Nat), rfl, _, _, rfl, rfl, _, rfl, ite2 (fun c1 => ?_) fun c1 => ?_⟩
          · have a0 : 0 < a := by
              have c1 := of_decide_eq_true c1
              omega
            obtain ⟨u, eu, au⟩ := sg_ix (z := z) (a := a - 1) (by omega)
            obtain ⟨w, ew, aw⟩ := sg_ix (z := z) (a := a - 1 + m) (by omega)
            refine ⟨.str z, rfl, .int (a : Nat), rfl, _, _, rfl, rfl, z, _, u, rfl, rfl, len6 lz, by rw [show ((a : Nat) : Int) - 1 = ((a - 1 : Nat) : Int) by omega]; exact au, .str z, rfl, .int (a : Nat), rfl, _, _, rfl, rfl, .int (m : Nat), rfl, _, _, rfl, rfl, z, _, w, rfl, rfl, len6 lz, by rw [show ((a : Nat) : Int) - 1 + ((m : Nat) : Int) = ((a - 1 + m : Nat) : Int) by omega]; exact aw, rfl, _, rfl, ?_⟩
            rw [one_eq]
            have e : decide (0 < a ∧ (cd z)[a - 1]? = (cd z)[a - 1 + m]?) = decide (u = w) := decide_eq_decide.mpr (by
              rw [eu, ew]
              exact ⟨fun h => Option.some.inj h.2, fun h => ⟨a0, by rw [h]⟩⟩)
            rw [e] at hQ
            exact hQ
          · have a0 : ¬ 0 < a := fun e => c1 (decide_eq_true (by omega))
            rw [decide_eq_false (fun h => a0 h.1)] at hQ
            exact hQ
        refine ite2 (fun c1 => ?_) fun c1 => ?_
        · have c1 := of_decide_eq_true c1
          refine no H1 (Same.refl _) fun r => ?_
          rcases r.1.lf with y | y
          · omega
          · exact y c1.2
        have c1 : ¬ (0 < a ∧ (cd z)[a - 1]? = (cd z)[a - 1 + m]?) := fun e => c1 (decide_eq_true e)
        dsimp only [tNext, tDrop]
        refine (?_ : ∀ Q : Bool → Hp → Prop, Q (decide (b < z.length ∧ (cd z)[b]? = (cd z)[b - m]?)) H1 → tAnd _ _ _ H1 Q) _ ?_
        · intro Q hQ
          refine ⟨.int (b : Nat), rfl, .str z, rfl, z, rfl, len6 lz, _, _, rfl, rfl, _, rfl, ite2 (fun c2 => ?_) fun c2 => ?_⟩
          · have b0 : b < z.length := by
              have c2 := of_decide_eq_true c2
              omega
            obtain ⟨u, eu, au⟩ := sg_ix (z := z) (a := b) b0
            obtain ⟨w, ew, aw⟩ := sg_ix (z := z) (a := b - m) (by omega)
            refine ⟨.str z, rfl, .int (b : Nat), rfl, z, _, u, rfl, rfl, len6 lz, au, .str z, rfl, .int (b : Nat), rfl, .int (m : Nat), rfl, _, _, rfl, rfl, z, _, w, rfl, rfl, len6 lz, by rw [show ((b : Nat) : Int) - ((m : Nat) : Int) = ((b - m : Nat) : Int) by omega]; exact aw, rfl, _, rfl, ?_⟩
            rw [one_eq]
            have e : decide (b < z.length ∧ (cd z)[b]? = (cd z)[b - m]?) = decide (u = w) := decide_eq_decide.mpr (by
              rw [eu, ew]
              exact ⟨fun h => Option.some.inj h.2, fun h => ⟨b0, by rw [h]⟩⟩)
            rw [e] at hQ
            exact hQ
          · have b0 : ¬ b < z.length := fun e => c2 (decide_eq_true (by omega))
            rw [decide_eq_false (fun h => b0 h.1)] at hQ
            exact hQ
        refine ite2 (fun c2 => ?_) fun c2 => ?_
        · have c2 := of_decide_eq_true c2
          refine no H1 (Same.refl _) fun r => ?_
          rcases r.1.rt with y | y
          · rw [lc] at y
            omega
          · exact y c2.2.symm
        have c2 : ¬ (b < z.length ∧ (cd z)[b]? = (cd z)[b - m]?) := fun e => c2 (decide_eq_true e)
        dsimp only [tNext, tDrop]
        have mx : Mx (cd z) a b m := by
          refine ⟨m0, bl, two, pr, ?_, ?_⟩
          · rcases Nat.eq_zero_or_pos a with e | e
            · exact .inl e
            · exact .inr fun h => c1 ⟨e, h⟩
          · rcases Nat.lt_or_ge b z.length with e | e
            · exact .inr fun h => c2 ⟨e, h.symm⟩
            · exact .inl (by omega)
        refine ⟨.int (m : Nat), rfl, _, _, rfl, ⟨by omega, by omega, by omega, by omega⟩, fun D nD => lc_range (fun i H' => H' D = some (.lst ((((List.range i).map fun i => perB (cd z) a b (i + 1))).map V.bl)) ∧ Same H1 H') ⟨upd_same, Same.new nD⟩ ?_ ?_⟩
        · rintro i H2 hi ⟨hD, k2⟩
          have hi : i + 1 < m := by omega
          refine ⟨rfl, .str z, rfl, .int (a : Nat), rfl, .int (b : Nat), rfl, .int (1 + (i : Int)), rfl, z, a, b, i + 1, by rw [show (1 : Int) + (i : Int) = ((i + 1 : Nat) : Int) by omega]; rfl, lz, bn, by omega, ?_⟩
          refine ⟨_, hD, ?_, ?_, sameAt k2 nD⟩
          · rw [List.length_map, List.length_map, List.length_range, sizeLine_eq]
            omega
          · rw [upd_same, range_snoc (fun i => perB (cd z) a b (i + 1)) i, List.map_append]
            rfl
        · rintro H2 ⟨hD, k2⟩
          refine ⟨D, _, rfl, sq_of hD, _, rfl, ?_⟩
          refine q _ H2 (k1.trans k2) ?_
          have e1 : (((m : Nat) : Int) - 1).toNat = m - 1 := by omega
          rw [e1]
          constructor
          · intro h
            refine ⟨a, b, m, rfl, mx, fun p p0 pm hp => ?_⟩
            rw [Bool.not_eq_true', List.any_eq_false] at h
            refine h (perB (cd z) a b p) (List.mem_map.mpr ⟨p - 1, List.mem_range.mpr (by omega), by rw [show p - 1 + 1 = p by omega]⟩) ?_
            exact (perB_iff bl (by omega)).mpr hp
          · rintro ⟨a', b', m', e, r⟩
            injection e with e
            injection e with g1 e
            injection e with g2 e
            injection e with g3 e
            have g1 : a = a' := Int.ofNat.inj (V.int.inj g1)
            have g2 : b = b' := Int.ofNat.inj (V.int.inj g2)
            have g3 : m = m' := Int.ofNat.inj (V.int.inj g3)
            subst g1
            subst g2
            subst g3
            rw [Bool.not_eq_true', List.any_eq_false]
            intro y hy
            obtain ⟨i, hi, rfl⟩ := List.mem_map.mp hy
            have hi := List.mem_range.mp hi
            intro hp
            exact r.2 (i + 1) (by omega) (by omega) ((perB_iff bl (by omega)).mp hp)
end
end LawK
set_option maxHeartbeats 4000000
namespace LawK
open PySem PySem.Spec PyProof.Rows L2 Ev

def spLHas : Sp := fun vs H Q _ => ∃ (z : Str) (p : Nat), vs = [.str z, .int (p : Nat)] ∧ z.length ≤ 2000 ∧ p ≤ z.length ∧ Q (.bl (perB (cd z) 0 z.length p)) H
def spLLeast : Sp := fun vs H Q _ => ∃ (z : Str), vs = [.str z] ∧ 0 < z.length ∧ z.length ≤ 2000 ∧ ∀ p : Nat, Lst (cd z) p → Q (.int (p : Nat)) H
def spLIsRun : Sp := fun vs H Q _ => ∃ (z : Str) (a b m : Nat), vs = [.str z, .int (a : Nat), .int (b : Nat), .int (m : Nat)] ∧ z.length ≤ 2000 ∧ b ≤ z.length ∧ 0 < m ∧ a + m ≤ b ∧ Per (cd z) a b m ∧ ∀ c, (c = true ↔ Run (cd z) a b m) → Q (.bl c) H
def spLRuns : Sp := fun vs H Q _ => ∃ (z : Str), vs = [.str z] ∧ z.length ≤ 2000 ∧ ∀ D us rs H', H' D = some (.lst us) → All2 (TrAt H') us rs → Runs (cd z) rs → Same H H' → H D = none → us.length ≤ 3000000 → Q (.ref D) H'
theorem perB_cut {z : Str} {a b m : Nat} (h : b ≤ z.length) (l : a + m ≤ b) : perB (cd (cutS z (some (a : Int)) (some (b : Int)))) 0 (cutS z (some (a : Int)) (some (b : Int))).length m = true ↔ Per (cd z) a b m := by
  have lc := cd_len z
  have e := cut_sl (z := z) (a := a) (b := b) (by omega)
  have le : (cutS z (some (a : Int)) (some (b : Int))).length = b - a := by
    rw [← cd_len, e, sl_len (by omega)]
  rw [le, e, perB_iff (by rw [sl_len (by omega)]; exact Nat.le_refl _) (by omega), per_in (by omega)]
theorem per_full {x : Sg} : Per x 0 x.length x.length := fun i h1 h2 => by omega
section
variable {P : Program} {w : World} {K : PySem.W.Frag} {mg : Str → Option Value} {base : Heap}
abbrev sHas : Stmt := topS 28
theorem scHas : FnScope ["text", "period"] ["text", "period"] (defScope sHas) := ⟨rfl, rfl, rfl, by decide +kernel, rfl, by decide +kernel, by decide +kernel⟩
theorem ok_Has {f : Addr} {fd : FuncData} (F : Fun K "_law_has" "_law_has" sHas f fd)   (T : Glob mg) : FnOk P w K mg base CX0 1 f fd ["text", "period"] spLHas := by
  refine F.ok scHas (fun vs H Q E h => ?_) (fun cdv A outer s H vs Q E hr h => ?_)
  · obtain ⟨z, p, rfl, _⟩ := h
    rfl
  · refine ⟨_, (pss_one (ps_ret (pe_cmpR op_eq (pe_slice sl_str (pv 0) (po_some (pv 1)) po_none) (pe_slice sl_str (pv 0) po_none (po_some (pe_op op_sub (pe_callB call_lenZ (by rfl) T.len PySem.boot_len (pa_cons (pv 0) pa_nil)) (pv 1)))) (nomark _)))), ?_⟩
    obtain ⟨z, p, rfl, lz, lp, q⟩ := h
    refine ⟨.str z, rfl, .int (p : Nat), rfl, _, rfl, z, rfl, len6 lz, .str z, rfl, .str z, rfl, z, rfl, len6 lz, .int (p : Nat), rfl, _, _, rfl, rfl, _, rfl, z, rfl, len6 lz, rfl, ?_⟩
    rw [show ((z.length : Nat) : Int) - ((p : Nat) : Int) = ((z.length - p : Nat) : Int) by omega, dec_cd, cut_from, cut_to]
    unfold perB at q
    rw [Nat.zero_add] at q
    exact q
abbrev sLeast : Stmt := topS 29
theorem scLeast : FnScope ["text", "period"] ["text"] (defScope sLeast) := ⟨rfl, rfl, rfl, by decide +kernel, rfl, by decide +kernel, by decide +kernel⟩
theorem ok_Least {f : Addr} {fd : FuncData} (F : Fun K "_law_least" "_law_least" sLeast f fd)  {fHas : Addr} {fdHas : FuncData} (DHas : Dk P w K mg base "_law_has" sHas ["text", "period"] 1 spLHas fHas fdHas) (T : Glob mg) : FnOk P w K mg base CX0 2 f fd ["text"] spLLeast := by
  refine F.ok scLeast (fun vs H Q E h => ?_) (fun cdv A outer s H vs Q E hr h => ?_)
  · obtain ⟨z, rfl, _⟩ := h
    rfl
  · refine ⟨_, (pss_cons (ps_set (i := 1) scLeast.nd rfl (.inl rfl) pe_int)
      (pss_cons (ps_while PassesOwn.never (pt_not (pt_val (pe_call DHas.ok (hr.mono (by decide)) (by rfl) DHas.g DHas.F.kp DHas.b .nil pass0 (pa_cons (pv 0) (pa_cons (pv 1) pa_nil)))))
      (pss_one (ps_set (i := 1) scLeast.nd rfl (.inl rfl) (pe_op op_add (pv 1) pe_int))))
      (pss_one (ps_ret (pv 1))))), ?_⟩
    obtain ⟨z, rfl, z0, lz, q⟩ := h
    have lc := cd_len z
    refine ⟨fun m σ H' => H' = H ∧ ∃ p : Nat, σ = [some (.str z), some (.int (p : Nat))] ∧ 0 < p ∧ p ≤ z.length ∧ m = z.length - p ∧ ∀ r, 0 < r → r < p → ¬ Per (cd z) 0 (cd z).length r, ⟨z.length - 1, rfl, 1, rfl, by decide, z0, rfl, fun r r0 r1 => by omega⟩, ?_⟩
    rintro m σ H' ⟨rfl, p, rfl, p0, pn, rfl, ls⟩
    refine ⟨.str z, rfl, .int (p : Nat), rfl, z, p, rfl, lz, pn, _, rfl, ?_⟩
    have pi := perB_iff (x := cd z) (a := 0) (b := (cd z).length) (q := p) (Nat.le_refl _) (by omega)
    rw [lc] at pi ls
    cases hp : perB (cd z) 0 z.length p with
    | true =>
      have pr := pi.mp hp
      refine iteF ⟨_, rfl, q p ⟨p0, by rw [lc]; exact pr, by rw [lc]; exact ls⟩⟩
    | false =>
      have np : ¬ Per (cd z) 0 z.length p := fun h => by
        have := pi.mpr h
        rw [hp] at this
        cases this
      have pn2 : p < z.length := by
        refine Nat.lt_of_le_of_ne pn fun e => np ?_
        have := per_full (x := cd z)
        rw [lc] at this
        rw [e]
        exact this
      refine iteT ⟨fun σ H'' => H'' = H' ∧ σ = [some (.str z), some (.int ((p + 1 : Nat)))], fun σ' H'' e => ⟨z.length - (p + 1), by omega, e.1, p + 1, e.2, by omega, by omega, rfl, fun r r0 r1 => ?_⟩, ?_⟩
      · rw [lc]
        rcases Nat.eq_or_lt_of_le (show r ≤ p by omega) with g | g
        · rw [g]
          exact np
        · exact ls r r0 g
      · refine ⟨.int (p : Nat), rfl, _, _, rfl, rfl, ?_⟩
        exact ⟨rfl, rfl⟩
abbrev sIsRun : Stmt := topS 30
theorem scIsRun : FnScope ["text", "begin", "behind", "period"] ["text", "begin", "behind", "period"] (defScope sIsRun) := ⟨rfl, rfl, rfl, by decide +kernel, rfl, by decide +kernel, by decide +kernel⟩
theorem ok_IsRun {f : Addr} {fd : FuncData} (F : Fun K "_law_is_run" "_law_is_run" sIsRun f fd)  {fHas : Addr} {fdHas : FuncData} (DHas : Dk P w K mg base "_law_has" sHas ["text", "period"] 1 spLHas fHas fdHas) {fLeast : Addr} {fdLeast : FuncData} (DLeast : Dk P w K mg base "_law_least" sLeast ["text"] 2 spLLeast fLeast fdLeast) (T : Glob mg) : FnOk P w K mg base CX0 3 f fd ["text", "begin", "behind", "period"] spLIsRun := by
  refine F.ok scIsRun (fun vs H Q E h => ?_) (fun cdv A outer s H vs Q E hr h => ?_)
  · obtain ⟨z, a, b, m, rfl, _⟩ := h
    rfl
  · refine ⟨_, (pss_cons (ps_if (PW.pt (pw_or (pt_cmpR op_lt (pe_op op_sub (pv 2) (pv 1)) (pe_op op_mul pe_int (pv 3)) (nomark _)) (pw_or1 (pt_cmpR op_ne (pe_call DLeast.ok (hr.mono (by decide)) (by rfl) DLeast.g DLeast.F.kp DLeast.b .nil pass0 (pa_cons (pe_slice sl_str (pv 0) (po_some (pv 1)) (po_some (pv 2))) pa_nil)) (pv 3) (nomark _)))))
      (pss_one (ps_ret pe_bl))
      pss_nil)
      (pss_cons (ps_if (PW.pt (pw_and (pt_cmpR op_gt (pv 1) pe_int (nomark _)) (pw_and1 (pt_val (pe_call DHas.ok (hr.mono (by decide)) (by rfl) DHas.g DHas.F.kp DHas.b .nil pass0 (pa_cons (pe_slice sl_str (pv 0) (po_some (pe_op op_sub (pv 1) pe_int)) (po_some (pv 2))) (pa_cons (pv 3) pa_nil)))))))
      (pss_one (ps_ret pe_bl))
      pss_nil)
      (pss_one (ps_ret (pe_or (pe_cmpR op_eq (pv 2) (pe_callB call_lenZ (by rfl) T.len PySem.boot_len (pa_cons (pv 0) pa_nil)) (nomark _)) (pe_one (pe_not (pe_call DHas.ok (hr.mono (by decide)) (by rfl) DHas.g DHas.F.kp DHas.b .nil pass0 (pa_cons (pe_slice sl_str (pv 0) (po_some (pv 1)) (po_some (pe_op op_add (pv 2) pe_int))) (pa_cons (pv 3) pa_nil)))))))))), ?_⟩
    obtain ⟨z, a, b, m, rfl, lz, bn, m0, l, pr, q⟩ := h
    have lc := cd_len z
    have bl : b ≤ (cd z).length := by rw [lc]; exact bn
    dsimp only [tSeq, tAsg, gName]
    have ecut := cut_sl (z := z) (a := a) (b := b) (by omega)
    have lcut : (cutS z (some (a : Int)) (some (b : Int))).length = b - a := by
      rw [← cd_len, ecut, sl_len bl]
    refine (?_ : ∀ Q : Bool → Hp → Prop, (∀ c : Bool, (c = false ↔ a + 2 * m ≤ b ∧ ∀ p, 0 < p → p < m → ¬ Per (cd z) a b p) → Q c H) → tOr _ _ _ H Q) _ ?_
    · intro Q hQ
      refine ⟨.int (b : Nat), rfl, .int (a : Nat), rfl, _, _, rfl, rfl, .int (m : Nat), rfl, _, _, rfl, rfl, .inl ⟨by decide, by decide⟩, _, _, rfl, rfl, _, rfl, ite2 (fun c => ?_) fun c => ?_⟩
      · have c := of_decide_eq_true c
        refine hQ true ⟨fun h => (by cases h), fun h => by omega⟩
      · have two : a + 2 * m ≤ b := by
          refine Classical.byContradiction fun e => c (decide_eq_true ?_)
          omega
        refine ⟨.str z, rfl, .int (a : Nat), rfl, _, rfl, .int (b : Nat), rfl, _, rfl, z, rfl, len6 lz, _, rfl, by rw [lcut]; omega, by rw [lcut]; omega, fun p hp => ?_⟩
        refine ⟨.int (m : Nat), rfl, rfl, _, rfl, ?_⟩
        rw [ecut] at hp
        obtain ⟨p0, p1, p2⟩ := hp.at bl
        refine hQ _ ?_
        rw [dec_int, Bool.not_eq_false', decide_eq_true_iff]
        constructor
        · intro e
          have e : p = m := Int.ofNat.inj e
          subst e
          exact ⟨two, p2⟩
        · rintro ⟨_, h⟩
          rcases Nat.lt_trichotomy p m with g | g | g
          · exact absurd p1 (h p p0 g)
          · rw [g]
          · exact absurd pr (p2 m m0 g)
    intro c hc
    cases c with
    | true =>
      refine iteT (q false ⟨fun h => (by cases h), fun r => ?_⟩)
      have := hc.mpr ⟨r.1.two, r.2⟩
      cases this
    | false =>
      obtain ⟨two, ls⟩ := hc.mp rfl
      refine iteF ?_
      dsimp only [tNext, tDrop]
      refine (?_ : ∀ Q : Bool → Hp → Prop, (∀ c : Bool, (c = true ↔ 0 < a ∧ (cd z)[a - 1]? = (cd z)[a - 1 + m]?) → Q c H) → tAnd _ _ _ H Q) _ ?_
      · intro Q hQ
        refine ⟨.int (a : Nat), rfl, _, _, rfl, rfl, _, rfl, ite2 (fun c1 => ?_) fun c1 => ?_⟩
        · have a0 : 0 < a := by
            have c1 := of_decide_eq_true c1
            omega
          have e1 : ((a : Nat) : Int) - 1 = ((a - 1 : Nat) : Int) := by omega
          have ec := cut_sl (z := z) (a := a - 1) (b := b) (by omega)
          have lc2 : (cutS z (some ((a - 1 : Nat) : Int)) (some (b : Int))).length = b - (a - 1) := by
            rw [← cd_len, ec, sl_len bl]
          refine ⟨.str z, rfl, .int (a : Nat), rfl, _, _, rfl, rfl, _, rfl, .int (b : Nat), rfl, _, rfl, z, rfl, len6 lz, .int (m : Nat), rfl, _, m, rfl, ?_, ?_, _, rfl, hQ _ ?_⟩
          · rw [e1, lc2]
            omega
          · rw [e1, lc2]
            omega
          · rw [e1, perB_cut bn (by omega), per_ext a0 l pr]
            exact ⟨fun h => ⟨a0, h⟩, fun h => h.2⟩
        · have a0 : ¬ 0 < a := fun e => c1 (decide_eq_true (by omega))
          exact hQ false ⟨fun h => (by cases h), fun h => absurd h.1 a0⟩
      intro c1 h1
      cases c1 with
      | true =>
        obtain ⟨a0, e⟩ := h1.mp rfl
        refine iteT (q false ⟨fun h => (by cases h), fun r => ?_⟩)
        rcases r.1.lf with y | y
        · omega
        · exact absurd e y
      | false =>
        have lf : a = 0 ∨ (cd z)[a - 1]? ≠ (cd z)[a - 1 + m]? := by
          rcases Nat.eq_zero_or_pos a with e | e
          · exact .inl e
          · refine .inr fun h => ?_
            have := h1.mpr ⟨e, h⟩
            cases this
        refine iteF ?_
        dsimp only [tNext, tDrop]
        refine ⟨.int (b : Nat), rfl, .str z, rfl, z, rfl, len6 lz, rfl, _, rfl, ite2 (fun c2 => ?_) fun c2 => ?_⟩
        · have c2 : b = z.length := by
            have c2 := V.int.inj (of_decide_eq_true c2)
            omega
          exact q true ⟨fun _ => ⟨⟨m0, bl, two, pr, lf, .inl (by omega)⟩, ls⟩, fun _ => rfl⟩
        · have c2 : b ≠ z.length := fun e => c2 (decide_eq_true (by rw [e]))
          have e1 : ((b : Nat) : Int) + 1 = ((b + 1 : Nat) : Int) := by omega
          have ec := cut_sl (z := z) (a := a) (b := b + 1) (by omega)
          have lc2 : (cutS z (some ((a : Nat) : Int)) (some ((b + 1 : Nat) : Int))).length = b + 1 - a := by
            rw [← cd_len, ec, sl_len (by omega)]
          refine ⟨.str z, rfl, .int (a : Nat), rfl, _, rfl, .int (b : Nat), rfl, _, _, rfl, rfl, _, rfl, z, rfl, len6 lz, .int (m : Nat), rfl, _, m, rfl, ?_, ?_, _, rfl, q _ ?_⟩
          · rw [e1, lc2]
            omega
          · rw [e1, lc2]
            omega
          · rw [e1, Bool.not_eq_true', ← Bool.not_eq_true, perB_cut (by omega) (by omega), per_extR l pr]
            exact ⟨fun h => ⟨⟨m0, bl, two, pr, lf, .inr h⟩, ls⟩, fun r => by
              rcases r.1.rt with y | y
              · omega
              · exact y⟩
abbrev sRuns : Stmt := topS 31
theorem scRuns : FnScope ["text", "found", "begin", "period", "behind"] ["text"] (defScope sRuns) := ⟨rfl, rfl, rfl, by decide +kernel, rfl, by decide +kernel, by decide +kernel⟩
theorem ok_Runs {f : Addr} {fd : FuncData} (F : Fun K "_law_runs" "_law_runs" sRuns f fd)  {fIsRun : Addr} {fdIsRun : FuncData} (DIsRun : Dk P w K mg base "_law_is_run" sIsRun ["text", "begin", "behind", "period"] 3 spLIsRun fIsRun fdIsRun) (T : Glob mg) : FnOk P w K mg base CX0 4 f fd ["text"] spLRuns := by
  refine F.ok scRuns (fun vs H Q E h => ?_) (fun cdv A outer s H vs Q E hr h => ?_)
  · obtain ⟨z, rfl, _⟩ := h
    rfl
  · refine ⟨_, (pss_cons (ps_set (i := 1) scRuns.nd rfl (.inl rfl) (pe_lst pa_nil))
      (pss_cons (ps_for PassesOwn.never rfl (pi_range1 (by rfl) T.range (pa_cons (pe_callB call_lenZ (by rfl) T.len PySem.boot_len (pa_cons (pv 0) pa_nil)) pa_nil)) (pg_name (i := 2) scRuns.nd rfl (.inl rfl))
      (pss_one (ps_for PassesOwn.never rfl (pi_range2 (by rfl) T.range (pa_cons pe_int (pa_cons (pe_op op_add (pe_op op_fdiv (pe_op op_sub (pe_callB call_lenZ (by rfl) T.len PySem.boot_len (pa_cons (pv 0) pa_nil)) (pv 2)) pe_int) pe_int) pa_nil))) (pg_name (i := 3) scRuns.nd rfl (.inl rfl))
        (pss_cons (ps_set (i := 4) scRuns.nd rfl (.inl rfl) (pe_op op_add (pv 2) (pv 3)))
          (pss_cons (ps_while PassesOwn.never (PW.pt (pw_and (pt_cmpR op_lt (pv 4) (pe_callB call_lenZ (by rfl) T.len PySem.boot_len (pa_cons (pv 0) pa_nil)) (nomark _)) (pw_and1 (pt_cmpR op_eq (pe_ix ix_str (pv 0) (pv 4) (fun _ _ => rfl)) (pe_ix ix_str (pv 0) (pe_op op_sub (pv 4) (pv 3)) (fun _ _ => rfl)) (nomark _)))))
          (pss_one (ps_set (i := 4) scRuns.nd rfl (.inl rfl) (pe_op op_add (pv 4) pe_int))))
          (pss_one (ps_if (pt_val (pe_call DIsRun.ok (hr.mono (by decide)) (by rfl) DIsRun.g DIsRun.F.kp DIsRun.b .nil pass0 (pa_cons (pv 0) (pa_cons (pv 2) (pa_cons (pv 4) (pa_cons (pv 3) pa_nil))))))
          (pss_one (ps_expr (pe_bm PySem.F.plainAttrs_list PySem.F.slot_list_append PySem.F.type_list_append mt_append (pv 1) (pa_cons (pe_tup (pa_cons (pv 2) (pa_cons (pv 4) (pa_cons (pv 3) pa_nil)))) pa_nil))))
          pss_nil)))))))
      (pss_one (ps_ret (pv 1))))), ?_⟩
    obtain ⟨z, rfl, lz, q⟩ := h
    have lc := cd_len z
    refine ⟨by show 0 ≤ sizeLine; decide, fun D nD => ?_⟩
    refine ⟨.str z, rfl, z, rfl, len6 lz, _, rfl, by omega, by omega, for_range (fun i σ H' => ∃ (us : List V) (rs : List Tr) (u2 u3 u4 : Option V), σ = [some (.str z), some (.ref D), u2, u3, u4] ∧ Same H H' ∧ H' D = some (.lst us) ∧ All2 (TrAt H') us rs ∧ (∀ t : Tr, t ∈ rs ↔ Run (cd z) t.1 t.2.1 t.2.2 ∧ t.1 < i) ∧ rs.Pairwise ltT ∧ us.length ≤ i * 1001) ⟨[], [], _, _, _, rfl, Same.new nD, upd_same, .nil, fun t => ⟨fun h => (by cases h), fun h => by omega⟩, .nil, Nat.zero_le _⟩ ?_ ?_⟩
    · rintro i σ H1 hi ⟨us, rs, u2, u3, u4, rfl, k1, hD, hus, mem, asc, lus⟩
      have hi : i < z.length := by omega
      refine ⟨.str z, rfl, z, rfl, len6 lz, .int (0 + (i : Int)), rfl, _, _, rfl, rfl, _, _, rfl, rfl, ⟨by decide, by decide⟩, _, _, rfl, rfl, _, _, rfl, ⟨by omega, by omega, by omega, by omega⟩, for_range (fun j σ H' => ∃ (us : List V) (rs : List Tr) (u3 u4 : Option V), σ = [some (.str z), some (.ref D), some (.int (0 + (i : Int))), u3, u4] ∧ Same H H' ∧ H' D = some (.lst us) ∧ All2 (TrAt H') us rs ∧ (∀ t : Tr, t ∈ rs ↔ Run (cd z) t.1 t.2.1 t.2.2 ∧ (t.1 < i ∨ t.1 = i ∧ t.2.2 ≤ j)) ∧ rs.Pairwise ltT ∧ us.length ≤ i * 1001 + j) ⟨us, rs, _, _, rfl, k1, hD, hus, fun t => (mem t).trans ⟨fun h => ⟨h.1, .inl h.2⟩, fun h => ⟨h.1, ?_⟩⟩, asc, by omega⟩ ?_ ?_⟩
      · rcases h.2 with g | g
        · exact g
        · have := h.1.1.q0
          omega
      · rintro j σ H2 hj ⟨us, rs, u3, u4, rfl, k2, hD, hus, mem, asc, lus⟩
        have hj : (j + 1) + (j + 1) ≤ z.length - i := by omega
        have ej : (1 : Int) + (j : Int) = ((j + 1 : Nat) : Int) := by omega
        refine ⟨.int (0 + (i : Int)), rfl, .int (1 + (j : Int)), rfl, _, _, rfl, rfl, ?_⟩
        dsimp only [tSeq, tAsg, gName]
        refine ⟨fun m σ H' => H' = H2 ∧ ∃ b : Nat, σ = [some (.str z), some (.ref D), some (.int (0 + (i : Int))), some (.int (1 + (j : Int))), some (.int (b : Nat))] ∧ i + (j + 1) ≤ b ∧ b ≤ z.length ∧ m = z.length - b ∧ Per (cd z) i b (j + 1), ⟨z.length - (i + (j + 1)), rfl, i + (j + 1), by rw [show (0 : Int) + (i : Int) + (1 + (j : Int)) = ((i + (j + 1) : Nat) : Int) by omega]; rfl, Nat.le_refl _, by omega, rfl, fun y h1 h2 => by omega⟩, ?_⟩
        rintro m σ H3 ⟨rfl, b, rfl, b0, bn, rfl, pr⟩
        refine (?_ : ∀ Q : Bool → Hp → Prop, Q (decide (b < z.length ∧ (cd z)[b]? = (cd z)[b - (j + 1)]?)) H3 → tAnd _ _ _ H3 Q) _ ?_
        · intro Q hQ
          refine ⟨.int (b : Nat), rfl, .str z, rfl, z, rfl, len6 lz, _, _, rfl, rfl, _, rfl, ite2 (fun c2 => ?_) fun c2 => ?_⟩
          · have b1 : b < z.length := by
              have c2 := of_decide_eq_true c2
              omega
            obtain ⟨u, eu, au⟩ := sg_ix (z := z) (a := b) b1
            obtain ⟨w, ew, aw⟩ := sg_ix (z := z) (a := b - (j + 1)) (by omega)
            refine ⟨.str z, rfl, .int (b : Nat), rfl, z, _, u, rfl, rfl, len6 lz, au, .str z, rfl, .int (b : Nat), rfl, .int (1 + (j : Int)), rfl, _, _, rfl, rfl, z, _, w, rfl, rfl, len6 lz, by rw [show ((b : Nat) : Int) - (1 + (j : Int)) = ((b - (j + 1) : Nat) : Int) by omega]; exact aw, rfl, _, rfl, ?_⟩
            rw [one_eq]
            have e : decide (b < z.length ∧ (cd z)[b]? = (cd z)[b - (j + 1)]?) = decide (u = w) := decide_eq_decide.mpr (by
              rw [eu, ew]
              exact ⟨fun h => Option.some.inj h.2, fun h => ⟨b1, by rw [h]⟩⟩)
            rw [e] at hQ
            exact hQ
          · have b1 : ¬ b < z.length := fun e => c2 (decide_eq_true (by omega))
            rw [decide_eq_false (fun h => b1 h.1)] at hQ
            exact hQ
        refine ite2 (fun c => ?_) fun c => ?_
        · have c := of_decide_eq_true c
          refine ⟨fun σ H' => H' = H3 ∧ σ = [some (.str z), some (.ref D), some (.int (0 + (i : Int))), some (.int (1 + (j : Int))), some (.int ((b + 1 : Nat)))], fun σ' H' e => ⟨z.length - (b + 1), by omega, e.1, b + 1, e.2, by omega, by omega, rfl, (per_extR b0 pr).mpr c.2.symm⟩, ?_⟩
          refine ⟨.int (b : Nat), rfl, _, _, rfl, rfl, ?_⟩
          exact ⟨rfl, rfl⟩
        · have c : ¬ (b < z.length ∧ (cd z)[b]? = (cd z)[b - (j + 1)]?) := fun e => c (decide_eq_true e)
          have rt : b = z.length ∨ (cd z)[b - (j + 1)]? ≠ (cd z)[b]? := by
            rcases Nat.lt_or_ge b z.length with g | g
            · exact .inr fun h => c ⟨g, h.symm⟩
            · exact .inl (by omega)
          have uniq : ∀ b', Run (cd z) i b' (j + 1) → b' = b := fun b' r => by
            have bn' := r.1.bn
            have two' := r.1.two
            rw [lc] at bn'
            rcases Nat.lt_trichotomy b' b with g | g | g
            · rcases r.1.rt with y | y
              · omega
              · have := pr (b' - (j + 1)) (by omega) (by omega)
                rw [show b' - (j + 1) + (j + 1) = b' by omega] at this
                exact absurd this y
            · exact g
            · rcases rt with y | y
              · omega
              · have := r.1.pr (b - (j + 1)) (by omega) (by omega)
                rw [show b - (j + 1) + (j + 1) = b by omega] at this
                exact absurd this y
          refine ⟨.str z, rfl, .int (0 + (i : Int)), rfl, .int (b : Nat), rfl, .int (1 + (j : Int)), rfl, z, i, b, j + 1, by rw [ej, Int.zero_add]; rfl, lz, bn, by omega, by omega, pr, fun d hd => ⟨_, rfl, ?_⟩⟩
          cases d with
          | false =>
            refine iteF ?_
            refine ⟨us, rs, _, _, rfl, k2, hD, hus, fun t => (mem t).trans ⟨fun h => ⟨h.1, by omega⟩, fun h => ⟨h.1, ?_⟩⟩, asc, by omega⟩
            rcases h.2 with g | ⟨g, g2⟩
            · exact .inl g
            · refine .inr ⟨g, ?_⟩
              refine Classical.byContradiction fun n => ?_
              have e : t.2.2 = j + 1 := by omega
              have r := h.1
              rw [g, e] at r
              have := uniq _ r
              rw [this] at r
              have := hd.mpr r
              cases this
          | true =>
            have r := hd.mp rfl
            refine iteT ?_
            refine ⟨.ref D, rfl, .inl ⟨rfl, _, sq_of hD⟩, .int (0 + (i : Int)), rfl, .int (b : Nat), rfl, .int (1 + (j : Int)), rfl, by show 3 ≤ sizeLine; decide, fun t nt => ?_⟩
            have kt := Same.new (o := .tup [.int (0 + (i : Int)), .int (b : Nat), .int (1 + (j : Int))]) nt
            have ht : upd H3 t (.tup [.int (0 + (i : Int)), .int (b : Nat), .int (1 + (j : Int))]) t = some (.tup [.int (0 + (i : Int)), .int (b : Nat), .int (1 + (j : Int))]) := upd_same
            have hD4 := kt _ _ hD
            have hus4 := hus.imp fun _ _ r => TrAt.same kt r
            have k4 := k2.trans kt
            revert kt ht hD4 hus4 k4
            generalize upd H3 t (.tup [.int (0 + (i : Int)), .int (b : Nat), .int (1 + (j : Int))]) = H4
            intro kt ht hD4 hus4 k4
            refine ⟨D, us, .ref t, rfl, rfl, hD4, by rw [sizeLine_eq]; omega, ?_⟩
            have pt : TrAt H4 (.ref t) (i, b, j + 1) := ⟨t, rfl, by rw [ht, ej, Int.zero_add]⟩
            refine ⟨us ++ [.ref t], rs ++ [(i, b, j + 1)], _, _, rfl, sameAt k4 nD, upd_same, (hus4.snoc pt).imp fun _ _ r => TrAt.put hD4 r, fun s => ?_, ?_, by rw [List.length_append, List.length_singleton]; omega⟩
            · rw [List.mem_append, List.mem_singleton, mem s]
              constructor
              · rintro (h | rfl)
                · exact ⟨h.1, by omega⟩
                · exact ⟨r, .inr ⟨rfl, Nat.le_refl _⟩⟩
              · rintro ⟨h, g⟩
                rcases g with g | ⟨g, g2⟩
                · exact .inl ⟨h, .inl g⟩
                · rcases Nat.lt_or_ge s.2.2 (j + 1) with g3 | g3
                  · exact .inl ⟨h, .inr ⟨g, by omega⟩⟩
                  · refine .inr ?_
                    have e : s.2.2 = j + 1 := by omega
                    rw [g, e] at h
                    exact Prod.ext g (Prod.ext (uniq _ h) e)
            · rw [List.pairwise_append]
              refine ⟨asc, List.pairwise_singleton _ _, fun s ms t' mt => ?_⟩
              rw [List.mem_singleton.mp mt]
              obtain ⟨h, g⟩ := (mem s).mp ms
              rcases g with g | ⟨g, g2⟩
              · exact .inl g
              · rw [g] at h
                exact .inr ⟨g, .inl (Run.order h r (by omega))⟩
      · rintro σ H2 ⟨us, rs, u3, u4, rfl, k2, hD, hus, mem, asc, lus⟩
        refine ⟨us, rs, _, _, _, rfl, k2, hD, hus, fun t => (mem t).trans ⟨fun h => ⟨h.1, by omega⟩, fun h => ⟨h.1, ?_⟩⟩, asc, ?_⟩
        · have h1 := h.1.1.two
          have h2 := h.1.1.bn
          rw [lc] at h2
          rcases Nat.lt_or_ge t.1 i with g | g
          · exact .inl g
          · exact .inr ⟨by omega, by omega⟩
        · have : i * 1001 + 1001 = (i + 1) * 1001 := by omega
          omega
    · rintro σ H1 ⟨us, rs, u2, u3, u4, rfl, k1, hD, hus, mem, asc, lus⟩
      refine ⟨_, rfl, q D us rs H1 hD hus ⟨fun t => (mem t).trans ⟨fun h => h.1, fun h => ⟨h, ?_⟩⟩, asc⟩ k1 nD ?_⟩
      · skip
        have h1 := h.1.two
        have h2 := h.1.q0
        have h3 := h.1.bn
        rw [lc] at h3
        omega
      · have : (((z.length : Nat) : Int)).toNat * 1001 ≤ 2000 * 1001 := Nat.mul_le_mul_right _ (by omega)
        omega
end
end LawK
set_option maxHeartbeats 4000000
namespace LawK
open PySem PySem.Spec PyProof.Rows L2 Ev

def spLLies : Sp := fun vs H Q _ => ∃ (p : Addr) (z : Str) (D : Addr) (us : List V) (rs : List Tr), vs = [.ref p, .str z, .ref D] ∧ 0 < z.length ∧ z.length ≤ 2000 ∧ H D = some (.lst us) ∧ All2 (TrAt H) us rs ∧ Runs (cd z) rs ∧ D ≠ p ∧ us.length ≤ 16000000 ∧ ∃ l, HandL H p l ∧ ∀ H', HandL H' p l → But p H H' → Q (.bl true) H'
theorem TrAt.but {H H' : Hp} {p l : Addr} {v : V} {t : Tr} (h : TrAt H v t) (h0 : HandL H p l) (b : But p H H') : TrAt H' v t := let ⟨c, e, r⟩ := h; ⟨c, e, b _ _ (tup_ne h0 r) r⟩
theorem filt_snoc {α : Type} (f : α → Bool) {xs : List α} {i : Nat} {x : α} (h : xs[i]? = some x) : (xs.take (i + 1)).filter f = (xs.take i).filter f ++ (if f x = true then [x] else []) := by
  rw [take_snoc h, List.filter_append]
  congr 1
  by_cases c : f x = true
  · rw [if_pos c, List.filter_cons_of_pos c]
    rfl
  · rw [if_neg c, List.filter_cons_of_neg c]
    rfl
theorem count_one {α : Type} [DecidableEq α] {f : α → Bool} {a : α} : ∀ {xs : List α}, xs.Nodup → a ∈ xs → f a = true → (∀ b ∈ xs, f b = true → b = a) → (xs.filter f).length = 1
  | [], _, h, _, _ => by cases h
  | x :: xs, nd, h, fa, u => by
    obtain ⟨n1, n2⟩ := List.nodup_cons.mp nd
    by_cases e : x = a
    · subst e
      have : xs.filter f = [] := by
        rw [List.filter_eq_nil_iff]
        intro b hb fb
        rw [u b (List.mem_cons_of_mem _ hb) fb] at hb
        exact n1 hb
      rw [List.filter_cons_of_pos fa, this]
      rfl
    · have nx : ¬ f x = true := fun c => e (u x List.mem_cons_self c)
      rw [List.filter_cons_of_neg nx]
      refine count_one n2 ?_ fa fun b hb => u b (List.mem_cons_of_mem _ hb)
      rcases List.mem_cons.mp h with g | g
      · exact absurd g.symm e
      · exact g
section
variable {P : Program} {w : World} {K : PySem.W.Frag} {mg : Str → Option Value} {base : Heap}
abbrev sLiesRight : Stmt := topS 32
theorem scLiesRight : FnScope ["hand", "text", "some", "begin", "behind", "period", "one"] ["hand", "text", "some"] (defScope sLiesRight) := ⟨rfl, rfl, rfl, by decide +kernel, rfl, by decide +kernel, by decide +kernel⟩
theorem ok_LiesRight {f : Addr} {fd : FuncData} (F : Fun K "_law_lies_right" "_law_lies_right" sLiesRight f fd)  {fDraw : Addr} {fdDraw : FuncData} (DDraw : Dk P w K mg base "_law_draw" sDraw ["hand", "many"] 1 spDraw fDraw fdDraw) {fLeast : Addr} {fdLeast : FuncData} (DLeast : Dk P w K mg base "_law_least" sLeast ["text"] 2 spLLeast fLeast fdLeast) (T : Glob mg) : FnOk P w K mg base CX0 3 f fd ["hand", "text", "some"] spLLies := by
  refine F.ok scLiesRight (fun vs H Q E h => ?_) (fun cdv A outer s H vs Q E hr h => ?_)
  · obtain ⟨p, z, D, us, rs, rfl, _⟩ := h
    rfl
  · refine ⟨_, (pss_cons (ps_set (i := 3) scLiesRight.nd rfl (.inr rfl) (pe_call DDraw.ok (hr.mono (by decide)) (by rfl) DDraw.g DDraw.F.kp DDraw.b .nil pass0 (pa_cons (pv 0) (pa_cons (pe_callB call_lenZ (by rfl) T.len PySem.boot_len (pa_cons (pv 1) pa_nil)) pa_nil))))
      (pss_cons (ps_set (i := 4) scLiesRight.nd rfl (.inr rfl) (pe_op op_add (pe_op op_add (pv 3) pe_int) (pe_call DDraw.ok (hr.mono (by decide)) (by rfl) DDraw.g DDraw.F.kp DDraw.b .nil pass0 (pa_cons (pv 0) (pa_cons (pe_op op_sub (pe_callB call_lenZ (by rfl) T.len PySem.boot_len (pa_cons (pv 1) pa_nil)) (pv 3)) pa_nil)))))
      (pss_cons (ps_set (i := 5) scLiesRight.nd rfl (.inl rfl) (pe_call DLeast.ok (hr.mono (by decide)) (by rfl) DLeast.g DLeast.F.kp DLeast.b .nil pass0 (pa_cons (pe_slice sl_str (pv 1) (po_some (pv 3)) (po_some (pv 4))) pa_nil)))
      (pss_cons (ps_if (pt_cmpR op_gt (pe_op op_mul pe_int (pv 5)) (pe_op op_sub (pv 4) (pv 3)) (nomark _))
      (pss_one (ps_ret pe_bl))
      pss_nil)
      (pss_one (ps_ret (pe_cmpR op_eq (pe_bm PySem.F.plainAttrs_list PySem.F.slot_list_count PySem.F.type_list_count mt_lcount (pe_lc (own := [("one", 6)]) (g := gName 6) (by rfl) scLiesRight.nd (pi_list (pv 2)) (blkOk_by (N := ["hand", "text", "some", "begin", "behind", "period", "one"]) (sc := defScope sLiesRight) (by decide +kernel)) (fun _ _ _ _ _ => pg_name (i := 6) scLiesRight.nd rfl (.inl rfl)) (fun _ _ _ _ _ => (pts_one (PW.pt (pw_and (pt_cmpR op_le (pe_ix (r := rIxT K) ix_tup (pv 6) pe_int (fun _ _ => rfl)) (pv 3) (nomark _)) (pw_and1 (pt_cmpR op_le (pv 4) (pe_ix (r := rIxT K) ix_tup (pv 6) pe_int (fun _ _ => rfl)) (nomark _))))))) (fun _ _ _ _ _ => (pe_ix (r := rIxT K) ix_tup (pv 6) pe_int (fun _ _ => rfl)))) (pa_cons (pv 5) pa_nil)) pe_int (nomark _)))))))), ?_⟩
    obtain ⟨p, z, D, us, rs, rfl, z0, lz, hD, hus, rn, nDp, lus, l, h0, q⟩ := h
    have lc := cd_len z
    refine ⟨.ref p, rfl, .str z, rfl, z, rfl, len6 lz, p, (z.length : Int), rfl, by omega, by omega, l, h0, fun v H1 v0 v1 h1 b1 => ?_⟩
    obtain ⟨a, rfl⟩ : ∃ a : Nat, v = (a : Int) := ⟨v.toNat, by omega⟩
    refine ⟨.int (a : Nat), rfl, _, _, rfl, rfl, .ref p, rfl, .str z, rfl, z, rfl, len6 lz, .int (a : Nat), rfl, _, _, rfl, rfl, p, (z.length : Int) - (a : Int), rfl, by omega, by omega, l, h1, fun u H2 u0 u1 h2 b2 => ?_⟩
    obtain ⟨b, eb⟩ : ∃ b : Nat, (a : Int) + 1 + u = (b : Int) := ⟨((a : Int) + 1 + u).toNat, by omega⟩
    have ab : a + 1 ≤ b := by omega
    have bn : b ≤ z.length := by omega
    have bl : b ≤ (cd z).length := by rw [lc]; exact bn
    have hus2 := hus.imp fun _ _ r => (TrAt.but (TrAt.but r h0 b1) h1 b2)
    have hD2 := b2 _ _ nDp (b1 _ _ nDp hD)
    have ecut := cut_sl (z := z) (a := a) (b := b) (by omega)
    have lcut : (cutS z (some (a : Int)) (some (b : Int))).length = b - a := by
      rw [← cd_len, ecut, sl_len bl]
    refine ⟨_, _, rfl, rfl, ?_⟩
    dsimp only
    rw [eb]
    refine ⟨.str z, rfl, .int (a : Nat), rfl, _, rfl, .int (b : Nat), rfl, _, rfl, z, rfl, len6 lz, _, rfl, by rw [lcut]; omega, by rw [lcut]; omega, fun m hm => ?_⟩
    rw [ecut] at hm
    obtain ⟨m0, pr, ls⟩ := hm.at bl
    refine ⟨.int (m : Nat), rfl, _, _, rfl, rfl, .inl ⟨by decide, by decide⟩, .int (b : Nat), rfl, .int (a : Nat), rfl, _, _, rfl, rfl, _, _, rfl, rfl, _, rfl, ite2 (fun c => ?_) fun c => ?_⟩
    · exact q H2 h2 ((b1.trans b2))
    · have two : a + 2 * m ≤ b := by
        refine Classical.byContradiction fun e => c (decide_eq_true ?_)
        omega
      dsimp only [tNext, tDrop]
      obtain ⟨a1, b1', la, lb, rr, un⟩ := run_of m0 bl two pr ls
      have lrs := hus2.len
      refine ⟨.ref D, rfl, D, rfl, ⟨_, sq_of hD2⟩, fun E nE => lc_list (K := K) (xs := us) (fun i H' => Same H2 H' ∧ H' E = some (.lst ((((rs.take i).filter fun t => decide (t.1 ≤ a ∧ b ≤ t.2.1)).map fun t => ((t.2.2 : Nat) : Int)).map V.int))) ⟨Same.new nE, upd_same⟩ (fun i H' _ w => sq_of (w.1 _ _ hD2)) ?_ ?_⟩
      · rintro i x H3 hx ⟨k3, hE⟩
        obtain ⟨t, et, c, rfl, hc⟩ := hus2.at hx
        have hc3 := SqT.of (K := K) (k3 _ _ hc)
        have li := (List.getElem?_eq_some_iff.mp hx).1
        refine ⟨rfl, ?_⟩
        refine (?_ : ∀ Q : Bool → Hp → Prop, Q (decide (t.1 ≤ a ∧ b ≤ t.2.1)) H3 → tAnd _ _ _ H3 Q) _ ?_
        · intro Q hQ
          refine ⟨.ref c, rfl, c, _, _, _, rfl, rfl, hc3, rfl, .int (a : Nat), rfl, _, _, rfl, rfl, _, rfl, ite2 (fun c1 => ?_) fun c1 => ?_⟩
          · have c1 : t.1 ≤ a := by
              have c1 := of_decide_eq_true c1
              omega
            refine ⟨.int (b : Nat), rfl, .ref c, rfl, c, _, _, _, rfl, rfl, hc3, rfl, _, _, rfl, rfl, _, rfl, ?_⟩
            have e : decide (t.1 ≤ a ∧ b ≤ t.2.1) = decide (((b : Nat) : Int) ≤ ((t.2.1 : Nat) : Int)) := decide_eq_decide.mpr (by omega)
            rw [e] at hQ
            exact hQ
          · have c1 : ¬ t.1 ≤ a := fun e => c1 (decide_eq_true (by omega))
            rw [decide_eq_false (fun h => c1 h.1)] at hQ
            exact hQ
        rw [filt_snoc _ et]
        refine ite2 (fun c2 => ?_) fun c2 => ?_
        · rw [if_pos c2]
          refine ⟨.ref c, rfl, c, _, _, _, rfl, rfl, hc3, rfl, _, hE, ?_, sameAt k3 nE, ?_⟩
          · have h1 := List.length_filter_le (fun t : Tr => decide (t.1 ≤ a ∧ b ≤ t.2.1)) (rs.take i)
            rw [List.length_take] at h1
            rw [List.length_map, List.length_map, sizeLine_eq]
            omega
          · rw [upd_same, List.map_append, List.map_append]
            rfl
        · rw [if_neg c2, List.append_nil]
          exact ⟨k3, hE⟩
      · rintro H3 ⟨k3, hE⟩
        rw [lrs, List.take_of_length_le (Nat.le_refl _)] at hE
        refine ⟨.inl ⟨rfl, _, sq_of hE⟩, .int (m : Nat), rfl, E, _, _, rfl, rfl, sq_of hE, rfl, ?_⟩
        have nd : rs.Nodup := rn.asc.imp fun {s t} h e => by
          rw [e] at h
          exact ltT_irr _ h
        have cnt : ((rs.filter fun t => decide (t.1 ≤ a ∧ b ≤ t.2.1)).map fun t => ((t.2.2 : Nat) : Int)).count ((m : Nat) : Int) = 1 := by
          rw [List.count_eq_length_filter, List.filter_map, List.length_map, List.filter_filter]
          refine count_one nd ((rn.mem (a1, b1', m)).mpr rr) ?_ fun t ht ft => ?_
          · have e1 : (((m : Nat) : Int) == ((m : Nat) : Int)) = true := beq_self_eq_true _
            show ((((m : Nat) : Int) == ((m : Nat) : Int)) && decide (a1 ≤ a ∧ b ≤ b1')) = true
            rw [e1, decide_eq_true ⟨la, lb⟩]
            rfl
          · have ft : ((((t.2.2 : Nat) : Int) == ((m : Nat) : Int)) && decide (t.1 ≤ a ∧ b ≤ t.2.1)) = true := ft
            obtain ⟨f1, f2⟩ := Bool.and_eq_true_iff.mp ft
            have f1 : t.2.2 = m := Int.ofNat.inj (eq_of_beq f1)
            have f2 := of_decide_eq_true f2
            have r := (rn.mem t).mp ht
            rw [f1] at r
            obtain ⟨g1, g2⟩ := un _ _ f2.1 f2.2 r
            exact Prod.ext g1 (Prod.ext g2 f1)
        rw [cnt]
        exact q H3 (h2.same k3) ((b1.trans b2).and k3)
end
end LawK
set_option maxHeartbeats 4000000
/-! Objects of an own class, made where the making may raise; == by an own __eq__, with anything. -/
namespace Ev
open PySem PySem.Spec PyProof.Rows L2
section
variable {X : Cx} {CX : CXT} {k : Nat} {f C : Addr} {fd : FuncData} {ps : List Str} {sp : Sp} {x : Str} {p pos : Pos} {e : Expr} {es : List Expr} {t : TA}
theorem run_mkAt {pins : List (Addr × Obj)} {σ : L2.St} {H : Hp} {s : Shared} {Q : VK} {us : List Value} {vs : List V} {E : XK} (M : Mk X.K C f) (F : FnOk X.prog X.w X.K X.mg X.base CX k f fd ps sp) (hr : Room (k + 1) X.A) (hb : Binds X.K fd ps []) (hx : PassesAt CX X σ E) (I : Inv X pins σ H s) (r : Vals vs us)
    (h : ∀ a dx, H a = none → H dx = none → dx ≠ a → sp (.ref a :: vs) (upd (upd H dx (.own a)) a (.ins C dx [])) (fun v H2 => v = .non ∧ Q (.ref a) H2) E) :
    wpAny (model X.prog X.w) X.A (call (.ref C) us) (EP X pins σ Q) X.xe s := by
  have q := h (s.heap.objs.size + 1) s.heap.objs.size (I.hok.fresh (Nat.le_succ _)) (I.hok.fresh (Nat.le_refl _)) (Nat.ne_of_lt (Nat.lt_succ_self _))
  have J := Inv.made (C := C) I
  have rv : Vals (V.ref (s.heap.objs.size + 1) :: vs) (Value.ref (s.heap.objs.size + 1) :: us) := .cons rfl r
  have len := F.len _ _ _ _ q
  have lu : (Value.ref (s.heap.objs.size + 1) :: us ++ []).length = ps.length := by
    rw [List.append_nil, ← rv.length]
    exact len
  have bnd := hb _ (Value.ref (s.heap.objs.size + 1) :: us) J.kIn lu
  rw [List.append_nil] at bnd
  have go := F.run _ X.stack _ _ ⟨Value.ref (s.heap.objs.size + 1) :: us, []⟩ (Value.ref (s.heap.objs.size + 1) :: us) _ _ E (hr.make C us []) (J.env0.make C us []) bnd rv q
  refine wpAny_call (make_map (f := f) I.kIn M.makes M.init (beq_iff_eq.mp M.fn) (codeAny_mono go ?_))
  intro res s' got
  match res, got with
  | .error er, got => exact hx pins _ _ er s' J got
  | .ok (.ret u), got =>
    obtain ⟨v, H', I3, ru, rfl, q3⟩ := J.after got
    exact ⟨ru, ⟨V.ref (s.heap.objs.size + 1), H', I3, rfl, q3⟩⟩
  | .ok .next, got => exact got.elim
  | .ok .brk, got => exact got.elim
  | .ok .cont, got => exact got.elim
def tMkS (C : Addr) (sp : Sp) (E : L2.St → XK) (t : TA) : TE := fun σ H Q => t σ H fun vs H1 => ∀ a dx, H1 a = none → H1 dx = none → dx ≠ a →
  sp (.ref a :: vs) (upd (upd H1 dx (.own a)) a (.ins C dx [])) (fun v H2 => v = .non ∧ Q (.ref a) H2) (E σ)
theorem pe_mkS {E : L2.St → XK} (M : Mk X.K C f) (F : FnOk X.prog X.w X.K X.mg X.base CX k f fd ps sp) (hr : Room (k + 1) X.A) (hg : Gl X x) (hm : X.mg x = some (.ref C)) (hb : Binds X.K fd ps []) (hx : ∀ σ, PassesAt CX X σ (E σ)) (ha : PA X (e :: es) t)
    (hdb : (x == ("__debug__" : Str)) = false := by decide) (he : starEach (e :: es) X.env = (false, eval e X.env) :: starEach es X.env := by rfl) (hpl : (backTo pos (starEach es X.env)).any (·.1) = false := by rfl) :
    PE X (.Call (.Name x p) (e :: es) [] pos) (tMkS C sp E t) := by
  constructor
  intro pins s σ H Q I h
  refine wpAny_Call_Name_kw (ld_glob I hg hm ?_ hdb)
  refine PySem.W.callWith_K (h₀ := X.base) I.ok.mod.kin M.kp (thn (ha.run pos pins s σ H _ I h) ?_) he hpl
  rintro us s1 ⟨vs, H1, I1, r, q⟩
  exact ⟨I1.kIn, run_mkAt M F hr hb (hx σ) I1 r q⟩
theorem passL_at (σ : L2.St) : PassesAt (L2.CX X.prog X.w) X σ E0 := fun pins H s e s' I h => passL pins σ H s e s' I h
/-- x == y, x an object of the class at C -/
def rEqO (C : Addr) (K : PySem.W.Frag) (sp : Sp) (E : XK) : R2 := fun x y H Q => ∃ a dx fs t, x = .ref a ∧ H a = some (.ins C dx fs) ∧ TyX K H y t ∧ PySem.W.notFirst K C t = true ∧ sp [x, y] H (fun v H' => (∃ b, v = .bl b) ∧ Q v H') E
theorem op_eqO {E : XK} (F : FnOk X.prog X.w X.K X.mg X.base CX k f fd ps sp) (hs : PySem.W.findIn X.K (.ref C) "__eq__" = some (some (.ref f))) (hf : PySem.W.isFn X.K (.ref f) = true) (hb : Binds X.K fd ps []) (hx : Passes CX X E) (hr : Room k X.A) : OpR X (compareOp .Eq) (rEqO C X.K sp E) := by
  intro pins s σ H x y v u Q I rx ry h
  obtain ⟨a, dx, fs, t, rfl, ha, ty, nf, q⟩ := h
  cases rx
  obtain ⟨mA, J, _⟩ := ins_get I.hok ha
  obtain ⟨od, J, _⟩ := J.look
  obtain ⟨m, hF⟩ := I.fr
  obtain ⟨P, Z, hp, _⟩ := kit_of I ry ty
  show wpAny (model X.prog X.w) X.A (richCompare .Eq _ u) (EP X pins σ Q) X.xe s
  refine PySem.W.cmp_K (op := .Eq) (tb := t) hr.units0 hF I.ok.mod.kin J (Z.ty _ _ I.kIn hp) nf hs hf ?_
  have len := F.len _ _ _ _ q
  have rv : Vals [V.ref a, y] [Value.ref a, u] := .cons rfl (.cons ry .nil)
  have bnd := hb s [Value.ref a, u] I.kIn (by simpa using len)
  have go := F.run X.A X.stack s H ⟨[Value.ref a, u], []⟩ [Value.ref a, u] [V.ref a, y] _ E hr I.env0 (by simpa using bnd) rv q
  refine wpAny_call (codeAny_mono go ?_)
  intro res s' got
  match res, got with
  | .error er, got => exact hx pins σ H s er s' I got
  | .ok (.ret w), got =>
    obtain ⟨z, H', I', rz, ⟨b, rfl⟩, q'⟩ := I.after got
    cases rz
    exact ⟨.bl b, H', I', rfl, q'⟩
  | .ok .next, got => exact got.elim
  | .ok .brk, got => exact got.elim
  | .ok .cont, got => exact got.elim
end
end Ev
set_option maxHeartbeats 4000000
/-! Tuples of texts as data. -/
namespace Ev
open PySem PySem.Spec PyProof.Rows L2
theorem dp_strs {K : PySem.W.Frag} {H : Hp} : ∀ ts : List Str, DpAll K H (ts.map V.str) (ts.map PyData.str)
  | [] => .nil
  | t :: ts => .cons (.str t) (dp_strs ts)
theorem eqv_strs : ∀ ts us : List Str, PyData.eqvAll (ts.map PyData.str) (us.map PyData.str) = decide (ts = us)
  | [], [] => by rw [decide_eq_true rfl]; rfl
  | [], u :: us => by rw [decide_eq_false (by simp)]; rfl
  | t :: ts, [] => by rw [decide_eq_false (by simp)]; rfl
  | t :: ts, u :: us => by
    show (PyData.eqv (.str t) (.str u) && PyData.eqvAll (ts.map PyData.str) (us.map PyData.str)) = _
    rw [eqv_strs ts us]
    show ((t == u) && _) = _
    by_cases e : t = u
    · subst e
      by_cases e2 : ts = us
      · subst e2
        simp
      · simp [e2]
    · have : (t == u) = false := by simpa using e
      rw [this, Bool.false_and, decide_eq_false fun z => e (by injection z)]
theorem strOk_sg {t : Str} (h : sgB t = true) : PyData.strOk t = true := by
  have g : ∀ c ∈ t.cps.toList, c ≤ 126 := fun c hc => by
    have := sgB_mem h hc
    unfold sgC at this
    exact of_decide_eq_true (Bool.and_eq_true_iff.mp this).2
  show t.cps.all (· < 0x110000) = true
  rw [← Array.all_toList, List.all_eq_true]
  intro c hc
  have := g c hc
  exact decide_eq_true (by omega)
theorem shaped_strs {ts : List Str} (h : ∀ t ∈ ts, sgB t = true) : SeqAt.shaped (.tuple (ts.map PyData.str)) = true := by
  have h1 : ∀ us : List Str, (∀ t ∈ us, sgB t = true) → PyData.canLayAll0 (us.map PyData.str) = true := fun us hu => by
    induction us with
    | nil => rfl
    | cons u us ih =>
      show (PyData.strOk u && PyData.canLayAll0 (us.map PyData.str)) = true
      rw [strOk_sg (hu u (by simp)), ih fun t ht => hu t (List.mem_cons_of_mem _ ht)]
      rfl
  have h2 : ∀ us : List Str, PyData.depthAll (us.map PyData.str) ≤ 1 := fun us => by
    induction us with
    | nil => exact Nat.zero_le _
    | cons u us ih =>
      simp only [List.map_cons, PyData.depthAll, PyData.depth]
      omega
  unfold SeqAt.shaped
  have a : (PyData.tuple (ts.map PyData.str)).canLay0 = true := h1 ts h
  have b : (PyData.tuple (ts.map PyData.str)).depth ≤ 64 := by
    have := h2 ts
    simp only [PyData.depth]
    omega
  rw [a, decide_eq_true b]
  rfl
end Ev
set_option maxHeartbeats 4000000
namespace LawK
open PySem PySem.Spec PyProof.Rows L2 Ev

inductive FP : V → PyData → Prop
  | int (i : Int) : FP (.int i) (.int i)
  | bl (b : Bool) : FP (.bl b) (.bool b)
  | str (z : Str) (h : PyData.strOk z = true) (l : z.length ≤ 100) : FP (.str z) (.str z)
theorem FP.kd {H : Hp} {v : V} {d : PyData} (h : FP v d) : (∃ k, Kd H v k) ∧ Vs v := by
  cases h with
  | int i => exact int_ok
  | bl b => exact ⟨⟨_, .bl b⟩, fun z e => by cases e⟩
  | str z h l => exact ⟨⟨_, .str z⟩, fun y e => by cases V.str.inj e; omega⟩
theorem FP.dp {K : PySem.W.Frag} {H : Hp} {v : V} {d : PyData} (h : FP v d) : Dp K H v d := by
  cases h with
  | int i => exact .int i
  | bl b => exact .bl b
  | str z h l => exact .str z
theorem FPs.dp {K : PySem.W.Frag} {H : Hp} : ∀ {xs : List V} {ds : List PyData}, All2 FP xs ds → DpAll K H xs ds
  | _, _, .nil => .nil
  | _, _, .cons h t => .cons h.dp (FPs.dp t)
theorem FPs.lay : ∀ {xs : List V} {ds : List PyData}, All2 FP xs ds → PyData.canLayAll0 ds = true ∧ PyData.depthAll ds = 0
  | _, _, .nil => ⟨rfl, rfl⟩
  | _, _, .cons h t => by
    obtain ⟨a, b⟩ := FPs.lay t
    cases h with
    | int i => exact ⟨by simp [PyData.canLayAll0, PyData.canLay0, a], by simp [PyData.depthAll, PyData.depth, b]⟩
    | bl c => exact ⟨by simp [PyData.canLayAll0, PyData.canLay0, a], by simp [PyData.depthAll, PyData.depth, b]⟩
    | str z h l => exact ⟨by simp [PyData.canLayAll0, PyData.canLay0, a, h], by simp [PyData.depthAll, PyData.depth, b]⟩
theorem FPs.ints : ∀ {is : List Int} {ds : List PyData}, All2 FP (is.map V.int) ds → ds = is.map PyData.int
  | [], _, .nil => rfl
  | i :: is, _, .cons h t => by
    cases h
    rw [FPs.ints t]
    rfl
theorem fps_ints : ∀ is : List Int, All2 FP (is.map V.int) (is.map PyData.int)
  | [] => .nil
  | i :: is => .cons (.int i) (fps_ints is)
/-- nested tuples -/
inductive NT (H : Hp) : V → PyData → Nat → Prop
  | zero {a : Addr} (e : H a = some (.tup [])) : NT H (.ref a) (.tuple []) 0
  | tr {v : V} {t : Tr} (h : TrAt H v t) : NT H v (encT t) 0
  | succ {a : Addr} {x : V} {d : PyData} {n : Nat} (e : H a = some (.tup [x])) (h : NT H x d n) : NT H (.ref a) (.tuple [d]) (n + 1)
theorem NT.same {H H' : Hp} {v : V} {d : PyData} {n : Nat} (k : Same H H') (h : NT H v d n) : NT H' v d n := by
  induction h with
  | zero e => exact .zero (k _ _ e)
  | tr h => exact .tr (h.same k)
  | succ e _ ih => exact .succ (k _ _ e) ih
theorem NT.but {H H' : Hp} {p l : Addr} {v : V} {d : PyData} {n : Nat} (h0 : HandL H p l) (b : But p H H') (h : NT H v d n) : NT H' v d n := by
  induction h with
  | zero e => exact .zero (b _ _ (tup_ne h0 e) e)
  | tr h => exact .tr (h.but h0 b)
  | succ e _ ih => exact .succ (b _ _ (tup_ne h0 e) e) ih
theorem NT.dp {K : PySem.W.Frag} {H : Hp} {v : V} {d : PyData} {n : Nat} (h : NT H v d n) : Dp K H v d := by
  induction h with
  | zero e => exact .tup (SqT.of e) .nil
  | tr h => exact encT_dp h
  | succ e _ ih => exact .tup (SqT.of e) (.cons ih .nil)
theorem NT.lay {H : Hp} {v : V} {d : PyData} {n : Nat} (h : NT H v d n) : d.canLay0 = true ∧ d.depth ≤ n + 1 := by
  induction h with
  | zero e => exact ⟨by simp [PyData.canLay0, PyData.canLayAll0], by simp [PyData.depth, PyData.depthAll]⟩
  | tr h => exact ⟨by unfold encT; simp [PyData.canLay0, PyData.canLayAll0], by unfold encT; simp [PyData.depth, PyData.depthAll]⟩
  | succ e _ ih => exact ⟨by simp [PyData.canLay0, PyData.canLayAll0, ih.1], by simp only [PyData.depth, PyData.depthAll]; have := ih.2; omega⟩
theorem NT.tup {H : Hp} {v : V} {d : PyData} {n : Nat} (h : NT H v d n) : Kd H v .tup ∧ ∃ a, v = .ref a := by
  cases h with
  | zero e => exact ⟨.tup e, _, rfl⟩
  | tr h =>
    obtain ⟨b, rfl, e⟩ := h
    exact ⟨.tup e, _, rfl⟩
  | succ e _ => exact ⟨.tup e, _, rfl⟩
theorem Nest.nt {H : Hp} {n : Nat} {v : V} (h : Nest H n v) : ∃ d, NT H v d n := by
  induction h with
  | zero e => exact ⟨_, .zero e⟩
  | succ e _ ih =>
    obtain ⟨d, q⟩ := ih
    exact ⟨_, .succ e q⟩
inductive OddAt (H : Hp) : V → Option (List V) → Prop
  | no {v : V} {k : Kn} (h : Kd H v k) (n : k ≠ .tup) (s : Vs v) : OddAt H v none
  | flat {a : Addr} {xs : List V} {ds : List PyData} (e : H a = some (.tup xs)) (few : xs.length ≤ 4) (h : All2 FP xs ds) : OddAt H (.ref a) (some xs)
  | nest {a : Addr} {x : V} {d : PyData} {n : Nat} (e : H a = some (.tup [x])) (h : NT H x d n) (l : n ≤ 20) : OddAt H (.ref a) (some [x])
theorem OddAt.same {H H' : Hp} {v : V} {o : Option (List V)} (k : Same H H') (h : OddAt H v o) : OddAt H' v o := by
  cases h with
  | no h n s => exact .no (h.same k) n s
  | flat e few h => exact .flat (k _ _ e) few h
  | nest e h l => exact .nest (k _ _ e) (h.same k) l
theorem OddAt.but {H H' : Hp} {p l : Addr} {v : V} {o : Option (List V)} (h : OddAt H v o) (h0 : HandL H p l) (h1 : HandL H' p l) (b : But p H H') : OddAt H' v o := by
  cases h with
  | no h n s => exact .no (Kd.but h h0 h1 b) n s
  | flat e few h => exact .flat (b _ _ (tup_ne h0 e) e) few h
  | nest e h l => exact .nest (b _ _ (tup_ne h0 e) e) (h.but h0 b) l
theorem all2_kd {H : Hp} {xs : List V} {ds : List PyData} (h : All2 FP xs ds) : ∀ y ∈ xs, (∃ k, Kd H y k) ∧ Vs y := by
  induction h with
  | nil => intro y hy; cases hy
  | cons h _ ih =>
    intro y hy
    rcases List.mem_cons.mp hy with rfl | hy
    · exact h.kd
    · exact ih y hy
theorem OddAt.tg {H : Hp} {v : V} {o : Option (List V)} (h : OddAt H v o) : Tg H v o := by
  cases h with
  | no h n s => exact .no h n s
  | flat e few h => exact .tup e (by omega) (all2_kd h)
  | nest e h l =>
    refine .tup e (by show 1 ≤ 30; decide) fun y hy => ?_
    rw [List.mem_singleton.mp hy]
    obtain ⟨k, a, rfl⟩ := h.tup
    exact ⟨⟨_, k⟩, fun z e => by cases e⟩
def AllO (H : Hp) (us : List V) : Prop := ∀ u ∈ us, ∃ o, OddAt H u o
theorem AllO.same {H H' : Hp} {us : List V} (k : Same H H') (h : AllO H us) : AllO H' us := fun u m => let ⟨o, q⟩ := h u m; ⟨o, q.same k⟩
theorem AllO.nil {H : Hp} : AllO H [] := fun u m => by cases m
theorem AllO.cons {H : Hp} {u : V} {us : List V} {o : Option (List V)} (h : OddAt H u o) (k : AllO H us) : AllO H (u :: us) := fun v m => by
  rcases List.mem_cons.mp m with rfl | m
  · exact ⟨_, h⟩
  · exact k v m
theorem AllO.app {H : Hp} {us vs : List V} (h : AllO H us) (k : AllO H vs) : AllO H (us ++ vs) := fun u m => by
  rcases List.mem_append.mp m with m | m
  · exact h u m
  · exact k u m
theorem num_ok : ∀ n ≤ 2000, PyData.strOk (((toString ((n : Nat) : Int) : String) : Str)) = true ∧ (((toString ((n : Nat) : Int) : String) : Str)).length ≤ 100 := by decide +kernel
def spLOdd : Sp := fun vs H Q _ => ∃ (p : Addr) (x : V) (t : Tr), vs = [.ref p, x] ∧ TrAt H x t ∧ t.1 ≤ 2000 ∧ ∃ l, HandL H p l ∧ ∀ y o H', OddAt H' y o → Hn p l H H' → Q y H'
section
variable {P : Program} {w : World} {K : PySem.W.Frag} {mg : Str → Option Value} {base : Heap}
abbrev sOdd : Stmt := topS 33
theorem scOdd : FnScope ["hand", "one", "at", "more", "some"] ["hand", "one"] (defScope sOdd) := ⟨rfl, rfl, rfl, by decide +kernel, rfl, by decide +kernel, by decide +kernel⟩
theorem ok_Odd {f : Addr} {fd : FuncData} (F : Fun K "_law_odd" "_law_odd" sOdd f fd)  {fDraw : Addr} {fdDraw : FuncData} (DDraw : Dk P w K mg base "_law_draw" sDraw ["hand", "many"] 1 spDraw fDraw fdDraw) {fAny : Addr} {fdAny : FuncData} (DAny : Dk P w K mg base "_law_any" sAny ["hand", "some"] 2 (spAny K) fAny fdAny) {fDeep : Addr} {fdDeep : FuncData} (DDeep : Dk P w K mg base "_law_deep" sDeep ["many"] 1 spDeep fDeep fdDeep) (T : Glob mg) : FnOk P w K mg base CX0 3 f fd ["hand", "one"] spLOdd := by
  refine F.ok scOdd (fun vs H Q E h => ?_) (fun cdv A outer s H vs Q E hr h => ?_)
  · obtain ⟨p, x, t, rfl, _⟩ := h
    rfl
  · refine ⟨_, (pss_cons (ps_par (i := 2) (j := 3) (by rfl) scOdd.nd rfl rfl (by decide) rfl rfl (pa_cons (pe_call DDraw.ok (hr.mono (by decide)) (by rfl) DDraw.g DDraw.F.kp DDraw.b .nil pass0 (pa_cons (pv 0) (pa_cons pe_int pa_nil))) (pa_cons (pe_call DAny.ok (hr.mono (by decide)) (by rfl) DAny.g DAny.F.kp DAny.b .nil pass0 (pa_cons (pv 0) (pa_cons (pe_lst (pa_cons pe_int (pa_cons (pe_un un_neg pe_int) (pa_cons pe_int pa_nil)))) pa_nil))) pa_nil)) (by rfl))
      (pss_cons (ps_set (i := 4) scOdd.nd rfl (.inl rfl) (pe_lst (pa_cons (pe_op op_catM (pe_op op_catM (pe_slice sl_tupM (pv 1) po_none (po_some (pv 2))) (pe_tup (pa_cons (pe_op op_add (pe_ix ix_tup (pv 1) (pv 2) (fun _ _ => rfl)) (pv 3)) pa_nil))) (pe_slice sl_tupM (pv 1) (po_some (pe_op op_add (pv 2) pe_int)) po_none)) (pa_cons (pe_callTy call_list_of (by rfl) T.list (by decide +kernel) (pa_cons (pv 1) pa_nil)) (pa_cons (pe_slice sl_tupM (pv 1) po_none (po_some pe_int)) (pa_cons (pe_op op_catM (pv 1) (pe_tup (pa_cons pe_int pa_nil))) (pa_cons (pe_op op_catM (pe_tup (pa_cons pe_bl pa_nil)) (pe_slice sl_tupM (pv 1) (po_some pe_int) po_none)) (pa_cons pe_non pa_nil))))))))
      (pss_one (ps_ret (pe_call DAny.ok (hr.mono (by decide)) (by rfl) DAny.g DAny.F.kp DAny.b .nil pass0 (pa_cons (pv 0) (pa_cons (pe_op op_cat (pv 4) (pe_lst (pa_cons (pe_op op_catM (pe_tup (pa_cons (pe_callTy call_str_int (by rfl) T.str (by decide +kernel) (pa_cons (pe_ix ix_tup (pv 1) pe_int (fun _ _ => rfl)) pa_nil)) pa_nil)) (pe_slice sl_tupM (pv 1) (po_some pe_int) po_none)) (pa_cons (pe_tup (pa_cons (pv 1) pa_nil)) (pa_cons (pe_call DDeep.ok (hr.mono (by decide)) (by rfl) DDeep.g DDeep.F.kp DDeep.b .nil pass0 (pa_cons pe_int pa_nil)) pa_nil))))) pa_nil))))))), ?_⟩
    obtain ⟨p, x, t, rfl, hx, t0, l, h0, q⟩ := h
    refine ⟨.ref p, rfl, p, 3, rfl, by decide, by decide, l, h0, fun v H1 v0 v1 h1 b1 => ?_⟩
    have n1 := (Hn.refl h0).go h1 b1
    refine ⟨.ref p, rfl, _, rfl, by show 3 ≤ sizeLine; decide, fun A nA => ?_⟩
    have kA := Same.new (o := .lst [.int 1, .int (-1), .int 2]) nA
    refine ⟨p, A, [.int 1, .int (-1), .int 2], rfl, sq_of upd_same, (h1.ne nA).1, by decide, by decide, l, h1.same kA, fun m H2 hm h2 b2 => ?_⟩
    have n2 := (n1.same kA).go h2 b2
    obtain ⟨m, rfl⟩ : ∃ i : Int, m = .int i := by
      rcases List.mem_cons.mp hm with e | hm
      · exact ⟨_, e⟩
      rcases List.mem_cons.mp hm with e | hm
      · exact ⟨_, e⟩
      exact ⟨_, List.mem_singleton.mp hm⟩
    have hx := hx.but h0 n2.but
    clear h1 b1 n1 kA b2 hm nA
    obtain ⟨c, rfl, hc⟩ := hx
    obtain ⟨w, ew⟩ := atI_int (xs := [((t.1 : Nat) : Int), ((t.2.1 : Nat) : Int), ((t.2.2 : Nat) : Int)]) v0 v1
    have ew : atI [V.int ((t.1 : Nat) : Int), V.int ((t.2.1 : Nat) : Int), V.int ((t.2.2 : Nat) : Int)] v = some (.int w) := ew
    refine ⟨_, _, rfl, ?_⟩
    dsimp only [tSeq, tAsg, gName]
    refine ⟨.ref c, rfl, .int v, rfl, v, rfl, c, _, rfl, hc, fun a1 H3 k3 e1 => ?_⟩
    have hc3 := k3 _ _ hc
    refine ⟨.ref c, rfl, .int v, rfl, c, _, v, .int w, rfl, rfl, SqT.of hc3, ew, .int m, rfl, _, _, rfl, rfl, by show 1 ≤ sizeLine; decide, fun a2 x2 => ?_⟩
    have k4 := Same.new (o := .tup [.int (w + m)]) x2
    have e2 : upd H3 a2 (.tup [.int (w + m)]) a2 = some (.tup [.int (w + m)]) := upd_same
    have e1 := k4 _ _ e1
    have hc4 := k4 _ _ hc3
    have k34 := k3.trans k4
    revert k4 e2 e1 hc4 k34
    generalize upd H3 a2 (.tup [.int (w + m)]) = H4
    intro k4 e2 e1 hc4 k34
    refine ⟨a1, a2, _, _, rfl, rfl, e1, e2, ?_, fun a3 H5 k5 e3 => ?_⟩
    · have := (cutV_set (xs := [V.int ((t.1 : Nat) : Int), V.int ((t.2.1 : Nat) : Int), V.int ((t.2.2 : Nat) : Int)]) (z := .int (w + m)) v0 v1)
      have := congrArg List.length this
      rw [List.length_append, List.length_append, List.length_set] at this
      simp only [List.length_cons, List.length_nil] at this ⊢
      omega
    have hc5 := k5 _ _ hc4
    refine ⟨.ref c, rfl, .int v, rfl, _, _, rfl, rfl, _, rfl, c, _, rfl, hc5, fun a4 H6 k6 e4 => ?_⟩
    have hc6 := k6 _ _ hc5
    have e3 := k6 _ _ e3
    refine ⟨a3, a4, _, _, rfl, rfl, e3, e4, ?_, fun a5 H7 k7 e5 => ?_⟩
    · have := (cutV_set (xs := [V.int ((t.1 : Nat) : Int), V.int ((t.2.1 : Nat) : Int), V.int ((t.2.2 : Nat) : Int)]) (z := .int (w + m)) v0 v1)
      have := congrArg List.length this
      rw [List.length_append, List.length_set] at this
      simp only [List.length_cons, List.length_nil] at this ⊢
      omega
    rw [cutV_set (xs := [V.int ((t.1 : Nat) : Int), V.int ((t.2.1 : Nat) : Int), V.int ((t.2.2 : Nat) : Int)]) v0 v1] at e5
    have hc7 := k7 _ _ hc6
    have n7 := n2.same ((k34.trans k5).trans (k6.trans k7))
    have O5 : ∃ o, OddAt H7 (.ref a5) o := by
      refine ⟨_, .flat (ds := (([((t.1 : Nat) : Int), ((t.2.1 : Nat) : Int), ((t.2.2 : Nat) : Int)]).set v.toNat (w + m)).map PyData.int) e5 (by rw [List.length_set]; show 3 ≤ 4; decide) ?_⟩
      have : ([V.int ((t.1 : Nat) : Int), V.int ((t.2.1 : Nat) : Int), V.int ((t.2.2 : Nat) : Int)]).set v.toNat (.int (w + m)) = (([((t.1 : Nat) : Int), ((t.2.1 : Nat) : Int), ((t.2.2 : Nat) : Int)]).set v.toNat (w + m)).map V.int := by
        rw [List.map_set]
        rfl
      rw [this]
      exact fps_ints _
    clear e1 e2 e3 e4 e5 k34 k5 k6 k7 k3 hc3 hc4 hc5 hc6 hc x2 k4
    obtain ⟨o5, O5⟩ := O5
    refine ⟨.ref c, rfl, c, _, rfl, .inr (SqT.of hc7), fun L1 y1 => ?_⟩
    have k8 := Same.new (o := .lst [.int ((t.1 : Nat) : Int), .int ((t.2.1 : Nat) : Int), .int ((t.2.2 : Nat) : Int)]) y1
    have e8 : upd H7 L1 (.lst [.int ((t.1 : Nat) : Int), .int ((t.2.1 : Nat) : Int), .int ((t.2.2 : Nat) : Int)]) L1 = some (.lst [.int ((t.1 : Nat) : Int), .int ((t.2.1 : Nat) : Int), .int ((t.2.2 : Nat) : Int)]) := upd_same
    revert k8 e8
    generalize upd H7 L1 (.lst [.int ((t.1 : Nat) : Int), .int ((t.2.1 : Nat) : Int), .int ((t.2.2 : Nat) : Int)]) = H8
    intro k8 e8
    have hc8 := k8 _ _ hc7
    refine ⟨.ref c, rfl, _, rfl, c, _, rfl, hc8, fun b1 H9 k9 f1 => ?_⟩
    have hc9 := k9 _ _ hc8
    refine ⟨.ref c, rfl, by show 1 ≤ sizeLine; decide, fun b2 y2 => ?_⟩
    have kA := Same.new (o := .tup [.int 0]) y2
    refine ⟨c, b2, _, _, rfl, rfl, kA _ _ hc9, upd_same, by show 4 ≤ 1000; decide, fun b3 HB kB f3 => ?_⟩
    have kB := kA.trans kB
    have hcB := kB _ _ hc9
    refine ⟨by show 1 ≤ sizeLine; decide, fun b4 y4 => ?_⟩
    have kC := Same.new (o := .tup [.bl true]) y4
    have f4 : upd HB b4 (.tup [.bl true]) b4 = some (.tup [.bl true]) := upd_same
    revert kC f4
    generalize upd HB b4 (.tup [.bl true]) = HC
    intro kC f4
    refine ⟨.ref c, rfl, _, rfl, c, _, rfl, kC _ _ hcB, fun b5 HD kD f5 => ?_⟩
    refine ⟨b4, b5, _, _, rfl, rfl, kD _ _ f4, f5, by show 3 ≤ 1000; decide, fun b6 HE kE f6 => ?_⟩
    have kBE := kC.trans (kD.trans kE)
    have k9E := kB.trans kBE
    have k8E := k9.trans k9E
    have O1 : AllO HE [.ref a5, .ref L1, .ref b1, .ref b3, .ref b6, .non] := .cons (O5.same (k8.trans k8E)) (.cons (.no (.lst (k8E _ _ e8)) (fun e => by cases e) (fun z e => by cases e)) (.cons (.flat (ds := [.int ((t.1 : Nat) : Int), .int ((t.2.1 : Nat) : Int)]) (k9E _ _ f1) (by show 2 ≤ 4; decide) (.cons (.int _) (.cons (.int _) .nil))) (.cons (.flat (ds := [.int ((t.1 : Nat) : Int), .int ((t.2.1 : Nat) : Int), .int ((t.2.2 : Nat) : Int), .int 0]) (kBE _ _ f3) (by show 4 ≤ 4; decide) (.cons (.int _) (.cons (.int _) (.cons (.int _) (.cons (.int _) .nil))))) (.cons (.flat (ds := [.bool true, .int ((t.2.1 : Nat) : Int), .int ((t.2.2 : Nat) : Int)]) f6 (by show 3 ≤ 4; decide) (.cons (.bl _) (.cons (.int _) (.cons (.int _) .nil)))) (.cons (.no .non (fun e => by cases e) (fun z e => by cases e)) .nil)))))
    have hcE := kBE _ _ hcB
    have nE := n7.same (k8.trans k8E)
    clear O5 e8 k8 f1 k9 hc8 hc9 y1 y2 kA f3 kB hcB y4 kC f4 kD f5 kE f6 kBE k9E k8E n7 hc7
    refine ⟨by show 6 ≤ sizeLine; decide, fun L2 y5 => ?_⟩
    have kF := Same.new (o := .lst [.ref a5, .ref L1, .ref b1, .ref b3, .ref b6, .non]) y5
    have fL : upd HE L2 (.lst [.ref a5, .ref L1, .ref b1, .ref b3, .ref b6, .non]) L2 = some (.lst [.ref a5, .ref L1, .ref b1, .ref b3, .ref b6, .non]) := upd_same
    have O1 := O1.same kF
    have hcF := kF _ _ hcE
    have nF := nE.same kF
    revert kF fL O1 hcF nF
    generalize upd HE L2 (.lst [.ref a5, .ref L1, .ref b1, .ref b3, .ref b6, .non]) = HF
    intro kF fL O1 hcF nF
    clear nE hcE y5
    refine ⟨.ref p, rfl, .ref L2, rfl, .ref c, rfl, c, _, _, .int (t.1 : Nat), rfl, rfl, SqT.of hcF, rfl, ?_⟩
    obtain ⟨g1, g2⟩ := num_ok t.1 t0
    refine ⟨((t.1 : Nat) : Int), rfl, ?_, by show 1 ≤ sizeLine; decide, fun d1 z1 => ?_⟩
    · rw [Int.natAbs_natCast]
      by_cases e0 : t.1 = 0
      · rw [e0]
        decide
      · refine (Nat.log2_lt e0).mpr (Nat.lt_of_lt_of_le (show t.1 < 2 ^ 40 from ?_) (Nat.pow_le_pow_right (by decide) (by decide)))
        have : (2 : Nat) ^ 40 = 1099511627776 := by decide
        omega
    have kG := Same.new (o := .tup [.str ((toString ((t.1 : Nat) : Int) : String) : Str)]) z1
    have fG : upd HF d1 (.tup [.str ((toString ((t.1 : Nat) : Int) : String) : Str)]) d1 = some (.tup [.str ((toString ((t.1 : Nat) : Int) : String) : Str)]) := upd_same
    revert kG fG g1 g2
    generalize upd HF d1 (.tup [.str ((toString ((t.1 : Nat) : Int) : String) : Str)]) = HG
    generalize ((toString ((t.1 : Nat) : Int) : String) : Str) = sz
    intro g1 g2 kG fG
    refine ⟨.ref c, rfl, _, rfl, c, _, rfl, kG _ _ hcF, fun d2 HH kH e2 => ?_⟩
    refine ⟨d1, d2, _, _, rfl, rfl, kH _ _ fG, e2, by show 3 ≤ 1000; decide, fun d3 HI kI e3 => ?_⟩
    have kFI := kG.trans (kH.trans kI)
    have hcI := kFI _ _ hcF
    refine ⟨.ref c, rfl, by show 1 ≤ sizeLine; decide, fun d4 z4 => ?_⟩
    have kJ := Same.new (o := .tup [.ref c]) z4
    have fJ : upd HI d4 (.tup [.ref c]) d4 = some (.tup [.ref c]) := upd_same
    revert kJ fJ
    generalize upd HI d4 (.tup [.ref c]) = HJ
    intro kJ fJ
    refine ⟨9, rfl, by decide, by decide, fun x HK nest kK => ?_⟩
    have kIK := kJ.trans kK
    have nK := nF.same (kFI.trans kIK)
    have OX : ∃ o, OddAt HK x o := by
      have nest : Nest HK (8 + 1) x := nest
      cases nest with
      | succ e h =>
        obtain ⟨d, hd⟩ := h.nt
        exact ⟨_, .nest e hd (by decide)⟩
    obtain ⟨oX, OX⟩ := OX
    have O2 : AllO HK [.ref d3, .ref d4, x] := .cons (.flat (ds := [.str sz, .int ((t.2.1 : Nat) : Int), .int ((t.2.2 : Nat) : Int)]) (kIK _ _ e3) (by show 3 ≤ 4; decide) (.cons (.str _ g1 g2) (.cons (.int _) (.cons (.int _) .nil)))) (.cons (.nest (kK _ _ fJ) (.tr (t := t) ⟨c, rfl, kIK _ _ hcI⟩) (by decide)) (.cons OX .nil))
    refine ⟨by show 3 ≤ sizeLine; decide, fun L3 z5 => ?_⟩
    have kL := Same.new (o := .lst [.ref d3, .ref d4, x]) z5
    refine ⟨L2, L3, _, _, rfl, rfl, kL _ _ ((kFI.trans kIK) _ _ fL), upd_same, by show 9 ≤ sizeLine; decide, fun L4 z6 => ?_⟩
    have kM := kL.trans (Same.new (o := .lst ([.ref a5, .ref L1, .ref b1, .ref b3, .ref b6, .non] ++ [.ref d3, .ref d4, x])) z6)
    have O3 := (O1.same ((kFI.trans kIK).trans kM)).app (O2.same kM)
    have nM := nK.same kM
    have L4p : L4 ≠ p := ((nK.same kL).at_.ne z6).1
    refine ⟨p, L4, _, rfl, sq_of upd_same, L4p, by show 0 < 9; decide, by show 9 < 1000000; decide, l, nM.at_, fun y H' my h' b' => ?_⟩
    obtain ⟨o, oy⟩ := O3 y my
    exact q y o H' (oy.but nM.at_ h' b') (nM.go h' b')
end
end LawK
set_option maxHeartbeats 4000000
/-! Where a text stands in another within bounds; a text so many times. -/
namespace Ev
open PySem PySem.Spec PyProof.Rows L2 PySem.Builtin.Str
theorem occ_size {x y : Str} {hi lim : Nat} : ∀ (l : List Nat) (a : Array Nat) (k : Nat), 0 < a.size → 0 < ((forIn (m := Id) l (a, k) (StrLaws.occBody x y hi lim)).run.fst).size := by
  intro l
  induction l with
  | nil => intro a k h; exact h
  | cons i r ih =>
    intro a k h
    simp only [List.forIn_cons, StrLaws.occBody]
    split
    · exact ih _ _ (by rw [Array.size_push]; omega)
    · exact ih _ _ h
theorem occ_some {x y : Str} {lo hi i : Nat} (h0 : lo ≤ i) (h1 : i + y.length ≤ hi) (h2 : subAt x y i = true) : occurrences x y lo hi 1 ≠ [] := by
  rw [StrLaws.occ_eq]
  have hm : i ∈ List.range' lo (hi + 1 - lo) := by
    rw [List.mem_range'_1]
    omega
  have hlo : ∀ j ∈ List.range' lo (hi + 1 - lo), lo ≤ j := fun j hj => (List.mem_range'_1.mp hj).1
  revert hm hlo
  generalize List.range' lo (hi + 1 - lo) = l
  suffices H : ∀ (l : List Nat), i ∈ l → (∀ j ∈ l, lo ≤ j) → 0 < ((forIn (m := Id) l ((#[] : Array Nat), lo) (StrLaws.occBody x y hi 1)).run.fst).size by
    intro hm hlo e
    have := H l hm hlo
    rw [← Array.length_toList, e] at this
    exact absurd this (by simp)
  intro l
  induction l with
  | nil => intro h; cases h
  | cons j r ih =>
    intro hm hlo
    simp only [List.forIn_cons, StrLaws.occBody]
    split
    · exact occ_size r _ _ (by rw [Array.size_push]; omega)
    · rename_i hn
      refine ih ?_ (fun j hj => hlo j (List.mem_cons_of_mem _ hj))
      rcases List.mem_cons.mp hm with e | e
      · subst e
        exact absurd ⟨⟨⟨by decide, hlo i (List.mem_cons_self ..)⟩, h1⟩, h2⟩ hn
      · exact e
theorem subAt_iff {x y : Str} {k : Nat} : subAt x y k = true ↔ (x.cps.toList.drop k).take y.length = y.cps.toList := by
  unfold subAt
  rw [beq_iff_eq, ← Array.toList_inj, Array.toList_extract, List.extract_eq_take_drop]
  have : k + y.length - k = y.length := by omega
  rw [this]
/-- the place of y in x ahead of j, or -1 -/
theorem findIn_of {x y : Str} {j : Int} (h : 0 ≤ j) : (∃ k : Nat, Txt.findIn x y 0 j = (k : Int) ∧ (k : Int) + (y.length : Int) ≤ j ∧ (x.cps.toList.drop k).take y.length = y.cps.toList) ∨
    (Txt.findIn x y 0 j = -1 ∧ ∀ k : Nat, (k : Int) + (y.length : Int) ≤ j → k + y.length ≤ x.length → (x.cps.toList.drop k).take y.length ≠ y.cps.toList) := by
  unfold Txt.findIn
  have e0 : fromIndex x.length 0 = 0 := rfl
  have e1 : toIndexW x.length j = min j.toNat x.length := by
    unfold toIndexW
    rw [if_neg (by omega), Int.max_eq_right h]
  rw [e0, e1]
  cases e : occurrences x y 0 (min j.toNat x.length) 1 with
  | nil =>
    refine .inr ⟨rfl, fun k h1 h2 h3 => ?_⟩
    exact occ_some (Nat.zero_le k) (by omega) (subAt_iff.mpr h3) e
  | cons k r =>
    have := StrLaws.occ_spec x y 0 (min j.toNat x.length) 1 k (by rw [e]; exact List.mem_cons_self ..)
    exact .inl ⟨k, rfl, by omega, subAt_iff.mp this.2⟩
theorem fold_rep (x : Array Nat) : ∀ (n : Nat) (acc : Array Nat), ((List.replicate n x).foldl (· ++ ·) acc).toList = acc.toList ++ (List.replicate n x.toList).flatten
  | 0, acc => by simp
  | n + 1, acc => by
    rw [List.replicate_succ, List.foldl_cons, fold_rep x n, Array.toList_append, List.replicate_succ, List.flatten_cons, List.append_assoc]
theorem mul_list {z : Str} {n : Int} (h : 0 ≤ n) : (Txt.mul z n).cps.toList = (List.replicate n.toNat z.cps.toList).flatten := by
  unfold Txt.mul
  by_cases h1 : n < 1
  · rw [if_pos h1]
    have : n.toNat = 0 := by omega
    rw [this]
    rfl
  · rw [if_neg h1]
    split
    · rename_i hc
      rw [Bool.or_eq_true, beq_iff_eq, beq_iff_eq] at hc
      rcases hc with e | e
      · rw [e]
        show _ = (List.replicate 1 _).flatten
        simp
      · have en : z.cps.toList = [] := List.eq_nil_of_length_eq_zero (by rw [← len_S]; exact e)
        rw [en]
        generalize n.toNat = m
        clear h h1
        induction m with
        | zero => rfl
        | succ m ih => rw [List.replicate_succ, List.flatten_cons, List.nil_append]; exact ih
    · show ((List.replicate n.toNat z.cps).foldl (· ++ ·) #[]).toList = _
      rw [fold_rep]
      rfl
theorem rep_at {l : List Nat} (hl : 0 < l.length) : ∀ (n i : Nat), i < n * l.length → ((List.replicate n l).flatten)[i]? = l[i % l.length]?
  | 0, i, h => by omega
  | n + 1, i, h => by
    rw [List.replicate_succ, List.flatten_cons]
    by_cases c : i < l.length
    · rw [List.getElem?_append_left c, Nat.mod_eq_of_lt c]
    · rw [List.getElem?_append_right (by omega), rep_at hl n (i - l.length) (by rw [Nat.succ_mul] at h; omega)]
      have e : i % l.length = (i - l.length) % l.length := Nat.mod_eq_sub_mod (by omega)
      rw [e]
theorem rep_len {l : List Nat} : ∀ (n : Nat), ((List.replicate n l).flatten).length = n * l.length
  | 0 => by simp
  | n + 1 => by rw [List.replicate_succ, List.flatten_cons, List.length_append, rep_len n, Nat.succ_mul]; omega
/-- a text so many times -/
def rMulL : R2 := fun x y H Q => ∃ (z : Str) (n : Int), x = .str z ∧ y = .int n ∧ 0 ≤ n ∧ n ≤ 3000 ∧ z.length ≤ 5000 ∧ Q (.str (Txt.mul z n)) H
theorem op_mulL {X : Cx} : OpR X (binaryOp .Mult) rMulL := by
  intro pins s σ H x y v u Q I rx ry h
  obtain ⟨z, n, rfl, rfl, h0, h1, h2, q⟩ := h
  obtain ⟨t, rfl⟩ := rx
  obtain ⟨t', rfl⟩ := ry
  exact SB.mul (mulOk_of 5000 3000 h2 h1 (by omega) (by decide) (by decide)) fun t' k => ⟨.str _, H, I.tok _, ⟨_, rfl⟩, q⟩
end Ev
set_option maxHeartbeats 4000000
namespace LawK
open PySem PySem.Spec PyProof.Rows L2 Ev
theorem rep_at (ws : Sg) : ∀ (k i : Nat), i < k * ws.length → ((List.replicate k ws).flatten)[i]? = ws[i % ws.length]?
  | 0, i, h => by omega
  | k + 1, i, h => by
    rw [List.replicate_succ, List.flatten_cons]
    by_cases c : i < ws.length
    · rw [List.getElem?_append_left c, Nat.mod_eq_of_lt c]
    · have c : ws.length ≤ i := by omega
      rw [List.getElem?_append_right c, rep_at ws k (i - ws.length) (by rw [Nat.add_mul] at h; omega), Nat.mod_eq_sub_mod c]
structure Rep (x ws : Sg) : Prop where
  at_ : ∀ i, i < x.length → x[i]? = ws[i % ws.length]?
  nd : ws.Nodup
  w0 : 0 < ws.length
  two : 2 * ws.length ≤ x.length
section
variable {x ws : Sg}
theorem Rep.per (h : Rep x ws) : Per x 0 x.length ws.length := fun i h1 h2 => by
  rw [h.at_ i (by omega), h.at_ (i + ws.length) h2, Nat.add_mod_right]
theorem Rep.mul (h : Rep x ws) {a q : Nat} (l : a + q < x.length) (e : x[a]? = x[a + q]?) : q % ws.length = 0 := by
  have w0 := h.w0
  rw [h.at_ a (by omega), h.at_ (a + q) l] at e
  have l1 := Nat.mod_lt a w0
  have l2 := Nat.mod_lt (a + q) w0
  rw [List.getElem?_eq_getElem l1, List.getElem?_eq_getElem l2] at e
  have e := Option.some.inj e
  have pw := List.pairwise_iff_getElem.mp h.nd
  have e : a % ws.length = (a + q) % ws.length := by
    rcases Nat.lt_trichotomy (a % ws.length) ((a + q) % ws.length) with g | g | g
    · exact absurd e (pw _ _ l1 l2 g)
    · exact g
    · exact absurd e.symm (pw _ _ l2 l1 g)
  have := Nat.sub_mod_eq_zero_of_mod_eq e.symm
  rw [show a + q - a = q by omega] at this
  exact this
theorem Rep.least (h : Rep x ws) {a b p : Nat} (p0 : 0 < p) (pw : p < ws.length) (l : a + p < b) (bn : b ≤ x.length) : ¬ Per x a b p := fun k => by
  have := h.mul (a := a) (q := p) (by omega) (k a (Nat.le_refl _) l)
  rw [Nat.mod_eq_of_lt pw] at this
  omega
theorem Rep.run (h : Rep x ws) : Run x 0 x.length ws.length := by
  have two := h.two
  have w0 := h.w0
  exact ⟨⟨w0, Nat.le_refl _, by omega, h.per, .inl rfl, .inl rfl⟩, fun p p0 pw => h.least p0 pw (by omega) (Nat.le_refl _)⟩
theorem Rep.runs (h : Rep x ws) : Runs x [(0, x.length, ws.length)] := by
  refine ⟨fun t => ?_, List.pairwise_singleton _ _⟩
  rw [List.mem_singleton]
  constructor
  · rintro rfl
    exact h.run
  · intro r
    have q0 := r.1.q0
    have bn := r.1.bn
    have two := r.1.two
    have w0 := h.w0
    have e := h.mul (a := t.1) (q := t.2.2) (by omega) (r.1.pr t.1 (Nat.le_refl _) (by omega))
    have le : ws.length ≤ t.2.2 := Nat.le_of_dvd q0 (Nat.dvd_of_mod_eq_zero e)
    have eq : t.2.2 = ws.length := by
      rcases Nat.lt_or_ge ws.length t.2.2 with g | g
      · exact absurd (h.per.sub (Nat.zero_le _) bn) (r.2 _ w0 g)
      · omega
    have ea : t.1 = 0 := by
      rcases r.1.lf with y | y
      · exact y
      · rcases Nat.eq_zero_or_pos t.1 with z | z
        · exact z
        · rw [eq] at y
          exact absurd (h.per (t.1 - 1) (Nat.zero_le _) (by omega)) y
    have eb : t.2.1 = x.length := by
      rcases r.1.rt with y | y
      · exact y
      · rcases Nat.lt_or_ge t.2.1 x.length with z | z
        · rw [eq] at y two
          have := h.per (t.2.1 - ws.length) (Nat.zero_le _) (by omega)
          rw [show t.2.1 - ws.length + ws.length = t.2.1 by omega] at this
          exact absurd this y
        · omega
    exact Prod.ext ea (Prod.ext eb eq)
theorem Rep.none (h : Rep x ws) : ∀ i, i < ws.length → persN x i = []
  | 0, _ => rfl
  | i + 1, l => by
    have two := h.two
    rw [persN_n, h.none i (by omega)]
    intro c
    exact h.least (a := 0) (b := x.length) (Nat.succ_pos i) l (by omega) (Nat.le_refl _) ((perB_iff (Nat.le_refl _) (by omega)).mp c)
theorem Rep.head (h : Rep x ws) : ∀ i, ws.length ≤ i → ∃ L, persN x i = ws.length :: L := fun i l => by
  have two := h.two
  have w0 := h.w0
  induction i with
  | zero => omega
  | succ i ih =>
    rcases Nat.eq_or_lt_of_le l with e | g
    · have e : ws.length = i + 1 := e
      have pt : perB x 0 x.length (i + 1) = true := by
        rw [← e]
        exact (perB_iff (Nat.le_refl _) (by omega)).mpr h.per
      rw [persN_y pt, h.none i (by omega), ← e]
      exact ⟨[], rfl⟩
    · obtain ⟨L, eL⟩ := ih (by omega)
      by_cases c : perB x 0 x.length (i + 1) = true
      · exact ⟨L ++ [i + 1], by rw [persN_y c, eL]; rfl⟩
      · exact ⟨L, by rw [persN_n c, eL]⟩
theorem Rep.pers (h : Rep x ws) : (∃ L, pers x = ws.length :: L) ∧ ∃ L, pers x = L ++ [x.length] := by
  have two := h.two
  have w0 := h.w0
  refine ⟨h.head x.length (by omega), ?_⟩
  obtain ⟨m, em⟩ : ∃ m, x.length = m + 1 := ⟨x.length - 1, by omega⟩
  have pt : perB x 0 x.length (m + 1) = true := by
    rw [← em]
    exact (perB_iff (Nat.le_refl _) (by omega)).mpr fun i h1 h2 => by omega
  unfold LawK.pers
  rw [em, persN_y pt]
  exact ⟨_, rfl⟩
end
theorem cutV_one {v : V} {xs : List V} : cutV (v :: xs) none (some 1) = [v] := by
  have := cutV_to (xs := v :: xs) (i := 1) (by decide)
  rw [this]
  rfl
theorem sIx_last {n d : Nat} (h : 0 < n) : HT.sIx n d (some (-1)) = n - 1 := by
  show (if (-1 : Int) < 0 then ((-1 : Int) + (n : Int)).toNat else min (-1 : Int).toNat n) = n - 1
  rw [if_pos (by decide)]
  omega
theorem cutV_last {v : V} {xs : List V} : cutV (xs ++ [v]) (some (-1)) none = [v] := by
  have l : (xs ++ [v]).length = xs.length + 1 := by rw [List.length_append, List.length_singleton]
  show ((xs ++ [v]).drop (HT.sIx (xs ++ [v]).length 0 (some (-1)))).take (HT.sIx (xs ++ [v]).length (xs ++ [v]).length none - HT.sIx (xs ++ [v]).length 0 (some (-1))) = [v]
  rw [sIx_last (by omega), HT.sIx_none, l, show xs.length + 1 - 1 = xs.length by omega, List.drop_left, show xs.length + 1 - xs.length = 1 by omega]
  rfl
theorem bords_last {z : Str} {ws : Sg} (h : Rep (cd z) ws) : ∃ L, bords z = L ++ [cutS z none (some ((z.length - ws.length : Nat) : Int))] := by
  obtain ⟨⟨L, e⟩, _⟩ := h.pers
  have two := h.two
  have w0 := h.w0
  rw [cd_len] at two
  unfold bords
  rw [e, List.reverse_cons, List.filter_append, List.map_append]
  rw [List.filter_cons_of_pos (by exact decide_eq_true (by omega)), List.filter_nil]
  exact ⟨_, rfl⟩
theorem border_eq {z : Str} {ws : Sg} (h : Rep (cd z) ws) : cutS z none (some ((z.length - ws.length : Nat) : Int)) = cutS z (some ((ws.length : Nat) : Int)) none := by
  have two := h.two
  have lc := cd_len z
  apply cd_inj
  rw [cut_to, cut_from]
  have := (per_sl (x := cd z) (a := 0) (b := (cd z).length) (q := ws.length) (Nat.le_refl _) (by omega)).mpr h.per
  rw [Nat.zero_add, lc] at this
  exact this.symm
end LawK
set_option maxHeartbeats 4000000
namespace LawK
open PySem PySem.Spec PyProof.Rows L2 Ev

def spLGreat : Sp := fun vs H Q _ => ∃ (p : Addr), vs = [.ref p] ∧ ∃ l, HandL H p l ∧ ∀ H', Q (.bl true) H'
structure Wo (w : Str) : Prop where
  sg : sgB w = true
  nd : (cd w).Nodup
  w0 : 0 < w.length
  few : w.length ≤ 4
theorem words_ok {x : V} (h : x ∈ [V.str "a", .str "ab", .str "abc", .str "ba ", .str "wxyz"]) : ∃ w, x = .str w ∧ Wo w := by
  simp only [List.mem_cons, List.not_mem_nil, or_false] at h
  rcases h with e | e | e | e | e <;> exact ⟨_, e, by decide +kernel, by decide +kernel, by decide +kernel, by decide +kernel⟩
theorem rep_text {w : Str} (h : Wo w) {m : Nat} (l : 2 * w.length ≤ m) (l2 : m ≤ 2000) : (cutS (Txt.mul w 2000) none (some (m : Int))).length = m ∧ sgB (cutS (Txt.mul w 2000) none (some (m : Int))) = true ∧ Rep (cd (cutS (Txt.mul w 2000) none (some (m : Int)))) (cd w) := by
  have w0 := h.w0
  have ec : cd (cutS (Txt.mul w 2000) none (some (m : Int))) = ((List.replicate 2000 (cd w)).flatten).take m := by
    unfold cd
    rw [cutS_to (by omega), Ev.mul_list (by decide)]
    rfl
  have lf : ((List.replicate 2000 (cd w)).flatten).length = 2000 * w.length := by
    rw [List.length_flatten, List.map_replicate, List.sum_replicate_nat, cd_len]
  have ln : (cutS (Txt.mul w 2000) none (some (m : Int))).length = m := by
    rw [← cd_len, ec, List.length_take, lf]
    omega
  refine ⟨ln, sgB_cut ((mul_facts w 2000).2 h.sg) _ _, ⟨fun i hi => ?_, h.nd, by rw [cd_len]; exact w0, by rw [cd_len, cd_len, ln]; exact l⟩⟩
  rw [cd_len, ln] at hi
  rw [ec, List.getElem?_take, if_pos hi, rep_at _ _ _ (by rw [cd_len]; omega)]
theorem op_room {k : Nat} {A : Around} (r : Room k A) : A.units + 65 < cLine := by have := r.un; omega
theorem eqv_ints : ∀ is js : List Int, PyData.eqvAll (is.map PyData.int) (js.map PyData.int) = decide (is = js)
  | [], [] => by simp [PyData.eqvAll]
  | [], _ :: _ => by simp [PyData.eqvAll]
  | _ :: _, [] => by simp [PyData.eqvAll]
  | i :: is, j :: js => by
    simp only [List.map_cons, PyData.eqvAll, PyData.eqv, eqv_ints is js]
    by_cases h : i = j <;> by_cases k : is = js <;> simp [h, k]
theorem ints_shaped (is : List Int) : SeqAt.shaped (.tuple (is.map PyData.int)) = true := by
  obtain ⟨a, b⟩ := FPs.lay (fps_ints is)
  unfold SeqAt.shaped
  have c : (PyData.tuple (is.map PyData.int)).canLay0 = true := by simp only [PyData.canLay0]; exact a
  have d : (PyData.tuple (is.map PyData.int)).depth ≤ 64 := by simp only [PyData.depth]; omega
  rw [c, decide_eq_true d]
  rfl
section
variable {P : Program} {w : World} {K : PySem.W.Frag} {mg : Str → Option Value} {base : Heap}
abbrev sGreatRight : Stmt := topS 34
theorem scGreatRight : FnScope ["hand", "word", "many", "text", "told"] ["hand"] (defScope sGreatRight) := ⟨rfl, rfl, rfl, by decide +kernel, rfl, by decide +kernel, by decide +kernel⟩
theorem ok_GreatRight {f : Addr} {fd : FuncData} (F : Fun K "_law_great_right" "_law_great_right" sGreatRight f fd)  {fPPeriods : Addr} {fdPPeriods : FuncData} (DPPeriods : Dk P w K mg base "periods" sPPeriods ["text"] 3 spPeriods fPPeriods fdPPeriods) {fPBorders : Addr} {fdPBorders : FuncData} (DPBorders : Dk P w K mg base "borders" sPBorders ["text"] 3 spBorders fPBorders fdPBorders) {fPRuns : Addr} {fdPRuns : FuncData} (DPRuns : Dk P w K mg base "runs" sPRuns ["text"] 3 spRuns fPRuns fdPRuns) {fAny : Addr} {fdAny : FuncData} (DAny : Dk P w K mg base "_law_any" sAny ["hand", "some"] 2 (spAny K) fAny fdAny) (T : Glob mg) : FnOk P w K mg base CX0 4 f fd ["hand"] spLGreat := by
  refine F.ok scGreatRight (fun vs H Q E h => ?_) (fun cdv A outer s H vs Q E hr h => ?_)
  · obtain ⟨p, rfl, _⟩ := h
    rfl
  · refine ⟨_, (pss_cons (ps_set (i := 1) scGreatRight.nd rfl (.inl rfl) (pe_call DAny.ok (hr.mono (by decide)) (by rfl) DAny.g DAny.F.kp DAny.b .nil pass0 (pa_cons (pv 0) (pa_cons (pe_lst (pa_cons pe_str (pa_cons pe_str (pa_cons pe_str (pa_cons pe_str (pa_cons pe_str pa_nil)))))) pa_nil))))
      (pss_cons (ps_set (i := 2) scGreatRight.nd rfl (.inl rfl) (pe_call DAny.ok (hr.mono (by decide)) (by rfl) DAny.g DAny.F.kp DAny.b .nil pass0 (pa_cons (pv 0) (pa_cons (pe_lst (pa_cons (pe_op op_mul pe_int (pe_callB call_lenZ (by rfl) T.len PySem.boot_len (pa_cons (pv 1) pa_nil))) (pa_cons (pe_op op_add (pe_op op_mul pe_int (pe_callB call_lenZ (by rfl) T.len PySem.boot_len (pa_cons (pv 1) pa_nil))) pe_int) (pa_cons pe_int (pa_cons pe_int pa_nil))))) pa_nil))))
      (pss_cons (ps_set (i := 3) scGreatRight.nd rfl (.inl rfl) (pe_slice sl_str (pe_op op_mulS (pv 1) pe_int) po_none (po_some (pe_callB (call_max2 rfl) (by rfl) T.max (by decide +kernel) (pa_cons (pv 2) (pa_cons (pe_op op_mul pe_int (pe_callB call_lenZ (by rfl) T.len PySem.boot_len (pa_cons (pv 1) pa_nil))) pa_nil))))))
      (pss_cons (ps_if (pt_cmpR (op_neD hr.units) (pe_call DPRuns.ok (hr.mono (by decide)) (by rfl) DPRuns.g DPRuns.F.kp DPRuns.b .nil pass0 (pa_cons (pv 3) pa_nil)) (pe_lst (pa_cons (pe_tup (pa_cons pe_int (pa_cons (pe_callB call_lenZ (by rfl) T.len PySem.boot_len (pa_cons (pv 3) pa_nil)) (pa_cons (pe_callB call_lenZ (by rfl) T.len PySem.boot_len (pa_cons (pv 1) pa_nil)) pa_nil)))) pa_nil)) (nomark _))
      (pss_one (ps_ret pe_bl))
      pss_nil)
      (pss_cons (ps_set (i := 4) scGreatRight.nd rfl (.inl rfl) (pe_call DPPeriods.ok (hr.mono (by decide)) (by rfl) DPPeriods.g DPPeriods.F.kp DPPeriods.b .nil pass0 (pa_cons (pv 3) pa_nil)))
      (pss_one (ps_ret (pe_and (pe_cmpR (op_eqD hr.units) (pe_slice sl_tupM (pv 4) po_none (po_some pe_int)) (pe_tup (pa_cons (pe_callB call_lenZ (by rfl) T.len PySem.boot_len (pa_cons (pv 1) pa_nil)) pa_nil)) (nomark _)) (pe_and (pe_cmpR (op_eqD hr.units) (pe_slice sl_tupM (pv 4) (po_some (pe_un un_neg pe_int)) po_none) (pe_tup (pa_cons (pe_callB call_lenZ (by rfl) T.len PySem.boot_len (pa_cons (pv 3) pa_nil)) pa_nil)) (nomark _)) (pe_one (pe_cmpR (op_eqD hr.units) (pe_slice sl_list (pe_call DPBorders.ok (hr.mono (by decide)) (by rfl) DPBorders.g DPBorders.F.kp DPBorders.b .nil pass0 (pa_cons (pv 3) pa_nil)) (po_some (pe_un un_neg pe_int)) po_none) (pe_lst (pa_cons (pe_slice sl_str (pv 3) (po_some (pe_callB call_lenZ (by rfl) T.len PySem.boot_len (pa_cons (pv 1) pa_nil))) po_none) pa_nil)) (nomark _)))))))))))), ?_⟩
    obtain ⟨p, rfl, l, h0, q⟩ := h
    refine ⟨.ref p, rfl, by show 5 ≤ sizeLine; decide, fun A nA => ?_⟩
    have kA := Same.new (o := .lst [.str "a", .str "ab", .str "abc", .str "ba ", .str "wxyz"]) nA
    refine ⟨p, A, _, rfl, sq_of upd_same, (h0.ne nA).1, by decide, by decide, l, h0.same kA, fun x H1 hx h1 b1 => ?_⟩
    obtain ⟨w, rfl, hw⟩ := words_ok hx
    have w0 := hw.w0
    have w4 := hw.few
    clear hx kA nA b1 h0
    refine ⟨.ref p, rfl, .str w, rfl, w, rfl, len6 w4, _, _, rfl, rfl, .inl ⟨by decide, by decide⟩, .str w, rfl, w, rfl, len6 w4, _, _, rfl, rfl, .inl ⟨by decide, by decide⟩, _, _, rfl, rfl, by show 4 ≤ sizeLine; decide, fun A nA => ?_⟩
    have kA := Same.new (o := .lst [.int (2 * ((w.length : Nat) : Int)), .int (3 * ((w.length : Nat) : Int) + 1), .int 97, .int 2000]) nA
    refine ⟨p, A, _, rfl, sq_of upd_same, (h1.ne nA).1, by show 0 < 4; decide, by show 4 < 1000000; decide, l, h1.same kA, fun x H2 hx h2 b2 => ?_⟩
    obtain ⟨m, rfl, m2000⟩ : ∃ m : Nat, x = .int (m : Nat) ∧ m ≤ 2000 := by
      simp only [List.mem_cons, List.not_mem_nil, or_false] at hx
      rcases hx with e | e | e | e
      · exact ⟨2 * w.length, by rw [e]; congr 1, by omega⟩
      · exact ⟨3 * w.length + 1, by rw [e]; congr 1, by omega⟩
      · exact ⟨97, e, by decide⟩
      · exact ⟨2000, e, by decide⟩
    clear hx kA nA b2 h1
    have lm := (mul_facts w 2000).1
    have lm : (Txt.mul w 2000).length ≤ sizeLine := by
      have h2 : w.length * (2000 : Int).toNat = w.length * 2000 := rfl
      rw [h2] at lm
      rw [sizeLine_eq]
      omega
    refine ⟨.str w, rfl, w, _, rfl, rfl, by decide, by decide, by omega, ?_⟩
    refine ⟨.int (m : Nat), rfl, .str w, rfl, w, rfl, len6 w4, _, _, rfl, rfl, .inl ⟨by decide, by decide⟩, _, _, rfl, _, rfl, _, rfl, lm, ?_⟩
    obtain ⟨M, eM, M1, M2⟩ : ∃ M : Nat, (if 2 * ((w.length : Nat) : Int) > ((m : Nat) : Int) then 2 * ((w.length : Nat) : Int) else ((m : Nat) : Int)) = (M : Int) ∧ 2 * w.length ≤ M ∧ M ≤ 2000 := by
      by_cases c : 2 * ((w.length : Nat) : Int) > ((m : Nat) : Int)
      · rw [if_pos c]
        exact ⟨2 * w.length, by omega, Nat.le_refl _, by omega⟩
      · rw [if_neg c]
        exact ⟨m, rfl, by omega, m2000⟩
    rw [eM]
    obtain ⟨ly, sy, rep⟩ := rep_text hw M1 M2
    generalize cutS (Txt.mul w 2000) none (some (M : Int)) = y at ly sy rep ⊢
    have lwc : (cd w).length = w.length := cd_len w
    have lyc : (cd y).length = M := by rw [cd_len, ly]
    have ly2 : y.length ≤ 2000 := by omega
    clear eM M1 lm m2000
    refine ⟨.str y, rfl, y, rfl, sy, ly2, fun D us rs H3 hD hus rn k3 => ?_⟩
    have ers := rn.one rep.runs
    rw [lyc, lwc] at ers
    subst ers
    obtain ⟨u, rfl, hu⟩ : ∃ u, us = [u] ∧ TrAt H3 u (0, M, w.length) := by
      cases hus with
      | cons h t =>
        cases t
        exact ⟨_, rfl, h⟩
    refine ⟨.str y, rfl, y, rfl, len6 ly2, .str w, rfl, w, rfl, len6 w4, by show 3 ≤ sizeLine; decide, fun c nc => ?_⟩
    have kc := Same.new (o := .tup [.int 0, .int (y.length : Nat), .int (w.length : Nat)]) nc
    have hc : upd H3 c (.tup [.int 0, .int (y.length : Nat), .int (w.length : Nat)]) c = some (.tup [.int 0, .int (y.length : Nat), .int (w.length : Nat)]) := upd_same
    revert kc hc
    generalize upd H3 c (.tup [.int 0, .int (y.length : Nat), .int (w.length : Nat)]) = H4
    intro kc hc
    refine ⟨by show 1 ≤ sizeLine; decide, fun E nE => ?_⟩
    have kE := Same.new (o := .lst [.ref c]) nE
    have hE : upd H4 E (.lst [.ref c]) E = some (.lst [.ref c]) := upd_same
    revert kE hE
    generalize upd H4 E (.lst [.ref c]) = H5
    intro kE hE
    have tc : TrAt H5 (.ref c) (0, M, w.length) := ⟨c, rfl, by rw [kE _ _ hc, ly]; rfl⟩
    have eD : PyData.eqv (.list [encT (0, M, w.length)]) (.list [encT (0, M, w.length)]) = true := by
      unfold encT
      simp [PyData.eqv, PyData.eqvAll]
    have shD : SeqAt.shaped (.list [encT (0, M, w.length)]) = true := by
      unfold encT SeqAt.shaped
      simp [PyData.canLay0, PyData.canLayAll0, PyData.depth, PyData.depthAll]
    refine ⟨.list [encT (0, M, w.length)], .list [encT (0, M, w.length)], .lst (sq_of ((kc.trans kE) _ _ hD)) (.cons (encT_dp (hu.same (kc.trans kE))) .nil), .lst (sq_of hE) (.cons (encT_dp tc) .nil), shD, shD, _, rfl, ?_⟩
    rw [eD]
    refine iteF ?_
    dsimp only [tNext, tDrop]
    clear eD shD tc hE hc hD hu rn
    obtain ⟨⟨L1, p1⟩, ⟨L2, p2⟩⟩ := rep.pers
    obtain ⟨L3, p3⟩ := bords_last rep
    have p4 := border_eq rep
    rw [lwc] at p1 p3 p4
    rw [lyc] at p2
    refine ⟨.str y, rfl, y, rfl, sy, ly2, fun t H6 ht k6 => ?_⟩
    refine ⟨.ref t, rfl, _, rfl, t, _, rfl, ht, fun a H7 k7 ea => ?_⟩
    rw [p1, List.map_cons, cutV_one] at ea
    refine ⟨.str w, rfl, w, rfl, len6 w4, by show 1 ≤ sizeLine; decide, fun b nb => ?_⟩
    have k8 := Same.new (o := .tup [.int (w.length : Nat)]) nb
    have e1 : ∀ i : Int, PyData.eqv (.tuple [.int i]) (.tuple [.int i]) = true := fun i => by simp [PyData.eqv, PyData.eqvAll]
    have s1 : ∀ i : Int, SeqAt.shaped (.tuple [.int i]) = true := fun i => ints_shaped [i]
    refine ⟨.tuple [.int (w.length : Nat)], .tuple [.int (w.length : Nat)], .tup (SqT.of (k8 _ _ ea)) (.cons (.int _) .nil), .tup (SqT.of upd_same) (.cons (.int _) .nil), s1 _, s1 _, _, rfl, ?_⟩
    rw [e1]
    refine iteT ?_
    have ht8 := k8 _ _ (k7 _ _ ht)
    revert ht8 k8
    generalize upd H7 b (.tup [.int (w.length : Nat)]) = H8
    intro k8 ht8
    refine ⟨.ref t, rfl, _, rfl, _, rfl, t, _, rfl, ht8, fun a2 H9 k9 ea2 => ?_⟩
    rw [p2, List.map_append, List.map_cons, List.map_nil, cutV_last] at ea2
    refine ⟨.str y, rfl, y, rfl, len6 ly2, by show 1 ≤ sizeLine; decide, fun b2 nb2 => ?_⟩
    have k10 := Same.new (o := .tup [.int (y.length : Nat)]) nb2
    refine ⟨.tuple [.int (M : Nat)], .tuple [.int (y.length : Nat)], .tup (SqT.of (k10 _ _ ea2)) (.cons (.int _) .nil), .tup (SqT.of upd_same) (.cons (.int _) .nil), s1 _, s1 _, _, rfl, ?_⟩
    rw [ly, e1]
    refine iteT ?_
    refine ⟨.str y, rfl, y, rfl, sy, ly2, fun D H11 hD k11 => ?_⟩
    refine ⟨_, rfl, _, rfl, D, _, rfl, sq_of hD, fun G nG => ?_⟩
    rw [p3, List.map_append, List.map_cons, List.map_nil, cutV_last, p4]
    have kG := Same.new (o := .lst [.str (cutS y (some ((w.length : Nat) : Int)) none)]) nG
    have hG : upd H11 G (.lst [.str (cutS y (some ((w.length : Nat) : Int)) none)]) G = some (.lst [.str (cutS y (some ((w.length : Nat) : Int)) none)]) := upd_same
    refine ⟨.str y, rfl, .str w, rfl, w, rfl, len6 w4, _, rfl, y, rfl, len6 ly2, by show 1 ≤ sizeLine; decide, fun G2 nG2 => ?_⟩
    have kG2 := Same.new (o := .lst [.str (cutS y (some ((w.length : Nat) : Int)) none)]) nG2
    have e2 : ∀ z : Str, PyData.eqv (.list [.str z]) (.list [.str z]) = true := fun z => by simp [PyData.eqv, PyData.eqvAll]
    have s2 : SeqAt.shaped (.list [.str (cutS y (some ((w.length : Nat) : Int)) none)]) = true := by
      have := strOk_sg (sgB_cut sy (some ((w.length : Nat) : Int)) none)
      unfold SeqAt.shaped
      simp [PyData.canLay0, PyData.canLayAll0, PyData.depth, PyData.depthAll, this]
    refine ⟨.list [.str (cutS y (some ((w.length : Nat) : Int)) none)], .list [.str (cutS y (some ((w.length : Nat) : Int)) none)], .lst (sq_of (kG2 _ _ hG)) (.cons (.str _) .nil), .lst (sq_of upd_same) (.cons (.str _) .nil), s2, s2, ?_⟩
    rw [e2]
    exact q _
end
end LawK
set_option maxHeartbeats 4000000
namespace LawK
open PySem PySem.Spec PyProof.Rows L2 Ev
theorem take_lt : ∀ (x : Sg) (a b : Nat), a < b → a < x.length → x.take a < x.take b
  | [], _, _, _, h => by cases h
  | c :: x, 0, 0, h, _ => by omega
  | c :: x, 0, b + 1, _, _ => List.nil_lt_cons c (x.take b)
  | c :: x, a + 1, 0, h, _ => by omega
  | c :: x, a + 1, b + 1, h, l => List.cons_lt_cons_iff.mpr (.inr ⟨rfl, take_lt x a b (by omega) (by rw [List.length_cons] at l; omega)⟩)
theorem persN_asc (x : Sg) (i : Nat) : (persN x i).Pairwise (· < ·) := by
  unfold persN
  refine List.Pairwise.filter _ ?_
  rw [List.pairwise_map]
  exact List.pairwise_lt_range.imp fun h => by omega
theorem persN_mem {x : Sg} {i q : Nat} : q ∈ persN x i ↔ (0 < q ∧ q ≤ i) ∧ perB x 0 x.length q = true := by
  unfold persN
  rw [List.mem_filter, List.mem_map]
  constructor
  · rintro ⟨⟨j, hj, rfl⟩, h⟩
    have := List.mem_range.mp hj
    exact ⟨by omega, h⟩
  · rintro ⟨h, k⟩
    exact ⟨⟨q - 1, List.mem_range.mpr (by omega), by omega⟩, k⟩
theorem cut_lt {z : Str} {a b : Nat} (h : a < b) (l : b ≤ z.length) : ltC (cutS z none (some (a : Int))) (cutS z none (some (b : Int))) := by
  have e : ∀ m : Nat, (cutS z none (some (m : Int))).cps.toList = (cd z).take m := fun m => by
    have := @cut_to z m
    unfold sl at this
    rw [List.drop_zero] at this
    exact this
  show (cutS z none (some (a : Int))).cps.toList < (cutS z none (some (b : Int))).cps.toList
  rw [e, e]
  exact take_lt _ _ _ h (by rw [cd_len]; omega)
theorem bords_asc (z : Str) : (bords z).Pairwise ltC := by
  have asc := persN_asc (cd z) (cd z).length
  unfold bords
  rw [List.pairwise_map]
  have h1 : ((pers (cd z)).reverse).Pairwise (fun a b => b < a) := by
    rw [List.pairwise_reverse]
    exact asc
  have h2 := h1.filter (fun q => decide (q < z.length))
  have mem : ∀ q ∈ ((pers (cd z)).reverse.filter fun q => decide (q < z.length)), 0 < q ∧ q < z.length := fun q hq => by
    obtain ⟨m1, m2⟩ := List.mem_filter.mp hq
    have := persN_mem.mp (List.mem_reverse.mp m1)
    exact ⟨this.1.1, of_decide_eq_true m2⟩
  exact (List.Pairwise.and_mem.mp h2).imp fun {a b} h => cut_lt (by have := mem a h.1; have := mem b h.2.1; have := h.2.2; omega) (by omega)
/-- the law's borders, unsorted -/
def lb (z : Str) (i : Nat) : List Str := (((List.range i).map (· + 1)).filter fun m => perB (cd z) 0 (cd z).length (z.length - m)).map fun m : Nat => cutS z none (some ((m : Nat) : Int))
theorem lb_y {z : Str} {i : Nat} (h : perB (cd z) 0 (cd z).length (z.length - (i + 1)) = true) : lb z (i + 1) = lb z i ++ [cutS z none (some ((i + 1 : Nat) : Int))] := by
  unfold lb
  rw [List.range_succ, List.map_append, List.filter_append, List.map_append, List.map_cons, List.map_nil, List.filter_cons_of_pos (p := fun m => perB (cd z) 0 (cd z).length (z.length - m)) h]
  rfl
theorem lb_n {z : Str} {i : Nat} (h : ¬ perB (cd z) 0 (cd z).length (z.length - (i + 1)) = true) : lb z (i + 1) = lb z i := by
  unfold lb
  rw [List.range_succ, List.map_append, List.filter_append, List.map_cons, List.map_nil, List.filter_cons_of_neg (p := fun m => perB (cd z) 0 (cd z).length (z.length - m)) h, List.filter_nil, List.append_nil]
theorem lb_mem {z w : Str} : w ∈ lb z (z.length - 1) ↔ w ∈ bords z := by
  have lc := cd_len z
  unfold lb bords
  rw [List.mem_map, List.mem_map]
  constructor
  · rintro ⟨m, hm, rfl⟩
    obtain ⟨m1, m2⟩ := List.mem_filter.mp hm
    obtain ⟨j, hj, rfl⟩ := List.mem_map.mp m1
    have hj := List.mem_range.mp hj
    refine ⟨z.length - (j + 1), List.mem_filter.mpr ⟨List.mem_reverse.mpr (persN_mem.mpr ⟨⟨by omega, by omega⟩, m2⟩), decide_eq_true (by omega)⟩, ?_⟩
    rw [show z.length - (z.length - (j + 1)) = j + 1 by omega]
  · rintro ⟨q, hq, rfl⟩
    obtain ⟨m1, m2⟩ := List.mem_filter.mp hq
    obtain ⟨h1, h2⟩ := persN_mem.mp (List.mem_reverse.mp m1)
    have m2 := of_decide_eq_true m2
    refine ⟨z.length - q, List.mem_filter.mpr ⟨List.mem_map.mpr ⟨z.length - q - 1, List.mem_range.mpr (by omega), by omega⟩, ?_⟩, rfl⟩
    rw [show z.length - (z.length - q) = q by omega]
    exact h2
theorem lb_nodup (z : Str) : (lb z (z.length - 1)).Nodup := by
  have asc : (((List.range (z.length - 1)).map (· + 1)).filter fun m => perB (cd z) 0 (cd z).length (z.length - m)).Pairwise (· < ·) := by
    refine List.Pairwise.filter _ ?_
    rw [List.pairwise_map]
    exact List.pairwise_lt_range.imp fun h => by omega
  unfold lb
  refine List.pairwise_map.mpr ((List.Pairwise.and_mem.mp asc).imp fun {a b} h e => ?_)
  have hb : b ≤ z.length := by
    obtain ⟨m1, _⟩ := List.mem_filter.mp h.2.1
    obtain ⟨j, hj, rfl⟩ := List.mem_map.mp m1
    have := List.mem_range.mp hj
    omega
  have := cut_lt h.2.2 hb
  rw [e] at this
  exact List.lt_irrefl _ this
theorem lb_sorted {z : Str} {zs : List Str} (p : zs.Perm (lb z (z.length - 1))) (h : zs.Pairwise (fun x y => ¬ ltC y x)) : zs = bords z := by
  have nd2 : zs.Nodup := p.nodup_iff.mpr (lb_nodup z)
  have a1 : zs.Pairwise ltC := (h.and nd2).imp fun {x y} w => ltC_str w.1 w.2
  exact asc_eq (R := ltC) (fun a => List.lt_irrefl _) (fun a b k l => List.lt_irrefl _ (List.lt_trans k l)) a1 (bords_asc z) fun w => p.mem_iff.trans lb_mem
theorem cut_tail {z : Str} {m : Nat} (h0 : 0 < m) (h : m ≤ z.length) : cd (cutS z (some (-(m : Int))) none) = sl (cd z) (z.length - m) z.length := by
  have lc := cd_len z
  have e : HT.sIx z.length 0 (some (-(m : Int))) = z.length - m := by
    show (if (-(m : Int)) < 0 then ((-(m : Int)) + ((z.length : Nat) : Int)).toNat else min (-(m : Int)).toNat z.length) = z.length - m
    rw [if_pos (by omega)]
    omega
  show ((z.cps.toList.drop (HT.sIx z.length 0 (some (-(m : Int))))).take (HT.sIx z.length z.length none - HT.sIx z.length 0 (some (-(m : Int))))) = _
  rw [e, HT.sIx_none]
  unfold sl
  rw [List.drop_take]
theorem tail_eq {z : Str} {j : Nat} (h : j + 1 < z.length) : decide (V.str (cutS z none (some ((j + 1 : Nat) : Int))) = V.str (cutS z (some (-((j + 1 : Nat) : Int))) none)) = perB (cd z) 0 (cd z).length (z.length - (j + 1)) := by
  have lc := cd_len z
  rw [dec_cd, cut_to, cut_tail (Nat.succ_pos j) (by omega)]
  unfold perB
  rw [Nat.zero_add, lc, show z.length - (z.length - (j + 1)) = j + 1 by omega]
  exact decide_eq_decide.mpr ⟨Eq.symm, Eq.symm⟩
theorem strs_dp {K : PySem.W.Frag} {H : Hp} : ∀ zs : List Str, DpAll K H (zs.map V.str) (zs.map PyData.str)
  | [] => .nil
  | z :: zs => .cons (.str z) (strs_dp zs)
theorem strs_shaped {zs : List Str} (h : ∀ w ∈ zs, sgB w = true) : SeqAt.shaped (.list (zs.map PyData.str)) = true := by
  have a : PyData.canLayAll0 (zs.map PyData.str) = true ∧ PyData.depthAll (zs.map PyData.str) = 0 := by
    induction zs with
    | nil => exact ⟨rfl, rfl⟩
    | cons w ws ih =>
      obtain ⟨i1, i2⟩ := ih fun u hu => h u (List.mem_cons_of_mem _ hu)
      have := strOk_sg (h w List.mem_cons_self)
      exact ⟨by simp [PyData.canLayAll0, PyData.canLay0, this, i1], by simp [PyData.depthAll, PyData.depth, i2]⟩
  unfold SeqAt.shaped
  have c : (PyData.list (zs.map PyData.str)).canLay0 = true := by simp only [PyData.canLay0]; exact a.1
  have d : (PyData.list (zs.map PyData.str)).depth ≤ 64 := by simp only [PyData.depth]; omega
  rw [c, decide_eq_true d]
  rfl
theorem strs_refl : ∀ zs : List Str, PyData.eqvAll (zs.map PyData.str) (zs.map PyData.str) = true
  | [] => by simp [PyData.eqvAll]
  | z :: zs => by
    have e : PyData.eqv (.str z) (.str z) = true := by simp [PyData.eqv]
    simp only [List.map_cons, PyData.eqvAll, e, strs_refl zs, Bool.and_true]
theorem bords_sg {z : Str} (h : sgB z = true) : ∀ w ∈ bords z, sgB w = true := fun w hw => by
  unfold bords at hw
  obtain ⟨q, _, rfl⟩ := List.mem_map.mp hw
  exact sgB_cut h _ _
theorem lb_len (z : Str) (i : Nat) : (lb z i).length ≤ i := by
  have := List.length_filter_le (fun m => perB (cd z) 0 (cd z).length (z.length - m)) ((List.range i).map (· + 1))
  rw [List.length_map, List.length_range] at this
  unfold lb
  rw [List.length_map]
  exact this
/-! data -/
theorem encT_inj {s t : Tr} (h : PyData.eqv (encT s) (encT t) = true) : s = t := by
  unfold encT at h
  simp only [PyData.eqv, PyData.eqvAll, Bool.and_true, Bool.and_eq_true] at h
  obtain ⟨h1, h2, h3⟩ := h
  have h1 := of_decide_eq_true (by simpa using h1 : decide (((s.1 : Nat) : Int) = ((t.1 : Nat) : Int)) = true)
  have h2 := of_decide_eq_true (by simpa using h2 : decide (((s.2.1 : Nat) : Int) = ((t.2.1 : Nat) : Int)) = true)
  have h3 := of_decide_eq_true (by simpa using h3 : decide (((s.2.2 : Nat) : Int) = ((t.2.2 : Nat) : Int)) = true)
  exact Prod.ext (by omega) (Prod.ext (by omega) (by omega))
theorem encT_refl (s : Tr) : PyData.eqv (encT s) (encT s) = true := by
  unfold encT
  simp [PyData.eqv, PyData.eqvAll]
theorem encTs_refl : ∀ rs : List Tr, PyData.eqvAll (rs.map encT) (rs.map encT) = true
  | [] => by simp [PyData.eqvAll]
  | r :: rs => by simp only [List.map_cons, PyData.eqvAll, encT_refl, encTs_refl rs, Bool.and_true]
theorem encTs_lay : ∀ rs : List Tr, PyData.canLayAll0 (rs.map encT) = true ∧ PyData.depthAll (rs.map encT) ≤ 1
  | [] => ⟨rfl, Nat.zero_le _⟩
  | r :: rs => by
    obtain ⟨a, b⟩ := encTs_lay rs
    refine ⟨by simp only [List.map_cons, PyData.canLayAll0, a, Bool.and_true]; unfold encT; simp [PyData.canLay0, PyData.canLayAll0], ?_⟩
    have : (encT r).depth ≤ 1 := by unfold encT; simp [PyData.depth, PyData.depthAll]
    simp only [List.map_cons, PyData.depthAll]
    omega
theorem encTs_shaped (rs : List Tr) : SeqAt.shaped (.list (rs.map encT)) = true := by
  obtain ⟨a, b⟩ := encTs_lay rs
  unfold SeqAt.shaped
  have c : (PyData.list (rs.map encT)).canLay0 = true := by simp only [PyData.canLay0]; exact a
  have d : (PyData.list (rs.map encT)).depth ≤ 64 := by simp only [PyData.depth]; omega
  rw [c, decide_eq_true d]
  rfl
theorem trs_dp {K : PySem.W.Frag} {H : Hp} : ∀ {us : List V} {rs : List Tr}, All2 (TrAt H) us rs → DpAll K H us (rs.map encT)
  | _, _, .nil => .nil
  | _, _, .cons h t => .cons (encT_dp h) (trs_dp t)
end LawK
namespace LawK
open PySem PySem.Spec PyProof.Rows L2 Ev
theorem kit_no {K : PySem.W.Frag} {k : Kn} (n : k ≠ .tup) : PySem.W.kitOne K (.type k.name) (.type "tuple") = some false := by
  have := kit_kn (K := K) k .tup
  cases k <;> first | exact absurd rfl n | exact this
theorem all_ints : ∀ {xs : List V}, (xs.map (inV2 0 2000)).all id = true → ∃ is : List Int, xs = is.map V.int
  | [], _ => ⟨[], rfl⟩
  | x :: xs, h => by
    rw [List.map_cons, List.all_cons] at h
    obtain ⟨h1, h2⟩ := Bool.and_eq_true_iff.mp h
    obtain ⟨is, e⟩ := all_ints h2
    cases x with
    | int i => exact ⟨i :: is, by rw [e]; rfl⟩
    | _ => cases h1
theorem so_flat {xs : List V} {ds : List PyData} {rs : List Tr} (h : All2 FP xs ds) (bd : ∀ t ∈ rs, t.1 ≤ 2000 ∧ t.2.1 ≤ 2000 ∧ t.2.2 ≤ 2000) :
    (((rs.map encT).any fun w => PyData.eqv w (.tuple ds)) && (xs.map (inV2 0 2000)).all id) = true ↔ ∃ t ∈ rs, xs = [.int (t.1 : Nat), .int (t.2.1 : Nat), .int (t.2.2 : Nat)] := by
  have key : ∀ (t : Tr) (is : List Int), PyData.eqv (encT t) (.tuple (is.map PyData.int)) = decide ([((t.1 : Nat) : Int), ((t.2.1 : Nat) : Int), ((t.2.2 : Nat) : Int)] = is) := fun t is => by
    unfold encT
    simp only [PyData.eqv]
    exact eqv_ints [((t.1 : Nat) : Int), ((t.2.1 : Nat) : Int), ((t.2.2 : Nat) : Int)] is
  constructor
  · intro e
    obtain ⟨e1, e2⟩ := Bool.and_eq_true_iff.mp e
    obtain ⟨is, rfl⟩ := all_ints e2
    have := FPs.ints h
    subst this
    obtain ⟨w, hw, ew⟩ := List.any_eq_true.mp e1
    obtain ⟨t, ht, rfl⟩ := List.mem_map.mp hw
    rw [key] at ew
    have ew := of_decide_eq_true ew
    rw [← ew]
    exact ⟨t, ht, rfl⟩
  · rintro ⟨t, ht, rfl⟩
    have := FPs.ints (is := [((t.1 : Nat) : Int), ((t.2.1 : Nat) : Int), ((t.2.2 : Nat) : Int)]) h
    subst this
    obtain ⟨b1, b2, b3⟩ := bd t ht
    refine Bool.and_eq_true_iff.mpr ⟨List.any_eq_true.mpr ⟨encT t, List.mem_map.mpr ⟨t, ht, rfl⟩, ?_⟩, ?_⟩
    · rw [key]
      exact decide_eq_true rfl
    · show ((decide ((0 : Int) ≤ (t.1 : Nat)) && decide (((t.1 : Nat) : Int) ≤ 2000)) && ((decide ((0 : Int) ≤ (t.2.1 : Nat)) && decide (((t.2.1 : Nat) : Int) ≤ 2000)) && ((decide ((0 : Int) ≤ (t.2.2 : Nat)) && decide (((t.2.2 : Nat) : Int) ≤ 2000)) && true))) = true
      rw [decide_eq_true (show (0 : Int) ≤ ((t.1 : Nat) : Int) by omega), decide_eq_true (show ((t.1 : Nat) : Int) ≤ 2000 by omega), decide_eq_true (show (0 : Int) ≤ ((t.2.1 : Nat) : Int) by omega), decide_eq_true (show ((t.2.1 : Nat) : Int) ≤ 2000 by omega), decide_eq_true (show (0 : Int) ≤ ((t.2.2 : Nat) : Int) by omega), decide_eq_true (show ((t.2.2 : Nat) : Int) ≤ 2000 by omega)]
      rfl
end LawK
set_option maxHeartbeats 4000000
/-! The law's own def, called by the caller of claims alone: what runs around it is known (no repr is under way). -/
namespace Ev
open PySem PySem.Spec PyProof.Rows L2
/-- the def at f keeps sp, called where A runs around it -/
structure FnAt (A : Around) (P : Program) (w : World) (K : PySem.W.Frag) (mg : Str → Option Value) (base : Heap) (CX : CXT) (f : Addr) (fd : FuncData) (ps : List Str) (sp : Sp) : Prop where
  len : ∀ vs H Q E, sp vs H Q E → vs.length = ps.length
  run : ∀ (outer : List Env) (s : Shared) (H : Hp) (args : Args) (us : List Value) (vs : List V) (Q : VK) (E : XK), Env0 P w K mg base A outer s H → BindsTo s fd args (ps.zip us) → Vals vs us → sp vs H Q E →
    codeAny (model P w) A (.call (.ref f) args) (CR CX outer P w H s Q E) s
section
variable {A : Around} {CX : CXT} {P : Program} {w : World} {K : PySem.W.Frag} {mg : Str → Option Value} {base : Heap} {k : Nat}
theorem fun_at {x qual : Str} {st : Stmt} {f : Addr} {fd : FuncData} {N ps : List Str} {sp : Sp} (F : Fun K x qual st f fd) (S : FnScope N ps (defScope st)) (hr : Room (k + 1) A) (len : ∀ vs H Q E, sp vs H Q E → vs.length = ps.length)
    (hbody : ∀ (cdv : Value) (outer : List Env) (s : Shared) (H : Hp) (vs : List V) (Q : VK) (E : XK), Room k (A.deeper (envOfC qual (defScope st) s.heap.objs.size f cdv)) → sp vs H Q E →
      ∃ t, PSs (cxOf CX P w K mg base N qual (defScope st) f cdv A outer s H E).nox (defBody st) t ∧ t { nx := fun _ H' => Q .non H', rt := Q } (start N vs) H) : FnAt A P w K mg base CX f fd ps sp := by
  obtain ⟨oc, od, kV, doc, pm, an, cdv, ct, osl, rfl, lk, hcd⟩ := F.ex
  refine ⟨len, fun outer s H args us vs Q E e0 hb r hsp => ?_⟩
  have lim : s.heap.NoLimit := e0.mod.nolimit.keeps fun b o e => (e0.bs b o e).1
  have KX : K.In s.heap := e0.mod.kin.keeps fun b o e => (e0.bs b o e).1
  have kinds : ∀ y ∈ ps.zip us, (defScope st).names.lookup y.1 = some .local ∨ ((defScope st).names.lookup y.1 = some .cell ∧ ((cellsFrom (s.heap.objs.size + 1) (defScope st).names []).lookup y.1).isSome = true) := by
    rintro ⟨n, v⟩ hy
    exact (S.par n (List.of_mem_zip hy).1).imp id fun q => ⟨q, PySem.W.cellsFrom_some _ _ _ (.inl q)⟩
  refine codeAny_call_function hr.depth (KX _ _ lk) rfl S.co S.gen rfl (PySem.W.codeRec_of KX hcd) (hb _ _ _ _ (wpAny_newFunctionEnv_cells S.kind kinds fun env he s1 x => ?_))
  subst he
  obtain ⟨t, ht, hq⟩ := hbody cdv outer s H vs Q E (hr.deeper _) hsp
  have I := inv_start (CX := CX) (P := P) (w := w) (mg := mg) (base := base) (E := E) S hr.hd e0 (len _ _ _ _ hsp) r x
  refine ⟨lim.keeps x.toInCall.keep, codeAny_func (wpAny_mono (ht.nox.run [] s1 (start N vs) H _ I hq) (fun fl s' hs => ?_) fun e s' hs => hs)⟩
  cases fl with
  | ret u =>
    obtain ⟨v, σ', H', J, rv, q⟩ := hs
    exact ⟨v, H', J.os, J.bare, J.base, J.hok, rv, q⟩
  | next =>
    obtain ⟨σ', H', J, q⟩ := hs
    exact ⟨V.non, H', J.os, J.bare, J.base, J.hok, rfl, q⟩
  | brk => exact hs.elim fun _ z => z.elim fun _ y => y.2.elim
  | cont => exact hs.elim fun _ z => z.elim fun _ y => y.2.elim
end
section
variable {P : Program} {w : World} {K : PySem.W.Frag} {mg mb : Str → Option Value} {fa a : Addr} {fd : FuncData} {x : Str} {sp : Sp} {s₁ : Shared} {vs : List Value} {ns : List Int}
/-- from one abstract heap: nothing is tracked but, perhaps, the script -/
theorem law_at0 {H : Hp} (KX : K.In s₁.heap) (hns : s₁.heap.Ns mainGlobals mg) (hb : s₁.heap.Ns builtinsNs mb) (hbb : ∀ y : Str, y ≠ "__name__" → mb y = bootBuiltins y) (hlim : s₁.heap.NoLimit) (hg : s₁.gens = #[])
    (ha : s₁.heap.get? a = some { cls := .type "list", data := .seq vs.toArray }) (F : ∀ base : Heap, K.In base → base.Ns mainGlobals mg → FnAt callerA P w K mg base CX0 fa fd [x] sp)
    (hbind : ∀ (s : Shared) (u : Value), BindsTo s fd ⟨[u], []⟩ [(x, u)]) (hO : Only H) (hok : HOk P w H s₁.heap) (hA : ∀ b, H b ≠ none → b = a) (hK : H a ≠ none → K.lookup a = none)
    (hsp : sp [.ref a] H (fun v _ => v = .bl true) fun _ _ _ => False) :
    codeAny (model P w) callerA (.call (.ref fa) ⟨[.ref a], []⟩) (fun r s' => r = .ok (.ret (.bool true)) ∧ OldK s₁.heap s'.heap ∧ s'.os = s₁.os ∧ AllBare s'.gens) s₁ := by
  have off : ∀ {b : Addr} {o : Obj}, s₁.heap.get? b = some o → o ≠ { cls := .type "list", data := .seq vs.toArray } → H b = none := fun {b o} e n => by
    refine Classical.byContradiction fun z => n ?_
    have eb := hA b z
    rw [eb, ha] at e
    exact (Option.some.inj e).symm
  have nsK : ∀ {b : Addr} {m : Str → Option Value}, s₁.heap.Ns b m → (hidT s₁.heap H).Ns b m := fun {b m} ⟨o, es, ep, e, d, r⟩ => ⟨o, es, ep, hidT_get e (off e fun z => by rw [z] at d; cases d), d, r⟩
  have hKb : K.In (hidT s₁.heap H) := fun b o e => hidT_get (KX b o e) (Classical.byContradiction fun z => by
    have eb := hA b z
    rw [eb] at e z
    rw [hK z] at e
    cases e)
  have hM : Mod K mg (hidT s₁.heap H) := ⟨hKb, nsK hns, ⟨mb, nsK hb, hbb⟩, hlim.elim fun mc z => ⟨mc, nsK z.1, z.2⟩⟩
  have e0 : Env0 P w K mg (hidT s₁.heap H) callerA [] s₁ H := ⟨rfl, hM, fun b o e => of_hidT e, Nat.le_of_eq (hidT_size _ _), trivial, fun b hb => absurd (show b ∈ ([] : List Addr) from hb) (by simp), hok, .of_eq hg⟩
  refine codeAny_mono ((F _ hKb (nsK hns)).run [] s₁ H ⟨[.ref a], []⟩ [.ref a] [.ref a] _ _ e0 (hbind s₁ (.ref a)) (.cons rfl .nil) hsp) fun r s' h => ?_
  rcases r with e | fl
  · exact False.elim h
  cases fl with
  | next => exact False.elim h
  | brk => exact False.elim h
  | cont => exact False.elim h
  | ret u =>
    obtain ⟨v, H', os, bare, un, hok', r', rfl⟩ := h
    obtain rfl : u = Value.bool true := r'
    refine ⟨rfl, OldK.of_keep fun b o e => ?_, os, bare⟩
    rcases hO b with z | ⟨ob, xs, z⟩
    · exact un.keep b o e z (fun y => absurd (show b ∈ ([] : List Addr) from y) (by simp)) (by simp)
    · have e1 := (hok b _ z).1
      rw [e] at e1
      cases e1
      exact (hok' b _ (un.frzs b _ _ z)).1
theorem law_at (KX : K.In s₁.heap) (hns : s₁.heap.Ns mainGlobals mg) (hb : s₁.heap.Ns builtinsNs mb) (hbb : ∀ y : Str, y ≠ "__name__" → mb y = bootBuiltins y) (hlim : s₁.heap.NoLimit) (hg : s₁.gens = #[])
    (ha : s₁.heap.get? a = some { cls := .type "list", data := .seq vs.toArray }) (hi : IntsAre vs ns) (hl : ns.length ≤ sizeLine)
    (F : ∀ base : Heap, K.In base → base.Ns mainGlobals mg → FnAt callerA P w K mg base CX0 fa fd [x] sp) (hbind : ∀ (s : Shared) (u : Value), BindsTo s fd ⟨[u], []⟩ [(x, u)])
    (hsp : ∀ H : Hp, Only H → SqL K H a (ns.map V.int) → sp [.ref a] H (fun v _ => v = .bl true) fun _ _ _ => False) :
    codeAny (model P w) callerA (.call (.ref fa) ⟨[.ref a], []⟩) (fun r s' => r = .ok (.ret (.bool true)) ∧ OldK s₁.heap s'.heap ∧ s'.os = s₁.os ∧ AllBare s'.gens) s₁ := by
  have rv := vals_ints hi
  cases hk : K.lookup a with
  | some o =>
    have e := KX a o hk
    rw [ha] at e
    cases e
    have hO : Only (fun _ => none) := fun _ => .inl rfl
    exact law_at0 KX hns hb hbb hlim hg ha F hbind hO (fun b u z => by cases z) (fun b z => absurd rfl z) (fun z => absurd rfl z)
      (hsp _ hO (.inr ⟨_, vs.toArray, _, hk, rfl, rfl, rfl, by rw [List.size_toArray, hi.length]; exact hl, by simpa using rv⟩))
  | none =>
    have same : upd (fun _ => none) a (.frz { cls := .type "list", data := .seq vs.toArray } (.lst (ns.map V.int))) a = some (.frz { cls := .type "list", data := .seq vs.toArray } (.lst (ns.map V.int))) := upd_same
    have hO : Only (upd (fun _ => none) a (.frz { cls := .type "list", data := .seq vs.toArray } (.lst (ns.map V.int)))) := fun b => by
      by_cases h : b = a
      · exact .inr ⟨_, _, by rw [h]; exact same⟩
      · exact .inl (by rw [upd_ne h])
    refine law_at0 KX hns hb hbb hlim hg ha F hbind hO (fun b u z => ?_) (fun b z => ?_) (fun _ => hk) (hsp _ hO (.inl (.inr ⟨_, same⟩)))
    · by_cases h : b = a
      · subst h
        rw [same] at z
        cases z
        exact ⟨ha, by rw [List.length_map]; exact hl, vs, _, rv, ha⟩
      · rw [upd_ne h] at z
        cases z
    · exact Classical.byContradiction fun h => z (by rw [upd_ne h])
end
/-- the end of a law's row -/
theorem walk_at {l : PySem.W.OpenLaw} {n : Nat} {q : Program} {loose : List Str} {XP : (Str → Option Value) → Heap → Prop} {YP : World → Heap → Prop} {d : DefRec} {K : Params → PySem.W.Frag} {sp : PySem.W.Frag → Sp} {x : Str}
    (hn : l.most = some n) (hn2 : n ≤ sizeLine) (hdf : d.params.defaults = []) (hY : ∀ (w : World) (h : Heap), YP w h → (K w.params).In h)
    (F : ∀ (w : World) (mg : Str → Option Value) (fa : Addr) (h : Heap), (K w.params).In h → h.Ns mainGlobals mg → mg d.name = some (.ref fa) →
      ∃ fd : FuncData, (∀ (s : Shared) (u : Value), BindsTo s fd ⟨[u], []⟩ [(x, u)]) ∧ ∀ base : Heap, (K w.params).In base → base.Ns mainGlobals mg → FnAt callerA l.prog w (K w.params) mg base CX0 fa fd [x] (sp (K w.params)))
    (hsp : ∀ (K : PySem.W.Frag) (H : Hp) (a : Addr) (ns : List Int), ns.length ≤ n → Only H → SqL K H a (ns.map V.int) → sp K [.ref a] H (fun v _ => v = .bl true) fun _ _ _ => False) :
    PySem.W.WalkO q loose XP YP l.row.toRowW d [] (fun f vs => PySem.call f vs) :=
  Att.attach_call hn hdf fun w s₀ s₁ mg mb fa o pm cd doc a vs ns G Y ho hd hcd hmg hobj hints hlen hg => by
    obtain ⟨fd, hb, hF⟩ := F w mg fa _ (hY w _ Y) G.T.g hmg
    exact law_at (hY w _ Y) G.T.g G.T.b G.T.builtins G.T.nolimit hg hobj hints (Nat.le_trans hlen hn2) hF hb fun H hO hS => hsp _ H a ns hlen hO hS
/-- C() of an own error class without an __init__ of its own -/
theorem pe_excP {X : Cx} {x : Str} {C : Addr} {p pos : Pos} {bmB : List Value} {B newId initId : String} (F : ExcBaseFacts B newId initId bmB) (q : PySem.W.excIn X.K C bmB newId = true) (kC : PySem.W.keepIn X.K (.ref C) = true) (hg : Gl X x) (hm : X.mg x = some (.ref C))
    (hdb : (x == ("__debug__" : Str)) = false := by decide) : PE X (.Call (.Name x p) [] [] pos) (fun _ H Q => ∀ a, H a = none → Q (.ref a) (upd H a (exo a C none))) := by
  refine ⟨fun pins s σ H Q I h => ?_⟩
  refine wpAny_Call_Name_kw (ld_glob I hg hm ?_ hdb)
  refine PySem.W.callWith_K0 I.kIn kC ?_
  show wpAny _ _ (call (.ref C) []) _ _ _
  obtain ⟨bm, N, nm, qn, bs, hdct, sn, sub, ab, col, dd, k0, k1, k2, k3, k5, mN, hC, hN, hni, T⟩ := exc_obj I.kIn q
  refine wpAny_call_exc_subT F T hC hN hni (fun h' a hm => ?_) (by show 0 ≤ sizeLine; decide)
  have hn : H a = none := I.hok.gone hm.new
  obtain ⟨t, ht, _, _⟩ := hm.there
  exact ⟨.ref a, upd H a (exo a C none), I.laidN hm.keeps hm.new hn (exo_ok ht), rfl, h a hn⟩
end Ev
set_option maxHeartbeats 4000000
/-! Own errors whose __init__ says super().__init__() and nothing else. -/
namespace Ev
open PySem PySem.W PySem.Calls PyProof.Rows L2

abbrev supArgs (p : Pos) : Arguments := { posonlyargs := [], args := [{ arg := "self", annotation := none, pos := p }], vararg := none, kwonlyargs := [], kw_defaults := [], kwarg := none, defaults := [] }
abbrev supBody (p0 p1 p2 p3 p4 : Pos) : List Stmt := [.Expr (.Call (.Attribute (.Call (.Name "super" p0) [] [] p1) "__init__" p2) [] [] p3) p4]

abbrev supScope : Scope := { kind := .function, names := [(PySem.Str.ofString "self", .local), (PySem.Str.ofString "__class__", .free), (PySem.Str.ofString "super", .globalImplicit)], isGenerator := false, isCoroutine := false, more := [] }
theorem sup_l1 : supScope.names.lookup ("self" : Str) = some .local := by decide +kernel
theorem sup_l2 : supScope.names.lookup ("super" : Str) = some .globalImplicit := by decide +kernel
theorem sup_l3 : supScope.names.lookup ("__class__" : Str) = some .free := by decide +kernel
/-- what the written part tells of such a class at C, whose __init__ stands at fI -/
structure SupC (P : Program) (K : Frag) (mg : Str → Option Value) (C fI : Addr) : Prop where
  oex : OexC K C
  ini : findIn K (.ref C) "__init__" = some (some (.ref fI))
  tyI : typeIn K (.ref fI) = some (.type "function")
  fn : ∃ (oc : Value) (od : Option Addr) (qual : Str) (kV doc pm ct : Value) (an : Option Addr) (cda cc : Addr) (osl : Array (Option Value)) (p p0 p1 p2 p3 p4 : Pos) (ccl : Value) (cdd : Option Addr) (vs : Array Value) (ccs : Array (Option Value)) (file : Str) (tf : Tok) (cl : Value) (cld : Option Addr) (csl : Array (Option Value)),
    K.lookup fI = some ⟨oc, od, .func (ksFn "__init__" qual (supArgs p) (supBody p0 p1 p2 p3 p4) supScope .none kV doc pm an (.ref cda) ct cc), osl⟩ ∧ codeIn K (.ref cda) qual = true ∧
    K.lookup cda = some ⟨ccl, cdd, .fields vs, ccs⟩ ∧ vs[2]? = some (.str file tf) ∧ ((P.main.file : Str) == file) = true ∧ K.lookup cc = some ⟨cl, cld, .cell (some (.ref C)), csl⟩ ∧
    (p2.endLine == p3.line) = true
  gs : mg "super" = none
  top : (P.main.scope.names.lookup ("super" : Str)).isSome = false
  third : nsIn K cStatics "thirdparty.any" = some none
  sup : ks_superIn K C C "__init__" = some (some (.builtin "ValueError.__init__"))
  ve : subIn K (.ref C) (.type "ValueError") = some true
  me : mroIn K C (.ref C) = some true

theorem sup_eval {env : Env} {p0 p1 p2 p3 : Pos} (h : (p2.endLine == p3.line) = true) : eval (.Call (.Attribute (.Call (.Name "super" p0) [] [] p1) "__init__" p2) [] [] p3) env = (do
      let ov ← attributeBase (.Call (.Name "super" p0) [] [] p1) "__init__" env (eval (.Call (.Name "super" p0) [] [] p1) env)
      standAt p2.atName
      let (f, first) ← holding [ov] (getMethod ov "__init__" (do return (← importBound (.Call (.Name "super" p0) [] [] p1) env).getD true))
      callWith p3 f first (backTo p3 (starEach [] env)) []) := by
  have e : methodCallPos true (.Call (.Name "super" p0) [] [] p1) env p2 p3 = pure p3 := by
    unfold methodCallPos
    rw [h]
    rfl
  show (do
    let ov ← attributeBase (.Call (.Name "super" p0) [] [] p1) "__init__" env (eval (.Call (.Name "super" p0) [] [] p1) env)
    standAt p2.atName
    let (f, first) ← holding [ov] (getMethod ov "__init__" (do return (← importBound (.Call (.Name "super" p0) [] [] p1) env).getD true))
    let callPos ← methodCallPos true (.Call (.Name "super" p0) [] [] p1) env p2 p3
    callWith callPos f first (backTo p3 (starEach [] env)) []) = _
  rw [e]
  rfl
theorem boot_super : bootBuiltins "super" = some (.type "super") := by first | boot_by_name | rfl | kernel_rfl

section
variable {P : Program} {w : World} {A : Around} {E : Value → Shared → Prop} {K : Frag} {mg mb : Str → Option Value} {C fI x t0 : Addr} {h : Heap} {g : Array GenState} {d : Drawn} {tk : Nat} {os : OsState}

/-- the wrapper that super().__init__ gives, called: the args are laid anew -/
theorem bound_init {u : Addr} {Q : Value → Shared → Prop} (T : OexC K C) (X : K.In h) (hu : h.get? u = some (kxs_mw "ValueError.__init__" x)) (hx : h.get? x = some (PySem.HandSPX.excO C t0))
    (hq : ∀ h' t1, (∀ b o, b ≠ x → h.get? b = some o → h'.get? b = some o) → h'.get? x = some (PySem.HandSPX.excO C t1) → Q .none ⟨h', g, d, tk, os⟩) :
    wpAny (model P w) A (call (.ref u) []) Q E ⟨h, g, d, tk, os⟩ := by
  obtain ⟨nm, q, N, bs, bm, sn, sub, ab, col, dd, k0, k1, k2, k3, k5, hC, hbm⟩ := T.cls
  refine wpAny_call (codeAny_of_tree ?_)
  show wpAny _ A.in1 (callAny (.ref u) ⟨[], []⟩) _ _ _
  simp only [callAny]
  refine wpAny_bind (wpAny_load hu ?_)
  simp only [kxs_mw, show (Value.type "method-wrapper" == Value.type "method" || Value.type "method-wrapper" == Value.type "builtin_function_or_method" || Value.type "method-wrapper" == Value.type "method-wrapper") = true by decide, if_true]
  refine KFB.if_so (by decide) ?_
  refine wpAny_bind (check_bound_init F.excBase_ValueError.toExcCallFacts (X _ _ hC) hx rfl ?_)
  refine wpAny_bind (wpAny_pure (wpAny_pure ?_))
  refine ⟨plainId_quiet F.excBase_ValueError.init.plain _, codeAny_builtin F.excBase_ValueError.initEntry ?_⟩
  exact exc_init_tree (cls := .ref C) (t0 := t0) (dv := none) (c2 := .none) (c3 := .none) (b4 := .bool false) hx (by rw [sizeLine_eq]; exact Nat.zero_le _) fun h' k e _ => hq h' h.objs.size k e

theorem sup_init {R : Result → Shared → Prop} {s : Shared} (T : SupC P K mg C fI) (hroom : A.depth < recursionLimit) (X : K.In s.heap) (hlim : s.heap.NoLimit) (G : s.heap.Ns mainGlobals mg) (B : s.heap.Ns builtinsNs mb)
    (hbb : ∀ y : Str, y ≠ "__name__" → mb y = bootBuiltins y) (hx : s.heap.get? x = some (PySem.HandSPX.excO C t0))
    (hq : ∀ h' t' t1, (∀ b o, b ≠ x → s.heap.get? b = some o → h'.get? b = some o) → h'.get? x = some (PySem.HandSPX.excO C t1) → R (.ok (.ret .none)) { s with heap := h', toks := t' }) :
    codeAny (model P w) A (.call (.ref fI) ⟨[.ref x], []⟩) R s := by
  obtain ⟨oc, od, qual, kV, doc, pm, ct, an, cda, cc, osl, p, p0, p1, p2, p3, p4, ccl, cdd, vs, ccs, file, tf, cl, cld, csl, ho, hcd, hcode, hvs, hfile, hcell, hline⟩ := T.fn
  refine ks_codeAny_call_defAt (fd := ksFn "__init__" qual (supArgs p) (supBody p0 p1 p2 p3 p4) supScope .none kV doc pm an (.ref cda) ct cc) (body := supBody p0 p1 p2 p3 p4) (binds := [("self", .ref x)]) hroom (X _ _ ho) rfl hlim (codeRec_of X hcd) rfl
    (BindsTo.of_eq rfl) (by show ∀ y ∈ supScope.names, y.2 ≠ .cell; decide) (fun y hy => ?_) (fun h₁ hns k₁ => ?_)
  · obtain rfl : y = (("self" : Str), Value.ref x) := List.mem_singleton.mp hy
    exact sup_l1
  obtain ⟨hp, g, d, tk, os⟩ := s
  have X₁ : K.In h₁ := X.keeps k₁
  have hx₁ : h₁.get? x = some (PySem.HandSPX.excO C t0) := k₁ _ _ hx
  have G₁ : h₁.Ns mainGlobals mg := G.keeps k₁
  have B₁ : h₁.Ns builtinsNs mb := B.keeps k₁
  obtain ⟨nm, q, N, bs, bm, sn, sub, ab, col, dd, q0, q1, q2, q3, q5, hC, hbm⟩ := T.oex.cls
  show _root_.PySem.wpAt _ _ _ (execs (supBody p0 p1 p2 p3 p4) (ksEnv qual supScope hp.objs.size fI (.ref cda) cc)) _ _ _
  refine ks_wpAt_execs_cons (ks_wpAt_Expr_any (ks_wpAt_MethodCall ?_ (sup_eval hline)))
  refine ks_wpAt_super_base (env := ksEnv qual supScope hp.objs.size fI (.ref cda) cc) sup_l2 sup_l3 (by decide) rfl (X₁ _ _ ho) rfl rfl rfl (X₁ _ _ hcode) rfl hvs hfile T.top ?_
  refine ks_loadName_global rfl sup_l2 (loadGlobal_builtin (env := ksEnv qual supScope hp.objs.size fI (.ref cda) cc) G₁ T.gs B₁ ((hbb _ (by decide +kernel)).trans boot_super) ⟨rfl, ?_⟩)
  refine wpAny_loadName_free rfl sup_l3 rfl ⟨_, X₁ _ _ hcell, rfl⟩ ?_
  refine wpAny_loadName_local rfl sup_l1 hns (v := .ref x) (by show List.lookup ("self" : Str) [(("self" : Str), Value.ref x)] = some (Value.ref x); simp [List.lookup]) ?_
  refine ks_wpAny_isType_cls (X₁ _ _ hC) rfl ⟨rfl, ?_⟩
  have I : InstAt h₁ x (PySem.HandSPX.excO C t0) C none := ⟨hx₁, rfl, rfl, trivial⟩
  refine ks_wpAny_call_super (X₁ _ _ hC) rfl I.at_ I.cls (fun c e => by cases e) (looks_mroIn X₁ T.me) (fun h' e k => ?_)
  have X₂ : K.In h' := X₁.keeps k
  have hx₂ : h'.get? x = some (PySem.HandSPX.excO C t0) := k _ _ hx₁
  have I₂ : InstAt h' x (PySem.HandSPX.excO C t0) C none := ⟨hx₂, rfl, rfl, trivial⟩
  have hsu := T.sup
  unfold ks_superIn at hsu
  have hcl : clsIn K C = some { name := nm, bases := bs, mro := .ref C :: bm, ns := N, qualname := q, hasDict := true, slotNames := sn, subclasses := sub, abstract := ab, collection := col, hasDel := false } := by unfold clsIn; rw [hC] <;> rfl
  rw [hcl] at hsu
  refine kxs_getMethod kxs_ValueError e (looks_opaque X₂ T.third) (l₀ := .ref C :: bm) ?_ rfl X₂ hsu (I₂.type.andThen (looks_subIn X₂ T.ve)) (ks_ne X₂ I₂ hcl) (by decide) ?_
  · exact fun A Q E s k q => wpAny_bind ((looks_clsIn X₂ hcl) A _ E s k (wpAny_pure q))
  have hne : h'.objs.size ≠ x := Nat.ne_of_gt (Heap.lt_size hx₂)
  have k2 : ∀ b o, h'.get? b = some o → (h'.push (kxs_mw "ValueError.__init__" x)).get? b = some o := fun b o z => Heap.get?_push_of_some _ z
  have hmw : (h'.push (kxs_mw "ValueError.__init__" x)).get? h'.objs.size = some (kxs_mw "ValueError.__init__" x) := Heap.get?_push_at rfl rfl
  refine kxs_callWith (i := "ValueError.__init__") (x := x) rfl (evalArgs_empty ⟨hmw, ?_⟩)
  refine bound_init T.oex (X₂.keeps k2) hmw (k2 _ _ hx₂) fun h3 t1 k3 hx3 => ?_
  exact wpAt_of_wpAny (wpAny_execs_nil (hq h3 _ t1 (fun b o hb z => k3 b o hb (k2 b o (k b o (k₁ b o z)))) hx3))
end
end Ev
set_option maxHeartbeats 4000000
/-! Rules for own errors as values: made, asked by isinstance, their fields read. -/
namespace Ev
open PySem PySem.Spec PyProof.Rows L2

section
variable {X : Cx} {x : Str} {C fI : Addr} {p pos : Pos}
theorem make_room {k : Nat} {A : Around} (hr : Room k A) {us : List Value} : (A.under (.builtin "type.__call__" ⟨.ref C :: us, []⟩)).depth < recursionLimit := by
  rw [make_depth]
  have := hr.dp
  omega
/-- C() of a class whose __init__ is super().__init__(): what stands behind it -/
theorem run_exc0 {pins : List (Addr × Obj)} {s : Shared} {σ : L2.St} {H : Hp} {k : Nat} {Q : Value → Shared → Prop} (T : SupC X.prog X.K X.mg C fI) (hr : Room k X.A) (I : Inv X pins σ H s)
    (h : ∀ h' tk a t1, s.heap.objs.size ≤ a → (∀ b o, s.heap.get? b = some o → h'.get? b = some o) → h'.get? a = some (PySem.HandSPX.excO C t1) → Q (.ref a) { s with heap := h', toks := tk }) :
    wpAny (model X.prog X.w) X.A (call (.ref C) []) Q X.xe s := by
  obtain ⟨nm, q, N, bs, bm, sn, sub, ab, col, dd, k0, k1, k2, k3, k5, hC, hbm⟩ := T.oex.cls
  obtain ⟨mb, hb1, hb2⟩ := I.mod.blt
  have kX := I.kIn
  have lim := I.nolimit
  have g1 := I.mod.glob.keeps I.bk
  have b1 := hb1.keeps I.bk
  obtain ⟨hp, g, dr, tk, os⟩ := s
  have kk : ∀ b o, hp.get? b = some o → ((hp.push (PySem.W.kdv_tup [])).push (PySem.HandSPX.excO C hp.objs.size)).get? b = some o := fun b o e => Heap.get?_push_of_some _ (Heap.get?_push_of_some _ e)
  have hget : ((hp.push (PySem.W.kdv_tup [])).push (PySem.HandSPX.excO C hp.objs.size)).get? (hp.objs.size + 1) = some (PySem.HandSPX.excO C hp.objs.size) := by heap_get
  refine wpAny_call (PySem.HandSPX.call_own F.excBase_ValueError (fun Y => PySem.HandSPX.refsVE_contains Y bm hbm) (kX _ _ hC) (PySem.W.looks_findIn kX T.ini) (fun self => PySem.W.bind_fn kX self T.tyI) (by rw [sizeLine_eq]; exact Nat.zero_le _)
    (sup_init (s := ⟨(hp.push (PySem.W.kdv_tup [])).push (PySem.HandSPX.excO C hp.objs.size), g, dr, tk, os⟩) T (make_room hr) (kX.keeps kk) (lim.keeps kk) (g1.keeps kk) (b1.keeps kk) hb2 hget fun h' t' t1 k' hx => ⟨rfl, ?_⟩))
  exact h h' t' (hp.objs.size + 1) t1 (Nat.le_succ _) (fun b o e => k' b o (Nat.ne_of_lt (Nat.lt_succ_of_lt (Heap.lt_size e))) (kk b o e)) hx
def tExc0 (C : Addr) : TE := fun _ H Q => ∀ a, H a = none → Q (.ref a) (upd H a (exo a C none))
theorem pe_exc0 {k : Nat} (T : SupC X.prog X.K X.mg C fI) (hr : Room k X.A) (hg : Gl X x) (hm : X.mg x = some (.ref C)) (hdb : (x == ("__debug__" : Str)) = false := by decide) : PE X (.Call (.Name x p) [] [] pos) (tExc0 C) := by
  refine ⟨fun pins s σ H Q I h => ?_⟩
  refine wpAny_Call_Name_kw (ld_glob I hg hm ?_ hdb)
  refine PySem.W.callWith_K0 I.kIn T.oex.kC ?_
  show wpAny _ _ (call (.ref C) []) _ _ _
  refine run_exc0 T hr I fun h' tk a t1 ha k e => ?_
  exact ⟨.ref a, upd H a (exo a C none), I.laid k ha (exo_ok e), rfl, h a (I.hok.fresh ha)⟩
/-- raised at once -/
theorem pmk_exc0 {k : Nat} (T : SupC X.prog X.K X.mg C fI) (hr : Room k X.A) (hg : Gl X x) (hm : X.mg x = some (.ref C)) (hdb : (x == ("__debug__" : Str)) = false := by decide) : PMk X (.Call (.Name x p) [] [] pos) (fun _ H Q => Q (.ref C) none H) := by
  intro pins s σ H Q I h
  refine wpAny_Call_Name_kw (ld_glob I hg hm ?_ hdb)
  refine PySem.W.callWith_K0 I.kIn T.oex.kC ?_
  show wpAny _ _ (call (.ref C) []) _ _ _
  refine run_exc0 T hr I fun h' tk a t1 ha k e => ?_
  refine ⟨a, _, _, s, H, .ref C, none, rfl, I, k, ?_, e, ⟨rfl, rfl⟩, rfl, rfl, I.hok.fresh ha, rfl, I.bare, raises_own T.oex.exC T.oex.tyC, h⟩
  exact Heap.get?_none_of_le ha
end

/-! ### __init__(self, f): self.f = f -/
structure Ini1 (st : Stmt) (f : Str) : Prop where
  body : ∃ q1 q2 q3 q4, defBody st = [.Assign [.Attribute (.Name "self" q1) f q2] (.Name f q3) q4]
  sc : FnScope ["self", f] ["self", f] (defScope st)
  l0 : (defScope st).names.lookup ("self" : Str) = some .local
  l1 : (defScope st).names.lookup f = some .local
  d1 : (f == ("__debug__" : Str)) = false
  d2 : (f == ("__classdict__" : Str)) = false
def spIni1 (C : Addr) (f : Str) : Sp := fun vs H Q _ => ∃ (a : Addr) (v : V), vs = [.ref a, v] ∧ H a = some (exo a C none) ∧ ∀ dx, H dx = none → dx ≠ a → Q .non (upd (upd H dx (exd dx [(f, v)])) a (exo a C (some dx)))
section
variable {P : Program} {w : World} {K : PySem.W.Frag} {mg : Str → Option Value} {base : Heap} {C : Addr}
theorem ok_ini1 {qual f : Str} {st : Stmt} {fI : Addr} {fd : FuncData} (F : Fun K "__init__" qual st fI fd) (S : Ini1 st f) (T : OexC K C) (hno : PySem.W.findIn K (.ref C) f = some none) : FnOk P w K mg base CX0 1 fI fd ["self", f] (spIni1 C f) := by
  refine F.ok S.sc (fun vs H Q E h => ?_) (fun cdv A outer s H vs Q E hr h => ?_)
  · obtain ⟨a, v, rfl, _⟩ := h
    rfl
  · obtain ⟨a, v, rfl, ha, q⟩ := h
    obtain ⟨q1, q2, q3, q4, hb⟩ := S.body
    rw [hb]
    refine ⟨_, pss_one (ps_ost (pv 0 rfl (.inl S.l0)) (pv 1 rfl (.inl S.l1) S.d1 S.d2)), ?_⟩
    exact ⟨v, rfl, .ref a, rfl, a, C, rfl, T, hno, .inl ⟨ha, fun dx n ne => q dx n ne⟩⟩
end
theorem upd3 {H : Hp} {a d : Addr} {o1 o2 o3 : HO} (h : d ≠ a) : upd (upd (upd H a o1) d o2) a o3 = upd (upd H d o2) a o3 := by
  funext b
  by_cases e : b = a
  · rw [e, upd_same, upd_same]
  · rw [upd_ne e, upd_ne e]
    by_cases e2 : b = d
    · rw [e2, upd_same, upd_same]
    · rw [upd_ne e2, upd_ne e2, upd_ne e]
def tExc1 (C : Addr) (f : Str) (ta : TA) : TE := fun σ H Q => ta σ H fun vs H1 => ∃ v, vs = [v] ∧ ∀ a d, H1 a = none → H1 d = none → d ≠ a → Q (.ref a) (upd (upd H1 d (exd d [(f, v)])) a (exo a C (some d)))
section
variable {X : Cx} {x f : Str} {C fI : Addr} {p pos : Pos} {e : Expr} {ta : TA} {fd : FuncData}
theorem pe_exc1 {k : Nat} (T : OexC X.K C) (iC : PySem.W.findIn X.K (.ref C) "__init__" = some (some (.ref fI))) (tI : PySem.W.typeIn X.K (.ref fI) = some (.type "function")) (F1 : FnOk X.prog X.w X.K X.mg X.base CX0 1 fI fd ["self", f] (spIni1 C f)) (hr : Room (k + 2) X.A)
    (hb : Binds X.K fd ["self", f] []) (hg : Gl X x) (hm : X.mg x = some (.ref C)) (ha : PA X [e] ta) (hdb : (x == ("__debug__" : Str)) = false := by decide) (he : starEach (e :: []) X.env = (false, eval e X.env) :: starEach [] X.env := by rfl)
    (hpl : (backTo pos (starEach [] X.env)).any (·.1) = false := by rfl) : PE X (.Call (.Name x p) [e] [] pos) (tExc1 C f ta) := by
  refine ⟨fun pins s σ H Q I h => ?_⟩
  obtain ⟨nm, q, N, bs, bm, sn, sub, ab, col, dd, k0, k1, k2, k3, k5, hC, hbm⟩ := T.cls
  refine wpAny_Call_Name_kw (ld_glob I hg hm ?_ hdb)
  refine PySem.W.callWith_K (h₀ := X.base) I.ok.mod.kin T.kC (thn (ha.run pos pins s σ H _ I h) fun us s1 ⟨vs, H1, I1, r1, v, ev, q1⟩ => ⟨I1.kIn, ?_⟩) he hpl
  subst ev
  show wpAny _ _ (call (.ref C) us) _ _ _
  obtain ⟨hp, g, dr, tk, os⟩ := s1
  have hsz : hp.objs.size ≤ hp.objs.size + 1 := Nat.le_succ _
  have hn : H1 (hp.objs.size + 1) = none := I1.hok.fresh hsz
  have kk : ∀ b o, hp.get? b = some o → ((hp.push (PySem.W.kdv_tup us)).push (PySem.HandSPX.excO C hp.objs.size)).get? b = some o := fun b o e => Heap.get?_push_of_some _ (Heap.get?_push_of_some _ e)
  have hget : ((hp.push (PySem.W.kdv_tup us)).push (PySem.HandSPX.excO C hp.objs.size)).get? (hp.objs.size + 1) = some (PySem.HandSPX.excO C hp.objs.size) := by heap_get
  have I2 : Inv X pins σ (upd H1 (hp.objs.size + 1) (exo (hp.objs.size + 1) C none)) ⟨(hp.push (PySem.W.kdv_tup us)).push (PySem.HandSPX.excO C hp.objs.size), g, dr, tk, os⟩ :=
    I1.laid (t' := tk) (a := hp.objs.size + 1) (o := exo (hp.objs.size + 1) C none) (h' := (hp.push (PySem.W.kdv_tup us)).push (PySem.HandSPX.excO C hp.objs.size)) kk hsz (exo_ok hget)
  have r2 : Vals [V.ref (hp.objs.size + 1), v] (Value.ref (hp.objs.size + 1) :: us) := .cons rfl r1
  have hl1 : us.length = 1 := by rw [← Paired.length r1] <;> rfl
  have hl : (Value.ref (hp.objs.size + 1) :: us ++ []).length = (["self", f] : List Str).length := by
    rw [List.append_nil, List.length_cons, hl1] <;> rfl
  have hus : us.length ≤ sizeLine := by
    rw [hl1, sizeLine_eq]
    omega
  have b2 := hb _ (Value.ref (hp.objs.size + 1) :: us) I2.kIn hl
  rw [List.append_nil] at b2
  have hq : spIni1 C f [V.ref (hp.objs.size + 1), v] (upd H1 (hp.objs.size + 1) (exo (hp.objs.size + 1) C none)) (fun z H2 => z = .non ∧ Q (.ref (hp.objs.size + 1)) H2) E0 := by
    refine ⟨_, v, rfl, upd_same, fun dx n ne => ⟨rfl, ?_⟩⟩
    rw [upd_ne ne] at n
    rw [upd3 ne]
    exact q1 _ dx hn n ne
  refine wpAny_call (PySem.HandSPX.call_own F.excBase_ValueError (fun Y => PySem.HandSPX.refsVE_contains Y bm hbm) (I1.kIn _ _ hC) (PySem.W.looks_findIn I1.kIn iC) (fun self => PySem.W.bind_fn I1.kIn self tI) hus
    (codeAny_mono (F1.run _ X.stack _ _ ⟨Value.ref (hp.objs.size + 1) :: us, []⟩ (Value.ref (hp.objs.size + 1) :: us) _ _ E0 ((hr.mono (by omega : 1 + 1 ≤ k + 2)).make C us []) (I2.env0.make C us []) b2 r2 hq) fun r s' hq' => ?_))
  cases r with
  | error er => exact False.elim hq'
  | ok fl =>
    cases fl with
    | ret u =>
      obtain ⟨z, H', I3, rz, ez, q3⟩ := I2.after hq'
      subst ez
      exact ⟨rz, ⟨V.ref (hp.objs.size + 1), H', I3, rfl, q3⟩⟩
    | next => exact False.elim hq'
    | brk => exact False.elim hq'
    | cont => exact False.elim hq'
end

/-! ### isinstance -/
/-- at a stands an own error of the class at C -/
def ErrAt (H : Hp) (a C : Addr) : Prop := H a = some (exo a C none) ∨ ∃ d fs, H a = some (exo a C (some d)) ∧ H d = some (exd d fs)
theorem err_inst {X : Cx} {pins : List (Addr × Obj)} {σ : L2.St} {H : Hp} {s : Shared} {a C : Addr} (I : Inv X pins σ H s) (h : ErrAt H a C) : ∃ ox od, PySem.W.InstAt s.heap a ox C od := by
  rcases h with h | ⟨d, fs, h, hd⟩
  · obtain ⟨t1, e⟩ := exo_at I.hok h
    exact ⟨_, none, e, rfl, rfl, trivial⟩
  · obtain ⟨t1, e⟩ := exo_at I.hok h
    obtain ⟨mA, ⟨o, es, ep, ho, _⟩, _⟩ := exd_at I.hok hd
    exact ⟨_, some o, e, rfl, rfl, ho⟩
/-- isinstance(e, c), e an own error -/
def rIsX (K : PySem.W.Frag) : List V → Hp → VK → Prop := fun xs H Q => ∃ (a C : Addr) (c : V) (cv : Value) (b : Bool), xs = [.ref a, c] ∧ ErrAt H a C ∧ ExcC K C ∧ ClsV c cv ∧ PySem.W.kitOne K (.ref C) cv = some b ∧ Q (.bl b) H
theorem call_isX {X : Cx} : CallR X (.builtin "isinstance") (rIsX X.K) := by
  intro pins s σ H xs us Q I r h
  obtain ⟨a, C, c, cv, b, rfl, ea, T, k, e, q⟩ := h
  obtain ⟨u1, u2, rfl, r1, r2⟩ := vals2 r
  have e2 := k.eq r2
  subst e2
  obtain rfl : u1 = Value.ref a := r1
  obtain ⟨ox, od, J⟩ := err_inst I ea
  have hcl : (PySem.W.clsIn X.K C).isSome = true := by
    obtain ⟨cd, hc, _⟩ := PySem.W.any_some T.hd
    rw [hc]
    rfl
  exact PySem.W.kia_one (PySem.W.kitx_exc hcl T.hg T.hk T.hs T.ha T.hn T.ht T.hm) I.kIn J e (fun z => nomatch z) fun tk => ⟨.bl b, H, I.tok tk, rfl, q⟩
/-- e.n, e an own error -/
def tErrF (K : PySem.W.Frag) (n : Str) (te : TE) : TE := fun σ H Q => te σ H fun x H1 => ∃ (a C d : Addr) (fs : List (Str × V)) (v : V), x = .ref a ∧ H1 a = some (exo a C (some d)) ∧ H1 d = some (exd d fs) ∧ fs.lookup n = some v ∧ XfC K C ∧ PySem.W.findIn K (.ref C) n = some none ∧ Q v H1
theorem pe_errF {X : Cx} {e : Expr} {te : TE} {pos : Pos} {n : Str} (he : PE X e te) (hb : attributeBase e n X.env (eval e X.env) = eval e X.env := by rfl) : PE X (.Attribute e n pos) (tErrF X.K n te) := by
  refine ⟨fun pins s σ H Q I h => ?_⟩
  refine attr_of hb (thn (he.run pins s σ H _ I h) fun u s1 hh => ?_)
  obtain ⟨x, H1, I1, rx, a, C, d, fs, v, ex, ea, ed, l, T, hno, q⟩ := hh
  subst ex
  obtain rfl : u = Value.ref a := rx
  obtain ⟨t1, e1⟩ := exo_at I1.hok ea
  obtain ⟨mA, hns, hr⟩ := exd_at I1.hok ed
  obtain ⟨od, ho, hl⟩ := lookIn_ns hns
  obtain ⟨u, hu, ru⟩ := RelO.some_of (v := v) (o := mA n) (by rw [← l]; exact hr n)
  have J : PySem.W.InstAt s1.heap a _ C (some od) := ⟨e1, rfl, rfl, ho⟩
  exact HandSPX.exc_get I1.kIn J T.ga T.gg T.exC (PySem.W.findObj_own T.hdC hno rfl (by rw [hl, hu])) (handed_of ru) ⟨v, H1, I1.tok _, ru, q⟩
end Ev
set_option maxHeartbeats 4000000
/-! try with several clauses «except X as n», the name the same in all of them. -/
namespace Ev
open PySem PySem.Spec PyProof.Rows L2
/-- behind a suite the name's slot (i) is empty -/
def offS (i : Nat) (D : Ends) : Ends := { nx := fun σ' H' => D.nx (σ'.set i none) H', rt := D.rt, bk := fun σ' H' => D.bk (σ'.set i none) H', ct := fun σ' H' => D.ct (σ'.set i none) H' }
def wManyAs (K : PySem.W.Frag) (i : Nat) (Wout : WX) (D : Ends) : List (Value × (Addr → Value → Option Addr → TS)) → WX
  | [] => Wout
  | (c, ts) :: r => fun cls d σ H => ∃ b, PySem.W.exmOne K cls c = some b ∧ (b = true → ∀ a, H a = none → ts a cls d (offS i D) (σ.set i (some (.ref a))) H) ∧ (b = false → wManyAs K i Wout D r cls d σ H)
inductive HdsAs (X : Cx) (n : Str) : List ExceptHandler → List (Value × (Addr → Value → Option Addr → TS)) → Prop
  | nil : HdsAs X n [] []
  | cons {x : Str} {c : Value} {ts : Addr → Value → Option Addr → TS} {b₀ : Stmt} {suite : List Stmt} {np pos' : Pos} {hds : List ExceptHandler} {l : List (Value × (Addr → Value → Option Addr → TS))} (hc : Names X x c)
      (hsu : ∀ (a : Addr) (oe : Obj) (cls : Value) (d : Option Addr) (pn : List (Addr × Obj)), Zc cls d oe → (∃ vs, oe.data = .fields vs) → PSs (X.suite a ((a, oe) :: pn)) (b₀ :: suite) (ts a cls d)) (r : HdsAs X n hds l) :
      HdsAs X n (.ExceptHandler (some (.Name x np)) (some n) (b₀ :: suite) pos' :: hds) ((c, ts) :: l)
section
variable {X : Cx} {body : List Stmt} {h₀ : ExceptHandler} {hds : List ExceptHandler} {l : List (Value × (Addr → Value → Option Addr → TS))} {pos : Pos} {tb : WX → TS} {Wout : WX} {n : Str} {i : Nat}
theorem ps_try_manyAs (hs : X.stack = X.env :: X.outer) (hf : X.env.frame = some X.env.locals) (hN : X.N.Nodup) (hi : X.N[i]? = some n) (hln : X.env.kindOf n = some .local) (tk : Takes X Wout)
    (hb : ∀ (W : WX) (pn : List (Addr × Obj)) (xe : Value → Shared → Prop), Takes (X.tr pn xe) W → PassesOwn (model X.prog X.w) X.A X.env xe → PSs (X.tr pn xe) body (tb W))
    (hh : HdsAs X n (h₀ :: hds) l) : PS X (.Try body (h₀ :: hds) [] [] pos) (fun D σ H => tb (wManyAs X.K i Wout D l) D σ H) := by
  refine ⟨fun pins s σ H D I h => ?_⟩
  have ok := I.ok
  have hfr : X.A.frames = some (X.env :: X.outer) := by rw [ok.frames, hs]
  have hloc : Loc X.env.scope n := .inl hln
  refine wpAny_Try_except (wpAny_mono ((hb (wManyAs X.K i Wout D l) (X.pn ++ pins) (fun e s₁ => wpAny (model X.prog X.w) X.A (noteFrame e X.env) (fun _ s₂ => wpAny (model X.prog X.w) X.A (setFlight e none) (fun _ s₃ =>
    wpAny (model X.prog X.w) X.A (handleBy e X.env (h₀ :: hds)) (SP X pins D) X.xe s₃) X.xe s₂) X.xe s₁) (fun u s' xx => ?_) PassesOwn.looking).run [] s σ H D (I.toTry _) h) (fun f s1 hsp => ?_) (fun e s1 he => he))
  · obtain ⟨a, B, sI, pins', σ', H', cls, d, rfl, J', nb, up, sky, na, os, ag, w⟩ := xx
    have J : L2.Inv X pins σ' H' sI := J'.ofTry ok
    have sky' : Sky B (X.env :: X.outer) a (Zc cls d) X.env.locals s'.heap := by rw [← hs]; exact sky
    refine Sky.land Zc.steady hfr hf sky' fun h3 fl3 up3 => ?_
    have J3 : L2.Inv X pins σ' H' { s' with heap := h3 } := J.landed nb fl3.1 (up.trans up3) os ag
    obtain ⟨oe3, vs3, he3, hz3, hd3⟩ := fl3.there
    have nfr : a ∉ frs (X.env :: X.outer) := fun hm => by
      obtain ⟨_, o', e', hnf⟩ := fl3.2.2.1.mem hm
      rw [he3] at e'; cases e'
      exact hnf _ hd3
    have nL : a ≠ X.env.locals := fun z => nfr (List.mem_filterMap.mpr ⟨X.env, List.mem_cons_self, by rw [hf, z]⟩)
    have nF : a ∉ X.fs := fun hm => by
      obtain ⟨e, he, q⟩ := List.mem_filterMap.mp hm
      exact nfr (List.mem_filterMap.mpr ⟨e, List.mem_cons_of_mem _ he, q⟩)
    have S3 := J3.suite he3 hd3 na nL nF
    have LT : PySem.W.Looks (model X.prog X.w) h3 (typeOf (.ref a)) cls := fun A Q E s k q => wpAny_typeOf_ref (k _ _ he3) (by rw [hz3.1]; exact q)
    have go : ∀ {hds' : List ExceptHandler} {l' : List (Value × (Addr → Value → Option Addr → TS))}, HdsAs X n hds' l' → wManyAs X.K i Wout D l' cls d σ' H' →
        wpAny (model X.prog X.w) X.A (handleBy (.ref a) X.env hds') (SP X pins D) X.xe { s' with heap := h3 } := by
      intro hds' l' hk
      induction hk with
      | nil =>
        intro w
        refine wpAny_handleBy_nil ?_
        obtain ⟨k1, k2, k3, oe, vs, T, oT, ts', he, hz, hd, h1, hr⟩ := id fl3
        unfold PySem.passOn
        refine wpAny_bind (wpAny_field he hd h1 ?_)
        rw [if_neg (show ¬ ((Value.ref T == Value.none) = true) from by simp)]
        have fin : wpAny (model X.prog X.w) X.A (setFlight (.ref a) X.env.frame) (fun _ s4 => wpAny (model X.prog X.w) X.A (throw (.ref a) : Sem Flow) (SP X pins D) X.xe s4) X.xe { s' with heap := h3 } := by
          rw [hf]
          refine HandSPX.setFlight_upZ fl3 fun h4 hh4 up4 => wpAny_throw (tk _ _ ?_)
          exact ⟨a, B, sI, pins, σ', H', cls, d, rfl, J, nb, (up.trans up3).trans up4, .inr (.inr (by rw [hs]; exact hh4)), na, os, ag, w⟩
        first
          | exact wpAny_bind (wpAny_pure (wpAny_bind fin))
          | exact wpAny_bind fin
      | @cons x c ts b₀ suite np pos' hds2 l2 hc hsu r ih =>
        intro w
        obtain ⟨b, hb1, hyes, hno⟩ := w
        refine wpAny_handleBy_cons (codeAny_handlers_test ?_) (by intro q; cases q)
        have LM := PySem.W.exm_one (M := model X.prog X.w) (J3.kIn) LT hb1
        have test : ∀ {Q : Value → Shared → Prop} {E : Value → Shared → Prop}, Q c { s' with heap := h3 } → wpAny (model X.prog X.w) (X.A.mark (some (.ref a))) (eval (.Name x np) X.env) Q E { s' with heap := h3 } := fun {Q E} q => by
          obtain ⟨hg, hdbg, hm | ⟨hm, hv, hnn⟩⟩ := hc
          · exact ld_glob (X := X.suite a ((a, oe3) :: (X.pn ++ pins))) S3 hg hm q hdbg
          · exact ld_blt (X := X.suite a ((a, oe3) :: (X.pn ++ pins))) S3 hg hm hv q hnn hdbg
        refine test (LM.here ?_)
        cases b with
        | true =>
          refine codeAny_handlers_suite_as (HandSPX.lands_againZ fl3 fun h4 fl4 up4 => ?_)
          have J4 : L2.Inv X pins σ' H' { s' with heap := h4 } := J.landed nb fl4.1 ((up.trans up3).trans up4) os ag
          obtain ⟨oe4, vs4, he4, hz4, hd4⟩ := fl4.there
          refine store_ok (X := X.suite a ((a, oe4) :: (X.pn ++ pins))) (v := .ref a) (J4.suite he4 hd4 na nL nF) hN hi hloc rfl (fun s5 S5 => ?_) (.inr hln)
          refine wpAny_mono ((hsu a oe4 cls d (X.pn ++ pins) hz4 ⟨_, hd4⟩).run [] s5 _ H' _ S5 (hyes rfl a na)) (fun f s6 hsp => ?_) (fun _ _ z => False.elim z)
          cases f with
          | next =>
            obtain ⟨σ6, H6, S6, q6⟩ := hsp
            exact gone_ok (S6.unsuite ok) hN hi hln fun s7 J7 => ⟨_, _, J7, q6⟩
          | brk =>
            obtain ⟨σ6, H6, S6, q6⟩ := hsp
            exact gone_ok (S6.unsuite ok) hN hi hln fun s7 J7 => ⟨_, _, J7, q6⟩
          | cont =>
            obtain ⟨σ6, H6, S6, q6⟩ := hsp
            exact gone_ok (S6.unsuite ok) hN hi hln fun s7 J7 => ⟨_, _, J7, q6⟩
          | ret u =>
            obtain ⟨v6, σ6, H6, S6, r6, q6⟩ := hsp
            exact gone_ok (S6.unsuite ok) hN hi hln fun s7 J7 => ⟨_, _, _, J7, r6, q6⟩
        | false => exact ih (hno rfl)
    exact go hh w
  · cases f with
    | next =>
      obtain ⟨σ', H', J', q⟩ := hsp
      exact wpAny_execs_nil ⟨σ', H', J'.ofTry ok, q⟩
    | brk =>
      obtain ⟨σ', H', J', q⟩ := hsp
      exact ⟨σ', H', J'.ofTry ok, q⟩
    | cont =>
      obtain ⟨σ', H', J', q⟩ := hsp
      exact ⟨σ', H', J'.ofTry ok, q⟩
    | ret u =>
      obtain ⟨v, σ', H', J', r, q⟩ := hsp
      exact ⟨v, σ', H', J'.ofTry ok, r, q⟩
end
end Ev
set_option maxHeartbeats 8000000
namespace LawK
open PySem PySem.Spec PyProof.Rows L2 Ev
abbrev veT : List Value := [.type "ValueError", .type "Exception", .type "BaseException", .type "object"]
/-- an own error class at C, over the one at PE -/
structure ErC (K : PySem.W.Frag) (PE C : Addr) : Prop where
  oex : OexC K C
  isx : ExcC K C
  xf : XfC K C
  mro : ∃ cd, PySem.W.clsIn K C = some cd ∧ cd.mro = .ref C :: .ref PE :: veT
  isT : PySem.W.typeIn K (.ref C) = some (.type "type")
section
variable {K : PySem.W.Frag} {PE C D : Addr}
theorem ErC.sub (T : ErC K PE C) (b : Value) : PySem.W.subIn K (.ref C) b = some ((Value.ref C :: .ref PE :: veT).contains b) := by
  obtain ⟨cd, h1, h2⟩ := T.mro
  show (PySem.W.clsIn K C).bind _ = _
  rw [h1, Option.bind_some, h2]
  rfl
theorem kit_at (TD : ErC K PE D) (T : ErC K PE C) (n : D ≠ PE) : PySem.W.kitOne K (.ref C) (.ref D) = some (decide (C = D)) := by
  unfold PySem.W.kitOne
  by_cases e : C = D
  · subst e
    rw [if_pos (by simp), decide_eq_true rfl]
  · rw [if_neg (by simpa using e), decide_eq_false e]
    obtain ⟨cd, h1, h2⟩ := TD.mro
    show (if ((PySem.W.clsIn K D).isSome && PySem.W.typeIn K (.ref D) == some (.type "type")) = true then PySem.W.subIn K (.ref C) (.ref D) else none) = some false
    rw [if_pos (by rw [h1, TD.isT]; rfl), T.sub]
    have e2 : D ≠ C := fun z => e z.symm
    simp [veT, e2, n]
end
/-- an error class without a field -/
structure Cls0 (P : Program) (K : PySem.W.Frag) (mg : Str → Option Value) (PE : Addr) (x : Str) (C : Addr) : Prop where
  er : ErC K PE C
  ne : C ≠ PE
  sup : ∃ fI, SupC P K mg C fI
  g : mg x = some (.ref C)
/-- an error class with the field f -/
structure Cls1 (K : PySem.W.Frag) (mg : Str → Option Value) (PE : Addr) (x f : Str) (C : Addr) : Prop where
  er : ErC K PE C
  ne : C ≠ PE
  g : mg x = some (.ref C)
  ini : ∃ (fI : Addr) (fd : FuncData) (st : Stmt) (qual : Str), Fun K "__init__" qual st fI fd ∧ Ini1 st f ∧ Binds K fd ["self", f] [] ∧ PySem.W.findIn K (.ref C) "__init__" = some (some (.ref fI)) ∧ PySem.W.typeIn K (.ref fI) = some (.type "function")
  hno : PySem.W.findIn K (.ref C) f = some none
section
variable {X : Cx} {x f : Str} {PE C : Addr} {p pos : Pos} {e : Expr} {ta : TA} {k : Nat}
theorem pe_c0 (T : Cls0 X.prog X.K X.mg PE x C) (hr : Room k X.A) (hg : Gl X x := by rfl) (hdb : (x == ("__debug__" : Str)) = false := by decide) : L2.PE X (.Call (.Name x p) [] [] pos) (tExc0 C) := by
  obtain ⟨fI, S⟩ := T.sup
  exact pe_exc0 S hr hg T.g hdb
theorem pe_c1 (T : Cls1 X.K X.mg PE x f C) (hr : Room (k + 2) X.A) (ha : PA X [e] ta) (hg : Gl X x := by rfl) (hdb : (x == ("__debug__" : Str)) = false := by decide) (he : starEach (e :: []) X.env = (false, eval e X.env) :: starEach [] X.env := by rfl)
    (hpl : (backTo pos (starEach [] X.env)).any (·.1) = false := by rfl) : L2.PE X (.Call (.Name x p) [e] [] pos) (tExc1 C f ta) := by
  obtain ⟨fI, fd, st, qual, F1, S1, b1, iC, tI⟩ := T.ini
  exact pe_exc1 T.er.oex iC tI (ok_ini1 F1 S1 T.er.oex T.hno) hr b1 hg T.g ha hdb he hpl
def tMk1 (C : Addr) (f : Str) (ta : TA) : L2.St → Hp → XK → Prop := fun σ H Q => ta σ H fun vs H1 => ∃ v, vs = [v] ∧ ∀ d, H1 d = none → Q (.ref C) (some d) (upd H1 d (.xd [(f, v)]))
theorem del_upd {H : Hp} {a d : Addr} {o1 o2 o3 u : HO} (ha : H a = none) (hd : d ≠ a) : upd (del (upd (upd (upd H a o1) d o2) a o3) a) d u = upd H d u := by
  funext b
  by_cases e : b = d
  · rw [e, upd_same, upd_same]
  · rw [upd_ne e, upd_ne e]
    by_cases e2 : b = a
    · rw [e2, del_same, ha]
    · rw [del_ne e2, upd_ne e2, upd_ne e, upd_ne e2]
theorem pmk_c1 (T : Cls1 X.K X.mg PE x f C) (hr : Room (k + 2) X.A) (ha : PA X [e] ta) (hg : Gl X x := by rfl) (hdb : (x == ("__debug__" : Str)) = false := by decide) (he : starEach (e :: []) X.env = (false, eval e X.env) :: starEach [] X.env := by rfl)
    (hpl : (backTo pos (starEach [] X.env)).any (·.1) = false := by rfl) (hm : ∀ {σ : L2.St} {H : Hp} {Q1 Q2 : List V → Hp → Prop}, (∀ vs H1, Q1 vs H1 → Q2 vs H1) → ta σ H Q1 → ta σ H Q2) : PMk X (.Call (.Name x p) [e] [] pos) (tMk1 C f ta) := by
  obtain ⟨fI, fd, st, qual, F1, S1, b1, iC, tI⟩ := T.ini
  intro pins s σ H Q I h
  refine pmk_oex (CX := CX0) (k := 1) (sp := spIni1 C f) (ds := []) (dvs := []) T.er.oex iC tI (ok_ini1 F1 S1 T.er.oex T.hno) (hr.mono (by omega)) b1 .nil (fun _ _ _ _ _ _ _ z => z.elim) hg T.g ha hdb he hpl pins s σ H Q I (hm (fun vs H1 q => ?_) h)
  obtain ⟨v, rfl, q⟩ := q
  refine ⟨by show 1 ≤ 1000; decide, fun a na => ⟨a, v, rfl, upd_same, fun dx n ne => ⟨rfl, dx, _, upd_same, by rw [upd_ne ne, upd_same], ?_, ?_⟩⟩⟩
  · rw [upd_ne ne] at n
    exact n
  · rw [del_upd na ne]
    rw [upd_ne ne] at n
    exact q dx n
end
structure BaseX (K : PySem.W.Frag) (PE : Addr) : Prop where
  sub : PySem.W.subIn K (.ref PE) (.type "BaseException") = some true
  hd : PySem.W.hasDictIn K PE = true
  isT : PySem.W.typeIn K (.ref PE) = some (.type "type")
section
variable {K : PySem.W.Frag} {PE : Addr}
theorem exm_at {C D : Addr} (TD : ErC K PE D) (T : ErC K PE C) (n : D ≠ PE) : PySem.W.exmOne K (.ref C) (.ref D) = some (decide (C = D)) := by
  refine PySem.W.exm_ref TD.isx.hs TD.isx.hd TD.isT ?_
  rw [T.sub]
  by_cases e : C = D
  · subst e
    simp
  · have e2 : D ≠ C := fun z => e z.symm
    rw [decide_eq_false e]
    simp [veT, e2, n]
theorem exm_base {C : Addr} (B : BaseX K PE) (T : ErC K PE C) : PySem.W.exmOne K (.ref C) (.ref PE) = some true := by
  refine PySem.W.exm_ref B.sub B.hd B.isT ?_
  rw [T.sub]
  simp [veT]
theorem tCons1 {i j : Nat} {σ : L2.St} {H : Hp} {Q1 Q2 : List V → Hp → Prop} (h : ∀ vs H1, Q1 vs H1 → Q2 vs H1) : tCons (tVar i) tNil σ H Q1 → tCons (tVar i) tNil σ H Q2 := fun ⟨v, e, q⟩ => ⟨v, e, h _ _ q⟩
end
def chkE (K : PySem.W.Frag) (C : Addr) : Bool := xfB K C && (decide (PySem.W.typeIn K (.ref C) = some (.type "type")) && (PySem.W.keepIn K (.ref C) && (decide (PySem.W.findIn K (.ref C) "__class__" = some (some (.builtin "object.__class__"))) && decide (PySem.W.mroIn K C (.type "object") = some true))))
def chkC (K : PySem.W.Frag) (PE C : Addr) : Bool := chkE K C && (decide (PySem.W.findIn K (.ref C) "__setattr__" = some (some (.builtin "object.__setattr__"))) && decide (C ≠ PE))
structure Sh (K : PySem.W.Frag) : Prop where
  hn : PySem.W.specialIn K (.builtin "object.__class__") "__get__" = some (some (.builtin "getset_descriptor.__get__"))
  ht : PySem.W.takesIn K (.builtin "object.__class__") = some true
structure Sh0 (P : Program) (K : PySem.W.Frag) (mg : Str → Option Value) : Prop extends Sh K where
  gs : mg "super" = none
  top : (P.main.scope.names.lookup ("super" : Str)).isSome = false
  third : PySem.W.nsIn K cStatics "thirdparty.any" = some none
structure CkE (K : PySem.W.Frag) (C : Addr) : Prop where
  xf : XfC K C
  isT : PySem.W.typeIn K (.ref C) = some (.type "type")
  kp : PySem.W.keepIn K (.ref C) = true
  ha : PySem.W.findIn K (.ref C) "__class__" = some (some (.builtin "object.__class__"))
  hm : PySem.W.mroIn K C (.type "object") = some true
theorem chkE_ok {K : PySem.W.Frag} {C : Addr} (h : chkE K C = true) : CkE K C := by
  obtain ⟨h1, h⟩ := Bool.and_eq_true_iff.mp h
  obtain ⟨h2, h⟩ := Bool.and_eq_true_iff.mp h
  obtain ⟨h3, h⟩ := Bool.and_eq_true_iff.mp h
  obtain ⟨h4, h5⟩ := Bool.and_eq_true_iff.mp h
  exact ⟨xfB_ok h1, of_decide_eq_true h2, h3, of_decide_eq_true h4, of_decide_eq_true h5⟩
theorem CkE.isx {K : PySem.W.Frag} {C : Addr} (T : CkE K C) (S : Sh K) : ExcC K C := ⟨T.xf.ga, T.xf.gg, T.xf.exC, T.xf.hdC, T.ha, S.hn, S.ht, T.hm⟩
section
variable {P : Program} {w : World} {K : PySem.W.Frag} {mg : Str → Option Value} {h : Heap} {PE C fI : Addr} {x f qual : Str} {nm q : Str} {N : Addr} {bs : List Value} {sn : List Str} {sub : List Value} {ab : Bool} {col : Option Bool} {dd : Option Addr} {k0 k1 k2 k3 k5 : Option Value}
theorem mro_of {bm : List Value} {id : String} (lC : K.lookup C = some (excClassObj nm q C N bs bm true sn sub ab col dd k0 k1 k2 k3 k5 id)) : ∃ cd, PySem.W.clsIn K C = some cd ∧ cd.mro = .ref C :: bm := by
  have e : PySem.W.clsIn K C = some { name := nm, bases := bs, mro := .ref C :: bm, ns := N, qualname := q, hasDict := true, slotNames := sn, subclasses := sub, abstract := ab, collection := col, hasDel := false } := by
    unfold PySem.W.clsIn
    rw [lC]
  exact ⟨_, e, rfl⟩
theorem er_mk (S : Sh K) (lC : K.lookup C = some (excClassObj nm q C N bs (.ref PE :: veT) true sn sub ab col dd k0 k1 k2 k3 k5 "ValueError.__new__")) (ck : chkC K PE C = true) : ErC K PE C ∧ C ≠ PE := by
  obtain ⟨c1, c2⟩ := Bool.and_eq_true_iff.mp ck
  obtain ⟨c2, c3⟩ := Bool.and_eq_true_iff.mp c2
  have T := chkE_ok c1
  exact ⟨⟨⟨⟨nm, q, N, bs, _, sn, sub, ab, col, dd, k0, k1, k2, k3, k5, lC, (show PySem.HandSPX.refsVE veT = true by decide +kernel)⟩, of_decide_eq_true c2, T.xf.exC, T.isT, T.kp⟩, T.isx S, T.xf, mro_of lC, T.isT⟩, of_decide_eq_true c3⟩
theorem say {K : PySem.W.Frag} {h : Heap} (X : K.In h) (T : PySem.W.Frag → Prop) {g : Prop} (a : T K) (k : T K → g) : g := k a
def chk1 (K : PySem.W.Frag) (PE C fI : Addr) (f : Str) (cd : Value) (qual : Str) : Bool := chkC K PE C && (decide (PySem.W.typeIn K (.ref fI) = some (.type "function")) && (PySem.W.codeIn K cd qual && (PySem.W.keepIn K (.ref fI) && decide (PySem.W.findIn K (.ref C) f = some none))))
theorem cls1_mk {st : Stmt} {oc kV dc pm cd ct : Value} {od an : Option Addr} {sl : Array (Option Value)} (X : K.In h) (G : h.Ns mainGlobals mg) (S : Sh K)
    (i1 : Ini1 st f) (hb : ∀ (kV doc pm : Value) (an : Option Addr) (cdv ct : Value) (us : List Value), us.length = 2 → bindArgs (PySem.W.fnOf "__init__" qual (defArgs st) (defBody st) (defScope st) .none kV doc pm an cdv ct) ⟨us, []⟩ = pure ((["self", f] : List Str).zip us))
    (aC : PySem.W.nsIn K mainGlobals x = some (some (.ref C))) (lC : K.lookup C = some (excClassObj nm q C N bs (.ref PE :: veT) true sn sub ab col dd k0 k1 k2 k3 k5 "ValueError.__new__"))
    (iC : PySem.W.findIn K (.ref C) "__init__" = some (some (.ref fI))) (lI : K.lookup fI = some ⟨oc, od, .func (PySem.W.fnOf "__init__" qual (defArgs st) (defBody st) (defScope st) .none kV dc pm an cd ct), sl⟩)
    (ck : chk1 K PE C fI f cd qual = true) : Cls1 K mg PE x f C := by
  obtain ⟨c1, c2⟩ := Bool.and_eq_true_iff.mp ck
  obtain ⟨c2, c3⟩ := Bool.and_eq_true_iff.mp c2
  obtain ⟨c3, c4⟩ := Bool.and_eq_true_iff.mp c3
  obtain ⟨c4, c5⟩ := Bool.and_eq_true_iff.mp c4
  obtain ⟨e, n⟩ := er_mk S lC c1
  have F1 := fun_mk (st := st) lI c3 c4
  exact ⟨e, n, PySem.W.mg_of X G aC, ⟨fI, _, st, qual, F1, i1, F1.binds (ps := ["self", f]) hb, iC, of_decide_eq_true c2⟩, of_decide_eq_true c5⟩
def chk0 (K : PySem.W.Frag) (PE C fI : Addr) (cd : Value) (qual : Str) : Bool := chkC K PE C && (decide (PySem.W.typeIn K (.ref fI) = some (.type "function")) && (PySem.W.codeIn K cd qual && (decide (PySem.W.ks_superIn K C C "__init__" = some (some (.builtin "ValueError.__init__"))) && (decide (PySem.W.subIn K (.ref C) (.type "ValueError") = some true) && decide (PySem.W.mroIn K C (.ref C) = some true)))))
theorem cls0_mk {oc kV dc pm ct : Value} {od an : Option Addr} {cda cc : Addr} {osl : Array (Option Value)} {p p0 p1 p2 p3 p4 : Pos} {ccl : Value} {cdd : Option Addr} {vs : Array Value} {ccs : Array (Option Value)} {file : Str} {tf : Tok} {cl : Value} {cld : Option Addr} {csl : Array (Option Value)}
    (X : K.In h) (G : h.Ns mainGlobals mg) (S : Sh0 P K mg)
    (aC : PySem.W.nsIn K mainGlobals x = some (some (.ref C))) (lC : K.lookup C = some (excClassObj nm q C N bs (.ref PE :: veT) true sn sub ab col dd k0 k1 k2 k3 k5 "ValueError.__new__"))
    (iC : PySem.W.findIn K (.ref C) "__init__" = some (some (.ref fI)))
    (lI : K.lookup fI = some ⟨oc, od, .func (PySem.W.ksFn "__init__" qual (supArgs p) (supBody p0 p1 p2 p3 p4) supScope .none kV dc pm an (.ref cda) ct cc), osl⟩)
    (lD : K.lookup cda = some ⟨ccl, cdd, .fields vs, ccs⟩) (lc : K.lookup cc = some ⟨cl, cld, .cell (some (.ref C)), csl⟩)
    (v2 : vs[2]? = some (.str file tf)) (vf : ((P.main.file : Str) == file) = true) (pl : (p2.endLine == p3.line) = true)
    (ck : chk0 K PE C fI (.ref cda) qual = true) : Cls0 P K mg PE x C := by
  obtain ⟨c1, c2⟩ := Bool.and_eq_true_iff.mp ck
  obtain ⟨c2, c3⟩ := Bool.and_eq_true_iff.mp c2
  obtain ⟨c3, c4⟩ := Bool.and_eq_true_iff.mp c3
  obtain ⟨c4, c5⟩ := Bool.and_eq_true_iff.mp c4
  obtain ⟨c5, c6⟩ := Bool.and_eq_true_iff.mp c5
  obtain ⟨e, n⟩ := er_mk S.toSh lC c1
  exact ⟨e, n, ⟨fI, e.oex, iC, of_decide_eq_true c2, ⟨oc, od, qual, kV, dc, pm, ct, an, cda, cc, osl, p, p0, p1, p2, p3, p4, ccl, cdd, vs, ccs, file, tf, cl, cld, csl, lI, c3, lD, v2, vf, lc, pl⟩, S.gs, S.top, S.third, of_decide_eq_true c4, of_decide_eq_true c5, of_decide_eq_true c6⟩, PySem.W.mg_of X G aC⟩
theorem sh0_mk (X : K.In h) (G : h.Ns mainGlobals mg) (hn : PySem.W.specialIn K (.builtin "object.__class__") "__get__" = some (some (.builtin "getset_descriptor.__get__"))) (ht : PySem.W.takesIn K (.builtin "object.__class__") = some true)
    (gs : PySem.W.nsIn K mainGlobals "super" = some none) (top : (P.main.scope.names.lookup ("super" : Str)).isSome = false) (third : PySem.W.nsIn K cStatics "thirdparty.any" = some none) : Sh0 P K mg := ⟨⟨hn, ht⟩, PySem.W.mg_none_of X G gs, top, third⟩
end
end LawK
set_option maxHeartbeats 4000000
namespace LawK
open PySem PySem.Spec PyProof.Rows L2 Ev

def spLaw (K : PySem.W.Frag) : Sp := fun vs H Q _ => ∃ (a : Addr) (ns : List Int), vs = [.ref a] ∧ SqL K H a (ns.map V.int) ∧ ∀ H', Q (.bl true) H'
abbrev sLaw : Stmt := topS 35
theorem scLaw : FnScope ["script", "hand", "turn", "text", "some", "told", "one", "odd", "is_so", "again", "period", "many", "part"] ["script"] (defScope sLaw) := ⟨rfl, rfl, rfl, by decide +kernel, rfl, by decide +kernel, by decide +kernel⟩
section
variable {P : Program} {w : World} {K : PySem.W.Frag} {mg : Str → Option Value} {base : Heap}

theorem ok_law {f : Addr} {fd : FuncData} (F : Fun K "law" "law" sLaw f fd) {fPPeriods : Addr} {fdPPeriods : FuncData} (DPPeriods : Dk P w K mg base "periods" sPPeriods ["text"] 3 spPeriods fPPeriods fdPPeriods) {fPBorders : Addr} {fdPBorders : FuncData} (DPBorders : Dk P w K mg base "borders" sPBorders ["text"] 3 spBorders fPBorders fdPBorders) {fPRuns : Addr} {fdPRuns : FuncData} (DPRuns : Dk P w K mg base "runs" sPRuns ["text"] 3 spRuns fPRuns fdPRuns) {fPIsRun : Addr} {fdPIsRun : FuncData} (DPIsRun : Dk P w K mg base "is_run" sPIsRun ["text", "thing"] 3 spIsRun fPIsRun fdPIsRun) {fHand : Addr} {fdHand : FuncData} (DHand : Dk P w K mg base "_law_hand" sHand ["script"] 1 (spHand K) fHand fdHand) {fDraw : Addr} {fdDraw : FuncData} (DDraw : Dk P w K mg base "_law_draw" sDraw ["hand", "many"] 1 spDraw fDraw fdDraw) {fIsInt : Addr} {fdIsInt : FuncData} (DIsInt : Dk P w K mg base "_law_is_int" sIsInt ["thing", "least", "most"] 1 spIn fIsInt fdIsInt) {fText : Addr} {fdText : FuncData} (DText : Dk P w K mg base "_law_text" sText ["hand", "signs", "most"] 3 spLText fText fdText) {fSigns : Addr} {fdSigns : FuncData} (DSigns : Dk P w K mg base "_law_signs" sSigns ["hand"] 3 spSigns fSigns fdSigns) {fIsFlag : Addr} {fdIsFlag : FuncData} (DIsFlag : Dk P w K mg base "_law_is_flag" sIsFlag ["told", "due"] 1 spFlag fIsFlag fdIsFlag) {fHas : Addr} {fdHas : FuncData} (DHas : Dk P w K mg base "_law_has" sHas ["text", "period"] 1 spLHas fHas fdHas) {fRuns : Addr} {fdRuns : FuncData} (DRuns : Dk P w K mg base "_law_runs" sRuns ["text"] 4 spLRuns fRuns fdRuns) {fLiesRight : Addr} {fdLiesRight : FuncData} (DLiesRight : Dk P w K mg base "_law_lies_right" sLiesRight ["hand", "text", "some"] 3 spLLies fLiesRight fdLiesRight) {fOdd : Addr} {fdOdd : FuncData} (DOdd : Dk P w K mg base "_law_odd" sOdd ["hand", "one"] 3 spLOdd fOdd fdOdd) {fGreatRight : Addr} {fdGreatRight : FuncData} (DGreatRight : Dk P w K mg base "_law_great_right" sGreatRight ["hand"] 4 spLGreat fGreatRight fdGreatRight)
    (T : Glob mg) : FnAt callerA P w K mg base CX0 f fd ["script"] (spLaw K) := by
  refine fun_at (k := 7) F scLaw ⟨rfl, by decide, by decide⟩ (fun vs H Q E h => ?_) (fun cdv outer s H vs Q E hr h => ?_)
  · obtain ⟨a, ns, rfl, _⟩ := h
    rfl
  · refine ⟨_, (pss_cons (ps_set (i := 1) scLaw.nd rfl (.inl rfl) (pe_call DHand.ok (hr.mono (by decide)) (by rfl) DHand.g DHand.F.kp DHand.b .nil pass0 (pa_cons (pv 0) pa_nil)))
      (pss_cons (ps_for PassesOwn.never rfl (pi_range1 (by rfl) T.range (pa_cons pe_int pa_nil)) (pg_name (i := 2) scLaw.nd rfl (.inl rfl))
      (pss_cons (ps_set (i := 3) scLaw.nd rfl (.inr rfl) (pe_call DText.ok (hr.mono (by decide)) (by rfl) DText.g DText.F.kp DText.b .nil pass0 (pa_cons (pv 1) (pa_cons (pe_call DSigns.ok (hr.mono (by decide)) (by rfl) DSigns.g DSigns.F.kp DSigns.b .nil pass0 (pa_cons (pv 1) pa_nil)) (pa_cons pe_int pa_nil)))))
        (pss_cons (ps_par (i := 4) (j := 5) (by rfl) scLaw.nd rfl rfl (by decide) rfl rfl (pa_cons (pe_call DRuns.ok (hr.mono (by decide)) (by rfl) DRuns.g DRuns.F.kp DRuns.b .nil pass0 (pa_cons (pv 3) pa_nil)) (pa_cons (pe_call DPRuns.ok (hr.mono (by decide)) (by rfl) DPRuns.g DPRuns.F.kp DPRuns.b .nil pass0 (pa_cons (pv 3) pa_nil)) pa_nil)) (by rfl))
        (pss_cons (ps_if (PW.pt (pw_or (pt_cmpR (op_neD hr.units) (pv 5) (pv 4) (nomark _)) (pw_or1 (pt_not (pt_val (pe_callB call_isi (by rfl) T.isinstance PyProof.Rows.boot_isinstance (pa_cons (pv 5) (pa_cons (pe_bltn (v := .ty "list") (by rfl) T.list (by decide +kernel) rfl) pa_nil))))))))
        (pss_one (ps_ret pe_bl))
        pss_nil)
        (pss_cons (ps_if (pt_cmpR (op_neD hr.units) (pe_call DPPeriods.ok (hr.mono (by decide)) (by rfl) DPPeriods.g DPPeriods.F.kp DPPeriods.b .nil pass0 (pa_cons (pv 3) pa_nil)) (pe_callTy call_tuple_of (by rfl) T.tuple (by decide +kernel) (pa_cons (pe_lc (own := [("period", 10)]) (g := gName 10) (by rfl) scLaw.nd (pi_range2 (by rfl) T.range (pa_cons pe_int (pa_cons (pe_op op_add (pe_callB call_lenZ (by rfl) T.len PySem.boot_len (pa_cons (pv 3) pa_nil)) pe_int) pa_nil))) (blkOk_by (N := ["script", "hand", "turn", "text", "some", "told", "one", "odd", "is_so", "again", "period", "many", "part"]) (sc := defScope sLaw) (by decide +kernel)) (fun _ _ _ _ _ => pg_name (i := 10) scLaw.nd rfl (.inl rfl)) (fun _ _ _ _ _ => (pts_one (pt_val (pe_call DHas.ok (hr.mono (by decide)) (by rfl) DHas.g DHas.F.kp DHas.b .nil pass0 (pa_cons (pv 3) (pa_cons (pv 10) pa_nil)))))) (fun _ _ _ _ _ => (pv 10))) pa_nil)) (nomark _))
        (pss_one (ps_ret pe_bl))
        pss_nil)
        (pss_cons (ps_if (pt_cmpR (op_neD hr.units) (pe_call DPBorders.ok (hr.mono (by decide)) (by rfl) DPBorders.g DPBorders.F.kp DPBorders.b .nil pass0 (pa_cons (pv 3) pa_nil)) (pe_callB cr_sortedTx (by rfl) T.sorted (by decide +kernel) (pa_cons (pe_lc (own := [("many", 11)]) (g := gName 11) (by rfl) scLaw.nd (pi_range2 (by rfl) T.range (pa_cons pe_int (pa_cons (pe_callB call_lenZ (by rfl) T.len PySem.boot_len (pa_cons (pv 3) pa_nil)) pa_nil))) (blkOk_by (N := ["script", "hand", "turn", "text", "some", "told", "one", "odd", "is_so", "again", "period", "many", "part"]) (sc := defScope sLaw) (by decide +kernel)) (fun _ _ _ _ _ => pg_name (i := 11) scLaw.nd rfl (.inl rfl)) (fun _ _ _ _ _ => (pts_one (pt_cmpR op_eq (pe_slice sl_str (pv 3) po_none (po_some (pv 11))) (pe_slice sl_str (pv 3) (po_some (pe_un un_neg (pv 11))) po_none) (nomark _)))) (fun _ _ _ _ _ => (pe_slice sl_str (pv 3) po_none (po_some (pv 11))))) pa_nil)) (nomark _))
        (pss_one (ps_ret pe_bl))
        pss_nil)
        (pss_cons (ps_for PassesOwn.never rfl (pi_list (pe_slice sl_list (pv 4) po_none (po_some pe_int))) (pg_name (i := 6) scLaw.nd rfl (.inl rfl))
        (pss_cons (ps_set (i := 7) scLaw.nd rfl (.inl rfl) (pe_call DOdd.ok (hr.mono (by decide)) (by rfl) DOdd.g DOdd.F.kp DOdd.b .nil pass0 (pa_cons (pv 1) (pa_cons (pv 6) pa_nil))))
          (pss_cons (ps_set (i := 8) scLaw.nd rfl (.inl rfl) (pe_and (pe_callB call_isi (by rfl) T.isinstance PyProof.Rows.boot_isinstance (pa_cons (pv 7) (pa_cons (pe_bltn (v := .ty "tuple") (by rfl) T.tuple (by decide +kernel) rfl) pa_nil))) (pe_and (pe_cmpR (op_inD (op_room hr)) (pv 7) (pv 4) rfl) (pe_one (pe_callB (cr_all rfl) (by rfl) T.all (by decide +kernel) (pa_cons (pe_lc (own := [("part", 12)]) (g := gName 12) (by rfl) scLaw.nd (pi_tup (pv 7)) (blkOk_by (N := ["script", "hand", "turn", "text", "some", "told", "one", "odd", "is_so", "again", "period", "many", "part"]) (sc := defScope sLaw) (by decide +kernel)) (fun _ _ _ _ _ => pg_name (i := 12) scLaw.nd rfl (.inl rfl)) (fun _ _ _ _ _ => pts_nil) (fun _ _ _ _ _ => (pe_call DIsInt.ok (hr.mono (by decide)) (by rfl) DIsInt.g DIsInt.F.kp DIsInt.b .nil pass0 (pa_cons (pv 12) (pa_cons pe_int (pa_cons pe_int pa_nil)))))) pa_nil))))))
          (pss_one (ps_if (PW.pt (pw_or (pt_cmpR op_notBl (pe_call DPIsRun.ok (hr.mono (by decide)) (by rfl) DPIsRun.g DPIsRun.F.kp DPIsRun.b .nil pass0 (pa_cons (pv 3) (pa_cons (pv 6) pa_nil))) pe_bl (nomark _)) (pw_or1 (pt_not (pt_val (pe_call DIsFlag.ok (hr.mono (by decide)) (by rfl) DIsFlag.g DIsFlag.F.kp DIsFlag.b .nil pass0 (pa_cons (pe_call DPIsRun.ok (hr.mono (by decide)) (by rfl) DPIsRun.g DPIsRun.F.kp DPIsRun.b .nil pass0 (pa_cons (pv 3) (pa_cons (pv 7) pa_nil))) (pa_cons (pv 8) pa_nil))))))))
          (pss_one (ps_ret pe_bl))
          pss_nil)))))
        (pss_one (ps_for PassesOwn.never rfl (pi_range1 (by rfl) T.range (pa_cons (pe_op op_mul pe_int (pe_callTy call_int1 (by rfl) T.int boot_ty_int (pa_cons (pe_cmpR op_ne (pv 3) pe_str (nomark _)) pa_nil))) pa_nil)) (pg_name (i := 9) scLaw.nd rfl (.inl rfl))
        (pss_one (ps_if (pt_not (pt_val (pe_call DLiesRight.ok (hr.mono (by decide)) (by rfl) DLiesRight.g DLiesRight.F.kp DLiesRight.b .nil pass0 (pa_cons (pv 1) (pa_cons (pv 3) (pa_cons (pv 4) pa_nil))))))
          (pss_one (ps_ret pe_bl))
          pss_nil)))))))))))
      (pss_one (ps_ret (pe_or (pe_cmpR op_gt (pe_call DDraw.ok (hr.mono (by decide)) (by rfl) DDraw.g DDraw.F.kp DDraw.b .nil pass0 (pa_cons (pv 1) (pa_cons pe_int pa_nil))) pe_int (nomark _)) (pe_one (pe_call DGreatRight.ok (hr.mono (by decide)) (by rfl) DGreatRight.g DGreatRight.F.kp DGreatRight.b .nil pass0 (pa_cons (pv 1) pa_nil)))))))), ?_⟩
    obtain ⟨a, ns, rfl, hS, q⟩ := h
    refine ⟨.ref a, rfl, a, ns, rfl, hS, fun p l H1 np nl h1 k1 => ?_⟩
    clear np nl k1
    refine ⟨2, rfl, by decide, by decide, for_range (fun i σ H' => ∃ u2 u3 u4 u5 u6 u7 u8 u9 : Option V, σ = [some (.ref a), some (.ref p), u2, u3, u4, u5, u6, u7, u8, u9, none, none, none] ∧ HandL H' p l) ⟨_, _, _, _, _, _, _, _, rfl, h1⟩ ?_ ?_⟩
    · clear h1
      rintro i σ H2 hi ⟨u2, u3, u4, u5, u6, u7, u8, u9, rfl, h2⟩
      refine ⟨.ref p, rfl, .ref p, rfl, p, rfl, l, h2, fun sg H3 s1 s2 s3 h3 b3 => ?_⟩
      refine ⟨p, sg, 60, rfl, s1, s2, s3, by decide, l, h3, fun z H4 sz lz h4 b4 => ?_⟩
      clear h2 h3 b3 b4 s1 s2 s3
      have lz60 : z.length ≤ 60 := by omega
      have lz2 : z.length ≤ 2000 := by omega
      have lc := cd_len z
      refine ⟨.str z, rfl, z, rfl, lz2, fun D us rs H5 hD hus rn k5 nD lus => ?_⟩
      refine ⟨.str z, rfl, z, rfl, sz, lz2, fun E us2 rs2 H6 hE hus2 rn2 k6 => ⟨_, _, rfl, ?_⟩⟩
      have e12 := rn2.one rn
      subst e12
      clear rn2
      have nDp : D ≠ p := (h4.ne nD).1
      have h6 := h4.same (k5.trans k6)
      have hD := k6 _ _ hD
      have hus := hus.imp fun _ _ r => TrAt.same k6 r
      clear h4 k5 k6 nD
      dsimp only [tSeq, tAsg, gName]
      refine (?_ : ∀ Q : Bool → Hp → Prop, Q false H6 → tOr _ _ _ H6 Q) _ ?_
      · intro Q hQ
        have dE : Dp K H6 (.ref E) (.list (rs2.map encT)) := .lst (sq_of hE) (trs_dp hus2)
        have dD : Dp K H6 (.ref D) (.list (rs2.map encT)) := .lst (sq_of hD) (trs_dp hus)
        have er : PyData.eqv (.list (rs2.map encT)) (.list (rs2.map encT)) = true := by
          simp only [PyData.eqv]
          exact encTs_refl rs2
        refine ⟨.ref E, rfl, .ref D, rfl, _, _, dE, dD, encTs_shaped _, encTs_shaped _, _, rfl, ?_⟩
        rw [er]
        refine iteF ⟨.ref E, rfl, .ref E, .ty "list", .type (Kn.name .lst), .type "list", kitB .lst .lst, rfl, .ty _, Kd.tyx (.lst hE), kit_kn .lst .lst, _, rfl, hQ⟩
      refine iteF ?_
      dsimp only [tNext, tDrop]
      refine ⟨.str z, rfl, z, rfl, sz, lz2, fun t H7 ht k7 => ?_⟩
      refine ⟨.str z, rfl, z, rfl, len6 lz2, _, _, rfl, rfl, _, _, rfl, ⟨by omega, by omega, by omega, by omega⟩, fun B nB => lc_range (fun j H' => H' B = some (.lst ((persN (cd z) j).map fun q => V.int (q : Nat))) ∧ Same H7 H') ⟨upd_same, Same.new nB⟩ ?_ ?_⟩
      · rintro j H8 hj ⟨hB, k8⟩
        have hj : j < z.length := by omega
        refine ⟨rfl, .str z, rfl, .int (1 + (j : Int)), rfl, z, j + 1, by rw [show (1 : Int) + (j : Int) = ((j + 1 : Nat) : Int) by omega]; rfl, lz2, by omega, _, rfl, ?_⟩
        dsimp only
        rw [← lc]
        refine ite2 (fun c => ?_) (fun c => ?_)
        · refine ⟨_, rfl, _, hB, ?_, ?_, sameAt k8 nB⟩
          · have h1 := persN_le (cd z) j
            rw [List.length_map, sizeLine_eq]
            omega
          · rw [upd_same, persN_y c, List.map_append, show (1 : Int) + (j : Int) = ((j + 1 : Nat) : Int) by omega]
            rfl
        · rw [persN_n c]
          exact ⟨hB, k8⟩
      rintro H8 ⟨hB, k8⟩
      have ep : persN (cd z) ((((z.length : Nat) : Int) + 1) - 1).toNat = pers (cd z) := by
        unfold pers
        rw [show ((((z.length : Nat) : Int) + 1) - 1).toNat = (cd z).length by omega]
      rw [ep] at hB
      refine ⟨B, _, rfl, .inl ⟨sq_of hB, fun t2 nt2 => ?_⟩⟩
      have k9 := Same.new (o := .tup ((pers (cd z)).map fun q => V.int (q : Nat))) nt2
      have ht9 := k9 _ _ (k8 _ _ ht)
      have ht2 : upd H8 t2 (.tup ((pers (cd z)).map fun q => V.int (q : Nat))) t2 = some (.tup ((pers (cd z)).map fun q => V.int (q : Nat))) := upd_same
      have k79 := k7.trans (k8.trans k9)
      revert k9 ht9 ht2 k79
      generalize upd H8 t2 (.tup ((pers (cd z)).map fun q => V.int (q : Nat))) = H9
      intro k9 ht9 ht2 k79
      have em : ((pers (cd z)).map fun q => V.int ((q : Nat) : Int)) = ((pers (cd z)).map fun q => ((q : Nat) : Int)).map V.int := by rw [List.map_map]; rfl
      rw [em] at ht9 ht2
      have dI : ∀ t : Addr, H9 t = some (.tup (((pers (cd z)).map fun q => ((q : Nat) : Int)).map V.int)) → Dp K H9 (.ref t) (.tuple (((pers (cd z)).map fun q => ((q : Nat) : Int)).map PyData.int)) := fun t e => .tup (SqT.of e) (FPs.dp (fps_ints _))
      refine ⟨_, _, dI t ht9, dI t2 ht2, ints_shaped _, ints_shaped _, _, rfl, ?_⟩
      have er : PyData.eqv (.tuple (((pers (cd z)).map fun q => ((q : Nat) : Int)).map PyData.int)) (.tuple (((pers (cd z)).map fun q => ((q : Nat) : Int)).map PyData.int)) = true := by
        simp only [PyData.eqv]
        rw [eqv_ints]
        exact decide_eq_true rfl
      rw [er]
      refine iteF ?_
      dsimp only [tNext, tDrop]
      have h9 := h6.same k79
      have hD := k79 _ _ hD
      have hus := hus.imp fun _ _ r => TrAt.same k79 r
      clear er dI em ht2 ht9 k9 k8 hB ht k7 k79 h6 ep hE hus2 nB nt2
      refine ⟨.str z, rfl, z, rfl, sz, lz2, fun B H10 hB k10 => ?_⟩
      refine ⟨.str z, rfl, z, rfl, len6 lz2, _, _, rfl, ⟨by omega, by omega, by omega, by omega⟩, fun C nC => lc_range (fun j H' => H' C = some (.lst ((lb z j).map V.str)) ∧ Same H10 H') ⟨upd_same, Same.new nC⟩ ?_ ?_⟩
      · rintro j H11 hj ⟨hC, k11⟩
        have hj : j + 1 < z.length := by omega
        refine ⟨rfl, .str z, rfl, .int (1 + (j : Int)), rfl, _, rfl, z, rfl, len6 lz2, .str z, rfl, .int (1 + (j : Int)), rfl, _, rfl, _, rfl, z, rfl, len6 lz2, rfl, _, rfl, ?_⟩
        rw [show (1 : Int) + (j : Int) = ((j + 1 : Nat) : Int) by omega, tail_eq hj]
        refine ite2 (fun c => ?_) fun c => ?_
        · rw [lb_y c]
          refine ⟨.str z, rfl, .int ((j + 1 : Nat) : Int), rfl, _, rfl, z, rfl, len6 lz2, _, hC, ?_, ?_, sameAt k11 nC⟩
          · have := lb_len z j
            rw [List.length_map, sizeLine_eq]
            omega
          · rw [upd_same, List.map_append]
            rfl
        · rw [lb_n c]
          exact ⟨hC, k11⟩
      rintro H11 ⟨hC, k11⟩
      rw [show (((z.length : Nat) : Int) - 1).toNat = z.length - 1 by omega] at hC
      refine ⟨C, _, rfl, sq_of hC, fun zs R pm srt nR => ?_⟩
      have ez := lb_sorted pm srt
      subst ez
      have kR := Same.new (o := .lst ((bords z).map V.str)) nR
      have er : PyData.eqv (.list ((bords z).map PyData.str)) (.list ((bords z).map PyData.str)) = true := by
        simp only [PyData.eqv]
        exact strs_refl _
      refine ⟨.list ((bords z).map PyData.str), .list ((bords z).map PyData.str), .lst (sq_of (kR _ _ (k11 _ _ hB))) (strs_dp _), .lst (sq_of upd_same) (strs_dp _), strs_shaped (bords_sg sz), strs_shaped (bords_sg sz), _, rfl, ?_⟩
      rw [er]
      refine iteF ?_
      dsimp only [tNext, tDrop]
      have k13 := k10.trans (k11.trans kR)
      have h13 := h9.same k13
      have hD := k13 _ _ hD
      have hus := hus.imp fun _ _ r => TrAt.same k13 r
      clear er k10 k11 kR hB hC pm srt h9
      revert k13 h13 hD hus
      generalize upd H11 R (.lst ((bords z).map V.str)) = H13
      intro k13 h13 hD hus
      clear k13
      have lus : us.length ≤ 16000000 := by omega
      refine ⟨.ref D, rfl, _, rfl, D, _, rfl, sq_of hD, fun G nG => ⟨G, rfl, ⟨_, sq_of upd_same⟩, for_list (K := K) (xs := cutV us none (some 6)) (fun j σ H' => ∃ u6 u7 u8 : Option V, σ = [some (.ref a), some (.ref p), some (.int (0 + (i : Int))), some (.str z), some (.ref D), some (.ref E), u6, u7, u8, u9, none, none, none] ∧ HandL H' p l ∧ H' D = some (.lst us) ∧ All2 (TrAt H') us rs2 ∧ H' G = some (.lst (cutV us none (some 6)))) ⟨_, _, _, rfl, h13.same (Same.new nG), Same.new nG _ _ hD, hus.imp fun _ _ r => TrAt.same (Same.new nG) r, upd_same⟩ (fun j σ H' _ ⟨_, _, _, _, _, _, _, w⟩ => sq_of w) ?_ ?_⟩⟩
      · have nGp : G ≠ p := (h13.ne nG).1
        clear h13 hD hus
        rintro j x σ H14 hj ⟨u6, u7, u8, rfl, h14, hD, hus, hG⟩
        obtain ⟨r, er, hr⟩ : ∃ r, r ∈ rs2 ∧ TrAt H14 x r := by
          have mx : x ∈ us := cutV_mem (List.mem_of_getElem? hj)
          obtain ⟨k, hk, ek⟩ := List.getElem_of_mem mx
          obtain ⟨r, e1, e2⟩ := hus.at (List.getElem?_eq_some_iff.mpr ⟨hk, ek⟩)
          exact ⟨r, List.mem_of_getElem? e1, e2⟩
        have rr := (rn.mem r).mp er
        have rb : r.1 ≤ 2000 := by
          have h1 := rr.1.bn
          have h2 := rr.1.two
          omega
        refine ⟨.ref p, rfl, x, rfl, p, x, r, rfl, hr, rb, l, h14, fun y o H15 oy n15 => ?_⟩
        have hD := n15.but _ _ nDp hD
        have hG := n15.but _ _ nGp hG
        have hus := hus.imp fun _ _ t => TrAt.but t h14 n15.but
        have hr := hr.but h14 n15.but
        have h15 := n15.at_
        clear h14 n15
        have kd : ∃ k, Kd H15 y k ∧ (k = .tup ↔ o.isSome = true) := oy.tg.kd
        obtain ⟨k, hk, ek⟩ := kd
        have so : ∃ isSo : Bool, (isSo = true ↔ ∃ a b q : Nat, o = some [.int (a : Nat), .int (b : Nat), .int (q : Nat)] ∧ Run (cd z) a b q) := ⟨decide (∃ t ∈ rs2, o = some [.int (t.1 : Nat), .int (t.2.1 : Nat), .int (t.2.2 : Nat)]), by
          rw [decide_eq_true_iff]
          exact ⟨fun ⟨t, mt, e⟩ => ⟨t.1, t.2.1, t.2.2, e, (rn.mem t).mp mt⟩, fun ⟨a, b, q, e, h⟩ => ⟨(a, b, q), (rn.mem (a, b, q)).mpr h, e⟩⟩⟩
        obtain ⟨isSo, hso⟩ := so
        dsimp only [tSeq, tAsg, gName]
        refine (?_ : ∀ Q : VK, (∀ H', Same H15 H' → Q (.bl isSo) H') → tAndV _ _ _ H15 Q) _ ?_
        · intro Q hQ
          have bd : ∀ t ∈ rs2, t.1 ≤ 2000 ∧ t.2.1 ≤ 2000 ∧ t.2.2 ≤ 2000 := fun t mt => by
            have h := (rn.mem t).mp mt
            have h1 := h.1.bn
            have h2 := h.1.two
            omega
          have forms : (o = none ∧ k ≠ .tup) ∨ ∃ c xs ds, y = .ref c ∧ H15 c = some (.tup xs) ∧ k = .tup ∧ xs.length ≤ 4 ∧ Dp K H15 y (.tuple ds) ∧ SeqAt.shaped (.tuple ds) = true ∧ (∀ w ∈ xs, (∃ k, Kd H15 w k) ∧ Vs w) ∧ (((rs2.map encT).any fun w => PyData.eqv w (.tuple ds)) && (xs.map (inV2 0 2000)).all id) = isSo := by
            cases oy with
            | no h n s => exact .inl ⟨rfl, fun e => by have := ek.mp e; cases this⟩
            | @flat c xs ds e few h =>
              refine .inr ⟨c, xs, ds, rfl, e, ek.mpr rfl, few, .tup (SqT.of e) (FPs.dp h), ?_, all2_kd h, ?_⟩
              · obtain ⟨g1, g2⟩ := FPs.lay h
                unfold SeqAt.shaped
                rw [show (PyData.tuple ds).canLay0 = true by simp only [PyData.canLay0]; exact g1, decide_eq_true (show (PyData.tuple ds).depth ≤ 64 by simp only [PyData.depth]; omega)]
                rfl
              · rw [Bool.eq_iff_iff, so_flat h bd, hso]
                exact ⟨fun ⟨t, mt, e⟩ => ⟨t.1, t.2.1, t.2.2, by rw [e], (rn.mem t).mp mt⟩, fun ⟨a, b, q, e, h⟩ => ⟨(a, b, q), (rn.mem (a, b, q)).mpr h, Option.some.inj e⟩⟩
            | @nest c x' d n e h ln =>
              obtain ⟨g1, g2⟩ := h.lay
              obtain ⟨kx, cx, rfl⟩ := h.tup
              refine .inr ⟨c, _, [d], rfl, e, ek.mpr rfl, by show 1 ≤ 4; decide, .tup (SqT.of e) (.cons h.dp .nil), ?_, fun w hw => ?_, ?_⟩
              · unfold SeqAt.shaped
                rw [show (PyData.tuple [d]).canLay0 = true by simp [PyData.canLay0, PyData.canLayAll0, g1], decide_eq_true (show (PyData.tuple [d]).depth ≤ 64 by simp only [PyData.depth, PyData.depthAll]; omega)]
                rfl
              · rw [List.mem_singleton.mp hw]
                exact ⟨⟨_, kx⟩, fun z e => by cases e⟩
              · have e1 : (([V.ref cx].map (inV2 0 2000)).all id) = false := rfl
                rw [e1, Bool.and_false]
                cases isSo with
                | false => rfl
                | true =>
                  obtain ⟨a', b', q', e, _⟩ := hso.mp rfl
                  cases e
          rcases forms with ⟨rfl, n⟩ | ⟨c, xs, ds, rfl, hc, rfl, few, dp, sh, kds, eq⟩
          · have e : isSo = false := by
              cases isSo with
              | false => rfl
              | true =>
                obtain ⟨a', b', q', e, _⟩ := hso.mp rfl
                cases e
            have := hQ H15 (Same.refl _)
            rw [e] at this
            exact ⟨y, rfl, y, .ty "tuple", .type (Kn.name k), .type "tuple", false, rfl, .ty _, Kd.tyx hk, kit_no n, _, rfl, iteF this⟩
          · refine ⟨.ref c, rfl, .ref c, .ty "tuple", .type (Kn.name .tup), .type "tuple", kitB .tup .tup, rfl, .ty _, Kd.tyx hk, kit_kn .tup .tup, _, rfl, iteT ?_⟩
            refine ⟨.ref c, rfl, .ref D, rfl, .tuple ds, rs2.map encT, dp, .lst (sq_of hD) (trs_dp hus), sh, encTs_shaped _, _, rfl, ?_⟩
            cases ea : (rs2.map encT).any fun w => PyData.eqv w (.tuple ds) with
            | false =>
              have := hQ H15 (Same.refl _)
              rw [← eq, ea, Bool.false_and] at this
              exact iteF this
            | true =>
              rw [ea, Bool.true_and] at eq
              refine iteT ?_
              refine ⟨.ref c, rfl, c, rfl, ⟨_, SqT.of hc⟩, fun R nR => lc_tup (K := K) (xs := xs) (fun i H' => H' R = some (.lst (((xs.take i).map (inV2 0 2000)).map V.bl)) ∧ Same H15 H') ⟨upd_same, Same.new nR⟩ (fun i H' _ g => SqT.of (g.2 _ _ hc)) ?_ ?_⟩
              · rintro i' u H16 hu ⟨hR, k16⟩
                obtain ⟨⟨ku, hku⟩, _⟩ := kds u (List.mem_of_getElem? hu)
                have li := (List.getElem?_eq_some_iff.mp hu).1
                refine ⟨rfl, u, rfl, u, ku, 0, 2000, rfl, hku.same k16, _, hR, ?_, ?_, sameAt k16 nR⟩
                · rw [List.length_map, List.length_map, List.length_take, sizeLine_eq]
                  omega
                · rw [upd_same, take_snoc hu, List.map_append, List.map_append]
                  rfl
              · rintro H16 ⟨hR, k16⟩
                rw [List.take_of_length_le (Nat.le_refl _)] at hR
                refine ⟨R, _, rfl, sq_of hR, ?_⟩
                rw [eq]
                exact hQ H16 k16
        intro H16 k16
        have hr := hr.same k16
        have oy := oy.same k16
        refine (?_ : ∀ Q : Bool → Hp → Prop, (∀ H', Same H16 H' → Q false H') → tOr _ _ _ H16 Q) _ ?_
        · intro Q hQ
          have tgx : Tg H16 x (some [.int (r.1 : Nat), .int (r.2.1 : Nat), .int (r.2.2 : Nat)]) := by
            obtain ⟨b, rfl, hb⟩ := hr
            exact (OddAt.flat (ds := [.int (r.1 : Nat), .int (r.2.1 : Nat), .int (r.2.2 : Nat)]) hb (by show 3 ≤ 4; decide) (.cons (.int _) (.cons (.int _) (.cons (.int _) .nil)))).tg
          refine ⟨.str z, rfl, x, rfl, z, x, _, rfl, sz, lz2, tgx, fun c H17 k17 hc => ?_⟩
          have ec : c = true := hc.mpr ⟨r.1, r.2.1, r.2.2, rfl, rr⟩
          subst ec
          refine ⟨_, _, rfl, rfl, _, rfl, iteF ?_⟩
          refine ⟨.str z, rfl, y, rfl, z, y, o, rfl, sz, lz2, oy.tg.same k17, fun c2 H18 k18 hc2 => ?_⟩
          have ec2 : c2 = isSo := by
            rw [Bool.eq_iff_iff, hc2, hso]
          subst ec2
          refine ⟨.bl c2, rfl, c2, c2, rfl, _, rfl, ?_⟩
          rw [decide_eq_true rfl]
          exact hQ H18 (k17.trans k18)
        intro H17 k17
        have k1617 := k16.trans k17
        exact iteF ⟨_, _, _, rfl, h15.same k1617, k1617 _ _ hD, hus.imp fun _ _ t => TrAt.same k1617 t, k1617 _ _ hG⟩
      · rintro σ H14 ⟨u6, u7, u8, rfl, h14, hD, hus, hG⟩
        clear hG h13
        have pos : (!decide (V.str z = V.str "")) = true → 0 < z.length := fun e => by
          rcases Nat.eq_zero_or_pos z.length with z0 | z0
          · have : z = "" := by
              have en : z.cps.toList = [] := List.eq_nil_of_length_eq_zero (by rw [← len_S]; exact z0)
              rw [← S_eta z, en]
              rfl
            rw [this] at e
            exact absurd e (by decide)
          · exact z0
        refine ⟨.str z, rfl, rfl, .inr ⟨_, rfl, _, _, rfl, rfl, .inl ⟨by decide, by decide⟩, _, rfl, ?_, ?_, for_range (fun j σ H' => ∃ u9 : Option V, σ = [some (.ref a), some (.ref p), some (.int (0 + (i : Int))), some (.str z), some (.ref D), some (.ref E), u6, u7, u8, u9, none, none, none] ∧ HandL H' p l ∧ H' D = some (.lst us) ∧ All2 (TrAt H') us rs2) ⟨_, rfl, h14, hD, hus⟩ ?_ ?_⟩⟩
        · split <;> decide
        · split <;> decide
        · clear h14 hD hus
          rintro j σ H15 hj ⟨u9, rfl, h15, hD, hus⟩
          have zp : 0 < z.length := pos (by
            cases hb : (!decide (V.str z = V.str "")) with
            | true => rfl
            | false =>
              rw [hb] at hj
              exact absurd hj (Nat.not_lt_zero _))
          refine ⟨.ref p, rfl, .str z, rfl, .ref D, rfl, p, z, D, us, rs2, rfl, zp, lz2, hD, hus, rn, nDp, lus, l, h15, fun H16 h16 b16 => ⟨_, rfl, iteF ?_⟩⟩
          exact ⟨_, rfl, h16, b16 _ _ nDp hD, hus.imp fun _ _ t => TrAt.but t h15 b16⟩
        · rintro σ H15 ⟨u9, rfl, h15, hD, hus⟩
          exact ⟨_, _, _, _, _, _, _, _, rfl, h15⟩
    rintro σ H2 ⟨u2, u3, u4, u5, u6, u7, u8, u9, rfl, h2⟩
    refine ⟨.ref p, rfl, p, 4, rfl, by decide, by decide, l, h2, fun v H3 v0 v1 h3 b3 => ?_⟩
    refine ⟨_, _, rfl, rfl, _, rfl, ite2 (fun c => ?_) fun c => ?_⟩
    · exact q H3
    · exact ⟨.ref p, rfl, p, rfl, l, h3, fun H4 => q H4⟩
end
end LawK
set_option maxHeartbeats 8000000
namespace LawK
open PySem PySem.Spec PyProof.Rows L2 Ev
structure Df (K : PySem.W.Frag) (mg : Str → Option Value) (x : Str) (st : Stmt) (ps : List Str) (f : Addr) (fd : FuncData) : Prop where
  F : Fun K x x st f fd
  b : Binds K fd ps []
  g : mg x = some (.ref f)
section
variable {P : Program} {w : World} {K : PySem.W.Frag} {mg : Str → Option Value} {h : Heap} {x : Str}
theorem df_mk {st : Stmt} {ps : List Str} {oc kV dc pm cd ct : Value} {od an : Option Addr} {sl : Array (Option Value)} {fa : Addr} (X : K.In h) (G : h.Ns mainGlobals mg)
    (hb : ∀ (kV doc pm : Value) (an : Option Addr) (cdv ct : Value) (us : List Value), us.length = ps.length → bindArgs (PySem.W.fnOf x x (defArgs st) (defBody st) (defScope st) .none kV doc pm an cdv ct) ⟨us, []⟩ = pure (ps.zip us))
    (a : PySem.W.nsIn K mainGlobals x = some (some (.ref fa))) (l : K.lookup fa = some ⟨oc, od, .func (PySem.W.fnOf x x (defArgs st) (defBody st) (defScope st) .none kV dc pm an cd ct), sl⟩)
    (ck : (PySem.W.codeIn K cd x && PySem.W.keepIn K (.ref fa)) = true) : ∃ fd, Df K mg x st ps fa fd := by
  obtain ⟨c1, c2⟩ := Bool.and_eq_true_iff.mp ck
  have F1 := fun_mk (st := st) l c1 c2
  exact ⟨_, F1, F1.binds (ps := ps) hb, PySem.W.mg_of X G a⟩
end
theorem end_mk {P : Program} {w : World} {K : PySem.W.Frag} {mg : Str → Option Value} {h : Heap} {fa f   fPNumber fPSigns fPTuple fPText fQHas fQPeriods fPPeriods fPBorders fQStretches fPRuns fQIsStretch fPIsRun fHand fDraw fAny fIsInt fDeep fText fSigns fIsFlag fHas fLeast fIsRun fRuns fLiesRight fOdd fGreatRight : Addr} {oc kV dc pm cd ct : Value} {od an : Option Addr} {sl : Array (Option Value)} (X : K.In h) (G : h.Ns mainGlobals mg) (hfa : mg "law" = some (.ref fa))
    (aL : PySem.W.nsIn K mainGlobals "law" = some (some (.ref f))) (lL : K.lookup f = some ⟨oc, od, .func (PySem.W.fnOf "law" "law" (defArgs sLaw) (defBody sLaw) (defScope sLaw) .none kV dc pm an cd ct), sl⟩) (ck : (PySem.W.codeIn K cd "law" && PySem.W.keepIn K (.ref f)) = true)
    {tMOST_SIGNS : Tok} (aMOST_SIGNS : PySem.W.nsIn K mainGlobals "MOST_SIGNS" = some (some (.int 2000 tMOST_SIGNS)))
    (DPNumber : ∃ fd, Df K mg "is_number" sPNumber ["thing"] fPNumber fd)
    (DPSigns : ∃ fd, Df K mg "is_signs" sPSigns ["thing"] fPSigns fd)
    (DPTuple : ∃ fd, Df K mg "is_tuple" sPTuple ["thing", "many"] fPTuple fd)
    (DPText : ∃ fd, Df K mg "is_text" sPText ["thing"] fPText fd)
    (DQHas : ∃ fd, Df K mg "_has_period" sQHas ["text", "first", "behind", "many"] fQHas fd)
    (DQPeriods : ∃ fd, Df K mg "_periods" sQPeriods ["text"] fQPeriods fd)
    (DPPeriods : ∃ fd, Df K mg "periods" sPPeriods ["text"] fPPeriods fd)
    (DPBorders : ∃ fd, Df K mg "borders" sPBorders ["text"] fPBorders fd)
    (DQStretches : ∃ fd, Df K mg "_stretches" sQStretches ["text", "many"] fQStretches fd)
    (DPRuns : ∃ fd, Df K mg "runs" sPRuns ["text"] fPRuns fd)
    (DQIsStretch : ∃ fd, Df K mg "_is_stretch" sQIsStretch ["text", "thing"] fQIsStretch fd)
    (DPIsRun : ∃ fd, Df K mg "is_run" sPIsRun ["text", "thing"] fPIsRun fd)
    (DHand : ∃ fd, Df K mg "_law_hand" sHand ["script"] fHand fd)
    (DDraw : ∃ fd, Df K mg "_law_draw" sDraw ["hand", "many"] fDraw fd)
    (DAny : ∃ fd, Df K mg "_law_any" sAny ["hand", "some"] fAny fd)
    (DIsInt : ∃ fd, Df K mg "_law_is_int" sIsInt ["thing", "least", "most"] fIsInt fd)
    (DDeep : ∃ fd, Df K mg "_law_deep" sDeep ["many"] fDeep fd)
    (DText : ∃ fd, Df K mg "_law_text" sText ["hand", "signs", "most"] fText fd)
    (DSigns : ∃ fd, Df K mg "_law_signs" sSigns ["hand"] fSigns fd)
    (DIsFlag : ∃ fd, Df K mg "_law_is_flag" sIsFlag ["told", "due"] fIsFlag fd)
    (DHas : ∃ fd, Df K mg "_law_has" sHas ["text", "period"] fHas fd)
    (DLeast : ∃ fd, Df K mg "_law_least" sLeast ["text"] fLeast fd)
    (DIsRun : ∃ fd, Df K mg "_law_is_run" sIsRun ["text", "begin", "behind", "period"] fIsRun fd)
    (DRuns : ∃ fd, Df K mg "_law_runs" sRuns ["text"] fRuns fd)
    (DLiesRight : ∃ fd, Df K mg "_law_lies_right" sLiesRight ["hand", "text", "some"] fLiesRight fd)
    (DOdd : ∃ fd, Df K mg "_law_odd" sOdd ["hand", "one"] fOdd fd)
    (DGreatRight : ∃ fd, Df K mg "_law_great_right" sGreatRight ["hand"] fGreatRight fd)
     (T : Glob mg) :
    ∃ fd : FuncData, (∀ (s : Shared) (u : Value), BindsTo s fd ⟨[u], []⟩ [("script", u)]) ∧ ∀ base : Heap, K.In base → base.Ns mainGlobals mg → FnAt callerA P w K mg base CX0 fa fd ["script"] (spLaw K) := by
  have e := hfa.symm.trans (PySem.W.mg_of X G aL)
  cases e
  obtain ⟨fdPNumber, DPNumber⟩ := DPNumber
  obtain ⟨fdPSigns, DPSigns⟩ := DPSigns
  obtain ⟨fdPTuple, DPTuple⟩ := DPTuple
  obtain ⟨fdPText, DPText⟩ := DPText
  obtain ⟨fdQHas, DQHas⟩ := DQHas
  obtain ⟨fdQPeriods, DQPeriods⟩ := DQPeriods
  obtain ⟨fdPPeriods, DPPeriods⟩ := DPPeriods
  obtain ⟨fdPBorders, DPBorders⟩ := DPBorders
  obtain ⟨fdQStretches, DQStretches⟩ := DQStretches
  obtain ⟨fdPRuns, DPRuns⟩ := DPRuns
  obtain ⟨fdQIsStretch, DQIsStretch⟩ := DQIsStretch
  obtain ⟨fdPIsRun, DPIsRun⟩ := DPIsRun
  obtain ⟨fdHand, DHand⟩ := DHand
  obtain ⟨fdDraw, DDraw⟩ := DDraw
  obtain ⟨fdAny, DAny⟩ := DAny
  obtain ⟨fdIsInt, DIsInt⟩ := DIsInt
  obtain ⟨fdDeep, DDeep⟩ := DDeep
  obtain ⟨fdText, DText⟩ := DText
  obtain ⟨fdSigns, DSigns⟩ := DSigns
  obtain ⟨fdIsFlag, DIsFlag⟩ := DIsFlag
  obtain ⟨fdHas, DHas⟩ := DHas
  obtain ⟨fdLeast, DLeast⟩ := DLeast
  obtain ⟨fdIsRun, DIsRun⟩ := DIsRun
  obtain ⟨fdRuns, DRuns⟩ := DRuns
  obtain ⟨fdLiesRight, DLiesRight⟩ := DLiesRight
  obtain ⟨fdOdd, DOdd⟩ := DOdd
  obtain ⟨fdGreatRight, DGreatRight⟩ := DGreatRight
  obtain ⟨c1, c2⟩ := Bool.and_eq_true_iff.mp ck
  have F1 := fun_mk (st := sLaw) lL c1 c2
  refine ⟨PySem.W.fnOf "law" "law" (defArgs sLaw) (defBody sLaw) (defScope sLaw) .none kV dc pm an cd ct, fun s u => .of_eq rfl, fun base _ _ => ?_⟩
  have TPSigns : Dk P w K mg base "is_signs" sPSigns ["thing"] 1 spSg fPSigns fdPSigns := ⟨DPSigns.F, DPSigns.b, DPSigns.g, ok_PSigns DPSigns.F   (T := T)⟩
  have TPText : Dk P w K mg base "is_text" sPText ["thing"] 2 spTextY fPText fdPText := ⟨DPText.F, DPText.b, DPText.g, ok_PText DPText.F (gM := PySem.W.mg_of X G aMOST_SIGNS) (DPSigns := TPSigns) (T := T)⟩
  have TQHas : Dk P w K mg base "_has_period" sQHas ["text", "first", "behind", "many"] 1 spHasP fQHas fdQHas := ⟨DQHas.F, DQHas.b, DQHas.g, ok_QHas DQHas.F   (T := T)⟩
  have TQPeriods : Dk P w K mg base "_periods" sQPeriods ["text"] 2 spPers fQPeriods fdQPeriods := ⟨DQPeriods.F, DQPeriods.b, DQPeriods.g, ok_QPeriods DQPeriods.F  (DQHas := TQHas) (T := T)⟩
  have TPPeriods : Dk P w K mg base "periods" sPPeriods ["text"] 3 spPeriods fPPeriods fdPPeriods := ⟨DPPeriods.F, DPPeriods.b, DPPeriods.g, ok_PPeriods DPPeriods.F  (DPText := TPText) (DQPeriods := TQPeriods) (T := T)⟩
  have TPBorders : Dk P w K mg base "borders" sPBorders ["text"] 3 spBorders fPBorders fdPBorders := ⟨DPBorders.F, DPBorders.b, DPBorders.g, ok_PBorders DPBorders.F  (DPText := TPText) (DQPeriods := TQPeriods) (T := T)⟩
  have TQStretches : Dk P w K mg base "_stretches" sQStretches ["text", "many"] 1 spStr fQStretches fdQStretches := ⟨DQStretches.F, DQStretches.b, DQStretches.g, ok_QStretches DQStretches.F   (T := T)⟩
  have TPRuns : Dk P w K mg base "runs" sPRuns ["text"] 3 spRuns fPRuns fdPRuns := ⟨DPRuns.F, DPRuns.b, DPRuns.g, ok_PRuns DPRuns.F  (DPText := TPText) (DQStretches := TQStretches) (T := T)⟩
  have TPNumber : Dk P w K mg base "is_number" sPNumber ["thing"] 1 spNum fPNumber fdPNumber := ⟨DPNumber.F, DPNumber.b, DPNumber.g, ok_PNumber DPNumber.F   (T := T)⟩
  have TPTuple : Dk P w K mg base "is_tuple" sPTuple ["thing", "many"] 1 spTuple fPTuple fdPTuple := ⟨DPTuple.F, DPTuple.b, DPTuple.g, ok_PTuple DPTuple.F   (T := T)⟩
  have TQIsStretch : Dk P w K mg base "_is_stretch" sQIsStretch ["text", "thing"] 2 spIsStr fQIsStretch fdQIsStretch := ⟨DQIsStretch.F, DQIsStretch.b, DQIsStretch.g, ok_QIsStretch DQIsStretch.F  (DPNumber := TPNumber) (DPTuple := TPTuple) (T := T)⟩
  have TPIsRun : Dk P w K mg base "is_run" sPIsRun ["text", "thing"] 3 spIsRun fPIsRun fdPIsRun := ⟨DPIsRun.F, DPIsRun.b, DPIsRun.g, ok_PIsRun DPIsRun.F  (DPText := TPText) (DQHas := TQHas) (DQIsStretch := TQIsStretch) (T := T)⟩
  have THand : Dk P w K mg base "_law_hand" sHand ["script"] 1 (spHand K) fHand fdHand := ⟨DHand.F, DHand.b, DHand.g, ok_Hand DHand.F   (T := T)⟩
  have TDraw : Dk P w K mg base "_law_draw" sDraw ["hand", "many"] 1 spDraw fDraw fdDraw := ⟨DDraw.F, DDraw.b, DDraw.g, ok_Draw DDraw.F   (T := T)⟩
  have TIsInt : Dk P w K mg base "_law_is_int" sIsInt ["thing", "least", "most"] 1 spIn fIsInt fdIsInt := ⟨DIsInt.F, DIsInt.b, DIsInt.g, ok_IsInt DIsInt.F   (T := T)⟩
  have TAny : Dk P w K mg base "_law_any" sAny ["hand", "some"] 2 (spAny K) fAny fdAny := ⟨DAny.F, DAny.b, DAny.g, ok_Any DAny.F (DDraw := TDraw) (T := T)⟩
  have TAnyS : Dk P w K mg base "_law_any" sAny ["hand", "some"] 2 spAnyS fAny fdAny := ⟨DAny.F, DAny.b, DAny.g, ok_AnyS DAny.F (DDraw := TDraw) (T := T)⟩
  have TText : Dk P w K mg base "_law_text" sText ["hand", "signs", "most"] 3 spLText fText fdText := ⟨DText.F, DText.b, DText.g, ok_Text DText.F (DDraw := TDraw) (DAny := TAnyS) (T := T)⟩
  have TSigns : Dk P w K mg base "_law_signs" sSigns ["hand"] 3 spSigns fSigns fdSigns := ⟨DSigns.F, DSigns.b, DSigns.g, ok_Signs DSigns.F  (DAny := TAny) (T := T)⟩
  have TIsFlag : Dk P w K mg base "_law_is_flag" sIsFlag ["told", "due"] 1 spFlag fIsFlag fdIsFlag := ⟨DIsFlag.F, DIsFlag.b, DIsFlag.g, ok_IsFlag DIsFlag.F   (T := T)⟩
  have THas : Dk P w K mg base "_law_has" sHas ["text", "period"] 1 spLHas fHas fdHas := ⟨DHas.F, DHas.b, DHas.g, ok_Has DHas.F   (T := T)⟩
  have TLeast : Dk P w K mg base "_law_least" sLeast ["text"] 2 spLLeast fLeast fdLeast := ⟨DLeast.F, DLeast.b, DLeast.g, ok_Least DLeast.F  (DHas := THas) (T := T)⟩
  have TIsRun : Dk P w K mg base "_law_is_run" sIsRun ["text", "begin", "behind", "period"] 3 spLIsRun fIsRun fdIsRun := ⟨DIsRun.F, DIsRun.b, DIsRun.g, ok_IsRun DIsRun.F  (DHas := THas) (DLeast := TLeast) (T := T)⟩
  have TRuns : Dk P w K mg base "_law_runs" sRuns ["text"] 4 spLRuns fRuns fdRuns := ⟨DRuns.F, DRuns.b, DRuns.g, ok_Runs DRuns.F  (DIsRun := TIsRun) (T := T)⟩
  have TLiesRight : Dk P w K mg base "_law_lies_right" sLiesRight ["hand", "text", "some"] 3 spLLies fLiesRight fdLiesRight := ⟨DLiesRight.F, DLiesRight.b, DLiesRight.g, ok_LiesRight DLiesRight.F  (DDraw := TDraw) (DLeast := TLeast) (T := T)⟩
  have TDeep : Dk P w K mg base "_law_deep" sDeep ["many"] 1 spDeep fDeep fdDeep := ⟨DDeep.F, DDeep.b, DDeep.g, ok_Deep DDeep.F   (T := T)⟩
  have TOdd : Dk P w K mg base "_law_odd" sOdd ["hand", "one"] 3 spLOdd fOdd fdOdd := ⟨DOdd.F, DOdd.b, DOdd.g, ok_Odd DOdd.F  (DDraw := TDraw) (DAny := TAny) (DDeep := TDeep) (T := T)⟩
  have TGreatRight : Dk P w K mg base "_law_great_right" sGreatRight ["hand"] 4 spLGreat fGreatRight fdGreatRight := ⟨DGreatRight.F, DGreatRight.b, DGreatRight.g, ok_GreatRight DGreatRight.F  (DPPeriods := TPPeriods) (DPBorders := TPBorders) (DPRuns := TPRuns) (DAny := TAny) (T := T)⟩
  exact ok_law F1 (DPPeriods := TPPeriods) (DPBorders := TPBorders) (DPRuns := TPRuns) (DPIsRun := TPIsRun) (DHand := THand) (DDraw := TDraw) (DIsInt := TIsInt) (DText := TText) (DSigns := TSigns) (DIsFlag := TIsFlag) (DHas := THas) (DRuns := TRuns) (DLiesRight := TLiesRight) (DOdd := TOdd) (DGreatRight := TGreatRight)  (T := T)
end LawK
open PySem PySem.W PyProof.Rows L2
set_option maxRecDepth 100000 in
set_option maxHeartbeats 0 in
theorem PySem.Challenge.cw_everypiece_k42_whole_runs_periods_and_bo_holds : PySem.Challenge.rw_everypiece_k42_whole_runs_periods_and_bo.Holds := by
  w_on; o_law; k_head; (case hw => w_witness2)
  k_fill
  refine Ev.walk_at (l := PySem.Challenge.rw_everypiece_k42_whole_runs_periods_and_bo) (n := 63) (x := "script") (sp := LawK.spLaw) rfl (by decide) rfl (fun w h Y => PySem.W.kIn_of Y) ?F (fun K H a ns hl _ hS => ⟨a, ns, rfl, hS, fun _ => rfl⟩)
  case F =>
    intro w mg fa h KX G hmg
    have hfa : mg "law" = some (.ref fa) := hmg
    clear hmg
    refine LawK.say KX (fun K => LawK.Sh0 (PySem.W.OpenLaw.prog PySem.Challenge.rw_everypiece_k42_whole_runs_periods_and_bo) K mg) (by
      refine' LawK.sh0_mk KX G ?kq1a ?kq1b ?kq1c ?kq1d ?kq1e
      (case kq1a => k_is); (case kq1b => k_is); (case kq1c => k_is); (case kq1d => decide +kernel); (case kq1e => k_is)) ?_
    intro S
    refine LawK.say KX (fun K => ∃ fd, LawK.Df K mg "is_number" LawK.sPNumber ["thing"] 55 fd) (by
      refine' LawK.df_mk KX G (fun _ _ _ _ _ _ us hl => match us, hl with | [_], _ => rfl) ?kq2a ?kq2l ?kq2c
      (case kq2a => k_is); (case kq2l => k_is); (case kq2c => kernel_rfl)) ?_
    intro DPNumber
    refine LawK.say KX (fun K => ∃ fd, LawK.Df K mg "is_signs" LawK.sPSigns ["thing"] 62 fd) (by
      refine' LawK.df_mk KX G (fun _ _ _ _ _ _ us hl => match us, hl with | [_], _ => rfl) ?kq3a ?kq3l ?kq3c
      (case kq3a => k_is); (case kq3l => k_is); (case kq3c => kernel_rfl)) ?_
    intro DPSigns
    refine LawK.say KX (fun K => ∃ fd, LawK.Df K mg "is_tuple" LawK.sPTuple ["thing", "many"] 69 fd) (by
      refine' LawK.df_mk KX G (fun _ _ _ _ _ _ us hl => match us, hl with | [_, _], _ => rfl) ?kq4a ?kq4l ?kq4c
      (case kq4a => k_is); (case kq4l => k_is); (case kq4c => kernel_rfl)) ?_
    intro DPTuple
    refine LawK.say KX (fun K => ∃ fd, LawK.Df K mg "is_text" LawK.sPText ["thing"] 76 fd) (by
      refine' LawK.df_mk KX G (fun _ _ _ _ _ _ us hl => match us, hl with | [_], _ => rfl) ?kq5a ?kq5l ?kq5c
      (case kq5a => k_is); (case kq5l => k_is); (case kq5c => kernel_rfl)) ?_
    intro DPText
    refine LawK.say KX (fun K => ∃ fd, LawK.Df K mg "_has_period" LawK.sQHas ["text", "first", "behind", "many"] 83 fd) (by
      refine' LawK.df_mk KX G (fun _ _ _ _ _ _ us hl => match us, hl with | [_, _, _, _], _ => rfl) ?kq6a ?kq6l ?kq6c
      (case kq6a => k_is); (case kq6l => k_is); (case kq6c => kernel_rfl)) ?_
    intro DQHas
    refine LawK.say KX (fun K => ∃ fd, LawK.Df K mg "_periods" LawK.sQPeriods ["text"] 88 fd) (by
      refine' LawK.df_mk KX G (fun _ _ _ _ _ _ us hl => match us, hl with | [_], _ => rfl) ?kq7a ?kq7l ?kq7c
      (case kq7a => k_is); (case kq7l => k_is); (case kq7c => kernel_rfl)) ?_
    intro DQPeriods
    refine LawK.say KX (fun K => ∃ fd, LawK.Df K mg "periods" LawK.sPPeriods ["text"] 95 fd) (by
      refine' LawK.df_mk KX G (fun _ _ _ _ _ _ us hl => match us, hl with | [_], _ => rfl) ?kq8a ?kq8l ?kq8c
      (case kq8a => k_is); (case kq8l => k_is); (case kq8c => kernel_rfl)) ?_
    intro DPPeriods
    refine LawK.say KX (fun K => ∃ fd, LawK.Df K mg "borders" LawK.sPBorders ["text"] 100 fd) (by
      refine' LawK.df_mk KX G (fun _ _ _ _ _ _ us hl => match us, hl with | [_], _ => rfl) ?kq9a ?kq9l ?kq9c
      (case kq9a => k_is); (case kq9l => k_is); (case kq9c => kernel_rfl)) ?_
    intro DPBorders
    refine LawK.say KX (fun K => ∃ fd, LawK.Df K mg "_stretches" LawK.sQStretches ["text", "many"] 107 fd) (by
      refine' LawK.df_mk KX G (fun _ _ _ _ _ _ us hl => match us, hl with | [_, _], _ => rfl) ?kq10a ?kq10l ?kq10c
      (case kq10a => k_is); (case kq10l => k_is); (case kq10c => kernel_rfl)) ?_
    intro DQStretches
    refine LawK.say KX (fun K => ∃ fd, LawK.Df K mg "runs" LawK.sPRuns ["text"] 112 fd) (by
      refine' LawK.df_mk KX G (fun _ _ _ _ _ _ us hl => match us, hl with | [_], _ => rfl) ?kq11a ?kq11l ?kq11c
      (case kq11a => k_is); (case kq11l => k_is); (case kq11c => kernel_rfl)) ?_
    intro DPRuns
    refine LawK.say KX (fun K => ∃ fd, LawK.Df K mg "_is_stretch" LawK.sQIsStretch ["text", "thing"] 117 fd) (by
      refine' LawK.df_mk KX G (fun _ _ _ _ _ _ us hl => match us, hl with | [_, _], _ => rfl) ?kq12a ?kq12l ?kq12c
      (case kq12a => k_is); (case kq12l => k_is); (case kq12c => kernel_rfl)) ?_
    intro DQIsStretch
    refine LawK.say KX (fun K => ∃ fd, LawK.Df K mg "is_run" LawK.sPIsRun ["text", "thing"] 122 fd) (by
      refine' LawK.df_mk KX G (fun _ _ _ _ _ _ us hl => match us, hl with | [_, _], _ => rfl) ?kq13a ?kq13l ?kq13c
      (case kq13a => k_is); (case kq13l => k_is); (case kq13c => kernel_rfl)) ?_
    intro DPIsRun
    refine LawK.say KX (fun K => ∃ fd, LawK.Df K mg "_law_hand" LawK.sHand ["script"] 127 fd) (by
      refine' LawK.df_mk KX G (fun _ _ _ _ _ _ us hl => match us, hl with | [_], _ => rfl) ?kq14a ?kq14l ?kq14c
      (case kq14a => k_is); (case kq14l => k_is); (case kq14c => kernel_rfl)) ?_
    intro DHand
    refine LawK.say KX (fun K => ∃ fd, LawK.Df K mg "_law_draw" LawK.sDraw ["hand", "many"] 134 fd) (by
      refine' LawK.df_mk KX G (fun _ _ _ _ _ _ us hl => match us, hl with | [_, _], _ => rfl) ?kq15a ?kq15l ?kq15c
      (case kq15a => k_is); (case kq15l => k_is); (case kq15c => kernel_rfl)) ?_
    intro DDraw
    refine LawK.say KX (fun K => ∃ fd, LawK.Df K mg "_law_any" LawK.sAny ["hand", "some"] 141 fd) (by
      refine' LawK.df_mk KX G (fun _ _ _ _ _ _ us hl => match us, hl with | [_, _], _ => rfl) ?kq16a ?kq16l ?kq16c
      (case kq16a => k_is); (case kq16l => k_is); (case kq16c => kernel_rfl)) ?_
    intro DAny
    refine LawK.say KX (fun K => ∃ fd, LawK.Df K mg "_law_is_int" LawK.sIsInt ["thing", "least", "most"] 148 fd) (by
      refine' LawK.df_mk KX G (fun _ _ _ _ _ _ us hl => match us, hl with | [_, _, _], _ => rfl) ?kq17a ?kq17l ?kq17c
      (case kq17a => k_is); (case kq17l => k_is); (case kq17c => kernel_rfl)) ?_
    intro DIsInt
    refine LawK.say KX (fun K => ∃ fd, LawK.Df K mg "_law_deep" LawK.sDeep ["many"] 155 fd) (by
      refine' LawK.df_mk KX G (fun _ _ _ _ _ _ us hl => match us, hl with | [_], _ => rfl) ?kq18a ?kq18l ?kq18c
      (case kq18a => k_is); (case kq18l => k_is); (case kq18c => kernel_rfl)) ?_
    intro DDeep
    refine LawK.say KX (fun K => ∃ fd, LawK.Df K mg "_law_text" LawK.sText ["hand", "signs", "most"] 160 fd) (by
      refine' LawK.df_mk KX G (fun _ _ _ _ _ _ us hl => match us, hl with | [_, _, _], _ => rfl) ?kq19a ?kq19l ?kq19c
      (case kq19a => k_is); (case kq19l => k_is); (case kq19c => kernel_rfl)) ?_
    intro DText
    refine LawK.say KX (fun K => ∃ fd, LawK.Df K mg "_law_signs" LawK.sSigns ["hand"] 167 fd) (by
      refine' LawK.df_mk KX G (fun _ _ _ _ _ _ us hl => match us, hl with | [_], _ => rfl) ?kq20a ?kq20l ?kq20c
      (case kq20a => k_is); (case kq20l => k_is); (case kq20c => kernel_rfl)) ?_
    intro DSigns
    refine LawK.say KX (fun K => ∃ fd, LawK.Df K mg "_law_is_flag" LawK.sIsFlag ["told", "due"] 174 fd) (by
      refine' LawK.df_mk KX G (fun _ _ _ _ _ _ us hl => match us, hl with | [_, _], _ => rfl) ?kq21a ?kq21l ?kq21c
      (case kq21a => k_is); (case kq21l => k_is); (case kq21c => kernel_rfl)) ?_
    intro DIsFlag
    refine LawK.say KX (fun K => ∃ fd, LawK.Df K mg "_law_has" LawK.sHas ["text", "period"] 181 fd) (by
      refine' LawK.df_mk KX G (fun _ _ _ _ _ _ us hl => match us, hl with | [_, _], _ => rfl) ?kq22a ?kq22l ?kq22c
      (case kq22a => k_is); (case kq22l => k_is); (case kq22c => kernel_rfl)) ?_
    intro DHas
    refine LawK.say KX (fun K => ∃ fd, LawK.Df K mg "_law_least" LawK.sLeast ["text"] 188 fd) (by
      refine' LawK.df_mk KX G (fun _ _ _ _ _ _ us hl => match us, hl with | [_], _ => rfl) ?kq23a ?kq23l ?kq23c
      (case kq23a => k_is); (case kq23l => k_is); (case kq23c => kernel_rfl)) ?_
    intro DLeast
    refine LawK.say KX (fun K => ∃ fd, LawK.Df K mg "_law_is_run" LawK.sIsRun ["text", "begin", "behind", "period"] 195 fd) (by
      refine' LawK.df_mk KX G (fun _ _ _ _ _ _ us hl => match us, hl with | [_, _, _, _], _ => rfl) ?kq24a ?kq24l ?kq24c
      (case kq24a => k_is); (case kq24l => k_is); (case kq24c => kernel_rfl)) ?_
    intro DIsRun
    refine LawK.say KX (fun K => ∃ fd, LawK.Df K mg "_law_runs" LawK.sRuns ["text"] 202 fd) (by
      refine' LawK.df_mk KX G (fun _ _ _ _ _ _ us hl => match us, hl with | [_], _ => rfl) ?kq25a ?kq25l ?kq25c
      (case kq25a => k_is); (case kq25l => k_is); (case kq25c => kernel_rfl)) ?_
    intro DRuns
    refine LawK.say KX (fun K => ∃ fd, LawK.Df K mg "_law_lies_right" LawK.sLiesRight ["hand", "text", "some"] 207 fd) (by
      refine' LawK.df_mk KX G (fun _ _ _ _ _ _ us hl => match us, hl with | [_, _, _], _ => rfl) ?kq26a ?kq26l ?kq26c
      (case kq26a => k_is); (case kq26l => k_is); (case kq26c => kernel_rfl)) ?_
    intro DLiesRight
    refine LawK.say KX (fun K => ∃ fd, LawK.Df K mg "_law_odd" LawK.sOdd ["hand", "one"] 214 fd) (by
      refine' LawK.df_mk KX G (fun _ _ _ _ _ _ us hl => match us, hl with | [_, _], _ => rfl) ?kq27a ?kq27l ?kq27c
      (case kq27a => k_is); (case kq27l => k_is); (case kq27c => kernel_rfl)) ?_
    intro DOdd
    refine LawK.say KX (fun K => ∃ fd, LawK.Df K mg "_law_great_right" LawK.sGreatRight ["hand"] 221 fd) (by
      refine' LawK.df_mk KX G (fun _ _ _ _ _ _ us hl => match us, hl with | [_], _ => rfl) ?kq28a ?kq28l ?kq28c
      (case kq28a => k_is); (case kq28l => k_is); (case kq28c => kernel_rfl)) ?_
    intro DGreatRight
    have GL : LawK.Glob mg := ⟨mg_none_of KX G (by k_is), mg_none_of KX G (by k_is), mg_none_of KX G (by k_is), mg_none_of KX G (by k_is), mg_none_of KX G (by k_is), mg_none_of KX G (by k_is), mg_none_of KX G (by k_is), mg_none_of KX G (by k_is), mg_none_of KX G (by k_is), mg_none_of KX G (by k_is), mg_none_of KX G (by k_is), mg_none_of KX G (by k_is), mg_none_of KX G (by k_is), mg_none_of KX G (by k_is), mg_none_of KX G (by k_is), mg_none_of KX G (by k_is), mg_none_of KX G (by k_is), mg_none_of KX G (by k_is), mg_none_of KX G (by k_is), mg_none_of KX G (by k_is)⟩
    refine' LawK.end_mk KX G hfa ?kq29a ?kq29l ?kq29c ?kq29b DPNumber DPSigns DPTuple DPText DQHas DQPeriods DPPeriods DPBorders DQStretches DPRuns DQIsStretch DPIsRun DHand DDraw DAny DIsInt DDeep DText DSigns DIsFlag DHas DLeast DIsRun DRuns DLiesRight DOdd DGreatRight  GL
    (case kq29a => k_is); (case kq29l => k_is); (case kq29c => kernel_rfl); (case kq29b => k_is)
