import PyProof.Rows.All
import Wide.All
import OpenK.AllK
import Wide.FinOn
import HandS.ForMost
import HandS.ForExc
import PyProof.ReprRoads
import PyProof.ReprLen
import HandS.Dict
import HandS.ExcInit
import PyProof.StrBlock2
import HandS.IsInst
import HandS.Codes
import HandS.StrMore
import HandS.TupMul
import HandS.Style
import HandS.TupAny
import HandS.Zip
import KE.GoesEnum
import KE.KExcSuper
import KE.KExcMake
import HandS.ExcValue
import HandS.ExcIs
import KE.KExcIs
import HandS.ExcField
import HandS.TryMany
import HandS.TryOnly
import HandS.Base
import HandS.Call
import HandS.List
import HandS.Comp
import HandS.Set
import HandS.SetKeys
import HandS.SetBool
import HandS.SortOrd
import HandS.SortInts
import PyProof.Rows.SortStr
import HandS.Walk
import KE.SortData
import KE.DataCmp
import KE.KDictList
import HandS.Iter
import HandS.Conv
import HandS.More
import HandS.CallLocal
import PyProof.DictStraight
import HandS.DictTup
import KE.DataMinMax
import HandS.SortKw
import PyProof.Rows.RowBridgeK
import HandS.OwnEq
import PyProof.Rows.StrRev
import PySem.Challenge.RW_everypiece_k21_asks_refused
set_option Elab.async false
set_option linter.all false
set_option maxRecDepth 100000
set_option maxHeartbeats 4000000
/-! repr of nested data that the law has made. -/
namespace Ev
open PySem PySem.Spec PyProof.Rows L2

/-- a display of a list; its place is not the table of modules -/
def tLstN (t : TA) : TE := fun σ H Q => t σ H fun xs H1 => xs.length ≤ sizeLine ∧ ∀ p, H1 p = none → p ≠ sysModules → Q (.ref p) (upd H1 p (.lst xs))
theorem pe_lstN {X : Cx} {es : List Expr} {pos : Pos} {t : TA} (h : PA X es t) : PE X (.List es pos) (tLstN t) := by
  refine ⟨fun pins s σ H Q I hq => ?_⟩
  refine wpAny_List_spliced (thn (h.run pos pins s σ H _ I hq) fun us s1 hh => ?_)
  obtain ⟨xs, H1, I1, r, z, q⟩ := hh
  have hf : H1 s1.heap.objs.size = none := I1.hok.fresh (Nat.le_refl _)
  refine ⟨by rw [← r.length]; exact z, .ref s1.heap.objs.size, upd H1 s1.heap.objs.size (.lst xs), I1.laid (t' := s1.toks) (o := .lst xs) (fun b u e => Heap.get?_push_of_some _ e) (Nat.le_refl _) ⟨z, us, 0, r, Heap.get?_push_size _ rfl⟩, rfl, q _ hf (Ne.symm (Nat.ne_of_lt I1.big))⟩

/-- the datum d is told by v -/
inductive Dt (H : Hp) : V → PyData → Prop
  | non : Dt H .non .none
  | bl (b : Bool) : Dt H (.bl b) (.bool b)
  | int (i : Int) : Dt H (.int i) (.int i)
  | str (x : Str) : Dt H (.str x) (.str x)
  | dic {a : Addr} : H a = some (.dK []) → Dt H (.ref a) (.dict [])
  | l0 {a : Addr} : H a = some (.lst []) → a ≠ sysModules → Dt H (.ref a) (.list [])
  | l1 {a : Addr} {x : V} {d : PyData} : H a = some (.lst [x]) → a ≠ sysModules → Dt H x d → Dt H (.ref a) (.list [d])
  | l2 {a : Addr} {x y : V} {d e : PyData} : H a = some (.lst [x, y]) → a ≠ sysModules → Dt H x d → Dt H y e → Dt H (.ref a) (.list [d, e])
  | t0 {a : Addr} : H a = some (.tup []) → Dt H (.ref a) (.tuple [])
  | t1 {a : Addr} {x : V} {d : PyData} : H a = some (.tup [x]) → Dt H x d → Dt H (.ref a) (.tuple [d])
  | t2 {a : Addr} {x y : V} {d e : PyData} : H a = some (.tup [x, y]) → Dt H x d → Dt H y e → Dt H (.ref a) (.tuple [d, e])
theorem Dt.keep {H H' : Hp} {v : V} {d : PyData} (h : Dt H v d) (k : ∀ b o, H b = some o → H' b = some o) : Dt H' v d := by
  induction h with
  | non => exact .non
  | bl b => exact .bl b
  | int i => exact .int i
  | str x => exact .str x
  | dic e => exact .dic (k _ _ e)
  | l0 e n => exact .l0 (k _ _ e) n
  | l1 e n _ ih => exact .l1 (k _ _ e) n ih
  | l2 e n _ _ i1 i2 => exact .l2 (k _ _ e) n i1 i2
  | t0 e => exact .t0 (k _ _ e)
  | t1 e _ ih => exact .t1 (k _ _ e) ih
  | t2 e _ _ i1 i2 => exact .t2 (k _ _ e) i1 i2
section
variable {X : Cx} {pins : List (Addr × Obj)} {σ : L2.St} {H : Hp} {s : Shared}
theorem lst_at (I : L2.Inv X pins σ H s) {a : Addr} {xs : List V} (h : H a = some (.lst xs)) : ∃ (its : List Value) (n : Nat), Vals xs its ∧ s.heap.get? a = some { cls := .type "list", data := .seq its.toArray n } := by
  obtain ⟨_, its, n, r, e⟩ := (show ObjOk X.prog X.w H s.heap a (.lst xs) from I.hok a _ h)
  exact ⟨its, n, r, e⟩
theorem tup_at (I : L2.Inv X pins σ H s) {a : Addr} {xs : List V} (h : H a = some (.tup xs)) : ∃ (its : List Value) (o : Obj) (n : Nat), Vals xs its ∧ s.heap.get? a = some o ∧ o.cls = .type "tuple" ∧ o.data = .seq its.toArray n := by
  obtain ⟨_, its, r, o, e, c, n, d⟩ := (show ObjOk X.prog X.w H s.heap a (.tup xs) from I.hok a _ h)
  exact ⟨its, o, n, r, e, c, d⟩
theorem Dt.reads (I : L2.Inv X pins σ H s) {v : V} {d : PyData} (h : Dt H v d) : ∀ {u : Value}, RelV v u → ∃ as, Reads s.heap u d as ∧ sysModules ∉ as := by
  induction h with
  | non => intro u r; cases r; exact ⟨_, .none, by simp⟩
  | bl b => intro u r; cases r; exact ⟨_, .bool b, by simp⟩
  | int i => intro u r; obtain ⟨t, rfl⟩ := r; exact ⟨_, .int i t, by simp⟩
  | str x => intro u r; obtain ⟨t, rfl⟩ := r; exact ⟨_, .str x t, by simp⟩
  | @dic a e =>
    intro u r
    cases r
    obtain ⟨_, hs, vs, kv, o, es, ep, ho, hx, hd, hk, hp, _⟩ := (show ObjOk X.prog X.w H s.heap a (.dK []) from I.hok a _ e)
    cases kv
    have he : es.toList = [] := by
      generalize es.toList = l at hp
      cases hp
      rfl
    refine ⟨a :: [] ++ [], .dict (as := []) (bs := []) ho hx.1 hd ?_ ?_, ?_⟩
    · rw [he]; exact .nil
    · rw [he]; exact .nil
    · have : a ≠ sysModules := by simpa using hs
      simp [Ne.symm this]
  | @l0 a e n =>
    intro u r
    cases r
    obtain ⟨its, m, rv, ho⟩ := lst_at I e
    cases rv
    exact ⟨_, .list ho rfl rfl .nil, by simp [Ne.symm n]⟩
  | @l1 a x d e n hx ih =>
    intro u r
    cases r
    obtain ⟨its, m, rv, ho⟩ := lst_at I e
    cases rv with
    | cons r1 rr =>
      cases rr
      obtain ⟨as, q, nq⟩ := ih r1
      exact ⟨_, .list ho rfl rfl (.cons q .nil), by simp [Ne.symm n, nq]⟩
  | @l2 a x y d e2 e n hx hy ih1 ih2 =>
    intro u r
    cases r
    obtain ⟨its, m, rv, ho⟩ := lst_at I e
    cases rv with
    | cons r1 rr =>
      cases rr with
      | cons r2 rr =>
        cases rr
        obtain ⟨as, q, nq⟩ := ih1 r1
        obtain ⟨bs, q2, nq2⟩ := ih2 r2
        exact ⟨_, .list ho rfl rfl (.cons q (.cons q2 .nil)), by simp [Ne.symm n, nq, nq2]⟩
  | @t0 a e =>
    intro u r
    cases r
    obtain ⟨its, o, m, rv, ho, hc, hd⟩ := tup_at I e
    cases rv
    exact ⟨_, .tuple ho hc hd .nil, by simp⟩
  | @t1 a x d e hx ih =>
    intro u r
    cases r
    obtain ⟨its, o, m, rv, ho, hc, hd⟩ := tup_at I e
    cases rv with
    | cons r1 rr =>
      cases rr
      obtain ⟨as, q, nq⟩ := ih r1
      exact ⟨_, .tuple ho hc hd (.cons q .nil), by simp [nq]⟩
  | @t2 a x y d e2 e hx hy ih1 ih2 =>
    intro u r
    cases r
    obtain ⟨its, o, m, rv, ho, hc, hd⟩ := tup_at I e
    cases rv with
    | cons r1 rr =>
      cases rr with
      | cons r2 rr =>
        cases rr
        obtain ⟨as, q, nq⟩ := ih1 r1
        obtain ⟨bs, q2, nq2⟩ := ih2 r2
        exact ⟨_, .tuple ho hc hd (.cons q (.cons q2 .nil)), by simp [nq, nq2]⟩
end
/-- repr(x), x a datum of small depth and size -/
def rRepr : List V → Hp → VK → Prop := fun xs H Q => ∃ (x : V) (d : PyData), xs = [x] ∧ Dt H x d ∧ d.showable = true ∧ d.depth ≤ 100 ∧ d.shown.length ≤ 100000 ∧ Q (.str d.shown) H
theorem call_repr {X : Cx} {k : Nat} (hg : X.A.guards = some []) (hr : Room k X.A) : CallR X (.builtin "repr") rRepr := by
  intro pins s σ H xs us Q I r h
  obtain ⟨x, d, rfl, hd, hs, hdp, hz, q⟩ := h
  obtain ⟨u, rfl, ru⟩ := vals1 r
  have hz' : d.shown.length ≤ sizeLine := Nat.le_trans hz (by decide)
  obtain ⟨as, rd, ns⟩ := hd.reads I ru
  have hu : X.A.units + (d.depth + 1) < cLine := by have := hr.un; omega
  have viaRef : ∀ a, u = .ref a → wpAny (model X.prog X.w) X.A (call (.builtin "repr") [u]) (EP X pins σ Q) X.xe s := fun a e => by
    subst e
    exact repr_of_reads' rd hs (fun _ => ns) hg hu (fun _ _ e => e) (fun h' u tk k => ⟨.str d.shown, H, I.kept k, ⟨_, rfl⟩, q⟩) hz'
  cases hd with
  | non => cases ru; exact PySem.P.repr_of_none ⟨.str _, H, I.tok _, ⟨_, rfl⟩, by simpa only [PyData.shown] using q⟩
  | bl b => cases ru; exact PySem.P.repr_of_bool ⟨.str _, H, I.tok _, ⟨_, rfl⟩, by simpa only [PyData.shown] using q⟩
  | int i => obtain ⟨t, rfl⟩ := ru; exact PySem.P.repr_of_int (by simpa [PyData.showable] using hs) ⟨.str _, H, I.tok _, ⟨_, rfl⟩, by simpa only [PyData.shown] using q⟩
  | str x => obtain ⟨t, rfl⟩ := ru; exact PySem.P.repr_of_str ⟨.str _, H, I.tok _, ⟨_, rfl⟩, by simpa only [PyData.shown] using q⟩ (by simpa only [PyData.shown] using hz')
  | dic e => exact viaRef _ ru
  | l0 e n => exact viaRef _ ru
  | l1 e n h1 => exact viaRef _ ru
  | l2 e n h1 h2 => exact viaRef _ ru
  | t0 e => exact viaRef _ ru
  | t1 e h1 => exact viaRef _ ru
  | t2 e h1 h2 => exact viaRef _ ru
/-- what is told of a datum: it may be shown, so deep, so long -/
def Small (d : PyData) (n m : Nat) : Prop := d.showable = true ∧ d.depth ≤ n ∧ d.shown.length ≤ m
theorem int_len {k : Int} (hk : 0 ≤ k ∧ k < 100) : (PyData.shown (.int k)).length ≤ 3 := by
  have e : (toString k).length ≤ 2 + 1 := int_text_length_le10 (by decide) (by omega)
  simp only [PyData.shown]
  rw [PySem.ofString_length]
  exact e
theorem int_show {k : Int} (hk : 0 ≤ k ∧ k < 100) : k.natAbs.log2 < 1920 := by
  have := Nat.log2_le_self k.natAbs
  omega
theorem small_tup {d : PyData} {n m : Nat} {k : Int} (h : Small d n m) (hk : 0 ≤ k ∧ k < 100) : Small (.tuple [d, .int k]) (n + 1) (m + 10) := by
  obtain ⟨h1, h2, h3⟩ := h
  refine ⟨by simp [PyData.showable, PyData.showableAll, h1, int_show hk], by simp only [PyData.depth, PyData.depthAll]; omega, ?_⟩
  have e := tupleText_len_le (PyData.shownAll [d, .int k])
  have e2 := int_len hk
  simp only [PyData.shownAll, List.map_cons, List.map_nil, List.sum_cons, List.sum_nil, List.length_cons, List.length_nil] at e
  show (tupleText (PyData.shownAll [d, .int k])).length ≤ m + 10
  simp only [PyData.shownAll]
  omega
theorem small_lst {d : PyData} {n m : Nat} {k : Int} (h : Small d n m) (hk : 0 ≤ k ∧ k < 100) : Small (.list [.int k, d]) (n + 1) (m + 10) := by
  obtain ⟨h1, h2, h3⟩ := h
  refine ⟨by simp [PyData.showable, PyData.showableAll, h1, int_show hk], by simp only [PyData.depth, PyData.depthAll]; omega, ?_⟩
  have e := listText_len_le (PyData.shownAll [.int k, d])
  have e2 := int_len hk
  simp only [PyData.shownAll, List.map_cons, List.map_nil, List.sum_cons, List.sum_nil, List.length_cons, List.length_nil] at e
  show (listText (PyData.shownAll [.int k, d])).length ≤ m + 10
  simp only [PyData.shownAll]
  omega
theorem Small.mono {d : PyData} {n m n' m' : Nat} (h : Small d n m) (h1 : n ≤ n') (h2 : m ≤ m') : Small d n' m' := ⟨h.1, Nat.le_trans h.2.1 h1, Nat.le_trans h.2.2 h2⟩
end Ev
set_option maxHeartbeats 4000000
namespace LawK
open PySem PySem.Spec PyProof.Rows L2 Ev

def topS (i : Nat) : Stmt := PySem.Challenge.pw_everypiece_k21_asks_refused.main.body.getD i (.Pass ⟨0, 0, 0, 0⟩)
abbrev sHand : Stmt := topS 38
theorem scHand : FnScope ["script", "cell"] ["script"] (defScope sHand) := ⟨rfl, rfl, rfl, by decide +kernel, rfl, by decide +kernel, by decide +kernel⟩
abbrev sDraw : Stmt := topS 39
theorem scDraw : FnScope ["hand", "many", "cell", "digit", "number"] ["hand", "many"] (defScope sDraw) := ⟨rfl, rfl, rfl, by decide +kernel, rfl, by decide +kernel, by decide +kernel⟩
/-! ### the hand of a law: what is left of the script, and a seed -/
def HandL (H : Hp) (p l : Addr) : Prop := ∃ (cells : List Int) (i r s n : Int), H p = some (.lst [.ref l, .int i, .int r, .int s, .int n]) ∧ H l = some (.lst (cells.map V.int)) ∧ l ≠ p ∧ 0 ≤ i ∧ 0 ≤ s ∧ s < 2147483647
/-- nothing but the hand at p has changed -/
def But (p : Addr) (H H' : Hp) : Prop := ∀ b o, b ≠ p → H b = some o → H' b = some o
theorem But.refl (p : Addr) (H : Hp) : But p H H := fun _ _ _ h => h
theorem But.trans {p : Addr} {H H1 H2 : Hp} (a : But p H H1) (b : But p H1 H2) : But p H H2 := fun c o n h => b c o n (a c o n h)
theorem But.new {p q : Addr} {H H1 : Hp} {o : HO} (a : But p H H1) (h : H1 q = none) : But p H (upd H1 q o) := fun c u n e => by
  have z := a c u n e
  rw [upd_ne (ne_of_none z h)]
  exact z
theorem But.same {p : Addr} {H H' : Hp} (a : Same H H') : But p H H' := fun c o _ e => a c o e
def spDraw : Sp := fun vs H Q _ => ∃ (p : Addr) (m : Int), vs = [.ref p, .int m] ∧ 0 < m ∧ m < 1000000 ∧ ∃ l, HandL H p l ∧ ∀ v H', 0 ≤ v → v < m → HandL H' p l → But p H H' → Q (.int v) H'
def spHand (K : PySem.W.Frag) : Sp := fun vs H Q _ => ∃ (a : Addr) (ns : List Int), vs = [.ref a] ∧ SqL K H a (ns.map V.int) ∧ ∀ p l H', H p = none → H l = none → HandL H' p l → Same H H' → Q (.ref p) H'
structure Glob (mg : Str → Option Value) : Prop where
  abs : mg "abs" = none
  any : mg "any" = none
  repr : mg "repr" = none
  reversed : mg "reversed" = none
  len : mg "len" = none
  int : mg "int" = none
  list : mg "list" = none
  range : mg "range" = none
  isinstance : mg "isinstance" = none
  bool : mg "bool" = none
  str : mg "str" = none
  tuple : mg "tuple" = none
  sum : mg "sum" = none
  ord : mg "ord" = none
  zip : mg "zip" = none
  max : mg "max" = none
  min : mg "min" = none
  all : mg "all" = none
  enumerate : mg "enumerate" = none
  sorted : mg "sorted" = none

theorem sq_of {K : PySem.W.Frag} {H : Hp} {a : Addr} {xs : List V} (h : H a = some (.lst xs)) : SqL K H a xs := .inl (.inl h)
theorem atI_in {α : Type} {xs : List α} {i : Int} (h0 : 0 ≤ i) (h1 : i < xs.length) : ∃ v, atI xs i = some v ∧ v ∈ xs := by
  obtain ⟨j, rfl⟩ := Int.eq_ofNat_of_zero_le h0
  have hj : j < xs.length := by omega
  exact ⟨xs[j], atI_nat (by rw [List.getElem?_eq_getElem hj]), List.getElem_mem hj⟩
theorem atI_int {xs : List Int} {i : Int} (h0 : 0 ≤ i) (h1 : i < xs.length) : ∃ c : Int, atI (xs.map V.int) i = some (.int c) := by
  obtain ⟨v, e, hm⟩ := atI_in (xs := xs.map V.int) h0 (by rw [List.length_map]; exact h1)
  obtain ⟨c, _, rfl⟩ := List.mem_map.mp hm
  exact ⟨c, e⟩
theorem sqSame {K : PySem.W.Frag} {H H' : Hp} {a : Addr} {xs : List V} (h : SqL K H a xs) (k : Same H H') : SqL K H' a xs := by
  rcases h with (h | ⟨o, h⟩) | h
  · exact .inl (.inl (k _ _ h))
  · exact .inl (.inr ⟨o, k _ _ h⟩)
  · exact .inr h
theorem Same.new {H : Hp} {q : Addr} {o : HO} (h : H q = none) : Same H (upd H q o) := fun b u e => by
  rw [upd_ne (ne_of_none e h)]
  exact e
theorem sameAt {H H' : Hp} {q : Addr} {o : HO} (k : Same H H') (h : H q = none) : Same H (upd H' q o) := fun b u e => by
  rw [upd_ne (ne_of_none e h)]
  exact k b u e
theorem Same.free {H H' : Hp} (k : Same H H') {a : Addr} (h : H' a = none) : H a = none := by
  cases e : H a with
  | none => rfl
  | some o =>
    rw [k _ _ e] at h
    cases h
theorem cells_cut {ns : List Int} {h : Option Int} : ∃ ms : List Int, cutV (ns.map V.int) none h = ms.map V.int ∧ ms.length ≤ ns.length := by
  refine ⟨(ns.drop (HT.sIx (ns.map V.int).length 0 none)).take (HT.sIx (ns.map V.int).length (ns.map V.int).length h - HT.sIx (ns.map V.int).length 0 none), ?_, ?_⟩
  · show ((ns.map V.int).drop _).take _ = _
    rw [← List.map_drop, ← List.map_take]
  · rw [List.length_take, List.length_drop]
    omega
theorem PSs.imp {X : Cx} {st : List Stmt} {t u : TS} (h : PSs X st u) (k : ∀ D σ H, t D σ H → u D σ H) : PSs X st t := ⟨fun pins s σ H D I q => h.run pins s σ H D I (k D σ H q)⟩
theorem PE.imp {X : Cx} {e : Expr} {t u : TE} (h : PE X e u) (k : ∀ σ H Q, t σ H Q → u σ H Q) : PE X e t := ⟨fun pins s σ H Q I q => h.run pins s σ H Q I (k σ H Q q)⟩
theorem PS.imp {X : Cx} {st : Stmt} {t u : TS} (h : PS X st u) (k : ∀ D σ H, t D σ H → u D σ H) : PS X st t := ⟨fun pins s σ H D I q => h.run pins s σ H D I (k D σ H q)⟩
def tTail : TS := fun D σ H => ∃ (p : Addr) (m : Int) (l : Addr) (cells : List Int) (i r s n : Int) (c f x : Option V), σ = [some (.ref p), some (.int m), c, f, x] ∧ 0 < m ∧ m < 1000000 ∧ H p = some (.lst [.ref l, .int i, .int r, .int s, .int n]) ∧ H l = some (.lst (cells.map V.int)) ∧ l ≠ p ∧ 0 ≤ i ∧ 0 ≤ s ∧ s < 2147483647 ∧
  ∀ v H', 0 ≤ v → v < m → HandL H' p l → But p H H' → D.rt (.int v) H'
theorem HandL.mk {H : Hp} {p l : Addr} {cells : List Int} {i r s n : Int} (hp : H p = some (.lst [.ref l, .int i, .int r, .int s, .int n])) (hl : H l = some (.lst (cells.map V.int))) (n0 : l ≠ p) (h1 : 0 ≤ i) (h2 : 0 ≤ s) (h3 : s < 2147483647) : HandL H p l := ⟨cells, i, r, s, n, hp, hl, n0, h1, h2, h3⟩
theorem but_upd {p : Addr} {H : Hp} {o : HO} : But p H (upd H p o) := fun b u n e => by
  rw [upd_ne n]
  exact e
theorem boot_ty_int : bootBuiltins "int" = some (.type "int") := by decide +kernel
section
variable {P : Program} {w : World} {K : PySem.W.Frag} {mg : Str → Option Value} {base : Heap}

theorem ok_Hand {f : Addr} {fd : FuncData} (F : Fun K "_law_hand" "_law_hand" sHand f fd) (T : Glob mg) : FnOk P w K mg base CX0 1 f fd ["script"] (spHand K) := by
  refine F.ok scHand (fun vs H Q E h => ?_) (fun cdv A outer s H vs Q E hr h => ?_)
  · obtain ⟨a, ns, rfl, _⟩ := h
    rfl
  · obtain ⟨a, ns, rfl, hS, q⟩ := h
    refine ⟨_, (pss_one (ps_ret (pe_lst (pa_cons (pe_lc (own := [("cell", 1)]) (g := gName 1) (by rfl) scHand.nd (pi_list (pe_slice sl_list (pv 0) po_none (po_some pe_int))) (blkOk_by (N := ["script", "cell"]) (sc := defScope sHand) (by decide +kernel)) (fun _ _ _ _ _ => pg_name (i := 1) scHand.nd rfl (.inl rfl)) (fun _ _ _ _ _ => pts_nil) (fun _ _ _ _ _ => (pe_callTy call_int1 (by rfl) T.int boot_ty_int (pa_cons (pv 1) pa_nil)))) (pa_cons pe_int (pa_cons pe_int (pa_cons (pe_op op_add pe_int (pe_callB call_len_seq (by rfl) T.len PySem.boot_len (pa_cons (pe_slice sl_list (pv 0) po_none (po_some pe_int)) pa_nil))) (pa_cons pe_int pa_nil)))))))), ?_⟩
    obtain ⟨ms, ec, lm⟩ := cells_cut (ns := ns) (h := some 63)
    have lc : (cutV (ns.map V.int) none (some (63 : Int))).length ≤ 63 := by
      show (((ns.map V.int).drop _).take _).length ≤ 63
      rw [List.length_take]
      have : HT.sIx (ns.map V.int).length (ns.map V.int).length (some (63 : Int)) ≤ 63 := Nat.min_le_left _ _
      omega
    refine ⟨.ref a, rfl, 63, rfl, a, _, rfl, hS, fun c nc => ?_⟩
    rw [ec]
    rw [ec, List.length_map] at lc
    have kc := Same.new (o := .lst (ms.map V.int)) nc
    have hc : upd H c (.lst (ms.map V.int)) c = some (.lst (ms.map V.int)) := upd_same
    revert kc hc
    generalize upd H c (.lst (ms.map V.int)) = H1
    intro kc hc
    refine ⟨c, rfl, ⟨_, sq_of hc⟩, fun l nl => lc_list (xs := ms.map V.int) (fun i H' => Same H1 H' ∧ ∃ zs : List Int, H' l = some (.lst (zs.map V.int)) ∧ zs.length = i) ⟨Same.new nl, [], upd_same, rfl⟩ (fun i H' _ w => sq_of (w.1 _ _ hc)) ?_ ?_⟩
    · rintro i x H2 hx ⟨k2, zs, hl, lz⟩
      rw [List.getElem?_map] at hx
      obtain ⟨y, hy, rfl⟩ := Option.map_eq_some_iff.mp hx
      have li := (List.getElem?_eq_some_iff.mp hy).1
      refine ⟨rfl, .int y, rfl, .inl ⟨y, rfl, _, hl, ?_, sameAt k2 nl, zs ++ [y], ?_, by rw [List.length_append, lz]; rfl⟩⟩
      · rw [List.length_map, lz, sizeLine_eq]
        omega
      · rw [upd_same, List.map_append]
        rfl
    · rintro H2 ⟨k2, zs, hl, lz⟩
      rw [List.length_map] at lz
      refine ⟨.ref a, rfl, 63, rfl, a, _, rfl, sqSame hS (kc.trans k2), fun d nd => ?_⟩
      rw [ec]
      have kd := Same.new (o := .lst (ms.map V.int)) nd
      have hd : upd H2 d (.lst (ms.map V.int)) d = some (.lst (ms.map V.int)) := upd_same
      revert kd hd
      generalize upd H2 d (.lst (ms.map V.int)) = H3
      intro kd hd
      refine ⟨d, _, rfl, .inl (sq_of hd), _, _, rfl, rfl, by show 5 ≤ sizeLine; decide, fun p hp => ?_⟩
      have hl3 := kd _ _ hl
      have nlp : l ≠ p := fun e => by
        rw [e] at hl3
        rw [hl3] at hp
        cases hp
      have kH3 : Same H H3 := (kc.trans k2).trans kd
      have ncl : H l = none := Same.free kc nl
      refine q p l _ (Same.free kH3 hp) ncl ⟨zs, 0, 0, 1 + (((ms.map V.int).length : Nat) : Int), 0, upd_same, by rw [upd_ne nlp]; exact hl3, nlp, by decide, by omega, ?_⟩ (sameAt kH3 (Same.free kH3 hp))
      rw [List.length_map]
      omega
theorem ok_Draw {f : Addr} {fd : FuncData} (F : Fun K "_law_draw" "_law_draw" sDraw f fd) (T : Glob mg) : FnOk P w K mg base CX0 1 f fd ["hand", "many"] spDraw := by
  refine F.ok scDraw (fun vs H Q E h => ?_) (fun cdv A outer s H vs Q E hr h => ?_)
  · obtain ⟨p, m, rfl, _⟩ := h
    rfl
  · obtain ⟨p, m, rfl, m0, m1, l, ⟨cells, i, r, s0, n, hp, hl, npl, hi, hs0, hs1⟩, q⟩ := h
    refine ⟨_, (pss_cons (ps_if (PW.pt (pw_and (pt_cmpR op_eq (pe_ix ix_list (pv 0) pe_int (fun _ _ => rfl)) pe_int (nomark _)) (pw_and1 (pt_cmpR op_lt (pe_ix ix_list (pv 0) pe_int (fun _ _ => rfl)) (pe_callB call_len_seq (by rfl) T.len PySem.boot_len (pa_cons (pe_ix ix_list (pv 0) pe_int (fun _ _ => rfl)) pa_nil)) (nomark _)))))
      (pss_cons (ps_set (i := 2) scDraw.nd rfl (.inl rfl) (pe_ix ix_list (pe_ix ix_list (pv 0) pe_int (fun _ _ => rfl)) (pe_ix ix_list (pv 0) pe_int (fun _ _ => rfl)) (fun _ _ => rfl)))
        (pss_cons (ps_asg (pe_op op_add (pe_ix ix_list (pv 0) pe_int (fun _ _ => rfl)) pe_int) (pg_sub (pv 0) pe_int set_list))
        (pss_cons (ps_asg (pe_op op_mod (pe_callTy call_int1 (by rfl) T.int boot_ty_int (pa_cons (pe_op op_add (pe_op op_add (pe_op op_mul (pe_ix ix_list (pv 0) pe_int (fun _ _ => rfl)) pe_int) (pe_op op_mul (pv 2) pe_int)) pe_int) pa_nil)) pe_int) (pg_sub (pv 0) pe_int set_list))
        (pss_one (ps_if (pt_cmpR op_ge (pv 2) (pe_op op_pow pe_int pe_int) (nomark _))
        (pss_one (ps_asg (pv 2) (pg_sub (pv 0) pe_int set_list)))
        pss_nil)))))
      pss_nil)
      (PSs.imp (t := tTail) (pss_cons (ps_if (pt_cmpR op_gt (pe_ix ix_list (pv 0) pe_int (fun _ _ => rfl)) pe_int (nomark _))
      (pss_cons (ps_set (i := 3) scDraw.nd rfl (.inl rfl) (pe_op op_mod (pe_callTy call_int1 (by rfl) T.int boot_ty_int (pa_cons (pe_ix ix_list (pv 0) pe_int (fun _ _ => rfl)) pa_nil)) (pv 1)))
        (pss_cons (ps_asg (pe_op op_fdiv (pe_ix ix_list (pv 0) pe_int (fun _ _ => rfl)) (pv 1)) (pg_sub (pv 0) pe_int set_list))
        (pss_one (ps_ret (pv 3)))))
      pss_nil)
      (pss_cons (ps_asg (pe_op op_add (pe_ix ix_list (pv 0) pe_int (fun _ _ => rfl)) pe_int) (pg_sub (pv 0) pe_int set_list))
      (pss_cons (ps_set (i := 4) scDraw.nd rfl (.inl rfl) (pe_op op_mod (pe_callTy call_int1 (by rfl) T.int boot_ty_int (pa_cons (pe_op op_mul (pe_callTy call_int1 (by rfl) T.int boot_ty_int (pa_cons (pe_op op_add (pe_ix ix_list (pv 0) pe_int (fun _ _ => rfl)) (pe_op op_mul pe_int (pe_ix ix_list (pv 0) pe_int (fun _ _ => rfl)))) pa_nil)) pe_int) pa_nil)) pe_int))
      (pss_cons (ps_set (i := 4) scDraw.nd rfl (.inl rfl) (pe_op op_mod (pe_callTy call_int1 (by rfl) T.int boot_ty_int (pa_cons (pe_op op_mul (pv 4) (pe_op op_add (pe_op op_fdiv (pv 4) pe_int) pe_int)) pa_nil)) pe_int))
      (pss_cons (ps_set (i := 4) scDraw.nd rfl (.inl rfl) (pe_op op_mod (pe_callTy call_int1 (by rfl) T.int boot_ty_int (pa_cons (pe_op op_mul (pv 4) (pe_op op_add (pe_op op_fdiv (pv 4) pe_int) pe_int)) pa_nil)) pe_int))
      (pss_one (ps_ret (pe_op op_mod (pe_callTy call_int1 (by rfl) T.int boot_ty_int (pa_cons (pe_op op_fdiv (pv 4) pe_int) pa_nil)) (pv 1))))))))) ?tail)), ?_⟩
    case tail =>
      rintro D σ H ⟨p, m, l, cells, i, r, s, n, c, f, x, rfl, m0, m1, hp, hl, npl, hi, hs0, hs1, q⟩
      refine ⟨.ref p, rfl, p, _, 2, _, rfl, rfl, sq_of hp, rfl, _, _, rfl, rfl, _, rfl, ite2 (fun e => ?_) (fun e => ?_)⟩
      · refine ⟨.ref p, rfl, p, _, 2, _, rfl, rfl, sq_of hp, rfl, .inl ⟨r, rfl, .int m, rfl, _, _, rfl, rfl, m0, ?_⟩⟩
        refine ⟨.ref p, rfl, p, _, 2, _, rfl, rfl, sq_of hp, rfl, .int m, rfl, _, _, rfl, rfl, ⟨m0, by omega⟩, ?_⟩
        refine ⟨.ref p, rfl, p, _, 2, 2, rfl, rfl, hp, rfl, ?_⟩
        refine ⟨_, rfl, ?_⟩
        refine q _ _ (Int.emod_nonneg _ (by omega)) (Int.emod_lt_of_pos _ m0) (.mk upd_same (by rw [upd_ne npl]; exact hl) npl hi hs0 hs1) but_upd
      · dsimp only [tNext, tDrop]
        refine ⟨.ref p, rfl, p, _, 4, _, rfl, rfl, sq_of hp, rfl, _, _, rfl, rfl, .ref p, rfl, p, _, 4, 4, rfl, rfl, hp, rfl, ?_⟩
        dsimp only
        have hp2 : upd H p (.lst (List.set [.ref l, .int i, .int r, .int s, .int n] 4 (.int (n + 1)))) p = some (.lst [.ref l, .int i, .int r, .int s, .int (n + 1)]) := upd_same
        have hl2 : upd H p (.lst (List.set [.ref l, .int i, .int r, .int s, .int n] 4 (.int (n + 1)))) l = some (.lst (cells.map V.int)) := by rw [upd_ne npl]; exact hl
        have b2 : But p H (upd H p (.lst (List.set [.ref l, .int i, .int r, .int s, .int n] 4 (.int (n + 1))))) := but_upd
        generalize upd H p (.lst (List.set [.ref l, .int i, .int r, .int s, .int n] 4 (.int (n + 1)))) = H2 at hp2 hl2 b2 ⊢
        refine ⟨.ref p, rfl, p, _, 3, _, rfl, rfl, sq_of hp2, rfl, .ref p, rfl, p, _, 4, _, rfl, rfl, sq_of hp2, rfl, 7919, n + 1, rfl, rfl, .inl ⟨by decide, by decide⟩, _, _, rfl, rfl, .inl ⟨_, rfl, _, _, rfl, rfl, .inr ⟨by decide, by decide⟩, .inl ⟨_, rfl, _, _, rfl, rfl, (by show (0 : Int) < 2147483647; decide), ?_⟩⟩⟩
        dsimp only
        have a2 : 0 ≤ ((s + 7919 * (n + 1)) * 48271) % 2147483647 := Int.emod_nonneg _ (by decide)
        have a3 : ((s + 7919 * (n + 1)) * 48271) % 2147483647 < 2147483647 := Int.emod_lt_of_pos _ (by decide)
        generalize ((s + 7919 * (n + 1)) * 48271) % 2147483647 = y at a2 a3 ⊢
        refine ⟨.int y, rfl, .int y, rfl, _, _, rfl, rfl, ⟨by decide, by decide⟩, _, _, rfl, rfl, _, _, rfl, rfl, .inl ⟨by omega, by omega⟩, .inl ⟨_, rfl, _, _, rfl, rfl, (by show (0 : Int) < 2147483647; decide), ?_⟩⟩
        dsimp only
        have a4 : 0 ≤ (y * (y / 1009 + 69621)) % 2147483647 := Int.emod_nonneg _ (by decide)
        have a5 : (y * (y / 1009 + 69621)) % 2147483647 < 2147483647 := Int.emod_lt_of_pos _ (by decide)
        generalize (y * (y / 1009 + 69621)) % 2147483647 = z at a4 a5 ⊢
        refine ⟨.int z, rfl, .int z, rfl, _, _, rfl, rfl, ⟨by decide, by decide⟩, _, _, rfl, rfl, _, _, rfl, rfl, .inl ⟨by omega, by omega⟩, .inl ⟨_, rfl, _, _, rfl, rfl, (by show (0 : Int) < 2147483399; decide), ?_⟩⟩
        refine ⟨_, rfl, _, _, rfl, rfl, ⟨by decide, by decide⟩, .inl ⟨_, rfl, .int m, rfl, _, _, rfl, rfl, m0, ?_⟩⟩
        exact q _ _ (Int.emod_nonneg _ (by omega)) (Int.emod_lt_of_pos _ m0) (.mk hp2 hl2 npl hi hs0 hs1) b2
    have fin : ∀ {H2 : Hp} {i r s n : Int} {c : Option V}, H2 p = some (.lst [.ref l, .int i, .int r, .int s, .int n]) → H2 l = some (.lst (cells.map V.int)) → 0 ≤ i → 0 ≤ s → s < 2147483647 → But p H H2 →
        tTail { nx := fun _ H' => Q .non H', rt := Q } [some (.ref p), some (.int m), c, none, none] H2 := fun {H2 i r s n c} h1 h2 h3 h4 h5 h6 =>
      ⟨p, m, l, cells, i, r, s, n, c, none, none, rfl, m0, m1, h1, h2, npl, h3, h4, h5, fun v H' g1 g2 g3 g4 => q v H' g1 g2 g3 (h6.trans g4)⟩
    refine ⟨.ref p, rfl, p, _, 2, _, rfl, rfl, sq_of hp, rfl, rfl, _, rfl, ite2 (fun e => ?_) (fun e => ?_)⟩
    · refine ⟨.ref p, rfl, p, _, 1, _, rfl, rfl, sq_of hp, rfl, .ref p, rfl, p, _, 0, _, rfl, rfl, sq_of hp, rfl, l, _, rfl, .inl (sq_of hl), _, _, rfl, rfl, _, rfl, ite2 (fun e2 => ?_) (fun e2 => ?_)⟩
      · have hlt : i < (cells.length : Int) := by
          have z := of_decide_eq_true e2
          rw [List.length_map] at z
          exact z
        obtain ⟨c, hc⟩ := atI_int hi hlt
        refine ⟨.ref p, rfl, p, _, 0, _, rfl, rfl, sq_of hp, rfl, .ref p, rfl, p, _, 1, _, rfl, rfl, sq_of hp, rfl, l, _, i, _, rfl, rfl, sq_of hl, hc, ?_⟩
        refine ⟨.ref p, rfl, p, _, 1, _, rfl, rfl, sq_of hp, rfl, _, _, rfl, rfl, .ref p, rfl, p, _, 1, 1, rfl, rfl, hp, rfl, ?_⟩
        dsimp only
        have hp2 : upd H p (.lst (List.set [.ref l, .int i, .int r, .int s0, .int n] 1 (.int (i + 1)))) p = some (.lst [.ref l, .int (i + 1), .int r, .int s0, .int n]) := upd_same
        have hl2 : upd H p (.lst (List.set [.ref l, .int i, .int r, .int s0, .int n] 1 (.int (i + 1)))) l = some (.lst (cells.map V.int)) := by rw [upd_ne npl]; exact hl
        have b2 : But p H (upd H p (.lst (List.set [.ref l, .int i, .int r, .int s0, .int n] 1 (.int (i + 1))))) := but_upd
        generalize upd H p (.lst (List.set [.ref l, .int i, .int r, .int s0, .int n] 1 (.int (i + 1)))) = H2 at hp2 hl2 b2 ⊢
        refine ⟨.ref p, rfl, p, _, 3, _, rfl, rfl, sq_of hp2, rfl, s0, 69621, rfl, rfl, .inl ⟨by omega, by omega⟩, .int c, rfl, _, _, rfl, rfl, .inr ⟨by decide, by decide⟩, _, _, rfl, rfl, _, _, rfl, rfl, .inl ⟨_, rfl, _, _, rfl, rfl, (by show (0 : Int) < 2147483629; decide), .ref p, rfl, p, _, 3, 3, rfl, rfl, hp2, rfl, ?_⟩⟩
        dsimp only
        have a0 : 0 ≤ (s0 * 69621 + c * 16 + 11) % 2147483629 := Int.emod_nonneg _ (by decide)
        have a1 : (s0 * 69621 + c * 16 + 11) % 2147483629 < 2147483629 := Int.emod_lt_of_pos _ (by decide)
        generalize (s0 * 69621 + c * 16 + 11) % 2147483629 = s2 at a0 a1 ⊢
        have hp3 : upd H2 p (.lst (List.set [.ref l, .int (i + 1), .int r, .int s0, .int n] 3 (.int s2))) p = some (.lst [.ref l, .int (i + 1), .int r, .int s2, .int n]) := upd_same
        have hl3 : upd H2 p (.lst (List.set [.ref l, .int (i + 1), .int r, .int s0, .int n] 3 (.int s2))) l = some (.lst (cells.map V.int)) := by rw [upd_ne npl]; exact hl2
        have b3 : But p H (upd H2 p (.lst (List.set [.ref l, .int (i + 1), .int r, .int s0, .int n] 3 (.int s2)))) := b2.trans but_upd
        generalize upd H2 p (.lst (List.set [.ref l, .int (i + 1), .int r, .int s0, .int n] 3 (.int s2))) = H3 at hp3 hl3 b3 ⊢
        refine ⟨.int c, rfl, _, _, rfl, rfl, ⟨by decide, by decide, by decide⟩, _, _, rfl, rfl, _, rfl, ite2 (fun _ => ?_) (fun _ => ?_)⟩
        · refine ⟨.int c, rfl, .ref p, rfl, p, _, 2, 2, rfl, rfl, hp3, rfl, ?_⟩
          exact fin upd_same (by rw [upd_ne npl]; exact hl3) (by omega) a0 (by omega) (b3.trans but_upd)
        · dsimp only [tNext, tDrop]
          exact fin hp3 hl3 (by omega) a0 (by omega) b3
      · dsimp only [tNext, tDrop]
        exact fin hp hl hi hs0 hs1 (But.refl _ _)
    · dsimp only [tNext, tDrop]
      exact fin hp hl hi hs0 hs1 (But.refl _ _)
end
end LawK
set_option maxHeartbeats 4000000
/-! Texts: how long, so many times, which signs; kinds of values. -/
namespace Ev
open PySem PySem.Spec PyProof.Rows L2
def rLenZ : List V → Hp → VK → Prop := fun xs H Q => ∃ z : Str, xs = [.str z] ∧ z.length ≤ sizeLine ∧ Q (.int z.length) H
theorem call_lenZ {X : Cx} : CallR X (.builtin "len") rLenZ := fun pins s σ H xs us Q I r h =>
  call_len pins s σ H xs us Q I r (let ⟨z, e, hz, q⟩ := h; ⟨.str z, z.length, e, ⟨hz, rfl⟩, q⟩)
def rMulS : R2 := fun x y H Q => ∃ (z : Str) (n : Int), x = .str z ∧ y = .int n ∧ 0 ≤ n ∧ n ≤ 3000 ∧ z.length ≤ 1000 ∧ Q (.str (Txt.mul z n)) H
theorem mul_ok {z : Str} {n : Int} (h0 : 0 ≤ n) (h1 : n ≤ 3000) (h2 : z.length ≤ 1000) : MulOk z n := by
  refine ⟨by simp; omega, fun a _ => ?_, fun _ _ => ?_⟩
  · have e : (1000 : Int) ≤ (2 ^ 63 - 1) / n := by
      refine Int.le_ediv_of_mul_le (by omega) ?_
      have : (2 : Int) ^ 63 - 1 = 9223372036854775807 := by decide
      omega
    omega
  · have e : z.length * n.toNat ≤ 1000 * 3000 := Nat.mul_le_mul h2 (by omega)
    have h3 : sizeLine = 16777216 := sizeLine_eq
    show decide (z.length * n.toNat > sizeLine) = false
    exact decide_eq_false (by omega)
theorem op_mulS {X : Cx} : OpR X (binaryOp .Mult) rMulS := by
  intro pins s σ H x y v u Q I rx ry h
  obtain ⟨z, n, rfl, rfl, h0, h1, h2, q⟩ := h
  obtain ⟨t, rfl⟩ := rx
  obtain ⟨t', rfl⟩ := ry
  exact SB.mul (mul_ok h0 h1 h2) fun t' k => ⟨.str _, H, I.tok _, ⟨_, rfl⟩, q⟩
/-- every sign of the text is one from the blank to the tilde -/
def sgC (c : Nat) : Bool := decide (32 ≤ c) && decide (c ≤ 126)
def sgB (z : Str) : Bool := z.cps.toList.all sgC
theorem prn128 : ∀ c : Fin 128, Unicode.isPrintable c.val = sgC c.val := by decide +kernel
theorem sgC_of (c : Nat) : (decide (c < 128) && Unicode.isPrintable c) = sgC c := by
  by_cases h : c < 128
  · rw [decide_eq_true h, Bool.true_and]
    exact prn128 ⟨c, h⟩
  · rw [decide_eq_false h, Bool.false_and]
    unfold sgC
    rw [decide_eq_false (show ¬ c ≤ 126 by omega), Bool.and_false]
theorem sgB_of (z : Str) : (Txt.isascii z && Txt.isprintable z) = sgB z := by
  unfold Txt.isascii Txt.isprintable sgB
  rw [← Array.all_toList, ← Array.all_toList]
  generalize z.cps.toList = l
  induction l with
  | nil => rfl
  | cons c l ih =>
    rw [List.all_cons, List.all_cons, List.all_cons, ← sgC_of, ← ih]
    cases decide (c < 128) <;> cases Unicode.isPrintable c <;> cases l.all (fun c => decide (c < 128)) <;> rfl
/-! ### kinds -/
inductive Kn | non | bl | int | str | lst | tup | dic
  deriving DecidableEq
def Kn.name : Kn → String
  | .non => "NoneType"
  | .bl => "bool"
  | .int => "int"
  | .str => "str"
  | .lst => "list"
  | .tup => "tuple"
  | .dic => "dict"
def kitB : Kn → Kn → Bool
  | .bl, .int => true
  | a, b => decide (a = b)
inductive Kd (H : Hp) : V → Kn → Prop
  | non : Kd H .non .non
  | bl (b : Bool) : Kd H (.bl b) .bl
  | int (i : Int) : Kd H (.int i) .int
  | str (z : Str) : Kd H (.str z) .str
  | lst {a : Addr} {xs : List V} (e : H a = some (.lst xs)) : Kd H (.ref a) .lst
  | tup {a : Addr} {xs : List V} (e : H a = some (.tup xs)) : Kd H (.ref a) .tup
  | dic {a : Addr} {kvs : List (Key × V)} (e : H a = some (.dK kvs)) : Kd H (.ref a) .dic
theorem Kd.tyx {K : PySem.W.Frag} {H : Hp} {x : V} {k : Kn} (h : Kd H x k) : TyX K H x (.type k.name) := by
  cases h with
  | non => exact .base .non
  | bl b => exact .base (.bl b)
  | int i => exact .base (.int i)
  | str z => exact .base (.str z)
  | lst e => exact .base (.lst e)
  | tup e => exact .base (.tup e)
  | dic e => exact .base (.dK e)
theorem Kd.same {H H' : Hp} (s : ∀ b o, H b = some o → H' b = some o) {x : V} {k : Kn} (h : Kd H x k) : Kd H' x k := by
  cases h with
  | non => exact .non
  | bl b => exact .bl b
  | int i => exact .int i
  | str z => exact .str z
  | lst e => exact .lst (s _ _ e)
  | tup e => exact .tup (s _ _ e)
  | dic e => exact .dic (s _ _ e)
theorem kit_kn {K : PySem.W.Frag} : ∀ a b : Kn, PySem.W.kitOne K (.type a.name) (.type b.name) = some (kitB a b) := by
  intro a b
  cases a <;> cases b <;> exact kit_ty (by decide +kernel)
theorem rd_isi {K : PySem.W.Frag} {H : Hp} {x : V} {k : Kn} {Q : VK} (T : Kn) (h : Kd H x k) (q : Q (.bl (kitB k T)) H) : rIsi K [x, .ty T.name] H Q :=
  ⟨x, .ty T.name, .type k.name, .type T.name, kitB k T, rfl, .ty _, h.tyx, kit_kn k T, q⟩
/-- for c in s -/
theorem for_strZ {z : Str} {g : TG} {tb : TS} {D : Ends} {σ : L2.St} {H : Hp} (Pv : Nat → L2.St → Hp → Prop) (h0 : Pv 0 σ H)
    (hs : ∀ i c σ H, z.cps[i]? = some c → Pv i σ H → g (.str ⟨#[c]⟩) σ H fun σ2 H2 => tb { D with nx := Pv (i + 1), ct := Pv (i + 1), bk := D.nx } σ2 H2) (hd : ∀ σ H, Pv z.cps.size σ H → D.nx σ H) :
    ∃ W : Nat → Nat → L2.St → Hp → Prop, (∃ m, W 0 m σ H) ∧ ∀ i m σ H, W i m σ H →
      ((Its z).stop i H ∧ D.nx σ H) ∨ ((Its z).go i H ∧ ∃ N : L2.St → Hp → Prop, (∀ σ' H', N σ' H' → ∃ m', m' < m ∧ W (i + 1) m' σ' H') ∧ ∀ x H', (Its z).yld i H x H' → g x σ H' fun σ2 H2 => tb { D with nx := N, ct := N, bk := D.nx } σ2 H2) := by
  refine ⟨fun i m σ H => m = z.cps.size - i ∧ i ≤ z.cps.size ∧ Pv i σ H, ⟨z.cps.size, by simp, Nat.zero_le _, h0⟩, ?_⟩
  rintro i m σ H ⟨rfl, hi, p⟩
  by_cases hlt : i < z.cps.size
  · refine .inr ⟨hlt, Pv (i + 1), fun σ' H' p' => ⟨z.cps.size - (i + 1), by omega, rfl, hlt, p'⟩, fun x H' y => ?_⟩
    obtain ⟨e, c, hc, ex⟩ := y
    subst e ex
    exact hs i c σ _ hc p
  · have e : i = z.cps.size := by omega
    subst e
    exact .inl ⟨Nat.le_refl _, hd σ H p⟩
def sgV : V → Bool
  | .str z => sgB z
  | _ => false
def wordV : V → Bool
  | .str z => sgB z && decide ((0 : Int) < (z.length : Int))
  | _ => false
/-- no text is too long -/
def Vs (x : V) : Prop := ∀ z, x = .str z → z.length ≤ 5000
theorem len5 {n : Nat} (h : n ≤ 5000) : n ≤ sizeLine := by
  have h3 : sizeLine = 16777216 := sizeLine_eq
  omega
def spSg : Sp := fun vs H Q _ => ∃ x k, vs = [x] ∧ Kd H x k ∧ Vs x ∧ Q (.bl (sgV x)) H
def spWd : Sp := fun vs H Q _ => ∃ x k, vs = [x] ∧ Kd H x k ∧ Vs x ∧ Q (.bl (wordV x)) H
def spInt : Sp := fun vs H Q _ => ∃ x k, vs = [x] ∧ Kd H x k ∧ Q (.bl (decide (k = .int))) H
def numV : V → Bool
  | .int i => decide (0 ≤ i)
  | _ => false
def spNum : Sp := fun vs H Q _ => ∃ x k, vs = [x] ∧ Kd H x k ∧ Q (.bl (numV x)) H
def inV2 (a b : Int) : V → Bool
  | .int i => decide (a ≤ i) && decide (i ≤ b)
  | _ => false
def spIn : Sp := fun vs H Q _ => ∃ x k a b, vs = [x, .int a, .int b] ∧ Kd H x k ∧ Q (.bl (inV2 a b x)) H
theorem sgB_at {z : Str} {i c : Nat} (h : z.cps[i]? = some c) (n : sgC c = false) : sgB z = false := by
  unfold sgB
  rw [List.all_eq_false]
  refine ⟨c, ?_, by simp [n]⟩
  rw [← Array.getElem?_toList] at h
  exact List.mem_of_getElem? h
theorem sgB_all {z : Str} (h : ∀ i c : Nat, z.cps[i]? = some c → sgC c = true) : sgB z = true := by
  unfold sgB
  rw [List.all_eq_true]
  intro c hc
  obtain ⟨i, hi, e⟩ := List.mem_iff_getElem.mp hc
  refine h i c ?_
  rw [← Array.getElem?_toList, List.getElem?_eq_getElem hi, e]
end Ev
set_option maxHeartbeats 4000000
/-! Things that are judged: what they are, as far as it is asked. -/
namespace Ev
open PySem PySem.Spec PyProof.Rows L2
def dsm0 : PyData → Bool
  | .str z => decide (z.length ≤ 100) && PyData.strOk z
  | _ => true
/-- no text in it is long -/
def dsm : PyData → Bool
  | .list ds => ds.all dsm0
  | .tuple ds => ds.all dsm0
  | d => dsm0 d
theorem Dt.kd {H : Hp} {v : V} {d : PyData} (h : Dt H v d) : ∃ k, Kd H v k := by
  cases h with
  | non => exact ⟨_, .non⟩
  | bl b => exact ⟨_, .bl b⟩
  | int i => exact ⟨_, .int i⟩
  | str x => exact ⟨_, .str x⟩
  | dic e => exact ⟨_, .dic e⟩
  | l0 e n => exact ⟨_, .lst e⟩
  | l1 e n _ => exact ⟨_, .lst e⟩
  | l2 e n _ _ => exact ⟨_, .lst e⟩
  | t0 e => exact ⟨_, .tup e⟩
  | t1 e _ => exact ⟨_, .tup e⟩
  | t2 e _ _ => exact ⟨_, .tup e⟩
theorem Dt.vs {H : Hp} {v : V} {d : PyData} (h : Dt H v d) (s : dsm0 d = true) : Vs v := by
  cases h with
  | str x =>
    intro z e
    cases e
    have q : x.length ≤ 100 := of_decide_eq_true (Bool.and_eq_true_iff.mp s).1
    exact Nat.le_trans q (by decide)
  | non => exact fun z e => by cases e
  | bl b => exact fun z e => by cases e
  | int i => exact fun z e => by cases e
  | dic e => exact fun z e => by cases e
  | l0 e n => exact fun z e => by cases e
  | l1 e n _ => exact fun z e => by cases e
  | l2 e n _ _ => exact fun z e => by cases e
  | t0 e => exact fun z e => by cases e
  | t1 e _ => exact fun z e => by cases e
  | t2 e _ _ => exact fun z e => by cases e
/-- a thing; some xs: a tuple of xs -/
inductive Tg (H : Hp) : V → Option (List V) → Prop
  | no {x : V} {k : Kn} (h : Kd H x k) (n : k ≠ .tup) (s : Vs x) : Tg H x none
  | tup {a : Addr} {xs : List V} (e : H a = some (.tup xs)) (n : xs.length ≤ 30) (h : ∀ y ∈ xs, (∃ k, Kd H y k) ∧ Vs y) : Tg H (.ref a) (some xs)
theorem Tg.kd {H : Hp} {x : V} {o : Option (List V)} (h : Tg H x o) : ∃ k, Kd H x k ∧ (k = .tup ↔ o.isSome = true) := by
  cases h with
  | no h n s => exact ⟨_, h, fun e => absurd e n, fun e => by cases e⟩
  | tup e n h => exact ⟨_, .tup e, fun _ => rfl, fun _ => rfl⟩
theorem Tg.vs {H : Hp} {x : V} {o : Option (List V)} (h : Tg H x o) : Vs x := by
  cases h with
  | no h n s => exact s
  | tup e n h => exact fun z e => by cases e
theorem Tg.same {H H' : Hp} (s : ∀ b o, H b = some o → H' b = some o) {x : V} {o : Option (List V)} (h : Tg H x o) : Tg H' x o := by
  cases h with
  | no h n z => exact .no (h.same s) n z
  | tup e n h => exact .tup (s _ _ e) n fun y hy => ⟨let ⟨k, q⟩ := (h y hy).1; ⟨k, q.same s⟩, (h y hy).2⟩
theorem Dt.tg {H : Hp} {v : V} {d : PyData} (h : Dt H v d) (s : dsm d = true) : ∃ o, Tg H v o := by
  cases h with
  | non => exact ⟨_, .no .non (by decide) fun z e => by cases e⟩
  | bl b => exact ⟨_, .no (.bl b) (by decide) fun z e => by cases e⟩
  | int i => exact ⟨_, .no (.int i) (by decide) fun z e => by cases e⟩
  | str x => exact ⟨_, .no (.str x) (by decide) (Dt.vs (.str (H := H) x) s)⟩
  | dic e => exact ⟨_, .no (.dic e) (by decide) fun z e => by cases e⟩
  | l0 e n => exact ⟨_, .no (.lst e) (by decide) fun z e => by cases e⟩
  | l1 e n _ => exact ⟨_, .no (.lst e) (by decide) fun z e => by cases e⟩
  | l2 e n _ _ => exact ⟨_, .no (.lst e) (by decide) fun z e => by cases e⟩
  | t0 e => exact ⟨_, .tup e (by decide) fun y hy => absurd hy (by simp)⟩
  | @t1 a x d e hx =>
    have s1 : dsm0 d = true := List.all_eq_true.mp s d (by simp)
    exact ⟨_, .tup e (by simp) fun y hy => by
      obtain rfl := List.mem_singleton.mp hy
      exact ⟨hx.kd, hx.vs s1⟩⟩
  | @t2 a x z d1 d2 e hx hz =>
    have s1 : dsm0 d1 = true := List.all_eq_true.mp s d1 (by simp)
    have s2 : dsm0 d2 = true := List.all_eq_true.mp s d2 (by simp)
    refine ⟨_, .tup e (by simp) fun y hy => ?_⟩
    rcases List.mem_cons.mp hy with g | g
    · rw [g]
      exact ⟨hx.kd, hx.vs s1⟩
    · rw [List.mem_singleton.mp g]
      exact ⟨hz.kd, hz.vs s2⟩
def slen : V → Nat
  | .str z => z.length
  | _ => 0
/-- what is wrong with a thing that is to be texts -/
def badOf : Option (List V) → V
  | none => .int (-1)
  | some xs => if xs.length > 8 then .int (-1) else match xs.findIdx? (fun y => !sgV y) with
    | some k => .int (k : Int)
    | none => if (xs.map slen).sum > 2000 then .str (Str.ofString "long") else .non
/-- whether a thing is a place of these texts -/
def placeV (ts : List Str) : Option (List V) → Bool
  | some [x, y] => inV2 0 ((ts.length : Int) - 1) x && (match x with
    | .int i => inV2 0 (((ts.getD i.toNat Str.empty).length : Int) - 1) y
    | _ => false)
  | _ => false
end Ev
set_option maxHeartbeats 4000000
namespace Ev
open PySem PySem.Spec PyProof.Rows L2
theorem bad1 {xs : List V} (h : xs.length > 8) : badOf (some xs) = .int (-1) := if_pos h
theorem bad2 {xs : List V} {i : Nat} {y : V} (h : ¬ xs.length > 8) (hy : xs[i]? = some y) (b : sgV y = false) (g : ∀ (j : Nat) c, j < i → xs[j]? = some c → sgV c = true) : badOf (some xs) = .int (i : Int) := by
  obtain ⟨hi, ey⟩ := List.getElem?_eq_some_iff.mp hy
  have e : xs.findIdx? (fun y => !sgV y) = some i := by
    rw [List.findIdx?_eq_some_iff_getElem]
    refine ⟨hi, by rw [ey, b]; rfl, fun j hj => ?_⟩
    rw [g j xs[j] hj (List.getElem?_eq_getElem (by omega))]
    simp
  show (if xs.length > 8 then V.int (-1) else match xs.findIdx? (fun y => !sgV y) with
    | some k => V.int (k : Int)
    | none => if (xs.map slen).sum > 2000 then V.str (Str.ofString "long") else V.non) = _
  rw [if_neg h, e]
theorem good_none {xs : List V} (g : ∀ c ∈ xs, sgV c = true) : xs.findIdx? (fun y => !sgV y) = none := by
  rw [List.findIdx?_eq_none_iff]
  intro c hc
  rw [g c hc]
  rfl
theorem bad3 {xs : List V} (h : ¬ xs.length > 8) (g : ∀ c ∈ xs, sgV c = true) (s : (xs.map slen).sum > 2000) : badOf (some xs) = .str (Str.ofString "long") := by
  show (if xs.length > 8 then V.int (-1) else match xs.findIdx? (fun y => !sgV y) with
    | some k => V.int (k : Int)
    | none => if (xs.map slen).sum > 2000 then V.str (Str.ofString "long") else V.non) = _
  rw [if_neg h, good_none g]
  exact if_pos s
theorem bad4 {xs : List V} (h : ¬ xs.length > 8) (g : ∀ c ∈ xs, sgV c = true) (s : ¬ (xs.map slen).sum > 2000) : badOf (some xs) = .non := by
  show (if xs.length > 8 then V.int (-1) else match xs.findIdx? (fun y => !sgV y) with
    | some k => V.int (k : Int)
    | none => if (xs.map slen).sum > 2000 then V.str (Str.ofString "long") else V.non) = _
  rw [if_neg h, good_none g]
  exact if_neg s
/-- what is right: at most eight texts of signs -/
theorem bad_non {o : Option (List V)} (h : badOf o = .non) : ∃ xs, o = some xs ∧ xs.length ≤ 8 ∧ (∀ c ∈ xs, sgV c = true) ∧ (xs.map slen).sum ≤ 2000 := by
  cases o with
  | none => cases h
  | some xs =>
    by_cases h1 : xs.length > 8
    · rw [bad1 h1] at h
      cases h
    · cases e : xs.findIdx? (fun y => !sgV y) with
      | some k =>
        have h' : (if xs.length > 8 then V.int (-1) else match xs.findIdx? (fun y => !sgV y) with
          | some k => V.int (k : Int)
          | none => if (xs.map slen).sum > 2000 then V.str (Str.ofString "long") else V.non) = V.non := h
        rw [if_neg h1, e] at h'
        cases h'
      | none =>
        have g : ∀ c ∈ xs, sgV c = true := fun c hc => by
          have := List.findIdx?_eq_none_iff.mp e c hc
          simpa using this
        refine ⟨xs, rfl, by omega, g, ?_⟩
        by_cases s : (xs.map slen).sum > 2000
        · rw [bad3 h1 g s] at h
          cases h
        · omega
theorem sg_str {y : V} (h : sgV y = true) : ∃ z, y = .str z := by
  cases y with
  | str z => exact ⟨z, rfl⟩
  | non => cases h
  | bl b => cases h
  | int i => cases h
  | byt b => cases h
  | flt b => cases h
  | ref a => cases h
  | ty n => cases h
theorem bad_strs {xs : List V} (g : ∀ c ∈ xs, sgV c = true) : ∃ ts : List Str, xs = ts.map V.str ∧ ∀ t ∈ ts, sgB t = true := by
  induction xs with
  | nil => exact ⟨[], rfl, fun t h => absurd h (by simp)⟩
  | cons y xs ih =>
    obtain ⟨z, rfl⟩ := sg_str (g y (by simp))
    obtain ⟨ts, rfl, h⟩ := ih fun c hc => g c (List.mem_cons_of_mem _ hc)
    refine ⟨z :: ts, rfl, fun t ht => ?_⟩
    rcases List.mem_cons.mp ht with e | e
    · rw [e]
      exact g (.str z) (by simp)
    · exact h t e
theorem sum_cast (ns : List Nat) : (ns.map fun n : Nat => (n : Int)).sum = ((ns.sum : Nat) : Int) := by
  induction ns with
  | nil => rfl
  | cons n ns ih =>
    rw [List.map_cons, List.sum_cons, List.sum_cons, ih]
    simp
/-- the lengths of the texts of a tuple -/
theorem lc_lens {K : PySem.W.Frag} {a : Addr} {ts : List Str} {i : Nat} {σ : L2.St} {H1 : Hp} {D : Addr} {Qd : Hp → Prop} (hi : i < σ.length) (ha : H1 a = some (.tup (ts.map V.str))) (nD : H1 D = none) (hlen : ∀ t ∈ ts, t.length ≤ 5000) (hn : ts.length ≤ 1000)
    (hd : ∀ H, H D = some (.lst ((ts.map fun t => (t.length : Int)).map V.int)) → Same H1 H → Qd H) :
    ∃ W : Nat → Nat → Hp → Prop, (∃ m, W 0 m (upd H1 D (.lst []))) ∧ ∀ j m H, W j m H →
      ((Itt K a).stop j H ∧ Qd H) ∨ ((Itt K a).go j H ∧ ∃ Nx : Hp → Prop, (∀ H', Nx H' → ∃ m', m' < m ∧ W (j + 1) m' H') ∧ ∀ x H', (Itt K a).yld j H x H' → gName i x (wipe σ [i]) H' fun σ2 H2 => wipe σ2 [i] = wipe σ [i] ∧ tYes σ2 H2 fun b H3 =>
        if b = true then tCB rLenZ (tCons (tVar i) tNil) σ2 H3 fun y H4 => ∃ acc, H4 D = some (.lst acc) ∧ acc.length < sizeLine ∧ Nx (upd H4 D (.lst (acc ++ [y]))) else Nx H3) := by
  have sAt : ∀ {H' : Hp} {o : HO}, Same H1 H' → Same H1 (upd H' D o) := fun {H' o} k b u e => by
    rw [upd_ne (ne_of_none e nD)]
    exact k b u e
  refine lc_tup (K := K) (xs := ts.map V.str) (fun j H => H D = some (.lst (((ts.take j).map fun t => (t.length : Int)).map V.int)) ∧ Same H1 H) ⟨upd_same, sAt (Same.refl _)⟩ (fun j H _ p => SqT.of (p.2 _ _ ha)) (fun j x H hx p => ?_) (fun H p => ?_)
  · rw [List.getElem?_map] at hx
    cases e : ts[j]? with
    | none => rw [e] at hx; cases hx
    | some t =>
      rw [e] at hx
      obtain rfl : V.str t = x := Option.some.inj hx
      have hm := List.mem_of_getElem? e
      obtain ⟨hD, hs⟩ := p
      have hw : ((wipe σ [i]).set i (some (V.str t)))[i]? = some (some (V.str t)) := by
        rw [List.getElem?_set_self]
        show i < (σ.set i none).length
        rw [List.length_set]
        exact hi
      refine ⟨?_, .str t, hw, t, rfl, len5 (hlen t hm), _, hD, ?_, ?_, sAt hs⟩
      · show ((σ.set i none).set i (some (V.str t))).set i none = σ.set i none
        rw [List.set_set, List.set_set]
      · have h3 : sizeLine = 16777216 := sizeLine_eq
        rw [List.length_map, List.length_map, List.length_take]
        omega
      · rw [upd_same]
        have et : ts.take (j + 1) = ts.take j ++ [t] := by
          rw [List.take_add_one, e]
          rfl
        rw [et, List.map_append, List.map_append]
        rfl
  · obtain ⟨hD, hs⟩ := p
    rw [List.length_map, List.take_length] at hD
    exact hd H hD hs
theorem lens_sum (ts : List Str) : (ts.map fun t => (t.length : Int)).sum = ((((ts.map V.str).map slen).sum : Nat) : Int) := by
  rw [List.map_map, ← sum_cast, List.map_map]
  rfl
end Ev
set_option maxHeartbeats 4000000
namespace Ev
open PySem PySem.Spec PyProof.Rows L2
theorem joinL1 : ∀ cs : List Nat, TL.joinL [] (cs.map fun c => [c]) = cs
  | [] => rfl
  | [c] => rfl
  | c :: d :: r => by
    have e := joinL1 (d :: r)
    show [c] ++ ([] ++ TL.joinL [] ((d :: r).map fun c => [c])) = c :: d :: r
    rw [e]
    rfl
theorem join1 (cs : List Nat) : Txt.join (Str.ofString "") (cs.map fun c => SX.S [c]) = SX.S cs := by
  have e := SX.join_S [] (cs.map fun c => [c])
  rw [List.map_map, joinL1] at e
  exact e
theorem sgB_S (cs : List Nat) : sgB (SX.S cs) = cs.all sgC := rfl
theorem S_eta (z : Str) : SX.S z.cps.toList = z := SX.S_tl z
theorem len_S (z : Str) : z.length = z.cps.toList.length := by simp [Str.length]
theorem sgB_mem {z : Str} (h : sgB z = true) {c : Nat} (hc : c ∈ z.cps.toList) : sgC c = true := List.all_eq_true.mp h c hc
theorem sgB_of_mem {z : Str} (h : ∀ c ∈ z.cps.toList, sgC c = true) : sgB z = true := List.all_eq_true.mpr h
theorem sgB_cut {z : Str} (h : sgB z = true) (lo hi : Option Int) : sgB (cutS z lo hi) = true := by
  refine sgB_of_mem fun c hc => sgB_mem h ?_
  have hc' : c ∈ (z.cps.toList.drop (HT.sIx z.length 0 lo)).take (HT.sIx z.length z.length hi - HT.sIx z.length 0 lo) := by
    simpa [cutS] using hc
  exact List.mem_of_mem_drop (List.mem_of_mem_take hc')
theorem cut_len {z : Str} (lo hi : Option Int) : (cutS z lo hi).length ≤ z.length := by
  rw [len_S, len_S]
  have e : (cutS z lo hi).cps.toList = (z.cps.toList.drop (HT.sIx z.length 0 lo)).take (HT.sIx z.length z.length hi - HT.sIx z.length 0 lo) := by simp [cutS]
  rw [e, List.length_take, List.length_drop]
  omega
theorem cut_len2 {z : Str} (lo hi : Option Int) : (cutS z lo hi).length ≤ HT.sIx z.length z.length hi - HT.sIx z.length 0 lo := by
  rw [len_S]
  have e : (cutS z lo hi).cps.toList = (z.cps.toList.drop (HT.sIx z.length 0 lo)).take (HT.sIx z.length z.length hi - HT.sIx z.length 0 lo) := by simp [cutS]
  rw [e, List.length_take]
  omega
theorem sgB_app {a b : Str} (h1 : sgB a = true) (h2 : sgB b = true) : sgB (a ++ b) = true := by
  refine sgB_of_mem fun c hc => ?_
  have e : (a ++ b).cps.toList = a.cps.toList ++ b.cps.toList := TL.tl_append a b
  rw [e] at hc
  rcases List.mem_append.mp hc with h | h
  · exact sgB_mem h1 h
  · exact sgB_mem h2 h
theorem app_len (a b : Str) : (a ++ b).length = a.length + b.length := by
  have e : (a ++ b).cps.toList = a.cps.toList ++ b.cps.toList := TL.tl_append a b
  rw [len_S, e, List.length_append, ← len_S, ← len_S]
theorem rep_all (x : Array Nat) : ∀ (n : Nat) (acc : Array Nat), ((List.replicate n x).foldl (· ++ ·) acc).size = acc.size + n * x.size ∧ ∀ c ∈ ((List.replicate n x).foldl (· ++ ·) acc).toList, c ∈ acc.toList ∨ c ∈ x.toList
  | 0, acc => ⟨by simp, fun c h => .inl h⟩
  | n + 1, acc => by
    obtain ⟨h1, h2⟩ := rep_all x n (acc ++ x)
    rw [List.replicate_succ, List.foldl_cons]
    refine ⟨by rw [h1, Array.size_append, Nat.succ_mul]; omega, fun c hc => ?_⟩
    rcases h2 c hc with h | h
    · rw [Array.toList_append] at h
      exact List.mem_append.mp h
    · exact .inr h
theorem mul_facts (z : Str) (n : Int) : (Txt.mul z n).length ≤ z.length * n.toNat ∧ (sgB z = true → sgB (Txt.mul z n) = true) := by
  unfold Txt.mul
  by_cases h1 : n < 1
  · rw [if_pos h1]
    exact ⟨Nat.zero_le _, fun _ => rfl⟩
  · rw [if_neg h1]
    by_cases h2 : (n == 1 || z.length == 0) = true
    · rw [if_pos h2]
      exact ⟨Nat.le_mul_of_pos_right _ (by omega), fun h => h⟩
    · rw [if_neg h2]
      obtain ⟨r1, r2⟩ := rep_all z.cps n.toNat #[]
      refine ⟨?_, fun h => sgB_of_mem fun c hc => ?_⟩
      · show Array.size _ ≤ _
        rw [r1, Nat.mul_comm]
        show 0 + _ ≤ _
        rw [Nat.zero_add]
        exact Nat.le_refl _
      · rcases r2 c hc with q | q
        · cases q
        · exact sgB_mem h q
theorem cut_hi {z : Str} {lo : Option Int} {u : Int} (h : 0 ≤ u) : ((cutS z lo (some u)).length : Int) ≤ u := by
  have e := cut_len2 (z := z) lo (some u)
  have e2 : HT.sIx z.length z.length (some u) ≤ u.toNat := by
    show (if u < 0 then (u + (z.length : Int)).toNat else min u.toNat z.length) ≤ u.toNat
    rw [if_neg (by omega)]
    exact Nat.min_le_left _ _
  omega
theorem cut_lohi {z : Str} {b e : Int} (h : 0 ≤ b) (h2 : b ≤ e) : ((cutS z (some b) (some e)).length : Int) ≤ e - b := by
  have q := cut_len2 (z := z) (some b) (some e)
  have e1 : HT.sIx z.length z.length (some e) = min e.toNat z.length := by
    show (if e < 0 then (e + (z.length : Int)).toNat else min e.toNat z.length) = _
    rw [if_neg (by omega)]
  have e2 : HT.sIx z.length 0 (some b) = min b.toNat z.length := by
    show (if b < 0 then (b + (z.length : Int)).toNat else min b.toNat z.length) = _
    rw [if_neg (by omega)]
  rw [e1, e2] at q
  omega
end Ev
set_option maxHeartbeats 4000000
/-! Tuples put together and cut, the heap only growing. -/
namespace Ev
open PySem PySem.Spec PyProof.Rows L2
def rCatM : R2 := fun x y H Q => ∃ a b xs ys, x = .ref a ∧ y = .ref b ∧ H a = some (.tup xs) ∧ H b = some (.tup ys) ∧ xs.length + ys.length ≤ 1000 ∧ ∀ p H', Same H H' → H' p = some (.tup (xs ++ ys)) → Q (.ref p) H'
theorem sameNew {H : Hp} {q : Addr} {o : HO} (h : H q = none) : Same H (upd H q o) := fun b u e => by
  rw [upd_ne (ne_of_none e h)]
  exact e
theorem op_catM {X : Cx} : OpR X (binaryOp .Add) rCatM := fun pins s σ H x y v u Q I rx ry h =>
  op_catA pins s σ H x y v u Q I rx ry (by
    obtain ⟨a, b, xs, ys, ex, ey, ha, hb, hz, q⟩ := h
    refine ⟨a, b, xs, ys, ex, ey, SqT.of ha, SqT.of hb, ?_, fun e => ?_, fun _ e => ?_, fun _ _ p np => ?_⟩
    · have h3 : sizeLine = 16777216 := sizeLine_eq
      omega
    · refine q b H (Same.refl H) ?_
      rw [e, List.nil_append]
      exact hb
    · refine q a H (Same.refl H) ?_
      rw [e, List.append_nil]
      exact ha
    · exact q p _ (sameNew np) upd_same)
def rSlM : V → Option Int → Option Int → Hp → VK → Prop := fun x lo hi H Q => ∃ a xs, x = .ref a ∧ H a = some (.tup xs) ∧ ∀ p H', Same H H' → H' p = some (.tup (cutV xs lo hi)) → Q (.ref p) H'
theorem sl_tupM {X : Cx} : SlR X rSlM := fun pins s σ H x v vl vu lo hi sl Q I rx hs pl pu h =>
  sl_tupA pins s σ H x v vl vu lo hi sl Q I rx hs pl pu (by
    obtain ⟨a, xs, ex, ha, q⟩ := h
    refine ⟨a, xs, ex, SqT.of ha, fun e => ?_, fun _ p np => q p _ (sameNew np) upd_same⟩
    refine q a H (Same.refl H) ?_
    have ec : cutV xs lo hi = xs := by
      unfold cutV
      rw [e.1, e.2, List.drop_zero, Nat.sub_zero, List.take_length]
    rw [ec]
    exact ha)
theorem cutV_mem {xs : List V} {lo hi : Option Int} {y : V} (h : y ∈ cutV xs lo hi) : y ∈ xs := List.mem_of_mem_drop (List.mem_of_mem_take h)
/-- the place that is one -/
theorem place_true {ts : List Str} {o : Option (List V)} (h : placeV ts o = true) : ∃ (i j : Int), o = some [.int i, .int j] ∧ 0 ≤ i ∧ i < ts.length ∧ 0 ≤ j ∧ j < ((ts.getD i.toNat Str.empty).length : Int) := by
  unfold placeV at h
  split at h
  · rename_i x y
    obtain ⟨h1, h2⟩ := Bool.and_eq_true_iff.mp h
    cases x with
    | int i =>
      obtain ⟨a1, a2⟩ := Bool.and_eq_true_iff.mp (show (decide (0 ≤ i) && decide (i ≤ (ts.length : Int) - 1)) = true from h1)
      have a1 := of_decide_eq_true a1
      have a2 := of_decide_eq_true a2
      cases y with
      | int j =>
        obtain ⟨b1, b2⟩ := Bool.and_eq_true_iff.mp (show (decide (0 ≤ j) && decide (j ≤ ((ts.getD i.toNat Str.empty).length : Int) - 1)) = true from h2)
        have b1 := of_decide_eq_true b1
        have b2 := of_decide_eq_true b2
        exact ⟨i, j, rfl, a1, by omega, b1, by omega⟩
      | non => cases h2
      | bl b => cases h2
      | str b => cases h2
      | byt b => cases h2
      | flt b => cases h2
      | ref b => cases h2
      | ty b => cases h2
    | non => cases h1
    | bl b => cases h1
    | str b => cases h1
    | byt b => cases h1
    | flt b => cases h1
    | ref b => cases h1
    | ty b => cases h1
  · cases h
theorem text_at {ts : List Str} {i : Int} (h0 : 0 ≤ i) (h1 : i < ts.length) : atI (ts.map V.str) i = some (.str (ts.getD i.toNat Str.empty)) ∧ ts.getD i.toNat Str.empty ∈ ts := by
  have hi : i.toNat < ts.length := by omega
  constructor
  · have e1 : i = ((i.toNat : Nat) : Int) := by omega
    rw [e1]
    refine atI_nat ?_
    rw [List.getElem?_map, List.getD_eq_getElem?_getD, Int.toNat_natCast, List.getElem?_eq_getElem hi]
    rfl
  · rw [List.getD_eq_getElem?_getD, List.getElem?_eq_getElem hi]
    exact List.getElem_mem hi
end Ev
set_option maxHeartbeats 4000000
namespace Ev
open PySem PySem.Spec PyProof.Rows L2
/-- x is True, x is False, x any value of a kind -/
def rIsT : R2 := fun x y H Q => ∃ (b : Bool) (k : Kn), y = .bl b ∧ Kd H x k ∧ Q (.bl (decide (x = .bl b))) H
theorem op_isT {X : Cx} : OpR X (compareOp .Is) rIsT := by
  intro pins s σ H x y v u Q I rx ry h
  obtain ⟨b, k, rfl, hk, q⟩ := h
  cases (show u = Value.bool b from ry)
  cases hk with
  | bl a =>
    refine op_isBl pins s σ H _ (.bl b) v _ Q I rx rfl ⟨a, b, rfl, rfl, ?_⟩
    have e : decide (V.bl a = V.bl b) = decide (a = b) := by
      by_cases z : a = b
      · subst z
        simp
      · rw [decide_eq_false z, decide_eq_false fun w => z (V.bl.inj w)]
    rw [e] at q
    exact q
  | non =>
    cases rx
    exact wpAny_is_other rfl (fun z => by cases z) ⟨.bl false, H, I, rfl, by simpa using q⟩
  | int i =>
    obtain ⟨t, rfl⟩ := rx
    exact wpAny_is_other rfl (fun z => by cases z) ⟨.bl false, H, I, rfl, by simpa using q⟩
  | str i =>
    obtain ⟨t, rfl⟩ := rx
    exact wpAny_is_other rfl (fun z => by cases z) ⟨.bl false, H, I, rfl, by simpa using q⟩
  | lst e =>
    cases rx
    exact wpAny_is_other rfl (fun z => by cases z) ⟨.bl false, H, I, rfl, by simpa using q⟩
  | tup e =>
    cases rx
    exact wpAny_is_other rfl (fun z => by cases z) ⟨.bl false, H, I, rfl, by simpa using q⟩
  | dic e =>
    cases rx
    exact wpAny_is_other rfl (fun z => by cases z) ⟨.bl false, H, I, rfl, by simpa using q⟩
end Ev
set_option maxHeartbeats 4000000
namespace LawK
open PySem PySem.Spec PyProof.Rows L2 Ev
theorem HandL.same {H H' : Hp} {p l : Addr} (k : Same H H') (h : HandL H p l) : HandL H' p l := by
  obtain ⟨cells, i, r, s, n, h1, h2, h3⟩ := h
  exact ⟨cells, i, r, s, n, k _ _ h1, k _ _ h2, h3⟩
theorem But.and {p : Addr} {H H1 H2 : Hp} (a : But p H H1) (k : Same H1 H2) : But p H H2 := fun b o n e => k b o (a b o n e)
theorem hand_ne {H : Hp} {p l' a : Addr} {o : HO} (h : HandL H p l') (e : H a = some o) (n : ∀ x1 x2 x3 x4 x5, o ≠ .lst [x1, x2, x3, x4, x5]) : a ≠ p := fun z => by
  obtain ⟨cells, i, r, s, m, h1, _⟩ := h
  rw [z, h1] at e
  exact n _ _ _ _ _ (Option.some.inj e).symm
theorem dt_but {H H' : Hp} {p l' : Addr} {v : V} {d : PyData} (h : Dt H v d) (hp : HandL H p l') (k : But p H H') : Dt H' v d := by
  induction h with
  | non => exact .non
  | bl b => exact .bl b
  | int i => exact .int i
  | str x => exact .str x
  | dic e => exact .dic (k _ _ (hand_ne hp e fun _ _ _ _ _ z => by cases z) e)
  | l0 e n => exact .l0 (k _ _ (hand_ne hp e fun _ _ _ _ _ z => by cases z) e) n
  | l1 e n _ ih => exact .l1 (k _ _ (hand_ne hp e fun _ _ _ _ _ z => by cases z) e) n ih
  | l2 e n _ _ i1 i2 => exact .l2 (k _ _ (hand_ne hp e fun _ _ _ _ _ z => by cases z) e) n i1 i2
  | t0 e => exact .t0 (k _ _ (hand_ne hp e fun _ _ _ _ _ z => by cases z) e)
  | t1 e _ ih => exact .t1 (k _ _ (hand_ne hp e fun _ _ _ _ _ z => by cases z) e) ih
  | t2 e _ _ i1 i2 => exact .t2 (k _ _ (hand_ne hp e fun _ _ _ _ _ z => by cases z) e) i1 i2
structure Hn (p l : Addr) (H H' : Hp) : Prop where
  at_ : HandL H' p l
  but : But p H H'
theorem HandL.ne {H : Hp} {p l q : Addr} (h : HandL H p l) (n : H q = none) : q ≠ p ∧ q ≠ l := by
  obtain ⟨cells, i, r, s, m, h1, h2, _⟩ := h
  exact ⟨fun z => (by rw [z, h1] at n; cases n), fun z => (by rw [z, h2] at n; cases n)⟩
theorem Hn.new {p l q : Addr} {H H' : Hp} {o : HO} (h : Hn p l H H') (n : H' q = none) : Hn p l H (upd H' q o) := ⟨h.at_.same (Same.new n), h.but.and (Same.new n)⟩
theorem Hn.trans {p l : Addr} {H H1 H2 : Hp} (a : Hn p l H H1) (b : Hn p l H1 H2) : Hn p l H H2 := ⟨b.at_, a.but.trans b.but⟩
theorem Hn.refl {p l : Addr} {H : Hp} (h : HandL H p l) : Hn p l H H := ⟨h, But.refl p H⟩
theorem Hn.go {p l : Addr} {H H1 H2 : Hp} (a : Hn p l H H1) (h : HandL H2 p l) (b : But p H1 H2) : Hn p l H H2 := ⟨h, a.but.trans b⟩
theorem Hn.same {p l : Addr} {H H1 H2 : Hp} (a : Hn p l H H1) (k : Same H1 H2) : Hn p l H H2 := ⟨a.at_.same k, a.but.and k⟩
/-- an object that is new since H, at q, changes -/
theorem Hn.at {p l q : Addr} {H H' : Hp} {o : HO} (h : Hn p l H H') (h0 : HandL H p l) (n : H q = none) : Hn p l H (upd H' q o) := by
  obtain ⟨n1, n2⟩ := h0.ne n
  refine ⟨?_, fun b u nb e => ?_⟩
  · obtain ⟨cells, i, r, s, m, h1, h2, h3⟩ := h.at_
    exact ⟨cells, i, r, s, m, by rw [upd_ne (Ne.symm n1)]; exact h1, by rw [upd_ne (Ne.symm n2)]; exact h2, h3⟩
  · rw [upd_ne (ne_of_none e n)]
    exact h.but b u nb e
theorem sqBut {K : PySem.W.Frag} {H H' : Hp} {p a : Addr} {xs : List V} (h : SqL K H a xs) (n : a ≠ p) (b : But p H H') : SqL K H' a xs := by
  rcases h with (h | ⟨o, h⟩) | h
  · exact .inl (.inl (b _ _ n h))
  · exact .inl (.inr ⟨o, b _ _ n h⟩)
  · exact .inr h
structure Dk (P : Program) (w : World) (K : PySem.W.Frag) (mg : Str → Option Value) (base : Heap) (x : Str) (st : Stmt) (ps : List Str) (k : Nat) (sp : Sp) (f : Addr) (fd : FuncData) : Prop where
  F : Fun K x x st f fd
  b : Binds K fd ps []
  g : mg x = some (.ref f)
  ok : FnOk P w K mg base CX0 k f fd ps sp
theorem len6 {z : Str} {n : Nat} (h : z.length ≤ n) (hn : n ≤ 5000 := by decide) : z.length ≤ sizeLine := len5 (Nat.le_trans h hn)
theorem sg_at {z : Str} {v : Int} (hz : sgB z = true) (h0 : 0 ≤ v) (h1 : v < (z.length : Int)) : ∃ c, atI z.cps.toList v = some c ∧ sgC c = true := by
  obtain ⟨c, e, hm⟩ := atI_in (xs := z.cps.toList) h0 (by rw [← len_S]; exact h1)
  exact ⟨c, e, sgB_mem hz hm⟩
theorem str_ok {ts : List Str} (hts : ∀ t ∈ ts, t.length ≤ 5000) {H : Hp} {y : V} (h : y ∈ ts.map V.str) : (∃ k, Kd H y k) ∧ Vs y := by
  obtain ⟨z, hz, rfl⟩ := List.mem_map.mp h
  refine ⟨⟨_, .str z⟩, fun w e => ?_⟩
  cases e
  exact hts z hz
theorem lit_ok {z : Str} (h : z.length ≤ 5000) {H : Hp} : (∃ k, Kd H (.str z) k) ∧ Vs (.str z) := ⟨⟨_, .str z⟩, fun w e => by
  cases e
  exact h⟩
theorem int_ok {i : Int} {H : Hp} : (∃ k, Kd H (.int i) k) ∧ Vs (.int i) := ⟨⟨_, .int i⟩, fun w e => by cases e⟩
theorem tup_ne {H : Hp} {p l a : Addr} {xs : List V} (h : HandL H p l) (e : H a = some (.tup xs)) : a ≠ p := hand_ne h e fun _ _ _ _ _ z => by cases z
theorem Kd.but {H H' : Hp} {p l : Addr} {x : V} {k : Kn} (h : Kd H x k) (h0 : HandL H p l) (h1 : HandL H' p l) (b : But p H H') : Kd H' x k := by
  cases h with
  | non => exact .non
  | bl b => exact .bl b
  | int i => exact .int i
  | str z => exact .str z
  | @lst a xs e =>
    by_cases z : a = p
    · obtain ⟨cells, i, r, s, m, h2, _⟩ := h1
      rw [z]
      exact .lst h2
    · exact .lst (b _ _ z e)
  | tup e => exact .tup (b _ _ (tup_ne h0 e) e)
  | dic e => exact .dic (b _ _ (hand_ne h0 e fun _ _ _ _ _ z => by cases z) e)
theorem Tg.but {H H' : Hp} {p l : Addr} {x : V} {o : Option (List V)} (h : Tg H x o) (h0 : HandL H p l) (h1 : HandL H' p l) (b : But p H H') : Tg H' x o := by
  cases h with
  | no h n s => exact .no (Kd.but h h0 h1 b) n s
  | tup e n h => exact .tup (b _ _ (tup_ne h0 e) e) n fun y hy => ⟨let ⟨k, q⟩ := (h y hy).1; ⟨k, Kd.but q h0 h1 b⟩, (h y hy).2⟩
/-- what a thing's texts may be -/
inductive All2 {α β : Type} (R : α → β → Prop) : List α → List β → Prop
  | nil : All2 R [] []
  | cons {x : α} {y : β} {xs : List α} {ys : List β} (h : R x y) (t : All2 R xs ys) : All2 R (x :: xs) (y :: ys)
theorem All2.imp {α β : Type} {R S : α → β → Prop} {xs : List α} {ys : List β} (f : ∀ x y, R x y → S x y) (h : All2 R xs ys) : All2 S xs ys := by
  induction h with
  | nil => exact .nil
  | cons h _ ih => exact .cons (f _ _ h) ih
theorem All2.len {α β : Type} {R : α → β → Prop} {xs : List α} {ys : List β} (h : All2 R xs ys) : xs.length = ys.length := by
  induction h with
  | nil => rfl
  | cons _ _ ih => exact congrArg (· + 1) ih
theorem All2.at {α β : Type} {R : α → β → Prop} {xs : List α} {ys : List β} (h : All2 R xs ys) : ∀ {i : Nat} {x : α}, xs[i]? = some x → ∃ y, ys[i]? = some y ∧ R x y := by
  induction h with
  | nil => intro i x e; simp at e
  | cons r _ ih =>
    intro i x e
    cases i with
    | zero => cases e; exact ⟨_, rfl, r⟩
    | succ i => exact ih e
theorem All2.snoc {α β : Type} {R : α → β → Prop} {xs : List α} {ys : List β} {x : α} {y : β} (h : All2 R xs ys) (r : R x y) : All2 R (xs ++ [x]) (ys ++ [y]) := by
  induction h with
  | nil => exact .cons r .nil
  | cons r1 _ ih => exact .cons r1 ih
theorem sne {a b : Str} (h : a ≠ b) {A B : Prop} (k : B) : if decide (V.str a = V.str b) = true then A else B := by
  rw [decide_eq_false (fun z => h (V.str.inj z))]
  exact iteF k
theorem seq {a : Str} {A B : Prop} (k : A) : if decide (V.str a = V.str a) = true then A else B := by
  rw [decide_eq_true rfl]
  exact iteT k
end LawK
set_option maxHeartbeats 8000000
/-! enumerate over a tuple, as a walk. -/
namespace Ev
open PySem PySem.Spec PyProof.Rows L2
abbrev enObj (it : Addr) : Obj := { cls := .type "enumerate", data := .fields #[.none, .bool false, .ref it, rawInt 0, .none, .none] }
theorem enum_new1 {v : Value} {o : Obj} {Hh : Heap → Prop} (B : Begins v o Hh) :
    Meets (Builtin.«enumerate.__new__» ⟨[.type "enumerate", v], []⟩)
      (fun _ R s => Hh s.heap ∧ R (.ok (.ret (.ref (s.heap.push o).objs.size))) { s with heap := (s.heap.push o).push (enObj s.heap.objs.size) }) := by
  refine .of_wp fun prog w A R s hh => ?_
  obtain ⟨hp, g, d, tk, os⟩ := s
  obtain ⟨hv, hR⟩ := hh
  have hs := sub_enumerate
  have qi : ∀ {B' : Around} {E : Value → Shared → Prop} {Q : Value → Shared → Prop}, Q (.ref hp.objs.size) ⟨hp.push o, g, d, tk, os⟩ →
      wpAny (model prog w) B' (pyIter v) Q E ⟨hp, g, d, tk, os⟩ := fun q => B.iter prog w _ _ ⟨hp, g, d, tk, os⟩ _ hv q
  wp_walk using qi
  apply wpAny_stack_any
  intro st
  apply wpAny_pure
  split
  · rename_i c _ _ _ _ _
    cases (c == Value.type "enumerate") <;> (wp_walk using qi; exact ⟨_, rfl, hR⟩)
  · wp_walk using qi
    exact ⟨_, rfl, hR⟩
theorem enum_call {prog : Program} {w : World} {A : Around} {E : Value → Shared → Prop} {s : Shared} {v : Value} {o : Obj} {Hh : Heap → Prop} {Q : Value → Shared → Prop} (B : Begins v o Hh) (hv : Hh s.heap)
    (h : ∀ h', IsEnum h' (s.heap.objs.size + 1) s.heap.objs.size 0 .none → h'.get? s.heap.objs.size = some o → (∀ b u, s.heap.get? b = some u → h'.get? b = some u) →
      Q (.ref (s.heap.objs.size + 1)) { s with heap := h' }) : wpAny (model prog w) A (call (.type "enumerate") [v]) Q E s := by
  have m := enum_new1 B
  refine callType_new F.called_enumerate (by decide) (F.typeCall_enumerate_1 _) (F.newCall_enumerate_1 _) (fun obj => F.args_object_init_2 obj _) F.entry_enumerate_new m ⟨hv, ?_⟩
  have hsz : (s.heap.push o).objs.size = s.heap.objs.size + 1 := Heap.size_push ..
  show _ ∧ _
  rw [hsz]
  have hat : ((s.heap.push o).push (enObj s.heap.objs.size)).get? (s.heap.objs.size + 1) = some (enObj s.heap.objs.size) := by
    have z := Heap.get?_push_size (s.heap.push o) (o := enObj s.heap.objs.size) rfl
    rw [hsz] at z
    exact z
  exact ⟨⟨_, hat, rfl⟩, h _ hat (Heap.get?_push_of_some _ (Heap.get?_push_size _ B.free)) fun b u x => Heap.get?_push_of_some _ (Heap.get?_push_of_some _ x)⟩
/-- the tuple at a as it stands at each turn, each item in a new pair -/
def Iten (K : PySem.W.Frag) (a : Addr) : It :=
  ⟨fun i H => ∃ (xs : List V) (x : V), SqT K H a xs ∧ xs[i]? = some x,
   fun i H v H' => ∃ T x, v = .ref T ∧ H T = none ∧ H' = upd H T (.tup [.int (i : Nat), x]) ∧ ∀ xs, SqT K H a xs → xs[i]? = some x,
   fun i H => ∃ xs : List V, SqT K H a xs ∧ xs.length ≤ i⟩
theorem turn_en {P : Program} {w : World} {K : PySem.W.Frag} {elts : List Expr} {kk : Nat} {tpos : Pos} (a e it : Addr) :
    Turn P w K (.Tuple elts kk tpos) (Iten K a) [e, it] e (fun i h => (∃ old, IsEnum h e it ((i : Nat) : Int) old) ∧ h.IsTupleIter it a i ∧ e ≠ it ∧ a ≠ it ∧ a ≠ e) where
  mem := List.mem_cons_self
  obj := by
    rintro i h ⟨⟨old, he⟩, ⟨o, ho, hc, hd⟩, _⟩ b hb
    rcases List.mem_cons.mp hb with rfl | hb
    · exact ⟨_, he, fun v q => by cases q⟩
    · obtain rfl := List.mem_singleton.mp hb
      exact ⟨o, ho, fun v q => by rw [hd] at q; cases q⟩
  keep := by
    rintro i h h' ⟨⟨old, he⟩, hi, hn⟩ k
    exact ⟨⟨old, k e (by simp) _ he⟩, hi.at fun o q => k it (by simp) o q, hn⟩
  item := by
    intro X hP hw hK hc i pins s σ H E I hf st hg
    subst hP hw hK
    obtain ⟨⟨old, he⟩, hit, hne, hai, hae⟩ := st
    obtain ⟨xs, x, hq, hx⟩ := hg
    obtain ⟨its, rv, p, hz⟩ := I.tuple hq
    obtain ⟨u, hu, ru⟩ := rv.get hx
    have hel : e < s.heap.objs.size := Heap.lt_size he
    have hil : it < s.heap.objs.size := by
      obtain ⟨_, q, _⟩ := hit
      exact Heap.lt_size q
    have hlt : i < its.toArray.size := by
      rw [List.size_toArray]
      exact (List.getElem?_eq_some_iff.mp hu).1
    have D := Draws.tuple (prog := X.prog) (w := X.w) (A := X.A.in1) (I.ok.hd hc) it a hai its.toArray
    refine wpAny_pyNext_enum_itemD D he ⟨hit, (show s.heap.IsTuple a its.toArray from p)⟩ hlt hne (by simp [hne, Ne.symm hae]) fun y h' tk hy ho hst hT hsz hk => ?_
    have ey : y = u := by
      have z : its.toArray[i]? = some y := hy
      rw [List.getElem?_toArray, hu] at z
      exact (Option.some.inj z).symm
    subst ey
    refine ⟨_, rfl, ?_⟩
    refine wpAny_letOwnedTupleGo_enum (s := ⟨h', s.gens, s.drawn, tk + 1, s.os⟩) ho ?_
    intro h2 he2 sb
    have at2 : h2.get? s.heap.objs.size = some { cls := .type "tuple", data := .seq #[.int i tk, y] } := by
      rw [sb.2 _ (Nat.ne_of_gt hel)]
      exact hT
    have cell : ObjOk X.prog X.w (upd H s.heap.objs.size (.tup [.int (i : Nat), x])) h2 s.heap.objs.size (.tup [.int (i : Nat), x]) := by
      refine ⟨by show 2 ≤ sizeLine; decide, [.int i tk, y], .cons ⟨_, rfl⟩ (.cons ru .nil), ⟨_, at2, rfl, _, rfl⟩⟩
    have far : ∀ b ob, b ∉ [e, it] → s.heap.get? b = some ob → h2.get? b = some ob := fun b ob hb q => by
      have n1 : b ≠ e := fun z => hb (by simp [z])
      have n2 : b ≠ it := fun z => hb (by simp [z])
      rw [sb.2 b n1]
      exact hk b ob n1 n2 q
    have J := I.turnedNew (ch := [e, it]) (t' := tk + 1) far hf (Nat.le_refl _) cell
    refine ⟨.ref s.heap.objs.size, _, J, rfl, ⟨_, x, rfl, I.hok.fresh (Nat.le_refl _), rfl, fun ys hy => by rw [I.tuple_inj hy hq]; exact hx⟩, ⟨⟨y, ?_⟩, ?_, hne, hai, hae⟩, fun b hb => ?_⟩
    · have e1 : ((i + 1 : Nat) : Int) = (i : Int) + 1 := by omega
      rw [e1]
      exact he2
    · exact hst.1.at fun o q => by
        rw [sb.2 it (Ne.symm hne)]
        exact q
    · have lt : b < s.heap.objs.size := by
        rcases List.mem_cons.mp hb with rfl | hb
        · exact hel
        · obtain rfl := List.mem_singleton.mp hb
          exact hil
      rw [upd_ne (Nat.ne_of_lt lt)]
      exact (hf b hb).1
  done := by
    intro X hP hw hK hc i pins s σ H E I hf st hg
    subst hP hw hK
    obtain ⟨⟨old, he⟩, hit, hne, hai, hae⟩ := st
    obtain ⟨xs, hq, hx⟩ := hg
    obtain ⟨its, rv, p, hz⟩ := I.tuple hq
    obtain ⟨f0, f1, f2, f3, f4, f5⟩ := hf it (by simp)
    have hl := rv.length
    have none_i : its.toArray[i]? = none := by
      rw [List.getElem?_toArray, List.getElem?_eq_none_iff]
      omega
    have D : Draws X.prog X.w X.A.in1 it [it, a] i (fun j v => its.toArray[j]? = some v) (fun j h => (h.IsTupleIter it a j ∧ h.IsTuple a its.toArray) ∧ i ≤ j) :=
      { live := fun _ _ st => let ⟨o, ho, _⟩ := st.1.1; ⟨o, ho⟩
        frame := fun _ _ _ st hk => ⟨⟨st.1.1.at fun o e => hk it (by simp) o e, st.1.2.at fun o e => hk a (by simp) o e⟩, st.2⟩
        item := fun j _ _ _ hj st _ => absurd st.2 (by omega)
        done := fun s Q E st hE => wpAny_nextOf_tuple_end (I.ok.hd hc) st.1.1 st.1.2 none_i hE }
    refine wpAny_pyNext_enum_endD D he ⟨⟨hit, (show s.heap.IsTuple a its.toArray from p)⟩, Nat.le_refl _⟩ fun h' eb => ⟨rfl, ?_⟩
    exact I.turned (t' := s.toks) (fun b o hb q => eb b o hb q) f0 f1 f3 f4 f5
  self := fun A i s Q E st h => by
    obtain ⟨⟨_, he⟩, _⟩ := st
    exact wpAny_pyIter_enum he h
def iEnumT (K : PySem.W.Frag) (ta : TA) : TI := fun σ H R => ta σ H fun vs H1 => ∃ a xs, vs = [.ref a] ∧ SqT K H1 a xs ∧ R (Iten K a) H1
theorem pi_enumT {X : Cx} {e : Expr} {ta : TA} {p pos tpos : Pos} {elts : List Expr} {kk : Nat} (hg : Gl X "enumerate") (hm : X.mg "enumerate" = none) (ha : PA X [e] ta) (hs : starEach [e] X.env = [(false, eval e X.env)] := by rfl) :
    PI X (.Tuple elts kk tpos) (.Call (.Name "enumerate" p) [e] [] pos) (iEnumT X.K ta) := by
  constructor
  intro pins s σ H R I h
  refine Call_ (ld_blt I hg hm boot_enumerate (PyProof.Rows.callWith_type1 (thn (ha.run pos pins s σ H _ I h) ?_) hs rfl))
  rintro us s1 ⟨vs, H1, I1, r1, a, xs, rfl, hq, q⟩
  obtain ⟨u, rfl, ru⟩ := vals1 r1
  cases ru
  obtain ⟨its, rv, p', hz⟩ := I1.tuple hq
  have hal : a < s1.heap.objs.size := by
    obtain ⟨o, ho, _⟩ := p'
    exact Heap.lt_size ho
  refine enum_call (begins_tuple a its.toArray) (show s1.heap.IsTuple a its.toArray from p') fun h' he hit hk => wpAny_pyIter_enum he ?_
  have I2 : Inv X pins σ H1 { s1 with heap := h' } := I1.kept (t' := s1.toks) hk
  refine ⟨s1.heap.objs.size + 1, [s1.heap.objs.size + 1, s1.heap.objs.size], _, _, H1, rfl, I2, turn_en a (s1.heap.objs.size + 1) s1.heap.objs.size, ⟨⟨.none, he⟩, ⟨_, hit, rfl, rfl⟩, Nat.succ_ne_self _, Nat.ne_of_lt hal, Nat.ne_of_lt (Nat.lt_succ_of_lt hal)⟩, fun b hb => ?_, q⟩
  have hle : s1.heap.objs.size ≤ b := by
    rcases List.mem_cons.mp hb with rfl | hb
    · exact Nat.le_succ _
    · obtain rfl := List.mem_singleton.mp hb
      exact Nat.le_refl _
  exact I1.fpOk hle (I1.hok.fresh hle)
/-- for i, x in enumerate(t) -/
theorem for_enT {K : PySem.W.Frag} {a : Addr} {xs : List V} {g : TG} {tb : TS} {D : Ends} {σ : L2.St} {H : Hp} (Pv : Nat → L2.St → Hp → Prop) (h0 : Pv 0 σ H) (hl : ∀ i σ H, Pv i σ H → SqT K H a xs)
    (hs : ∀ (i : Nat) x σ H, xs[i]? = some x → Pv i σ H → ∀ T, H T = none → g (.ref T) σ (upd H T (.tup [.int (i : Nat), x])) fun σ2 H2 => tb { D with nx := Pv (i + 1), ct := Pv (i + 1), bk := D.nx } σ2 H2) (hd : ∀ σ H, Pv xs.length σ H → D.nx σ H) :
    ∃ W : Nat → Nat → L2.St → Hp → Prop, (∃ m, W 0 m σ H) ∧ ∀ i m σ H, W i m σ H →
      ((Iten K a).stop i H ∧ D.nx σ H) ∨ ((Iten K a).go i H ∧ ∃ N : L2.St → Hp → Prop, (∀ σ' H', N σ' H' → ∃ m', m' < m ∧ W (i + 1) m' σ' H') ∧ ∀ x H', (Iten K a).yld i H x H' → g x σ H' fun σ2 H2 => tb { D with nx := N, ct := N, bk := D.nx } σ2 H2) := by
  refine ⟨fun i m σ H => m = xs.length - i ∧ i ≤ xs.length ∧ Pv i σ H, ⟨xs.length, by simp, Nat.zero_le _, h0⟩, ?_⟩
  rintro i m σ H ⟨rfl, hi, p⟩
  have q := hl i σ H p
  by_cases hlt : i < xs.length
  · refine .inr ⟨⟨xs, xs[i], q, List.getElem?_eq_getElem hlt⟩, Pv (i + 1), fun σ' H' p' => ⟨xs.length - (i + 1), by omega, rfl, hlt, p'⟩, fun v H' y => ?_⟩
    obtain ⟨T, x, rfl, nT, rfl, hx⟩ := y
    exact hs i x σ H (hx xs q) p T nT
  · have e : i = xs.length := by omega
    subst e
    exact .inl ⟨⟨xs, q, Nat.le_refl _⟩, hd σ H p⟩
end Ev
set_option maxHeartbeats 4000000
/-! Own errors whose __init__ says super().__init__() and nothing else. -/
namespace Ev
open PySem PySem.W PySem.Calls PyProof.Rows L2

abbrev supArgs (p : Pos) : Arguments := { posonlyargs := [], args := [{ arg := "self", annotation := none, pos := p }], vararg := none, kwonlyargs := [], kw_defaults := [], kwarg := none, defaults := [] }
abbrev supBody (p0 p1 p2 p3 p4 : Pos) : List Stmt := [.Expr (.Call (.Attribute (.Call (.Name "super" p0) [] [] p1) "__init__" p2) [] [] p3) p4]

abbrev supScope : Scope := { kind := .function, names := [(PySem.Str.ofString "self", .local), (PySem.Str.ofString "__class__", .free), (PySem.Str.ofString "super", .globalImplicit)], isGenerator := false, isCoroutine := false, more := [] }
theorem sup_l1 : supScope.names.lookup ("self" : Str) = some .local := by decide +kernel
theorem sup_l2 : supScope.names.lookup ("super" : Str) = some .globalImplicit := by decide +kernel
theorem sup_l3 : supScope.names.lookup ("__class__" : Str) = some .free := by decide +kernel
/-- what the written part tells of such a class at C, whose __init__ stands at fI -/
structure SupC (P : Program) (K : Frag) (mg : Str → Option Value) (C fI : Addr) : Prop where
  oex : OexC K C
  ini : findIn K (.ref C) "__init__" = some (some (.ref fI))
  tyI : typeIn K (.ref fI) = some (.type "function")
  fn : ∃ (oc : Value) (od : Option Addr) (qual : Str) (kV doc pm ct : Value) (an : Option Addr) (cda cc : Addr) (osl : Array (Option Value)) (p p0 p1 p2 p3 p4 : Pos) (ccl : Value) (cdd : Option Addr) (vs : Array Value) (ccs : Array (Option Value)) (file : Str) (tf : Tok) (cl : Value) (cld : Option Addr) (csl : Array (Option Value)),
    K.lookup fI = some ⟨oc, od, .func (ksFn "__init__" qual (supArgs p) (supBody p0 p1 p2 p3 p4) supScope .none kV doc pm an (.ref cda) ct cc), osl⟩ ∧ codeIn K (.ref cda) qual = true ∧
    K.lookup cda = some ⟨ccl, cdd, .fields vs, ccs⟩ ∧ vs[2]? = some (.str file tf) ∧ ((P.main.file : Str) == file) = true ∧ K.lookup cc = some ⟨cl, cld, .cell (some (.ref C)), csl⟩ ∧
    (p2.endLine == p3.line) = true
  gs : mg "super" = none
  top : (P.main.scope.names.lookup ("super" : Str)).isSome = false
  third : nsIn K cStatics "thirdparty.any" = some none
  sup : ks_superIn K C C "__init__" = some (some (.builtin "ValueError.__init__"))
  ve : subIn K (.ref C) (.type "ValueError") = some true
  me : mroIn K C (.ref C) = some true

theorem sup_eval {env : Env} {p0 p1 p2 p3 : Pos} (h : (p2.endLine == p3.line) = true) : eval (.Call (.Attribute (.Call (.Name "super" p0) [] [] p1) "__init__" p2) [] [] p3) env = (do
      let ov ← attributeBase (.Call (.Name "super" p0) [] [] p1) "__init__" env (eval (.Call (.Name "super" p0) [] [] p1) env)
      standAt p2.atName
      let (f, first) ← holding [ov] (getMethod ov "__init__" (do return (← importBound (.Call (.Name "super" p0) [] [] p1) env).getD true))
      callWith p3 f first (backTo p3 (starEach [] env)) []) := by
  have e : methodCallPos true (.Call (.Name "super" p0) [] [] p1) env p2 p3 = pure p3 := by
    unfold methodCallPos
    rw [h]
    rfl
  show (do
    let ov ← attributeBase (.Call (.Name "super" p0) [] [] p1) "__init__" env (eval (.Call (.Name "super" p0) [] [] p1) env)
    standAt p2.atName
    let (f, first) ← holding [ov] (getMethod ov "__init__" (do return (← importBound (.Call (.Name "super" p0) [] [] p1) env).getD true))
    let callPos ← methodCallPos true (.Call (.Name "super" p0) [] [] p1) env p2 p3
    callWith callPos f first (backTo p3 (starEach [] env)) []) = _
  rw [e]
  rfl
theorem boot_super : bootBuiltins "super" = some (.type "super") := by first | boot_by_name | rfl | kernel_rfl

section
variable {P : Program} {w : World} {A : Around} {E : Value → Shared → Prop} {K : Frag} {mg mb : Str → Option Value} {C fI x t0 : Addr} {h : Heap} {g : Array GenState} {d : Drawn} {tk : Nat} {os : OsState}

/-- the wrapper that super().__init__ gives, called: the args are laid anew -/
theorem bound_init {u : Addr} {Q : Value → Shared → Prop} (T : OexC K C) (X : K.In h) (hu : h.get? u = some (kxs_mw "ValueError.__init__" x)) (hx : h.get? x = some (PySem.HandSPX.excO C t0))
    (hq : ∀ h' t1, (∀ b o, b ≠ x → h.get? b = some o → h'.get? b = some o) → h'.get? x = some (PySem.HandSPX.excO C t1) → Q .none ⟨h', g, d, tk, os⟩) :
    wpAny (model P w) A (call (.ref u) []) Q E ⟨h, g, d, tk, os⟩ := by
  obtain ⟨nm, q, N, bs, bm, sn, sub, ab, col, dd, k0, k1, k2, k3, k5, hC, hbm⟩ := T.cls
  refine wpAny_call (codeAny_of_tree ?_)
  show wpAny _ A.in1 (callAny (.ref u) ⟨[], []⟩) _ _ _
  simp only [callAny]
  refine wpAny_bind (wpAny_load hu ?_)
  simp only [kxs_mw, show (Value.type "method-wrapper" == Value.type "method" || Value.type "method-wrapper" == Value.type "builtin_function_or_method" || Value.type "method-wrapper" == Value.type "method-wrapper") = true by decide, if_true]
  refine KFB.if_so (by decide) ?_
  refine wpAny_bind (check_bound_init F.excBase_ValueError.toExcCallFacts (X _ _ hC) hx rfl ?_)
  refine wpAny_bind (wpAny_pure (wpAny_pure ?_))
  refine ⟨plainId_quiet F.excBase_ValueError.init.plain _, codeAny_builtin F.excBase_ValueError.initEntry ?_⟩
  exact exc_init_tree (cls := .ref C) (t0 := t0) (dv := none) (c2 := .none) (c3 := .none) (b4 := .bool false) hx (by rw [sizeLine_eq]; exact Nat.zero_le _) fun h' k e _ => hq h' h.objs.size k e

theorem sup_init {R : Result → Shared → Prop} {s : Shared} (T : SupC P K mg C fI) (hroom : A.depth < recursionLimit) (X : K.In s.heap) (hlim : s.heap.NoLimit) (G : s.heap.Ns mainGlobals mg) (B : s.heap.Ns builtinsNs mb)
    (hbb : ∀ y : Str, y ≠ "__name__" → mb y = bootBuiltins y) (hx : s.heap.get? x = some (PySem.HandSPX.excO C t0))
    (hq : ∀ h' t' t1, (∀ b o, b ≠ x → s.heap.get? b = some o → h'.get? b = some o) → h'.get? x = some (PySem.HandSPX.excO C t1) → R (.ok (.ret .none)) { s with heap := h', toks := t' }) :
    codeAny (model P w) A (.call (.ref fI) ⟨[.ref x], []⟩) R s := by
  obtain ⟨oc, od, qual, kV, doc, pm, ct, an, cda, cc, osl, p, p0, p1, p2, p3, p4, ccl, cdd, vs, ccs, file, tf, cl, cld, csl, ho, hcd, hcode, hvs, hfile, hcell, hline⟩ := T.fn
  refine ks_codeAny_call_defAt (fd := ksFn "__init__" qual (supArgs p) (supBody p0 p1 p2 p3 p4) supScope .none kV doc pm an (.ref cda) ct cc) (body := supBody p0 p1 p2 p3 p4) (binds := [("self", .ref x)]) hroom (X _ _ ho) rfl hlim (codeRec_of X hcd) rfl
    (BindsTo.of_eq rfl) (by show ∀ y ∈ supScope.names, y.2 ≠ .cell; decide) (fun y hy => ?_) (fun h₁ hns k₁ => ?_)
  · obtain rfl : y = (("self" : Str), Value.ref x) := List.mem_singleton.mp hy
    exact sup_l1
  obtain ⟨hp, g, d, tk, os⟩ := s
  have X₁ : K.In h₁ := X.keeps k₁
  have hx₁ : h₁.get? x = some (PySem.HandSPX.excO C t0) := k₁ _ _ hx
  have G₁ : h₁.Ns mainGlobals mg := G.keeps k₁
  have B₁ : h₁.Ns builtinsNs mb := B.keeps k₁
  obtain ⟨nm, q, N, bs, bm, sn, sub, ab, col, dd, q0, q1, q2, q3, q5, hC, hbm⟩ := T.oex.cls
  show _root_.PySem.wpAt _ _ _ (execs (supBody p0 p1 p2 p3 p4) (ksEnv qual supScope hp.objs.size fI (.ref cda) cc)) _ _ _
  refine ks_wpAt_execs_cons (ks_wpAt_Expr_any (ks_wpAt_MethodCall ?_ (sup_eval hline)))
  refine ks_wpAt_super_base (env := ksEnv qual supScope hp.objs.size fI (.ref cda) cc) sup_l2 sup_l3 (by decide) rfl (X₁ _ _ ho) rfl rfl rfl (X₁ _ _ hcode) rfl hvs hfile T.top ?_
  refine ks_loadName_global rfl sup_l2 (loadGlobal_builtin (env := ksEnv qual supScope hp.objs.size fI (.ref cda) cc) G₁ T.gs B₁ ((hbb _ (by decide +kernel)).trans boot_super) ⟨rfl, ?_⟩)
  refine wpAny_loadName_free rfl sup_l3 rfl ⟨_, X₁ _ _ hcell, rfl⟩ ?_
  refine wpAny_loadName_local rfl sup_l1 hns (v := .ref x) (by show List.lookup ("self" : Str) [(("self" : Str), Value.ref x)] = some (Value.ref x); simp [List.lookup]) ?_
  refine ks_wpAny_isType_cls (X₁ _ _ hC) rfl ⟨rfl, ?_⟩
  have I : InstAt h₁ x (PySem.HandSPX.excO C t0) C none := ⟨hx₁, rfl, rfl, trivial⟩
  refine ks_wpAny_call_super (X₁ _ _ hC) rfl I.at_ I.cls (fun c e => by cases e) (looks_mroIn X₁ T.me) (fun h' e k => ?_)
  have X₂ : K.In h' := X₁.keeps k
  have hx₂ : h'.get? x = some (PySem.HandSPX.excO C t0) := k _ _ hx₁
  have I₂ : InstAt h' x (PySem.HandSPX.excO C t0) C none := ⟨hx₂, rfl, rfl, trivial⟩
  have hsu := T.sup
  unfold ks_superIn at hsu
  have hcl : clsIn K C = some { name := nm, bases := bs, mro := .ref C :: bm, ns := N, qualname := q, hasDict := true, slotNames := sn, subclasses := sub, abstract := ab, collection := col, hasDel := false } := by unfold clsIn; rw [hC] <;> rfl
  rw [hcl] at hsu
  refine kxs_getMethod kxs_ValueError e (looks_opaque X₂ T.third) (l₀ := .ref C :: bm) ?_ rfl X₂ hsu (I₂.type.andThen (looks_subIn X₂ T.ve)) (ks_ne X₂ I₂ hcl) (by decide) ?_
  · exact fun A Q E s k q => wpAny_bind ((looks_clsIn X₂ hcl) A _ E s k (wpAny_pure q))
  have hne : h'.objs.size ≠ x := Nat.ne_of_gt (Heap.lt_size hx₂)
  have k2 : ∀ b o, h'.get? b = some o → (h'.push (kxs_mw "ValueError.__init__" x)).get? b = some o := fun b o z => Heap.get?_push_of_some _ z
  have hmw : (h'.push (kxs_mw "ValueError.__init__" x)).get? h'.objs.size = some (kxs_mw "ValueError.__init__" x) := Heap.get?_push_at rfl rfl
  refine kxs_callWith (i := "ValueError.__init__") (x := x) rfl (evalArgs_empty ⟨hmw, ?_⟩)
  refine bound_init T.oex (X₂.keeps k2) hmw (k2 _ _ hx₂) fun h3 t1 k3 hx3 => ?_
  exact wpAt_of_wpAny (wpAny_execs_nil (hq h3 _ t1 (fun b o hb z => k3 b o hb (k2 b o (k b o (k₁ b o z)))) hx3))
end
end Ev
set_option maxHeartbeats 4000000
/-! Rules for own errors as values: made, asked by isinstance, their fields read. -/
namespace Ev
open PySem PySem.Spec PyProof.Rows L2

section
variable {X : Cx} {x : Str} {C fI : Addr} {p pos : Pos}
theorem make_room {k : Nat} {A : Around} (hr : Room k A) {us : List Value} : (A.under (.builtin "type.__call__" ⟨.ref C :: us, []⟩)).depth < recursionLimit := by
  rw [make_depth]
  have := hr.dp
  omega
/-- C() of a class whose __init__ is super().__init__(): what stands behind it -/
theorem run_exc0 {pins : List (Addr × Obj)} {s : Shared} {σ : L2.St} {H : Hp} {k : Nat} {Q : Value → Shared → Prop} (T : SupC X.prog X.K X.mg C fI) (hr : Room k X.A) (I : Inv X pins σ H s)
    (h : ∀ h' tk a t1, s.heap.objs.size ≤ a → (∀ b o, s.heap.get? b = some o → h'.get? b = some o) → h'.get? a = some (PySem.HandSPX.excO C t1) → Q (.ref a) { s with heap := h', toks := tk }) :
    wpAny (model X.prog X.w) X.A (call (.ref C) []) Q X.xe s := by
  obtain ⟨nm, q, N, bs, bm, sn, sub, ab, col, dd, k0, k1, k2, k3, k5, hC, hbm⟩ := T.oex.cls
  obtain ⟨mb, hb1, hb2⟩ := I.mod.blt
  have kX := I.kIn
  have lim := I.nolimit
  have g1 := I.mod.glob.keeps I.bk
  have b1 := hb1.keeps I.bk
  obtain ⟨hp, g, dr, tk, os⟩ := s
  have kk : ∀ b o, hp.get? b = some o → ((hp.push (PySem.W.kdv_tup [])).push (PySem.HandSPX.excO C hp.objs.size)).get? b = some o := fun b o e => Heap.get?_push_of_some _ (Heap.get?_push_of_some _ e)
  have hget : ((hp.push (PySem.W.kdv_tup [])).push (PySem.HandSPX.excO C hp.objs.size)).get? (hp.objs.size + 1) = some (PySem.HandSPX.excO C hp.objs.size) := by heap_get
  refine wpAny_call (PySem.HandSPX.call_own F.excBase_ValueError (fun Y => PySem.HandSPX.refsVE_contains Y bm hbm) (kX _ _ hC) (PySem.W.looks_findIn kX T.ini) (fun self => PySem.W.bind_fn kX self T.tyI) (by rw [sizeLine_eq]; exact Nat.zero_le _)
    (sup_init (s := ⟨(hp.push (PySem.W.kdv_tup [])).push (PySem.HandSPX.excO C hp.objs.size), g, dr, tk, os⟩) T (make_room hr) (kX.keeps kk) (lim.keeps kk) (g1.keeps kk) (b1.keeps kk) hb2 hget fun h' t' t1 k' hx => ⟨rfl, ?_⟩))
  exact h h' t' (hp.objs.size + 1) t1 (Nat.le_succ _) (fun b o e => k' b o (Nat.ne_of_lt (Nat.lt_succ_of_lt (Heap.lt_size e))) (kk b o e)) hx
def tExc0 (C : Addr) : TE := fun _ H Q => ∀ a, H a = none → Q (.ref a) (upd H a (exo a C none))
theorem pe_exc0 {k : Nat} (T : SupC X.prog X.K X.mg C fI) (hr : Room k X.A) (hg : Gl X x) (hm : X.mg x = some (.ref C)) (hdb : (x == ("__debug__" : Str)) = false := by decide) : PE X (.Call (.Name x p) [] [] pos) (tExc0 C) := by
  refine ⟨fun pins s σ H Q I h => ?_⟩
  refine wpAny_Call_Name_kw (ld_glob I hg hm ?_ hdb)
  refine PySem.W.callWith_K0 I.kIn T.oex.kC ?_
  show wpAny _ _ (call (.ref C) []) _ _ _
  refine run_exc0 T hr I fun h' tk a t1 ha k e => ?_
  exact ⟨.ref a, upd H a (exo a C none), I.laid k ha (exo_ok e), rfl, h a (I.hok.fresh ha)⟩
/-- raised at once -/
theorem pmk_exc0 {k : Nat} (T : SupC X.prog X.K X.mg C fI) (hr : Room k X.A) (hg : Gl X x) (hm : X.mg x = some (.ref C)) (hdb : (x == ("__debug__" : Str)) = false := by decide) : PMk X (.Call (.Name x p) [] [] pos) (fun _ H Q => Q (.ref C) none H) := by
  intro pins s σ H Q I h
  refine wpAny_Call_Name_kw (ld_glob I hg hm ?_ hdb)
  refine PySem.W.callWith_K0 I.kIn T.oex.kC ?_
  show wpAny _ _ (call (.ref C) []) _ _ _
  refine run_exc0 T hr I fun h' tk a t1 ha k e => ?_
  refine ⟨a, _, _, s, H, .ref C, none, rfl, I, k, ?_, e, ⟨rfl, rfl⟩, rfl, rfl, I.hok.fresh ha, rfl, I.bare, raises_own T.oex.exC T.oex.tyC, h⟩
  exact Heap.get?_none_of_le ha
end

/-! ### __init__(self, f): self.f = f -/
structure Ini1 (st : Stmt) (f : Str) : Prop where
  body : ∃ q1 q2 q3 q4, defBody st = [.Assign [.Attribute (.Name "self" q1) f q2] (.Name f q3) q4]
  sc : FnScope ["self", f] ["self", f] (defScope st)
  l0 : (defScope st).names.lookup ("self" : Str) = some .local
  l1 : (defScope st).names.lookup f = some .local
  d1 : (f == ("__debug__" : Str)) = false
  d2 : (f == ("__classdict__" : Str)) = false
def spIni1 (C : Addr) (f : Str) : Sp := fun vs H Q _ => ∃ (a : Addr) (v : V), vs = [.ref a, v] ∧ H a = some (exo a C none) ∧ ∀ dx, H dx = none → dx ≠ a → Q .non (upd (upd H dx (exd dx [(f, v)])) a (exo a C (some dx)))
section
variable {P : Program} {w : World} {K : PySem.W.Frag} {mg : Str → Option Value} {base : Heap} {C : Addr}
theorem ok_ini1 {qual f : Str} {st : Stmt} {fI : Addr} {fd : FuncData} (F : Fun K "__init__" qual st fI fd) (S : Ini1 st f) (T : OexC K C) (hno : PySem.W.findIn K (.ref C) f = some none) : FnOk P w K mg base CX0 1 fI fd ["self", f] (spIni1 C f) := by
  refine F.ok S.sc (fun vs H Q E h => ?_) (fun cdv A outer s H vs Q E hr h => ?_)
  · obtain ⟨a, v, rfl, _⟩ := h
    rfl
  · obtain ⟨a, v, rfl, ha, q⟩ := h
    obtain ⟨q1, q2, q3, q4, hb⟩ := S.body
    rw [hb]
    refine ⟨_, pss_one (ps_ost (pv 0 rfl (.inl S.l0)) (pv 1 rfl (.inl S.l1) S.d1 S.d2)), ?_⟩
    exact ⟨v, rfl, .ref a, rfl, a, C, rfl, T, hno, .inl ⟨ha, fun dx n ne => q dx n ne⟩⟩
end
theorem upd3 {H : Hp} {a d : Addr} {o1 o2 o3 : HO} (h : d ≠ a) : upd (upd (upd H a o1) d o2) a o3 = upd (upd H d o2) a o3 := by
  funext b
  by_cases e : b = a
  · rw [e, upd_same, upd_same]
  · rw [upd_ne e, upd_ne e]
    by_cases e2 : b = d
    · rw [e2, upd_same, upd_same]
    · rw [upd_ne e2, upd_ne e2, upd_ne e]
def tExc1 (C : Addr) (f : Str) (ta : TA) : TE := fun σ H Q => ta σ H fun vs H1 => ∃ v, vs = [v] ∧ ∀ a d, H1 a = none → H1 d = none → d ≠ a → Q (.ref a) (upd (upd H1 d (exd d [(f, v)])) a (exo a C (some d)))
section
variable {X : Cx} {x f : Str} {C fI : Addr} {p pos : Pos} {e : Expr} {ta : TA} {fd : FuncData}
theorem pe_exc1 {k : Nat} (T : OexC X.K C) (iC : PySem.W.findIn X.K (.ref C) "__init__" = some (some (.ref fI))) (tI : PySem.W.typeIn X.K (.ref fI) = some (.type "function")) (F1 : FnOk X.prog X.w X.K X.mg X.base CX0 1 fI fd ["self", f] (spIni1 C f)) (hr : Room (k + 2) X.A)
    (hb : Binds X.K fd ["self", f] []) (hg : Gl X x) (hm : X.mg x = some (.ref C)) (ha : PA X [e] ta) (hdb : (x == ("__debug__" : Str)) = false := by decide) (he : starEach (e :: []) X.env = (false, eval e X.env) :: starEach [] X.env := by rfl)
    (hpl : (backTo pos (starEach [] X.env)).any (·.1) = false := by rfl) : PE X (.Call (.Name x p) [e] [] pos) (tExc1 C f ta) := by
  refine ⟨fun pins s σ H Q I h => ?_⟩
  obtain ⟨nm, q, N, bs, bm, sn, sub, ab, col, dd, k0, k1, k2, k3, k5, hC, hbm⟩ := T.cls
  refine wpAny_Call_Name_kw (ld_glob I hg hm ?_ hdb)
  refine PySem.W.callWith_K (h₀ := X.base) I.ok.mod.kin T.kC (thn (ha.run pos pins s σ H _ I h) fun us s1 ⟨vs, H1, I1, r1, v, ev, q1⟩ => ⟨I1.kIn, ?_⟩) he hpl
  subst ev
  show wpAny _ _ (call (.ref C) us) _ _ _
  obtain ⟨hp, g, dr, tk, os⟩ := s1
  have hsz : hp.objs.size ≤ hp.objs.size + 1 := Nat.le_succ _
  have hn : H1 (hp.objs.size + 1) = none := I1.hok.fresh hsz
  have kk : ∀ b o, hp.get? b = some o → ((hp.push (PySem.W.kdv_tup us)).push (PySem.HandSPX.excO C hp.objs.size)).get? b = some o := fun b o e => Heap.get?_push_of_some _ (Heap.get?_push_of_some _ e)
  have hget : ((hp.push (PySem.W.kdv_tup us)).push (PySem.HandSPX.excO C hp.objs.size)).get? (hp.objs.size + 1) = some (PySem.HandSPX.excO C hp.objs.size) := by heap_get
  have I2 : Inv X pins σ (upd H1 (hp.objs.size + 1) (exo (hp.objs.size + 1) C none)) ⟨(hp.push (PySem.W.kdv_tup us)).push (PySem.HandSPX.excO C hp.objs.size), g, dr, tk, os⟩ :=
    I1.laid (t' := tk) (a := hp.objs.size + 1) (o := exo (hp.objs.size + 1) C none) (h' := (hp.push (PySem.W.kdv_tup us)).push (PySem.HandSPX.excO C hp.objs.size)) kk hsz (exo_ok hget)
  have r2 : Vals [V.ref (hp.objs.size + 1), v] (Value.ref (hp.objs.size + 1) :: us) := .cons rfl r1
  have hl1 : us.length = 1 := by rw [← Paired.length r1] <;> rfl
  have hl : (Value.ref (hp.objs.size + 1) :: us ++ []).length = (["self", f] : List Str).length := by
    rw [List.append_nil, List.length_cons, hl1] <;> rfl
  have hus : us.length ≤ sizeLine := by
    rw [hl1, sizeLine_eq]
    omega
  have b2 := hb _ (Value.ref (hp.objs.size + 1) :: us) I2.kIn hl
  rw [List.append_nil] at b2
  have hq : spIni1 C f [V.ref (hp.objs.size + 1), v] (upd H1 (hp.objs.size + 1) (exo (hp.objs.size + 1) C none)) (fun z H2 => z = .non ∧ Q (.ref (hp.objs.size + 1)) H2) E0 := by
    refine ⟨_, v, rfl, upd_same, fun dx n ne => ⟨rfl, ?_⟩⟩
    rw [upd_ne ne] at n
    rw [upd3 ne]
    exact q1 _ dx hn n ne
  refine wpAny_call (PySem.HandSPX.call_own F.excBase_ValueError (fun Y => PySem.HandSPX.refsVE_contains Y bm hbm) (I1.kIn _ _ hC) (PySem.W.looks_findIn I1.kIn iC) (fun self => PySem.W.bind_fn I1.kIn self tI) hus
    (codeAny_mono (F1.run _ X.stack _ _ ⟨Value.ref (hp.objs.size + 1) :: us, []⟩ (Value.ref (hp.objs.size + 1) :: us) _ _ E0 ((hr.mono (by omega : 1 + 1 ≤ k + 2)).make C us []) (I2.env0.make C us []) b2 r2 hq) fun r s' hq' => ?_))
  cases r with
  | error er => exact False.elim hq'
  | ok fl =>
    cases fl with
    | ret u =>
      obtain ⟨z, H', I3, rz, ez, q3⟩ := I2.after hq'
      subst ez
      exact ⟨rz, ⟨V.ref (hp.objs.size + 1), H', I3, rfl, q3⟩⟩
    | next => exact False.elim hq'
    | brk => exact False.elim hq'
    | cont => exact False.elim hq'
end

/-! ### isinstance -/
/-- at a stands an own error of the class at C -/
def ErrAt (H : Hp) (a C : Addr) : Prop := H a = some (exo a C none) ∨ ∃ d fs, H a = some (exo a C (some d)) ∧ H d = some (exd d fs)
theorem err_inst {X : Cx} {pins : List (Addr × Obj)} {σ : L2.St} {H : Hp} {s : Shared} {a C : Addr} (I : Inv X pins σ H s) (h : ErrAt H a C) : ∃ ox od, PySem.W.InstAt s.heap a ox C od := by
  rcases h with h | ⟨d, fs, h, hd⟩
  · obtain ⟨t1, e⟩ := exo_at I.hok h
    exact ⟨_, none, e, rfl, rfl, trivial⟩
  · obtain ⟨t1, e⟩ := exo_at I.hok h
    obtain ⟨mA, ⟨o, es, ep, ho, _⟩, _⟩ := exd_at I.hok hd
    exact ⟨_, some o, e, rfl, rfl, ho⟩
/-- isinstance(e, c), e an own error -/
def rIsX (K : PySem.W.Frag) : List V → Hp → VK → Prop := fun xs H Q => ∃ (a C : Addr) (c : V) (cv : Value) (b : Bool), xs = [.ref a, c] ∧ ErrAt H a C ∧ ExcC K C ∧ ClsV c cv ∧ PySem.W.kitOne K (.ref C) cv = some b ∧ Q (.bl b) H
theorem call_isX {X : Cx} : CallR X (.builtin "isinstance") (rIsX X.K) := by
  intro pins s σ H xs us Q I r h
  obtain ⟨a, C, c, cv, b, rfl, ea, T, k, e, q⟩ := h
  obtain ⟨u1, u2, rfl, r1, r2⟩ := vals2 r
  have e2 := k.eq r2
  subst e2
  obtain rfl : u1 = Value.ref a := r1
  obtain ⟨ox, od, J⟩ := err_inst I ea
  have hcl : (PySem.W.clsIn X.K C).isSome = true := by
    obtain ⟨cd, hc, _⟩ := PySem.W.any_some T.hd
    rw [hc]
    rfl
  exact PySem.W.kia_one (PySem.W.kitx_exc hcl T.hg T.hk T.hs T.ha T.hn T.ht T.hm) I.kIn J e (fun z => nomatch z) fun tk => ⟨.bl b, H, I.tok tk, rfl, q⟩
/-- e.n, e an own error -/
def tErrF (K : PySem.W.Frag) (n : Str) (te : TE) : TE := fun σ H Q => te σ H fun x H1 => ∃ (a C d : Addr) (fs : List (Str × V)) (v : V), x = .ref a ∧ H1 a = some (exo a C (some d)) ∧ H1 d = some (exd d fs) ∧ fs.lookup n = some v ∧ XfC K C ∧ PySem.W.findIn K (.ref C) n = some none ∧ Q v H1
theorem pe_errF {X : Cx} {e : Expr} {te : TE} {pos : Pos} {n : Str} (he : PE X e te) (hb : attributeBase e n X.env (eval e X.env) = eval e X.env := by rfl) : PE X (.Attribute e n pos) (tErrF X.K n te) := by
  refine ⟨fun pins s σ H Q I h => ?_⟩
  refine attr_of hb (thn (he.run pins s σ H _ I h) fun u s1 hh => ?_)
  obtain ⟨x, H1, I1, rx, a, C, d, fs, v, ex, ea, ed, l, T, hno, q⟩ := hh
  subst ex
  obtain rfl : u = Value.ref a := rx
  obtain ⟨t1, e1⟩ := exo_at I1.hok ea
  obtain ⟨mA, hns, hr⟩ := exd_at I1.hok ed
  obtain ⟨od, ho, hl⟩ := lookIn_ns hns
  obtain ⟨u, hu, ru⟩ := RelO.some_of (v := v) (o := mA n) (by rw [← l]; exact hr n)
  have J : PySem.W.InstAt s1.heap a _ C (some od) := ⟨e1, rfl, rfl, ho⟩
  exact HandSPX.exc_get I1.kIn J T.ga T.gg T.exC (PySem.W.findObj_own T.hdC hno rfl (by rw [hl, hu])) (handed_of ru) ⟨v, H1, I1.tok _, ru, q⟩
end Ev
set_option maxHeartbeats 4000000
/-! try with several clauses «except X as n», the name the same in all of them. -/
namespace Ev
open PySem PySem.Spec PyProof.Rows L2
/-- behind a suite the name's slot (i) is empty -/
def offS (i : Nat) (D : Ends) : Ends := { nx := fun σ' H' => D.nx (σ'.set i none) H', rt := D.rt, bk := fun σ' H' => D.bk (σ'.set i none) H', ct := fun σ' H' => D.ct (σ'.set i none) H' }
def wManyAs (K : PySem.W.Frag) (i : Nat) (Wout : WX) (D : Ends) : List (Value × (Addr → Value → Option Addr → TS)) → WX
  | [] => Wout
  | (c, ts) :: r => fun cls d σ H => ∃ b, PySem.W.exmOne K cls c = some b ∧ (b = true → ∀ a, H a = none → ts a cls d (offS i D) (σ.set i (some (.ref a))) H) ∧ (b = false → wManyAs K i Wout D r cls d σ H)
inductive HdsAs (X : Cx) (n : Str) : List ExceptHandler → List (Value × (Addr → Value → Option Addr → TS)) → Prop
  | nil : HdsAs X n [] []
  | cons {x : Str} {c : Value} {ts : Addr → Value → Option Addr → TS} {b₀ : Stmt} {suite : List Stmt} {np pos' : Pos} {hds : List ExceptHandler} {l : List (Value × (Addr → Value → Option Addr → TS))} (hc : Names X x c)
      (hsu : ∀ (a : Addr) (oe : Obj) (cls : Value) (d : Option Addr) (pn : List (Addr × Obj)), Zc cls d oe → (∃ vs, oe.data = .fields vs) → PSs (X.suite a ((a, oe) :: pn)) (b₀ :: suite) (ts a cls d)) (r : HdsAs X n hds l) :
      HdsAs X n (.ExceptHandler (some (.Name x np)) (some n) (b₀ :: suite) pos' :: hds) ((c, ts) :: l)
section
variable {X : Cx} {body : List Stmt} {h₀ : ExceptHandler} {hds : List ExceptHandler} {l : List (Value × (Addr → Value → Option Addr → TS))} {pos : Pos} {tb : WX → TS} {Wout : WX} {n : Str} {i : Nat}
theorem ps_try_manyAs (hs : X.stack = X.env :: X.outer) (hf : X.env.frame = some X.env.locals) (hN : X.N.Nodup) (hi : X.N[i]? = some n) (hln : X.env.kindOf n = some .local) (tk : Takes X Wout)
    (hb : ∀ (W : WX) (pn : List (Addr × Obj)) (xe : Value → Shared → Prop), Takes (X.tr pn xe) W → PassesOwn (model X.prog X.w) X.A X.env xe → PSs (X.tr pn xe) body (tb W))
    (hh : HdsAs X n (h₀ :: hds) l) : PS X (.Try body (h₀ :: hds) [] [] pos) (fun D σ H => tb (wManyAs X.K i Wout D l) D σ H) := by
  refine ⟨fun pins s σ H D I h => ?_⟩
  have ok := I.ok
  have hfr : X.A.frames = some (X.env :: X.outer) := by rw [ok.frames, hs]
  have hloc : Loc X.env.scope n := .inl hln
  refine wpAny_Try_except (wpAny_mono ((hb (wManyAs X.K i Wout D l) (X.pn ++ pins) (fun e s₁ => wpAny (model X.prog X.w) X.A (noteFrame e X.env) (fun _ s₂ => wpAny (model X.prog X.w) X.A (setFlight e none) (fun _ s₃ =>
    wpAny (model X.prog X.w) X.A (handleBy e X.env (h₀ :: hds)) (SP X pins D) X.xe s₃) X.xe s₂) X.xe s₁) (fun u s' xx => ?_) PassesOwn.looking).run [] s σ H D (I.toTry _) h) (fun f s1 hsp => ?_) (fun e s1 he => he))
  · obtain ⟨a, B, sI, pins', σ', H', cls, d, rfl, J', nb, up, sky, na, os, ag, w⟩ := xx
    have J : L2.Inv X pins σ' H' sI := J'.ofTry ok
    have sky' : Sky B (X.env :: X.outer) a (Zc cls d) X.env.locals s'.heap := by rw [← hs]; exact sky
    refine Sky.land Zc.steady hfr hf sky' fun h3 fl3 up3 => ?_
    have J3 : L2.Inv X pins σ' H' { s' with heap := h3 } := J.landed nb fl3.1 (up.trans up3) os ag
    obtain ⟨oe3, vs3, he3, hz3, hd3⟩ := fl3.there
    have nfr : a ∉ frs (X.env :: X.outer) := fun hm => by
      obtain ⟨_, o', e', hnf⟩ := fl3.2.2.1.mem hm
      rw [he3] at e'; cases e'
      exact hnf _ hd3
    have nL : a ≠ X.env.locals := fun z => nfr (List.mem_filterMap.mpr ⟨X.env, List.mem_cons_self, by rw [hf, z]⟩)
    have nF : a ∉ X.fs := fun hm => by
      obtain ⟨e, he, q⟩ := List.mem_filterMap.mp hm
      exact nfr (List.mem_filterMap.mpr ⟨e, List.mem_cons_of_mem _ he, q⟩)
    have S3 := J3.suite he3 hd3 na nL nF
    have LT : PySem.W.Looks (model X.prog X.w) h3 (typeOf (.ref a)) cls := fun A Q E s k q => wpAny_typeOf_ref (k _ _ he3) (by rw [hz3.1]; exact q)
    have go : ∀ {hds' : List ExceptHandler} {l' : List (Value × (Addr → Value → Option Addr → TS))}, HdsAs X n hds' l' → wManyAs X.K i Wout D l' cls d σ' H' →
        wpAny (model X.prog X.w) X.A (handleBy (.ref a) X.env hds') (SP X pins D) X.xe { s' with heap := h3 } := by
      intro hds' l' hk
      induction hk with
      | nil =>
        intro w
        refine wpAny_handleBy_nil ?_
        obtain ⟨k1, k2, k3, oe, vs, T, oT, ts', he, hz, hd, h1, hr⟩ := id fl3
        unfold PySem.passOn
        refine wpAny_bind (wpAny_field he hd h1 ?_)
        rw [if_neg (show ¬ ((Value.ref T == Value.none) = true) from by simp)]
        have fin : wpAny (model X.prog X.w) X.A (setFlight (.ref a) X.env.frame) (fun _ s4 => wpAny (model X.prog X.w) X.A (throw (.ref a) : Sem Flow) (SP X pins D) X.xe s4) X.xe { s' with heap := h3 } := by
          rw [hf]
          refine HandSPX.setFlight_upZ fl3 fun h4 hh4 up4 => wpAny_throw (tk _ _ ?_)
          exact ⟨a, B, sI, pins, σ', H', cls, d, rfl, J, nb, (up.trans up3).trans up4, .inr (.inr (by rw [hs]; exact hh4)), na, os, ag, w⟩
        first
          | exact wpAny_bind (wpAny_pure (wpAny_bind fin))
          | exact wpAny_bind fin
      | @cons x c ts b₀ suite np pos' hds2 l2 hc hsu r ih =>
        intro w
        obtain ⟨b, hb1, hyes, hno⟩ := w
        refine wpAny_handleBy_cons (codeAny_handlers_test ?_) (by intro q; cases q)
        have LM := PySem.W.exm_one (M := model X.prog X.w) (J3.kIn) LT hb1
        have test : ∀ {Q : Value → Shared → Prop} {E : Value → Shared → Prop}, Q c { s' with heap := h3 } → wpAny (model X.prog X.w) (X.A.mark (some (.ref a))) (eval (.Name x np) X.env) Q E { s' with heap := h3 } := fun {Q E} q => by
          obtain ⟨hg, hdbg, hm | ⟨hm, hv, hnn⟩⟩ := hc
          · exact ld_glob (X := X.suite a ((a, oe3) :: (X.pn ++ pins))) S3 hg hm q hdbg
          · exact ld_blt (X := X.suite a ((a, oe3) :: (X.pn ++ pins))) S3 hg hm hv q hnn hdbg
        refine test (LM.here ?_)
        cases b with
        | true =>
          refine codeAny_handlers_suite_as (HandSPX.lands_againZ fl3 fun h4 fl4 up4 => ?_)
          have J4 : L2.Inv X pins σ' H' { s' with heap := h4 } := J.landed nb fl4.1 ((up.trans up3).trans up4) os ag
          obtain ⟨oe4, vs4, he4, hz4, hd4⟩ := fl4.there
          refine store_ok (X := X.suite a ((a, oe4) :: (X.pn ++ pins))) (v := .ref a) (J4.suite he4 hd4 na nL nF) hN hi hloc rfl (fun s5 S5 => ?_) (.inr hln)
          refine wpAny_mono ((hsu a oe4 cls d (X.pn ++ pins) hz4 ⟨_, hd4⟩).run [] s5 _ H' _ S5 (hyes rfl a na)) (fun f s6 hsp => ?_) (fun _ _ z => False.elim z)
          cases f with
          | next =>
            obtain ⟨σ6, H6, S6, q6⟩ := hsp
            exact gone_ok (S6.unsuite ok) hN hi hln fun s7 J7 => ⟨_, _, J7, q6⟩
          | brk =>
            obtain ⟨σ6, H6, S6, q6⟩ := hsp
            exact gone_ok (S6.unsuite ok) hN hi hln fun s7 J7 => ⟨_, _, J7, q6⟩
          | cont =>
            obtain ⟨σ6, H6, S6, q6⟩ := hsp
            exact gone_ok (S6.unsuite ok) hN hi hln fun s7 J7 => ⟨_, _, J7, q6⟩
          | ret u =>
            obtain ⟨v6, σ6, H6, S6, r6, q6⟩ := hsp
            exact gone_ok (S6.unsuite ok) hN hi hln fun s7 J7 => ⟨_, _, _, J7, r6, q6⟩
        | false => exact ih (hno rfl)
    exact go hh w
  · cases f with
    | next =>
      obtain ⟨σ', H', J', q⟩ := hsp
      exact wpAny_execs_nil ⟨σ', H', J'.ofTry ok, q⟩
    | brk =>
      obtain ⟨σ', H', J', q⟩ := hsp
      exact ⟨σ', H', J'.ofTry ok, q⟩
    | cont =>
      obtain ⟨σ', H', J', q⟩ := hsp
      exact ⟨σ', H', J'.ofTry ok, q⟩
    | ret u =>
      obtain ⟨v, σ', H', J', r, q⟩ := hsp
      exact ⟨v, σ', H', J'.ofTry ok, r, q⟩
end
end Ev
set_option maxHeartbeats 8000000
namespace LawK
open PySem PySem.Spec PyProof.Rows L2 Ev
abbrev veT : List Value := [.type "ValueError", .type "Exception", .type "BaseException", .type "object"]
/-- an own error class at C, over the one at PE -/
structure ErC (K : PySem.W.Frag) (PE C : Addr) : Prop where
  oex : OexC K C
  isx : ExcC K C
  xf : XfC K C
  mro : ∃ cd, PySem.W.clsIn K C = some cd ∧ cd.mro = .ref C :: .ref PE :: veT
  isT : PySem.W.typeIn K (.ref C) = some (.type "type")
section
variable {K : PySem.W.Frag} {PE C D : Addr}
theorem ErC.sub (T : ErC K PE C) (b : Value) : PySem.W.subIn K (.ref C) b = some ((Value.ref C :: .ref PE :: veT).contains b) := by
  obtain ⟨cd, h1, h2⟩ := T.mro
  show (PySem.W.clsIn K C).bind _ = _
  rw [h1, Option.bind_some, h2]
  rfl
theorem kit_at (TD : ErC K PE D) (T : ErC K PE C) (n : D ≠ PE) : PySem.W.kitOne K (.ref C) (.ref D) = some (decide (C = D)) := by
  unfold PySem.W.kitOne
  by_cases e : C = D
  · subst e
    rw [if_pos (by simp), decide_eq_true rfl]
  · rw [if_neg (by simpa using e), decide_eq_false e]
    obtain ⟨cd, h1, h2⟩ := TD.mro
    show (if ((PySem.W.clsIn K D).isSome && PySem.W.typeIn K (.ref D) == some (.type "type")) = true then PySem.W.subIn K (.ref C) (.ref D) else none) = some false
    rw [if_pos (by rw [h1, TD.isT]; rfl), T.sub]
    have e2 : D ≠ C := fun z => e z.symm
    simp [veT, e2, n]
end
/-- an error class without a field -/
structure Cls0 (P : Program) (K : PySem.W.Frag) (mg : Str → Option Value) (PE : Addr) (x : Str) (C : Addr) : Prop where
  er : ErC K PE C
  ne : C ≠ PE
  sup : ∃ fI, SupC P K mg C fI
  g : mg x = some (.ref C)
/-- an error class with the field f -/
structure Cls1 (K : PySem.W.Frag) (mg : Str → Option Value) (PE : Addr) (x f : Str) (C : Addr) : Prop where
  er : ErC K PE C
  ne : C ≠ PE
  g : mg x = some (.ref C)
  ini : ∃ (fI : Addr) (fd : FuncData) (st : Stmt) (qual : Str), Fun K "__init__" qual st fI fd ∧ Ini1 st f ∧ Binds K fd ["self", f] [] ∧ PySem.W.findIn K (.ref C) "__init__" = some (some (.ref fI)) ∧ PySem.W.typeIn K (.ref fI) = some (.type "function")
  hno : PySem.W.findIn K (.ref C) f = some none
section
variable {X : Cx} {x f : Str} {PE C : Addr} {p pos : Pos} {e : Expr} {ta : TA} {k : Nat}
theorem pe_c0 (T : Cls0 X.prog X.K X.mg PE x C) (hr : Room k X.A) (hg : Gl X x := by rfl) (hdb : (x == ("__debug__" : Str)) = false := by decide) : L2.PE X (.Call (.Name x p) [] [] pos) (tExc0 C) := by
  obtain ⟨fI, S⟩ := T.sup
  exact pe_exc0 S hr hg T.g hdb
theorem pe_c1 (T : Cls1 X.K X.mg PE x f C) (hr : Room (k + 2) X.A) (ha : PA X [e] ta) (hg : Gl X x := by rfl) (hdb : (x == ("__debug__" : Str)) = false := by decide) (he : starEach (e :: []) X.env = (false, eval e X.env) :: starEach [] X.env := by rfl)
    (hpl : (backTo pos (starEach [] X.env)).any (·.1) = false := by rfl) : L2.PE X (.Call (.Name x p) [e] [] pos) (tExc1 C f ta) := by
  obtain ⟨fI, fd, st, qual, F1, S1, b1, iC, tI⟩ := T.ini
  exact pe_exc1 T.er.oex iC tI (ok_ini1 F1 S1 T.er.oex T.hno) hr b1 hg T.g ha hdb he hpl
def tMk1 (C : Addr) (f : Str) (ta : TA) : L2.St → Hp → XK → Prop := fun σ H Q => ta σ H fun vs H1 => ∃ v, vs = [v] ∧ ∀ d, H1 d = none → Q (.ref C) (some d) (upd H1 d (.xd [(f, v)]))
theorem del_upd {H : Hp} {a d : Addr} {o1 o2 o3 u : HO} (ha : H a = none) (hd : d ≠ a) : upd (del (upd (upd (upd H a o1) d o2) a o3) a) d u = upd H d u := by
  funext b
  by_cases e : b = d
  · rw [e, upd_same, upd_same]
  · rw [upd_ne e, upd_ne e]
    by_cases e2 : b = a
    · rw [e2, del_same, ha]
    · rw [del_ne e2, upd_ne e2, upd_ne e, upd_ne e2]
theorem pmk_c1 (T : Cls1 X.K X.mg PE x f C) (hr : Room (k + 2) X.A) (ha : PA X [e] ta) (hg : Gl X x := by rfl) (hdb : (x == ("__debug__" : Str)) = false := by decide) (he : starEach (e :: []) X.env = (false, eval e X.env) :: starEach [] X.env := by rfl)
    (hpl : (backTo pos (starEach [] X.env)).any (·.1) = false := by rfl) (hm : ∀ {σ : L2.St} {H : Hp} {Q1 Q2 : List V → Hp → Prop}, (∀ vs H1, Q1 vs H1 → Q2 vs H1) → ta σ H Q1 → ta σ H Q2) : PMk X (.Call (.Name x p) [e] [] pos) (tMk1 C f ta) := by
  obtain ⟨fI, fd, st, qual, F1, S1, b1, iC, tI⟩ := T.ini
  intro pins s σ H Q I h
  refine pmk_oex (CX := CX0) (k := 1) (sp := spIni1 C f) (ds := []) (dvs := []) T.er.oex iC tI (ok_ini1 F1 S1 T.er.oex T.hno) (hr.mono (by omega)) b1 .nil (fun _ _ _ _ _ _ _ z => z.elim) hg T.g ha hdb he hpl pins s σ H Q I (hm (fun vs H1 q => ?_) h)
  obtain ⟨v, rfl, q⟩ := q
  refine ⟨by show 1 ≤ 1000; decide, fun a na => ⟨a, v, rfl, upd_same, fun dx n ne => ⟨rfl, dx, _, upd_same, by rw [upd_ne ne, upd_same], ?_, ?_⟩⟩⟩
  · rw [upd_ne ne] at n
    exact n
  · rw [del_upd na ne]
    rw [upd_ne ne] at n
    exact q dx n
end
structure BaseX (K : PySem.W.Frag) (PE : Addr) : Prop where
  sub : PySem.W.subIn K (.ref PE) (.type "BaseException") = some true
  hd : PySem.W.hasDictIn K PE = true
  isT : PySem.W.typeIn K (.ref PE) = some (.type "type")
section
variable {K : PySem.W.Frag} {PE : Addr}
theorem exm_at {C D : Addr} (TD : ErC K PE D) (T : ErC K PE C) (n : D ≠ PE) : PySem.W.exmOne K (.ref C) (.ref D) = some (decide (C = D)) := by
  refine PySem.W.exm_ref TD.isx.hs TD.isx.hd TD.isT ?_
  rw [T.sub]
  by_cases e : C = D
  · subst e
    simp
  · have e2 : D ≠ C := fun z => e z.symm
    rw [decide_eq_false e]
    simp [veT, e2, n]
theorem exm_base {C : Addr} (B : BaseX K PE) (T : ErC K PE C) : PySem.W.exmOne K (.ref C) (.ref PE) = some true := by
  refine PySem.W.exm_ref B.sub B.hd B.isT ?_
  rw [T.sub]
  simp [veT]
theorem tCons1 {i j : Nat} {σ : L2.St} {H : Hp} {Q1 Q2 : List V → Hp → Prop} (h : ∀ vs H1, Q1 vs H1 → Q2 vs H1) : tCons (tVar i) tNil σ H Q1 → tCons (tVar i) tNil σ H Q2 := fun ⟨v, e, q⟩ => ⟨v, e, h _ _ q⟩
end
def chkE (K : PySem.W.Frag) (C : Addr) : Bool := xfB K C && (decide (PySem.W.typeIn K (.ref C) = some (.type "type")) && (PySem.W.keepIn K (.ref C) && (decide (PySem.W.findIn K (.ref C) "__class__" = some (some (.builtin "object.__class__"))) && decide (PySem.W.mroIn K C (.type "object") = some true))))
def chkC (K : PySem.W.Frag) (PE C : Addr) : Bool := chkE K C && (decide (PySem.W.findIn K (.ref C) "__setattr__" = some (some (.builtin "object.__setattr__"))) && decide (C ≠ PE))
structure Sh (K : PySem.W.Frag) : Prop where
  hn : PySem.W.specialIn K (.builtin "object.__class__") "__get__" = some (some (.builtin "getset_descriptor.__get__"))
  ht : PySem.W.takesIn K (.builtin "object.__class__") = some true
structure Sh0 (P : Program) (K : PySem.W.Frag) (mg : Str → Option Value) : Prop extends Sh K where
  gs : mg "super" = none
  top : (P.main.scope.names.lookup ("super" : Str)).isSome = false
  third : PySem.W.nsIn K cStatics "thirdparty.any" = some none
structure CkE (K : PySem.W.Frag) (C : Addr) : Prop where
  xf : XfC K C
  isT : PySem.W.typeIn K (.ref C) = some (.type "type")
  kp : PySem.W.keepIn K (.ref C) = true
  ha : PySem.W.findIn K (.ref C) "__class__" = some (some (.builtin "object.__class__"))
  hm : PySem.W.mroIn K C (.type "object") = some true
theorem chkE_ok {K : PySem.W.Frag} {C : Addr} (h : chkE K C = true) : CkE K C := by
  obtain ⟨h1, h⟩ := Bool.and_eq_true_iff.mp h
  obtain ⟨h2, h⟩ := Bool.and_eq_true_iff.mp h
  obtain ⟨h3, h⟩ := Bool.and_eq_true_iff.mp h
  obtain ⟨h4, h5⟩ := Bool.and_eq_true_iff.mp h
  exact ⟨xfB_ok h1, of_decide_eq_true h2, h3, of_decide_eq_true h4, of_decide_eq_true h5⟩
theorem CkE.isx {K : PySem.W.Frag} {C : Addr} (T : CkE K C) (S : Sh K) : ExcC K C := ⟨T.xf.ga, T.xf.gg, T.xf.exC, T.xf.hdC, T.ha, S.hn, S.ht, T.hm⟩
section
variable {P : Program} {w : World} {K : PySem.W.Frag} {mg : Str → Option Value} {h : Heap} {PE C fI : Addr} {x f qual : Str} {nm q : Str} {N : Addr} {bs : List Value} {sn : List Str} {sub : List Value} {ab : Bool} {col : Option Bool} {dd : Option Addr} {k0 k1 k2 k3 k5 : Option Value}
theorem mro_of {bm : List Value} {id : String} (lC : K.lookup C = some (excClassObj nm q C N bs bm true sn sub ab col dd k0 k1 k2 k3 k5 id)) : ∃ cd, PySem.W.clsIn K C = some cd ∧ cd.mro = .ref C :: bm := by
  have e : PySem.W.clsIn K C = some { name := nm, bases := bs, mro := .ref C :: bm, ns := N, qualname := q, hasDict := true, slotNames := sn, subclasses := sub, abstract := ab, collection := col, hasDel := false } := by
    unfold PySem.W.clsIn
    rw [lC]
  exact ⟨_, e, rfl⟩
theorem er_mk (S : Sh K) (lC : K.lookup C = some (excClassObj nm q C N bs (.ref PE :: veT) true sn sub ab col dd k0 k1 k2 k3 k5 "ValueError.__new__")) (ck : chkC K PE C = true) : ErC K PE C ∧ C ≠ PE := by
  obtain ⟨c1, c2⟩ := Bool.and_eq_true_iff.mp ck
  obtain ⟨c2, c3⟩ := Bool.and_eq_true_iff.mp c2
  have T := chkE_ok c1
  exact ⟨⟨⟨⟨nm, q, N, bs, _, sn, sub, ab, col, dd, k0, k1, k2, k3, k5, lC, (show PySem.HandSPX.refsVE veT = true by decide +kernel)⟩, of_decide_eq_true c2, T.xf.exC, T.isT, T.kp⟩, T.isx S, T.xf, mro_of lC, T.isT⟩, of_decide_eq_true c3⟩
theorem say {K : PySem.W.Frag} {h : Heap} (X : K.In h) (T : PySem.W.Frag → Prop) {g : Prop} (a : T K) (k : T K → g) : g := k a
def chk1 (K : PySem.W.Frag) (PE C fI : Addr) (f : Str) (cd : Value) (qual : Str) : Bool := chkC K PE C && (decide (PySem.W.typeIn K (.ref fI) = some (.type "function")) && (PySem.W.codeIn K cd qual && (PySem.W.keepIn K (.ref fI) && decide (PySem.W.findIn K (.ref C) f = some none))))
theorem cls1_mk {st : Stmt} {oc kV dc pm cd ct : Value} {od an : Option Addr} {sl : Array (Option Value)} (X : K.In h) (G : h.Ns mainGlobals mg) (S : Sh K)
    (i1 : Ini1 st f) (hb : ∀ (kV doc pm : Value) (an : Option Addr) (cdv ct : Value) (us : List Value), us.length = 2 → bindArgs (PySem.W.fnOf "__init__" qual (defArgs st) (defBody st) (defScope st) .none kV doc pm an cdv ct) ⟨us, []⟩ = pure ((["self", f] : List Str).zip us))
    (aC : PySem.W.nsIn K mainGlobals x = some (some (.ref C))) (lC : K.lookup C = some (excClassObj nm q C N bs (.ref PE :: veT) true sn sub ab col dd k0 k1 k2 k3 k5 "ValueError.__new__"))
    (iC : PySem.W.findIn K (.ref C) "__init__" = some (some (.ref fI))) (lI : K.lookup fI = some ⟨oc, od, .func (PySem.W.fnOf "__init__" qual (defArgs st) (defBody st) (defScope st) .none kV dc pm an cd ct), sl⟩)
    (ck : chk1 K PE C fI f cd qual = true) : Cls1 K mg PE x f C := by
  obtain ⟨c1, c2⟩ := Bool.and_eq_true_iff.mp ck
  obtain ⟨c2, c3⟩ := Bool.and_eq_true_iff.mp c2
  obtain ⟨c3, c4⟩ := Bool.and_eq_true_iff.mp c3
  obtain ⟨c4, c5⟩ := Bool.and_eq_true_iff.mp c4
  obtain ⟨e, n⟩ := er_mk S lC c1
  have F1 := fun_mk (st := st) lI c3 c4
  exact ⟨e, n, PySem.W.mg_of X G aC, ⟨fI, _, st, qual, F1, i1, F1.binds (ps := ["self", f]) hb, iC, of_decide_eq_true c2⟩, of_decide_eq_true c5⟩
def chk0 (K : PySem.W.Frag) (PE C fI : Addr) (cd : Value) (qual : Str) : Bool := chkC K PE C && (decide (PySem.W.typeIn K (.ref fI) = some (.type "function")) && (PySem.W.codeIn K cd qual && (decide (PySem.W.ks_superIn K C C "__init__" = some (some (.builtin "ValueError.__init__"))) && (decide (PySem.W.subIn K (.ref C) (.type "ValueError") = some true) && decide (PySem.W.mroIn K C (.ref C) = some true)))))
theorem cls0_mk {oc kV dc pm ct : Value} {od an : Option Addr} {cda cc : Addr} {osl : Array (Option Value)} {p p0 p1 p2 p3 p4 : Pos} {ccl : Value} {cdd : Option Addr} {vs : Array Value} {ccs : Array (Option Value)} {file : Str} {tf : Tok} {cl : Value} {cld : Option Addr} {csl : Array (Option Value)}
    (X : K.In h) (G : h.Ns mainGlobals mg) (S : Sh0 P K mg)
    (aC : PySem.W.nsIn K mainGlobals x = some (some (.ref C))) (lC : K.lookup C = some (excClassObj nm q C N bs (.ref PE :: veT) true sn sub ab col dd k0 k1 k2 k3 k5 "ValueError.__new__"))
    (iC : PySem.W.findIn K (.ref C) "__init__" = some (some (.ref fI)))
    (lI : K.lookup fI = some ⟨oc, od, .func (PySem.W.ksFn "__init__" qual (supArgs p) (supBody p0 p1 p2 p3 p4) supScope .none kV dc pm an (.ref cda) ct cc), osl⟩)
    (lD : K.lookup cda = some ⟨ccl, cdd, .fields vs, ccs⟩) (lc : K.lookup cc = some ⟨cl, cld, .cell (some (.ref C)), csl⟩)
    (v2 : vs[2]? = some (.str file tf)) (vf : ((P.main.file : Str) == file) = true) (pl : (p2.endLine == p3.line) = true)
    (ck : chk0 K PE C fI (.ref cda) qual = true) : Cls0 P K mg PE x C := by
  obtain ⟨c1, c2⟩ := Bool.and_eq_true_iff.mp ck
  obtain ⟨c2, c3⟩ := Bool.and_eq_true_iff.mp c2
  obtain ⟨c3, c4⟩ := Bool.and_eq_true_iff.mp c3
  obtain ⟨c4, c5⟩ := Bool.and_eq_true_iff.mp c4
  obtain ⟨c5, c6⟩ := Bool.and_eq_true_iff.mp c5
  obtain ⟨e, n⟩ := er_mk S.toSh lC c1
  exact ⟨e, n, ⟨fI, e.oex, iC, of_decide_eq_true c2, ⟨oc, od, qual, kV, dc, pm, ct, an, cda, cc, osl, p, p0, p1, p2, p3, p4, ccl, cdd, vs, ccs, file, tf, cl, cld, csl, lI, c3, lD, v2, vf, lc, pl⟩, S.gs, S.top, S.third, of_decide_eq_true c4, of_decide_eq_true c5, of_decide_eq_true c6⟩, PySem.W.mg_of X G aC⟩
theorem sh0_mk (X : K.In h) (G : h.Ns mainGlobals mg) (hn : PySem.W.specialIn K (.builtin "object.__class__") "__get__" = some (some (.builtin "getset_descriptor.__get__"))) (ht : PySem.W.takesIn K (.builtin "object.__class__") = some true)
    (gs : PySem.W.nsIn K mainGlobals "super" = some none) (top : (P.main.scope.names.lookup ("super" : Str)).isSome = false) (third : PySem.W.nsIn K cStatics "thirdparty.any" = some none) : Sh0 P K mg := ⟨⟨hn, ht⟩, PySem.W.mg_none_of X G gs, top, third⟩
end
end LawK
set_option maxHeartbeats 4000000
namespace LawK
open PySem PySem.Spec PyProof.Rows L2 Ev

theorem dec_int {a b : Int} : decide (V.int a = V.int b) = decide (a = b) := by
  by_cases h : a = b
  · rw [h, decide_eq_true rfl, decide_eq_true rfl]
  · rw [decide_eq_false h, decide_eq_false (fun e => h (V.int.inj e))]
theorem dec_str {a b : Str} : decide (V.str a = V.str b) = decide (a = b) := by
  by_cases h : a = b
  · rw [h, decide_eq_true rfl, decide_eq_true rfl]
  · rw [decide_eq_false h, decide_eq_false (fun e => h (V.str.inj e))]
/-- what is never reached -/
theorem ps_dead {X : Cx} {st : Stmt} : PS X st (fun _ _ _ => False) := ⟨fun pins s σ H D I q => q.elim⟩
/-- the class of libraries, as it stands at C -/
structure LibC (K : PySem.W.Frag) (mg : Str → Option Value) (C fI : Addr) (fdI : FuncData) : Prop where
  mak : Mk K C fI
  cl : Cls K C
  nt : NoAttr K C "texts"
  FI : Fun K "__init__" "Library.__init__" (inClass (topS 13) 0) fI fdI
  bI : Binds K fdI ["self", "texts"] []
  g : mg "Library" = some (.ref C)
/-- a library of these texts, at s -/
structure LibAt (H : Hp) (C s : Addr) (ts : List Str) : Prop where
  ex : ∃ dx a, H s = some (.ins C dx [("texts", .ref a)]) ∧ H a = some (.tup (ts.map V.str))
  few : ts.length ≤ 8
  sg : ∀ t ∈ ts, sgB t = true
  len : ∀ t ∈ ts, t.length ≤ 200
theorem LibAt.same {H H' : Hp} {C s : Addr} {ts : List Str} (k : Same H H') (h : LibAt H C s ts) : LibAt H' C s ts := by
  obtain ⟨⟨dx, a, h1, h2⟩, h3, h4, h5⟩ := h
  exact ⟨⟨dx, a, k _ _ h1, k _ _ h2⟩, h3, h4, h5⟩
theorem lk1 {a : V} : ([("texts", a)] : List (Str × V)).lookup ("texts" : Str) = some a := by simp [List.lookup]
/-- a text by its number -/
abbrev tx (ts : List Str) (i : Nat) : Str := ts.getD i Str.empty
abbrev Pl := Nat × Nat
structure InT (ts : List Str) (p : Pl) : Prop where
  text : p.1 < ts.length
  at_ : p.2 < (tx ts p.1).length
/-- a pair of numbers -/
def PAt (H : Hp) (v : V) (p : Pl) : Prop := ∃ b, v = .ref b ∧ H b = some (.tup [.int (p.1 : Nat), .int (p.2 : Nat)])
theorem PAt.same {H H' : Hp} {v : V} {p : Pl} (k : Same H H') (h : PAt H v p) : PAt H' v p := let ⟨b, e, q⟩ := h; ⟨b, e, k _ _ q⟩
def spLInit (C : Addr) : Sp := fun vs H Q E => ∃ (s dx a : Addr) (ts : List Str), vs = [.ref s, .ref a] ∧ H s = some (.ins C dx []) ∧ H a = some (.tup (ts.map V.str)) ∧ ts.length ≤ 8 ∧ (∀ t ∈ ts, sgB t = true) ∧ (∀ t ∈ ts, t.length ≤ 200) ∧
  ∀ H', H' s = some (.ins C dx [("texts", .ref a)]) → (∀ b u, b ≠ s → H b = some u → H' b = some u) → Q .non H'
def spPPlace (C : Addr) : Sp := fun vs H Q _ => ∃ (s : Addr) (ts : List Str) (v : V) (p : Pl), vs = [.ref s, v] ∧ LibAt H C s ts ∧ PAt H v p ∧ InT ts p ∧ Q (.bl true) H
theorem sum_le {ts : List Str} (h : ∀ t ∈ ts, t.length ≤ 200) : (ts.map fun t => (t.length : Int)).sum ≤ 200 * (ts.length : Int) := by
  induction ts with
  | nil => exact Int.le_refl _
  | cons t ts ih =>
    have a := ih fun u hu => h u (List.mem_cons_of_mem _ hu)
    have b := h t List.mem_cons_self
    simp only [List.map_cons, List.sum_cons, List.length_cons]
    omega
theorem tx_mem {ts : List Str} {i : Nat} (h : i < ts.length) : tx ts i ∈ ts := by
  unfold tx
  rw [List.getD_eq_getElem?_getD, List.getElem?_eq_getElem h]
  exact List.getElem_mem h
theorem tx_at {ts : List Str} {i : Nat} (h : i < ts.length) : (ts.map V.str)[i]? = some (.str (tx ts i)) := by
  unfold tx
  rw [List.getElem?_map, List.getD_eq_getElem?_getD, List.getElem?_eq_getElem h]
  rfl
section
variable {P : Program} {w : World} {K : PySem.W.Frag} {mg : Str → Option Value} {base : Heap}
variable {C fI : Addr} {fdI : FuncData}
abbrev sPSigns : Stmt := topS 8
theorem scPSigns : FnScope ["thing"] ["thing"] (defScope sPSigns) := ⟨rfl, rfl, rfl, by decide +kernel, rfl, by decide +kernel, by decide +kernel⟩
theorem ok_PSigns {f : Addr} {fd : FuncData} (F : Fun K "is_signs" "is_signs" sPSigns f fd)  (T : Glob mg) : FnOk P w K mg base CX0 1 f fd ["thing"] spSg := by
  refine F.ok scPSigns (fun vs H Q E h => ?_) (fun cdv A outer s H vs Q E hr h => ?_)
  · obtain ⟨x, k, rfl, _⟩ := h
    rfl
  · refine ⟨_, (pss_one (ps_ret (pe_and (pe_callB call_isi (by rfl) T.isinstance PyProof.Rows.boot_isinstance (pa_cons (pv 0) (pa_cons (pe_bltn (v := .ty "str") (by rfl) T.str (by decide +kernel) rfl) pa_nil))) (pe_and (pe_bm0 PySem.F.plainAttrs_str PySem.F.slot_str_isascii PySem.F.type_str_isascii mt_isascii (pv 0)) (pe_one (pe_bm0 PySem.F.plainAttrs_str PySem.F.slot_str_isprintable PySem.F.type_str_isprintable mt_isprintable (pv 0))))))), ?_⟩
    obtain ⟨x, k, rfl, hk, hz, q⟩ := h
    refine ⟨x, rfl, x, .ty "str", .type (Kn.name k), .type "str", kitB k .str, rfl, .ty _, Kd.tyx hk, kit_kn k .str, _, rfl, ?_⟩
    cases hk with
    | str z =>
      refine iteT ⟨.str z, rfl, rfl, z, rfl, rfl, trivial, _, rfl, ite2 (fun e => ⟨.str z, rfl, rfl, z, rfl, rfl, trivial, ?_⟩) (fun e => ?_)⟩
      · have q' : Q (.bl (sgB z)) H := q
        rw [← sgB_of, e, Bool.true_and] at q'
        exact q'
      · have e' : Txt.isascii z = false := by simpa using e
        have q' : Q (.bl (sgB z)) H := q
        rw [← sgB_of, e', Bool.false_and] at q'
        exact q'
    | non => exact iteF q
    | bl b => exact iteF q
    | int i => exact iteF q
    | lst e => exact iteF q
    | tup e => exact iteF q
    | dic e => exact iteF q
abbrev sPNumber : Stmt := topS 7
theorem scPNumber : FnScope ["thing"] ["thing"] (defScope sPNumber) := ⟨rfl, rfl, rfl, by decide +kernel, rfl, by decide +kernel, by decide +kernel⟩
theorem ok_PNumber {f : Addr} {fd : FuncData} (F : Fun K "is_number" "is_number" sPNumber f fd)   (T : Glob mg) : FnOk P w K mg base CX0 1 f fd ["thing"] spNum := by
  refine F.ok scPNumber (fun vs H Q E h => ?_) (fun cdv A outer s H vs Q E hr h => ?_)
  · obtain ⟨x, k, rfl, _⟩ := h
    rfl
  · refine ⟨_, (pss_one (ps_ret (pe_and (pe_callB call_isi (by rfl) T.isinstance PyProof.Rows.boot_isinstance (pa_cons (pv 0) (pa_cons (pe_bltn (v := .ty "int") (by rfl) T.int (by decide +kernel) rfl) pa_nil))) (pe_and (pe_not (pe_callB call_isi (by rfl) T.isinstance PyProof.Rows.boot_isinstance (pa_cons (pv 0) (pa_cons (pe_bltn (v := .ty "bool") (by rfl) T.bool (by decide +kernel) rfl) pa_nil)))) (pe_one (pe_cmpR op_ge (pv 0) pe_int (nomark _))))))), ?_⟩
    obtain ⟨x, k, rfl, hk, q⟩ := h
    refine ⟨x, rfl, x, .ty "int", .type (Kn.name k), .type "int", kitB k .int, rfl, .ty _, Kd.tyx hk, kit_kn k .int, _, rfl, ?_⟩
    cases hk with
    | int i => exact iteT ⟨.int i, rfl, .int i, .ty "bool", .type (Kn.name .int), .type "bool", kitB .int .bl, rfl, .ty _, Kd.tyx (.int i), kit_kn .int .bl, _, rfl, _, rfl, iteT ⟨.int i, rfl, _, _, rfl, rfl, q⟩⟩
    | bl b => exact iteT ⟨.bl b, rfl, .bl b, .ty "bool", .type (Kn.name .bl), .type "bool", kitB .bl .bl, rfl, .ty _, Kd.tyx (.bl b), kit_kn .bl .bl, _, rfl, _, rfl, iteF q⟩
    | str z => exact iteF q
    | non => exact iteF q
    | lst e => exact iteF q
    | tup e => exact iteF q
    | dic e => exact iteF q
abbrev sPWord : Stmt := topS 9
theorem scPWord : FnScope ["thing"] ["thing"] (defScope sPWord) := ⟨rfl, rfl, rfl, by decide +kernel, rfl, by decide +kernel, by decide +kernel⟩
theorem ok_PWord {f : Addr} {fd : FuncData} (F : Fun K "is_word" "is_word" sPWord f fd)  {fPSigns : Addr} {fdPSigns : FuncData} (DPSigns : Dk P w K mg base "is_signs" sPSigns ["thing"] 1 spSg fPSigns fdPSigns) (T : Glob mg) : FnOk P w K mg base CX0 2 f fd ["thing"] spWd := by
  refine F.ok scPWord (fun vs H Q E h => ?_) (fun cdv A outer s H vs Q E hr h => ?_)
  · obtain ⟨x, k, rfl, _⟩ := h
    rfl
  · refine ⟨_, (pss_one (ps_ret (pe_and (pe_call DPSigns.ok (hr.mono (by decide)) (by rfl) DPSigns.g DPSigns.F.kp DPSigns.b .nil pass0 (pa_cons (pv 0) pa_nil)) (pe_one (pe_cmpR op_gt (pe_callB call_lenZ (by rfl) T.len PySem.boot_len (pa_cons (pv 0) pa_nil)) pe_int (nomark _)))))), ?_⟩
    obtain ⟨x, k, rfl, hk, hz, q⟩ := h
    refine ⟨x, rfl, x, k, rfl, hk, hz, _, rfl, ite2 (fun e => ?_) (fun e => ?_)⟩
    · cases hk with
      | str z =>
        refine ⟨.str z, rfl, z, rfl, len5 (hz z rfl), _, _, rfl, rfl, ?_⟩
        have e' : sgB z = true := e
        have q' : Q (.bl (sgB z && decide ((0 : Int) < (z.length : Int)))) H := q
        rw [e', Bool.true_and] at q'
        exact q'
      | non => exact Bool.noConfusion e
      | bl b => exact Bool.noConfusion e
      | int i => exact Bool.noConfusion e
      | lst e2 => exact Bool.noConfusion e
      | tup e2 => exact Bool.noConfusion e
      | dic e2 => exact Bool.noConfusion e
    · have e' : sgV x = false := by simpa using e
      cases hk with
      | str z =>
        have e2 : sgB z = false := e'
        have q' : Q (.bl (sgB z && decide ((0 : Int) < (z.length : Int)))) H := q
        rw [e2, Bool.false_and] at q'
        exact q'
      | non => exact q
      | bl b => exact q
      | int i => exact q
      | lst e2 => exact q
      | tup e2 => exact q
      | dic e2 => exact q
abbrev sPPlace : Stmt := topS 14
theorem scPPlace : FnScope ["library", "thing", "text", "at"] ["library", "thing"] (defScope sPPlace) := ⟨rfl, rfl, rfl, by decide +kernel, rfl, by decide +kernel, by decide +kernel⟩
theorem ok_PPlace {f : Addr} {fd : FuncData} (F : Fun K "is_place" "is_place" sPPlace f fd) (L : LibC K mg C fI fdI) {fPNumber : Addr} {fdPNumber : FuncData} (DPNumber : Dk P w K mg base "is_number" sPNumber ["thing"] 1 spNum fPNumber fdPNumber) (T : Glob mg) : FnOk P w K mg base CX0 2 f fd ["library", "thing"] (spPPlace C) := by
  refine F.ok scPPlace (fun vs H Q E h => ?_) (fun cdv A outer s H vs Q E hr h => ?_)
  · obtain ⟨s, ts, v, p, rfl, _⟩ := h
    rfl
  · refine ⟨_, (pss_cons (ps_if (PW.pt (pw_or (pt_not (pt_val (pe_callB call_isi (by rfl) T.isinstance PyProof.Rows.boot_isinstance (pa_cons (pv 1) (pa_cons (pe_bltn (v := .ty "tuple") (by rfl) T.tuple (by decide +kernel) rfl) pa_nil))))) (pw_or1 (pt_cmpR op_ne (pe_callB call_len_seq (by rfl) T.len PySem.boot_len (pa_cons (pv 1) pa_nil)) pe_int (nomark _)))))
      (pss_one (ps_ret pe_bl))
      pss_nil)
      (pss_cons (ps_asg (pv 1) (pg_tup (by rfl) (pgs_cons (pg_name (i := 2) scPPlace.nd rfl (.inl rfl)) (pgs_cons (pg_name (i := 3) scPPlace.nd rfl (.inl rfl)) pgs_nil))))
      (pss_cons (ps_if (PW.pt (pw_or (pt_not (pt_val (pe_call DPNumber.ok (hr.mono (by decide)) (by rfl) DPNumber.g DPNumber.F.kp DPNumber.b .nil pass0 (pa_cons (pv 2) pa_nil)))) (pw_or1 (pt_not (pt_val (pe_call DPNumber.ok (hr.mono (by decide)) (by rfl) DPNumber.g DPNumber.F.kp DPNumber.b .nil pass0 (pa_cons (pv 3) pa_nil)))))))
      (pss_one (ps_ret pe_bl))
      pss_nil)
      (pss_one (ps_ret (pe_and (pe_cmpR op_lt (pv 2) (pe_callB call_len_seq (by rfl) T.len PySem.boot_len (pa_cons (pe_fld (pv 0) rfl) pa_nil)) (nomark _)) (pe_one (pe_cmpR op_lt (pv 3) (pe_callB call_lenZ (by rfl) T.len PySem.boot_len (pa_cons (pe_ix ix_tup (pe_fld (pv 0) rfl) (pv 2) (fun _ _ => rfl)) pa_nil)) (nomark _))))))))), ?_⟩
    obtain ⟨s, ts, v, p, rfl, hl, hp, hi, q⟩ := h
    obtain ⟨⟨dx, a, h1, h2⟩, few, sg1, len1⟩ := hl
    obtain ⟨b, rfl, e⟩ := hp
    obtain ⟨i1, i2⟩ := hi
    refine ⟨.ref b, rfl, .ref b, .ty "tuple", .type (Kn.name .tup), .type "tuple", kitB .tup .tup, rfl, .ty _, Kd.tyx (.tup e), kit_kn .tup .tup, _, rfl, iteF ?_⟩
    refine ⟨.ref b, rfl, b, _, rfl, .inr (SqT.of e), rfl, _, rfl, iteF ?_⟩
    refine ⟨.ref b, rfl, b, _, rfl, SqT.of e, rfl, _, _, rfl, _, _, rfl, rfl, ?_⟩
    have n1 : (!(numV (.int (p.1 : Nat)))) = false := by
      show (!decide (0 ≤ ((p.1 : Nat) : Int))) = false
      rw [decide_eq_true (Int.natCast_nonneg _)]
      rfl
    have n2 : (!(numV (.int (p.2 : Nat)))) = false := by
      show (!decide (0 ≤ ((p.2 : Nat) : Int))) = false
      rw [decide_eq_true (Int.natCast_nonneg _)]
      rfl
    refine ⟨_, rfl, _, .int, rfl, .int _, _, rfl, ite2 (fun c => Bool.noConfusion (c.symm.trans n1)) (fun _ => ?_)⟩
    refine ⟨_, rfl, _, .int, rfl, .int _, _, rfl, ite2 (fun c => Bool.noConfusion (c.symm.trans n2)) (fun _ => ?_)⟩
    have lm : (ts.map V.str).length = ts.length := List.length_map ..
    refine ⟨_, rfl, .ref s, rfl, s, C, dx, _, .ref a, rfl, h1, L.cl, L.nt, lk1, a, _, rfl, .inr (SqT.of h2), _, _, rfl, rfl, _, rfl, ite2 (fun _ => ?_) (fun c => absurd (decide_eq_true (show ((p.1 : Nat) : Int) < (((ts.map V.str).length : Nat) : Int) by omega)) c)⟩
    refine ⟨_, rfl, .ref s, rfl, s, C, dx, _, .ref a, rfl, h1, L.cl, L.nt, lk1, _, rfl, a, _, _, _, rfl, rfl, SqT.of h2, atI_nat (tx_at i1), _, rfl, len5 (Nat.le_trans (len1 _ (tx_mem i1)) (by decide)), _, _, rfl, rfl, ?_⟩
    dsimp only
    rw [decide_eq_true (show ((p.2 : Nat) : Int) < (((tx ts p.1).length : Nat) : Int) by omega)]
    exact q
abbrev sLInit : Stmt := inClass (topS 13) 0
theorem scLInit : FnScope ["self", "texts", "part", "text"] ["self", "texts"] (defScope sLInit) := ⟨rfl, rfl, rfl, by decide +kernel, rfl, by decide +kernel, by decide +kernel⟩
theorem ok_LInit (L : LibC K mg C fI fdI) {t8 t2000 : Tok} (g8 : mg "MOST_TEXTS" = some (.int 8 t8)) (g2000 : mg "MOST_SIGNS" = some (.int 2000 t2000))
    {fPSigns : Addr} {fdPSigns : FuncData} (DPSigns : Dk P w K mg base "is_signs" sPSigns ["thing"] 1 spSg fPSigns fdPSigns) (T : Glob mg) : FnOk P w K mg base (L2.CX P w) 4 fI fdI ["self", "texts"] (spLInit C) := by
  refine L.FI.okX scLInit (fun vs H Q E h => ?_) (fun cdv A outer s H vs Q E hr h => ?_)
  · obtain ⟨s, dx, a, ts, rfl, _⟩ := h
    rfl
  · obtain ⟨p, dx, a, ts, rfl, hp, ha, few, sg, lens, q⟩ := h
    refine ⟨_, (pss_cons (ps_if (PW.pt (pw_or (pt_not (pt_val (pe_callB call_isi (by rfl) T.isinstance PyProof.Rows.boot_isinstance (pa_cons (pv 1) (pa_cons (pe_bltn (v := .ty "tuple") (by rfl) T.tuple (by decide +kernel) rfl) pa_nil))))) (pw_or1 (pt_cmpR op_gt (pe_callB call_len_seq (by rfl) T.len PySem.boot_len (pa_cons (pv 1) pa_nil)) (pe_glob (v := .int 8) (by rfl) g8 ⟨_, rfl⟩) (nomark _))))) (pss_one ps_dead) pss_nil)
      (pss_cons (ps_for (passes_of rfl) rfl (pi_enumT (by rfl) T.enumerate (pa_cons (pv 1) pa_nil)) (pg_tup (by rfl) (pgs_cons (pg_name (i := 2) scLInit.nd rfl (.inl rfl)) (pgs_cons (pg_name (i := 3) scLInit.nd rfl (.inl rfl)) pgs_nil)))
        (pss_one (ps_if (pt_not (pt_val (pe_call DPSigns.ok (hr.mono (by decide)) (by rfl) DPSigns.g DPSigns.F.kp DPSigns.b .nil pass0 (pa_cons (pv 3) pa_nil)))) (pss_one ps_dead) pss_nil)))
      (pss_cons (ps_if (pt_cmpR op_gt (pe_callB (cr_sum rfl) (by rfl) T.sum (by decide +kernel) (pa_cons (pe_lc (own := [("text", 3)]) (g := gName 3) (by rfl) scLInit.nd (pi_tup (pv 1)) (blkOk_by (N := ["self", "texts", "part", "text"]) (sc := defScope sLInit) (by decide +kernel)) (fun _ _ _ _ _ => pg_name (i := 3) scLInit.nd rfl (.inl rfl)) (fun _ _ _ _ _ => pts_nil) (fun _ _ _ _ _ => (pe_callB call_lenZ (by rfl) T.len PySem.boot_len (pa_cons (pv 3) pa_nil)))) pa_nil)) (pe_glob (v := .int 2000) (by rfl) g2000 ⟨_, rfl⟩) (nomark _)) (pss_one ps_dead) pss_nil)
      (pss_one (ps_fld (pv 0) (pv 1) rfl))))), ?_⟩
    have lm : (ts.map V.str).length = ts.length := List.length_map ..
    refine ⟨.ref a, rfl, .ref a, .ty "tuple", .type (Kn.name .tup), .type "tuple", kitB .tup .tup, rfl, .ty _, Kd.tyx (.tup ha), kit_kn .tup .tup, _, rfl, iteF ?_⟩
    refine ⟨.ref a, rfl, a, _, rfl, .inr (SqT.of ha), _, _, rfl, rfl, _, rfl, ?_⟩
    rw [decide_eq_false (show ¬ (8 : Int) < (((ts.map V.str).length : Nat) : Int) by omega)]
    refine iteF ?_
    refine ⟨.ref a, rfl, a, _, rfl, SqT.of ha, for_enT (fun i σ H' => (∃ y z, σ = [some (.ref p), some (.ref a), y, z]) ∧ Same H H') ⟨⟨_, _, rfl⟩, Same.refl H⟩ (fun i σ H' q => SqT.of (q.2 _ _ ha)) ?_ ?_⟩
    · rintro i c σ H' hxi ⟨⟨y, z, rfl⟩, kH⟩ t nt
      obtain ⟨u, hu, rfl⟩ := List.mem_map.mp (List.mem_of_getElem? hxi)
      have k2 := kH.trans (Same.new (o := .tup [.int (i : Nat), .str u]) nt)
      refine ⟨t, [.int (i : Nat), .str u], rfl, SqT.of upd_same, rfl, .int (i : Nat), [.str u], rfl, .str u, [], rfl, rfl, ?_⟩
      refine ⟨.str u, rfl, .str u, .str, rfl, .str u, (fun w e => by cases e; exact Nat.le_trans (lens _ hu) (by decide)), _, rfl, ?_⟩
      rw [show sgV (.str u) = true from sg u hu]
      exact iteF ⟨⟨_, _, rfl⟩, k2⟩
    · rintro σ H' ⟨⟨y, z, rfl⟩, kH⟩
      refine ⟨.ref a, rfl, a, rfl, ⟨_, SqT.of (kH _ _ ha)⟩, fun D nD => lc_lens (i := 3) (show 3 < 4 by decide) (kH _ _ ha) nD (fun t ht => Nat.le_trans (lens t ht) (by decide)) (by omega) fun H2 hD hs => ?_⟩
      refine ⟨D, _, rfl, sq_of hD, _, _, rfl, rfl, _, rfl, ?_⟩
      have := sum_le lens
      rw [decide_eq_false (show ¬ (2000 : Int) < (ts.map fun t => (t.length : Int)).sum by omega)]
      refine iteF ?_
      have k2 := kH.trans hs
      refine ⟨.ref a, rfl, .ref p, rfl, p, C, dx, [], rfl, k2 _ _ hp, L.cl, L.nt, by decide, ?_⟩
      refine q _ upd_same fun b u nb hb => ?_
      rw [upd_ne nb]
      exact k2 _ _ hb
end
end LawK
set_option maxHeartbeats 4000000
namespace LawK
open PySem PySem.Spec PyProof.Rows L2 Ev

def spAnySign : Sp := fun vs H Q _ => ∃ (p : Addr), vs = [.ref p] ∧ ∃ l, HandL H p l ∧ ∀ c H', sgC c = true → HandL H' p l → But p H H' → Q (.str (SX.S [c])) H'
def spSign : Sp := fun vs H Q _ => ∃ (p : Addr) (k : Int), vs = [.ref p, .int k] ∧ 0 ≤ k ∧ k < 5 ∧ ∃ l, HandL H p l ∧ ∀ c H', sgC c = true → HandL H' p l → But p H H' → Q (.str (SX.S [c])) H'
def spLText : Sp := fun vs H Q _ => ∃ (p : Addr) (m : Int), vs = [.ref p, .int m] ∧ 0 ≤ m ∧ m ≤ 200 ∧ ∃ l, HandL H p l ∧ ∀ y H', sgB y = true → (y.length : Int) ≤ m → HandL H' p l → But p H H' → Q (.str y) H'
def spLWord : Sp := fun vs H Q _ => ∃ (p : Addr) (m : Int), vs = [.ref p, .int m] ∧ 1 ≤ m ∧ m ≤ 200 ∧ ∃ l, HandL H p l ∧ ∀ y H', sgB y = true → (y.length : Int) ≤ m → 1 ≤ y.length → HandL H' p l → But p H H' → Q (.str y) H'
def spLTexts : Sp := fun vs H Q _ => ∃ (p : Addr) (m : Int), vs = [.ref p, .int m] ∧ 0 ≤ m ∧ m ≤ 200 ∧ ∃ l, HandL H p l ∧
  ∀ a (ts : List Str) H', H' a = some (.tup (ts.map V.str)) → ts.length ≤ 8 → (∀ t ∈ ts, sgB t = true) → (∀ t ∈ ts, (t.length : Int) ≤ m) → HandL H' p l → But p H H' → Q (.ref a) H'
theorem len_S1 (cs : List Nat) : (SX.S cs).length = cs.length := rfl
theorem sum_one (cs : List Nat) : ((cs.map fun c => SX.S [c]).map (·.length)).sum ≤ cs.length := by
  induction cs with
  | nil => exact Nat.le_refl _
  | cons c cs ih =>
    simp only [List.map_cons, List.sum_cons, List.length_cons]
    have : (SX.S [c]).length = 1 := rfl
    omega
section
variable {P : Program} {w : World} {K : PySem.W.Frag} {mg : Str → Option Value} {base : Heap}
abbrev sAnySign : Stmt := topS 41
theorem scAnySign : FnScope ["hand", "signs"] ["hand"] (defScope sAnySign) := ⟨rfl, rfl, rfl, by decide +kernel, rfl, by decide +kernel, by decide +kernel⟩
theorem ok_AnySign {f : Addr} {fd : FuncData} (F : Fun K "_law_any_sign" "_law_any_sign" sAnySign f fd)  {fDraw : Addr} {fdDraw : FuncData} (DDraw : Dk P w K mg base "_law_draw" sDraw ["hand", "many"] 1 spDraw fDraw fdDraw) (T : Glob mg) : FnOk P w K mg base CX0 2 f fd ["hand"] spAnySign := by
  refine F.ok scAnySign (fun vs H Q E h => ?_) (fun cdv A outer s H vs Q E hr h => ?_)
  · obtain ⟨p, rfl, _⟩ := h
    rfl
  · refine ⟨_, (pss_cons (ps_set (i := 1) scAnySign.nd rfl (.inl rfl) pe_str)
      (pss_cons (ps_set (i := 1) scAnySign.nd rfl (.inl rfl) (pe_op op_add_str (pv 1) pe_str))
      (pss_one (ps_ret (pe_ix ix_str (pv 1) (pe_call DDraw.ok (hr.mono (by decide)) (by rfl) DDraw.g DDraw.F.kp DDraw.b .nil pass0 (pa_cons (pv 0) (pa_cons (pe_callB call_lenZ (by rfl) T.len PySem.boot_len (pa_cons (pv 1) pa_nil)) pa_nil))) (fun _ _ => rfl)))))), ?_⟩
    obtain ⟨p, rfl, lh, hH, q⟩ := h
    refine ⟨_, rfl, _, _, rfl, rfl, by decide +kernel, ?_⟩
    dsimp only
    refine ⟨_, rfl, .ref p, rfl, _, rfl, _, rfl, by decide +kernel, p, _, rfl, by decide +kernel, by decide +kernel, lh, hH, fun v H1 v0 v1 h2 b2 => ?_⟩
    obtain ⟨c, ec, hc⟩ := sg_at (by decide +kernel) v0 v1
    exact ⟨_, v, c, rfl, rfl, by decide +kernel, ec, q c H1 hc h2 b2⟩
abbrev sSign : Stmt := topS 42
theorem scSign : FnScope ["hand", "kind", "some"] ["hand", "kind"] (defScope sSign) := ⟨rfl, rfl, rfl, by decide +kernel, rfl, by decide +kernel, by decide +kernel⟩
theorem ok_Sign {f : Addr} {fd : FuncData} (F : Fun K "_law_sign" "_law_sign" sSign f fd)  {fDraw : Addr} {fdDraw : FuncData} (DDraw : Dk P w K mg base "_law_draw" sDraw ["hand", "many"] 1 spDraw fDraw fdDraw) {fAnySign : Addr} {fdAnySign : FuncData} (DAnySign : Dk P w K mg base "_law_any_sign" sAnySign ["hand"] 2 spAnySign fAnySign fdAnySign) (T : Glob mg) : FnOk P w K mg base CX0 3 f fd ["hand", "kind"] spSign := by
  refine F.ok scSign (fun vs H Q E h => ?_) (fun cdv A outer s H vs Q E hr h => ?_)
  · obtain ⟨p, k, rfl, _⟩ := h
    rfl
  · refine ⟨_, (pss_cons (ps_if (pt_cmpR op_eq (pv 1) pe_int (nomark _))
      (pss_one (ps_ret (pe_call DAnySign.ok (hr.mono (by decide)) (by rfl) DAnySign.g DAnySign.F.kp DAnySign.b .nil pass0 (pa_cons (pv 0) pa_nil))))
      pss_nil)
      (pss_cons (ps_set (i := 2) scSign.nd rfl (.inl rfl) (pe_ix ix_list (pe_lst (pa_cons pe_str (pa_cons pe_str (pa_cons pe_str (pa_cons pe_str pa_nil))))) (pv 1) (fun _ _ => rfl)))
      (pss_one (ps_ret (pe_ix ix_str (pv 2) (pe_call DDraw.ok (hr.mono (by decide)) (by rfl) DDraw.g DDraw.F.kp DDraw.b .nil pass0 (pa_cons (pv 0) (pa_cons (pe_callB call_lenZ (by rfl) T.len PySem.boot_len (pa_cons (pv 2) pa_nil)) pa_nil))) (fun _ _ => rfl)))))), ?_⟩
    obtain ⟨p, k, rfl, k0, k4, lh, hH, q⟩ := h
    refine ⟨.int k, rfl, rfl, _, rfl, ite2 (fun e => ?_) (fun e => ?_)⟩
    · exact ⟨.ref p, rfl, p, rfl, lh, hH, q⟩
    · rw [dec_int] at e
      have k3 : k < 4 := by
        have : ¬ k = 4 := fun z => e (decide_eq_true z)
        omega
      dsimp only [tNext, tDrop]
      refine ⟨by show 4 ≤ sizeLine; decide, fun a na => ?_⟩
      have h1 := hH.same (Same.new (o := .lst [.str "ab", .str "abc", .str "a", .str "ab~ "]) na)
      have b1 := But.same (p := p) (Same.new (H := H) (o := .lst [.str "ab", .str "abc", .str "a", .str "ab~ "]) na)
      have hA : upd H a (.lst [.str "ab", .str "abc", .str "a", .str "ab~ "]) a = some (.lst [.str "ab", .str "abc", .str "a", .str "ab~ "]) := upd_same
      revert h1 b1 hA
      generalize upd H a (.lst [.str "ab", .str "abc", .str "a", .str "ab~ "]) = H1
      intro h1 b1 hA
      have e4 : k = 0 ∨ k = 1 ∨ k = 2 ∨ k = 3 := by omega
      obtain ⟨z, w, e2⟩ : ∃ z : Str, (sgB z = true ∧ 0 < z.length ∧ z.length ≤ 100) ∧ atI [V.str "ab", .str "abc", .str "a", .str "ab~ "] k = some (.str z) := by
        rcases e4 with rfl | rfl | rfl | rfl
        · exact ⟨"ab", ⟨by decide +kernel, by decide +kernel, by decide +kernel⟩, rfl⟩
        · exact ⟨"abc", ⟨by decide +kernel, by decide +kernel, by decide +kernel⟩, rfl⟩
        · exact ⟨"a", ⟨by decide +kernel, by decide +kernel, by decide +kernel⟩, rfl⟩
        · exact ⟨"ab~ ", ⟨by decide +kernel, by decide +kernel, by decide +kernel⟩, rfl⟩
      refine ⟨_, rfl, a, _, k, .str z, rfl, rfl, sq_of hA, e2, .str z, rfl, .ref p, rfl, .str z, rfl, z, rfl, len6 w.2.2, p, (z.length : Int), rfl, by omega, by omega, lh, h1, fun v H2 v0 v1 h2 b2 => ?_⟩
      obtain ⟨c, ec, hc⟩ := sg_at w.1 v0 v1
      exact ⟨z, v, c, rfl, rfl, len6 w.2.2, ec, q c H2 hc h2 (b1.trans b2)⟩
abbrev sText : Stmt := topS 43
theorem scText : FnScope ["hand", "most", "kind", "way", "many", "one", "other", "turn"] ["hand", "most"] (defScope sText) := ⟨rfl, rfl, rfl, by decide +kernel, rfl, by decide +kernel, by decide +kernel⟩
theorem ok_Text {f : Addr} {fd : FuncData} (F : Fun K "_law_text" "_law_text" sText f fd)  {fDraw : Addr} {fdDraw : FuncData} (DDraw : Dk P w K mg base "_law_draw" sDraw ["hand", "many"] 1 spDraw fDraw fdDraw) {fSign : Addr} {fdSign : FuncData} (DSign : Dk P w K mg base "_law_sign" sSign ["hand", "kind"] 3 spSign fSign fdSign) (T : Glob mg) : FnOk P w K mg base CX0 4 f fd ["hand", "most"] spLText := by
  refine F.ok scText (fun vs H Q E h => ?_) (fun cdv A outer s H vs Q E hr h => ?_)
  · obtain ⟨p, m, rfl, _⟩ := h
    rfl
  · refine ⟨_, (pss_cons (ps_set (i := 2) scText.nd rfl (.inr rfl) (pe_call DDraw.ok (hr.mono (by decide)) (by rfl) DDraw.g DDraw.F.kp DDraw.b .nil pass0 (pa_cons (pv 0) (pa_cons pe_int pa_nil))))
      (pss_cons (ps_set (i := 3) scText.nd rfl (.inl rfl) (pe_call DDraw.ok (hr.mono (by decide)) (by rfl) DDraw.g DDraw.F.kp DDraw.b .nil pass0 (pa_cons (pv 0) (pa_cons pe_int pa_nil))))
      (pss_cons (ps_set (i := 4) scText.nd rfl (.inl rfl) (pe_call DDraw.ok (hr.mono (by decide)) (by rfl) DDraw.g DDraw.F.kp DDraw.b .nil pass0 (pa_cons (pv 0) (pa_cons (pe_op op_add (pv 1) pe_int) pa_nil))))
      (pss_cons (ps_if (pt_cmpR op_gt (pv 3) pe_int (nomark _))
      (pss_one (ps_ret (pe_join pe_str (pe_lc (own := [("turn", 7)]) (g := gName 7) (by rfl) scText.nd (pi_range1 (by rfl) T.range (pa_cons (pv 4) pa_nil)) (blkOk_by (N := ["hand", "most", "kind", "way", "many", "one", "other", "turn"]) (sc := defScope sText) (by decide +kernel)) (fun _ _ _ _ _ => pg_name (i := 7) scText.nd rfl (.inl rfl)) (fun _ _ _ _ _ => pts_nil) (fun _ _ _ _ _ => (pe_call DSign.ok (hr.mono (by decide)) (by rfl) DSign.g DSign.F.kp DSign.b .nil pass0 (pa_cons (pv 0) (pa_cons (pv 2) pa_nil))))))))
      pss_nil)
      (pss_cons (ps_set (i := 5) scText.nd rfl (.inl rfl) (pe_join pe_str (pe_lc (own := [("turn", 7)]) (g := gName 7) (by rfl) scText.nd (pi_range1 (by rfl) T.range (pa_cons (pe_op op_add pe_int (pe_call DDraw.ok (hr.mono (by decide)) (by rfl) DDraw.g DDraw.F.kp DDraw.b .nil pass0 (pa_cons (pv 0) (pa_cons pe_int pa_nil)))) pa_nil)) (blkOk_by (N := ["hand", "most", "kind", "way", "many", "one", "other", "turn"]) (sc := defScope sText) (by decide +kernel)) (fun _ _ _ _ _ => pg_name (i := 7) scText.nd rfl (.inl rfl)) (fun _ _ _ _ _ => pts_nil) (fun _ _ _ _ _ => (pe_call DSign.ok (hr.mono (by decide)) (by rfl) DSign.g DSign.F.kp DSign.b .nil pass0 (pa_cons (pv 0) (pa_cons (pv 2) pa_nil)))))))
      (pss_cons (ps_if (pt_cmpR op_eq (pv 3) pe_int (nomark _))
      (pss_one (ps_ret (pe_slice sl_str (pe_op op_mulS (pv 5) (pv 4)) po_none (po_some (pv 4)))))
      pss_nil)
      (pss_cons (ps_set (i := 6) scText.nd rfl (.inl rfl) (pe_call DSign.ok (hr.mono (by decide)) (by rfl) DSign.g DSign.F.kp DSign.b .nil pass0 (pa_cons (pv 0) (pa_cons (pv 2) pa_nil))))
      (pss_cons (ps_for PassesOwn.never rfl (pi_range1 (by rfl) T.range (pa_cons pe_int pa_nil)) (pg_name (i := 7) scText.nd rfl (.inl rfl))
      (pss_cons (ps_if (pt_cmpR op_ge (pe_callB call_lenZ (by rfl) T.len PySem.boot_len (pa_cons (pv 5) pa_nil)) (pv 4) (nomark _))
        (pss_one ps_break)
        pss_nil)
        (pss_one (ps_par (i := 5) (j := 6) (by rfl) scText.nd rfl rfl (by decide) rfl rfl (pa_cons (pe_op op_add_str (pv 5) (pv 6)) (pa_cons (pv 5) pa_nil)) (by rfl)))))
      (pss_one (ps_ret (pe_slice sl_str (pv 5) po_none (po_some (pv 4))))))))))))), ?_⟩
    obtain ⟨p, m, rfl, m0, m1, lh, hH, q⟩ := h
    refine ⟨.ref p, rfl, p, 5, rfl, by decide, by decide, lh, hH, fun kk H1 k0 k4 h1 b1 => ?_⟩
    refine ⟨.ref p, rfl, p, 4, rfl, by decide, by decide, lh, h1, fun wy H2 w0 w4 h2 b2 => ?_⟩
    refine ⟨.ref p, rfl, _, rfl, _, _, rfl, rfl, p, m + 1, rfl, by omega, by omega, lh, h2, fun n H3 n0 n1 h3 b3 => ?_⟩
    have b13 := (b1.trans b2).trans b3
    refine ⟨_, rfl, _, _, rfl, rfl, _, rfl, ite2 (fun e => ?_) (fun e => ?_)⟩
    · refine ⟨⟨_, rfl⟩, _, rfl, n, rfl, by omega, by omega, fun D nD => lc_range (fun i H' => ∃ cs : List Nat, H' D = some (.lst (cs.map fun c => V.str (SX.S [c]))) ∧ cs.length = i ∧ (∀ c ∈ cs, sgC c = true) ∧ Hn p lh H3 H') ⟨[], upd_same, rfl, fun c hc => absurd hc (by simp), (Hn.refl h3).new nD⟩ ?_ ?_⟩
      · rintro i H' hi ⟨cs, hD, hl, hs, hn⟩
        refine ⟨rfl, .ref p, rfl, .int kk, rfl, p, kk, rfl, k0, k4, lh, hn.at_, fun c H2 hc h2 b2 => ?_⟩
        have nDp := (h3.ne nD).1
        refine ⟨_, b2 _ _ nDp hD, ?_, cs ++ [c], ?_, ?_, ?_, (hn.go h2 b2).at h3 nD⟩
        · rw [List.length_map, hl, sizeLine_eq]
          omega
        · rw [upd_same, List.map_append]
          rfl
        · rw [List.length_append, hl]
          rfl
        · intro d hd
          rcases List.mem_append.mp hd with g | g
          · exact hs d g
          · rw [List.mem_singleton.mp g]
            exact hc
      · rintro H' ⟨cs, hD, hl, hs, hn⟩
        have e1 : (cs.map fun c => V.str (SX.S [c])) = (cs.map fun c => SX.S [c]).map V.str := by rw [List.map_map]; rfl
        have hln : (cs.length : Int) ≤ n := by omega
        have hsum := sum_one cs
        have sj : sgB (SX.S cs) = true := by rw [sgB_S]; exact List.all_eq_true.mpr hs
        have lj : (SX.S cs).length = cs.length := rfl
        refine ⟨_, D, cs.map (fun c => SX.S [c]), rfl, rfl, .inl (sq_of (e1 ▸ hD)), ?_, ?_⟩
        · rw [List.length_map]
          have : (Str.ofString "").length = 0 := by decide +kernel
          rw [this]
          omega
        · rw [join1]
          exact q _ H' sj (by omega) hn.at_ (b13.trans hn.but)
    · dsimp only [tNext, tDrop]
      refine ⟨⟨_, rfl⟩, .ref p, rfl, p, 4, rfl, by decide, by decide, lh, h3, fun u H4 u0 u1 h4 b4 => ?_⟩
      have b14 := b13.trans b4
      refine ⟨_, _, rfl, rfl, 1 + u, rfl, by omega, by omega, fun D nD => lc_range (fun i H' => ∃ cs : List Nat, H' D = some (.lst (cs.map fun c => V.str (SX.S [c]))) ∧ cs.length = i ∧ (∀ c ∈ cs, sgC c = true) ∧ Hn p lh H4 H') ⟨[], upd_same, rfl, fun c hc => absurd hc (by simp), (Hn.refl h4).new nD⟩ ?_ ?_⟩
      · rintro i H' hi ⟨cs, hD, hl, hs, hn⟩
        refine ⟨rfl, .ref p, rfl, .int kk, rfl, p, kk, rfl, k0, k4, lh, hn.at_, fun c H2 hc h2 b2 => ?_⟩
        have nDp := (h4.ne nD).1
        refine ⟨_, b2 _ _ nDp hD, ?_, cs ++ [c], ?_, ?_, ?_, (hn.go h2 b2).at h4 nD⟩
        · rw [List.length_map, hl, sizeLine_eq]
          omega
        · rw [upd_same, List.map_append]
          rfl
        · rw [List.length_append, hl]
          rfl
        · intro d hd
          rcases List.mem_append.mp hd with g | g
          · exact hs d g
          · rw [List.mem_singleton.mp g]
            exact hc
      · rintro H' ⟨cs, hD, hl, hs, hn⟩
        have e1 : (cs.map fun c => V.str (SX.S [c])) = (cs.map fun c => SX.S [c]).map V.str := by rw [List.map_map]; rfl
        have hln : (cs.length : Int) ≤ 4 := by omega
        have hsum := sum_one cs
        have sj : sgB (SX.S cs) = true := by rw [sgB_S]; exact List.all_eq_true.mpr hs
        have lj : (SX.S cs).length = cs.length := rfl
        refine ⟨_, D, cs.map (fun c => SX.S [c]), rfl, rfl, .inl (sq_of (e1 ▸ hD)), ?_, ?_⟩
        · rw [List.length_map]
          have : (Str.ofString "").length = 0 := by decide +kernel
          rw [this]
          omega
        · rw [join1]
          have h5 := hn.at_
          have b15 := b14.trans hn.but
          have l4 : (SX.S cs).length ≤ 4 := by omega
          clear hD hl hs hsum e1 hn lj
          revert sj l4 h5 b15
          generalize SX.S cs = one
          clear nD
          intro sj h5 b15 l4
          refine ⟨.int wy, rfl, rfl, _, rfl, ite2 (fun e => ?_) (fun e => ?_)⟩
          · obtain ⟨l2, s2⟩ := mul_facts one n
            have c1 := cut_hi (z := Txt.mul one n) (lo := none) (u := n) (by omega)
            have lm : (Txt.mul one n).length ≤ 5000 := by
              have : one.length * n.toNat ≤ 4 * 201 := Nat.mul_le_mul l4 (by omega)
              omega
            exact ⟨_, rfl, _, rfl, one, n, rfl, rfl, by omega, by omega, by omega, .int n, rfl, n, rfl, _, rfl, len5 lm, q _ _ (sgB_cut (s2 sj) _ _) (by omega) h5 b15⟩
          · dsimp only [tNext, tDrop]
            refine ⟨.ref p, rfl, .int kk, rfl, p, kk, rfl, k0, k4, lh, h5, fun c H6 hc h6 b6 => ?_⟩
            have so : sgB (SX.S [c]) = true := by rw [sgB_S]; exact List.all_eq_true.mpr fun d hd => by rw [List.mem_singleton.mp hd]; exact hc
            have b16 := b15.trans b6
            refine ⟨8, rfl, by decide, by decide, for_range (fun i σ H' => ∃ (x y : Str) (u : Option V), σ = [some (.ref p), some (.int m), some (.int kk), some (.int wy), some (.int n), some (.str x), some (.str y), u] ∧ sgB x = true ∧ sgB y = true ∧ x.length ≤ 4 * 2 ^ i ∧ y.length ≤ 4 * 2 ^ i ∧ H' = H6) ⟨_, _, _, rfl, sj, so, by simpa using l4, by show 1 ≤ 4 * 2 ^ 0; decide, rfl⟩ ?_ ?_⟩
            · rintro i σ H' hi ⟨x, y, u, rfl, sx, sy, lx, ly, rfl⟩
              have hi2 : i < 8 := by omega
              have p2 : 4 * 2 ^ i ≤ 512 := by
                have : 2 ^ i ≤ 2 ^ 7 := Nat.pow_le_pow_right (by decide) (by omega)
                omega
              have c1 := cut_hi (z := x) (lo := none) (u := n) (by omega)
              refine ⟨.str x, rfl, x, rfl, len5 (by omega), .int n, rfl, _, _, rfl, rfl, _, rfl, ite2 (fun e => ?_) (fun e => ?_)⟩
              · exact ⟨_, rfl, .int n, rfl, n, rfl, _, rfl, len5 (by omega), q _ _ (sgB_cut sx _ _) (by omega) h6 b16⟩
              · dsimp only [tNext, tDrop]
                refine ⟨.str x, rfl, .str y, rfl, x, y, rfl, rfl, by rw [sizeLine_eq]; omega, .str x, rfl, _, _, rfl, x ++ y, x, _, rfl, sgB_app sx sy, sx, by rw [app_len, Nat.pow_succ]; omega, by rw [Nat.pow_succ]; omega, rfl⟩
            · rintro σ H' ⟨x, y, u, rfl, sx, sy, lx, ly, rfl⟩
              have lx2 : x.length ≤ 1024 := lx
              have c1 := cut_hi (z := x) (lo := none) (u := n) (by omega)
              exact ⟨_, rfl, .int n, rfl, n, rfl, _, rfl, len5 (by omega), q _ _ (sgB_cut sx _ _) (by omega) h6 b16⟩
abbrev sTexts : Stmt := topS 44
theorem scTexts : FnScope ["hand", "most", "many", "found", "turn"] ["hand", "most"] (defScope sTexts) := ⟨rfl, rfl, rfl, by decide +kernel, rfl, by decide +kernel, by decide +kernel⟩
theorem ok_Texts {f : Addr} {fd : FuncData} (F : Fun K "_law_texts" "_law_texts" sTexts f fd)  {fDraw : Addr} {fdDraw : FuncData} (DDraw : Dk P w K mg base "_law_draw" sDraw ["hand", "many"] 1 spDraw fDraw fdDraw) {fText : Addr} {fdText : FuncData} (DText : Dk P w K mg base "_law_text" sText ["hand", "most"] 4 spLText fText fdText) (T : Glob mg) : FnOk P w K mg base CX0 5 f fd ["hand", "most"] spLTexts := by
  refine F.ok scTexts (fun vs H Q E h => ?_) (fun cdv A outer s H vs Q E hr h => ?_)
  · obtain ⟨p, m, rfl, _⟩ := h
    rfl
  · refine ⟨_, (pss_cons (ps_set (i := 2) scTexts.nd rfl (.inl rfl) (pe_ix ix_list (pe_lst (pa_cons pe_int (pa_cons pe_int (pa_cons pe_int (pa_cons pe_int (pa_cons pe_int (pa_cons pe_int (pa_cons pe_int (pa_cons pe_int pa_nil))))))))) (pe_call DDraw.ok (hr.mono (by decide)) (by rfl) DDraw.g DDraw.F.kp DDraw.b .nil pass0 (pa_cons (pv 0) (pa_cons pe_int pa_nil))) (fun _ _ => rfl)))
      (pss_cons (ps_set (i := 3) scTexts.nd rfl (.inl rfl) (pe_lst pa_nil))
      (pss_cons (ps_for PassesOwn.never rfl (pi_range1 (by rfl) T.range (pa_cons (pv 2) pa_nil)) (pg_name (i := 4) scTexts.nd rfl (.inl rfl))
      (pss_one (ps_if (PW.pt (pw_and (pt_cmpR op_gt (pv 4) pe_int (nomark _)) (pw_and1 (pt_cmpR op_eq (pe_call DDraw.ok (hr.mono (by decide)) (by rfl) DDraw.g DDraw.F.kp DDraw.b .nil pass0 (pa_cons (pv 0) (pa_cons pe_int pa_nil))) pe_int (nomark _)))))
        (pss_one (ps_expr (pe_bm PySem.F.plainAttrs_list PySem.F.slot_list_append PySem.F.type_list_append mt_append (pv 3) (pa_cons (pe_ix ix_list (pv 3) (pe_call DDraw.ok (hr.mono (by decide)) (by rfl) DDraw.g DDraw.F.kp DDraw.b .nil pass0 (pa_cons (pv 0) (pa_cons (pv 4) pa_nil))) (fun _ _ => rfl)) pa_nil))))
        (pss_one (ps_expr (pe_bm PySem.F.plainAttrs_list PySem.F.slot_list_append PySem.F.type_list_append mt_append (pv 3) (pa_cons (pe_call DText.ok (hr.mono (by decide)) (by rfl) DText.g DText.F.kp DText.b .nil pass0 (pa_cons (pv 0) (pa_cons (pv 1) pa_nil))) pa_nil)))))))
      (pss_one (ps_ret (pe_callTy call_tuple_of (by rfl) T.tuple (by decide +kernel) (pa_cons (pv 3) pa_nil))))))), ?_⟩
    obtain ⟨p, m, rfl, m0, m1, lh, hH, q⟩ := h
    refine ⟨by show 8 ≤ sizeLine; decide, fun o no => ?_⟩
    have h1 := hH.same (Same.new (o := .lst [.int 0, .int 1, .int 1, .int 1, .int 2, .int 2, .int 3, .int 8]) no)
    have b1 := But.same (p := p) (Same.new (H := H) (o := .lst [.int 0, .int 1, .int 1, .int 1, .int 2, .int 2, .int 3, .int 8]) no)
    have hO : upd H o (.lst [.int 0, .int 1, .int 1, .int 1, .int 2, .int 2, .int 3, .int 8]) o = some (.lst [.int 0, .int 1, .int 1, .int 1, .int 2, .int 2, .int 3, .int 8]) := upd_same
    have nop := (hH.ne no).1
    revert h1 b1 hO
    generalize upd H o (.lst [.int 0, .int 1, .int 1, .int 1, .int 2, .int 2, .int 3, .int 8]) = H1
    intro h1 b1 hO
    refine ⟨.ref p, rfl, p, 8, rfl, by decide, by decide, lh, h1, fun v H2 v0 v1 h2 b2 => ?_⟩
    obtain ⟨x, ex, hx⟩ := atI_in (xs := [V.int 0, .int 1, .int 1, .int 1, .int 2, .int 2, .int 3, .int 8]) v0 v1
    obtain ⟨n, rfl, hn8⟩ : ∃ n : Nat, x = .int (n : Int) ∧ n ≤ 8 := by
      simp only [List.mem_cons, List.not_mem_nil, or_false] at hx
      rcases hx with e | e | e | e | e | e | e | e
      · exact ⟨0, e, by decide⟩
      · exact ⟨1, e, by decide⟩
      · exact ⟨1, e, by decide⟩
      · exact ⟨1, e, by decide⟩
      · exact ⟨2, e, by decide⟩
      · exact ⟨2, e, by decide⟩
      · exact ⟨3, e, by decide⟩
      · exact ⟨8, e, by decide⟩
    refine ⟨o, _, v, _, rfl, rfl, sq_of (b2 _ _ nop hO), ex, ?_⟩
    refine ⟨by show 0 ≤ sizeLine; decide, fun f nf => ?_⟩
    have nfp := (h2.ne nf).1
    have b12 := b1.trans b2
    refine ⟨.int (n : Int), rfl, _, rfl, by omega, by omega, for_range (fun i σ H' => ∃ (x : Option V) (ts : List Str), σ = [some (.ref p), some (.int m), some (.int (n : Int)), some (.ref f), x] ∧ H' f = some (.lst (ts.map V.str)) ∧ ts.length = i ∧ (∀ t ∈ ts, sgB t = true ∧ (t.length : Int) ≤ m) ∧ Hn p lh H2 H') ⟨none, [], rfl, upd_same, rfl, fun t ht => absurd ht (by simp), (Hn.refl h2).new nf⟩ ?_ ?_⟩
    · rintro i σ H' hi ⟨x, ts, rfl, hf, hl, ht, hn⟩
      have hi2 : i < n := by omega
      have put : ∀ {H4 : Hp} {y : Str}, Hn p lh H2 H4 → H4 f = some (.lst (ts.map V.str)) → sgB y = true → (y.length : Int) ≤ m → Hn p lh H2 (upd H4 f (.lst (ts.map V.str ++ [V.str y]))) ∧ upd H4 f (.lst (ts.map V.str ++ [V.str y])) f = some (.lst ((ts ++ [y]).map V.str)) ∧ (ts ++ [y]).length = i + 1 ∧ ∀ t ∈ ts ++ [y], sgB t = true ∧ (t.length : Int) ≤ m := fun {H4 y} g1 g2 g3 g4 => by
        refine ⟨g1.at h2 nf, by rw [upd_same, List.map_append]; rfl, by rw [List.length_append, hl]; rfl, fun t hm => ?_⟩
        rcases List.mem_append.mp hm with e | e
        · exact ht t e
        · rw [List.mem_singleton.mp e]
          exact ⟨g3, g4⟩
      have lts : (ts.map V.str).length < sizeLine := by
        rw [List.length_map, hl, sizeLine_eq]
        omega
      refine (?_ : ∀ Q : Bool → Hp → Prop, (∀ b H3, Hn p lh H2 H3 → H3 f = some (.lst (ts.map V.str)) → (b = true → 0 < i) → Q b H3) → tAnd _ _ _ H' Q) _ ?_
      · intro Q0 kk
        refine ⟨_, rfl, _, _, rfl, rfl, _, rfl, ite2 (fun e => ?_) (fun e => kk _ _ hn hf (fun w => Bool.noConfusion w))⟩
        have i0 : 0 < (0 + (i : Int)) := of_decide_eq_true e
        exact ⟨.ref p, rfl, p, 5, rfl, by decide, by decide, lh, hn.at_, fun w H3 w0 w1 h3 b3 => ⟨rfl, _, rfl, kk _ _ (hn.go h3 b3) (b3 _ _ nfp hf) (fun _ => by omega)⟩⟩
      · intro b H3 hn3 hf3 hb
        cases b with
        | true =>
          have i0 := hb rfl
          refine iteT ⟨.ref f, rfl, .inl ⟨rfl, _, sq_of hf3⟩, .ref f, rfl, .ref p, rfl, _, rfl, p, (0 + (i : Int)), rfl, by omega, by omega, lh, hn3.at_, fun v H4 v0 v1 h4 b4 => ?_⟩
          have hf4 := b4 _ _ nfp hf3
          obtain ⟨x4, e4, hx4⟩ := atI_in (xs := ts.map V.str) v0 (by rw [List.length_map, hl]; omega)
          obtain ⟨t, htm, rfl⟩ := List.mem_map.mp hx4
          obtain ⟨g1, g2, g3, g4⟩ := put (y := t) (hn3.go h4 b4) hf4 (ht t htm).1 (ht t htm).2
          exact ⟨f, _, v, _, rfl, rfl, sq_of hf4, e4, f, _, _, rfl, rfl, hf4, lts, _, _, rfl, g2, g3, g4, g1⟩
        | false =>
          refine iteF ⟨.ref f, rfl, .inl ⟨rfl, _, sq_of hf3⟩, .ref p, rfl, .int m, rfl, p, m, rfl, m0, m1, lh, hn3.at_, fun u H5 su lu h5 b5 => ?_⟩
          have hf5 := b5 _ _ nfp hf3
          obtain ⟨g1, g2, g3, g4⟩ := put (y := u) (hn3.go h5 b5) hf5 su lu
          exact ⟨f, _, _, rfl, rfl, hf5, lts, _, _, rfl, g2, g3, g4, g1⟩
    · rintro σ H' ⟨x, ts, rfl, hf, hl, ht, hn⟩
      refine ⟨.ref f, rfl, f, _, rfl, .inl ⟨sq_of hf, fun a na => ?_⟩⟩
      exact q a ts _ upd_same (by omega) (fun t hm => (ht t hm).1) (fun t hm => (ht t hm).2) (hn.at_.same (Same.new na)) ((b12.trans hn.but).and (Same.new na))
abbrev sWord : Stmt := topS 45
theorem scWord : FnScope ["hand", "most", "kind", "turn"] ["hand", "most"] (defScope sWord) := ⟨rfl, rfl, rfl, by decide +kernel, rfl, by decide +kernel, by decide +kernel⟩
theorem ok_Word {f : Addr} {fd : FuncData} (F : Fun K "_law_word" "_law_word" sWord f fd)  {fDraw : Addr} {fdDraw : FuncData} (DDraw : Dk P w K mg base "_law_draw" sDraw ["hand", "many"] 1 spDraw fDraw fdDraw) {fSign : Addr} {fdSign : FuncData} (DSign : Dk P w K mg base "_law_sign" sSign ["hand", "kind"] 3 spSign fSign fdSign) (T : Glob mg) : FnOk P w K mg base CX0 4 f fd ["hand", "most"] spLWord := by
  refine F.ok scWord (fun vs H Q E h => ?_) (fun cdv A outer s H vs Q E hr h => ?_)
  · obtain ⟨p, m, rfl, _⟩ := h
    rfl
  · refine ⟨_, (pss_cons (ps_set (i := 2) scWord.nd rfl (.inr rfl) (pe_call DDraw.ok (hr.mono (by decide)) (by rfl) DDraw.g DDraw.F.kp DDraw.b .nil pass0 (pa_cons (pv 0) (pa_cons pe_int pa_nil))))
      (pss_one (ps_ret (pe_join pe_str (pe_lc (own := [("turn", 3)]) (g := gName 3) (by rfl) scWord.nd (pi_range1 (by rfl) T.range (pa_cons (pe_op op_add pe_int (pe_call DDraw.ok (hr.mono (by decide)) (by rfl) DDraw.g DDraw.F.kp DDraw.b .nil pass0 (pa_cons (pv 0) (pa_cons (pv 1) pa_nil)))) pa_nil)) (blkOk_by (N := ["hand", "most", "kind", "turn"]) (sc := defScope sWord) (by decide +kernel)) (fun _ _ _ _ _ => pg_name (i := 3) scWord.nd rfl (.inl rfl)) (fun _ _ _ _ _ => pts_nil) (fun _ _ _ _ _ => (pe_call DSign.ok (hr.mono (by decide)) (by rfl) DSign.g DSign.F.kp DSign.b .nil pass0 (pa_cons (pv 0) (pa_cons (pv 2) pa_nil))))))))), ?_⟩
    obtain ⟨p, m, rfl, m0, m1, lh, hH, q⟩ := h
    refine ⟨.ref p, rfl, p, 5, rfl, by decide, by decide, lh, hH, fun kk H1 k0 k4 h1 b1 => ?_⟩
    refine ⟨⟨_, rfl⟩, .ref p, rfl, .int m, rfl, p, m, rfl, by omega, by omega, lh, h1, fun u H4 u0 u1 h4 b4 => ?_⟩
    refine ⟨_, _, rfl, rfl, 1 + u, rfl, by omega, by omega, fun D nD => lc_range (fun i H' => ∃ cs : List Nat, H' D = some (.lst (cs.map fun c => V.str (SX.S [c]))) ∧ cs.length = i ∧ (∀ c ∈ cs, sgC c = true) ∧ Hn p lh H4 H') ⟨[], upd_same, rfl, fun c hc => absurd hc (by simp), (Hn.refl h4).new nD⟩ ?_ ?_⟩
    · rintro i H' hi ⟨cs, hD, hl, hs, hn⟩
      refine ⟨rfl, .ref p, rfl, .int kk, rfl, p, kk, rfl, k0, k4, lh, hn.at_, fun c H2 hc h2 b2 => ?_⟩
      have nDp := (h4.ne nD).1
      refine ⟨_, b2 _ _ nDp hD, ?_, cs ++ [c], ?_, ?_, ?_, (hn.go h2 b2).at h4 nD⟩
      · rw [List.length_map, hl, sizeLine_eq]
        omega
      · rw [upd_same, List.map_append]
        rfl
      · rw [List.length_append, hl]
        rfl
      · intro d hd
        rcases List.mem_append.mp hd with g | g
        · exact hs d g
        · rw [List.mem_singleton.mp g]
          exact hc
    · rintro H' ⟨cs, hD, hl, hs, hn⟩
      have e1 : (cs.map fun c => V.str (SX.S [c])) = (cs.map fun c => SX.S [c]).map V.str := by rw [List.map_map]; rfl
      have hln : (cs.length : Int) ≤ m := by omega
      have hsum := sum_one cs
      have sj : sgB (SX.S cs) = true := by rw [sgB_S]; exact List.all_eq_true.mpr hs
      have lj : (SX.S cs).length = cs.length := rfl
      refine ⟨_, D, cs.map (fun c => SX.S [c]), rfl, rfl, .inl (sq_of (e1 ▸ hD)), ?_, ?_⟩
      · rw [List.length_map]
        have : (Str.ofString "").length = 0 := by decide +kernel
        rw [this]
        omega
      · rw [join1]
        exact q _ H' sj (by omega) (by omega) hn.at_ ((b1.trans b4).trans hn.but)
end
end LawK
set_option linter.all false
set_option maxRecDepth 100000
set_option maxHeartbeats 4000000
/-! Texts in order, what neighbours have in common, and their pieces in order. -/
namespace LawK
abbrev LN := List Nat
theorem ltc {a b : Nat} {x y : LN} : (a :: x < b :: y) ↔ (a < b ∨ a = b ∧ x < y) := List.cons_lt_cons_iff
theorem ltn {x : LN} : ¬ x < ([] : LN) := List.not_lt_nil x
theorem nlc {a : Nat} {x : LN} : ([] : LN) < a :: x := List.nil_lt_cons a x
theorem lirr (x : LN) : ¬ x < x := List.lt_irrefl x
theorem ltr {x y z : LN} (h : x < y) (k : y < z) : x < z := List.lt_trans h k
theorem ltri (x y : LN) : x < y ∨ x = y ∨ y < x := by
  induction x generalizing y with
  | nil => cases y with
    | nil => exact .inr (.inl rfl)
    | cons b y => exact .inl nlc
  | cons a x ih => cases y with
    | nil => exact .inr (.inr nlc)
    | cons b y =>
      rcases Nat.lt_trichotomy a b with h | h | h
      · exact .inl (ltc.mpr (.inl h))
      · subst h
        rcases ih y with k | k | k
        · exact .inl (ltc.mpr (.inr ⟨rfl, k⟩))
        · exact .inr (.inl (by rw [k]))
        · exact .inr (.inr (ltc.mpr (.inr ⟨rfl, k⟩)))
      · exact .inr (.inr (ltc.mpr (.inl h)))
theorem lle {x y z : LN} (h : ¬ y < x) (k : ¬ z < y) : ¬ z < x := fun e => by
  rcases ltri x y with a | a | a
  · exact k (ltr e a)
  · rw [a] at e; exact k e
  · exact h a
theorem llt {x y z : LN} (h : ¬ y < x) (k : y < z) : x < z := by
  rcases ltri x z with a | a | a
  · exact a
  · rw [← a] at k; exact absurd k h
  · exact absurd (ltr k a) h
theorem pre_le {x y : LN} (h : x <+: y) : ¬ y < x := by
  obtain ⟨t, rfl⟩ := h
  induction x with
  | nil => exact ltn
  | cons a x ih =>
    intro e
    rcases ltc.mp e with k | ⟨_, k⟩
    · exact absurd k (Nat.lt_irrefl _)
    · exact ih k
theorem pre_lt {x y : LN} (h : x <+: y) (n : x ≠ y) : x < y := by
  rcases ltri x y with a | a | a
  · exact a
  · exact absurd a n
  · exact absurd a (pre_le h)
theorem between {w x y : LN} (h : ¬ x < w) (k : ¬ y < x) (p : w <+: y) : w <+: x := by
  induction w generalizing x y with
  | nil => exact List.nil_prefix
  | cons c w ih =>
    obtain ⟨t, rfl⟩ := p
    cases x with
    | nil => exact absurd nlc h
    | cons d x =>
      have h1 : ¬ (d < c ∨ d = c ∧ x < w) := fun e => h (ltc.mpr e)
      have k1 : ¬ (c < d ∨ c = d ∧ w ++ t < x) := fun e => k (ltc.mpr e)
      have e : c = d := by omega
      subst e
      exact List.cons_prefix_cons.mpr ⟨rfl, ih (fun z => h1 (.inr ⟨rfl, z⟩)) (fun z => k1 (.inr ⟨rfl, z⟩)) ⟨t, rfl⟩⟩
def lcp : LN → LN → Nat
  | a :: x, b :: y => if a = b then lcp x y + 1 else 0
  | _, _ => 0
theorem lcp_le (x y : LN) : lcp x y ≤ x.length ∧ lcp x y ≤ y.length := by
  induction x generalizing y with
  | nil => exact ⟨Nat.zero_le _, Nat.zero_le _⟩
  | cons a x ih => cases y with
    | nil => exact ⟨Nat.zero_le _, Nat.zero_le _⟩
    | cons b y =>
      show (if a = b then lcp x y + 1 else 0) ≤ x.length + 1 ∧ (if a = b then lcp x y + 1 else 0) ≤ y.length + 1
      have := ih y
      split <;> omega
theorem lcp_take (x y : LN) {m : Nat} (hx : m ≤ x.length) (hy : m ≤ y.length) : x.take m = y.take m ↔ m ≤ lcp x y := by
  induction x generalizing y m with
  | nil =>
    have : m = 0 := by simpa using hx
    subst this
    simp
  | cons a x ih => cases y with
    | nil =>
      have : m = 0 := by simpa using hy
      subst this
      simp
    | cons b y => cases m with
      | zero => simp
      | succ m =>
        have q := ih y (m := m) (by simpa using hx) (by simpa using hy)
        show a :: x.take m = b :: y.take m ↔ m + 1 ≤ (if a = b then lcp x y + 1 else 0)
        rw [List.cons.injEq, q]
        split
        · rename_i e
          exact ⟨fun h => by omega, fun h => ⟨e, by omega⟩⟩
        · rename_i e
          exact ⟨fun h => absurd h.1 e, fun h => by omega⟩
theorem lcp_lt {x y : LN} (h : ¬ y < x) {m : Nat} (l : lcp x y < m) (k : m ≤ y.length) : x < y.take m := by
  induction x generalizing y m with
  | nil => cases y with
    | nil => exact absurd k (by simp; omega)
    | cons b y => cases m with
      | zero => exact absurd l (by omega)
      | succ m => exact nlc
  | cons a x ih => cases y with
    | nil => exact absurd nlc h
    | cons b y => cases m with
      | zero => exact absurd l (by omega)
      | succ m =>
        show a :: x < b :: y.take m
        have l' : (if a = b then lcp x y + 1 else 0) < m + 1 := l
        have h1 : ¬ (b < a ∨ b = a ∧ y < x) := fun e => h (ltc.mpr e)
        by_cases e : a = b
        · rw [if_pos e] at l'
          exact ltc.mpr (.inr ⟨e, ih (fun z => h1 (.inr ⟨e.symm, z⟩)) (by omega) (by simpa using k)⟩)
        · exact ltc.mpr (.inl (by omega))
/-- what the i-th has in common with the one ahead -/
def ln (s : Nat → LN) (i : Nat) : Nat := if i = 0 then 0 else lcp (s (i - 1)) (s i)
theorem ln_le (s : Nat → LN) (i : Nat) : ln s i ≤ (s i).length := by
  unfold ln
  split
  · exact Nat.zero_le _
  · exact (lcp_le _ _).2
/-- the pieces that come first with the i-th -/
def grp (s : Nat → LN) (i : Nat) : List LN := (List.range ((s i).length - ln s i)).map fun k => (s i).take (ln s i + k + 1)
def pcs (s : Nat → LN) (n : Nat) : List LN := (List.range n).flatMap (grp s)
theorem pcs_succ (s : Nat → LN) (n : Nat) : pcs s (n + 1) = pcs s n ++ grp s n := by
  unfold pcs
  rw [List.range_succ, List.flatMap_append]
  simp
def Srt (s : Nat → LN) (n : Nat) : Prop := ∀ i j, i < j → j < n → ¬ s j < s i
theorem Srt.less {s : Nat → LN} {n m : Nat} (h : Srt s n) (l : m ≤ n) : Srt s m := fun i j a b => h i j a (by omega)
theorem grp_mem {s : Nat → LN} {i : Nat} {x : LN} : x ∈ grp s i ↔ x <+: s i ∧ ln s i < x.length := by
  unfold grp
  rw [List.mem_map]
  constructor
  · rintro ⟨k, hk, rfl⟩
    have hk := List.mem_range.mp hk
    exact ⟨List.take_prefix _ _, by rw [List.length_take]; omega⟩
  · rintro ⟨p, l⟩
    have := p.length_le
    refine ⟨x.length - ln s i - 1, List.mem_range.mpr (by omega), ?_⟩
    rw [List.prefix_iff_eq_take.mp p]
    congr 1
    rw [List.length_take]
    omega
theorem pcs_le {s : Nat → LN} {n : Nat} (h : Srt s (n + 1)) {x : LN} (hx : x ∈ pcs s (n + 1)) : ¬ s n < x := by
  unfold pcs at hx
  obtain ⟨i, hi, hm⟩ := List.mem_flatMap.mp hx
  have hi := List.mem_range.mp hi
  have p := pre_le (grp_mem.mp hm).1
  rcases Nat.lt_or_ge i n with l | l
  · exact lle p (h i n l (by omega))
  · rw [show n = i by omega]
    exact p
theorem pcs_asc {s : Nat → LN} {n : Nat} (h : Srt s n) : (pcs s n).Pairwise (· < ·) := by
  induction n with
  | zero => exact List.Pairwise.nil
  | succ n ih =>
    rw [pcs_succ]
    refine List.pairwise_append.mpr ⟨ih (h.less (Nat.le_succ n)), ?_, fun x hx y hy => ?_⟩
    · unfold grp
      refine List.pairwise_map.mpr (List.Pairwise.imp_of_mem (fun {a b} ha hb l => ?_) List.pairwise_lt_range)
      have ha := List.mem_range.mp ha
      have hb := List.mem_range.mp hb
      have e : (s n).take (ln s n + a + 1) = ((s n).take (ln s n + b + 1)).take (ln s n + a + 1) := by
        rw [List.take_take, Nat.min_eq_left (by omega)]
      refine pre_lt (by rw [e]; exact List.take_prefix _ _) fun z => ?_
      have := congrArg List.length z
      rw [List.length_take, List.length_take] at this
      omega
    · obtain ⟨p, l⟩ := grp_mem.mp hy
      cases n with
      | zero => exact absurd hx (by simp [pcs])
      | succ n =>
        have q := pcs_le (h.less (Nat.le_succ _)) hx
        have l2 : lcp (s n) (s (n + 1)) < y.length := l
        have := lcp_lt (h n (n + 1) (by omega) (by omega)) l2 p.length_le
        rw [← List.prefix_iff_eq_take.mp p] at this
        exact llt q this
theorem pcs_mem {s : Nat → LN} {n : Nat} {x : LN} : x ∈ pcs s n ↔ x ≠ [] ∧ ∃ i, i < n ∧ x <+: s i := by
  constructor
  · intro h
    obtain ⟨i, hi, hm⟩ := List.mem_flatMap.mp h
    obtain ⟨p, l⟩ := grp_mem.mp hm
    exact ⟨fun e => by rw [e] at l; exact absurd l (by simp), i, List.mem_range.mp hi, p⟩
  · rintro ⟨ne, i, hi, p⟩
    induction i with
    | zero =>
      refine List.mem_flatMap.mpr ⟨0, List.mem_range.mpr hi, grp_mem.mpr ⟨p, ?_⟩⟩
      have : ln s 0 = 0 := rfl
      rw [this]
      exact List.length_pos_iff.mpr ne
    | succ i ih =>
      by_cases l : ln s (i + 1) < x.length
      · exact List.mem_flatMap.mpr ⟨i + 1, List.mem_range.mpr hi, grp_mem.mpr ⟨p, l⟩⟩
      · have l2 : x.length ≤ lcp (s i) (s (i + 1)) := Nat.le_of_not_lt l
        have q := lcp_le (s i) (s (i + 1))
        have e := (lcp_take (s i) (s (i + 1)) (m := x.length) (by omega) (by omega)).mpr l2
        refine ih (by omega) ?_
        rw [List.prefix_iff_eq_take.mp p]
        have : ((s (i + 1)).take x.length).length = x.length := by rw [List.length_take]; omega
        rw [← e]
        exact List.take_prefix _ _
theorem pcs_pre (s : Nat → LN) {m n : Nat} (h : m ≤ n) : pcs s m <+: pcs s n := by
  induction n with
  | zero =>
    rw [show m = 0 by omega]
    exact List.prefix_rfl
  | succ n ih =>
    rcases Nat.lt_or_ge m (n + 1) with l | l
    · rw [pcs_succ]
      exact (ih (by omega)).trans (List.prefix_append _ _)
    · rw [show m = n + 1 by omega]
      exact List.prefix_rfl
theorem pcs_at (s : Nat → LN) {n i k : Nat} (h : i < n) (l : k < (s i).length - ln s i) : (pcs s n)[(pcs s i).length + k]? = some ((s i).take (ln s i + k + 1)) := by
  obtain ⟨t, ht⟩ := pcs_pre s (show i + 1 ≤ n from h)
  rw [← ht, pcs_succ, List.append_assoc, List.getElem?_append_right (Nat.le_add_right _ _), Nat.add_sub_cancel_left]
  have lg : (grp s i).length = (s i).length - ln s i := by unfold grp; rw [List.length_map, List.length_range]
  rw [List.getElem?_append_left (by rw [lg]; exact l)]
  unfold grp
  rw [List.getElem?_map, List.getElem?_range l]
  rfl
theorem pcs_len (s : Nat → LN) (n : Nat) : (pcs s (n + 1)).length = (pcs s n).length + ((s n).length - ln s n) := by
  rw [pcs_succ, List.length_append]
  unfold grp
  rw [List.length_map, List.length_range]
/-- how many are less than w -/
def cntLt (s : Nat → LN) (w : LN) (n : Nat) : Nat := ((List.range n).filter fun i => decide (s i < w)).length
theorem cnt_down {s : Nat → LN} {n : Nat} (h : Srt s n) (w : LN) : cntLt s w n ≤ n ∧ ∀ i, i < n → (s i < w ↔ i < cntLt s w n) := by
  induction n with
  | zero => exact ⟨Nat.le_refl _, fun i h => absurd h (by omega)⟩
  | succ n ih =>
    obtain ⟨l, q⟩ := ih (h.less (Nat.le_succ n))
    have e : cntLt s w (n + 1) = cntLt s w n + (if s n < w then 1 else 0) := by
      unfold cntLt
      rw [List.range_succ, List.filter_append, List.length_append]
      congr 1
      by_cases z : s n < w <;> simp [z]
    by_cases z : s n < w
    · rw [if_pos z] at e
      have all : cntLt s w n = n := by
        rcases Nat.lt_or_ge (cntLt s w n) n with g | g
        · have : ¬ s (cntLt s w n) < w := fun z => Nat.lt_irrefl _ ((q _ g).mp z)
          exact absurd (llt (h _ n g (by omega)) z) this
        · omega
      refine ⟨by omega, fun i hi => ?_⟩
      rcases Nat.lt_or_ge i n with g | g
      · exact ⟨fun _ => by omega, fun _ => (q i g).mpr (by omega)⟩
      · rw [show i = n by omega]
        exact ⟨fun _ => by omega, fun _ => z⟩
    · rw [if_neg z] at e
      refine ⟨by omega, fun i hi => ?_⟩
      rcases Nat.lt_or_ge i n with g | g
      · rw [e]; exact q i g
      · rw [show i = n by omega]
        exact ⟨fun y => absurd y z, fun y => by omega⟩
/-- the number of a piece -/
theorem pcs_no {s : Nat → LN} {n : Nat} (h : Srt s n) {w : LN} (ne : w ≠ []) {i : Nat} (hi : i < n) (p : w <+: s i) :
    cntLt s w n < n ∧ ln s (cntLt s w n) < w.length ∧ w.length ≤ (s (cntLt s w n)).length ∧ (pcs s n)[(pcs s (cntLt s w n)).length + (w.length - ln s (cntLt s w n) - 1)]? = some w := by
  obtain ⟨l, q⟩ := cnt_down h w
  have ni : ¬ i < cntLt s w n := fun z => pre_le p ((q i hi).mpr z)
  have lt : cntLt s w n < n := by omega
  have nf : ¬ s (cntLt s w n) < w := fun z => Nat.lt_irrefl _ ((q _ lt).mp z)
  have pf : w <+: s (cntLt s w n) := by
    rcases Nat.lt_or_ge (cntLt s w n) i with g | g
    · exact between nf (h _ _ g hi) p
    · rw [show cntLt s w n = i by omega]; exact p
  have lnf : ln s (cntLt s w n) < w.length := by
    rcases Nat.eq_zero_or_pos (cntLt s w n) with z | z
    · rw [z]; exact List.length_pos_iff.mpr ne
    · refine Nat.lt_of_not_le fun c => ?_
      have e : ln s (cntLt s w n) = lcp (s (cntLt s w n - 1)) (s (cntLt s w n)) := by
        unfold ln
        rw [if_neg (by omega)]
      rw [e] at c
      have ll := lcp_le (s (cntLt s w n - 1)) (s (cntLt s w n))
      have tk := (lcp_take (s (cntLt s w n - 1)) (s (cntLt s w n)) (m := w.length) (by omega) (by omega)).mpr c
      have pw : w <+: s (cntLt s w n - 1) := by
        have tp : (s (cntLt s w n - 1)).take w.length <+: s (cntLt s w n - 1) := List.take_prefix _ _
        rw [tk, ← List.prefix_iff_eq_take.mp pf] at tp
        exact tp
      exact pre_le pw ((q _ (by omega)).mpr (by omega))
  refine ⟨lt, lnf, pf.length_le, ?_⟩
  have := pf.length_le
  rw [pcs_at s lt (by omega)]
  rw [show ln s (cntLt s w n) + (w.length - ln s (cntLt s w n) - 1) + 1 = w.length by omega]
  exact congrArg some (List.prefix_iff_eq_take.mp pf).symm
end LawK
set_option maxHeartbeats 4000000
namespace Ev
open PySem PySem.Spec PyProof.Rows L2
/-! sets of keys of one kind whose table can be walked -/
section
variable {P : Program} {w : World} {K : Type} [DecidableEq K]
/-- no two of them are one key -/
def Apart (κ : KeyKind P w K) (l : List (Int × Value)) : Prop := l.Pairwise fun e f => ∀ k, κ.is k e.2 = true → κ.is k f.2 = true → False
/-- the set at a, S its members, n their number; its table rises and can be walked -/
def SetG (κ : KeyKind P w K) (h : Heap) (a : Addr) (S : K → Bool) (n : Nat) : Prop :=
  ∃ o es ep t, h.get? a = some o ∧ (o.ExactSet ∧ o.data = .set es ep t) ∧ (ElemsOf κ es.toList ∧ Apart κ es.toList) ∧ (∀ k, S k = true ↔ ∃ e ∈ es.toList, κ.is k e.2 = true) ∧ (es.size < scanBound ∧ t.fits es.size = true ∧ es.size = n) ∧ (Ris t.place.toList ∧ (w.params.followText "set-order" = true ∨ t.led = true))
variable {κ : KeyKind P w K} {h h' : Heap} {a : Addr} {S : K → Bool} {n : Nat}
theorem SetG.keep (R : SetG κ h a S n) (k : ∀ o, h.get? a = some o → h'.get? a = some o) : SetG κ h' a S n := let ⟨o, es, ep, t, ho, r⟩ := R; ⟨o, es, ep, t, k o ho, r⟩
theorem SetG.of (R : SetG κ h a S n) : h.SetOf κ a S n := let ⟨o, es, ep, t, ho, x, g, m, b, _⟩ := R; ⟨o, es, ep, t, ho, x.1, x.2, g.1, m, b⟩
theorem Apart.perm {l m : List (Int × Value)} (p : l.Perm m) (x : Apart κ l) : Apart κ m := List.Perm.pairwise p x fun {e f} q k h1 h2 => q k h2 h1
variable {A : Around} {E : Value → Shared → Prop} {s : Shared}
theorem setG_tail {g : Bool → Sem Unit} (gg : ∀ (b : Bool) (z : Shared) (W : Unit → Shared → Prop), W () z → wpAny (model P w) A (g b) W E z)
    {o : Obj} {es fs : Array (Int × Value)} {ep : Nat} {t u : SetTable} (ho : s.heap.get? a = some o) (xs : o.ExactSet) (hd : o.data = .set es ep t) (g1 : ElemsOf κ fs.toList) (n1 : Apart κ fs.toList) (m1 : ∀ k, S k = true ↔ ∃ e ∈ fs.toList, κ.is k e.2 = true)
    (b1 : fs.size < scanBound) (f1 : u.fits fs.size = true) (r1 : Ris u.place.toList) (l1 : w.params.followText "set-order" = true ∨ u.led = true) {wd : Bool} {R : Option Bool → Shared → Prop}
    (fin : ∀ z, Heap.SameBut a s.heap z → SetG κ z a S fs.size → R (some true) { s with heap := z }) :
    wpAny (model P w) A (storeSet a fs u >>= fun _ => if (!wd && u.tooFull) = true then (g (relayAll u fs (SetTable.grown fs.size)).2.2 >>= fun _ => storeSet a (relayAll u fs (SetTable.grown fs.size)).1 (relayAll u fs (SetTable.grown fs.size)).2.1 >>= fun _ => pure (some true)) else pure (some true)) R E s := by
  have put : ∀ {z : Heap} {o : Obj} {es : Array (Int × Value)} {ep : Nat} {t : SetTable} (fs : Array (Int × Value)) (u : SetTable), z.get? a = some o → o.data = .set es ep t → (z.update a (Obj.putSet fs u)).get? a = some { o with data := .set fs (ep + 1) u } := fun {z o es ep t} fs u e d => by
    have q := Heap.get?_update_self (Obj.putSet fs u) e (by rw [putSet_of fs u d] <;> rfl); rw [putSet_of fs u d] at q; exact q
  refine wpAny_bind (wpAny_storeSet_of ho hd ?_ (fits_of_scanBound b1))
  have o1 := put fs u ho hd
  have s1 := Heap.SameBut.update s.heap a (Obj.putSet fs u)
  split
  · have p2 := relayAll_perm u fs (SetTable.grown fs.size); have f2 := relayAll_fits u fs (SetTable.grown fs.size)
    have r2 := relayAll_ris u fs (SetTable.grown fs.size); have l2 := relayAll_led u fs (SetTable.grown fs.size)
    revert p2 f2 r2 l2
    generalize relayAll u fs (SetTable.grown fs.size) = Z
    obtain ⟨gs, v, gv⟩ := Z
    intro p2 f2 r2 l2; dsimp only at p2 f2 r2 l2 ⊢
    have sz : gs.size = fs.size := by have := p2.length_eq; rw [Array.length_toList, Array.length_toList] at this; exact this
    refine wpAny_bind (gg _ _ _ (wpAny_bind (wpAny_storeSet_of o1 rfl ?_ (fits_of_scanBound (by rw [sz] <;> exact b1)))))
    refine wpAny_pure (fin _ (s1.trans (Heap.SameBut.update _ a _)) ⟨_, gs, _, v, put gs v o1 rfl, ⟨xs, rfl⟩, ⟨fun e q => g1 e (p2.mem_iff.mp q), Apart.perm p2.symm n1⟩, fun k => (m1 k).trans ⟨fun ⟨e, q, z⟩ => ⟨e, p2.mem_iff.mpr q, z⟩, fun ⟨e, q, z⟩ => ⟨e, p2.mem_iff.mp q, z⟩⟩, ⟨by rw [sz] <;> exact b1, f2, sz⟩, r2, l1.imp id fun z => l2.trans z⟩)
  · exact wpAny_pure (fin _ s1 ⟨_, fs, _, u, o1, ⟨xs, rfl⟩, ⟨g1, n1⟩, m1, ⟨b1, f1, rfl⟩, r1, l1⟩)
theorem setG_hashed {k : K} {v : Value} {Q : Bool → Shared → Prop} (hv : κ.is k v = true) (sc : v.scannable = true) (R : SetG κ s.heap a S n) (room : n + 1 < scanBound)
    (q : ∀ z, Heap.SameBut a s.heap z → SetG κ z a (fun j => S j || decide (j = k)) (if S k = true then n else n + 1) → Q (!S k) { s with heap := z }) :
    wpAny (model P w) A (setAddHashed a v (κ.hash k)) Q E s := by
  obtain ⟨o, es, ep, t, ho, ⟨xs, hd⟩, ⟨hel, nd⟩, hm, ⟨hb, hf, hn⟩, hr, hl⟩ := R
  unfold setAddHashed; unfold setAddHashedIn
  refine wpAny_holding (wpAny_bind (wpAny_setState_of ho hd hf ?_)); dsimp only
  rw [byScan_of sc hb hel]; simp only [↓reduceIte]
  unfold setAddByScan
  refine wpAny_bind (wpAny_bind (wpAny_rule (wpAny_bind (wpAny_setScan_of hv ho hd hf hel ?_))))
  cases hfi : List.findIdx? (fun e => κ.is k e.2) es.toList with
  | some j =>
    dsimp only
    obtain ⟨hj, pj, _⟩ := List.findIdx?_eq_some_iff_getElem.mp hfi
    have hk : S k = true := (hm k).mpr ⟨es.toList[j], List.getElem_mem hj, pj⟩
    have q1 := q s.heap (Heap.SameBut.refl a s.heap) ⟨o, es, ep, t, ho, ⟨xs, hd⟩, ⟨hel, nd⟩, fun i => by
      rw [Bool.or_eq_true, decide_eq_true_eq, ← hm i]; exact ⟨fun z => z.elim id fun e => by rw [e] <;> exact hk, .inl⟩, ⟨hb, hf, by rw [if_pos hk] <;> exact hn⟩, hr, hl⟩
    rw [hk] at q1; exact wpAny_pure (wpAny_pure q1)
  | none =>
    dsimp only
    have nk : ∀ e ∈ es.toList, κ.is k e.2 = true → False := fun e he z => by
      have c := List.findIdx?_eq_none_iff.mp hfi e he; rw [z] at c; cases c
    have hk : S k = false := Bool.eq_false_iff.mpr fun z => let ⟨e, he, y⟩ := (hm k).mp z; nk e he y
    have gw : ∀ (b : Bool) {z : Shared} {W : Unit → Shared → Prop}, W () z → wpAny (model P w) A (match b with | true => rule "set.scan.the-table-gave-way" | false => pure ()) W E z := fun b {z W} y => by cases b <;> first | exact wpAny_pure y | exact wpAny_rule y
    have pm := layNew_perm t es (κ.hash k) v; have f1 := layNew_fits t es (κ.hash k) v
    have r1 := layNew_ris t es (κ.hash k) v hr; have l1 := layNew_led t es (κ.hash k) v
    revert pm f1 r1 l1
    generalize layNew t es (κ.hash k) v = Z
    obtain ⟨fs, u, wd, gv⟩ := Z
    intro pm f1 r1 l1; dsimp only at pm f1 r1 l1 ⊢
    rw [Array.toList_push] at pm
    have pc : fs.toList.Perm ((κ.hash k, v) :: es.toList) := pm.trans (List.perm_append_singleton _ _)
    have g1 : ElemsOf κ fs.toList := fun e he => by
      rcases List.mem_cons.mp (pc.mem_iff.mp he) with z | z
      · rw [z]; exact ⟨⟨k, hv, rfl⟩, sc⟩
      · exact hel e z
    have n1 : Apart κ fs.toList := Apart.perm pc.symm (List.pairwise_cons.mpr ⟨fun e he j x y => nk e he (by rw [← κ.inj v j k x hv] <;> exact y), nd⟩)
    have m1 : ∀ i, (S i || decide (i = k)) = true ↔ ∃ e ∈ fs.toList, κ.is i e.2 = true := fun i => by
      rw [Bool.or_eq_true, decide_eq_true_eq, hm i]
      constructor
      · rintro (⟨e, he, y⟩ | y)
        · exact ⟨e, pc.mem_iff.mpr (List.mem_cons_of_mem _ he), y⟩
        · exact ⟨_, pc.mem_iff.mpr List.mem_cons_self, by rw [y] <;> exact hv⟩
      · rintro ⟨e, he, y⟩
        rcases List.mem_cons.mp (pc.mem_iff.mp he) with z | z
        · rw [z] at y; exact .inr (κ.inj v i k y hv)
        · exact .inl ⟨e, z, y⟩
    have sz : fs.size = n + 1 := by have := pc.length_eq; rw [Array.length_toList, List.length_cons, Array.length_toList, hn] at this; exact this
    have b1 : fs.size < scanBound := by rw [sz] <;> exact room
    have ld : w.params.followText "set-order" = true ∨ u.led = true := hl.imp id fun z => l1.trans z
    have fin : ∀ z, Heap.SameBut a s.heap z → SetG κ z a (fun j => S j || decide (j = k)) fs.size → Q true { s with heap := z } := fun z sb r => by
      have q1 := q z sb; rw [hk] at q1; rw [sz] at r; exact q1 r
    have last : ∀ {u' : SetTable} {R : Option Bool → Shared → Prop} {g : Bool → Sem Unit}, (∀ (b : Bool) (z : Shared) (W : Unit → Shared → Prop), W () z → wpAny (model P w) A (g b) W E z) → u'.fits fs.size = true → Ris u'.place.toList → (w.params.followText "set-order" = true ∨ u'.led = true) → (∀ z, Heap.SameBut a s.heap z → SetG κ z a (fun j => S j || decide (j = k)) fs.size → R (some true) { s with heap := z }) → _ := fun {u' R g} gg a1 a2 a3 a4 => setG_tail (κ := κ) (wd := wd) (A := A) (E := E) (s := s) (R := R) gg ho xs hd g1 n1 m1 b1 a1 a2 a3 a4
    refine wpAny_bind (gw _ ?_)
    split
    · rw [hashByValue_scannable 8 sc]
      refine wpAny_bind (wpAny_pure (last ?_ ?_ ?_ ?_ ?_))
      · intro b z W y; cases b <;> first | exact wpAny_pure y | exact wpAny_rule y
      · first | (split <;> first | exact f1 | exact SetTable.fits_plain_off f1) | exact f1
      · first | (split <;> exact r1) | exact r1
      · first | (split <;> exact ld) | exact ld
      · intro z sb r; dsimp only; exact wpAny_pure (fin z sb r)
    · refine wpAny_bind (wpAny_pure ?_); simp only [↓reduceIte]
      refine last ?_ f1 r1 ld ?_
      · intro b z W y; cases b <;> first | exact wpAny_pure y | exact wpAny_rule y
      · intro z sb r; dsimp only; exact wpAny_pure (fin z sb r)
end
end Ev
set_option maxHeartbeats 4000000
namespace Ev
open PySem PySem.Spec PyProof.Rows L2
/-- one turn of a block's loop: the next thing, its store, the tests, then the body -/
def oneTurn (c : Code) (ip : Pos) (tg : Expr) (ifs : List Expr) (it : Value) (env : Env) (body : Sem PySem.Fin) : Sem PySem.Fin := standAt ip >>= fun _ => pyNext it >>= fun r => match r with
  | none => pure (.done .next)
  | some v => letOwnedTupleGo tg it v >>= fun _ => assign tg env v >>= fun _ => (forIn ifs true fun c r => if r = true then (do let ok ← isTrue c env (eval c env); pure (ForInStep.yield ok)) else pure (ForInStep.yield r)) >>= fun ok => if ok = true then body else again c
theorem turn_set1 (elt tg iter : Expr) (ifs : List Expr) (scope : Scope) (pos : Pos) (it acc : Value) (env : Env) :
    compTurn (.SetComp elt [⟨tg, iter, ifs, 0⟩] scope pos) 0 it acc env = oneTurn (.compLoop (.SetComp elt [⟨tg, iter, ifs, 0⟩] scope pos) 0 it acc env) iter.pos tg ifs it env ((eval elt env >>= fun v => standAt elt.pos >>= fun _ => call (.builtin "set.add") [acc, v] >>= fun _ => pure ()) >>= fun _ => again (.compLoop (.SetComp elt [⟨tg, iter, ifs, 0⟩] scope pos) 0 it acc env)) := by
  unfold oneTurn
  rfl
theorem turn_set2i (elt t0 i0 t1 i1 : Expr) (ifs0 ifs1 : List Expr) (scope : Scope) (pos : Pos) (it acc : Value) (env : Env) :
    compTurn (.SetComp elt [⟨t0, i0, ifs0, 0⟩, ⟨t1, i1, ifs1, 0⟩] scope pos) 1 it acc env = oneTurn (.compLoop (.SetComp elt [⟨t0, i0, ifs0, 0⟩, ⟨t1, i1, ifs1, 0⟩] scope pos) 1 it acc env) i1.pos t1 ifs1 it env ((eval elt env >>= fun v => standAt elt.pos >>= fun _ => call (.builtin "set.add") [acc, v] >>= fun _ => pure ()) >>= fun _ => again (.compLoop (.SetComp elt [⟨t0, i0, ifs0, 0⟩, ⟨t1, i1, ifs1, 0⟩] scope pos) 1 it acc env)) := by
  unfold oneTurn
  rfl
theorem turn_set2o (elt t0 i0 t1 i1 : Expr) (ifs0 ifs1 : List Expr) (scope : Scope) (pos : Pos) (it acc : Value) (env : Env) :
    compTurn (.SetComp elt [⟨t0, i0, ifs0, 0⟩, ⟨t1, i1, ifs1, 0⟩] scope pos) 0 it acc env = oneTurn (.compLoop (.SetComp elt [⟨t0, i0, ifs0, 0⟩, ⟨t1, i1, ifs1, 0⟩] scope pos) 0 it acc env) i0.pos t0 ifs0 it env
      (eval i1 env >>= fun x => standAt i1.pos >>= fun _ => foldedSetIterable i1 env x >>= fun x => holding [x] (pyIter x) >>= fun j => runOwn (.compStart (.SetComp elt [⟨t0, i0, ifs0, 0⟩, ⟨t1, i1, ifs1, 0⟩] scope pos) 1 j acc env) env >>= fun _ => again (.compLoop (.SetComp elt [⟨t0, i0, ifs0, 0⟩, ⟨t1, i1, ifs1, 0⟩] scope pos) 0 it acc env)) := by
  unfold oneTurn
  rfl
section
variable {Y : Cx} {e : Expr} {ci : Nat} {it : Addr} {acc : Value} {ip : Pos} {tg : Expr} {ifs : List Expr} {body : Sem PySem.Fin} {J : It} {fp : List Addr} {tn : Nat → Heap → Prop} {R : Result → Shared → Prop} {pins : List (Addr × Obj)} {σ : L2.St} {vs : List Nat} {g : TG} {tt : TT}
/-- what a body says of the slots: those that were wiped may be anything -/
def Slots (σ τ : L2.St) (vs : List Nat) : Prop := τ.length = σ.length ∧ ∀ (j : Nat) v, (wipe σ vs)[j]? = some (some v) → τ[j]? = some (some v)
/-- a block's loop over what is walked: W at each turn, and the body's own word B -/
theorem loop_any (B : L2.St → Hp → (Hp → Prop) → Prop) (hden : (model Y.prog Y.w).den (.compLoop e ci (.ref it) acc Y.env) = (oneTurn (.compLoop e ci (.ref it) acc Y.env) ip tg ifs (.ref it) Y.env body).onRaise (fun x => do noteFrame x Y.env; theTreesLotGoes x))
    (hu : Y.A.under (.compLoop e ci (.ref it) acc Y.env) = Y.A) (hq : (Code.compLoop e ci (.ref it) acc Y.env).quiet = true) (hc : Y.calm = true) (T : Turn Y.prog Y.w Y.K tg J fp it tn) (pg : PG Y tg g) (pt : PTs Y ifs tt) (hA : ∀ x s, ¬ Y.xe x s)
    (hb : ∀ (pins' : List (Addr × Obj)) s τ H (N : Hp → Prop), (∀ p ∈ pins, p ∈ pins') → Inv Y pins' τ H s → B τ H N → wpAny (model Y.prog Y.w) Y.A body (fun r s' => r = .again (.compLoop e ci (.ref it) acc Y.env) ∧ ∃ τ' H', Inv Y pins' τ' H' s' ∧ Slots τ τ' vs ∧ N H') Y.xe s)
    (fok : ∀ {H : Hp}, (∀ b ∈ fp, H b = none) → ∀ b ∈ fp, FpOk Y pins H b) (W : Nat → Nat → Hp → Prop) (F : Hp → Prop)
    (turn : ∀ i m H, W i m H → (J.stop i H ∧ F H) ∨ (J.go i H ∧ ∃ N : Hp → Prop, (∀ H', N H' → ∃ m', m' < m ∧ W (i + 1) m' H') ∧ ∀ x H', J.yld i H x H' → g x (wipe σ vs) H' fun σ2 H2 => wipe σ2 vs = wipe σ vs ∧ tt σ2 H2 fun b H3 => if b = true then B σ2 H3 N else N H3))
    (fin : ∀ s' H', Inv Y pins (wipe σ vs) H' s' → F H' → R (.ok .next) s') (m0 : Nat) (s : Shared) (H : Hp) (w0 : W 0 m0 H) (I : Inv Y pins (wipe σ vs) H s) (t0 : tn 0 s.heap) (n0 : ∀ b ∈ fp, H b = none) :
    codeAny (model Y.prog Y.w) Y.A (.compLoop e ci (.ref it) acc Y.env) R s := by
  have th : ∀ {α : Type} {t : Sem α} {Q Q' : α → Shared → Prop} {E : Value → Shared → Prop} {s : Shared}, wpAny (model Y.prog Y.w) Y.A t Q Y.xe s → (∀ a s, Q a s → Q' a s) → wpAny (model Y.prog Y.w) Y.A t Q' E s := fun h q => wpAny_mono h q fun x s z => (hA x s z).elim
  refine codeAny_loop hq (fun m s' => ∃ i H', W i m H' ∧ Inv Y pins (wipe σ vs) H' s' ∧ tn i s'.heap ∧ ∀ b ∈ fp, H' b = none) (fun m s1 hI => ?_) m0 ⟨0, H, w0, I, t0, n0⟩
  obtain ⟨i, H1, w1, I1, t1, n1⟩ := hI
  rw [hden, hu]
  refine wpAny_noted ?_
  unfold oneTurn
  refine wpAny_bind (wpAny_standAt (wpAny_bind ?_))
  rcases turn i m H1 w1 with ⟨stop, f1⟩ | ⟨go, N, hN, step⟩
  · refine thnF (T.done Y rfl rfl rfl hc i pins s1 _ H1 (fun _ _ => False) I1 (fok n1) t1 stop) fun r s2 ⟨er, I2⟩ => ?_
    subst er
    exact wpAny_pure (fin s2 H1 I2 f1)
  · refine thnF (T.item Y rfl rfl rfl hc i pins s1 _ H1 (fun _ _ => False) I1 (fok n1) t1 go) fun r s2 ⟨u, er, h2⟩ => ?_
    subst er
    refine wpAny_bind (thnF h2 fun _ s3 ⟨x, H3, I3, r3, y3, t3, n3⟩ => wpAny_bind ?_)
    have J3 := I3.pinned (fok n3) (T.obj _ _ t3)
    refine th (pg.run _ s3 _ H3 x u _ J3 r3 (step x H3 y3)) fun _ s4 ⟨τ, H4, I4, e4, q4⟩ => wpAny_bind ?_
    refine th (pt.run _ s4 τ H4 _ I4 q4) fun b s5 ⟨H5, I5, q5⟩ => ?_
    have back : ∀ {τ' : L2.St} {s' : Shared} {H' : Hp}, Inv Y (pins ++ pinsAt fp s3.heap) τ' H' s' → Slots τ τ' vs → N H' → ∃ m', m' < m ∧ ∃ i H', W i m' H' ∧ Inv Y pins (wipe σ vs) H' s' ∧ tn i s'.heap ∧ ∀ b ∈ fp, H' b = none := fun {τ' s' H'} I' sl nx => by
      obtain ⟨m', lm, w'⟩ := hN H' nx
      have pin : ∀ b ∈ fp, ∀ o, s3.heap.get? b = some o → s'.heap.get? b = some o ∧ H' b = none := fun b hb o eo => let z := I'.pin (b, o) (List.mem_append_right _ (List.mem_append_right _ (mem_pinsAt hb eo))); ⟨z.1, z.2.1⟩
      refine ⟨m', lm, i + 1, H', w', I'.unpinned.weak ?_ (fun j v ev => sl.2 j v (by rw [e4] <;> exact ev)), T.keep _ _ _ t3 fun b hb o eo => (pin b hb o eo).1, fun b hb => ?_⟩
      · rw [sl.1, ← wipe_length τ vs, e4] <;> rfl
      · obtain ⟨o, eo, _⟩ := T.obj _ _ t3 b hb
        exact (pin b hb o eo).2
    cases b with
    | false =>
      simp only [Bool.false_eq_true, if_false] at q5 ⊢
      exact wpAny_pure ⟨rfl, back I5 ⟨rfl, fun j v ev => (wipe_some ev).1⟩ q5⟩
    | true =>
      simp only [if_true] at q5 ⊢
      exact th (hb _ s5 τ H5 N (fun p hp => List.mem_append_left _ hp) I5 q5) fun r s6 ⟨er, τ', H6, I6, sl, q6⟩ => by subst er; exact ⟨rfl, back I6 sl q6⟩
end
end Ev
set_option maxHeartbeats 4000000
namespace Ev
open PySem PySem.Spec PyProof.Rows L2
theorem setG_add {P : Program} {w : World} {K : Type} [DecidableEq K] {κ : KeyKind P w K} {A : Around} {E : Value → Shared → Prop} {s : Shared} {a : Addr} {S : K → Bool} {n : Nat} {k : K} {v : Value} {Q : Value → Shared → Prop} (hv : κ.is k v = true) (sc : v.scannable = true) (R : SetG κ s.heap a S n) (room : n + 1 < scanBound)
    (q : ∀ z, Heap.SameBut a s.heap z → SetG κ z a (fun j => S j || decide (j = k)) (if S k = true then n else n + 1) → Q .none { s with heap := z, toks := s.toks + 1 }) : wpAny (model P w) A (call (.builtin "set.add") [.ref a, v]) Q E s := by
  refine wpAny_call_entry F.slot_set_add R.of.typeIs F.entry_set_add ?_ (F.args_set_add_2 _ _)
  unfold Builtin.«set.add»; unfold Builtin.Frozenset.oneOther
  simp only [List.isEmpty_nil, bind_assoc]; unfold Builtin.Frozenset.addrOf; unfold setAdd
  refine wpAny_bind (wpAny_pure ?_); try dsimp only
  refine wpAny_bind (wpAny_pure ?_); try dsimp only
  refine wpAny_bind (wpAny_holding (wpAny_bind (κ.pyHash hv (setG_hashed (s := { s with toks := s.toks + 1 }) hv sc R room fun z sb r => ?_))))
  show wpAny _ _ (ret Value.none) _ _ _; exact wpAny_pure ⟨_, rfl, q z sb r⟩
/-- the set of keys at a, that can be walked -/
def SetX (P : Program) (w : World) (a : Addr) (S : Key → Bool) (n : Nat) : HO := .ext fun h => SetG (mixKind P w) h a S n
theorem setX_new {P : Program} {w : World} {H : Hp} {h : Heap} {a : Addr} {S : Key → Bool} {n : Nat} (R : SetG (mixKind P w) h a S n) : ObjOk P w H h a (SetX P w a S n) := by
  have ⟨o, _, _, _, ho, _⟩ := R
  exact ⟨R, ⟨o, ho⟩, fun h1 h2 p k => SetG.keep p k⟩
/-- the set with one more -/
def put1 (P : Program) (w : World) (D : Addr) (S : Key → Bool) (n : Nat) (k : Key) : HO := SetX P w D (fun j => S j || decide (j = k)) (if S k = true then n else n + 1)
section
variable {X : Cx} {pins : List (Addr × Obj)} {σ : L2.St} {H : Hp} {s : Shared}
theorem setX_get {a : Addr} {S : Key → Bool} {n : Nat} (I : Inv X pins σ H s) (ha : H a = some (SetX X.prog X.w a S n)) : SetG (mixKind X.prog X.w) s.heap a S n := (I.hok a _ ha).1
/-- set.add of a key -/
theorem addX_ok {E : Value → Shared → Prop} {D : Addr} {S : Key → Bool} {n : Nat} {k : Key} {v : Value} {Q : Value → Shared → Prop} (I : Inv X pins σ H s) (r : RelV (kV k) v) (hD : H D = some (SetX X.prog X.w D S n)) (room : n + 1 < scanBound)
    (h : ∀ s', Inv X pins σ (upd H D (put1 X.prog X.w D S n k)) s' → Q .none s') : wpAny (model X.prog X.w) X.A (call (.builtin "set.add") [.ref D, v]) Q E s := by
  refine setG_add (kV_is r) (key_scan r) (setX_get I hD) room fun z sb new => ?_
  have ⟨o, _, _, _, ho, _⟩ := new
  exact h _ (I.write (e := D) (t' := s.toks + 1) (by rw [hD] <;> trivial) (.inl rfl) (fun b u hb hu => (sb.2 b hb).trans hu) ⟨o, ho⟩ (setX_new new))
end
/-- what a body asks that puts one key more into D -/
def bAdd (P : Program) (w : World) (D : Addr) (te : TE) : L2.St → Hp → (Hp → Prop) → Prop := fun τ H N => te τ H fun y H4 => ∃ (k : Key) (S : Key → Bool) (n : Nat), y = kV k ∧ H4 D = some (SetX P w D S n) ∧ n + 1 < scanBound ∧ N (upd H4 D (put1 P w D S n k))
theorem body_add {Y : Cx} {elt : Expr} {te : TE} {c : Code} {D : Addr} {vs : List Nat} (pe : PE Y elt te) (pins' : List (Addr × Obj)) (s : Shared) (τ : L2.St) (H : Hp) (N : Hp → Prop) (I : Inv Y pins' τ H s) (h : bAdd Y.prog Y.w D te τ H N) :
    wpAny (model Y.prog Y.w) Y.A ((eval elt Y.env >>= fun v => standAt elt.pos >>= fun _ => call (.builtin "set.add") [.ref D, v] >>= fun _ => pure ()) >>= fun _ => again c) (fun r s' => r = .again c ∧ ∃ τ' H', Inv Y pins' τ' H' s' ∧ Slots τ τ' vs ∧ N H') Y.xe s := by
  refine wpAny_bind (wpAny_bind (thn (pe.run pins' s τ H _ I h) fun v s1 ⟨y, H1, I1, r1, k, S, n, ey, hD, room, nx⟩ => wpAny_bind (wpAny_standAt (wpAny_bind ?_))))
  subst ey
  exact addX_ok I1 r1 hD room fun s2 I2 => wpAny_pure (wpAny_pure ⟨rfl, τ, _, I2, ⟨rfl, fun j v e => (wipe_some e).1⟩, nx⟩)
/-- over anything that is walked -/
theorem wk {J : It} {n : Nat} {G : Hp → Prop} {Y : Nat → Hp → V → Hp → Prop} (w : Walk J n G Y) {F : Hp → Prop} {H0 : Hp} {T : V → Hp → (Hp → Prop) → Prop} (Pv : Nat → Hp → Prop) (h0 : Pv 0 H0) (hG : ∀ i H, i ≤ n → Pv i H → G H)
    (hs : ∀ i x H H', i < n → Pv i H → Y i H x H' → T x H' (Pv (i + 1))) (hd : ∀ H, Pv n H → F H) :
    ∃ W : Nat → Nat → Hp → Prop, (∃ m, W 0 m H0) ∧ ∀ i m H, W i m H → (J.stop i H ∧ F H) ∨ (J.go i H ∧ ∃ N : Hp → Prop, (∀ H', N H' → ∃ m', m' < m ∧ W (i + 1) m' H') ∧ ∀ x H', J.yld i H x H' → T x H' N) := by
  refine ⟨fun i m H => i ≤ n ∧ m + i = n ∧ Pv i H, ⟨n, Nat.zero_le _, rfl, h0⟩, fun i m H ⟨hi, em, p⟩ => ?_⟩
  rcases Nat.lt_or_ge i n with hlt | hge
  · exact .inr ⟨w.goes i H hlt (hG i H hi p), Pv (i + 1), fun H' p' => ⟨m - 1, by omega, hlt, by omega, p'⟩, fun x H' y => hs i x H H' hlt p (w.yields i H x H' hlt (hG i H hi p) y)⟩
  · obtain rfl : i = n := Nat.le_antisymm hi hge
    exact .inl ⟨w.stops H (hG i H hi p), hd H p⟩
end Ev
set_option maxHeartbeats 4000000
namespace Ev
open PySem PySem.Spec PyProof.Rows L2
/-- an empty set, new at the heap's end -/
abbrev emptyS (w : World) : Obj := { cls := .type "set", dict := none, data := .set #[] 0 (.fresh 0 0 (!w.params.followText "set-order")) }
theorem setG_new {P : Program} {w : World} {K : Type} [DecidableEq K] {κ : KeyKind P w K} {h : Heap} : SetG κ (h.push (emptyS w)) h.objs.size (fun _ => false) 0 := by
  refine ⟨_, #[], 0, _, Heap.get?_push_size _ rfl, ⟨⟨rfl, rfl, rfl⟩, rfl⟩, ⟨fun e he => by simp at he, List.Pairwise.nil⟩, fun k => by simp, ⟨by decide, by rfl, rfl⟩, List.Pairwise.nil, ?_⟩
  show _ ∨ (!w.params.followText "set-order") = true
  cases w.params.followText "set-order" with
  | true => exact .inl rfl
  | false => exact .inr rfl
/-- {.. for tg in iter if ..}, B: what each turn's body asks, D the new set -/
def tScG (P : Program) (w : World) (wi : TI) (g : TG) (tt : TT) (B : Addr → L2.St → Hp → (Hp → Prop) → Prop) (vs : List Nat) : TE := fun σ H Q => wi σ H fun J H1 => ∀ D, H1 D = none → ∃ W : Nat → Nat → Hp → Prop, (∃ m, W 0 m (upd H1 D (SetX P w D (fun _ => false) 0))) ∧ ∀ i m H, W i m H → (J.stop i H ∧ Q (.ref D) H) ∨ (J.go i H ∧ ∃ N : Hp → Prop, (∀ H', N H' → ∃ m', m' < m ∧ W (i + 1) m' H') ∧ ∀ x H', J.yld i H x H' → g x (wipe σ vs) H' fun σ2 H2 => wipe σ2 vs = wipe σ vs ∧ tt σ2 H2 fun b H3 => if b = true then B D σ2 H3 N else N H3)
/-- what an inner clause asks -/
def bIn (P : Program) (w : World) (wi1 : TI) (g1 : TG) (tt1 : TT) (te : TE) (vs1 : List Nat) (D : Addr) : L2.St → Hp → (Hp → Prop) → Prop := fun τ H N => wi1 τ H fun J1 H4 => ∃ W1 : Nat → Nat → Hp → Prop, (∃ m, W1 0 m H4) ∧ ∀ j k H, W1 j k H → (J1.stop j H ∧ N H) ∨ (J1.go j H ∧ ∃ N1 : Hp → Prop, (∀ H', N1 H' → ∃ k', k' < k ∧ W1 (j + 1) k' H') ∧ ∀ x H', J1.yld j H x H' → g1 x (wipe τ vs1) H' fun σ3 H5 => wipe σ3 vs1 = wipe τ vs1 ∧ tt1 σ3 H5 fun b H6 => if b = true then bAdd P w D te σ3 H6 N1 else N1 H6)
/-- the block that a comprehension runs in -/
abbrev blkC (X : Cx) (s : Shared) (H : Hp) (scope : Scope) (fp : List Addr) : Cx := X.blk s H scope (compEnvC scope (cellsFrom (s.heap.objs.size + 1) scope.names (cloFrom X.env.cells scope.names [])) s.heap.objs.size X.env) fp
section
variable {X : Cx} {elt tg iter : Expr} {ifs : List Expr} {rest : List Comprehension} {scope : Scope} {own : List (Str × Nat)} {pos pos' : Pos} {wi : TI} {g : TG} {tt : TT} {B : Addr → L2.St → Hp → (Hp → Prop) → Prop}
theorem scG_core (bodyK : Addr → Addr → Env → Sem PySem.Fin) (hc : X.calm = true) (hN : X.N.Nodup) (hi : PI X tg iter wi) (ok : BlkOk X.N X.env.scope scope own)
    (hg : ∀ s H fp, PG (blkC X s H scope fp) tg g) (ht : ∀ s H fp, PTs (blkC X s H scope fp) ifs tt) (hs : ∀ x, foldedSetIterable iter X.env x = pure x)
    (hden : ∀ (it D : Addr) (env : Env), compTurn (.SetComp elt (⟨tg, iter, ifs, 0⟩ :: rest) scope pos) 0 (.ref it) (.ref D) env = oneTurn (.compLoop (.SetComp elt (⟨tg, iter, ifs, 0⟩ :: rest) scope pos) 0 (.ref it) (.ref D) env) iter.pos tg ifs (.ref it) env (bodyK it D env))
    (hb : ∀ (s0 : Shared) (H0 : Hp) (fp : List Addr) (it D : Addr) pins' s τ H (N : Hp → Prop), Inv (blkC X s0 H0 scope fp) pins' τ H s → B D τ H N →
      wpAny (model X.prog X.w) X.A (bodyK it D (blkC X s0 H0 scope fp).env) (fun r s' => r = .again (.compLoop (.SetComp elt (⟨tg, iter, ifs, 0⟩ :: rest) scope pos) 0 (.ref it) (.ref D) (blkC X s0 H0 scope fp).env) ∧ ∃ τ' H', Inv (blkC X s0 H0 scope fp) pins' τ' H' s' ∧ Slots τ τ' (own.map (·.2)) ∧ N H') (blkC X s0 H0 scope fp).xe s) :
    PE X (.SetComp elt (⟨tg, iter, ifs, 0⟩ :: rest) scope pos) (tScG X.prog X.w wi g tt B (own.map (·.2))) := by
  refine ⟨fun pins s σ H Q I h => ?_⟩
  show wpAny _ _ (comprehension (.SetComp elt (⟨tg, iter, ifs, 0⟩ :: rest) scope pos) scope X.env _ (newSet (.type "set")) false (eval iter X.env) none) _ _ _
  have free : ∀ y ∈ scope.names, y.2 = .free → ∃ c, X.env.cells.lookup y.1 = some c := fun y hy e => (ok.free y hy e).elim (fun k => I.ok.has _ (.inl k)) fun k => I.ok.has _ (.inr k)
  refine wpAny_comprehension_free (use := none) rfl hs (closure_ok free) ok.kind (fun y hy e => by rw [ok.uniq y hy, e]) (thn (hi.run pins s σ H _ I h) fun xv s1 hx => thn hx fun itv s2 ⟨it, fp, tn, J, H2, eit, I2, T, t2, f2, q⟩ => PpSet.newSet_ok (newEnv_comp ?_))
  subst eit
  have fresh : H2 s2.heap.objs.size = none := I2.hok.fresh (Nat.le_refl _)
  obtain ⟨W, ⟨m0, w0⟩, turn⟩ := q _ fresh
  have old : ∀ b ∈ fp, b < s2.heap.objs.size := fun b hb => let ⟨o, e, _⟩ := T.obj _ _ t2 b hb; Heap.lt_size e
  -- with the new set
  obtain ⟨D, eD⟩ : ∃ D, s2.heap.objs.size = D := ⟨_, rfl⟩
  obtain ⟨s3, e3⟩ : ∃ s3 : Shared, s3 = { s2 with heap := s2.heap.push (emptyS X.w) } := ⟨_, rfl⟩
  have h3 : s3.heap = s2.heap.push (emptyS X.w) := by rw [e3]
  obtain ⟨H3, eH⟩ : ∃ H3, H3 = upd H2 s2.heap.objs.size (SetX X.prog X.w s2.heap.objs.size (fun _ => false) 0) := ⟨_, rfl⟩
  have I3 : Inv X pins σ H3 s3 := by
    rw [eH, e3]
    exact I2.laid (t' := s2.toks) (fun b o e => Heap.get?_push_of_some _ e) (Nat.le_refl _) (setX_new setG_new)
  have f3 : ∀ b ∈ fp, FpOk X pins H3 b ∧ b < s3.heap.objs.size := fun b hb => by
    have lt := old b hb
    refine ⟨⟨?_, (f2 b hb).2⟩, by rw [h3, Heap.size_push] <;> exact Nat.lt_succ_of_lt lt⟩
    rw [eH, upd_ne (Nat.ne_of_lt lt)] <;> exact (f2 b hb).1
  have t3 : tn 0 s3.heap := T.keep _ _ _ t2 fun b _ o e => by rw [h3] <;> exact Heap.get?_push_of_some _ e
  rw [← eH] at w0
  rw [eD] at turn
  show codeAny _ _ (.compStart (.SetComp elt (⟨tg, iter, ifs, 0⟩ :: rest) scope pos) 0 (.ref it) (.ref s2.heap.objs.size) _) (compPost _ _ _ _ _ (.ref s2.heap.objs.size) _) _
  rw [eD]
  have I4 := block_start I3 ok hN f3
  have goal : codeAny (model X.prog X.w) X.A (.compStart (.SetComp elt (⟨tg, iter, ifs, 0⟩ :: rest) scope pos) 0 (.ref it) (.ref D) (blkC X s3 H3 scope fp).env) (compPost (model X.prog X.w) X.A X.xe none (EP X pins σ Q) (.ref D) s3.heap.objs.size) { s3 with heap := pushCells (s3.heap.push { cls := .type "dict", data := .dict #[] }) scope.names } := by
    have t4 : tn 0 ({ s3 with heap := pushCells (s3.heap.push { cls := .type "dict", data := .dict #[] }) scope.names } : Shared).heap := T.keep _ _ _ t3 fun b _ o e => pushCells_keeps _ _ _ _ (Heap.get?_push_of_some _ e)
    revert I4 t4
    generalize ({ s3 with heap := pushCells (s3.heap.push { cls := .type "dict", data := .dict #[] }) scope.names } : Shared) = s4
    intro I4 t4
    have stat : ∀ {H' : Hp}, (∀ b ∈ fp, H' b = none) → ∀ b ∈ fp, FpOk (blkC X s3 H3 scope fp) [] H' b := fun hn b hb =>
      ⟨hn b hb, (I4.ok.exf b hb).1, I4.ok.exfs b hb, .inl hb, fun x c e => (I4.ok.exf b hb).2 x c e, fun p hp => nomatch (show p ∈ ([] : List (Addr × Obj)) from hp)⟩
    have loop := loop_any (Y := blkC X s3 H3 scope fp) (e := .SetComp elt (⟨tg, iter, ifs, 0⟩ :: rest) scope pos) (ci := 0) (it := it) (acc := .ref D) (ip := iter.pos) (body := bodyK it D (blkC X s3 H3 scope fp).env) (R := compPost (model X.prog X.w) X.A X.xe none (EP X pins σ Q) (.ref D) s3.heap.objs.size) (σ := σ) (vs := own.map (·.2)) (pins := []) (B D)
      (by show (compTurn _ 0 (.ref it) (.ref D) _).onRaise _ = _; rw [hden]) rfl rfl hc T (hg s3 H3 fp) (ht s3 H3 fp) (fun _ _ z => z) (fun pins' s τ H N _ I' b => hb s3 H3 fp it D pins' s τ H N I' b) stat W (fun H => Q (.ref D) H) turn (fun s' H' I' qq => ?_) m0 s4 H3 w0 I4 t4 (fun b hb => (f3 b hb).1.1)
    · exact PpSet.codeAny_compStart_set loop (T.self X.A 0 _ _ _ t4 loop)
    · have J' : Inv X pins σ H' s' := I3.call' (ch := fp) I'.os I'.base I'.hok I'.bare fun b hb => let z := (f3 b hb).1.2; ⟨z.2.2.1, z.1, z.2.2.2.1, z.2.2.2.2⟩
      obtain ⟨m, hm, _⟩ := I'.loc
      have f := I3.fpOk (H' := H') (Nat.le_refl _) I'.free
      exact ⟨m, hm, fun z sb => ⟨.ref D, H', J'.turned (t' := s'.toks) (fun b o hb e => (sb.2 b hb).trans e) f.1 f.2.1 f.2.2.2.1 f.2.2.2.2.1 f.2.2.2.2.2, rfl, qq⟩⟩
  subst e3
  exact goal
/-- one clause -/
theorem pe_sc1 {te : TE} (hc : X.calm = true) (hN : X.N.Nodup) (hi : PI X tg iter wi) (ok : BlkOk X.N X.env.scope scope own) (hg : ∀ s H fp, PG (blkC X s H scope fp) tg g) (ht : ∀ s H fp, PTs (blkC X s H scope fp) ifs tt) (he : ∀ s H fp, PE (blkC X s H scope fp) elt te)
    (hs : ∀ x, foldedSetIterable iter X.env x = pure x := by intro _; rfl) : PE X (.SetComp elt [⟨tg, iter, ifs, 0⟩] scope pos) (tScG X.prog X.w wi g tt (fun D => bAdd X.prog X.w D te) (own.map (·.2))) :=
  scG_core (B := fun D => bAdd X.prog X.w D te) _ hc hN hi ok hg ht hs (fun it D env => turn_set1 elt tg iter ifs scope pos (.ref it) (.ref D) env) fun s0 H0 fp it D pins' s τ H N I b => body_add (Y := blkC X s0 H0 scope fp) (he s0 H0 fp) pins' s τ H N I b
end
end Ev
set_option maxHeartbeats 4000000
namespace Ev
open PySem PySem.Spec PyProof.Rows L2
theorem start_in {prog : Program} {w : World} {A : Around} {R : Result → Shared → Prop} {s : Shared} {env : Env} {elt t0 i0 t1 i1 : Expr} {ifs0 ifs1 : List Expr} {scope : Scope} {pos : Pos} {it acc : Value}
    (h0 : codeAny (model prog w) A (.compLoop (.SetComp elt [⟨t0, i0, ifs0, 0⟩, ⟨t1, i1, ifs1, 0⟩] scope pos) 1 it acc env) R s)
    (h : wpAny (model prog w) A (pyIter it) (fun j s' => codeAny (model prog w) A (.compLoop (.SetComp elt [⟨t0, i0, ifs0, 0⟩, ⟨t1, i1, ifs1, 0⟩] scope pos) 1 j acc env) R s') (notedBy (model prog w) A env fun x s' => R (.error x) s') s) :
    codeAny (model prog w) A (.compStart (.SetComp elt [⟨t0, i0, ifs0, 0⟩, ⟨t1, i1, ifs1, 0⟩] scope pos) 1 it acc env) R s := by
  refine codeAny_of_tree ?_
  show wpAny _ _ ((compStart _ 1 it acc env).onRaise (fun x => do noteFrame x env; standAt theWindowsPlace)) _ _ s
  refine wpAny_notedAt ?_; unfold compStart
  show wpAny _ _ (ask >>= _) _ _ s
  refine wpAny_bind (wpAny_askSetting (wpAny_ite ?_)); split
  · first | exact wpAny_bind (wpAny_pure (wpAny_pure ⟨rfl, h0⟩)) | exact wpAny_pure ⟨rfl, h0⟩
  · have go : ∀ {W : PySem.Fin → Shared → Prop}, (∀ j s', codeAny (model prog w) A (.compLoop (.SetComp elt [⟨t0, i0, ifs0, 0⟩, ⟨t1, i1, ifs1, 0⟩] scope pos) 1 j acc env) R s' → W (.again (.compLoop (.SetComp elt [⟨t0, i0, ifs0, 0⟩, ⟨t1, i1, ifs1, 0⟩] scope pos) 1 j acc env)) s') → wpAny (model prog w) A (pyIter it >>= fun j => again (.compLoop (.SetComp elt [⟨t0, i0, ifs0, 0⟩, ⟨t1, i1, ifs1, 0⟩] scope pos) 1 j acc env)) W (notedBy (model prog w) A env fun x s' => R (.error x) s') s := fun k => wpAny_bind (wpAny_mono h (fun j s' z => wpAny_pure (k j s' z)) fun _ _ x => x)
    refine wpAny_bind (wpAny_rule ?_)
    show wpAny _ _ (standAt i1.pos >>= _) _ _ s
    exact wpAny_bind (wpAny_standAt (go fun j s' z => ⟨rfl, z⟩))
section
variable {X : Cx} {elt tg iter tg1 iter1 : Expr} {ifs ifs1 : List Expr} {scope : Scope} {own : List (Str × Nat)} {vs1 : List Nat} {pos : Pos} {wi wi1 : TI} {g g1 : TG} {tt tt1 : TT} {te : TE}
theorem body_in (hc : X.calm = true) (hv : ∀ i ∈ vs1, i ∈ own.map (·.2)) (hi1 : ∀ s H fp, PI (blkC X s H scope fp) tg1 iter1 wi1) (hg1 : ∀ s H fp, PG (blkC X s H scope fp) tg1 g1) (ht1 : ∀ s H fp, PTs (blkC X s H scope fp) ifs1 tt1) (he : ∀ s H fp, PE (blkC X s H scope fp) elt te) (hs1 : ∀ env x, foldedSetIterable iter1 env x = pure x)
    (s0 : Shared) (H0 : Hp) (fp : List Addr) (it D : Addr) pins' s τ H (N : Hp → Prop) (I : Inv (blkC X s0 H0 scope fp) pins' τ H s) (b : bIn X.prog X.w wi1 g1 tt1 te vs1 D τ H N) :
    wpAny (model X.prog X.w) X.A (eval iter1 (blkC X s0 H0 scope fp).env >>= fun x => standAt iter1.pos >>= fun _ => foldedSetIterable iter1 (blkC X s0 H0 scope fp).env x >>= fun x => holding [x] (pyIter x) >>= fun j => runOwn (.compStart (.SetComp elt [⟨tg, iter, ifs, 0⟩, ⟨tg1, iter1, ifs1, 0⟩] scope pos) 1 j (.ref D) (blkC X s0 H0 scope fp).env) (blkC X s0 H0 scope fp).env >>= fun _ => again (.compLoop (.SetComp elt [⟨tg, iter, ifs, 0⟩, ⟨tg1, iter1, ifs1, 0⟩] scope pos) 0 (.ref it) (.ref D) (blkC X s0 H0 scope fp).env))
      (fun r s' => r = .again (.compLoop (.SetComp elt [⟨tg, iter, ifs, 0⟩, ⟨tg1, iter1, ifs1, 0⟩] scope pos) 0 (.ref it) (.ref D) (blkC X s0 H0 scope fp).env) ∧ ∃ τ' H', Inv (blkC X s0 H0 scope fp) pins' τ' H' s' ∧ Slots τ τ' (own.map (·.2)) ∧ N H') (blkC X s0 H0 scope fp).xe s := by
  refine wpAny_bind (thn ((hi1 s0 H0 fp).run pins' s τ H _ I b) fun x s1 hx => wpAny_bind (wpAny_standAt (wpAny_bind (wpAny_of_eq (hs1 _ x) (wpAny_bind (wpAny_holding (thn hx fun j s2 h2 => ?_)))))))
  obtain ⟨it1, fp1, tn1, J1, H2, ej, I2, T1, t2, f2, W1, ⟨m1, w1⟩, turn1⟩ := h2
  subst ej
  have loop := loop_any (Y := blkC X s0 H0 scope fp) (e := .SetComp elt [⟨tg, iter, ifs, 0⟩, ⟨tg1, iter1, ifs1, 0⟩] scope pos) (ci := 1) (it := it1) (acc := .ref D) (ip := iter1.pos) (R := fun r s' => match r with | .ok _ => ∃ τ' H', Inv (blkC X s0 H0 scope fp) pins' τ' H' s' ∧ Slots τ τ' (own.map (·.2)) ∧ N H' | .error _ => False) (σ := τ) (vs := vs1) (pins := pins') (bAdd X.prog X.w D te)
    (by show (compTurn _ 1 (.ref it1) (.ref D) _).onRaise _ = _; rw [turn_set2i]) rfl rfl hc T1 (hg1 s0 H0 fp) (ht1 s0 H0 fp) (fun _ _ z => z) (fun pins' s τ H N _ I' b => body_add (Y := blkC X s0 H0 scope fp) (he s0 H0 fp) pins' s τ H N I' b) (fun hn b hb => ⟨hn b hb, (f2 b hb).2⟩) W1 N turn1 (fun s' H' I' nx => ⟨wipe τ vs1, H', I', ⟨wipe_length τ vs1, fun i v e => ?_⟩, nx⟩) m1 s2 H2 w1 (I2.weak (wipe_length _ _) fun i v e => (wipe_some e).1) t2 (fun b hb => (f2 b hb).1)
  · refine wpAny_bind (wpAny_runOwn ?_)
    rw [Around.mark_none]
    refine codeAny_mono (start_in loop (T1.self X.A 0 _ _ _ t2 loop)) fun r s' hr => ?_
    cases r with
    | ok f => first | exact wpAny_pure ⟨rfl, hr⟩ | exact wpAny_bind (wpAny_pure (wpAny_pure ⟨rfl, hr⟩))
    | error x => exact hr.elim
  · obtain ⟨e1, e2⟩ := wipe_some e
    rw [wipe_out fun z => e2 (hv i z)] <;> exact e1
/-- two clauses -/
theorem pe_sc2 (hc : X.calm = true) (hN : X.N.Nodup) (hi : PI X tg iter wi) (ok : BlkOk X.N X.env.scope scope own) (hv : ∀ i ∈ vs1, i ∈ own.map (·.2)) (hg : ∀ s H fp, PG (blkC X s H scope fp) tg g) (ht : ∀ s H fp, PTs (blkC X s H scope fp) ifs tt)
    (hi1 : ∀ s H fp, PI (blkC X s H scope fp) tg1 iter1 wi1) (hg1 : ∀ s H fp, PG (blkC X s H scope fp) tg1 g1) (ht1 : ∀ s H fp, PTs (blkC X s H scope fp) ifs1 tt1) (he : ∀ s H fp, PE (blkC X s H scope fp) elt te)
    (hs : ∀ x, foldedSetIterable iter X.env x = pure x := by intro _; rfl) (hs1 : ∀ env x, foldedSetIterable iter1 env x = pure x := by intro _ _; rfl) :
    PE X (.SetComp elt [⟨tg, iter, ifs, 0⟩, ⟨tg1, iter1, ifs1, 0⟩] scope pos) (tScG X.prog X.w wi g tt (bIn X.prog X.w wi1 g1 tt1 te vs1) (own.map (·.2))) :=
  scG_core (B := bIn X.prog X.w wi1 g1 tt1 te vs1) _ hc hN hi ok hg ht hs (fun it D env => turn_set2o elt tg iter tg1 iter1 ifs ifs1 scope pos (.ref it) (.ref D) env) (body_in hc hv hi1 hg1 ht1 he hs1)
end
end Ev
set_option maxHeartbeats 4000000
namespace Ev
open PySem PySem.Spec PyProof.Rows L2
/-! sorted, any number: texts, and the members of a set -/
abbrev ltC (x y : Str) : Prop := x.cps.toList < y.cps.toList
def ltSv (v u : Value) : Bool := decide (ltC (strOf v) (strOf u))
theorem swo_str : SrtO.Swo ltSv := by
  refine ⟨fun x y h => decide_eq_false fun z => ?_, fun x y z h1 h2 => decide_eq_false fun h => ?_⟩
  · exact List.lt_irrefl _ (List.lt_trans (of_decide_eq_true h : ltC (strOf x) (strOf y)) z)
  · have a : ¬ ltC (strOf y) (strOf x) := of_decide_eq_false h1
    have b : ¬ ltC (strOf z) (strOf y) := of_decide_eq_false h2
    exact absurd h (List.not_lt.mpr (List.le_trans (List.not_lt.mp a) (List.not_lt.mp b)))
section
variable {prog : Program} {w : World} {A : Around} {E : Value → Shared → Prop} {s : Shared}
theorem str_cmp {vs : List Value} (hI : ∀ v ∈ vs, ∃ x t, v = Value.str x t) : SrtO.Cmp prog w A s oneType' (fun p => p.1 ∈ vs) (SrtO.lt2 ltSv) := fun p q hm hm' => by
  obtain ⟨a, t, e⟩ := hI _ hm
  obtain ⟨b, u, e'⟩ := hI _ hm'
  show wpAny (model prog w) A (keyLt' oneType' p.1 q.1) (fun r s' => s' = s ∧ r = ltSv p.1 q.1) (fun _ _ => False) s
  rw [e, e']
  exact PySem.W.kas_lt_str ⟨rfl, rfl⟩
theorem strs_sortable {a : Addr} {vs : List Value} (hI : ∀ v ∈ vs, ∃ x t, v = Value.str x t) (h2 : 2 ≤ vs.length) : SrtO.SortableO prog w A s a vs ltSv := fun h' _ => by
  refine ⟨oneType', fun Q E hq => ?_, str_cmp hI⟩
  have hS := strsAre_map vs hI
  revert hS h2
  rcases vs with _ | ⟨v, _ | ⟨u, r⟩⟩
  · intro h2; exact absurd h2 (by decide)
  · intro h2; exact absurd h2 (by simp)
  · intro h2 hS; rw [keyKind_strs hS]; exact wpAny_pure hq
theorem ints_sortable2 {a : Addr} {vs : List Value} (hI : ∀ v ∈ vs, ∃ i t, v = Value.int i t) (h2 : 2 ≤ vs.length) : SrtO.SortableO prog w A s a vs SrtO.ltIv := SrtO.ints_sortable (SrtO.ints_iv hI) h2
/-- sorted of a set: its members by ltv, at a new place -/
theorem sorted_setG {K : Type} [DecidableEq K] {κ : KeyKind prog w K} {a : Addr} {S : K → Bool} {n : Nat} {ltv : Value → Value → Bool} {Q : Value → Shared → Prop} (O : SrtO.Swo ltv) (R : SetG κ s.heap a S n) (hh : A.handled = none)
    (so : ∀ (vs : List Value), (∀ v ∈ vs, ∃ k, κ.is k v = true ∧ S k = true) → 2 ≤ vs.length → ∀ (A' : Around) (z : Shared) (d : Addr), SrtO.SortableO prog w A' z d vs ltv)
    (q : ∀ (z : Shared) (p : Addr) (out : List Value) (c : Nat), (∀ b o, s.heap.get? b = some o → z.heap.get? b = some o) → z.gens = s.gens → z.os = s.os → s.heap.objs.size ≤ p → z.heap.get? p = some (seqObj "list" out.toArray c) → SrtO.Srtd ltv out →
      (∀ v ∈ out, ∃ k, κ.is k v = true ∧ S k = true) → (∀ k, S k = true → ∃ v ∈ out, κ.is k v = true) → out.Pairwise (fun u v => ∀ k, κ.is k u = true → κ.is k v = true → False) → out.length = n → Q (.ref p) z) :
    wpAny (model prog w) A (call (.builtin "sorted") [.ref a]) Q E s := by
  obtain ⟨o, es, ep, t, ho, ⟨xs, hd⟩, ⟨hel, nd⟩, hm, ⟨hb, hf, hn⟩, hr, hl⟩ := R
  refine Calls.call_function_entry kind_sorted plain_sorted entry_sorted (args_sorted1 _) ?_; unfold Builtin.«sorted»
  refine wpAny_bind (m := checkCount "sorted" 1 1 _) (wpAny_pure (wpAny_bind (collect_set (A := A.in1) hh ⟨o, ho, xs.1, hd⟩ hf hb hr hl fun s1 vs k1 hz g1 o1 pm => ?_)))
  have len : vs.length = n := by rw [pm.length_eq, List.length_map, Array.length_toList] <;> exact hn
  have small : vs.length ≤ sizeLine := by rw [len, ← hn] <;> exact fits_of_scanBound hb
  have mem : ∀ v ∈ vs, ∃ k, κ.is k v = true ∧ S k = true := fun v hv => by
    obtain ⟨e, he, ev⟩ := List.mem_map.mp (pm.mem_iff.mp hv)
    obtain ⟨⟨k, hk, _⟩, _⟩ := hel e he
    exact ⟨k, by rw [← ev] <;> exact hk, (hm k).mpr ⟨e, he, hk⟩⟩
  have all : ∀ k, S k = true → ∃ v ∈ vs, κ.is k v = true := fun k hk => let ⟨e, he, z⟩ := (hm k).mp hk; ⟨e.2, pm.mem_iff.mpr (List.mem_map.mpr ⟨e, he, rfl⟩), z⟩
  have apart : vs.Pairwise (fun u v => ∀ k, κ.is k u = true → κ.is k v = true → False) := List.Perm.pairwise pm.symm (List.pairwise_map.mpr nd) fun {u v} z k h1 h2 => z k h2 h1
  refine wpAny_bind (wpAny_newList ?_ small)
  have hoL : (s1.heap.push (seqObj "list" vs.toArray 0)).get? s1.heap.objs.size = some (seqObj "list" vs.toArray 0) := Heap.get?_push_size _ rfl
  refine wpAny_bind (wpAny_holding (wpAny_call_entry slot_list_sort ⟨_, hoL, rfl⟩ entry_list_sort (SrtO.list_sort_ord O hoL small (fun h2 => so vs mem h2 _ _ _) fun out h1 h2 => ⟨_, rfl, ?_⟩) (args_list_sort _)))
  obtain ⟨c, hc⟩ := sortedHeap_at (vs := vs) (out := out.toArray) hoL
  have p2 : out.Perm vs := h2.perm
  refine wpAny_pure ⟨_, rfl, q _ s1.heap.objs.size out c (fun b u e => ?_) g1 o1 hz hc h1 (fun v hv => mem v (p2.mem_iff.mp hv)) (fun k hk => let ⟨v, hv, z⟩ := all k hk; ⟨v, p2.mem_iff.mpr hv, z⟩) (List.Perm.pairwise p2.symm apart fun {u v} z k h1 h2 => z k h2 h1) (by rw [p2.length_eq] <;> exact len)⟩
  have e1 := k1 b u e
  have lt := Heap.lt_size e1
  show (sortedHeap (s1.heap.push (seqObj "list" vs.toArray 0)) s1.heap.objs.size vs out.toArray).get? b = some u
  rw [sortedHeap_old (Nat.ne_of_lt lt) (by rw [size_push'] <;> exact Nat.lt_succ_of_lt lt)]; exact Heap.get?_push_of_some _ e1
end
section
variable {X : Cx}
/-- sorted(xs), texts, any number of them -/
def rSortedTx (K : PySem.W.Frag) : List V → Hp → VK → Prop := fun vs H Q => ∃ (a : Addr) (ss : List Str), vs = [V.ref a] ∧ SqL K H a (ss.map V.str) ∧ ∀ (zs : List Str) (p : Addr), zs.Perm ss → zs.Pairwise (fun x y => ¬ ltC y x) → H p = none → Q (.ref p) (upd H p (.lst (zs.map V.str)))
theorem vals_strs : ∀ {out : List Value}, (∀ v ∈ out, ∃ x t, v = Value.str x t) → Vals ((out.map strOf).map V.str) out
  | [], _ => .nil
  | v :: out, h => by
    obtain ⟨x, t, e⟩ := h v List.mem_cons_self
    subst e
    exact .cons ⟨t, rfl⟩ (vals_strs fun u hu => h u (List.mem_cons_of_mem _ hu))
theorem strs_vals : ∀ {ss : List Str} {us : List Value}, Vals (ss.map V.str) us → (∀ v ∈ us, ∃ x t, v = Value.str x t) ∧ us.map strOf = ss
  | [], _, .nil => ⟨fun v h => absurd h (by simp), rfl⟩
  | z :: ss, _, .cons r t => by
    obtain ⟨tk, rfl⟩ := r
    obtain ⟨h1, h2⟩ := strs_vals t
    exact ⟨fun v hv => (List.mem_cons.mp hv).elim (fun e => ⟨z, tk, e⟩) (h1 v), congrArg (z :: ·) h2⟩
theorem cr_sortedTx : CallR X (.builtin "sorted") (rSortedTx X.K) := fun pins s σ H vs us Q I r h => by
  obtain ⟨a, ss, rfl, hs, q⟩ := h
  obtain ⟨its, rv, hl, hz⟩ := I.list hs
  rw [Vals.ref1 r]
  obtain ⟨hI, es⟩ := strs_vals rv
  have lz : its.length ≤ sizeLine := by rw [← rv.length] <;> exact hz
  refine SrtO.sorted_ord swo_str hl.isList lz (fun h2 h₁ a' _ _ => strs_sortable hI h2) fun out h1 h2 => ?_
  obtain ⟨ep, he⟩ := PyProof.Rows.sortedAll_at s.heap its out.toArray
  have hO : ∀ v ∈ out, ∃ x t, v = Value.str x t := fun v hv => hI v (h2.perm.mem_iff.mp hv)
  have lo : ((out.map strOf).map V.str).length ≤ sizeLine := by rw [List.length_map, List.length_map, h2.perm.length_eq] <;> exact lz
  refine ⟨.ref _, upd H (s.heap.objs.size + 1) (.lst ((out.map strOf).map V.str)), I.laid (t' := s.toks) (fun _ _ => PyProof.Rows.sortedAll_old) (Nat.le_succ _) ⟨lo, out, ep, vals_strs hO, he⟩, rfl, q _ _ ?_ ?_ (I.hok.fresh (Nat.le_succ _))⟩
  · rw [← es] <;> exact h2.perm.map strOf
  · exact List.pairwise_map.mpr (h1.imp fun {x y} h => of_decide_eq_false h)
/-- sorted(s), s a set of texts: ascending -/
def rSortedSx (P : Program) (w : World) : List V → Hp → VK → Prop := fun vs H Q => ∃ (a : Addr) (S : Key → Bool) (n : Nat), vs = [V.ref a] ∧ H a = some (SetX P w a S n) ∧ (∀ k, S k = true → ∃ z, k = Sum.inr z) ∧
  ∀ (zs : List Str) (p : Addr), zs.Pairwise ltC → (∀ z, z ∈ zs ↔ S (Sum.inr z) = true) → zs.length = n → H p = none → Q (.ref p) (upd H p (.lst (zs.map V.str)))
theorem ltC_str {x y : Str} (h : ¬ ltC y x) (ne : x ≠ y) : ltC x y := by
  rcases Decidable.em (ltC x y) with z | z
  · exact z
  · refine absurd ?_ ne
    have e : x.cps.toList = y.cps.toList := List.le_antisymm (List.not_lt.mp h) (List.not_lt.mp z)
    cases x; cases y; exact congrArg Str.mk (Array.toList_inj.mp e)
theorem cr_sortedSx (hc : X.calm = true) : CallR X (.builtin "sorted") (rSortedSx X.prog X.w) := fun pins s σ H vs us Q I r h => by
  obtain ⟨a, S, n, rfl, ha, hS, q⟩ := h
  rw [Vals.ref1 r]
  have isS : ∀ v, (∃ k, (mixKind X.prog X.w).is k v = true ∧ S k = true) → ∃ x t, v = Value.str x t ∧ S (.inr x) = true := fun v ⟨k, h1, h2⟩ => by
    obtain ⟨z, rfl⟩ := hS k h2
    rcases keyIs_shape (show keyIs (.inr z) v = true from h1) with ⟨i, t, e1, e2⟩ | ⟨x, t, e1, e2⟩
    · cases e1
    · cases e1; exact ⟨z, t, e2, h2⟩
  refine sorted_setG swo_str (setX_get I ha) (I.ok.hd hc) (fun vs mem h2 A' z d => strs_sortable (fun v hv => let ⟨x, t, e, _⟩ := isS v (mem v hv); ⟨x, t, e⟩) h2) fun z p out c k g o hp hg hs mem all ap hl => ?_
  have hO : ∀ v ∈ out, ∃ x t, v = Value.str x t ∧ S (.inr x) = true := fun v hv => isS v (mem v hv)
  have hV := vals_strs fun v hv => let ⟨x, t, e, _⟩ := hO v hv; ⟨x, t, e⟩
  have lo : ((out.map strOf).map V.str).length ≤ sizeLine := by
    obtain ⟨o, es, ep, t, ho, _, _, _, ⟨hb, hf, hn⟩, _⟩ := setX_get I ha
    rw [List.length_map, List.length_map, hl, ← hn] <;> exact fits_of_scanBound hb
  have hn : H p = none := I.hok.fresh hp
  have J : Inv X pins σ (upd H p (.lst ((out.map strOf).map V.str))) z := I.call' (ch := []) o (Un.laid k hp hn) (I.hok.laid k hp ⟨lo, out, c, hV, hg⟩) (by rw [g] <;> exact I.bare) (fun _ z => nomatch z)
  refine ⟨.ref p, _, J, rfl, q _ p ?_ (fun y => ⟨fun hy => ?_, fun hy => ?_⟩) (by rw [List.length_map] <;> exact hl) hn⟩
  · refine List.pairwise_map.mpr (List.Pairwise.imp_of_mem (fun {u v} hu hv w => ?_) (hs.and ap))
    obtain ⟨x, t, rfl, _⟩ := hO u hu
    obtain ⟨y, t', rfl, _⟩ := hO v hv
    refine ltC_str (of_decide_eq_false w.1) fun e => w.2 (.inr x) (mixKind_str _ _ x t) ?_
    have e : x = y := e
    rw [e] <;> exact mixKind_str _ _ y t'
  · obtain ⟨v, hv, rfl⟩ := List.mem_map.mp hy
    obtain ⟨x, t, rfl, z⟩ := hO v hv
    exact z
  · obtain ⟨v, hv, z⟩ := all _ hy
    obtain ⟨x, t, rfl, _⟩ := hO v hv
    refine List.mem_map.mpr ⟨_, hv, ?_⟩
    have := (mixKind X.prog X.w).inj _ _ _ z (mixKind_str X.prog X.w x t)
    exact (Sum.inr.inj this).symm
/-- len(s) of a set -/
def rLenSx (P : Program) (w : World) : List V → Hp → VK → Prop := fun vs H Q => ∃ (a : Addr) (S : Key → Bool) (n : Nat), vs = [V.ref a] ∧ H a = some (SetX P w a S n) ∧ Q (.int (n : Nat)) H
theorem cr_lenSx : CallR X (.builtin "len") (rLenSx X.prog X.w) := fun pins s σ H vs us Q I r h => by
  obtain ⟨a, S, n, rfl, ha, q⟩ := h
  rw [Vals.ref1 r]
  obtain ⟨o, es, ep, t, ho, ⟨xs, hd⟩, _, _, ⟨hb, hf, hn⟩, _⟩ := setX_get I ha
  subst hn
  have lz : es.size ≤ 16777216 := fits_of_scanBound hb
  exact call_len_set ho xs hd hf (by omega) ⟨.int (es.size : Nat), H, I.tok _, ⟨_, rfl⟩, q⟩
end
end Ev
set_option maxHeartbeats 4000000
namespace Ev
open PySem PySem.Spec PyProof.Rows L2 PySem.W
/-! sorted, lists that read as data; < of data -/
/-- a value, and what it reads as -/
abbrev DV := V × PyData
section
variable {X : Cx}
theorem each_dp {pins : List (Addr × Obj)} {σ : L2.St} {H : Hp} {s : Shared} (I : Inv X pins σ H s) : ∀ {bs : List DV} {us : List Value}, Vals (bs.map (·.1)) us → (∀ b ∈ bs, Dp X.K H b.1 b.2) →
    EachIs (fun v (b : DV) => RelV b.1 v) us bs ∧ EachIs (fun v (b : DV) => ∃ as, Reads s.heap v b.2 as) us bs
  | [], _, .nil, _ => ⟨.nil, .nil⟩
  | b :: bs, _, .cons r t, h => by
    obtain ⟨e1, e2⟩ := each_dp I t fun c hc => h c (List.mem_cons_of_mem _ hc)
    exact ⟨.cons r e1, .cons (Dp.reads I b.2 _ _ (h b List.mem_cons_self) r) e2⟩
theorem each_vals : ∀ {bs : List DV} {us : List Value}, EachIs (fun v (b : DV) => RelV b.1 v) us bs → Vals (bs.map (·.1)) us
  | [], _, .nil => .nil
  | _ :: _, _, .cons r t => .cons r (each_vals t)
def leD (a b : DV) : Bool := dataLe false (fun b : DV => b.2) a b
def rSortedD (K : PySem.W.Frag) : List V → Hp → VK → Prop := fun vs H Q => ∃ (a : Addr) (bs : List DV), vs = [V.ref a] ∧ SqL K H a (bs.map (·.1)) ∧ (∀ b ∈ bs, Dp K H b.1 b.2) ∧ AllAlike (bs.map (·.2)) ∧ Sortable (bs.map (·.2)) ∧ (∀ b ∈ bs, b.2.depth ≤ 60) ∧
  ∀ p, H p = none → Q (.ref p) (upd H p (.lst ((bs.mergeSort leD).map (·.1))))
theorem cr_sortedD (hu : X.A.units + 64 < cLine) : CallR X (.builtin "sorted") (rSortedD X.K) := fun pins s σ H vs us Q I r h => by
  obtain ⟨a, bs, rfl, hs, hd, hal, hk, hdep, q⟩ := h
  obtain ⟨its, rv, hl, hz⟩ := I.list hs
  rw [Vals.ref1 r]
  obtain ⟨e1, e2⟩ := each_dp I rv hd
  have lz : bs.length ≤ sizeLine := by rw [List.length_map] at hz; exact hz
  refine sorted_data (R := fun v (b : DV) => RelV b.1 v) (enc := fun b : DV => b.2) hl.isList e1 e2 hal hk lz (fun b hb => by have := hdep b hb; omega) fun out h1 h2 => ?_
  obtain ⟨ep, he⟩ := PyProof.Rows.sortedAll_at s.heap its out.toArray
  have lo : ((bs.mergeSort leD).map (·.1)).length ≤ sizeLine := by rw [List.length_map, List.length_mergeSort]; exact lz
  exact ⟨.ref _, upd H (s.heap.objs.size + 1) (.lst ((bs.mergeSort leD).map (·.1))), I.laid (t' := s.toks) (fun _ _ => PyProof.Rows.sortedAll_old) (Nat.le_succ _) ⟨lo, out, ep, each_vals h2, he⟩, rfl, q _ (I.hok.fresh (Nat.le_succ _))⟩
/-- x < y of data -/
def rLtD (K : PySem.W.Frag) : R2 := fun x y H Q => ∃ d e, Dp K H x d ∧ Dp K H y e ∧ alike d e = true ∧ d ≠ .none ∧ min d.depth e.depth ≤ 60 ∧ Q (.bl (dataLt d e)) H
theorem op_ltD (hu : X.A.units + 64 < cLine) : OpR X (compareOp .Lt) (rLtD X.K) := by
  intro pins s σ H x y v u Q I rx ry h
  obtain ⟨d, e, hd, he, al, nn, dp, q⟩ := h
  obtain ⟨as, r1⟩ := Dp.reads I d x v hd rx
  obtain ⟨bs, r2⟩ := Dp.reads I e y u he ry
  exact lt_data r1 r2 al nn (by omega) ⟨.bl _, H, I, rfl, q⟩
end
end Ev
set_option maxHeartbeats 4000000
/-! Slices by natural bounds. -/
namespace Ev
open PySem PySem.Spec PyProof.Rows L2
theorem sIx_int {n d : Nat} {i : Int} (h : 0 ≤ i) : HT.sIx n d (some i) = min i.toNat n := by
  show (if i < 0 then (i + (n : Int)).toNat else min i.toNat n) = _
  rw [if_neg (by omega)]
theorem cutV_to {xs : List V} {i : Int} (h : 0 ≤ i) : cutV xs none (some i) = xs.take i.toNat := by
  unfold cutV
  rw [sIx_int h]
  show (xs.drop 0).take (min i.toNat xs.length - 0) = _
  rw [List.drop_zero, Nat.sub_zero, ← List.take_eq_take_min]
theorem cutV_from {xs : List V} {i : Int} (h : 0 ≤ i) : cutV xs (some i) none = xs.drop i.toNat := by
  unfold cutV
  rw [sIx_int h]
  show (xs.drop (min i.toNat xs.length)).take (xs.length - min i.toNat xs.length) = _
  rw [List.take_of_length_le (by rw [List.length_drop]; exact Nat.le_refl _)]
  by_cases g : i.toNat ≤ xs.length
  · rw [Nat.min_eq_left g]
  · rw [Nat.min_eq_right (by omega), List.drop_length, List.drop_of_length_le (by omega)]
theorem cutV_set {xs : List V} {i : Int} {z : V} (h : 0 ≤ i) (h2 : i < xs.length) : cutV xs none (some i) ++ [z] ++ cutV xs (some (i + 1)) none = xs.set i.toNat z := by
  rw [cutV_to h, cutV_from (by omega)]
  have e : (i + 1).toNat = i.toNat + 1 := by omega
  rw [e, List.set_eq_take_append_cons_drop, if_pos (by omega)]
  simp
theorem cutS_to {z : Str} {i : Int} (h : 0 ≤ i) : (cutS z none (some i)).cps.toList = z.cps.toList.take i.toNat := by
  have e : (cutS z none (some i)).cps.toList = (z.cps.toList.drop 0).take (HT.sIx z.length z.length (some i) - 0) := by simp [cutS, HT.sIx]
  rw [e, sIx_int h, List.drop_zero, Nat.sub_zero, len_S, ← List.take_eq_take_min]
theorem cutS_from {z : Str} {i : Int} (h : 0 ≤ i) : (cutS z (some i) none).cps.toList = z.cps.toList.drop i.toNat := by
  have e : (cutS z (some i) none).cps.toList = (z.cps.toList.drop (HT.sIx z.length 0 (some i))).take (z.length - HT.sIx z.length 0 (some i)) := by simp [cutS, HT.sIx]
  rw [e, sIx_int h, len_S]
  rw [List.take_of_length_le (by rw [List.length_drop]; exact Nat.le_refl _)]
  by_cases g : i.toNat ≤ z.cps.toList.length
  · rw [Nat.min_eq_left g]
  · rw [Nat.min_eq_right (by omega), List.drop_length, List.drop_of_length_le (by omega)]
theorem cutS_of {z : Str} {i j : Int} (h : 0 ≤ i) (h2 : i ≤ j) : (cutS z (some i) (some j)).cps.toList = (z.cps.toList.drop i.toNat).take (j - i).toNat := by
  have e : (cutS z (some i) (some j)).cps.toList = (z.cps.toList.drop (HT.sIx z.length 0 (some i))).take (HT.sIx z.length z.length (some j) - HT.sIx z.length 0 (some i)) := by simp [cutS]
  rw [e, sIx_int h, sIx_int (by omega), len_S]
  apply List.ext_getElem?
  intro k
  rw [List.getElem?_take, List.getElem?_take, List.getElem?_drop, List.getElem?_drop]
  by_cases g : i.toNat ≤ z.cps.toList.length
  · rw [Nat.min_eq_left g]
    by_cases a : k < (j - i).toNat
    · rw [if_pos a]
      by_cases b : k < min j.toNat z.cps.toList.length - i.toNat
      · rw [if_pos b]
      · rw [if_neg b]
        exact (List.getElem?_eq_none (by omega)).symm
    · rw [if_neg a, if_neg (by omega)]
  · rw [List.getElem?_eq_none (show z.cps.toList.length ≤ i.toNat + k by omega), if_neg (by omega)]
    split <;> rfl
end Ev
set_option maxHeartbeats 4000000
namespace LawK
open PySem PySem.Spec PyProof.Rows L2 Ev PySem.W
theorem dataLt_sii (x y : Str) (i j k l : Int) : dataLt (.tuple [.str x, .int i, .int j]) (.tuple [.str y, .int k, .int l]) = decide (x.cps.toList < y.cps.toList ∨ x = y ∧ (i < k ∨ i = k ∧ j < l)) := by
  rw [dataLt_tuple, dataLt_cons (by simp [alike]), dataLt_cons (by simp [alike]), dataLt_cons (by simp [alike])]
  have e0 : PyProof.Rows.lexLt itemOrd (keyToksAll []) (keyToksAll []) = false := lex_irrefl _
  rw [e0, dataLt_str, dataLt_int, dataLt_int]
  have e1 : PyData.eqv (.str x) (.str y) = decide (x = y) := by
    simp only [PyData.eqv]
    first | rfl | exact Bool.eq_iff_iff.mpr (by simp)
  have e2 : ∀ a b : Int, PyData.eqv (.int a) (.int b) = decide (a = b) := fun a b => by
    simp only [PyData.eqv]
    first | rfl | exact Bool.eq_iff_iff.mpr (by simp)
  rw [e1, e2, e2]
  by_cases hx : x = y
  · subst hx
    have nl : ¬ x.cps.toList < x.cps.toList := lirr _
    by_cases h1 : i = k
    · subst h1
      by_cases h2 : j = l
      · subst h2; simp [nl]
      · simp [nl, h2]
    · simp [nl, h1]
  · simp [hx]
abbrev cod (z : Str) : LN := z.cps.toList
theorem cod_inj {a b : Str} (h : cod a = cod b) : a = b := by rw [← S_eta a, ← S_eta b]; exact congrArg SX.S h
def row (ts : List Str) (i : Nat) : List Pl := (List.range (tx ts i).length).map fun j => (i, j)
def plN (ts : List Str) (n : Nat) : List Pl := (List.range n).flatMap (row ts)
def pl (ts : List Str) : List Pl := plN ts ts.length
theorem plN_succ (ts : List Str) (n : Nat) : plN ts (n + 1) = plN ts n ++ row ts n := by
  unfold plN
  rw [List.range_succ, List.flatMap_append]
  simp
theorem pl_mem {ts : List Str} {p : Pl} : p ∈ pl ts ↔ InT ts p := by
  unfold pl plN
  rw [List.mem_flatMap]
  constructor
  · rintro ⟨i, hi, h⟩
    obtain ⟨j, hj, rfl⟩ := List.mem_map.mp h
    exact ⟨List.mem_range.mp hi, List.mem_range.mp hj⟩
  · rintro ⟨h1, h2⟩
    exact ⟨p.1, List.mem_range.mpr h1, List.mem_map.mpr ⟨p.2, List.mem_range.mpr h2, rfl⟩⟩
theorem tx_len {ts : List Str} (h : ∀ t ∈ ts, t.length ≤ 200) (i : Nat) : (tx ts i).length ≤ 200 := by
  rcases Nat.lt_or_ge i ts.length with g | g
  · exact h _ (tx_mem g)
  · unfold tx
    rw [List.getD_eq_getElem?_getD, List.getElem?_eq_none (by omega)]
    exact Nat.zero_le _
theorem plN_len {ts : List Str} (h : ∀ t ∈ ts, t.length ≤ 200) (n : Nat) : (plN ts n).length ≤ 200 * n := by
  induction n with
  | zero => exact Nat.le_refl _
  | succ n ih =>
    rw [plN_succ, List.length_append]
    have : (row ts n).length = (tx ts n).length := by unfold row; rw [List.length_map, List.length_range]
    have := tx_len h n
    omega
/-- the ending from a place on -/
def sfx (ts : List Str) (p : Pl) : Str := cutS (tx ts p.1) (some ((p.2 : Nat) : Int)) none
theorem sfx_cod (ts : List Str) (p : Pl) : cod (sfx ts p) = (cod (tx ts p.1)).drop p.2 := cutS_from (Int.natCast_nonneg _)
theorem sfx_len (ts : List Str) (p : Pl) : (sfx ts p).length = (tx ts p.1).length - p.2 := by rw [len_S, len_S, ← List.length_drop]; exact congrArg List.length (sfx_cod ts p)
def enc (ts : List Str) (p : Pl) : PyData := .tuple [.str (sfx ts p), .int (p.1 : Nat), .int (p.2 : Nat)]
def leE (d e : PyData) : Bool := !dataLt e d
def leP (ts : List Str) (p q : Pl) : Bool := leE (enc ts p) (enc ts q)
theorem leP_eq (ts : List Str) (p q : Pl) : leP ts p q = true ↔ ¬ (cod (sfx ts q) < cod (sfx ts p) ∨ sfx ts q = sfx ts p ∧ ((q.1 : Int) < p.1 ∨ (q.1 : Int) = p.1 ∧ (q.2 : Int) < p.2)) := by
  unfold leP leE enc
  rw [dataLt_sii, Bool.not_eq_true', decide_eq_false_iff_not]
theorem leP_trans (ts : List Str) (a b c : Pl) (h : leP ts a b = true) (k : leP ts b c = true) : leP ts a c = true := by
  rw [leP_eq] at *
  rintro (e | ⟨e, f⟩)
  · exact lle (fun z => h (.inl z)) (fun z => k (.inl z)) e
  · have e1 : cod (sfx ts a) = cod (sfx ts b) := by
      rcases ltri (cod (sfx ts a)) (cod (sfx ts b)) with z | z | z
      · exact absurd (.inl (by rw [e]; exact z)) k
      · exact z
      · exact absurd (.inl z) h
    have e2 := cod_inj e1
    have n1 : ¬ ((b.1 : Int) < a.1 ∨ (b.1 : Int) = a.1 ∧ (b.2 : Int) < a.2) := fun z => h (.inr ⟨e2.symm, z⟩)
    have n2 : ¬ ((c.1 : Int) < b.1 ∨ (c.1 : Int) = b.1 ∧ (c.2 : Int) < b.2) := fun z => k (.inr ⟨e.trans e2, z⟩)
    omega
theorem leP_total (ts : List Str) (a b : Pl) : (leP ts a b || leP ts b a) = true := by
  rw [Bool.or_eq_true, leP_eq, leP_eq]
  refine Classical.byContradiction fun c => ?_
  rw [not_or, Classical.not_not, Classical.not_not] at c
  obtain ⟨x | ⟨x, f⟩, y | ⟨y, g⟩⟩ := c
  · exact lirr _ (ltr x y)
  · rw [y] at x; exact lirr _ x
  · rw [x] at y; exact lirr _ y
  · omega
/-- all places, by their endings -/
def ord (ts : List Str) : List Pl := (pl ts).mergeSort (leP ts)
theorem ord_perm (ts : List Str) : (ord ts).Perm (pl ts) := List.mergeSort_perm _ _
theorem ord_mem {ts : List Str} {p : Pl} : p ∈ ord ts ↔ InT ts p := by rw [← pl_mem]; exact (ord_perm ts).mem_iff
/-- the codes of the i-th ending -/
def sOf (ts : List Str) (i : Nat) : LN := cod (sfx ts ((ord ts).getD i (0, 0)))
theorem ordD {ts : List Str} {i : Nat} (h : i < (ord ts).length) : (ord ts)[i]? = some ((ord ts).getD i (0, 0)) ∧ InT ts ((ord ts).getD i (0, 0)) := by
  have e : (ord ts).getD i (0, 0) = (ord ts)[i] := by rw [List.getD_eq_getElem?_getD, List.getElem?_eq_getElem h]; rfl
  rw [e]
  exact ⟨List.getElem?_eq_getElem h, ord_mem.mp (List.getElem_mem h)⟩
theorem ord_srt (ts : List Str) : Srt (sOf ts) (ord ts).length := by
  intro i j hij hj e
  have p : (ord ts).Pairwise fun a b => leP ts a b = true := List.pairwise_mergeSort (leP_trans ts) (leP_total ts) (pl ts)
  have q := List.pairwise_iff_getElem.mp p i j (by omega) hj hij
  rw [leP_eq] at q
  unfold sOf at e
  rw [List.getD_eq_getElem?_getD, List.getD_eq_getElem?_getD, List.getElem?_eq_getElem hj, List.getElem?_eq_getElem (show i < (ord ts).length by omega)] at e
  exact q (.inl e)
/-! ### lists of pairs in the heap -/
def PsL (H : Hp) (a : Addr) (ps : List Pl) : Prop := ∃ vs, H a = some (.lst vs) ∧ All2 (PAt H) vs ps
theorem PsL.same {H H' : Hp} {a : Addr} {ps : List Pl} (k : Same H H') (h : PsL H a ps) : PsL H' a ps := let ⟨vs, e, q⟩ := h; ⟨vs, k _ _ e, q.imp fun _ _ r => r.same k⟩
/-- an ending and its place -/
def RAt (ts : List Str) (H : Hp) (v : V) (p : Pl) : Prop := ∃ b, v = .ref b ∧ H b = some (.tup [.str (sfx ts p), .int (p.1 : Nat), .int (p.2 : Nat)])
theorem RAt.same {ts : List Str} {H H' : Hp} {v : V} {p : Pl} (k : Same H H') (h : RAt ts H v p) : RAt ts H' v p := let ⟨b, e, q⟩ := h; ⟨b, e, k _ _ q⟩
theorem All2.zs {α β : Type} {R : α → β → Prop} {xs : List α} {ys : List β} (h : All2 R xs ys) : ∃ zs : List (α × β), xs = zs.map (·.1) ∧ ys = zs.map (·.2) ∧ ∀ z ∈ zs, R z.1 z.2 := by
  induction h with
  | nil => exact ⟨[], rfl, rfl, fun z h => absurd h (by simp)⟩
  | @cons x y xs ys r _ ih =>
    obtain ⟨zs, e1, e2, h⟩ := ih
    refine ⟨(x, y) :: zs, by rw [e1]; rfl, by rw [e2]; rfl, fun z hz => ?_⟩
    rcases List.mem_cons.mp hz with e | e
    · rw [e]; exact r
    · exact h z e
theorem All2.ofZ {α β : Type} {R : α → β → Prop} : ∀ {zs : List (α × β)}, (∀ z ∈ zs, R z.1 z.2) → All2 R (zs.map (·.1)) (zs.map (·.2))
  | [], _ => .nil
  | z :: zs, h => .cons (h z List.mem_cons_self) (All2.ofZ fun y hy => h y (List.mem_cons_of_mem _ hy))
theorem enc_depth (ts : List Str) (p : Pl) : (enc ts p).depth ≤ 60 := by
  unfold enc
  simp [PyData.depth, PyData.depthAll]
theorem enc_alike (ts : List Str) (p q : Pl) : alike (enc ts p) (enc ts q) = true := by
  unfold enc
  simp [alike, alikeAll]
theorem enc_dp {ts : List Str} {K : PySem.W.Frag} {H : Hp} {v : V} {p : Pl} (h : RAt ts H v p) : Dp K H v (enc ts p) := by
  obtain ⟨b, rfl, e⟩ := h
  exact .tup (SqT.of e) (.cons (.str _) (.cons (.int _) (.cons (.int _) .nil)))
/-- sorted of a list of rows -/
theorem sorted_rows {ts : List Str} {K : PySem.W.Frag} {H : Hp} {a : Addr} {vs : List V} {ps : List Pl} {Q : VK} (ha : H a = some (.lst vs)) (h : All2 (RAt ts H) vs ps)
    (q : ∀ p vs', H p = none → All2 (RAt ts H) vs' (ps.mergeSort (leP ts)) → Q (.ref p) (upd H p (.lst vs'))) : rSortedD K [.ref a] H Q := by
  obtain ⟨zs, rfl, rfl, hz⟩ := h.zs
  have em : ∀ z : V × Pl, z ∈ zs → z ∈ zs := fun _ h => h
  refine ⟨a, zs.map (fun z => (z.1, enc ts z.2)), rfl, ?_, ?_, ?_, ?_, ?_, fun p np => ?_⟩
  · rw [List.map_map]; exact sq_of ha
  · intro b hb
    obtain ⟨z, hz', rfl⟩ := List.mem_map.mp hb
    exact enc_dp (hz z hz')
  · rw [List.map_map]
    exact AllAlike.of (enc := fun z : V × Pl => enc ts z.2) fun b b' => enc_alike ts _ _
  · rw [List.map_map]
    exact Sortable.tuples (enc := fun z : V × Pl => enc ts z.2) fun b => ⟨_, _, rfl⟩
  · intro b hb
    obtain ⟨z, hz', rfl⟩ := List.mem_map.mp hb
    exact enc_depth ts z.2
  · have e1 : (zs.map fun z => ((z.1, enc ts z.2) : DV)).mergeSort leD = (zs.mergeSort fun z w => leP ts z.2 w.2).map fun z => (z.1, enc ts z.2) := (List.map_mergeSort (r := fun z w : V × Pl => leP ts z.2 w.2) (s := leD) (f := fun z : V × Pl => ((z.1, enc ts z.2) : DV)) (l := zs) fun x _ y _ => rfl).symm
    have e2 : (zs.map (·.2)).mergeSort (leP ts) = (zs.mergeSort fun z w => leP ts z.2 w.2).map (·.2) := (List.map_mergeSort (r := fun z w : V × Pl => leP ts z.2 w.2) (s := leP ts) (f := fun z : V × Pl => z.2) (l := zs) fun x _ y _ => rfl).symm
    rw [e2] at q
    rw [e1, List.map_map]
    exact q p _ np (All2.ofZ fun z hz' => hz z ((List.mergeSort_perm _ _).mem_iff.mp hz'))
end LawK
set_option maxHeartbeats 4000000
namespace LawK
open PySem PySem.Spec PyProof.Rows L2 Ev

theorem walk_en {K : PySem.W.Frag} {a : Addr} {xs : List V} : Walk (Iten K a) xs.length (fun H => SqT K H a xs) (YPair (fun i => some (.int (i : Nat))) (fun i => xs[i]?)) := by
  refine ⟨fun i _ hi q => ⟨xs, xs[i], q, by simp [hi]⟩, fun _ q => ⟨xs, q, Nat.le_refl _⟩, fun i H v H' _ q y => ?_⟩
  obtain ⟨T, x, h1, h2, h3, h4⟩ := y
  exact ⟨T, .int (i : Nat), x, h1, h2, h3, rfl, h4 xs q⟩
def spAllPlaces (C : Addr) : Sp := fun vs H Q _ => ∃ (s : Addr) (ts : List Str), vs = [.ref s] ∧ LibAt H C s ts ∧ ∀ a H', Same H H' → H a = none → PsL H' a (pl ts) → Q (.ref a) H'
def spInOrder (C : Addr) : Sp := fun vs H Q _ => ∃ (s f : Addr) (ts : List Str) (ps : List Pl), vs = [.ref s, .ref f] ∧ LibAt H C s ts ∧ PsL H f ps ∧ ps.length ≤ 2000 ∧ (∀ p ∈ ps, InT ts p) ∧ ∀ a H', Same H H' → H a = none → PsL H' a (ps.mergeSort (leP ts)) → Q (.ref a) H'
def spEndings (C : Addr) : Sp := fun vs H Q _ => ∃ (s : Addr) (ts : List Str), vs = [.ref s] ∧ LibAt H C s ts ∧ ∀ a H', Same H H' → H a = none → PsL H' a (ord ts) → Q (.ref a) H'
def spEnding (C : Addr) : Sp := fun vs H Q _ => ∃ (s : Addr) (ts : List Str) (v : V) (p : Pl), vs = [.ref s, v] ∧ LibAt H C s ts ∧ PAt H v p ∧ InT ts p ∧ Q (.str (sfx ts p)) H
/-- the law's texts -/
structure TsAt (H : Hp) (a : Addr) (ts : List Str) : Prop where
  at_ : H a = some (.tup (ts.map V.str))
  few : ts.length ≤ 8
  sg : ∀ t ∈ ts, sgB t = true
  len : ∀ t ∈ ts, t.length ≤ 200
theorem TsAt.same {H H' : Hp} {a : Addr} {ts : List Str} (k : Same H H') (h : TsAt H a ts) : TsAt H' a ts := ⟨k _ _ h.at_, h.few, h.sg, h.len⟩
def spLOrder : Sp := fun vs H Q _ => ∃ (a : Addr) (ts : List Str), vs = [.ref a] ∧ TsAt H a ts ∧ ∀ b H', Same H H' → H b = none → PsL H' b (ord ts) → Q (.ref b) H'
def spLPlaces : Sp := fun vs H Q _ => ∃ (a : Addr) (ts : List Str), vs = [.ref a] ∧ TsAt H a ts ∧ ∀ b H', Same H H' → H b = none → PsL H' b (pl ts) → Q (.ref b) H'
def spLEnding : Sp := fun vs H Q _ => ∃ (a : Addr) (ts : List Str) (v : V) (p : Pl), vs = [.ref a, v] ∧ TsAt H a ts ∧ PAt H v p ∧ InT ts p ∧ Q (.str (sfx ts p)) H
theorem add_pair {H : Hp} {D b : Addr} {us : List V} {ps : List Pl} {i j : Nat} {y : V} (nb : H b = none) (hD : H D = some (.lst us)) (hu : All2 (PAt H) us ps) (hy : y = .int (j : Nat)) : All2 (PAt (upd (upd H b (.tup [.int (i : Nat), y])) D (.lst (us ++ [.ref b])))) (us ++ [.ref b]) (ps ++ [(i, j)]) := by
  have nDb : b ≠ D := fun e => by rw [e, hD] at nb; cases nb
  subst hy
  refine All2.snoc (hu.imp fun _ _ ⟨c, e, r⟩ => ⟨c, e, ?_⟩) ⟨b, rfl, ?_⟩
  · rw [upd_ne nDb, upd_same]
  · have ncD : c ≠ D := fun e => by rw [e, hD] at r; cases r
    rw [upd_ne ncD]
    exact (Same.new nb) _ _ r
theorem row_take (ts : List Str) (i j : Nat) (h : j < (tx ts i).length) : (List.range (j + 1)).map (fun k => ((i, k) : Pl)) = (List.range j).map (fun k => (i, k)) ++ [(i, j)] := by
  rw [List.range_succ, List.map_append]
  rfl
theorem All2.app {α β : Type} {R : α → β → Prop} {xs zs : List α} {ys us : List β} (h : All2 R xs ys) (k : All2 R zs us) : All2 R (xs ++ zs) (ys ++ us) := by
  induction h with
  | nil => exact k
  | cons r _ ih => exact .cons r ih
theorem All2.of_at {α β : Type} {R : α → β → Prop} {xs : List α} {ys : List β} (h : All2 R xs ys) {i : Nat} {y : β} (e : ys[i]? = some y) : ∃ x, xs[i]? = some x ∧ R x y := by
  induction h generalizing i with
  | nil => simp at e
  | cons r _ ih => cases i with
    | zero => cases e; exact ⟨_, rfl, r⟩
    | succ i => exact ih e
section
variable {P : Program} {w : World} {K : PySem.W.Frag} {mg : Str → Option Value} {base : Heap}
variable {C fI : Addr} {fdI : FuncData}
abbrev sPAllPlaces : Stmt := topS 15
theorem scPAllPlaces : FnScope ["library", "number", "text", "at"] ["library"] (defScope sPAllPlaces) := ⟨rfl, rfl, rfl, by decide +kernel, rfl, by decide +kernel, by decide +kernel⟩
theorem ok_PAllPlaces {f : Addr} {fd : FuncData} (F : Fun K "all_places" "all_places" sPAllPlaces f fd) (L : LibC K mg C fI fdI)  (T : Glob mg) : FnOk P w K mg base CX0 1 f fd ["library"] (spAllPlaces C) := by
  refine F.ok scPAllPlaces (fun vs H Q E h => ?_) (fun cdv A outer s H vs Q E hr h => ?_)
  · obtain ⟨s, ts, rfl, _⟩ := h
    rfl
  · refine ⟨_, (pss_one (ps_ret (pe_lc2 (own := [("number", 1), ("text", 2), ("at", 3)]) (vs1 := [3]) (g := (gTup K 2 (gCons (gName 1) (gCons (gName 2) gNil)))) (g1 := gName 3) (by rfl) scPAllPlaces.nd (pi_enumT (by rfl) T.enumerate (pa_cons (pe_fld (pv 0) rfl) pa_nil)) (blkOk_by (N := ["library", "number", "text", "at"]) (sc := defScope sPAllPlaces) (by decide +kernel)) (by decide) (fun _ _ _ _ _ => pg_tup (by rfl) (pgs_cons (pg_name (i := 1) scPAllPlaces.nd rfl (.inl rfl)) (pgs_cons (pg_name (i := 2) scPAllPlaces.nd rfl (.inl rfl)) pgs_nil))) (fun _ _ _ _ _ => pts_nil) (fun _ _ _ _ _ => (pi_range1 (by rfl) T.range (pa_cons (pe_callB call_lenZ (by rfl) T.len PySem.boot_len (pa_cons (pv 2) pa_nil)) pa_nil))) (fun _ _ _ _ _ => pg_name (i := 3) scPAllPlaces.nd rfl (.inl rfl)) (fun _ _ _ _ _ => pts_nil) (fun _ _ _ _ _ => (pe_tup (pa_cons (pv 1) (pa_cons (pv 3) pa_nil))))))), ?_⟩
    obtain ⟨p, ts, rfl, hl, q⟩ := h
    have hl0 := hl
    obtain ⟨⟨dx, a, h1, h2⟩, few, sg1, len1⟩ := hl
    refine ⟨.ref p, rfl, p, C, dx, _, .ref a, rfl, h1, L.cl, L.nt, lk1, a, _, rfl, SqT.of h2, fun D nD => wk walk_en (fun i H' => Same H H' ∧ ∃ vs, H' D = some (.lst vs) ∧ All2 (PAt H') vs (plN ts i)) ⟨Same.new nD, [], upd_same, .nil⟩ (fun i H' _ w => SqT.of (w.1 _ _ h2)) ?_ ?_⟩
    · rintro i x H1 H2 hi ⟨k1, vs, hD, hv⟩ ⟨T, x1, x2, rfl, nT, rfl, e1, e2⟩
      rw [List.length_map] at hi
      cases e1
      obtain rfl : V.str (tx ts i) = x2 := Option.some.inj ((tx_at hi).symm.trans e2)
      have k2 : Same H1 (upd H1 T (.tup [.int (i : Nat), .str (tx ts i)])) := Same.new nT
      have hT : upd H1 T (.tup [.int (i : Nat), .str (tx ts i)]) T = some (.tup [.int (i : Nat), .str (tx ts i)]) := upd_same
      revert k2 hT
      generalize upd H1 T (.tup [.int (i : Nat), .str (tx ts i)]) = H2
      intro k2 hT
      have ln1 : (tx ts i).length ≤ 200 := tx_len len1 i
      refine ⟨T, _, rfl, SqT.of hT, rfl, _, _, rfl, _, _, rfl, rfl, rfl, _, rfl, _, rfl, len5 (by omega), _, rfl, by omega, by omega, wk walk_range (fun j H' => Same H H' ∧ ∃ vs, H' D = some (.lst vs) ∧ All2 (PAt H') vs (plN ts i ++ (List.range j).map (fun k => (i, k)))) ⟨k1.trans k2, vs, k2 _ _ hD, by simpa using hv.imp fun _ _ r => r.same k2⟩ (fun _ _ _ _ => trivial) ?_ ?_⟩
      · rintro j y H3 H4 hj ⟨k3, us, hD3, hu⟩ ⟨rfl, rfl⟩
        have hj2 : j < (tx ts i).length := by omega
        refine ⟨rfl, _, rfl, _, rfl, by show 2 ≤ sizeLine; decide, fun b nb => ⟨us, ?_, ?_, sameAt (k3.trans (Same.new nb)) nD, us ++ [.ref b], upd_same, ?_⟩⟩
        · exact (Same.new nb) _ _ hD3
        · have z1 := hu.len
          have z2 := plN_len len1 i
          rw [List.length_append, List.length_map, List.length_range] at z1
          have h3 : sizeLine = 16777216 := sizeLine_eq
          omega
        · rw [row_take ts i j hj2, ← List.append_assoc]
          exact add_pair nb hD3 hu (by show V.int (0 + (j : Int)) = V.int (j : Nat); rw [show (0 + (j : Int)) = (j : Nat) by omega])
      · rintro H3 ⟨k3, us, hD3, hu⟩
        refine ⟨k3, us, hD3, ?_⟩
        rw [plN_succ]
        have e : row ts i = (List.range ((((tx ts i).length : Nat) : Int) - 0).toNat).map (fun k => (i, k)) := by
          unfold row
          rw [show ((((tx ts i).length : Nat) : Int) - 0).toNat = (tx ts i).length by omega]
        rw [e]
        exact hu
    · rintro H1 ⟨k1, vs, hD, hv⟩
      rw [List.length_map] at hv
      exact q D H1 k1 nD ⟨vs, hD, hv⟩
end
end LawK
set_option maxHeartbeats 4000000
namespace LawK
open PySem PySem.Spec PyProof.Rows L2 Ev

theorem take_snoc {α : Type} {xs : List α} {i : Nat} {x : α} (h : xs[i]? = some x) : xs.take (i + 1) = xs.take i ++ [x] := by rw [List.take_succ, h]; rfl
theorem add_row {ts : List Str} {H : Hp} {D b : Addr} {us : List V} {ps : List Pl} {p : Pl} {z : Str} (hz : z = sfx ts p) (nb : H b = none) (hD : H D = some (.lst us)) (hu : All2 (RAt ts H) us ps) : All2 (RAt ts (upd (upd H b (.tup [.str z, .int (p.1 : Nat), .int (p.2 : Nat)])) D (.lst (us ++ [.ref b])))) (us ++ [.ref b]) (ps ++ [p]) := by
  have nDb : b ≠ D := fun e => by rw [e, hD] at nb; cases nb
  subst hz
  refine All2.snoc (hu.imp fun _ _ ⟨c, e, r⟩ => ⟨c, e, ?_⟩) ⟨b, rfl, ?_⟩
  · rw [upd_ne nDb, upd_same]
  · have ncD : c ≠ D := fun e => by rw [e, hD] at r; cases r
    rw [upd_ne ncD]
    exact (Same.new nb) _ _ r
theorem all_at {α β : Type} {R : α → β → Prop} {xs : List α} {ys : List β} (h : All2 R xs ys) {i : Nat} {x : α} (e : xs[i]? = some x) : ∃ y, ys[i]? = some y ∧ R x y := h.at e
/-- from rows in order to their places -/
def tRows (K : PySem.W.Frag) (ts : List Str) (H0 : Hp) (D : Addr) (qs : List Pl) (i : Nat) (H' : Hp) : Prop := Same H0 H' ∧ ∃ us, H' D = some (.lst us) ∧ All2 (PAt H') us (qs.take i)
section
variable {P : Program} {w : World} {K : PySem.W.Frag} {mg : Str → Option Value} {base : Heap}
variable {C fI : Addr} {fdI : FuncData}
abbrev sPInOrder : Stmt := topS 17
theorem scPInOrder : FnScope ["library", "found", "rows", "text", "at", "_"] ["library", "found"] (defScope sPInOrder) := ⟨rfl, rfl, rfl, by decide +kernel, rfl, by decide +kernel, by decide +kernel⟩
theorem ok_PInOrder {f : Addr} {fd : FuncData} (F : Fun K "in_order" "in_order" sPInOrder f fd) (L : LibC K mg C fI fdI)  (T : Glob mg) : FnOk P w K mg base CX0 1 f fd ["library", "found"] (spInOrder C) := by
  refine F.ok scPInOrder (fun vs H Q E h => ?_) (fun cdv A outer s H vs Q E hr h => ?_)
  · obtain ⟨s, f, ts, ps, rfl, _⟩ := h
    rfl
  · refine ⟨_, (pss_cons (ps_setLc (i := 2) (own := [("text", 3), ("at", 4)]) (g := (gTup K 2 (gCons (gName 3) (gCons (gName 4) gNil)))) (by rfl) scPInOrder.nd rfl rfl (sw_true rfl rfl rfl (by decide +kernel)) (pi_list (pv 1)) (blkOk_by (N := ["library", "found", "rows", "text", "at", "_"]) (sc := defScope sPInOrder) (by decide +kernel)) (fun _ _ _ _ _ => pg_tup (by rfl) (pgs_cons (pg_name (i := 3) scPInOrder.nd rfl (.inl rfl)) (pgs_cons (pg_name (i := 4) scPInOrder.nd rfl (.inl rfl)) pgs_nil))) (fun _ _ _ _ _ => pts_nil) (fun _ _ _ _ _ => (pe_tup (pa_cons (pe_slice sl_str (pe_ix (r := rIxT K) (ta := tFld K (tVar 0) "texts") ix_tup (pe_fld (pv 0) rfl) (pv 3) (fun _ _ => rfl)) (po_some (pv 4)) po_none) (pa_cons (pv 3) (pa_cons (pv 4) pa_nil))))))
      (pss_one (ps_ret (pe_lc (own := [("_", 5), ("text", 3), ("at", 4)]) (g := (gTup K 3 (gCons (gName 5) (gCons (gName 3) (gCons (gName 4) gNil))))) (by rfl) scPInOrder.nd (pi_list (pe_callB (cr_sortedD hr.units) (by rfl) T.sorted (by decide +kernel) (pa_cons (pv 2) pa_nil))) (blkOk_by (N := ["library", "found", "rows", "text", "at", "_"]) (sc := defScope sPInOrder) (by decide +kernel)) (fun _ _ _ _ _ => pg_tup (by rfl) (pgs_cons (pg_name (i := 5) scPInOrder.nd rfl (.inl rfl)) (pgs_cons (pg_name (i := 3) scPInOrder.nd rfl (.inl rfl)) (pgs_cons (pg_name (i := 4) scPInOrder.nd rfl (.inl rfl)) pgs_nil)))) (fun _ _ _ _ _ => pts_nil) (fun _ _ _ _ _ => (pe_tup (pa_cons (pv 3) (pa_cons (pv 4) pa_nil)))))))), ?_⟩
    obtain ⟨s, f, ts, ps, rfl, hl, ⟨vs, hf, hv⟩, few, hin, q⟩ := h
    obtain ⟨⟨dx, a, h1, h2⟩, few1, sg1, len1⟩ := hl
    refine ⟨.ref f, rfl, f, rfl, ⟨_, sq_of hf⟩, fun D nD => lc_list (xs := vs) (fun i H' => Same H H' ∧ ∃ us, H' D = some (.lst us) ∧ All2 (RAt ts H') us (ps.take i)) ⟨Same.new nD, [], upd_same, .nil⟩ (fun i H' _ w => sq_of (w.1 _ _ hf)) ?_ ?_⟩
    · rintro i x H2 hx ⟨k2, us, hD, hu⟩
      obtain ⟨p, ep, b, rfl, eb⟩ := hv.at hx
      have ip := hin p (List.mem_of_getElem? ep)
      have eb2 := k2 _ _ eb
      refine ⟨b, _, rfl, SqT.of eb2, rfl, _, _, rfl, _, _, rfl, rfl, rfl, .ref s, rfl, s, C, dx, _, .ref a, rfl, k2 _ _ h1, L.cl, L.nt, lk1, _, rfl, a, _, _, _, rfl, rfl, SqT.of (k2 _ _ h2), atI_nat (tx_at ip.text), _, rfl, _, rfl, _, rfl, len5 (Nat.le_trans (tx_len len1 _) (by decide)), _, rfl, _, rfl, by show 3 ≤ sizeLine; decide, fun c nc => ⟨us, (Same.new nc) _ _ hD, ?_, sameAt (k2.trans (Same.new nc)) nD, us ++ [.ref c], upd_same, ?_⟩⟩
      · have z1 := hu.len
        rw [List.length_take] at z1
        have h3 : sizeLine = 16777216 := sizeLine_eq
        omega
      · rw [take_snoc ep]
        exact add_row rfl nc hD hu
    · rintro H2 ⟨k2, us, hD, hu⟩
      rw [hv.len, List.take_length] at hu
      refine ⟨.ref D, rfl, ?_⟩
      dsimp only [tNil]
      refine sorted_rows hD hu fun A ws nA hw => ?_
      have kA : Same H (upd H2 A (.lst ws)) := k2.trans (Same.new nA)
      have hw := hw.imp fun _ _ r => r.same (Same.new (o := .lst ws) nA)
      have hA : upd H2 A (.lst ws) A = some (.lst ws) := upd_same
      clear nD hD
      revert kA hw hA
      generalize upd H2 A (.lst ws) = HX
      intro kA hw hA
      have lq : (ps.mergeSort (leP ts)).length ≤ 2000 := by rw [List.length_mergeSort]; exact few
      revert q lq hw
      generalize ps.mergeSort (leP ts) = qs
      intro q hw lq
      refine ⟨A, rfl, ⟨_, sq_of hA⟩, fun D nD => lc_list (xs := ws) (fun i H' => Same HX H' ∧ ∃ us, H' D = some (.lst us) ∧ All2 (PAt H') us (qs.take i)) ⟨Same.new nD, [], upd_same, .nil⟩ (fun i H' _ w => sq_of (w.1 _ _ hA)) ?_ ?_⟩
      · rintro i x H2 hx ⟨k2, us, hD, hu⟩
        obtain ⟨p, ep, b, rfl, eb⟩ := hw.at hx
        have eb2 := k2 _ _ eb
        refine ⟨b, _, rfl, SqT.of eb2, rfl, _, _, rfl, _, _, rfl, _, _, rfl, rfl, rfl, _, rfl, _, rfl, by show 2 ≤ sizeLine; decide, fun c nc => ⟨us, (Same.new nc) _ _ hD, ?_, sameAt (k2.trans (Same.new nc)) nD, us ++ [.ref c], upd_same, ?_⟩⟩
        · have z1 := hu.len
          rw [List.length_take] at z1
          have h3 : sizeLine = 16777216 := sizeLine_eq
          have h4 : i < qs.length := (List.getElem?_eq_some_iff.mp ep).1
          omega
        · rw [take_snoc ep]
          exact add_pair nc hD hu rfl
      · rintro H2 ⟨k2, us, hD, hu⟩
        rw [hw.len, List.take_length] at hu
        exact q D H2 (kA.trans k2) (Same.free kA nD) ⟨us, hD, hu⟩
end
end LawK
set_option maxHeartbeats 4000000
namespace LawK
open PySem PySem.Spec PyProof.Rows L2 Ev
section
variable {P : Program} {w : World} {K : PySem.W.Frag} {mg : Str → Option Value} {base : Heap}
variable {C fI : Addr} {fdI : FuncData}
abbrev sPEndings : Stmt := topS 18
theorem scPEndings : FnScope ["library"] ["library"] (defScope sPEndings) := ⟨rfl, rfl, rfl, by decide +kernel, rfl, by decide +kernel, by decide +kernel⟩
theorem ok_PEndings {f : Addr} {fd : FuncData} (F : Fun K "endings" "endings" sPEndings f fd)  {fPAllPlaces : Addr} {fdPAllPlaces : FuncData} (DPAllPlaces : Dk P w K mg base "all_places" sPAllPlaces ["library"] 1 (spAllPlaces C) fPAllPlaces fdPAllPlaces) {fPInOrder : Addr} {fdPInOrder : FuncData} (DPInOrder : Dk P w K mg base "in_order" sPInOrder ["library", "found"] 1 (spInOrder C) fPInOrder fdPInOrder) (T : Glob mg) : FnOk P w K mg base CX0 2 f fd ["library"] (spEndings C) := by
  refine F.ok scPEndings (fun vs H Q E h => ?_) (fun cdv A outer s H vs Q E hr h => ?_)
  · obtain ⟨s, ts, rfl, _⟩ := h
    rfl
  · refine ⟨_, (pss_one (ps_ret (pe_call DPInOrder.ok (hr.mono (by decide)) (by rfl) DPInOrder.g DPInOrder.F.kp DPInOrder.b .nil pass0 (pa_cons (pv 0) (pa_cons (pe_call DPAllPlaces.ok (hr.mono (by decide)) (by rfl) DPAllPlaces.g DPAllPlaces.F.kp DPAllPlaces.b .nil pass0 (pa_cons (pv 0) pa_nil)) pa_nil))))), ?_⟩
    obtain ⟨s, ts, rfl, hl, q⟩ := h
    refine ⟨.ref s, rfl, .ref s, rfl, s, ts, rfl, hl, fun a H1 k1 na hp => ?_⟩
    refine ⟨s, a, ts, pl ts, rfl, hl.same k1, hp, ?_, fun p h => pl_mem.mp h, fun b H2 k2 nb h2 => q b H2 (k1.trans k2) (Same.free k1 nb) h2⟩
    have := plN_len hl.len ts.length
    have := hl.few
    show (plN ts ts.length).length ≤ 2000
    omega
abbrev sPEnding : Stmt := topS 19
theorem scPEnding : FnScope ["library", "place", "text", "at"] ["library", "place"] (defScope sPEnding) := ⟨rfl, rfl, rfl, by decide +kernel, rfl, by decide +kernel, by decide +kernel⟩
theorem ok_PEnding {f : Addr} {fd : FuncData} (F : Fun K "ending" "ending" sPEnding f fd) (L : LibC K mg C fI fdI) {fPPlace : Addr} {fdPPlace : FuncData} (DPPlace : Dk P w K mg base "is_place" sPPlace ["library", "thing"] 2 (spPPlace C) fPPlace fdPPlace) (T : Glob mg) : FnOk P w K mg base CX0 3 f fd ["library", "place"] (spEnding C) := by
  refine F.ok scPEnding (fun vs H Q E h => ?_) (fun cdv A outer s H vs Q E hr h => ?_)
  · obtain ⟨s, ts, v, p, rfl, _⟩ := h
    rfl
  · refine ⟨_, (pss_cons (ps_if (pt_not (pt_val (pe_call DPPlace.ok (hr.mono (by decide)) (by rfl) DPPlace.g DPPlace.F.kp DPPlace.b .nil pass0 (pa_cons (pv 0) (pa_cons (pv 1) pa_nil)))))
      (pss_one ps_dead)
      pss_nil)
      (pss_cons (ps_asg (pv 1) (pg_tup (by rfl) (pgs_cons (pg_name (i := 2) scPEnding.nd rfl (.inl rfl)) (pgs_cons (pg_name (i := 3) scPEnding.nd rfl (.inl rfl)) pgs_nil))))
      (pss_one (ps_ret (pe_slice sl_str (pe_ix ix_tup (pe_fld (pv 0) rfl) (pv 2) (fun _ _ => rfl)) (po_some (pv 3)) po_none))))), ?_⟩
    obtain ⟨s, ts, v, p, rfl, hl, hp, hi, q⟩ := h
    have hl0 := hl
    obtain ⟨⟨dx, a, h1, h2⟩, few, sg1, len1⟩ := hl
    obtain ⟨b, rfl, e⟩ := hp
    refine ⟨.ref s, rfl, .ref b, rfl, s, ts, .ref b, p, rfl, hl0, ⟨b, rfl, e⟩, hi, _, rfl, iteF ?_⟩
    refine ⟨.ref b, rfl, b, _, rfl, SqT.of e, rfl, _, _, rfl, _, _, rfl, rfl, ?_⟩
    exact ⟨.ref s, rfl, s, C, dx, _, .ref a, rfl, h1, L.cl, L.nt, lk1, _, rfl, a, _, _, _, rfl, rfl, SqT.of h2, atI_nat (tx_at hi.text), _, rfl, _, rfl, _, rfl, len5 (Nat.le_trans (tx_len len1 _) (by decide)), q⟩
abbrev sPlaces : Stmt := topS 46
theorem scPlaces : FnScope ["texts", "found", "number", "at"] ["texts"] (defScope sPlaces) := ⟨rfl, rfl, rfl, by decide +kernel, rfl, by decide +kernel, by decide +kernel⟩
theorem ok_Places {f : Addr} {fd : FuncData} (F : Fun K "_law_places" "_law_places" sPlaces f fd)   (T : Glob mg) : FnOk P w K mg base CX0 1 f fd ["texts"] spLPlaces := by
  refine F.ok scPlaces (fun vs H Q E h => ?_) (fun cdv A outer s H vs Q E hr h => ?_)
  · obtain ⟨a, ts, rfl, _⟩ := h
    rfl
  · refine ⟨_, (pss_cons (ps_set (i := 1) scPlaces.nd rfl (.inl rfl) (pe_lst pa_nil))
      (pss_cons (ps_for PassesOwn.never rfl (pi_range1 (by rfl) T.range (pa_cons (pe_callB call_len_seq (by rfl) T.len PySem.boot_len (pa_cons (pv 0) pa_nil)) pa_nil)) (pg_name (i := 2) scPlaces.nd rfl (.inr rfl))
      (pss_one (ps_set (i := 1) scPlaces.nd rfl (.inl rfl) (pe_op op_cat (pv 1) (pe_lc (own := [("at", 3)]) (g := gName 3) (by rfl) scPlaces.nd (pi_range1 (by rfl) T.range (pa_cons (pe_callB call_lenZ (by rfl) T.len PySem.boot_len (pa_cons (pe_ix ix_tup (pv 0) (pv 2) (fun _ _ => rfl)) pa_nil)) pa_nil)) (blkOk_by (N := ["texts", "found", "number", "at"]) (sc := defScope sPlaces) (by decide +kernel)) (fun _ _ _ _ _ => pg_name (i := 3) scPlaces.nd rfl (.inl rfl)) (fun _ _ _ _ _ => pts_nil) (fun _ _ _ _ _ => (pe_tup (pa_cons (pv 2) (pa_cons (pv 3) pa_nil)))))))))
      (pss_one (ps_ret (pv 1))))), ?_⟩
    obtain ⟨a, ts, rfl, ht, q⟩ := h
    refine ⟨by show 0 ≤ sizeLine; decide, fun f nf => ?_⟩
    have lm : (ts.map V.str).length = ts.length := List.length_map ..
    have few8 := ht.few
    refine ⟨.ref a, rfl, a, _, rfl, .inr (SqT.of ((Same.new nf) _ _ ht.at_)), _, rfl, by omega, by omega, for_range (fun i σ H' => ∃ (x y : Option V) (g : Addr) (us : List V), σ = [some (.ref a), some (.ref g), x, y] ∧ H g = none ∧ Same H H' ∧ H' g = some (.lst us) ∧ All2 (PAt H') us (plN ts i)) ⟨_, _, f, [], rfl, nf, Same.new nf, upd_same, .nil⟩ ?_ ?_⟩
    · rintro i σ H1 hi ⟨x, y, g, us, rfl, ng, k1, hg, hu⟩
      rw [lm] at hi
      have hi : i < ts.length := by omega
      have ln1 : (tx ts i).length ≤ 200 := tx_len ht.len i
      have e0 : (0 + (i : Int)) = (i : Nat) := by omega
      rw [e0]
      refine ⟨_, rfl, .ref a, rfl, .int (i : Nat), rfl, a, _, _, _, rfl, rfl, SqT.of (k1 _ _ ht.at_), atI_nat (tx_at hi), _, rfl, len5 (by omega), _, rfl, by omega, by omega, fun D nD => lc_range (fun j H' => Same H1 H' ∧ ∃ vs, H' D = some (.lst vs) ∧ All2 (PAt H') vs ((List.range j).map (fun k => (i, k)))) ⟨Same.new nD, [], upd_same, .nil⟩ ?_ ?_⟩
      · rintro j H2 hj ⟨k2, vs, hD, hv⟩
        have hj2 : j < (tx ts i).length := by omega
        refine ⟨rfl, _, rfl, _, rfl, by show 2 ≤ sizeLine; decide, fun b nb => ⟨vs, (Same.new nb) _ _ hD, ?_, sameAt (k2.trans (Same.new nb)) nD, vs ++ [.ref b], upd_same, ?_⟩⟩
        · have z1 := hv.len
          rw [List.length_map, List.length_range] at z1
          have h3 : sizeLine = 16777216 := sizeLine_eq
          omega
        · rw [row_take ts i j hj2]
          exact add_pair nb hD hv (by show V.int (0 + (j : Int)) = V.int (j : Nat); rw [show (0 + (j : Int)) = (j : Nat) by omega])
      · rintro H2 ⟨k2, vs, hD, hv⟩
        have kk := k1.trans k2
        have e : (List.range (((tx ts i).length : Nat) : Int).toNat).map (fun k => ((i, k) : Pl)) = row ts i := by
          unfold row
          rw [show (((tx ts i).length : Nat) : Int).toNat = (tx ts i).length by omega]
        rw [e] at hv
        refine ⟨g, D, us, vs, rfl, rfl, k2 _ _ hg, hD, ?_, fun G nG => ?_⟩
        · rw [hu.len, hv.len]
          have z2 := plN_len ht.len i
          have : (row ts i).length = (tx ts i).length := by unfold row; rw [List.length_map, List.length_range]
          have h3 : sizeLine = 16777216 := sizeLine_eq
          have := ht.few
          omega
        · refine ⟨_, _, G, us ++ vs, rfl, Same.free kk nG, kk.trans (Same.new nG), upd_same, ?_⟩
          rw [plN_succ]
          have ks : Same H2 (upd H2 G (.lst (us ++ vs))) := Same.new nG
          exact (hu.imp fun _ _ r => r.same (k2.trans ks)).app (hv.imp fun _ _ r => r.same ks)
    
    · rintro σ H1 ⟨x, y, g, us, rfl, ng, k1, hg, hu⟩
      have e2 : (((ts.map V.str).length : Nat) : Int).toNat = ts.length := by omega
      rw [e2] at hu
      exact ⟨.ref g, rfl, q g H1 k1 ng ⟨us, hg, hu⟩⟩
end
end LawK
set_option maxHeartbeats 4000000
namespace LawK
open PySem PySem.Spec PyProof.Rows L2 Ev

theorem cut_eq {x y : LN} {a m : Nat} (ha : a ≤ lcp x y) (h : a ≤ m) (hx : m ≤ x.length) (hy : m ≤ y.length) : ((x.drop a).take (m - a) = (y.drop a).take (m - a)) ↔ m ≤ lcp x y := by
  rw [← lcp_take x y hx hy]
  have e1 : ∀ z : LN, z.take m = z.take a ++ (z.drop a).take (m - a) := fun z => by
    rw [← List.take_add, show a + (m - a) = m by omega]
  have e2 := (lcp_take x y (m := a) (by omega) (by omega)).mpr ha
  rw [e1 x, e1 y, e2]
  exact ⟨fun h => by rw [h], fun h => List.append_cancel_left h⟩
theorem lcp_step {x y : LN} {i c d : Nat} (h : i ≤ lcp x y) (hx : x[i]? = some c) (hy : y[i]? = some d) : (c = d → i + 1 ≤ lcp x y) ∧ (c ≠ d → lcp x y = i) := by
  have lx := (List.getElem?_eq_some_iff.mp hx).1
  have ly := (List.getElem?_eq_some_iff.mp hy).1
  have e2 := (lcp_take x y (m := i) (by omega) (by omega)).mpr h
  have e3 := lcp_take x y (m := i + 1) (by omega) (by omega)
  rw [take_snoc hx, take_snoc hy, e2] at e3
  refine ⟨fun e => e3.mp (by rw [e]), fun n => Nat.le_antisymm (Nat.le_of_not_lt fun z => ?_) h⟩
  have := List.append_cancel_left (e3.mpr z)
  exact n (List.cons.inj this).1
def spCommonZ : Sp := fun vs H Q _ => ∃ (x y : Str), vs = [.str x, .str y] ∧ x.length ≤ 5000 ∧ y.length ≤ 5000 ∧ Q (.int (lcp (cod x) (cod y) : Nat)) H
def spCommonP (C : Addr) : Sp := fun vs H Q _ => ∃ (s : Addr) (ts : List Str) (v u : V) (p r : Pl), vs = [.ref s, v, u] ∧ LibAt H C s ts ∧ PAt H v p ∧ InT ts p ∧ PAt H u r ∧ InT ts r ∧ Q (.int (lcp (cod (sfx ts p)) (cod (sfx ts r)) : Nat)) H
abbrev iN (n : Nat) : V := .int (n : Nat)
/-- what neighbours in order have in common -/
def lensOf (ts : List Str) : List Nat := (List.range (ord ts).length).map (ln (sOf ts))
def spLengths (C : Addr) : Sp := fun vs H Q _ => ∃ (s : Addr) (ts : List Str), vs = [.ref s] ∧ LibAt H C s ts ∧ ∀ a H', Same H H' → H a = none → H' a = some (.lst ((lensOf ts).map iN)) → Q (.ref a) H'
def spLLengths : Sp := fun vs H Q _ => ∃ (a b : Addr) (ts : List Str), vs = [.ref a, .ref b] ∧ TsAt H a ts ∧ PsL H b (ord ts) ∧ ∀ d H', Same H H' → H d = none → H' d = some (.lst ((lensOf ts).map iN)) → Q (.ref d) H'
theorem sfx_len2 {ts : List Str} (h : ∀ t ∈ ts, t.length ≤ 200) (p : Pl) : (sfx ts p).length ≤ 200 := by
  have := tx_len h p.1
  rw [sfx_len]
  omega
theorem ord_len {ts : List Str} (h : ∀ t ∈ ts, t.length ≤ 200) (f : ts.length ≤ 8) : (ord ts).length ≤ 1600 := by
  have := plN_len h ts.length
  rw [(ord_perm ts).length_eq]
  show (plN ts ts.length).length ≤ 1600
  omega
theorem ord_at {ts : List Str} {i : Nat} {p : Pl} (h : (ord ts)[i]? = some p) : sOf ts i = cod (sfx ts p) := by
  unfold sOf
  rw [List.getD_eq_getElem?_getD, h]
  rfl
section
variable {P : Program} {w : World} {K : PySem.W.Frag} {mg : Str → Option Value} {base : Heap}
variable {C fI : Addr} {fdI : FuncData}
abbrev sQCommon : Stmt := topS 20
theorem scQCommon : FnScope ["one", "other", "low", "high", "middle"] ["one", "other"] (defScope sQCommon) := ⟨rfl, rfl, rfl, by decide +kernel, rfl, by decide +kernel, by decide +kernel⟩
theorem ok_QCommon {f : Addr} {fd : FuncData} (F : Fun K "_common" "_common" sQCommon f fd)   (T : Glob mg) : FnOk P w K mg base CX0 1 f fd ["one", "other"] spCommonZ := by
  refine F.ok scQCommon (fun vs H Q E h => ?_) (fun cdv A outer s H vs Q E hr h => ?_)
  · obtain ⟨x, y, rfl, _⟩ := h
    rfl
  · refine ⟨_, (pss_cons (ps_set (i := 2) scQCommon.nd rfl (.inl rfl) pe_int)
      (pss_cons (ps_set (i := 3) scQCommon.nd rfl (.inl rfl) (pe_callB (call_min2 rfl) (by rfl) T.min (by decide +kernel) (pa_cons (pe_callB call_lenZ (by rfl) T.len PySem.boot_len (pa_cons (pv 0) pa_nil)) (pa_cons (pe_callB call_lenZ (by rfl) T.len PySem.boot_len (pa_cons (pv 1) pa_nil)) pa_nil))))
      (pss_cons (ps_while PassesOwn.never (pt_cmpR op_lt (pv 2) (pv 3) (nomark _))
      (pss_cons (ps_set (i := 4) scQCommon.nd rfl (.inl rfl) (pe_op op_fdiv (pe_op op_add (pe_op op_add (pv 2) (pv 3)) pe_int) pe_int))
        (pss_one (ps_if (pt_cmpR op_eq (pe_slice sl_str (pv 0) (po_some (pv 2)) (po_some (pv 4))) (pe_slice sl_str (pv 1) (po_some (pv 2)) (po_some (pv 4))) (nomark _))
        (pss_one (ps_set (i := 2) scQCommon.nd rfl (.inl rfl) (pv 4)))
        (pss_one (ps_set (i := 3) scQCommon.nd rfl (.inl rfl) (pe_op op_sub (pv 4) pe_int)))))))
      (pss_one (ps_ret (pv 2)))))), ?_⟩
    obtain ⟨x, y, rfl, lx, ly, q⟩ := h
    refine ⟨.str x, rfl, x, rfl, len5 lx, .str y, rfl, y, rfl, len5 ly, _, _, rfl, ?_⟩
    dsimp only
    have em : (if ((y.length : Nat) : Int) < ((x.length : Nat) : Int) then ((y.length : Nat) : Int) else ((x.length : Nat) : Int)) = ((min x.length y.length : Nat) : Int) := by
      split <;> omega
    rw [em]
    have ll := lcp_le (cod x) (cod y)
    have cx : (cod x).length = x.length := (len_S x).symm
    have cy : (cod y).length = y.length := (len_S y).symm
    refine ⟨fun m σ H' => ∃ (a b : Nat) (u : Option V), σ = [some (.str x), some (.str y), some (.int (a : Nat)), some (.int (b : Nat)), u] ∧ H' = H ∧ a ≤ lcp (cod x) (cod y) ∧ lcp (cod x) (cod y) ≤ b ∧ b ≤ min x.length y.length ∧ m = b - a, ⟨_, 0, min x.length y.length, none, rfl, rfl, Nat.zero_le _, by omega, Nat.le_refl _, rfl⟩, ?_⟩
    rintro m σ H' ⟨a, b, u, rfl, rfl, ha, hb, hm, rfl⟩
    refine ⟨_, rfl, _, rfl, _, _, rfl, rfl, _, rfl, ite2 (fun e => ?_) (fun e => ?_)⟩
    · have lt : a < b := by have := of_decide_eq_true e; omega
      refine ⟨fun σ' H'' => ∃ m', m' < b - a ∧ ∃ (a b : Nat) (u : Option V), σ' = [some (.str x), some (.str y), some (.int (a : Nat)), some (.int (b : Nat)), u] ∧ H'' = H' ∧ a ≤ lcp (cod x) (cod y) ∧ lcp (cod x) (cod y) ≤ b ∧ b ≤ min x.length y.length ∧ m' = b - a, fun σ' H'' h => h, ?_⟩
      refine ⟨_, rfl, _, rfl, _, _, rfl, rfl, _, _, rfl, rfl, _, _, rfl, rfl, ⟨by decide, by decide⟩, ?_⟩
      dsimp only
      obtain ⟨c, ec⟩ : ∃ c : Nat, c = (a + b + 1) / 2 := ⟨_, rfl⟩
      have ec2 : ((a : Nat) + (b : Nat) + 1 : Int) / 2 = (c : Nat) := by omega
      rw [ec2]
      have c1 : a ≤ c ∧ c ≤ b ∧ a < c := by omega
      have ce := cut_eq (x := cod x) (y := cod y) (a := a) (m := c) ha c1.1 (by omega) (by omega)
      have dx := cutS_of (z := x) (i := (a : Nat)) (j := (c : Nat)) (by omega) (by omega)
      have dy := cutS_of (z := y) (i := (a : Nat)) (j := (c : Nat)) (by omega) (by omega)
      have e3 : (((c : Nat) : Int) - (a : Nat)).toNat = c - a := by omega
      rw [e3] at dx dy
      have dx : cod (cutS x (some (a : Nat)) (some (c : Nat))) = ((cod x).drop a).take (c - a) := dx
      have dy : cod (cutS y (some (a : Nat)) (some (c : Nat))) = ((cod y).drop a).take (c - a) := dy
      have key : cutS x (some (a : Nat)) (some (c : Nat)) = cutS y (some (a : Nat)) (some (c : Nat)) ↔ c ≤ lcp (cod x) (cod y) := by
        rw [← ce]
        exact ⟨fun h => by have := congrArg cod h; rw [dx, dy] at this; exact this, fun h => cod_inj (by rw [dx, dy]; exact h)⟩
      refine ⟨_, rfl, _, rfl, _, rfl, _, rfl, _, rfl, x, rfl, len5 lx, _, rfl, _, rfl, _, rfl, _, rfl, _, rfl, y, rfl, len5 ly, rfl, _, rfl, ite2 (fun e => ?_) (fun e => ?_)⟩
      · rw [dec_str] at e
        have h := key.mp (of_decide_eq_true e)
        exact ⟨_, rfl, b - c, by omega, c, b, _, rfl, rfl, h, hb, hm, rfl⟩
      · rw [dec_str] at e
        have h : ¬ c ≤ lcp (cod x) (cod y) := fun z => e (decide_eq_true (key.mpr z))
        refine ⟨_, rfl, _, _, rfl, rfl, ?_⟩
        have e5 : ((c : Nat) : Int) - 1 = ((c - 1 : Nat) : Int) := by omega
        dsimp only
        rw [e5]
        exact ⟨c - 1 - a, by omega, a, c - 1, _, rfl, rfl, ha, by omega, by omega, rfl⟩
    · have ge : ¬ a < b := fun z => e (decide_eq_true (by omega))
      have : a = lcp (cod x) (cod y) := by omega
      exact ⟨_, rfl, by rw [this]; exact q⟩
abbrev sPCommon : Stmt := topS 21
theorem scPCommon : FnScope ["library", "one", "other"] ["library", "one", "other"] (defScope sPCommon) := ⟨rfl, rfl, rfl, by decide +kernel, rfl, by decide +kernel, by decide +kernel⟩
theorem ok_PCommon {f : Addr} {fd : FuncData} (F : Fun K "common" "common" sPCommon f fd)  {fPEnding : Addr} {fdPEnding : FuncData} (DPEnding : Dk P w K mg base "ending" sPEnding ["library", "place"] 3 (spEnding C) fPEnding fdPEnding) {fQCommon : Addr} {fdQCommon : FuncData} (DQCommon : Dk P w K mg base "_common" sQCommon ["one", "other"] 1 spCommonZ fQCommon fdQCommon) (T : Glob mg) : FnOk P w K mg base CX0 4 f fd ["library", "one", "other"] (spCommonP C) := by
  refine F.ok scPCommon (fun vs H Q E h => ?_) (fun cdv A outer s H vs Q E hr h => ?_)
  · obtain ⟨s, ts, v, u, p, r, rfl, _⟩ := h
    rfl
  · refine ⟨_, (pss_one (ps_ret (pe_call DQCommon.ok (hr.mono (by decide)) (by rfl) DQCommon.g DQCommon.F.kp DQCommon.b .nil pass0 (pa_cons (pe_call DPEnding.ok (hr.mono (by decide)) (by rfl) DPEnding.g DPEnding.F.kp DPEnding.b .nil pass0 (pa_cons (pv 0) (pa_cons (pv 1) pa_nil))) (pa_cons (pe_call DPEnding.ok (hr.mono (by decide)) (by rfl) DPEnding.g DPEnding.F.kp DPEnding.b .nil pass0 (pa_cons (pv 0) (pa_cons (pv 2) pa_nil))) pa_nil))))), ?_⟩
    obtain ⟨s, ts, v, u, p, r, rfl, hl, hp, ip, hr2, ir, q⟩ := h
    have l1 := sfx_len2 hl.len p
    have l2 := sfx_len2 hl.len r
    exact ⟨.ref s, rfl, v, rfl, s, ts, v, p, rfl, hl, hp, ip, .ref s, rfl, u, rfl, s, ts, u, r, rfl, hl, hr2, ir, _, _, rfl, by omega, by omega, q⟩
abbrev sPLengths : Stmt := topS 22
theorem scPLengths : FnScope ["library", "order", "one", "other"] ["library"] (defScope sPLengths) := ⟨rfl, rfl, rfl, by decide +kernel, rfl, by decide +kernel, by decide +kernel⟩
theorem ok_PLengths {f : Addr} {fd : FuncData} (F : Fun K "lengths" "lengths" sPLengths f fd)  {fPEndings : Addr} {fdPEndings : FuncData} (DPEndings : Dk P w K mg base "endings" sPEndings ["library"] 2 (spEndings C) fPEndings fdPEndings) {fPCommon : Addr} {fdPCommon : FuncData} (DPCommon : Dk P w K mg base "common" sPCommon ["library", "one", "other"] 4 (spCommonP C) fPCommon fdPCommon) (T : Glob mg) : FnOk P w K mg base CX0 5 f fd ["library"] (spLengths C) := by
  refine F.ok scPLengths (fun vs H Q E h => ?_) (fun cdv A outer s H vs Q E hr h => ?_)
  · obtain ⟨s, ts, rfl, _⟩ := h
    rfl
  · refine ⟨_, (pss_cons (ps_set (i := 1) scPLengths.nd rfl (.inl rfl) (pe_call DPEndings.ok (hr.mono (by decide)) (by rfl) DPEndings.g DPEndings.F.kp DPEndings.b .nil pass0 (pa_cons (pv 0) pa_nil)))
      (pss_one (ps_ret (pe_op op_cat (pe_op op_rep (pe_lst (pa_cons pe_int pa_nil)) (pe_callB (call_min2 rfl) (by rfl) T.min (by decide +kernel) (pa_cons (pe_callB call_len_seq (by rfl) T.len PySem.boot_len (pa_cons (pv 1) pa_nil)) (pa_cons pe_int pa_nil)))) (pe_lc (own := [("one", 2), ("other", 3)]) (g := (gTup K 2 (gCons (gName 2) (gCons (gName 3) gNil)))) (by rfl) scPLengths.nd (RZ.pi_zipA (by rfl) T.zip (pa_cons (pv 1) (pa_cons (pe_slice sl_list (pv 1) (po_some pe_int) po_none) pa_nil))) (blkOk_by (N := ["library", "order", "one", "other"]) (sc := defScope sPLengths) (by decide +kernel)) (fun _ _ _ _ _ => pg_tup (by rfl) (pgs_cons (pg_name (i := 2) scPLengths.nd rfl (.inl rfl)) (pgs_cons (pg_name (i := 3) scPLengths.nd rfl (.inl rfl)) pgs_nil))) (fun _ _ _ _ _ => pts_nil) (fun _ _ _ _ _ => (pe_call DPCommon.ok (hr.mono (by decide)) (by rfl) DPCommon.g DPCommon.F.kp DPCommon.b .nil pass0 (pa_cons (pv 0) (pa_cons (pv 2) (pa_cons (pv 3) pa_nil)))))))))), ?_⟩
    obtain ⟨s, ts, rfl, hl, q⟩ := h
    have ol := ord_len hl.len hl.few
    refine ⟨.ref s, rfl, s, ts, rfl, hl, fun a H1 k1 na ⟨vs, hA, hv⟩ => ?_⟩
    have lv := hv.len
    refine ⟨by show 1 ≤ sizeLine; decide, fun z nz => ?_⟩
    have kz := Same.new (H := H1) (o := .lst [.int 0]) nz
    have hz : upd H1 z (.lst [.int 0]) z = some (.lst [.int 0]) := upd_same
    revert kz hz
    generalize upd H1 z (.lst [.int 0]) = H2
    intro kz hz
    refine ⟨.ref a, rfl, a, vs, rfl, .inl (sq_of (kz _ _ hA)), _, _, rfl, ?_⟩
    dsimp only
    have em : (if (1 : Int) < ((vs.length : Nat) : Int) then (1 : Int) else ((vs.length : Nat) : Int)) = ((min vs.length 1 : Nat) : Int) := by
      split <;> omega
    rw [em]
    refine ⟨z, _, _, rfl, rfl, hz, by omega, by omega, by show _ ≤ 16777216; simp; omega, fun y ny => ?_⟩
    have e1 : (List.replicate ((min vs.length 1 : Nat) : Int).toNat [V.int 0]).flatten = ((lensOf ts).take 1).map iN := by
      unfold lensOf
      rw [lv]
      cases (ord ts).length with
      | zero => rfl
      | succ n =>
        rw [show (((min (n + 1) 1 : Nat) : Int).toNat) = 1 by omega, List.range_succ_eq_map]
        rfl
    rw [e1]
    have ky := Same.new (H := H2) (o := .lst (((lensOf ts).take 1).map iN)) ny
    have hy : upd H2 y (.lst (((lensOf ts).take 1).map iN)) y = some (.lst (((lensOf ts).take 1).map iN)) := upd_same
    revert ky hy
    generalize upd H2 y (.lst (((lensOf ts).take 1).map iN)) = H3
    intro ky hy
    have k3 := (k1.trans kz).trans ky
    have k13 := kz.trans ky
    refine ⟨.ref a, rfl, .ref a, rfl, 1, rfl, a, _, rfl, sq_of (k13 _ _ hA), fun c nc => ?_⟩
    rw [cutV_from (by decide)]
    have kc := Same.new (H := H3) (o := .lst (vs.drop 1)) nc
    have hc : upd H3 c (.lst (vs.drop (1 : Int).toNat)) c = some (.lst (vs.drop 1)) := upd_same
    have kc : Same H3 (upd H3 c (.lst (vs.drop (1 : Int).toNat))) := kc
    revert kc hc
    generalize upd H3 c (.lst (vs.drop (1 : Int).toNat)) = H4
    intro hc kc
    have k14 := k13.trans kc
    have k4 := k1.trans k14
    have lw : (ord ts).length - 1 = min vs.length (vs.drop 1).length := by rw [List.length_drop]; omega
    refine ⟨a, c, _, _, rfl, .inl ⟨sq_of (k14 _ _ hA), sq_of hc, fun D nD => lc_it (walk_zip (K := K) (a := a) (b := c) (xs := vs) (ys := vs.drop 1) (n := (ord ts).length - 1) lw) (fun i H' => Same H4 H' ∧ H' D = some (.lst ((((lensOf ts).drop 1).take i).map iN))) ⟨Same.new nD, upd_same⟩ (fun i H' _ g => ⟨sq_of (g.1 _ _ (k14 _ _ hA)), sq_of (g.1 _ _ hc)⟩) ?_ ?_⟩⟩
    · rintro i v H5 H6 hi ⟨k5, hD⟩ ⟨t, y1, y2, rfl, nt, rfl, e1, e2⟩
      have e1 : vs[i]? = some y1 := e1
      have e2 : (vs.drop 1)[i]? = some y2 := e2
      rw [List.getElem?_drop] at e2
      obtain ⟨p, ep, rp⟩ := hv.at e1
      obtain ⟨r, er, rr⟩ := hv.at e2
      have kt := Same.new (H := H5) (o := .tup [y1, y2]) nt
      have k6 := (k14.trans k5).trans kt
      refine ⟨t, [y1, y2], rfl, SqT.of upd_same, rfl, y1, [y2], rfl, y2, [], rfl, rfl, rfl, .ref s, rfl, y1, rfl, y2, rfl, s, ts, y1, y2, p, r, rfl, hl.same (k1.trans k6), rp.same k6, ord_mem.mp (List.mem_of_getElem? ep), rr.same k6, ord_mem.mp (List.mem_of_getElem? er), _, kt _ _ hD, ?_, sameAt (k5.trans kt) nD, ?_⟩
      · rw [List.length_map, List.length_take, List.length_drop]
        unfold lensOf
        rw [List.length_map, List.length_range]
        show _ < 16777216
        omega
      · have ez : ((lensOf ts).drop 1)[i]? = some (lcp (cod (sfx ts p)) (cod (sfx ts r))) := by
          unfold lensOf
          rw [List.getElem?_drop, List.getElem?_map, List.getElem?_range (by omega)]
          show some (ln (sOf ts) (1 + i)) = _
          unfold ln
          rw [if_neg (by omega), show 1 + i - 1 = i by omega, ord_at ep, ord_at er]
        rw [upd_same, take_snoc ez, List.map_append]
        rfl
    · rintro H5 ⟨k5, hD⟩
      have lz : (lensOf ts).length = (ord ts).length := by unfold lensOf; rw [List.length_map, List.length_range]
      rw [List.take_of_length_le (by rw [List.length_drop, lz]; exact Nat.le_refl _)] at hD
      refine ⟨y, D, _, _, rfl, rfl, (kc.trans k5) _ _ hy, hD, ?_, fun G nG => ?_⟩
      · rw [List.length_map, List.length_map, List.length_take, List.length_drop]
        show _ ≤ 16777216
        omega
      · rw [← List.map_append, List.take_append_drop]
        exact q G _ ((k4.trans k5).trans (Same.new nG)) (Same.free (k4.trans k5) nG) upd_same
end
end LawK
set_option maxHeartbeats 4000000
/-! Where a text stands in another within bounds; a text so many times. -/
namespace Ev
open PySem PySem.Spec PyProof.Rows L2 PySem.Builtin.Str
theorem occ_size {x y : Str} {hi lim : Nat} : ∀ (l : List Nat) (a : Array Nat) (k : Nat), 0 < a.size → 0 < ((forIn (m := Id) l (a, k) (StrLaws.occBody x y hi lim)).run.fst).size := by
  intro l
  induction l with
  | nil => intro a k h; exact h
  | cons i r ih =>
    intro a k h
    simp only [List.forIn_cons, StrLaws.occBody]
    split
    · exact ih _ _ (by rw [Array.size_push]; omega)
    · exact ih _ _ h
theorem occ_some {x y : Str} {lo hi i : Nat} (h0 : lo ≤ i) (h1 : i + y.length ≤ hi) (h2 : subAt x y i = true) : occurrences x y lo hi 1 ≠ [] := by
  rw [StrLaws.occ_eq]
  have hm : i ∈ List.range' lo (hi + 1 - lo) := by
    rw [List.mem_range'_1]
    omega
  have hlo : ∀ j ∈ List.range' lo (hi + 1 - lo), lo ≤ j := fun j hj => (List.mem_range'_1.mp hj).1
  revert hm hlo
  generalize List.range' lo (hi + 1 - lo) = l
  suffices H : ∀ (l : List Nat), i ∈ l → (∀ j ∈ l, lo ≤ j) → 0 < ((forIn (m := Id) l ((#[] : Array Nat), lo) (StrLaws.occBody x y hi 1)).run.fst).size by
    intro hm hlo e
    have := H l hm hlo
    rw [← Array.length_toList, e] at this
    exact absurd this (by simp)
  intro l
  induction l with
  | nil => intro h; cases h
  | cons j r ih =>
    intro hm hlo
    simp only [List.forIn_cons, StrLaws.occBody]
    split
    · exact occ_size r _ _ (by rw [Array.size_push]; omega)
    · rename_i hn
      refine ih ?_ (fun j hj => hlo j (List.mem_cons_of_mem _ hj))
      rcases List.mem_cons.mp hm with e | e
      · subst e
        exact absurd ⟨⟨⟨by decide, hlo i (List.mem_cons_self ..)⟩, h1⟩, h2⟩ hn
      · exact e
theorem subAt_iff {x y : Str} {k : Nat} : subAt x y k = true ↔ (x.cps.toList.drop k).take y.length = y.cps.toList := by
  unfold subAt
  rw [beq_iff_eq, ← Array.toList_inj, Array.toList_extract, List.extract_eq_take_drop]
  have : k + y.length - k = y.length := by omega
  rw [this]
/-- the place of y in x ahead of j, or -1 -/
theorem findIn_of {x y : Str} {j : Int} (h : 0 ≤ j) : (∃ k : Nat, Txt.findIn x y 0 j = (k : Int) ∧ (k : Int) + (y.length : Int) ≤ j ∧ (x.cps.toList.drop k).take y.length = y.cps.toList) ∨
    (Txt.findIn x y 0 j = -1 ∧ ∀ k : Nat, (k : Int) + (y.length : Int) ≤ j → k + y.length ≤ x.length → (x.cps.toList.drop k).take y.length ≠ y.cps.toList) := by
  unfold Txt.findIn
  have e0 : fromIndex x.length 0 = 0 := rfl
  have e1 : toIndexW x.length j = min j.toNat x.length := by
    unfold toIndexW
    rw [if_neg (by omega), Int.max_eq_right h]
  rw [e0, e1]
  cases e : occurrences x y 0 (min j.toNat x.length) 1 with
  | nil =>
    refine .inr ⟨rfl, fun k h1 h2 h3 => ?_⟩
    exact occ_some (Nat.zero_le k) (by omega) (subAt_iff.mpr h3) e
  | cons k r =>
    have := StrLaws.occ_spec x y 0 (min j.toNat x.length) 1 k (by rw [e]; exact List.mem_cons_self ..)
    exact .inl ⟨k, rfl, by omega, subAt_iff.mp this.2⟩
theorem fold_rep (x : Array Nat) : ∀ (n : Nat) (acc : Array Nat), ((List.replicate n x).foldl (· ++ ·) acc).toList = acc.toList ++ (List.replicate n x.toList).flatten
  | 0, acc => by simp
  | n + 1, acc => by
    rw [List.replicate_succ, List.foldl_cons, fold_rep x n, Array.toList_append, List.replicate_succ, List.flatten_cons, List.append_assoc]
theorem mul_list {z : Str} {n : Int} (h : 0 ≤ n) : (Txt.mul z n).cps.toList = (List.replicate n.toNat z.cps.toList).flatten := by
  unfold Txt.mul
  by_cases h1 : n < 1
  · rw [if_pos h1]
    have : n.toNat = 0 := by omega
    rw [this]
    rfl
  · rw [if_neg h1]
    split
    · rename_i hc
      rw [Bool.or_eq_true, beq_iff_eq, beq_iff_eq] at hc
      rcases hc with e | e
      · rw [e]
        show _ = (List.replicate 1 _).flatten
        simp
      · have en : z.cps.toList = [] := List.eq_nil_of_length_eq_zero (by rw [← len_S]; exact e)
        rw [en]
        generalize n.toNat = m
        clear h h1
        induction m with
        | zero => rfl
        | succ m ih => rw [List.replicate_succ, List.flatten_cons, List.nil_append]; exact ih
    · show ((List.replicate n.toNat z.cps).foldl (· ++ ·) #[]).toList = _
      rw [fold_rep]
      rfl
theorem rep_at {l : List Nat} (hl : 0 < l.length) : ∀ (n i : Nat), i < n * l.length → ((List.replicate n l).flatten)[i]? = l[i % l.length]?
  | 0, i, h => by omega
  | n + 1, i, h => by
    rw [List.replicate_succ, List.flatten_cons]
    by_cases c : i < l.length
    · rw [List.getElem?_append_left c, Nat.mod_eq_of_lt c]
    · rw [List.getElem?_append_right (by omega), rep_at hl n (i - l.length) (by rw [Nat.succ_mul] at h; omega)]
      have e : i % l.length = (i - l.length) % l.length := Nat.mod_eq_sub_mod (by omega)
      rw [e]
theorem rep_len {l : List Nat} : ∀ (n : Nat), ((List.replicate n l).flatten).length = n * l.length
  | 0 => by simp
  | n + 1 => by rw [List.replicate_succ, List.flatten_cons, List.length_append, rep_len n, Nat.succ_mul]; omega
/-- a text so many times -/
def rMulL : R2 := fun x y H Q => ∃ (z : Str) (n : Int), x = .str z ∧ y = .int n ∧ 0 ≤ n ∧ n ≤ 3000 ∧ z.length ≤ 5000 ∧ Q (.str (Txt.mul z n)) H
theorem op_mulL {X : Cx} : OpR X (binaryOp .Mult) rMulL := by
  intro pins s σ H x y v u Q I rx ry h
  obtain ⟨z, n, rfl, rfl, h0, h1, h2, q⟩ := h
  obtain ⟨t, rfl⟩ := rx
  obtain ⟨t', rfl⟩ := ry
  exact SB.mul (mulOk_of 5000 3000 h2 h1 (by omega) (by decide) (by decide)) fun t' k => ⟨.str _, H, I.tok _, ⟨_, rfl⟩, q⟩
end Ev
set_option maxHeartbeats 4000000
namespace LawK
open PySem PySem.Spec PyProof.Rows L2 Ev
abbrev nP (ts : List Str) : Nat := (ord ts).length
/-- all unlike pieces, in order -/
def due (ts : List Str) : List Str := (pcs (sOf ts) (nP ts)).map SX.S
theorem cod_S (x : LN) : cod (SX.S x) = x := rfl
theorem due_cod (ts : List Str) : (due ts).map cod = pcs (sOf ts) (nP ts) := by
  unfold due
  rw [List.map_map]
  exact List.map_id _
/-- whether the ending from p on begins with w -/
def beg (ts : List Str) (w : Str) (p : Pl) : Bool := decide (cod w <+: cod (sfx ts p))
theorem sOf_ex {ts : List Str} {p : Pl} (h : InT ts p) : ∃ i, i < nP ts ∧ sOf ts i = cod (sfx ts p) := by
  obtain ⟨i, hi, e⟩ := List.mem_iff_getElem.mp (ord_mem.mpr h)
  exact ⟨i, hi, ord_at (by rw [List.getElem?_eq_getElem hi, e])⟩
theorem sOf_in {ts : List Str} {i : Nat} (h : i < nP ts) : ∃ p, InT ts p ∧ (ord ts)[i]? = some p ∧ sOf ts i = cod (sfx ts p) := by
  obtain ⟨e, q⟩ := ordD h
  exact ⟨_, q, e, ord_at e⟩
theorem due_mem {ts : List Str} {w : Str} : w ∈ due ts ↔ cod w ≠ [] ∧ ∃ p, InT ts p ∧ cod w <+: cod (sfx ts p) := by
  have : w ∈ due ts ↔ cod w ∈ pcs (sOf ts) (nP ts) := by
    unfold due
    rw [List.mem_map]
    exact ⟨fun ⟨x, hx, e⟩ => by rw [← e]; exact hx, fun h => ⟨_, h, S_eta w⟩⟩
  rw [this, pcs_mem]
  refine and_congr_right fun _ => ⟨fun ⟨i, hi, p⟩ => ?_, fun ⟨p, hp, q⟩ => ?_⟩
  · obtain ⟨p2, h1, _, h2⟩ := sOf_in hi
    exact ⟨p2, h1, by rw [← h2]; exact p⟩
  · obtain ⟨i, hi, e⟩ := sOf_ex hp
    exact ⟨i, hi, by rw [e]; exact q⟩
theorem due_asc (ts : List Str) : (due ts).Pairwise ltC := by
  have := pcs_asc (ord_srt ts)
  rw [← due_cod, List.pairwise_map] at this
  exact this
theorem ltC_irr (x : Str) : ¬ ltC x x := lirr _
theorem due_nodup (ts : List Str) : (due ts).Nodup := (due_asc ts).imp fun {a b} h e => by rw [e] at h; exact lirr _ h
/-- two lists that ascend, of the same texts -/
theorem asc_one : ∀ (xs ys : List Str), xs.Pairwise ltC → ys.Pairwise ltC → (∀ z, z ∈ xs ↔ z ∈ ys) → xs = ys
  | [], [], _, _, _ => rfl
  | [], y :: ys, _, _, h => absurd ((h y).mpr List.mem_cons_self) (by simp)
  | x :: xs, [], _, _, h => absurd ((h x).mp List.mem_cons_self) (by simp)
  | x :: xs, y :: ys, p, q, h => by
    obtain ⟨p1, p2⟩ := List.pairwise_cons.mp p
    obtain ⟨q1, q2⟩ := List.pairwise_cons.mp q
    have e : x = y := by
      rcases List.mem_cons.mp ((h x).mp List.mem_cons_self) with e | e
      · exact e
      · rcases List.mem_cons.mp ((h y).mpr List.mem_cons_self) with f | f
        · exact f.symm
        · exact absurd (ltr (p1 y f) (q1 x e)) (lirr _)
    subst e
    refine congrArg (x :: ·) (asc_one xs ys p2 q2 fun z => ?_)
    have hz := h z
    rw [List.mem_cons, List.mem_cons] at hz
    constructor
    · intro m
      rcases hz.mp (.inr m) with e | e
      · exact absurd (p1 z m) (by rw [e]; exact lirr _)
      · exact e
    · intro m
      rcases hz.mpr (.inr m) with e | e
      · exact absurd (q1 z m) (by rw [e]; exact lirr _)
      · exact e
theorem sumN {α : Type} (f : α → Nat) : ∀ l : List α, (l.map fun p => ((f p : Nat) : Int)).sum = (((l.map f).sum : Nat) : Int)
  | [] => rfl
  | a :: l => by
    simp only [List.map_cons, List.sum_cons]
    rw [sumN f l]
    omega
theorem perm_sum {α : Type} (f : α → Nat) {l m : List α} (h : l.Perm m) : (l.map f).sum = (m.map f).sum := by
  induction h with
  | nil => rfl
  | cons a _ ih => simp only [List.map_cons, List.sum_cons]; rw [ih]
  | swap a b l => simp only [List.map_cons, List.sum_cons]; omega
  | trans _ _ a b => exact a.trans b
theorem ord_map {α : Type} (ts : List Str) (f : Pl → α) (h : LN → α) (e : ∀ p, f p = h (cod (sfx ts p))) : (ord ts).map f = (List.range (nP ts)).map fun i => h (sOf ts i) := by
  refine List.ext_getElem? fun i => ?_
  rcases Nat.lt_or_ge i (nP ts) with g | g
  · obtain ⟨p, _, e1, e2⟩ := sOf_in g
    rw [List.getElem?_map, List.getElem?_map, List.getElem?_range g, e1]
    show some (f p) = some (h (sOf ts i))
    rw [e2, e]
  · rw [List.getElem?_eq_none (by rw [List.length_map]; exact g), List.getElem?_eq_none (by rw [List.length_map, List.length_range]; exact g)]
theorem pcs_sum (s : Nat → LN) : ∀ n, (pcs s n).length + ((List.range n).map (ln s)).sum = ((List.range n).map fun i => (s i).length).sum
  | 0 => rfl
  | n + 1 => by
    have a := pcs_sum s n
    have b := ln_le s n
    rw [pcs_len, List.range_succ, List.map_append, List.map_append, List.sum_append, List.sum_append]
    simp only [List.map_cons, List.map_nil, List.sum_cons, List.sum_nil]
    omega
/-- the signs of all endings less what neighbours have in common -/
theorem all_sum (ts : List Str) : ((pl ts).map fun p => (((sfx ts p).length : Nat) : Int)).sum - ((lensOf ts).map fun n => ((n : Nat) : Int)).sum = ((due ts).length : Nat) := by
  have a := pcs_sum (sOf ts) (nP ts)
  rw [sumN (fun p => (sfx ts p).length), sumN (fun n => n), perm_sum _ (ord_perm ts).symm]
  rw [ord_map ts (fun p => (sfx ts p).length) (fun x => x.length) (fun p => len_S _)]
  unfold due
  rw [List.length_map, List.map_id']
  have e : lensOf ts = (List.range (nP ts)).map (ln (sOf ts)) := rfl
  rw [e]
  omega
theorem cntIf {α : Type} (f : α → Bool) (l : List α) : (l.filter f).length = (l.map fun p => if f p = true then 1 else 0).sum := by
  induction l with
  | nil => rfl
  | cons a l ih =>
    simp only [List.map_cons, List.sum_cons]
    by_cases z : f a = true
    · rw [List.filter_cons_of_pos z, if_pos z, List.length_cons, ih]; omega
    · rw [List.filter_cons_of_neg z, if_neg z, ih]; omega
theorem filt_ord (ts : List Str) (f : Pl → Bool) (h : LN → Bool) (e : ∀ p, f p = h (cod (sfx ts p))) : ((pl ts).filter f).length = ((List.range (nP ts)).filter fun i => h (sOf ts i)).length := by
  rw [cntIf, cntIf (fun i => h (sOf ts i)), perm_sum _ (ord_perm ts).symm, ord_map ts _ (fun x => if h x = true then 1 else 0) (fun p => by rw [e])]
/-- how many endings are less than w, how many begin with it -/
def nLt (ts : List Str) (w : Str) : Nat := ((pl ts).filter fun p => decide (cod (sfx ts p) < cod w)).length
def nBeg (ts : List Str) (w : Str) : Nat := ((pl ts).filter (beg ts w)).length
theorem nLt_eq (ts : List Str) (w : Str) : nLt ts w = cntLt (sOf ts) (cod w) (nP ts) := filt_ord ts _ (fun x => decide (x < cod w)) fun _ => rfl
theorem nBeg_pos (ts : List Str) (w : Str) : 0 < nBeg ts w ↔ ∃ p, InT ts p ∧ cod w <+: cod (sfx ts p) := by
  unfold nBeg
  rw [List.length_pos_iff_exists_mem]
  refine ⟨fun ⟨p, h⟩ => ?_, fun ⟨p, h1, h2⟩ => ⟨p, List.mem_filter.mpr ⟨pl_mem.mpr h1, decide_eq_true h2⟩⟩⟩
  obtain ⟨a, b⟩ := List.mem_filter.mp h
  exact ⟨p, pl_mem.mp a, of_decide_eq_true b⟩
theorem due_at {ts : List Str} {i : Nat} : (due ts)[i]? = ((pcs (sOf ts) (nP ts))[i]?).map SX.S := by
  unfold due
  rw [List.getElem?_map]
/-- the number of a word that is a piece -/
theorem due_no {ts : List Str} {w : Str} (ne : cod w ≠ []) (h : 0 < nBeg ts w) :
    nLt ts w < nP ts ∧ ln (sOf ts) (nLt ts w) < w.length ∧ (due ts)[(pcs (sOf ts) (nLt ts w)).length + (w.length - ln (sOf ts) (nLt ts w) - 1)]? = some w := by
  obtain ⟨p, hp, q⟩ := (nBeg_pos ts w).mp h
  obtain ⟨i, hi, e⟩ := sOf_ex hp
  obtain ⟨h1, h2, _, h4⟩ := pcs_no (ord_srt ts) ne hi (by rw [e]; exact q)
  rw [nLt_eq]
  refine ⟨h1, by rw [len_S]; exact h2, ?_⟩
  rw [due_at, len_S w]
  rw [h4]
  exact congrArg some (S_eta w)
theorem due_w {ts : List Str} {w : Str} (ne : cod w ≠ []) : w ∈ due ts ↔ 0 < nBeg ts w := by
  rw [due_mem, nBeg_pos]
  exact ⟨fun h => h.2, fun h => ⟨ne, h⟩⟩
/-- the piece of a number, among those that come first with the i-th ending -/
theorem due_get {ts : List Str} {i k : Nat} {p : Pl} (hp : (ord ts)[i]? = some p) (l : k + ln (sOf ts) i < (sfx ts p).length) : (due ts)[(pcs (sOf ts) i).length + k]? = some (SX.S ((cod (sfx ts p)).take (ln (sOf ts) i + k + 1))) := by
  have hi := (List.getElem?_eq_some_iff.mp hp).1
  have e := ord_at hp
  rw [due_at, pcs_at (sOf ts) hi (k := k) (by rw [e, ← len_S]; omega), e]
  rfl
theorem due_few {ts : List Str} {i : Nat} {p : Pl} (hp : (ord ts)[i]? = some p) : (pcs (sOf ts) (i + 1)).length = (pcs (sOf ts) i).length + ((sfx ts p).length - ln (sOf ts) i) := by
  rw [pcs_len, ord_at hp, ← len_S]
theorem ln_le2 {ts : List Str} {i : Nat} {p : Pl} (hp : (ord ts)[i]? = some p) : ln (sOf ts) i ≤ (sfx ts p).length := by
  have := ln_le (sOf ts) i
  rw [ord_at hp, ← len_S] at this
  exact this
theorem starts3 {x y : Str} {j : Nat} (h : j ≤ x.length) : Txt.startswith3 x y (j : Nat) = decide (cod y <+: (cod x).drop j) := by
  unfold Txt.startswith3 PySem.fromIndex
  have e : (max 0 (if ((j : Nat) : Int) < 0 then ((j : Nat) : Int) + ((x.length : Nat) : Int) else ((j : Nat) : Int))).toNat = j := by
    rw [if_neg (by omega)]
    omega
  rw [e]
  by_cases p : cod y <+: (cod x).drop j
  · rw [decide_eq_true p]
    have l := p.length_le
    rw [List.length_drop, ← len_S, ← len_S] at l
    rw [Bool.and_eq_true]
    refine ⟨decide_eq_true (by omega), subAt_iff.mpr ?_⟩
    rw [len_S y]
    exact (List.prefix_iff_eq_take.mp p).symm
  · rw [decide_eq_false p, Bool.and_eq_false_iff]
    refine .inr (Bool.eq_false_iff.mpr fun z => p ?_)
    have this : ((cod x).drop j).take y.length = cod y := subAt_iff.mp z
    rw [← this]
    exact List.take_prefix _ _
end LawK
set_option maxHeartbeats 4000000
namespace LawK
open PySem PySem.Spec PyProof.Rows L2 Ev

def rStarts3 : V → List V → Hp → VK → Prop := fun x xs H Q => ∃ (a b : Str) (i : Int), x = .str a ∧ xs = [.str b, .int i] ∧ Q (.bl (Txt.startswith3 a b i)) H
theorem mt_st3 {X : Cx} : MtR X "str.startswith" rStarts3 := mt_startswith3
/-- a word -/
structure Wd (w : Str) : Prop where
  sg : sgB w = true
  pos : 1 ≤ w.length
  few : w.length ≤ 5000
def spPlaces (C : Addr) : Sp := fun vs H Q _ => ∃ (s : Addr) (w : Str) (ts : List Str), vs = [.ref s, .str w] ∧ LibAt H C s ts ∧ Wd w ∧ ∀ a H', Same H H' → H a = none → PsL H' a ((pl ts).filter (beg ts w)) → Q (.ref a) H'
def spCount (C : Addr) : Sp := fun vs H Q _ => ∃ (s : Addr) (w : Str) (ts : List Str), vs = [.ref s, .str w] ∧ LibAt H C s ts ∧ Wd w ∧ ∀ H', Same H H' → Q (iN (nBeg ts w)) H'
def spSpan (C : Addr) : Sp := fun vs H Q _ => ∃ (s : Addr) (w : Str) (ts : List Str), vs = [.ref s, .str w] ∧ LibAt H C s ts ∧ Wd w ∧ ∀ b H', Same H H' → H' b = some (.tup [iN (nLt ts w), iN (nLt ts w + nBeg ts w)]) → Q (.ref b) H'
def spAllPieces (C : Addr) : Sp := fun vs H Q _ => ∃ (s : Addr) (ts : List Str), vs = [.ref s] ∧ LibAt H C s ts ∧ ∀ H', Same H H' → Q (iN (due ts).length) H'
theorem filt_snoc {α : Type} (f : α → Bool) {xs : List α} {i : Nat} {x : α} (h : xs[i]? = some x) : (xs.take (i + 1)).filter f = (xs.take i).filter f ++ (if f x = true then [x] else []) := by
  rw [take_snoc h, List.filter_append]
  congr 1
  by_cases z : f x = true
  · rw [if_pos z, List.filter_cons_of_pos z, List.filter_nil]
  · rw [if_neg z, List.filter_cons_of_neg z, List.filter_nil]
theorem pl_len {ts : List Str} (h : ∀ t ∈ ts, t.length ≤ 200) (f : ts.length ≤ 8) : (pl ts).length ≤ 1600 := by
  rw [← (ord_perm ts).length_eq]
  exact ord_len h f
section
variable {P : Program} {w : World} {K : PySem.W.Frag} {mg : Str → Option Value} {base : Heap}
variable {C fI : Addr} {fdI : FuncData}
abbrev sPPlaces : Stmt := topS 24
theorem scPPlaces : FnScope ["library", "word", "text", "at"] ["library", "word"] (defScope sPPlaces) := ⟨rfl, rfl, rfl, by decide +kernel, rfl, by decide +kernel, by decide +kernel⟩
theorem ok_PPlaces {f : Addr} {fd : FuncData} (F : Fun K "places" "places" sPPlaces f fd) (L : LibC K mg C fI fdI) {fPAllPlaces : Addr} {fdPAllPlaces : FuncData} (DPAllPlaces : Dk P w K mg base "all_places" sPAllPlaces ["library"] 1 (spAllPlaces C) fPAllPlaces fdPAllPlaces) {fPWord : Addr} {fdPWord : FuncData} (DPWord : Dk P w K mg base "is_word" sPWord ["thing"] 2 spWd fPWord fdPWord) (T : Glob mg) : FnOk P w K mg base CX0 3 f fd ["library", "word"] (spPlaces C) := by
  refine F.ok scPPlaces (fun vs H Q E h => ?_) (fun cdv A outer s H vs Q E hr h => ?_)
  · obtain ⟨s, w, ts, rfl, _⟩ := h
    rfl
  · refine ⟨_, (pss_cons (ps_if (pt_not (pt_val (pe_call DPWord.ok (hr.mono (by decide)) (by rfl) DPWord.g DPWord.F.kp DPWord.b .nil pass0 (pa_cons (pv 1) pa_nil))))
      (pss_one ps_dead)
      pss_nil)
      (pss_one (ps_ret (pe_lc (own := [("text", 2), ("at", 3)]) (g := (gTup K 2 (gCons (gName 2) (gCons (gName 3) gNil)))) (by rfl) scPPlaces.nd (pi_list (pe_call DPAllPlaces.ok (hr.mono (by decide)) (by rfl) DPAllPlaces.g DPAllPlaces.F.kp DPAllPlaces.b .nil pass0 (pa_cons (pv 0) pa_nil))) (blkOk_by (N := ["library", "word", "text", "at"]) (sc := defScope sPPlaces) (by decide +kernel)) (fun _ _ _ _ _ => pg_tup (by rfl) (pgs_cons (pg_name (i := 2) scPPlaces.nd rfl (.inl rfl)) (pgs_cons (pg_name (i := 3) scPPlaces.nd rfl (.inl rfl)) pgs_nil))) (fun _ _ _ _ _ => (pts_one (pt_val (show PE _ _ (tBM K "str" rStarts3 (tOp (rIxT K) (tFld K (tVar 0) "texts") (tVar 2)) (tCons (tVar 1) (tCons (tVar 3) tNil))) from pe_bm PySem.F.plainAttrs_str PySem.F.slot_str_startswith PySem.F.type_str_startswith mt_st3 (pe_ix (r := rIxT K) (ta := tFld K (tVar 0) "texts") ix_tup (pe_fld (pv 0) rfl) (pv 2) (fun _ _ => rfl)) (pa_cons (pv 1) (pa_cons (pv 3) pa_nil)))))) (fun _ _ _ _ _ => (pe_tup (pa_cons (pv 2) (pa_cons (pv 3) pa_nil)))))))), ?_⟩
    obtain ⟨s, z, ts, rfl, hl, hw, q⟩ := h
    have hl0 := hl
    obtain ⟨⟨dx, a, h1, h2⟩, few, sg1, len1⟩ := hl
    have wv : wordV (.str z) = true := by
      show (sgB z && decide ((0 : Int) < (z.length : Int))) = true
      rw [hw.sg, decide_eq_true (show (0 : Int) < (z.length : Int) by have := hw.pos; omega)]
      rfl
    refine ⟨.str z, rfl, .str z, .str, rfl, .str z, (fun w e => by cases e; exact hw.few), _, rfl, ?_⟩
    refine ite2 (fun c => by rw [wv] at c; cases c) (fun _ => ?_)
    dsimp only [tNext, tDrop]
    refine ⟨.ref s, rfl, s, ts, rfl, hl0, fun A H1 k1 nA ⟨vs, hA, hv⟩ => ?_⟩
    have lp := pl_len len1 few
    refine ⟨A, rfl, ⟨_, sq_of hA⟩, fun D nD => lc_list (xs := vs) (fun i H' => Same H1 H' ∧ ∃ us, H' D = some (.lst us) ∧ All2 (PAt H') us (((pl ts).take i).filter (beg ts z))) ⟨Same.new nD, [], upd_same, .nil⟩ (fun i H' _ w => sq_of (w.1 _ _ hA)) ?_ ?_⟩
    · rintro i x H2 hx ⟨k2, us, hD, hu⟩
      obtain ⟨p, ep, b, rfl, eb⟩ := hv.at hx
      have ip := pl_mem.mp (List.mem_of_getElem? ep)
      have eb2 := k2 _ _ eb
      have k12 := k1.trans k2
      have lt := tx_len len1 p.1
      have sb : Txt.startswith3 (tx ts p.1) z ((p.2 : Nat) : Int) = beg ts z p := by
        rw [starts3 (Nat.le_of_lt ip.at_)]
        unfold beg
        rw [sfx_cod]
      refine ⟨b, _, rfl, SqT.of eb2, rfl, _, _, rfl, _, _, rfl, rfl, rfl, .ref s, rfl, s, C, dx, _, .ref a, rfl, k12 _ _ h1, L.cl, L.nt, lk1, _, rfl, a, _, _, _, rfl, rfl, SqT.of (k12 _ _ h2), atI_nat (tx_at ip.text), rfl, _, rfl, _, rfl, _, _, _, rfl, rfl, _, rfl, ?_⟩
      rw [sb, filt_snoc (beg ts z) ep]
      refine ite2 (fun c => ?_) (fun c => ?_)
      · rw [if_pos c]
        refine ⟨_, rfl, _, rfl, by show 2 ≤ sizeLine; decide, fun c nc => ⟨us, (Same.new nc) _ _ hD, ?_, sameAt (k2.trans (Same.new nc)) nD, us ++ [.ref c], upd_same, ?_⟩⟩
        · have z1 := hu.len
          have z2 := List.length_filter_le (beg ts z) ((pl ts).take i)
          rw [List.length_take] at z2
          have h3 : sizeLine = 16777216 := sizeLine_eq
          omega
        · exact add_pair nc hD hu rfl
      · rw [if_neg c, List.append_nil]
        exact ⟨k2, us, hD, hu⟩
    · rintro H2 ⟨k2, us, hD, hu⟩
      rw [hv.len, List.take_length] at hu
      exact q D H2 (k1.trans k2) (Same.free k1 nD) ⟨us, hD, hu⟩
abbrev sPCount : Stmt := topS 25
theorem scPCount : FnScope ["library", "word"] ["library", "word"] (defScope sPCount) := ⟨rfl, rfl, rfl, by decide +kernel, rfl, by decide +kernel, by decide +kernel⟩
theorem ok_PCount {f : Addr} {fd : FuncData} (F : Fun K "count" "count" sPCount f fd)  {fPPlaces : Addr} {fdPPlaces : FuncData} (DPPlaces : Dk P w K mg base "places" sPPlaces ["library", "word"] 3 (spPlaces C) fPPlaces fdPPlaces) (T : Glob mg) : FnOk P w K mg base CX0 4 f fd ["library", "word"] (spCount C) := by
  refine F.ok scPCount (fun vs H Q E h => ?_) (fun cdv A outer s H vs Q E hr h => ?_)
  · obtain ⟨s, w, ts, rfl, _⟩ := h
    rfl
  · refine ⟨_, (pss_one (ps_ret (pe_callB call_len_seq (by rfl) T.len PySem.boot_len (pa_cons (pe_call DPPlaces.ok (hr.mono (by decide)) (by rfl) DPPlaces.g DPPlaces.F.kp DPPlaces.b .nil pass0 (pa_cons (pv 0) (pa_cons (pv 1) pa_nil))) pa_nil)))), ?_⟩
    obtain ⟨s, z, ts, rfl, hl, hw, q⟩ := h
    refine ⟨.ref s, rfl, .str z, rfl, s, z, ts, rfl, hl, hw, fun A H1 k1 nA ⟨vs, hA, hv⟩ => ?_⟩
    refine ⟨A, vs, rfl, .inl (sq_of hA), ?_⟩
    rw [hv.len]
    exact q H1 k1
abbrev sPSpan : Stmt := topS 30
theorem scPSpan : FnScope ["library", "word", "many", "ahead", "place"] ["library", "word"] (defScope sPSpan) := ⟨rfl, rfl, rfl, by decide +kernel, rfl, by decide +kernel, by decide +kernel⟩
theorem ok_PSpan {f : Addr} {fd : FuncData} (F : Fun K "span" "span" sPSpan f fd)  {fPAllPlaces : Addr} {fdPAllPlaces : FuncData} (DPAllPlaces : Dk P w K mg base "all_places" sPAllPlaces ["library"] 1 (spAllPlaces C) fPAllPlaces fdPAllPlaces) {fPEnding : Addr} {fdPEnding : FuncData} (DPEnding : Dk P w K mg base "ending" sPEnding ["library", "place"] 3 (spEnding C) fPEnding fdPEnding) {fPCount : Addr} {fdPCount : FuncData} (DPCount : Dk P w K mg base "count" sPCount ["library", "word"] 4 (spCount C) fPCount fdPCount) (T : Glob mg) : FnOk P w K mg base CX0 5 f fd ["library", "word"] (spSpan C) := by
  refine F.ok scPSpan (fun vs H Q E h => ?_) (fun cdv A outer s H vs Q E hr h => ?_)
  · obtain ⟨s, w, ts, rfl, _⟩ := h
    rfl
  · refine ⟨_, (pss_cons (ps_set (i := 2) scPSpan.nd rfl (.inl rfl) (pe_call DPCount.ok (hr.mono (by decide)) (by rfl) DPCount.g DPCount.F.kp DPCount.b .nil pass0 (pa_cons (pv 0) (pa_cons (pv 1) pa_nil))))
      (pss_cons (ps_set (i := 3) scPSpan.nd rfl (.inl rfl) (pe_callB call_len_seq (by rfl) T.len PySem.boot_len (pa_cons (pe_lc (own := [("place", 4)]) (g := gName 4) (by rfl) scPSpan.nd (pi_list (pe_call DPAllPlaces.ok (hr.mono (by decide)) (by rfl) DPAllPlaces.g DPAllPlaces.F.kp DPAllPlaces.b .nil pass0 (pa_cons (pv 0) pa_nil))) (blkOk_by (N := ["library", "word", "many", "ahead", "place"]) (sc := defScope sPSpan) (by decide +kernel)) (fun _ _ _ _ _ => pg_name (i := 4) scPSpan.nd rfl (.inl rfl)) (fun _ _ _ _ _ => (pts_one (pt_cmpR op_lt_str (pe_call DPEnding.ok (hr.mono (by decide)) (by rfl) DPEnding.g DPEnding.F.kp DPEnding.b .nil pass0 (pa_cons (pv 0) (pa_cons (pv 4) pa_nil))) (pv 1) (nomark _)))) (fun _ _ _ _ _ => (pv 4))) pa_nil)))
      (pss_one (ps_ret (pe_tup (pa_cons (pv 3) (pa_cons (pe_op op_add (pv 3) (pv 2)) pa_nil))))))), ?_⟩
    obtain ⟨s, z, ts, rfl, hl, hw, q⟩ := h
    refine ⟨.ref s, rfl, .str z, rfl, s, z, ts, rfl, hl, hw, fun H0 k0 => ?_⟩
    have hl := hl.same k0
    have lp := pl_len hl.len hl.few
    refine ⟨.ref s, rfl, s, ts, rfl, hl, fun A H1 k1 nA ⟨vs, hA, hv⟩ => ?_⟩
    refine ⟨A, rfl, ⟨_, sq_of hA⟩, fun D nD => lc_list (xs := vs) (fun i H' => Same H1 H' ∧ ∃ us, H' D = some (.lst us) ∧ us.length = (((pl ts).take i).filter fun p => decide (cod (sfx ts p) < cod z)).length) ⟨Same.new nD, [], upd_same, rfl⟩ (fun i H' _ w => sq_of (w.1 _ _ hA)) ?_ ?_⟩
    · rintro i x H2 hx ⟨k2, us, hD, hu⟩
      obtain ⟨p, ep, rp⟩ := hv.at hx
      have ip := pl_mem.mp (List.mem_of_getElem? ep)
      refine ⟨rfl, .ref s, rfl, x, rfl, s, ts, x, p, rfl, hl.same (k1.trans k2), rp.same k2, ip, .str z, rfl, _, _, rfl, rfl, _, rfl, ?_⟩
      rw [filt_snoc _ ep]
      refine ite2 (fun c => ?_) (fun c => ?_)
      · have c : decide (cod (sfx ts p) < cod z) = true := c
        rw [if_pos c]
        refine ⟨x, rfl, us, hD, ?_, sameAt k2 nD, us ++ [x], upd_same, by rw [List.length_append, List.length_append, hu]; rfl⟩
        have z2 := List.length_filter_le (fun p => decide (cod (sfx ts p) < cod z)) ((pl ts).take i)
        rw [List.length_take] at z2
        have h3 : sizeLine = 16777216 := sizeLine_eq
        omega
      · have c : ¬ decide (cod (sfx ts p) < cod z) = true := c
        rw [if_neg c, List.append_nil]
        exact ⟨k2, us, hD, hu⟩
    · rintro H2 ⟨k2, us, hD, hu⟩
      rw [hv.len, List.take_length] at hu
      refine ⟨D, us, rfl, .inl (sq_of hD), ?_⟩
      refine ⟨_, rfl, _, rfl, _, rfl, _, _, rfl, rfl, by show 2 ≤ sizeLine; decide, fun b nb => ?_⟩
      refine q b _ ((k0.trans (k1.trans k2)).trans (Same.new nb)) ?_
      rw [upd_same, hu]
      rfl
abbrev sPAllPieces : Stmt := topS 33
theorem scPAllPieces : FnScope ["library", "signs", "place"] ["library"] (defScope sPAllPieces) := ⟨rfl, rfl, rfl, by decide +kernel, rfl, by decide +kernel, by decide +kernel⟩
theorem ok_PAllPieces {f : Addr} {fd : FuncData} (F : Fun K "all_pieces" "all_pieces" sPAllPieces f fd)  {fPAllPlaces : Addr} {fdPAllPlaces : FuncData} (DPAllPlaces : Dk P w K mg base "all_places" sPAllPlaces ["library"] 1 (spAllPlaces C) fPAllPlaces fdPAllPlaces) {fPEnding : Addr} {fdPEnding : FuncData} (DPEnding : Dk P w K mg base "ending" sPEnding ["library", "place"] 3 (spEnding C) fPEnding fdPEnding) {fPLengths : Addr} {fdPLengths : FuncData} (DPLengths : Dk P w K mg base "lengths" sPLengths ["library"] 5 (spLengths C) fPLengths fdPLengths) (T : Glob mg) : FnOk P w K mg base CX0 6 f fd ["library"] (spAllPieces C) := by
  refine F.ok scPAllPieces (fun vs H Q E h => ?_) (fun cdv A outer s H vs Q E hr h => ?_)
  · obtain ⟨s, ts, rfl, _⟩ := h
    rfl
  · refine ⟨_, (pss_cons (ps_set (i := 1) scPAllPieces.nd rfl (.inl rfl) (pe_callB (cr_sum rfl) (by rfl) T.sum (by decide +kernel) (pa_cons (pe_lc (own := [("place", 2)]) (g := gName 2) (by rfl) scPAllPieces.nd (pi_list (pe_call DPAllPlaces.ok (hr.mono (by decide)) (by rfl) DPAllPlaces.g DPAllPlaces.F.kp DPAllPlaces.b .nil pass0 (pa_cons (pv 0) pa_nil))) (blkOk_by (N := ["library", "signs", "place"]) (sc := defScope sPAllPieces) (by decide +kernel)) (fun _ _ _ _ _ => pg_name (i := 2) scPAllPieces.nd rfl (.inl rfl)) (fun _ _ _ _ _ => pts_nil) (fun _ _ _ _ _ => (pe_callB call_lenZ (by rfl) T.len PySem.boot_len (pa_cons (pe_call DPEnding.ok (hr.mono (by decide)) (by rfl) DPEnding.g DPEnding.F.kp DPEnding.b .nil pass0 (pa_cons (pv 0) (pa_cons (pv 2) pa_nil))) pa_nil)))) pa_nil)))
      (pss_one (ps_ret (pe_op op_sub (pv 1) (pe_callB (cr_sum rfl) (by rfl) T.sum (by decide +kernel) (pa_cons (pe_call DPLengths.ok (hr.mono (by decide)) (by rfl) DPLengths.g DPLengths.F.kp DPLengths.b .nil pass0 (pa_cons (pv 0) pa_nil)) pa_nil)))))), ?_⟩
    obtain ⟨s, ts, rfl, hl, q⟩ := h
    have lp := pl_len hl.len hl.few
    refine ⟨.ref s, rfl, s, ts, rfl, hl, fun A H1 k1 nA ⟨vs, hA, hv⟩ => ?_⟩
    refine ⟨A, rfl, ⟨_, sq_of hA⟩, fun D nD => lc_list (xs := vs) (fun i H' => Same H1 H' ∧ H' D = some (.lst ((((pl ts).take i).map fun p => (((sfx ts p).length : Nat) : Int)).map V.int))) ⟨Same.new nD, upd_same⟩ (fun i H' _ w => sq_of (w.1 _ _ hA)) ?_ ?_⟩
    · rintro i x H2 hx ⟨k2, hD⟩
      obtain ⟨p, ep, rp⟩ := hv.at hx
      have ip := pl_mem.mp (List.mem_of_getElem? ep)
      have ls := sfx_len2 hl.len p
      refine ⟨rfl, .ref s, rfl, x, rfl, s, ts, x, p, rfl, hl.same (k1.trans k2), rp.same k2, ip, _, rfl, len5 (by omega), _, hD, ?_, sameAt k2 nD, ?_⟩
      · rw [List.length_map, List.length_map, List.length_take]
        have h3 : sizeLine = 16777216 := sizeLine_eq
        omega
      · rw [upd_same, take_snoc ep, List.map_append, List.map_append]
        rfl
    · rintro H2 ⟨k2, hD⟩
      rw [hv.len, List.take_length] at hD
      have k12 := k1.trans k2
      refine ⟨D, _, rfl, sq_of hD, _, rfl, .ref s, rfl, s, ts, rfl, hl.same k12, fun B H3 k3 nB hB => ?_⟩
      have e : (lensOf ts).map iN = ((lensOf ts).map fun n => ((n : Nat) : Int)).map V.int := by rw [List.map_map]; rfl
      rw [e] at hB
      refine ⟨B, _, rfl, sq_of hB, _, _, rfl, rfl, ?_⟩
      have z := all_sum ts
      dsimp only
      rw [z]
      exact q H3 (k12.trans k3)
end
end LawK
set_option maxHeartbeats 4000000
namespace LawK
open PySem PySem.Spec PyProof.Rows L2 Ev

/-- a stretch of m signs of the first n texts -/
def Mid (ts : List Str) (m n : Nat) (y : Str) : Prop := ∃ i j, i < n ∧ j + m ≤ (tx ts i).length ∧ y = cutS (tx ts i) (some ((j : Nat) : Int)) (some (((j : Nat) : Int) + (m : Nat)))
theorem mid_cod {z : Str} {j m : Nat} : cod (cutS z (some ((j : Nat) : Int)) (some (((j : Nat) : Int) + (m : Nat)))) = ((cod z).drop j).take m := by
  have e := cutS_of (z := z) (i := ((j : Nat) : Int)) (j := ((j : Nat) : Int) + (m : Nat)) (by omega) (by omega)
  rw [show (((j : Nat) : Int) + (m : Nat) - (j : Nat)).toNat = m by omega] at e
  exact e
theorem mid_due {ts : List Str} {m : Nat} (hm : 1 ≤ m) {y : Str} : Mid ts m ts.length y ↔ y ∈ due ts ∧ y.length = m := by
  rw [due_mem]
  constructor
  · rintro ⟨i, j, hi, hj, rfl⟩
    have lt : j < (tx ts i).length := by omega
    have e := mid_cod (z := tx ts i) (j := j) (m := m)
    have l : (cod (cutS (tx ts i) (some ((j : Nat) : Int)) (some (((j : Nat) : Int) + (m : Nat))))).length = m := by
      rw [e, List.length_take, List.length_drop, ← len_S]
      omega
    refine ⟨⟨fun z => by rw [z] at l; simp at l; omega, (i, j), ⟨hi, lt⟩, ?_⟩, by rw [len_S]; exact l⟩
    rw [e, sfx_cod]
    exact List.take_prefix _ _
  · rintro ⟨⟨_, p, hp, q⟩, e⟩
    refine ⟨p.1, p.2, hp.text, ?_, cod_inj ?_⟩
    · have l := q.length_le
      have l2 := hp.at_
      rw [sfx_cod, List.length_drop, ← len_S, ← len_S] at l
      omega
    · rw [mid_cod]
      have := List.prefix_iff_eq_take.mp q
      rw [sfx_cod, ← len_S, e] at this
      exact this
def nLong (ts : List Str) (m : Nat) : Nat := ((due ts).filter fun z => decide (z.length = m)).length
theorem long_count {ts : List Str} {m : Nat} (hm : 1 ≤ m) {l : List Str} (nd : l.Nodup) (h : ∀ y, y ∈ l ↔ Mid ts m ts.length y) : l.length = nLong ts m := by
  refine List.Perm.length_eq ((List.perm_ext_iff_of_nodup nd ((due_nodup ts).filter _)).mpr fun y => ?_)
  rw [h y, mid_due hm, List.mem_filter, decide_eq_true_eq]
def spManyLong (C : Addr) : Sp := fun vs H Q _ => ∃ (s : Addr) (ts : List Str) (m : Nat), vs = [.ref s, iN m] ∧ LibAt H C s ts ∧ 1 ≤ m ∧ m ≤ 2000 ∧ ∀ H', Same H H' → Q (iN (nLong ts m)) H'
def spNumbered (C : Addr) : Sp := fun vs H Q _ => ∃ (s : Addr) (ts : List Str) (m : Nat) (z : Str), vs = [.ref s, iN m] ∧ LibAt H C s ts ∧ (due ts)[m]? = some z ∧ ∀ H', Same H H' → Q (.str z) H'
def noV (ts : List Str) (w : Str) : V := match (due ts).idxOf? w with
  | some i => iN i
  | none => .non
theorem no_none {ts : List Str} {w : Str} (h : w ∉ due ts) : noV ts w = .non := by
  unfold noV
  rw [List.idxOf?_eq_none_iff.mpr h]
theorem no_some {ts : List Str} {w : Str} {i : Nat} (h : (due ts)[i]? = some w) : noV ts w = iN i := by
  unfold noV
  obtain ⟨hi, e⟩ := List.getElem?_eq_some_iff.mp h
  have : (due ts).idxOf? w = some i := by
    rw [List.idxOf?_eq_some_iff]
    refine ⟨hi, by rw [e], fun j hj => ?_⟩
    have nd := List.nodup_iff_pairwise_ne.mp (due_nodup ts) |> List.pairwise_iff_getElem.mp
    have := nd j i (by omega) hi hj
    rw [e] at this
    simpa using this
  rw [this]
def spNumberOf (C : Addr) : Sp := fun vs H Q _ => ∃ (s : Addr) (w : Str) (ts : List Str), vs = [.ref s, .str w] ∧ LibAt H C s ts ∧ Wd w ∧ ∀ H', Same H H' → Q (noV ts w) H'
section
variable {P : Program} {w : World} {K : PySem.W.Frag} {mg : Str → Option Value} {base : Heap}
variable {C fI : Addr} {fdI : FuncData}
abbrev sPManyLong : Stmt := topS 34
theorem scPManyLong : FnScope ["library", "many", "text", "at"] ["library", "many"] (defScope sPManyLong) := ⟨rfl, rfl, rfl, by decide +kernel, rfl, by decide +kernel, by decide +kernel⟩
theorem ok_PManyLong {f : Addr} {fd : FuncData} (F : Fun K "many_long" "many_long" sPManyLong f fd) (L : LibC K mg C fI fdI) {tM : Tok} (gM : mg "MOST_SIGNS" = some (.int 2000 tM)) {fPNumber : Addr} {fdPNumber : FuncData} (DPNumber : Dk P w K mg base "is_number" sPNumber ["thing"] 1 spNum fPNumber fdPNumber) (T : Glob mg) : FnOk P w K mg base CX0 2 f fd ["library", "many"] (spManyLong C) := by
  refine F.ok scPManyLong (fun vs H Q E h => ?_) (fun cdv A outer s H vs Q E hr h => ?_)
  · obtain ⟨s, ts, m, rfl, _⟩ := h
    rfl
  · refine ⟨_, (pss_cons (ps_if (PW.pt (pw_or (pt_not (pt_val (pe_call DPNumber.ok (hr.mono (by decide)) (by rfl) DPNumber.g DPNumber.F.kp DPNumber.b .nil pass0 (pa_cons (pv 1) pa_nil)))) (pw_or (pt_cmpR op_lt (pv 1) pe_int (nomark _)) (pw_or1 (pt_cmpR op_gt (pv 1) (pe_glob (v := .int 2000) (by rfl) gM ⟨_, rfl⟩) (nomark _))))))
      (pss_one ps_dead)
      pss_nil)
      (pss_one (ps_ret (pe_callB cr_lenSx (by rfl) T.len PySem.boot_len (pa_cons (pe_sc2 (own := [("text", 2), ("at", 3)]) (vs1 := [3]) (g := gName 2) (g1 := gName 3) (by rfl) scPManyLong.nd (pi_tup (pe_fld (pv 0) rfl)) (blkOk_by (N := ["library", "many", "text", "at"]) (sc := defScope sPManyLong) (by decide +kernel)) (by decide) (fun _ _ _ => pg_name (i := 2) scPManyLong.nd rfl (.inl rfl)) (fun _ _ _ => pts_nil) (fun _ _ _ => pi_range1 (by rfl) T.range (pa_cons (pe_op op_add (pe_op op_sub (pe_callB call_lenZ (by rfl) T.len PySem.boot_len (pa_cons (pv 2) pa_nil)) (pv 1)) pe_int) pa_nil)) (fun _ _ _ => pg_name (i := 3) scPManyLong.nd rfl (.inl rfl)) (fun _ _ _ => pts_nil) (fun _ _ _ => pe_slice sl_str (pv 2) (po_some (pv 3)) (po_some (pe_op op_add (pv 3) (pv 1))))) pa_nil))))), ?_⟩
    obtain ⟨s, ts, m, rfl, hl, m1, m2, q⟩ := h
    obtain ⟨⟨dx, a, h1, h2⟩, few, sg1, len1⟩ := hl
    have nv : numV (iN m) = true := decide_eq_true (Int.natCast_nonneg m)
    refine ⟨_, rfl, _, .int, rfl, .int _, _, rfl, ite2 (fun c => by rw [nv] at c; cases c) (fun _ => ?_)⟩
    refine ⟨_, rfl, _, _, rfl, rfl, _, rfl, ite2 (fun c => absurd (of_decide_eq_true c) (show ¬ (m : Int) < 1 by omega)) (fun _ => ?_)⟩
    refine ⟨_, rfl, _, _, rfl, rfl, _, rfl, ite2 (fun c => absurd (of_decide_eq_true c) (show ¬ (2000 : Int) < m by omega)) (fun _ => ?_)⟩
    dsimp only [tNext, tDrop]
    refine ⟨.ref s, rfl, s, C, dx, _, .ref a, rfl, h1, L.cl, L.nt, lk1, a, rfl, ⟨_, SqT.of h2⟩, fun D nD => wk (walk_tup (xs := ts.map V.str)) (fun i H' => Same H H' ∧ ∃ (S : Key → Bool) (l : List Str), H' D = some (SetX P w D S l.length) ∧ l.Nodup ∧ (∀ k, S k = true ↔ ∃ y ∈ l, k = .inr y) ∧ (∀ y, y ∈ l ↔ Mid ts m i y) ∧ l.length ≤ 201 * i) ⟨Same.new nD, _, [], upd_same, List.nodup_nil, fun k => ⟨fun e => (by cases e), fun ⟨y, h, _⟩ => absurd h (by simp)⟩, fun y => ⟨fun h => absurd h (by simp), fun ⟨i, _, h, _⟩ => absurd h (by omega)⟩, Nat.zero_le _⟩ (fun i H' _ w => SqT.of (w.1 _ _ h2)) ?_ ?_⟩
    · rintro i v H1 H1' hi ⟨k1, S, l, hD, nd, hS, hM, hn⟩ ⟨eH, hv⟩
      subst eH
      rw [List.length_map] at hi
      obtain rfl : V.str (tx ts i) = v := Option.some.inj ((tx_at hi).symm.trans hv)
      have ln1 := tx_len len1 i
      refine ⟨rfl, _, rfl, _, rfl, len5 (by omega), _, rfl, _, _, rfl, rfl, _, _, rfl, rfl, _, rfl, by omega, by omega, wk walk_range (fun j H' => Same H H' ∧ ∃ (S : Key → Bool) (l : List Str), H' D = some (SetX P w D S l.length) ∧ l.Nodup ∧ (∀ k, S k = true ↔ ∃ y ∈ l, k = .inr y) ∧ (∀ y, y ∈ l ↔ Mid ts m i y ∨ ∃ j', j' < j ∧ y = cutS (tx ts i) (some ((j' : Nat) : Int)) (some (((j' : Nat) : Int) + (m : Nat)))) ∧ l.length ≤ 201 * i + j) ⟨k1, S, l, hD, nd, hS, fun y => (hM y).trans ⟨.inl, fun h => h.elim id fun ⟨j', h, _⟩ => absurd h (by omega)⟩, hn⟩ (fun _ _ _ _ => trivial) ?_ ?_⟩
      · rintro j y H2 H2' hj ⟨k2, S2, l2, hD2, nd2, hS2, hM2, hn2⟩ ⟨eH, rfl⟩
        subst eH
        have e0 : (0 + (j : Int)) = (j : Nat) := by omega
        dsimp only
        rw [e0]
        obtain ⟨z, ez⟩ : ∃ z, z = cutS (tx ts i) (some ((j : Nat) : Int)) (some (((j : Nat) : Int) + (m : Nat))) := ⟨_, rfl⟩
        refine ⟨rfl, _, rfl, _, rfl, _, rfl, _, rfl, _, rfl, _, _, rfl, rfl, _, rfl, _, rfl, len5 (by omega), .inr z, S2, l2.length, by rw [ez]; rfl, hD2, by show _ < 4096; omega, sameAt k2 nD, (fun k => S2 k || decide (k = .inr z)), if S2 (.inr z) = true then l2 else l2 ++ [z], ?_, ?_, ?_, ?_, ?_⟩
        · rw [upd_same]
          unfold put1
          have e9 : (if S2 (.inr z) = true then l2 else l2 ++ [z]).length = if S2 (.inr z) = true then l2.length else l2.length + 1 := by split <;> simp
          rw [e9]
          rfl
        · split
          · exact nd2
          · rename_i c
            refine List.nodup_append.mpr ⟨nd2, List.pairwise_singleton _ z, fun a ha b hb e => c ((hS2 _).mpr ⟨a, ha, ?_⟩)⟩
            rw [e, List.mem_singleton.mp hb]
        · intro k
          rw [Bool.or_eq_true, decide_eq_true_eq, hS2 k]
          constructor
          · rintro (⟨y, hy, rfl⟩ | rfl)
            · exact ⟨y, by split <;> first | exact hy | exact List.mem_append_left _ hy, rfl⟩
            · refine ⟨z, ?_, rfl⟩
              split
              · rename_i c
                obtain ⟨y, hy, e⟩ := (hS2 _).mp c
                rw [Sum.inr.inj e]
                exact hy
              · exact List.mem_append_right _ (by simp)
          · rintro ⟨y, hy, rfl⟩
            split at hy
            · exact .inl ⟨y, hy, rfl⟩
            · rcases List.mem_append.mp hy with h | h
              · exact .inl ⟨y, h, rfl⟩
              · exact .inr (by rw [List.mem_singleton.mp h])
        · intro y
          have e8 : y ∈ (if S2 (.inr z) = true then l2 else l2 ++ [z]) ↔ y ∈ l2 ∨ y = z := by
            split
            · rename_i c
              refine ⟨.inl, fun h => h.elim id fun e => ?_⟩
              obtain ⟨u, hu, e2⟩ := (hS2 _).mp c
              rw [e, Sum.inr.inj e2]
              exact hu
            · rw [List.mem_append, List.mem_singleton]
          rw [e8, hM2 y]
          constructor
          · rintro ((h | ⟨j', h1, h2⟩) | h)
            · exact .inl h
            · exact .inr ⟨j', by omega, h2⟩
            · exact .inr ⟨j, by omega, by rw [h, ez]⟩
          · rintro (h | ⟨j', h1, h2⟩)
            · exact .inl (.inl h)
            · rcases Nat.lt_or_ge j' j with c | c
              · exact .inl (.inr ⟨j', c, h2⟩)
              · exact .inr (by rw [h2, ez, show j' = j by omega])
        · split
          · omega
          · rw [List.length_append]
            show _ + 1 ≤ _
            omega
      · rintro H2 ⟨k2, S2, l2, hD2, nd2, hS2, hM2, hn2⟩
        refine ⟨k2, S2, l2, hD2, nd2, hS2, fun y => (hM2 y).trans ?_, by omega⟩
        constructor
        · rintro (⟨i', j', a1, a2, a3⟩ | ⟨j', a1, a2⟩)
          · exact ⟨i', j', by omega, a2, a3⟩
          · exact ⟨i, j', by omega, by omega, a2⟩
        · rintro ⟨i', j', a1, a2, a3⟩
          rcases Nat.lt_or_ge i' i with c | c
          · exact .inl ⟨i', j', c, a2, a3⟩
          · obtain rfl : i' = i := by omega
            exact .inr ⟨j', by omega, a3⟩
    · rintro H1 ⟨k1, S, l, hD, nd, hS, hM, hn⟩
      rw [List.length_map] at hM
      refine ⟨D, S, l.length, rfl, hD, ?_⟩
      rw [long_count m1 nd hM]
      exact q H1 k1
end
end LawK
set_option maxHeartbeats 4000000
namespace LawK
open PySem PySem.Spec PyProof.Rows L2 Ev

theorem lens_at {ts : List Str} {i : Nat} (h : i < nP ts) : (lensOf ts)[i]? = some (ln (sOf ts) i) := by
  unfold lensOf
  rw [List.getElem?_map, List.getElem?_range h]
  rfl
theorem lens_len (ts : List Str) : (lensOf ts).length = nP ts := by unfold lensOf; rw [List.length_map, List.length_range]
theorem ixN_nat {n i : Nat} (h : i < n) : ixN n ((i : Nat) : Int) = some i := by
  unfold ixN
  rw [if_pos (by omega), if_pos (by omega)]
  rfl
/-- of the first n endings, the signs less what neighbours have in common -/
theorem part_sum (ts : List Str) : ∀ n, n ≤ nP ts → ((List.range n).map fun i => (((sOf ts i).length : Nat) : Int) - ((ln (sOf ts) i : Nat) : Int)).sum = (((pcs (sOf ts) n).length : Nat) : Int)
  | 0, _ => rfl
  | n + 1, h => by
    have a := part_sum ts n (by omega)
    have b := ln_le (sOf ts) n
    rw [List.range_succ, List.map_append, List.sum_append, a, pcs_len]
    simp only [List.map_cons, List.map_nil, List.sum_cons, List.sum_nil]
    omega
section
variable {P : Program} {w : World} {K : PySem.W.Frag} {mg : Str → Option Value} {base : Heap}
variable {C fI : Addr} {fdI : FuncData}
abbrev sPNumbered : Stmt := topS 35
theorem scPNumbered : FnScope ["library", "number", "left", "place", "length", "signs"] ["library", "number"] (defScope sPNumbered) := ⟨rfl, rfl, rfl, by decide +kernel, rfl, by decide +kernel, by decide +kernel⟩
theorem ok_PNumbered {f : Addr} {fd : FuncData} (F : Fun K "piece_numbered" "piece_numbered" sPNumbered f fd)  {fPEndings : Addr} {fdPEndings : FuncData} (DPEndings : Dk P w K mg base "endings" sPEndings ["library"] 2 (spEndings C) fPEndings fdPEndings) {fPEnding : Addr} {fdPEnding : FuncData} (DPEnding : Dk P w K mg base "ending" sPEnding ["library", "place"] 3 (spEnding C) fPEnding fdPEnding) {fPLengths : Addr} {fdPLengths : FuncData} (DPLengths : Dk P w K mg base "lengths" sPLengths ["library"] 5 (spLengths C) fPLengths fdPLengths) {fPNumber : Addr} {fdPNumber : FuncData} (DPNumber : Dk P w K mg base "is_number" sPNumber ["thing"] 1 spNum fPNumber fdPNumber) (T : Glob mg) : FnOk P w K mg base CX0 6 f fd ["library", "number"] (spNumbered C) := by
  refine F.ok scPNumbered (fun vs H Q E h => ?_) (fun cdv A outer s H vs Q E hr h => ?_)
  · obtain ⟨s, ts, m, z, rfl, _⟩ := h
    rfl
  · refine ⟨_, (pss_cons (ps_if (pt_not (pt_val (pe_call DPNumber.ok (hr.mono (by decide)) (by rfl) DPNumber.g DPNumber.F.kp DPNumber.b .nil pass0 (pa_cons (pv 1) pa_nil))))
      (pss_one ps_dead)
      pss_nil)
      (pss_cons (ps_set (i := 2) scPNumbered.nd rfl (.inl rfl) (pv 1))
      (pss_cons (ps_for PassesOwn.never rfl (RZ.pi_zipA (by rfl) T.zip (pa_cons (pe_call DPEndings.ok (hr.mono (by decide)) (by rfl) DPEndings.g DPEndings.F.kp DPEndings.b .nil pass0 (pa_cons (pv 0) pa_nil)) (pa_cons (pe_call DPLengths.ok (hr.mono (by decide)) (by rfl) DPLengths.g DPLengths.F.kp DPLengths.b .nil pass0 (pa_cons (pv 0) pa_nil)) pa_nil))) (pg_tup (by rfl) (pgs_cons (pg_name (i := 3) scPNumbered.nd rfl (.inl rfl)) (pgs_cons (pg_name (i := 4) scPNumbered.nd rfl (.inl rfl)) pgs_nil)))
      (pss_cons (ps_set (i := 5) scPNumbered.nd rfl (.inl rfl) (pe_call DPEnding.ok (hr.mono (by decide)) (by rfl) DPEnding.g DPEnding.F.kp DPEnding.b .nil pass0 (pa_cons (pv 0) (pa_cons (pv 3) pa_nil))))
        (pss_cons (ps_if (pt_cmpR op_lt (pv 2) (pe_op op_sub (pe_callB call_lenZ (by rfl) T.len PySem.boot_len (pa_cons (pv 5) pa_nil)) (pv 4)) (nomark _))
        (pss_one (ps_ret (pe_slice sl_str (pv 5) po_none (po_some (pe_op op_add (pe_op op_add (pv 4) (pv 2)) pe_int)))))
        pss_nil)
        (pss_one (ps_aug (i := 2) scPNumbered.nd rfl (.inl rfl) (pe_op op_sub (pe_callB call_lenZ (by rfl) T.len PySem.boot_len (pa_cons (pv 5) pa_nil)) (pv 4)) ip_sub)))))
      (pss_one ps_dead)))), ?_⟩
    obtain ⟨s, ts, m, z, rfl, hl, hz, q⟩ := h
    have nv : numV (iN m) = true := decide_eq_true (Int.natCast_nonneg m)
    have mlt : m < (pcs (sOf ts) (nP ts)).length := by
      have := (List.getElem?_eq_some_iff.mp hz).1
      unfold due at this
      rwa [List.length_map] at this
    refine ⟨_, rfl, _, .int, rfl, .int _, _, rfl, ite2 (fun c => by rw [nv] at c; cases c) (fun _ => ?_)⟩
    dsimp only [tNext, tDrop]
    refine ⟨_, rfl, .ref s, rfl, s, ts, rfl, hl, fun A H1 k1 nA ⟨vs, hA, hv⟩ => ?_⟩
    refine ⟨.ref s, rfl, s, ts, rfl, hl.same k1, fun B H2 k2 nB hB => ?_⟩
    have k12 := k1.trans k2
    have lv := hv.len
    refine ⟨A, B, _, _, rfl, .inl ⟨sq_of (k2 _ _ hA), sq_of hB, for_it (walk_zip (K := K) (a := A) (b := B) (xs := vs) (ys := (lensOf ts).map iN) (n := nP ts) (by rw [List.length_map, lens_len, lv]; exact (Nat.min_self _).symm)) (fun i σ H' => ∃ (x y u : Option V) (r : Nat), σ = [some (.ref s), some (iN m), some (iN r), x, y, u] ∧ Same H2 H' ∧ m = (pcs (sOf ts) i).length + r) ⟨_, _, _, m, rfl, Same.refl H2, by show m = 0 + m; omega⟩ (fun i σ H' _ ⟨_, _, _, _, _, w, _⟩ => ⟨sq_of (w _ _ (k2 _ _ hA)), sq_of (w _ _ hB)⟩) ?_ ?_⟩⟩
    · rintro i v σ H3 H4 hi ⟨x, y, u, r, rfl, k3, em⟩ ⟨t, y1, y2, rfl, nt, rfl, e1, e2⟩
      have e1 : vs[i]? = some y1 := e1
      have e2 : ((lensOf ts).map iN)[i]? = some y2 := e2
      rw [List.getElem?_map, lens_at hi] at e2
      obtain rfl : iN (ln (sOf ts) i) = y2 := Option.some.inj e2
      obtain ⟨p, ep, rp⟩ := hv.at e1
      have ip := ord_mem.mp (List.mem_of_getElem? ep)
      have kt := Same.new (H := H3) (o := .tup [y1, iN (ln (sOf ts) i)]) nt
      have kk := (k2.trans k3).trans kt
      have ls := sfx_len2 hl.len p
      have ll := ln_le2 ep
      refine ⟨t, [y1, iN (ln (sOf ts) i)], rfl, SqT.of upd_same, rfl, y1, [iN (ln (sOf ts) i)], rfl, iN (ln (sOf ts) i), [], rfl, rfl, ?_⟩
      refine ⟨.ref s, rfl, y1, rfl, s, ts, y1, p, rfl, hl.same (k1.trans kk), rp.same kk, ip, ?_⟩
      refine ⟨_, rfl, _, rfl, _, rfl, len5 (by omega), _, rfl, _, _, rfl, rfl, _, _, rfl, rfl, _, rfl, ite2 (fun c => ?_) (fun c => ?_)⟩
      · have c1 : (r : Int) < ((sfx ts p).length : Nat) - (ln (sOf ts) i : Nat) := of_decide_eq_true c
        have e9 := due_get ep (k := r) (by omega)
        rw [← em, hz] at e9
        have e9 := Option.some.inj e9
        refine ⟨_, rfl, _, rfl, _, rfl, _, _, rfl, rfl, _, _, rfl, rfl, _, rfl, _, rfl, len5 (by omega), ?_⟩
        dsimp only
        have ez : cutS (sfx ts p) none (some (((ln (sOf ts) i : Nat) : Int) + (r : Nat) + 1)) = z := by
          refine cod_inj ?_
          have := cutS_to (z := sfx ts p) (i := ((ln (sOf ts) i : Nat) : Int) + (r : Nat) + 1) (by omega)
          rw [show (((ln (sOf ts) i : Nat) : Int) + (r : Nat) + 1).toNat = ln (sOf ts) i + r + 1 by omega] at this
          rw [e9]
          exact this
        rw [ez]
        exact q _ (k1.trans (kk))
      · have c1 : ¬ (r : Int) < ((sfx ts p).length : Nat) - (ln (sOf ts) i : Nat) := fun z => c (decide_eq_true z)
        have e9 := due_few ep
        dsimp only [tNext, tDrop]
        refine ⟨_, rfl, _, rfl, _, rfl, len5 (by omega), _, rfl, _, _, rfl, rfl, _, _, rfl, rfl, ?_⟩
        refine ⟨some y1, some (iN (ln (sOf ts) i)), some (.str (sfx ts p)), r - ((sfx ts p).length - ln (sOf ts) i), ?_, k3.trans kt, by omega⟩
        have e8 : (r : Int) - (((sfx ts p).length : Nat) - (ln (sOf ts) i : Nat)) = ((r - ((sfx ts p).length - ln (sOf ts) i) : Nat) : Int) := by omega
        dsimp only
        rw [e8]
        rfl
    · rintro σ H3 ⟨x, y, u, r, rfl, k3, em⟩
      exact absurd mlt (by omega)
abbrev sPNumberOf : Stmt := topS 36
theorem scPNumberOf : FnScope ["library", "word", "first", "behind", "order", "common_lengths", "ahead", "number"] ["library", "word"] (defScope sPNumberOf) := ⟨rfl, rfl, rfl, by decide +kernel, rfl, by decide +kernel, by decide +kernel⟩
theorem ok_PNumberOf {f : Addr} {fd : FuncData} (F : Fun K "number_of" "number_of" sPNumberOf f fd)  {fPEndings : Addr} {fdPEndings : FuncData} (DPEndings : Dk P w K mg base "endings" sPEndings ["library"] 2 (spEndings C) fPEndings fdPEndings) {fPEnding : Addr} {fdPEnding : FuncData} (DPEnding : Dk P w K mg base "ending" sPEnding ["library", "place"] 3 (spEnding C) fPEnding fdPEnding) {fPLengths : Addr} {fdPLengths : FuncData} (DPLengths : Dk P w K mg base "lengths" sPLengths ["library"] 5 (spLengths C) fPLengths fdPLengths) {fPSpan : Addr} {fdPSpan : FuncData} (DPSpan : Dk P w K mg base "span" sPSpan ["library", "word"] 5 (spSpan C) fPSpan fdPSpan) (T : Glob mg) : FnOk P w K mg base CX0 6 f fd ["library", "word"] (spNumberOf C) := by
  refine F.ok scPNumberOf (fun vs H Q E h => ?_) (fun cdv A outer s H vs Q E hr h => ?_)
  · obtain ⟨s, w, ts, rfl, _⟩ := h
    rfl
  · refine ⟨_, (pss_cons (ps_asg (pe_call DPSpan.ok (hr.mono (by decide)) (by rfl) DPSpan.g DPSpan.F.kp DPSpan.b .nil pass0 (pa_cons (pv 0) (pa_cons (pv 1) pa_nil))) (pg_tup (by rfl) (pgs_cons (pg_name (i := 2) scPNumberOf.nd rfl (.inl rfl)) (pgs_cons (pg_name (i := 3) scPNumberOf.nd rfl (.inl rfl)) pgs_nil))))
      (pss_cons (ps_if (pt_cmpR op_eq (pv 2) (pv 3) (nomark _))
      (pss_one (ps_ret pe_non))
      pss_nil)
      (pss_cons (ps_set (i := 4) scPNumberOf.nd rfl (.inr rfl) (pe_call DPEndings.ok (hr.mono (by decide)) (by rfl) DPEndings.g DPEndings.F.kp DPEndings.b .nil pass0 (pa_cons (pv 0) pa_nil)))
      (pss_cons (ps_set (i := 5) scPNumberOf.nd rfl (.inr rfl) (pe_call DPLengths.ok (hr.mono (by decide)) (by rfl) DPLengths.g DPLengths.F.kp DPLengths.b .nil pass0 (pa_cons (pv 0) pa_nil)))
      (pss_cons (ps_set (i := 6) scPNumberOf.nd rfl (.inl rfl) (pe_callB (cr_sum rfl) (by rfl) T.sum (by decide +kernel) (pa_cons (pe_lc (own := [("number", 7)]) (g := gName 7) (by rfl) scPNumberOf.nd (pi_range1 (by rfl) T.range (pa_cons (pv 2) pa_nil)) (blkOk_by (N := ["library", "word", "first", "behind", "order", "common_lengths", "ahead", "number"]) (sc := defScope sPNumberOf) (by decide +kernel)) (fun _ _ _ _ _ => pg_name (i := 7) scPNumberOf.nd rfl (.inl rfl)) (fun _ _ _ _ _ => pts_nil) (fun _ _ _ _ _ => (pe_op op_sub (pe_callB call_lenZ (by rfl) T.len PySem.boot_len (pa_cons (pe_call DPEnding.ok (hr.mono (by decide)) (by rfl) DPEnding.g DPEnding.F.kp DPEnding.b .nil pass0 (pa_cons (pv 0) (pa_cons (pe_ix (r := rIxL K) ix_list (pv 4) (pv 7) (fun _ _ => rfl)) pa_nil))) pa_nil)) (pe_ix (r := rIxL K) ix_list (pv 5) (pv 7) (fun _ _ => rfl))))) pa_nil)))
      (pss_one (ps_ret (pe_op op_sub (pe_op op_sub (pe_op op_add (pv 6) (pe_callB call_lenZ (by rfl) T.len PySem.boot_len (pa_cons (pv 1) pa_nil))) (pe_ix ix_list (pv 5) (pv 2) (fun _ _ => rfl))) pe_int)))))))), ?_⟩
    obtain ⟨s, z, ts, rfl, hl, hw, q⟩ := h
    have nz : cod z ≠ [] := fun e => by
      have := hw.pos
      rw [len_S] at this
      have e : z.cps.toList = [] := e
      rw [e] at this
      exact absurd this (by simp)
    refine ⟨.ref s, rfl, .str z, rfl, s, z, ts, rfl, hl, hw, fun b H0 k0 hb => ?_⟩
    refine ⟨b, _, rfl, SqT.of hb, rfl, _, _, rfl, _, _, rfl, rfl, ?_⟩
    refine ⟨_, rfl, _, rfl, rfl, _, rfl, ite2 (fun c => ?_) (fun c => ?_)⟩
    · rw [dec_int] at c
      have c1 : ((nLt ts z : Nat) : Int) = ((nLt ts z + nBeg ts z : Nat) : Int) := of_decide_eq_true c
      have e0 : ¬ z ∈ due ts := fun h => by
        have := (due_w nz).mp h
        omega
      have q := q H0 k0
      rw [no_none e0] at q
      exact q
    · rw [dec_int] at c
      have c1 : ¬ ((nLt ts z : Nat) : Int) = ((nLt ts z + nBeg ts z : Nat) : Int) := fun h => c (decide_eq_true h)
      have pos : 0 < nBeg ts z := by omega
      obtain ⟨d1, d2, d3⟩ := due_no nz pos
      have ol : nP ts ≤ 1600 := ord_len hl.len hl.few
      dsimp only [tNext, tDrop]
      refine ⟨.ref s, rfl, s, ts, rfl, hl.same k0, fun A H1 k1 nA ⟨vs, hA, hv⟩ => ?_⟩
      have k01 := k0.trans k1
      refine ⟨.ref s, rfl, s, ts, rfl, hl.same k01, fun B H2 k2 nB hB => ?_⟩
      have k02 := k01.trans k2
      refine ⟨_, rfl, _, rfl, by omega, by omega, fun D nD => lc_range (fun i H' => Same H2 H' ∧ H' D = some (.lst (((List.range i).map fun i => (((sOf ts i).length : Nat) : Int) - ((ln (sOf ts) i : Nat) : Int)).map V.int))) ⟨Same.new nD, upd_same⟩ ?_ ?_⟩
      · rintro i H3 hi ⟨k3, hD⟩
        have hi2 : i < nLt ts z := by omega
        have hi3 : i < nP ts := by omega
        obtain ⟨p, ip, ep, es⟩ := sOf_in hi3
        obtain ⟨y, ey, ry⟩ := hv.of_at ep
        have k23 := k2.trans k3
        have ls := sfx_len2 hl.len p
        have e0 : (0 + (i : Int)) = (i : Nat) := by omega
        rw [e0]
        refine ⟨rfl, .ref s, rfl, .ref A, rfl, _, rfl, A, _, _, _, rfl, rfl, sq_of (k23 _ _ hA), atI_nat ey, s, ts, y, p, rfl, hl.same (k01.trans k23), ry.same k23, ip, _, rfl, len5 (by omega), .ref B, rfl, _, rfl, B, _, _, _, rfl, rfl, sq_of (k3 _ _ hB), atI_nat (by rw [List.getElem?_map, lens_at hi3]; rfl), _, _, rfl, rfl, _, hD, ?_, sameAt k3 nD, ?_⟩
        · rw [List.length_map, List.length_map, List.length_range]
          have := ord_len hl.len hl.few
          have h3 : sizeLine = 16777216 := sizeLine_eq
          omega
        · rw [upd_same, List.range_succ, List.map_append, List.map_append]
          rw [len_S (sfx ts p)]
          simp only [List.map_cons, List.map_nil]
          rw [es]
      · rintro H3 ⟨k3, hD⟩
        have et : (((nLt ts z : Nat) : Int)).toNat = nLt ts z := by omega
        rw [et] at hD
        refine ⟨D, _, rfl, sq_of hD, ?_⟩
        rw [part_sum ts _ (Nat.le_of_lt d1)]
        refine ⟨_, rfl, _, rfl, _, rfl, len5 hw.few, _, _, rfl, rfl, .ref B, rfl, _, rfl, B, _, _, _, rfl, rfl, sq_of (k3 _ _ hB), atI_nat (by rw [List.getElem?_map, lens_at d1]; rfl), _, _, rfl, rfl, _, _, rfl, rfl, ?_⟩
        have q := q H3 (k02.trans k3)
        rw [no_some d3] at q
        have e5 : (((pcs (sOf ts) (nLt ts z)).length : Nat) : Int) + ((z.length : Nat) : Int) - ((ln (sOf ts) (nLt ts z) : Nat) : Int) - 1 = (((pcs (sOf ts) (nLt ts z)).length + (z.length - ln (sOf ts) (nLt ts z) - 1) : Nat) : Int) := by omega
        dsimp only
        rw [e5]
        exact q
end
end LawK
set_option maxHeartbeats 4000000
namespace Ev
open PySem PySem.Spec PyProof.Rows L2
/-! list(d.keys()) -/
def tListKeys (te : TE) : TE := fun σ H Q => te σ H fun x H1 => ∃ (d : Addr) (kvs : List (Key × V)), x = .ref d ∧ H1 d = some (.dK kvs) ∧ ∀ q, H1 q = none → Q (.ref q) (upd H1 q (.lst (kvs.map fun kv => kV kv.1)))
section
variable {X : Cx} {e : Expr} {te : TE} {p apos cpos pos : Pos}
theorem pe_listKeys (hc : X.calm = true) (he : PE X e te) (hg : Gl X "list") (hm : X.mg "list" = none) (hbase : attributeBase e "keys" X.env (eval e X.env) = eval e X.env := by rfl) (hline : (apos.endLine == cpos.line) = true := by rfl)
    (hs : starEach [.Call (.Attribute e "keys" apos) [] [] cpos] X.env = (false, eval (.Call (.Attribute e "keys" apos) [] [] cpos) X.env) :: starEach [] X.env := by rfl) : PE X (.Call (.Name "list" p) [.Call (.Attribute e "keys" apos) [] [] cpos] [] pos) (tListKeys te) := by
  refine ⟨fun pins s σ H Q I hq => wpAny_Call_Name_kw (ld_blt I hg hm boot_list (PyProof.Rows.callWith_type1 ?_ hs rfl))⟩
  rw [hs]; refine Calls.spliced_cons ?_
  refine wpAny_Call_method (T := "dict") (id := "dict.keys") hbase rfl hline F.plainAttrs_dict F.slot_dict_keys F.type_dict_keys (thn (he.run pins s σ H _ I hq) fun u s1 ⟨x, H1, I1, rx, d, kvs, ex, hd, q⟩ => ?_)
  subst ex
  obtain rfl : u = Value.ref d := rx
  obtain ⟨hz, lo, vs, kv, hdo⟩ := I1.hok d _ hd
  obtain ⟨ep, hat⟩ := hdo.dictAt
  have lk : kvs.length = vs.length := Paired.length kv
  have I2 : Inv X pins σ H1 { s1 with heap := s1.heap.push { cls := .type "dict_keys", data := .fields #[.ref d] } } := I1.kept (t' := s1.toks) fun b ob w => Heap.get?_push_of_some _ w
  refine ⟨hdo.typeIs, hdo.mapOf.noDict, ?_⟩
  show wpAny _ _ (callWith cpos (.builtin "dict.keys") [.ref d] [] []) _ X.xe s1
  refine method_meetsIn F.slot_dict_keys F.entry_dict_keys rfl (PySem.evalArgs_none ⟨rfl, hdo.typeIs, F.args_dict_keys_1 _, _, PySem.W.kdl_meets_keys (mixKind X.prog X.w) d lo, ⟨⟨vs, hdo⟩, Calls.spliced_nil ?_⟩⟩)
  refine PySem.W.kdl_call (PySem.W.kdl_keys (knd := mixKind X.prog X.w) (kvs := vs) (ep := ep)) (I1.ok.hd hc) ⟨⟨_, Heap.get?_push_size _ rfl, rfl, rfl⟩, hat.push _⟩ (by omega) fun h' tk acc c' hk hS hacc => ?_
  have ek : (kvs.map fun kv => kV kv.1) = (vs.map (·.1)).map kV := by rw [← KV.keys kv, List.map_map] <;> rfl
  have la : acc.toList.length = vs.length := by rw [Array.length_toList] <;> exact hacc.1
  have rel : Vals (kvs.map fun kv => kV kv.1) acc.toList := by
    rw [ek]
    refine vals_of_at (by rw [List.length_map, List.length_map, la]) fun j x u h1 h2 => ?_
    obtain ⟨k, y, hky, hi⟩ := hacc.2 j u (by rw [← Array.getElem?_toList] <;> exact h2)
    rw [List.getElem?_map, List.getElem?_map, hky] at h1
    cases h1; exact keyIs_rel hi
  exact ⟨.ref _, upd H1 _ (.lst (kvs.map fun kv => kV kv.1)), I2.laid hk (Nat.le_refl _) ⟨by rw [List.length_map] <;> exact hz, acc.toList, c', rel, by rw [Array.toArray_toList] <;> exact hS⟩, rfl, q _ (I2.hok.fresh (Nat.le_refl _))⟩
end
end Ev
set_option maxHeartbeats 4000000
namespace Ev
open PySem PySem.Spec PyProof.Rows L2
/-- either way to walk -/
theorem PI.or {X : Cx} {tg e : Expr} {u v : TI} (h : PI X tg e u) (k : PI X tg e v) : PI X tg e (fun σ H R => u σ H R ∨ v σ H R) :=
  ⟨fun pins s σ H R I q => q.elim (fun z => h.run pins s σ H R I z) (fun z => k.run pins s σ H R I z)⟩
theorem for_enL {K : PySem.W.Frag} {a : Addr} {xs : List V} {g : TG} {tb : TS} {D : Ends} {σ : L2.St} {H : Hp} (Pv : Nat → L2.St → Hp → Prop) (h0 : Pv 0 σ H) (hl : ∀ i σ H, Pv i σ H → SqL K H a xs)
    (hs : ∀ (i : Nat) x σ H, xs[i]? = some x → Pv i σ H → ∀ T, H T = none → g (.ref T) σ (upd H T (.tup [.int (i : Nat), x])) fun σ2 H2 => tb { D with nx := Pv (i + 1), ct := Pv (i + 1), bk := D.nx } σ2 H2) (hd : ∀ σ H, Pv xs.length σ H → D.nx σ H) :
    ∃ W : Nat → Nat → L2.St → Hp → Prop, (∃ m, W 0 m σ H) ∧ ∀ i m σ H, W i m σ H →
      ((Ite K a).stop i H ∧ D.nx σ H) ∨ ((Ite K a).go i H ∧ ∃ N : L2.St → Hp → Prop, (∀ σ' H', N σ' H' → ∃ m', m' < m ∧ W (i + 1) m' σ' H') ∧ ∀ x H', (Ite K a).yld i H x H' → g x σ H' fun σ2 H2 => tb { D with nx := N, ct := N, bk := D.nx } σ2 H2) :=
  for_it walk_enum Pv h0 (fun i σ H _ p => hl i σ H p) (fun i x σ H H' _ p y => by
    obtain ⟨T, x1, x2, rfl, nT, rfl, e1, e2⟩ := y
    cases e1
    exact hs i x2 σ H e2 p T nT) hd
theorem kit_seq {K : PySem.W.Frag} (k : Kn) : PySem.W.kitAny K (.type k.name) [.type "list", .type "tuple"] = some (decide (k = .lst) || decide (k = .tup)) := by
  cases k <;> rfl
end Ev
set_option maxHeartbeats 4000000
namespace Ev
open PySem PySem.Spec PyProof.Rows L2
/-- the entries of a written dict with texts as keys -/
inductive Ents (P : Params) : List DictEntry → List (Str × V) → Prop
  | nil : Ents P [] []
  | cons {x : Str} {t : Tok} {u : Value} {v : V} {es : List DictEntry} {kvs : List (Str × V)} (r : RelV v u) (h : Ents P es kvs) : Ents P (⟨PyData.keyHash P x, .str x t, u⟩ :: es) ((x, v) :: kvs)
/-- a dict of the module at a -/
structure KD (K : PySem.W.Frag) (w : World) (a : Addr) (kvs : List (Str × V)) : Prop where
  lk : ∃ (es : List DictEntry) (n : Nat), K.lookup a = some ⟨.type "dict", none, .dict es.toArray n, #[]⟩ ∧ Ents w.params es kvs
  ne : (a == sysModules) = false
theorem Ents.lit {P : Params} {es : List DictEntry} {kvs : List (Str × V)} (h : Ents P es kvs) : PySem.W.KeysLit P es := by
  induction h with
  | nil => trivial
  | cons r h ih => exact ⟨⟨_, _, rfl, rfl⟩, ih⟩
theorem Ents.find {P : Params} {es : List DictEntry} {kvs : List (Str × V)} (h : Ents P es kvs) (z : Str) :
    (kvs.lookup z = none ∧ findBy Value.isStrOf es.toArray z = none) ∨ ∃ v u, kvs.lookup z = some v ∧ findBy Value.isStrOf es.toArray z = some u ∧ RelV v u := by
  induction h with
  | nil => exact .inl ⟨rfl, rfl⟩
  | @cons x t u v es kvs r h ih =>
    unfold findBy at ih ⊢
    rw [List.find?_toArray, List.find?_cons, List.lookup_cons]
    by_cases e : z = x
    · subst e
      have e1 : Value.isStrOf z (.str z t) = true := by simp [Value.isStrOf]
      rw [e1, beq_self_eq_true]
      exact .inr ⟨v, u, rfl, rfl, r⟩
    · have e1 : Value.isStrOf z (.str x t) = false := by
        cases q : Value.isStrOf z (.str x t) with
        | false => rfl
        | true =>
          obtain ⟨t', q⟩ := Value.isStrOf_shape q
          injection q with q1 _
          exact absurd q1.symm e
      rw [e1, beq_false_of_ne e]
      rw [List.find?_toArray] at ih
      exact ih
theorem kd_mk {K : PySem.W.Frag} {w : World} {a : Addr} {es : List DictEntry} {n : Nat} {kvs : List (Str × V)} (l : K.lookup a = some ⟨.type "dict", none, .dict es.toArray n, #[]⟩) (ne : (a == sysModules) = false) (h : Ents w.params es kvs) : KD K w a kvs := ⟨⟨es, n, l, h⟩, ne⟩
def rNotInKD (K : PySem.W.Frag) (w : World) : R2 := fun x y H Q => ∃ a z kvs, x = .str z ∧ y = .ref a ∧ KD K w a kvs ∧ Q (.bl (!(kvs.lookup z).isSome)) H
def rIxKD (K : PySem.W.Frag) (w : World) : R2 := fun x y H Q => ∃ a z kvs v, x = .ref a ∧ y = .str z ∧ KD K w a kvs ∧ kvs.lookup z = some v ∧ Q v H
section
variable {X : Cx}
theorem op_notInKD : OpR X (compareOp .NotIn) (rNotInKD X.K X.w) := by
  intro pins s σ H x y v u Q I rx ry h
  obtain ⟨a, z, kvs, rfl, rfl, ⟨⟨es, n, hl, en⟩, ne⟩, q⟩ := h
  obtain ⟨t, rfl⟩ := (show ∃ t, v = Value.str z t from rx)
  obtain rfl : u = Value.ref a := ry
  have hm := PySem.W.mapOf_K (prog := X.prog) (w := X.w) I.kIn hl en.lit
  refine wpAny_notIn_of (strKind_is X.prog X.w z t) ne hm ⟨.bl (!(findBy Value.isStrOf es.toArray z).isSome), H, I.tok _, rfl, ?_⟩
  rcases en.find z with ⟨e1, e2⟩ | ⟨v0, u0, e1, e2, _⟩
  · rw [e1] at q
    rw [e2]
    exact q
  · rw [e1] at q
    rw [e2]
    exact q
theorem ix_KD : IxR X (rIxKD X.K X.w) := by
  intro value slice pins s σ H x y v u Q I rx ry h hs
  obtain ⟨a, z, kvs, r, rfl, rfl, ⟨⟨es, n, hl, en⟩, ne⟩, e, q⟩ := h
  obtain rfl : v = Value.ref a := rx
  obtain ⟨t, rfl⟩ := ry
  have hm := PySem.W.mapOf_K (prog := X.prog) (w := X.w) I.kIn hl en.lit
  rcases en.find z with ⟨e1, e2⟩ | ⟨v0, u0, e1, e2, ru⟩
  · rw [e1] at e
    cases e
  · rw [e1] at e
    cases e
    exact tail_any hm.typeIs slot_dict_getitem.lookup (wpAny_getItem_of (strKind_is X.prog X.w z t) hm e2 ⟨r, H, I.tok _, ru, q⟩) hs
end
/-- a local name that holds one of several defs -/
def tCallR (i : Nat) (S : Addr → Sp → Prop) (t : TA) : TE := fun σ H Q => ∃ f sp, σ[i]? = some (some (.ref f)) ∧ S f sp ∧ t σ H fun vs H1 => sp vs H1 Q (fun _ _ _ => False)
theorem pe_callR {X : Cx} {k i : Nat} {x : Str} {p pos : Pos} {e : Expr} {es : List Expr} {t : TA} {S : Addr → Sp → Prop} (A : ∀ f sp, S f sp → Held X.prog X.w X.K X.mg X.base k f sp) (hr : Room k X.A) (hN : X.N[i]? = some x) (hv : Vis X.env.scope x) (ha : PA X (e :: es) t)
    (hdb : (x == ("__debug__" : Str)) = false := by decide) (hcd : (x == ("__classdict__" : Str)) = false := by decide)
    (he : starEach (e :: es) X.env = (false, eval e X.env) :: starEach es X.env := by rfl) (hpl : (backTo pos (starEach es X.env)).any (·.1) = false := by rfl) : PE X (.Call (.Name x p) (e :: es) [] pos) (tCallR i S t) := by
  refine ⟨fun pins s σ H Q I h => ?_⟩
  obtain ⟨f, sp, hs, hS, ht⟩ := h
  obtain ⟨fd, ps, F, hk, hb⟩ := (A f sp hS).ex
  refine (pe_callL (i := i) (f := f) (sp := sp) (dvs := []) (E := fun _ _ _ => False) F hr hN hv hk hb .nil (fun _ _ _ _ _ _ _ z => z.elim) ha hdb hcd he hpl).run pins s σ H Q I ⟨hs, ?_⟩
  have e0 : (fun (vs : List V) (H1 : Hp) => sp (vs ++ []) H1 Q (fun _ _ _ => False)) = fun vs H1 => sp vs H1 Q (fun _ _ _ => False) := by
    funext vs H1
    rw [List.append_nil]
  show t σ H (fun vs H1 => sp (vs ++ []) H1 Q (fun _ _ _ => False))
  rw [e0]
  exact ht
end Ev
set_option maxHeartbeats 4000000
namespace LawK
open PySem PySem.Spec PyProof.Rows L2 Ev

theorem kit_tl {K : PySem.W.Frag} (k : Kn) : PySem.W.kitAny K (.type k.name) [.type "tuple", .type "list"] = some (decide (k = .tup) || decide (k = .lst)) := by
  cases k <;> rfl
/-- a number, a text or None -/
inductive Sc : V → Prop
  | int (i : Int) : Sc (.int i)
  | str (z : Str) : Sc (.str z)
  | non : Sc .non
def spIs : Sp := fun vs H Q _ => ∃ x, vs = [x, x] ∧ Sc x ∧ ∀ H', Same H H' → Q (.bl true) H'
theorem PAt.but {H H' : Hp} {p l : Addr} {v : V} {q : Pl} (h : PAt H v q) (h0 : HandL H p l) (b : But p H H') : PAt H' v q := let ⟨c, e, r⟩ := h; ⟨c, e, b _ _ (tup_ne h0 r) r⟩
theorem PsL.but {H H' : Hp} {p l a : Addr} {ps : List Pl} (h : PsL H a ps) (h0 : HandL H p l) (n : a ≠ p) (b : But p H H') : PsL H' a ps := let ⟨vs, e, q⟩ := h; ⟨vs, b _ _ n e, q.imp fun _ _ r => r.but h0 b⟩
theorem TsAt.but {H H' : Hp} {p l a : Addr} {ts : List Str} (h : TsAt H a ts) (h0 : HandL H p l) (b : But p H H') : TsAt H' a ts := ⟨b _ _ (tup_ne h0 h.at_) h.at_, h.few, h.sg, h.len⟩
def spPiece : Sp := fun vs H Q _ => ∃ (p a : Addr) (ts : List Str), vs = [.ref p, .ref a] ∧ TsAt H a ts ∧ ∃ l, HandL H p l ∧ ∀ y H', Wd y → HandL H' p l → But p H H' → Q (.str y) H'
def spLPieces : Sp := fun vs H Q _ => ∃ (a : Addr) (ts : List Str), vs = [.ref a] ∧ TsAt H a ts ∧ ∀ b H', Same H H' → H b = none → H' b = some (.lst ((due ts).map V.str)) → Q (.ref b) H'
theorem asc_of {zs ss : List Str} (p : zs.Perm ss) (h : zs.Pairwise (fun x y => ¬ ltC y x)) (nd : ss.Nodup) : zs.Pairwise ltC := by
  have nd2 : zs.Nodup := p.nodup_iff.mpr nd
  exact (h.and nd2).imp fun {x y} w => ltC_str w.1 w.2
section
variable {P : Program} {w : World} {K : PySem.W.Frag} {mg : Str → Option Value} {base : Heap}
abbrev sPiece : Stmt := topS 47
theorem scPiece : FnScope ["hand", "texts", "spots", "number", "at", "found", "way"] ["hand", "texts"] (defScope sPiece) := ⟨rfl, rfl, rfl, by decide +kernel, rfl, by decide +kernel, by decide +kernel⟩
theorem ok_Piece {f : Addr} {fd : FuncData} (F : Fun K "_law_piece" "_law_piece" sPiece f fd)  {fDraw : Addr} {fdDraw : FuncData} (DDraw : Dk P w K mg base "_law_draw" sDraw ["hand", "many"] 1 spDraw fDraw fdDraw) {fSign : Addr} {fdSign : FuncData} (DSign : Dk P w K mg base "_law_sign" sSign ["hand", "kind"] 3 spSign fSign fdSign) {fWord : Addr} {fdWord : FuncData} (DWord : Dk P w K mg base "_law_word" sWord ["hand", "most"] 4 spLWord fWord fdWord) {fPlaces : Addr} {fdPlaces : FuncData} (DPlaces : Dk P w K mg base "_law_places" sPlaces ["texts"] 1 spLPlaces fPlaces fdPlaces) (T : Glob mg) : FnOk P w K mg base CX0 5 f fd ["hand", "texts"] spPiece := by
  refine F.ok scPiece (fun vs H Q E h => ?_) (fun cdv A outer s H vs Q E hr h => ?_)
  · obtain ⟨p, a, ts, rfl, _⟩ := h
    rfl
  · refine ⟨_, (pss_cons (ps_set (i := 2) scPiece.nd rfl (.inl rfl) (pe_call DPlaces.ok (hr.mono (by decide)) (by rfl) DPlaces.g DPlaces.F.kp DPlaces.b .nil pass0 (pa_cons (pv 1) pa_nil)))
      (pss_cons (ps_if (PW.pt (pw_or (pt_cmpR op_eq (pe_callB call_len_seq (by rfl) T.len PySem.boot_len (pa_cons (pv 2) pa_nil)) pe_int (nomark _)) (pw_or1 (pt_cmpR op_eq (pe_call DDraw.ok (hr.mono (by decide)) (by rfl) DDraw.g DDraw.F.kp DDraw.b .nil pass0 (pa_cons (pv 0) (pa_cons pe_int pa_nil))) pe_int (nomark _)))))
      (pss_one (ps_ret (pe_call DWord.ok (hr.mono (by decide)) (by rfl) DWord.g DWord.F.kp DWord.b .nil pass0 (pa_cons (pv 0) (pa_cons pe_int pa_nil)))))
      pss_nil)
      (pss_cons (ps_asg (pe_ix ix_list (pv 2) (pe_call DDraw.ok (hr.mono (by decide)) (by rfl) DDraw.g DDraw.F.kp DDraw.b .nil pass0 (pa_cons (pv 0) (pa_cons (pe_callB call_len_seq (by rfl) T.len PySem.boot_len (pa_cons (pv 2) pa_nil)) pa_nil))) (fun _ _ => rfl)) (pg_tup (by rfl) (pgs_cons (pg_name (i := 3) scPiece.nd rfl (.inl rfl)) (pgs_cons (pg_name (i := 4) scPiece.nd rfl (.inl rfl)) pgs_nil))))
      (pss_cons (ps_set (i := 5) scPiece.nd rfl (.inl rfl) (pe_slice sl_str (pe_ix ix_tup (pv 1) (pv 3) (fun _ _ => rfl)) (po_some (pv 4)) (po_some (pe_op op_add (pe_op op_add (pv 4) pe_int) (pe_call DDraw.ok (hr.mono (by decide)) (by rfl) DDraw.g DDraw.F.kp DDraw.b .nil pass0 (pa_cons (pv 0) (pa_cons pe_int pa_nil)))))))
      (pss_cons (ps_set (i := 6) scPiece.nd rfl (.inl rfl) (pe_call DDraw.ok (hr.mono (by decide)) (by rfl) DDraw.g DDraw.F.kp DDraw.b .nil pass0 (pa_cons (pv 0) (pa_cons pe_int pa_nil))))
      (pss_cons (ps_if (pt_cmpR op_eq (pv 6) pe_int (nomark _))
      (pss_one (ps_ret (pe_op op_add_str (pv 5) (pe_call DSign.ok (hr.mono (by decide)) (by rfl) DSign.g DSign.F.kp DSign.b .nil pass0 (pa_cons (pv 0) (pa_cons pe_int pa_nil))))))
      pss_nil)
      (pss_cons (ps_if (pt_cmpR op_eq (pv 6) pe_int (nomark _))
      (pss_one (ps_ret (pe_op op_add_str (pe_call DSign.ok (hr.mono (by decide)) (by rfl) DSign.g DSign.F.kp DSign.b .nil pass0 (pa_cons (pv 0) (pa_cons pe_int pa_nil))) (pv 5))))
      pss_nil)
      (pss_cons (ps_if (pt_cmpR op_eq (pv 6) pe_int (nomark _))
      (pss_one (ps_ret (pe_slice sl_str (pe_ix ix_tup (pv 1) (pv 3) (fun _ _ => rfl)) (po_some (pv 4)) po_none)))
      pss_nil)
      (pss_one (ps_ret (pv 5))))))))))), ?_⟩
    obtain ⟨p, a, ts, rfl, ht, l, hH, q⟩ := h
    refine ⟨.ref a, rfl, a, ts, rfl, ht, fun s H1 k1 ns hp1 => ?_⟩
    have h1 := hH.same k1
    have nsp := (hH.ne ns).1
    have b1 := But.same (p := p) k1
    obtain ⟨vs, hs1, hv1⟩ := hp1
    have lv := hv1.len
    dsimp only [tSeq, tIfS, gName]
    refine (?_ : ∀ Q : Bool → Hp → Prop, (∀ b H2, HandL H2 p l → But p H1 H2 → (b = false → 0 < vs.length) → Q b H2) → tOr _ _ _ H1 Q) _ ?_
    · intro Q0 k0
      refine ⟨.ref s, rfl, s, vs, rfl, .inl (sq_of hs1), rfl, _, rfl, ite2 (fun e => k0 _ _ h1 (But.refl p H1) (fun w => Bool.noConfusion w)) (fun e => ?_)⟩
      rw [dec_int] at e
      have pos : 0 < vs.length := by
        have : ¬ ((vs.length : Nat) : Int) = 0 := fun z => e (decide_eq_true z)
        omega
      exact ⟨.ref p, rfl, p, 4, rfl, by decide, by decide, l, h1, fun w H2 w0 w1 h2 b2 => ⟨rfl, _, rfl, k0 _ _ h2 b2 (fun _ => pos)⟩⟩
    · intro b H2 h2 b2 hb
      have b12 := b1.trans b2
      cases b with
      | true =>
        exact iteT ⟨.ref p, rfl, p, 4, rfl, by decide, by decide, l, h2, fun y H3 sy ly py h3 b3 => q y H3 ⟨sy, py, by omega⟩ h3 (b12.trans b3)⟩
      | false =>
        have pos := hb rfl
        refine iteF ⟨.ref s, rfl, .ref p, rfl, .ref s, rfl, s, vs, rfl, .inl (sq_of (b2 _ _ nsp hs1)), p, (vs.length : Int), rfl, by omega, by have := pl_len ht.len ht.few; omega, l, h2, fun v H3 v0 v1 h3 b3 => ?_⟩
        obtain ⟨i, rfl⟩ := Int.eq_ofNat_of_zero_le v0
        have hi : i < vs.length := by omega
        obtain ⟨q1, eq1, d, ed, hd⟩ := hv1.at (List.getElem?_eq_getElem hi)
        have iq := pl_mem.mp (List.mem_of_getElem? eq1)
        have hd3 := b3 _ _ (tup_ne h2 (b2 _ _ (tup_ne h1 hd) hd)) (b2 _ _ (tup_ne h1 hd) hd)
        have ht3 := ((ht.same k1).but h1 b2).but h2 b3
        have eat : atI vs ((i : Nat) : Int) = some (.ref d) := atI_nat (by rw [List.getElem?_eq_getElem hi, ed])
        refine ⟨s, _, _, _, rfl, rfl, sq_of (b3 _ _ nsp (b2 _ _ nsp hs1)), eat, d, _, rfl, SqT.of hd3, rfl, _, _, rfl, _, _, rfl, rfl, ?_⟩
        have lt := tx_len ht.len q1.1
        refine ⟨.ref a, rfl, _, rfl, a, _, _, _, rfl, rfl, SqT.of ht3.at_, atI_nat (tx_at iq.text), _, rfl, _, rfl, _, rfl, _, _, rfl, rfl, .ref p, rfl, p, 6, rfl, by decide, by decide, l, h3, fun u H4 u0 u1 h4 b4 => ?_⟩
        refine ⟨_, _, rfl, rfl, _, rfl, _, rfl, len5 (by omega), ?_⟩
        have ht4 := ht3.but h3 b4
        have b14 := (b12.trans b3).trans b4
        dsimp only
        obtain ⟨f, ef⟩ : ∃ f, f = cutS (tx ts q1.1) (some ((q1.2 : Nat) : Int)) (some (((q1.2 : Nat) : Int) + 1 + u)) := ⟨_, rfl⟩
        rw [← ef]
        have sgt := ht.sg _ (tx_mem iq.text)
        have wf : Wd f := by
          have c := cutS_of (z := tx ts q1.1) (i := ((q1.2 : Nat) : Int)) (j := ((q1.2 : Nat) : Int) + 1 + u) (by omega) (by omega)
          have l2 := congrArg List.length c
          rw [List.length_take, List.length_drop, ← len_S, ← len_S] at l2
          have ia := iq.at_
          have e8 : ((q1.2 : Nat) : Int).toNat = q1.2 := Int.toNat_natCast _
          rw [e8, ← ef] at l2
          refine ⟨by rw [ef]; exact sgB_cut sgt _ _, by omega, by omega⟩
        have lf : f.length ≤ 200 := by
          rw [ef]
          exact Nat.le_trans (cut_len _ _) lt
        refine ⟨.ref p, rfl, p, 6, rfl, by decide, by decide, l, h4, fun wy H5 w0 w6 h5 b5 => ?_⟩
        have b15 := b14.trans b5
        have ht5 := ht4.but h4 b5
        have so : ∀ c, sgC c = true → sgB (SX.S [c]) = true := fun c hc => by rw [sgB_S]; exact List.all_eq_true.mpr fun d hd => by rw [List.mem_singleton.mp hd]; exact hc
        refine ⟨.int wy, rfl, rfl, _, rfl, ite2 (fun e => ?_) (fun e => ?_)⟩
        · refine ⟨_, rfl, .ref p, rfl, p, 3, rfl, by decide, by decide, l, h5, fun c H6 hc h6 b6 => ⟨_, _, rfl, rfl, ?_, q _ _ ⟨sgB_app wf.sg (so c hc), ?_, ?_⟩ h6 (b15.trans b6)⟩⟩
          · rw [sizeLine_eq, len_S1]
            show f.length + 1 ≤ _
            omega
          · rw [app_len]; have := wf.pos; omega
          · rw [app_len, len_S1]
            show f.length + 1 ≤ _
            omega
        · dsimp only [tNext, tDrop]
          refine ⟨.int wy, rfl, rfl, _, rfl, ite2 (fun e => ?_) (fun e => ?_)⟩
          · refine ⟨.ref p, rfl, p, 3, rfl, by decide, by decide, l, h5, fun c H6 hc h6 b6 => ⟨_, rfl, _, _, rfl, rfl, ?_, q _ _ ⟨sgB_app (so c hc) wf.sg, ?_, ?_⟩ h6 (b15.trans b6)⟩⟩
            · rw [sizeLine_eq, len_S1]
              show 1 + f.length ≤ _
              omega
            · rw [app_len]; have := wf.pos; omega
            · rw [app_len, len_S1]
              show 1 + f.length ≤ _
              omega
          · dsimp only [tNext, tDrop]
            refine ⟨.int wy, rfl, rfl, _, rfl, ite2 (fun e => ?_) (fun e => ?_)⟩
            · refine ⟨.ref a, rfl, _, rfl, a, _, _, _, rfl, rfl, SqT.of ht5.at_, atI_nat (tx_at iq.text), _, rfl, _, rfl, _, rfl, len5 (by omega), q _ _ ⟨sgB_cut sgt _ _, ?_, ?_⟩ h5 b15⟩
              · have := sfx_len ts q1
                have ia := iq.at_
                show 1 ≤ (sfx ts q1).length
                omega
              · have := sfx_len2 ht.len q1
                show (sfx ts q1).length ≤ 5000
                omega
            · dsimp only [tNext, tDrop]
              exact ⟨_, rfl, q _ _ wf h5 b15⟩
end
end LawK
set_option maxHeartbeats 4000000
namespace Ev
open PySem PySem.Spec PyProof.Rows L2 PySem.W
/-! min and max of data with default=None; > of data; sorted of a set of numbers -/
section
variable {X : Cx}
/-- x > y of data -/
def rGtD (K : PySem.W.Frag) : R2 := fun x y H Q => ∃ d e, Dp K H x d ∧ Dp K H y e ∧ alike d e = true ∧ d ≠ .none ∧ min d.depth e.depth ≤ 60 ∧ Q (.bl (dataLt e d)) H
theorem op_gtD (hu : X.A.units + 64 < cLine) : OpR X (compareOp .Gt) (rGtD X.K) := by
  intro pins s σ H x y v u Q I rx ry h
  obtain ⟨d, e, hd, he, al, nn, dp, q⟩ := h
  obtain ⟨as, r1⟩ := Dp.reads I d x v hd rx
  obtain ⟨bs, r2⟩ := Dp.reads I e y u he ry
  exact gt_data r1 r2 al nn (by omega) ⟨.bl _, H, I, rfl, q⟩
theorem dpAll_of {K : PySem.W.Frag} {H : Hp} : ∀ {bs : List DV}, (∀ b ∈ bs, Dp K H b.1 b.2) → DpAll K H (bs.map (·.1)) (bs.map (·.2))
  | [], _ => .nil
  | b :: bs, h => .cons (h b List.mem_cons_self) (dpAll_of fun c hc => h c (List.mem_cons_of_mem _ hc))
def rMinDf (K : PySem.W.Frag) (best : PyData → List PyData → PyData) : List V → List V → Hp → VK → Prop := fun vs zs H Q => ∃ (a : Addr) (bs : List DV), vs = [V.ref a] ∧ zs = [.non] ∧ SqL K H a (bs.map (·.1)) ∧ (∀ b ∈ bs, Dp K H b.1 b.2) ∧ AlikeAll (bs.map (·.2)) ∧ PyData.depthAll (bs.map (·.2)) ≤ 60 ∧
  (bs = [] → Q .non H) ∧ ∀ (y : PyData) (ys : List PyData) (i : Nat) (b : DV), bs.map (·.2) = y :: ys → bs[i]? = some b → b.2 = best y ys → Q b.1 H
theorem at_bs {K : PySem.W.Frag} {H : Hp} {pins : List (Addr × Obj)} {σ : L2.St} {s : Shared} (I : Inv X pins σ H s) {bs : List DV} {us : List Value} (rv : Vals (bs.map (·.1)) us) (hd : ∀ b ∈ bs, Dp X.K H b.1 b.2) {i : Nat} {v : Value} (e : us[i]? = some v) :
    ∃ b, bs[i]? = some b ∧ RelV b.1 v ∧ ∃ as, Reads s.heap v b.2 as := by
  have hi : i < bs.length := by
    have := (List.getElem?_eq_some_iff.mp e).1
    rw [← rv.length, List.length_map] at this
    exact this
  obtain ⟨u, hu, ru⟩ := rv.get (i := i) (x := (bs[i]).1) (by rw [List.getElem?_map, List.getElem?_eq_getElem hi]; rfl)
  have eu : u = v := Option.some.inj (hu.symm.trans e)
  subst eu
  exact ⟨bs[i], List.getElem?_eq_getElem hi, ru, Dp.reads I _ _ _ (hd _ (List.getElem_mem hi)) ru⟩
theorem cr_minDf (hc : X.calm = true) (hu : X.A.units + 64 < cLine) : CallRK X (.builtin "min") [Str.ofString "default"] (rMinDf X.K minD) := by
  intro pins s σ H vs zs us ws Q I r rz h
  obtain ⟨a, bs, rfl, rfl, hs, hd, al, dp, q0, q1⟩ := h
  obtain rfl := Vals.ref1 r
  obtain ⟨w1, rfl, e1⟩ := vals1 rz
  obtain rfl : w1 = Value.none := e1
  obtain ⟨its, rv, hl, hz⟩ := I.list hs
  obtain ⟨as, ra⟩ := Dp.readsAll I _ _ _ (dpAll_of hd) rv
  refine min_list_default (I.ok.hd hc) hl.isList (by simpa using ra) al (by omega) (fun e h' tk hk => ?_) fun y ys i v h' tk bs' e hv hr hk => ?_
  · exact ⟨.non, H, I.kept (t' := tk) hk, rfl, q0 (List.map_eq_nil_iff.mp e)⟩
  · obtain ⟨b, hb, rb, as', r'⟩ := at_bs (K := X.K) I rv hd (i := i) (v := v) (by simpa using hv)
    exact ⟨b.1, H, I.kept (t' := tk) hk, rb, q1 y ys i b e hb (reads_det (fun b o w _ => hk b o w) r' hr).1.symm⟩
theorem cr_maxDf (hc : X.calm = true) (hu : X.A.units + 64 < cLine) : CallRK X (.builtin "max") [Str.ofString "default"] (rMinDf X.K maxD) := by
  intro pins s σ H vs zs us ws Q I r rz h
  obtain ⟨a, bs, rfl, rfl, hs, hd, al, dp, q0, q1⟩ := h
  obtain rfl := Vals.ref1 r
  obtain ⟨w1, rfl, e1⟩ := vals1 rz
  obtain rfl : w1 = Value.none := e1
  obtain ⟨its, rv, hl, hz⟩ := I.list hs
  obtain ⟨as, ra⟩ := Dp.readsAll I _ _ _ (dpAll_of hd) rv
  refine max_list_default (I.ok.hd hc) hl.isList (by simpa using ra) al (by omega) (fun e h' tk hk => ?_) fun y ys i v h' tk bs' e hv hr hk => ?_
  · exact ⟨.non, H, I.kept (t' := tk) hk, rfl, q0 (List.map_eq_nil_iff.mp e)⟩
  · obtain ⟨b, hb, rb, as', r'⟩ := at_bs (K := X.K) I rv hd (i := i) (v := v) (by simpa using hv)
    exact ⟨b.1, H, I.kept (t' := tk) hk, rb, q1 y ys i b e hb (reads_det (fun b o w _ => hk b o w) r' hr).1.symm⟩
end
end Ev
set_option maxHeartbeats 4000000
namespace Ev
open PySem PySem.Spec PyProof.Rows L2
section
variable {X : Cx}
theorem vals_ints2 : ∀ {out : List Value}, (∀ v ∈ out, ∃ i t, v = Value.int i t) → Vals ((out.map SrtO.iv).map V.int) out
  | [], _ => .nil
  | v :: out, h => by
    obtain ⟨i, t, e⟩ := h v List.mem_cons_self
    subst e
    exact .cons ⟨t, rfl⟩ (vals_ints2 fun u hu => h u (List.mem_cons_of_mem _ hu))
/-- sorted(s), s a set of numbers: ascending -/
def rSortedSi (P : Program) (w : World) : List V → Hp → VK → Prop := fun vs H Q => ∃ (a : Addr) (S : Key → Bool) (n : Nat), vs = [V.ref a] ∧ H a = some (SetX P w a S n) ∧ (∀ k, S k = true → ∃ z, k = Sum.inl z) ∧
  ∀ (zs : List Int) (p : Addr), zs.Pairwise (· < ·) → (∀ z, z ∈ zs ↔ S (Sum.inl z) = true) → zs.length = n → H p = none → Q (.ref p) (upd H p (.lst (zs.map V.int)))
theorem cr_sortedSi (hc : X.calm = true) : CallR X (.builtin "sorted") (rSortedSi X.prog X.w) := fun pins s σ H vs us Q I r h => by
  obtain ⟨a, S, n, rfl, ha, hS, q⟩ := h
  rw [Vals.ref1 r]
  have isI : ∀ v, (∃ k, (mixKind X.prog X.w).is k v = true ∧ S k = true) → ∃ i t, v = Value.int i t ∧ S (.inl i) = true := fun v ⟨k, h1, h2⟩ => by
    obtain ⟨z, rfl⟩ := hS k h2
    rcases keyIs_shape (show keyIs (.inl z) v = true from h1) with ⟨i, t, e1, e2⟩ | ⟨x, t, e1, e2⟩
    · cases e1; exact ⟨z, t, e2, h2⟩
    · cases e1
  refine sorted_setG SrtO.swo_int (setX_get I ha) (I.ok.hd hc) (fun vs mem h2 A' z d => ints_sortable2 (fun v hv => let ⟨i, t, e, _⟩ := isI v (mem v hv); ⟨i, t, e⟩) h2) fun z p out c k g o hp hg hs mem all ap hl => ?_
  have hO : ∀ v ∈ out, ∃ i t, v = Value.int i t ∧ S (.inl i) = true := fun v hv => isI v (mem v hv)
  have hV := vals_ints2 fun v hv => let ⟨i, t, e, _⟩ := hO v hv; ⟨i, t, e⟩
  have lo : ((out.map SrtO.iv).map V.int).length ≤ sizeLine := by
    obtain ⟨o, es, ep, t, ho, _, _, _, ⟨hb, hf, hn⟩, _⟩ := setX_get I ha
    rw [List.length_map, List.length_map, hl, ← hn]; exact fits_of_scanBound hb
  have hn : H p = none := I.hok.fresh hp
  have J : Inv X pins σ (upd H p (.lst ((out.map SrtO.iv).map V.int))) z := I.call' (ch := []) o (Un.laid k hp hn) (I.hok.laid k hp ⟨lo, out, c, hV, hg⟩) (by rw [g]; exact I.bare) (fun _ z => nomatch z)
  refine ⟨.ref p, _, J, rfl, q _ p ?_ (fun y => ⟨fun hy => ?_, fun hy => ?_⟩) (by rw [List.length_map]; exact hl) hn⟩
  · refine List.pairwise_map.mpr (List.Pairwise.imp_of_mem (fun {u v} hu hv w => ?_) (hs.and ap))
    obtain ⟨x, t, rfl, _⟩ := hO u hu
    obtain ⟨y, t', rfl, _⟩ := hO v hv
    have e1 : ¬ y < x := of_decide_eq_false w.1
    have e2 : x ≠ y := fun e => w.2 (.inl x) (mixKind_int _ _ x t) (by rw [e]; exact mixKind_int _ _ y t')
    show x < y
    omega
  · obtain ⟨v, hv, rfl⟩ := List.mem_map.mp hy
    obtain ⟨x, t, rfl, z⟩ := hO v hv
    exact z
  · obtain ⟨v, hv, z⟩ := all _ hy
    obtain ⟨x, t, rfl, _⟩ := hO v hv
    refine List.mem_map.mpr ⟨_, hv, ?_⟩
    have := (mixKind X.prog X.w).inj _ _ _ z (mixKind_int X.prog X.w x t)
    exact (Sum.inl.inj this).symm
end
end Ev
set_option maxHeartbeats 4000000
namespace LawK
open PySem PySem.Spec PyProof.Rows L2 Ev PySem.W
/-- the order of places -/
def ltP (p q : Pl) : Prop := p.1 < q.1 ∨ p.1 = q.1 ∧ p.2 < q.2
instance (p q : Pl) : Decidable (ltP p q) := inferInstanceAs (Decidable (_ ∨ _))
theorem ltP_irr (p : Pl) : ¬ ltP p p := fun h => by unfold ltP at h; omega
theorem ltP_tr {p q r : Pl} (h : ltP p q) (k : ltP q r) : ltP p r := by unfold ltP at *; omega
theorem ltP_tri (p q : Pl) : ltP p q ∨ p = q ∨ ltP q p := by
  have e : p = q ↔ p.1 = q.1 ∧ p.2 = q.2 := ⟨fun h => by rw [h]; exact ⟨rfl, rfl⟩, fun h => Prod.ext h.1 h.2⟩
  rw [e]
  unfold ltP
  omega
theorem pl_asc (ts : List Str) : (pl ts).Pairwise ltP := by
  have : ∀ n, (plN ts n).Pairwise ltP := fun n => by
    induction n with
    | zero => exact List.Pairwise.nil
    | succ n ih =>
      rw [plN_succ]
      refine List.pairwise_append.mpr ⟨ih, ?_, fun x hx y hy => ?_⟩
      · unfold row
        exact List.pairwise_map.mpr (List.pairwise_lt_range.imp fun h => .inr ⟨rfl, h⟩)
      · obtain ⟨i, hi, hx⟩ := List.mem_flatMap.mp hx
        obtain ⟨j, _, rfl⟩ := List.mem_map.mp hx
        obtain ⟨k, _, rfl⟩ := List.mem_map.mp hy
        exact .inl (List.mem_range.mp hi)
  exact this _
/-- the places of a word -/
def fnd (ts : List Str) (w : Str) : List Pl := (pl ts).filter (beg ts w)
theorem fnd_asc (ts : List Str) (w : Str) : (fnd ts w).Pairwise ltP := (pl_asc ts).sublist List.filter_sublist
theorem fnd_mem {ts : List Str} {w : Str} {p : Pl} : p ∈ fnd ts w ↔ InT ts p ∧ cod w <+: cod (sfx ts p) := by
  unfold fnd
  rw [List.mem_filter, pl_mem]
  refine and_congr_right fun _ => ?_
  unfold beg
  rw [decide_eq_true_eq]
def encP (p : Pl) : PyData := .tuple [.int (p.1 : Nat), .int (p.2 : Nat)]
theorem encP_lt (p q : Pl) : dataLt (encP p) (encP q) = decide (ltP p q) := by
  unfold encP
  rw [dataLt_ii]
  by_cases h : ltP p q
  · rw [decide_eq_true h]
    exact decide_eq_true (by unfold ltP at h; omega)
  · rw [decide_eq_false h]
    exact decide_eq_false fun z => h (by unfold ltP; omega)
theorem encP_inj {p q : Pl} (h : encP p = encP q) : p = q := by
  unfold encP at h
  injection h with h
  injection h with h1 h2
  injection h2 with h2 _
  injection h1 with h1
  injection h2 with h2
  exact Prod.ext (Int.ofNat.inj h1) (Int.ofNat.inj h2)
theorem encP_dp {K : PySem.W.Frag} {H : Hp} {v : V} {p : Pl} (h : PAt H v p) : Dp K H v (encP p) := by
  obtain ⟨b, rfl, e⟩ := h
  exact .tup (SqT.of e) (.cons (.int _) (.cons (.int _) .nil))
theorem encP_alike (p q : Pl) : alike (encP p) (encP q) = true := by
  unfold encP
  simp [alike, alikeAll]
theorem encP_depth (p : Pl) : (encP p).depth = 1 := by
  unfold encP
  simp [PyData.depth, PyData.depthAll]
theorem encs_depth : ∀ ps : List Pl, PyData.depthAll (ps.map encP) ≤ 1
  | [] => by simp [PyData.depthAll]
  | p :: ps => by
    have := encs_depth ps
    have e := encP_depth p
    show PyData.depthAll (encP p :: ps.map encP) ≤ 1
    rw [PyData.depthAll, e]
    omega
theorem encs_alike (ps : List Pl) : AlikeAll (ps.map encP) := by
  refine ⟨fun x hx y hy => ?_, fun x hx => ?_⟩
  · obtain ⟨p, _, rfl⟩ := List.mem_map.mp hx
    obtain ⟨q, _, rfl⟩ := List.mem_map.mp hy
    exact encP_alike p q
  · obtain ⟨p, _, rfl⟩ := List.mem_map.mp hx
    exact fun e => by unfold encP at e; cases e
theorem min_asc {p : Pl} {ps : List Pl} (h : (p :: ps).Pairwise ltP) : minD (encP p) (ps.map encP) = encP p := by
  have h1 := (List.pairwise_cons.mp h).1
  unfold minD
  have : ∀ qs : List Pl, (∀ q ∈ qs, ltP p q) → (qs.map encP).foldl (fun a y => if dataLt y a then y else a) (encP p) = encP p := fun qs hq => by
    induction qs with
    | nil => rfl
    | cons q qs ih =>
      rw [List.map_cons, List.foldl_cons, encP_lt, decide_eq_false (fun z => ltP_irr _ (ltP_tr z (hq q List.mem_cons_self)))]
      exact ih fun r hr => hq r (List.mem_cons_of_mem _ hr)
  exact this ps h1
theorem max_asc : ∀ {ps : List Pl} {p : Pl}, (p :: ps).Pairwise ltP → maxD (encP p) (ps.map encP) = encP ((p :: ps).getLast (by simp))
  | [], p, _ => rfl
  | q :: ps, p, h => by
    obtain ⟨h1, h2⟩ := List.pairwise_cons.mp h
    have := max_asc h2
    unfold maxD at this ⊢
    rw [List.map_cons, List.foldl_cons, encP_lt, decide_eq_true (h1 q List.mem_cons_self)]
    rw [List.getLast_cons (by simp)]
    exact this
/-- a place or None -/
def PO (H : Hp) (v : V) : Option Pl → Prop
  | none => v = .non
  | some p => PAt H v p
theorem PO.same {H H' : Hp} {v : V} {o : Option Pl} (k : Same H H') (h : PO H v o) : PO H' v o := by
  cases o with
  | none => exact h
  | some p => exact PAt.same k h
theorem bs_of {H : Hp} {vs : List V} {ps : List Pl} (h : All2 (PAt H) vs ps) : ∃ zs : List (V × Pl), vs = zs.map (·.1) ∧ ps = zs.map (·.2) ∧ ∀ z ∈ zs, PAt H z.1 z.2 := h.zs
theorem min_pls {K : PySem.W.Frag} {H : Hp} {a : Addr} {vs : List V} {ps : List Pl} {Q : VK} (ha : H a = some (.lst vs)) (h : All2 (PAt H) vs ps) (asc : ps.Pairwise ltP) (q : ∀ v, PO H v ps.head? → Q v H) : rMinDf K minD [.ref a] [.non] H Q := by
  obtain ⟨zs, rfl, rfl, hz⟩ := h.zs
  refine ⟨a, zs.map fun z => (z.1, encP z.2), rfl, rfl, by rw [List.map_map]; exact sq_of ha, ?_, ?_, ?_, ?_, ?_⟩
  · intro b hb
    obtain ⟨z, hz', rfl⟩ := List.mem_map.mp hb
    exact encP_dp (hz z hz')
  · have := encs_alike (zs.map (·.2))
    rw [List.map_map] at this ⊢
    exact this
  · have := encs_depth (zs.map (·.2))
    rw [List.map_map] at this ⊢
    exact Nat.le_trans this (by decide)
  · intro e
    rw [List.map_eq_nil_iff] at e
    subst e
    exact q .non rfl
  · intro y ys i b e hb e2
    cases zs with
    | nil => cases e
    | cons z zs =>
      simp only [List.map_cons] at e asc q
      obtain ⟨e3, e4⟩ := List.cons.inj e
      rw [List.getElem?_map] at hb
      obtain ⟨z', hz', rfl⟩ := Option.map_eq_some_iff.mp hb
      have mn := min_asc asc
      rw [List.map_map] at mn
      rw [List.map_map] at e4
      rw [← e3, ← e4] at e2
      have : encP z'.2 = encP z.2 := e2.trans mn
      refine q z'.1 ?_
      show PAt H z'.1 z.2
      rw [← encP_inj this]
      exact hz z' (List.mem_of_getElem? hz')
theorem max_pls {K : PySem.W.Frag} {H : Hp} {a : Addr} {vs : List V} {ps : List Pl} {Q : VK} (ha : H a = some (.lst vs)) (h : All2 (PAt H) vs ps) (asc : ps.Pairwise ltP) (q : ∀ v, PO H v ps.getLast? → Q v H) : rMinDf K maxD [.ref a] [.non] H Q := by
  obtain ⟨zs, rfl, rfl, hz⟩ := h.zs
  refine ⟨a, zs.map fun z => (z.1, encP z.2), rfl, rfl, by rw [List.map_map]; exact sq_of ha, ?_, ?_, ?_, ?_, ?_⟩
  · intro b hb
    obtain ⟨z, hz', rfl⟩ := List.mem_map.mp hb
    exact encP_dp (hz z hz')
  · have := encs_alike (zs.map (·.2))
    rw [List.map_map] at this ⊢
    exact this
  · have := encs_depth (zs.map (·.2))
    rw [List.map_map] at this ⊢
    exact Nat.le_trans this (by decide)
  · intro e
    rw [List.map_eq_nil_iff] at e
    subst e
    exact q .non rfl
  · intro y ys i b e hb e2
    cases zs with
    | nil => cases e
    | cons z zs =>
      simp only [List.map_cons] at e asc q
      obtain ⟨e3, e4⟩ := List.cons.inj e
      rw [List.getElem?_map] at hb
      obtain ⟨z', hz', rfl⟩ := Option.map_eq_some_iff.mp hb
      have mn := max_asc asc
      rw [List.map_map] at mn
      rw [List.map_map] at e4
      rw [← e3, ← e4] at e2
      have : encP z'.2 = _ := e2.trans mn
      refine q z'.1 ?_
      rw [List.getLast?_eq_some_getLast (by simp)]
      show PAt H z'.1 _
      rw [← encP_inj this]
      exact hz z' (List.mem_of_getElem? hz')
/-- two lists that ascend, of the same places -/
theorem pl_one : ∀ (xs ys : List Pl), xs.Pairwise ltP → ys.Pairwise ltP → (∀ z, z ∈ xs ↔ z ∈ ys) → xs = ys
  | [], [], _, _, _ => rfl
  | [], y :: ys, _, _, h => absurd ((h y).mpr List.mem_cons_self) (by simp)
  | x :: xs, [], _, _, h => absurd ((h x).mp List.mem_cons_self) (by simp)
  | x :: xs, y :: ys, p, q, h => by
    obtain ⟨p1, p2⟩ := List.pairwise_cons.mp p
    obtain ⟨q1, q2⟩ := List.pairwise_cons.mp q
    have e : x = y := by
      rcases List.mem_cons.mp ((h x).mp List.mem_cons_self) with e | e
      · exact e
      · rcases List.mem_cons.mp ((h y).mpr List.mem_cons_self) with f | f
        · exact f.symm
        · exact absurd (ltP_tr (p1 y f) (q1 x e)) (ltP_irr _)
    subst e
    refine congrArg (x :: ·) (pl_one xs ys p2 q2 fun z => ?_)
    have hz := h z
    rw [List.mem_cons, List.mem_cons] at hz
    constructor
    · intro m
      rcases hz.mp (.inr m) with e | e
      · exact absurd (p1 z m) (by rw [e]; exact ltP_irr _)
      · exact e
    · intro m
      rcases hz.mpr (.inr m) with e | e
      · exact absurd (q1 z m) (by rw [e]; exact ltP_irr _)
      · exact e
/-- which texts have the word -/
def lotN (ts : List Str) (w : Str) : List Nat := (List.range ts.length).filter fun i => decide (0 < ((fnd ts w).filter fun p => decide (p.1 = i)).length)
theorem lot_mem {ts : List Str} {w : Str} {i : Nat} : i ∈ lotN ts w ↔ ∃ p ∈ fnd ts w, p.1 = i := by
  unfold lotN
  rw [List.mem_filter, List.mem_range, decide_eq_true_eq, List.length_pos_iff_exists_mem]
  constructor
  · rintro ⟨_, p, hp⟩
    obtain ⟨a, b⟩ := List.mem_filter.mp hp
    exact ⟨p, a, of_decide_eq_true b⟩
  · rintro ⟨p, hp, rfl⟩
    exact ⟨(fnd_mem.mp hp).1.text, p, List.mem_filter.mpr ⟨hp, decide_eq_true rfl⟩⟩
theorem int_one : ∀ (xs ys : List Int), xs.Pairwise (· < ·) → ys.Pairwise (· < ·) → (∀ z, z ∈ xs ↔ z ∈ ys) → xs = ys
  | [], [], _, _, _ => rfl
  | [], y :: ys, _, _, h => absurd ((h y).mpr List.mem_cons_self) (by simp)
  | x :: xs, [], _, _, h => absurd ((h x).mp List.mem_cons_self) (by simp)
  | x :: xs, y :: ys, p, q, h => by
    obtain ⟨p1, p2⟩ := List.pairwise_cons.mp p
    obtain ⟨q1, q2⟩ := List.pairwise_cons.mp q
    have e : x = y := by
      rcases List.mem_cons.mp ((h x).mp List.mem_cons_self) with e | e
      · exact e
      · rcases List.mem_cons.mp ((h y).mpr List.mem_cons_self) with f | f
        · exact f.symm
        · have a := p1 y f
          have b := q1 x e
          omega
    subst e
    refine congrArg (x :: ·) (int_one xs ys p2 q2 fun z => ?_)
    have hz := h z
    rw [List.mem_cons, List.mem_cons] at hz
    constructor
    · intro m
      have := p1 z m
      rcases hz.mp (.inr m) with e | e
      · omega
      · exact e
    · intro m
      have := q1 z m
      rcases hz.mpr (.inr m) with e | e
      · omega
      · exact e
theorem lot_asc (ts : List Str) (w : Str) : ((lotN ts w).map fun i => ((i : Nat) : Int)).Pairwise (· < ·) := by
  refine List.pairwise_map.mpr ?_
  have : (lotN ts w).Pairwise (· < ·) := List.pairwise_lt_range.sublist List.filter_sublist
  exact this.imp fun h => by omega
/-- where a word stands, its end is cut so -/
theorem cut_beg {z w : Str} : decide (V.str (cutS z none (some (w.length : Int))) = V.str w) = decide (cod w <+: cod z) := by
  rw [dec_str, Bool.eq_iff_iff, decide_eq_true_eq, decide_eq_true_eq]
  have e : cod (cutS z none (some (w.length : Int))) = (cod z).take w.length := by
    have := cutS_to (z := z) (i := (w.length : Int)) (by omega)
    rw [Int.toNat_natCast] at this
    exact this
  rw [List.prefix_iff_eq_take, ← len_S w]
  constructor
  · intro h
    rw [← e, h]
  · intro h
    exact cod_inj (e.trans h.symm)
theorem cut_beg2 {z w : Str} {j : Nat} : decide (V.str (cutS z (some ((j : Nat) : Int)) (some (((j : Nat) : Int) + (w.length : Int)))) = V.str w) = decide (cod w <+: (cod z).drop j) := by
  rw [dec_str, Bool.eq_iff_iff, decide_eq_true_eq, decide_eq_true_eq]
  have e : cod (cutS z (some ((j : Nat) : Int)) (some (((j : Nat) : Int) + (w.length : Int)))) = ((cod z).drop j).take w.length := by
    have e := cutS_of (z := z) (i := ((j : Nat) : Int)) (j := ((j : Nat) : Int) + (w.length : Int)) (by omega) (by omega)
    rw [show (((j : Nat) : Int) + (w.length : Int) - (j : Nat)).toNat = w.length by omega] at e
    exact e
  rw [List.prefix_iff_eq_take, ← len_S w]
  constructor
  · intro h
    rw [← e, h]
  · intro h
    exact cod_inj (e.trans h.symm)
end LawK
set_option maxHeartbeats 4000000
namespace LawK
open PySem PySem.Spec PyProof.Rows L2 Ev

theorem kit_no {K : PySem.W.Frag} {k : Kn} (n : k ≠ .tup) : PySem.W.kitOne K (.type k.name) (.type "tuple") = some false := by
  have e : kitB k .tup = false := by cases k <;> first | rfl | exact absurd rfl n
  have z := kit_kn (K := K) k .tup
  rw [e] at z
  exact z
def spPPlaceG (C : Addr) : Sp := fun vs H Q _ => ∃ (s : Addr) (ts : List Str) (x : V) (o : Option (List V)), vs = [.ref s, x] ∧ LibAt H C s ts ∧ Tg H x o ∧ Q (.bl (placeV ts o)) H
/-- what a word may be -/
structure Wy (H : Hp) (y : V) : Prop where
  kd : ∃ k, Kd H y k
  vs : Vs y
theorem Wy.same {H H' : Hp} {y : V} (k : Same H H') (h : Wy H y) : Wy H' y := ⟨let ⟨n, q⟩ := h.kd; ⟨n, q.same k⟩, h.vs⟩
def spRPlaces (C cW : Addr) : Sp := fun vs H Q E => ∃ (s : Addr) (y : V) (ts : List Str), vs = [.ref s, y] ∧ LibAt H C s ts ∧ Wy H y ∧ (wordV y = false → E (.ref cW) none H) ∧ (∀ w, y = .str w → Wd w → ∀ a H', Same H H' → H a = none → PsL H' a (fnd ts w) → Q (.ref a) H')
def spRCount (C cW : Addr) : Sp := fun vs H Q E => ∃ (s : Addr) (y : V) (ts : List Str), vs = [.ref s, y] ∧ LibAt H C s ts ∧ Wy H y ∧ (wordV y = false → E (.ref cW) none H) ∧ (∀ w, y = .str w → Wd w → ∀ H', Same H H' → Q (iN (nBeg ts w)) H')
def spRSpan (C cW : Addr) : Sp := fun vs H Q E => ∃ (s : Addr) (y : V) (ts : List Str), vs = [.ref s, y] ∧ LibAt H C s ts ∧ Wy H y ∧ (wordV y = false → E (.ref cW) none H) ∧ (∀ w, y = .str w → Wd w → ∀ b H', Same H H' → H' b = some (.tup [iN (nLt ts w), iN (nLt ts w + nBeg ts w)]) → Q (.ref b) H')
/-- whatever it tells -/
def spRAny (C cW : Addr) : Sp := fun vs H Q E => ∃ (s : Addr) (y : V) (ts : List Str), vs = [.ref s, y] ∧ LibAt H C s ts ∧ Wy H y ∧ (wordV y = false → E (.ref cW) none H) ∧ (∀ w, y = .str w → Wd w → ∀ v H', Same H H' → Q v H')
theorem wd_of {y : V} (h : wordV y = true) (v : Vs y) : ∃ w, y = .str w ∧ Wd w := by
  cases y with
  | str z =>
    have h' : (sgB z && decide ((0 : Int) < (z.length : Int))) = true := h
    obtain ⟨h1, h2⟩ := Bool.and_eq_true_iff.mp h'
    have := of_decide_eq_true h2
    exact ⟨z, rfl, h1, by omega, v z rfl⟩
  | _ => exact Bool.noConfusion h
theorem fnd_len {ts : List Str} (h : ∀ t ∈ ts, t.length ≤ 200) (f : ts.length ≤ 8) (w : Str) : (fnd ts w).length ≤ 1600 := Nat.le_trans (List.length_filter_le _ _) (pl_len h f)
section
variable {P : Program} {w : World} {K : PySem.W.Frag} {mg : Str → Option Value} {base : Heap}
variable {C fI : Addr} {fdI : FuncData}
variable {PE cW cP cN : Addr}
theorem okg_PPlace {f : Addr} {fd : FuncData} (F : Fun K "is_place" "is_place" sPPlace f fd) {fPNumber : Addr} {fdPNumber : FuncData} (DPNumber : Dk P w K mg base "is_number" sPNumber ["thing"] 1 spNum fPNumber fdPNumber) (L : LibC K mg C fI fdI) (T : Glob mg) : FnOk P w K mg base CX0 2 f fd ["library", "thing"] (spPPlaceG C) := by
  refine F.ok scPPlace (fun vs H Q E h => ?_) (fun cdv A outer s H vs Q E hr h => ?_)
  · obtain ⟨s, ts, x, o, rfl, _⟩ := h
    rfl
  · obtain ⟨p, ts, x, o, rfl, ⟨⟨dx, a, h1, h2⟩, few, sg1, len1⟩, hT, q⟩ := h
    refine ⟨_, (pss_cons (ps_if (PW.pt (pw_or (pt_not (pt_val (pe_callB call_isi (by rfl) T.isinstance PyProof.Rows.boot_isinstance (pa_cons (pv 1) (pa_cons (pe_bltn (v := .ty "tuple") (by rfl) T.tuple (by decide +kernel) rfl) pa_nil))))) (pw_or1 (pt_cmpR op_ne (pe_callB call_len_seq (by rfl) T.len PySem.boot_len (pa_cons (pv 1) pa_nil)) pe_int (nomark _)))))
      (pss_one (ps_ret pe_bl))
      pss_nil)
      (pss_cons (ps_asg (pv 1) (pg_tup (by rfl) (pgs_cons (pg_name (i := 2) scPPlace.nd rfl (.inl rfl)) (pgs_cons (pg_name (i := 3) scPPlace.nd rfl (.inl rfl)) pgs_nil))))
      (pss_cons (ps_if (PW.pt (pw_or (pt_not (pt_val (pe_call DPNumber.ok (hr.mono (by decide)) (by rfl) DPNumber.g DPNumber.F.kp DPNumber.b .nil pass0 (pa_cons (pv 2) pa_nil)))) (pw_or1 (pt_not (pt_val (pe_call DPNumber.ok (hr.mono (by decide)) (by rfl) DPNumber.g DPNumber.F.kp DPNumber.b .nil pass0 (pa_cons (pv 3) pa_nil)))))))
      (pss_one (ps_ret pe_bl))
      pss_nil)
      (pss_one (ps_ret (pe_and (pe_cmpR op_lt (pv 2) (pe_callB call_len_seq (by rfl) T.len PySem.boot_len (pa_cons (pe_fld (pv 0) rfl) pa_nil)) (nomark _)) (pe_one (pe_cmpR op_lt (pv 3) (pe_callB call_lenZ (by rfl) T.len PySem.boot_len (pa_cons (pe_ix ix_tup (pe_fld (pv 0) rfl) (pv 2) (fun _ _ => rfl)) pa_nil)) (nomark _))))))))), ?_⟩
    cases hT with
    | @no _ k hk n s =>
      exact ⟨x, rfl, x, .ty "tuple", .type (Kn.name k), .type "tuple", false, rfl, .ty _, Kd.tyx hk, kit_no n, _, rfl, iteT q⟩
    | @tup b xs e n hy =>
      refine ⟨.ref b, rfl, .ref b, .ty "tuple", .type (Kn.name .tup), .type "tuple", kitB .tup .tup, rfl, .ty _, Kd.tyx (.tup e), kit_kn .tup .tup, _, rfl, iteF ?_⟩
      refine ⟨.ref b, rfl, b, xs, rfl, .inr (SqT.of e), rfl, _, rfl, ite2 (fun g => ?_) (fun g => ?_)⟩
      · have g' : ¬ xs.length = 2 := fun z => by
          rw [z] at g
          exact absurd g (by decide)
        have ez : placeV ts (some xs) = false := by
          match xs, g' with
          | [], _ => rfl
          | [x], _ => rfl
          | [x, y], g' => exact absurd rfl g'
          | x :: y :: z :: r, _ => rfl
        rw [ez] at q
        exact q
      have g' : xs.length = 2 := Classical.byContradiction fun z => g (by
        have : ¬ V.int (xs.length : Int) = V.int 2 := fun e => z (by
          have := V.int.inj e
          omega)
        rw [decide_eq_false this]
        rfl)
      obtain ⟨x, y, rfl⟩ : ∃ x y, xs = [x, y] := by
        match xs, g' with
        | [], g' => cases g'
        | [x], g' => cases g'
        | [x, y], _ => exact ⟨x, y, rfl⟩
        | x :: y :: z :: r, g' => simp at g'
      obtain ⟨⟨k1, hk1⟩, hv1⟩ := hy x (by simp)
      obtain ⟨⟨k2, hk2⟩, hv2⟩ := hy y (by simp)
      refine ⟨.ref b, rfl, b, [x, y], rfl, SqT.of e, rfl, x, [y], rfl, y, [], rfl, rfl, ?_⟩
      refine ⟨x, rfl, x, k1, rfl, hk1, _, rfl, ite2 (fun c => ?_) (fun c => ?_)⟩
      · have c' : numV x = false := by simpa using c
        have ez : placeV ts (some [x, y]) = false := by
          cases x with
          | int i =>
            have c2 : decide (0 ≤ i) = false := c'
            show (decide (0 ≤ i) && _ && _) = false
            rw [c2, Bool.false_and, Bool.false_and]
          | non => rfl
          | bl b => rfl
          | str b => rfl
          | byt b => rfl
          | flt b => rfl
          | ref b => rfl
          | ty b => rfl
        rw [ez] at q
        exact q
      have c' : numV x = true := by simpa using c
      refine ⟨y, rfl, y, k2, rfl, hk2, _, rfl, ite2 (fun d => ?_) (fun d => ?_)⟩
      · have d' : numV y = false := by simpa using d
        have ez : placeV ts (some [x, y]) = false := by
          have e2 : ∀ m : Int, inV2 0 m y = false := fun m => by
            cases y with
            | int j =>
              have c2 : decide (0 ≤ j) = false := d'
              show (decide (0 ≤ j) && _) = false
              rw [c2, Bool.false_and]
            | non => rfl
            | bl b => rfl
            | str b => rfl
            | byt b => rfl
            | flt b => rfl
            | ref b => rfl
            | ty b => rfl
          cases x with
          | int i =>
            show (inV2 0 ((ts.length : Int) - 1) (.int i) && inV2 0 (((ts.getD i.toNat Str.empty).length : Int) - 1) y) = false
            rw [e2, Bool.and_false]
          | non => cases c'
          | bl b => cases c'
          | str b => cases c'
          | byt b => cases c'
          | flt b => cases c'
          | ref b => cases c'
          | ty b => cases c'
        rw [ez] at q
        exact q
      have d' : numV y = true := by simpa using d
      obtain ⟨i, rfl, hi⟩ : ∃ i, x = .int i ∧ 0 ≤ i := by
        cases x with
        | int i => exact ⟨i, rfl, of_decide_eq_true c'⟩
        | non => cases c'
        | bl b => cases c'
        | str b => cases c'
        | byt b => cases c'
        | flt b => cases c'
        | ref b => cases c'
        | ty b => cases c'
      obtain ⟨j, rfl, hj⟩ : ∃ j, y = .int j ∧ 0 ≤ j := by
        cases y with
        | int i => exact ⟨i, rfl, of_decide_eq_true d'⟩
        | non => cases d'
        | bl b => cases d'
        | str b => cases d'
        | byt b => cases d'
        | flt b => cases d'
        | ref b => cases d'
        | ty b => cases d'
      have ez : placeV ts (some [.int i, .int j]) = (decide (i < (ts.length : Int)) && decide (j < ((ts.getD i.toNat Str.empty).length : Int))) := by
        show ((decide (0 ≤ i) && decide (i ≤ (ts.length : Int) - 1)) && (decide (0 ≤ j) && decide (j ≤ ((ts.getD i.toNat Str.empty).length : Int) - 1))) = _
        rw [decide_eq_true hi, decide_eq_true hj, Bool.true_and, Bool.true_and]
        congr 1
        · exact decide_eq_decide.mpr (by omega)
        · exact decide_eq_decide.mpr (by omega)
      rw [ez] at q
      refine ⟨.int i, rfl, .ref p, rfl, p, C, dx, _, .ref a, rfl, h1, L.cl, L.nt, lk1, a, _, rfl, .inr (SqT.of h2), _, _, rfl, rfl, _, rfl, ?_⟩
      rw [List.length_map]
      refine ite2 (fun c => ?_) (fun c => ?_)
      · have hi2 : i < (ts.length : Int) := of_decide_eq_true c
        obtain ⟨et, hm⟩ := text_at hi hi2
        rw [c, Bool.true_and] at q
        exact ⟨.int j, rfl, .ref p, rfl, p, C, dx, _, .ref a, rfl, h1, L.cl, L.nt, lk1, .int i, rfl, a, _, i, _, rfl, rfl, SqT.of h2, et, _, rfl, len5 (Nat.le_trans (len1 _ hm) (by decide)), _, _, rfl, rfl, q⟩
      · have c2 : decide (i < (ts.length : Int)) = false := by simpa using c
        rw [c2, Bool.false_and] at q
        exact q
theorem okr_PPlaces {f : Addr} {fd : FuncData} (F : Fun K "places" "places" sPPlaces f fd) (L : LibC K mg C fI fdI) (ENoWord : Cls0 P K mg PE "NoWord" cW) {fPAllPlaces : Addr} {fdPAllPlaces : FuncData} (DPAllPlaces : Dk P w K mg base "all_places" sPAllPlaces ["library"] 1 (spAllPlaces C) fPAllPlaces fdPAllPlaces) {fPWord : Addr} {fdPWord : FuncData} (DPWord : Dk P w K mg base "is_word" sPWord ["thing"] 2 spWd fPWord fdPWord) (T : Glob mg) : FnOk P w K mg base (L2.CX P w) 3 f fd ["library", "word"] (spRPlaces C cW) := by
  obtain ⟨fW, SNoWord⟩ := ENoWord.sup
  refine F.okX scPPlaces (fun vs H Q E h => ?_) (fun cdv A outer s H vs Q E hr h => ?_)
  · obtain ⟨s, y, ts, rfl, _⟩ := h
    rfl
  · refine ⟨_, (pss_cons (ps_if (pt_not (pt_val (pe_call DPWord.ok (hr.mono (by decide)) (by rfl) DPWord.g DPWord.F.kp DPWord.b .nil pass0 (pa_cons (pv 1) pa_nil))))
      (pss_one (ps_raise rfl (takes_of rfl rfl rfl rfl) (pmk_exc0 SNoWord hr (by rfl) ENoWord.g)))
      pss_nil)
      (pss_one (ps_ret (pe_lc (own := [("text", 2), ("at", 3)]) (g := (gTup K 2 (gCons (gName 2) (gCons (gName 3) gNil)))) (by rfl) scPPlaces.nd (pi_list (pe_call DPAllPlaces.ok (hr.mono (by decide)) (by rfl) DPAllPlaces.g DPAllPlaces.F.kp DPAllPlaces.b .nil pass0 (pa_cons (pv 0) pa_nil))) (blkOk_by (N := ["library", "word", "text", "at"]) (sc := defScope sPPlaces) (by decide +kernel)) (fun _ _ _ _ _ => pg_tup (by rfl) (pgs_cons (pg_name (i := 2) scPPlaces.nd rfl (.inl rfl)) (pgs_cons (pg_name (i := 3) scPPlaces.nd rfl (.inl rfl)) pgs_nil))) (fun _ _ _ _ _ => (pts_one (pt_val (show L2.PE _ _ (tBM K "str" rStarts3 (tOp (rIxT K) (tFld K (tVar 0) "texts") (tVar 2)) (tCons (tVar 1) (tCons (tVar 3) tNil))) from pe_bm PySem.F.plainAttrs_str PySem.F.slot_str_startswith PySem.F.type_str_startswith mt_st3 (pe_ix (r := rIxT K) (ta := tFld K (tVar 0) "texts") ix_tup (pe_fld (pv 0) rfl) (pv 2) (fun _ _ => rfl)) (pa_cons (pv 1) (pa_cons (pv 3) pa_nil)))))) (fun _ _ _ _ _ => (pe_tup (pa_cons (pv 2) (pa_cons (pv 3) pa_nil)))))))), ?_⟩
    obtain ⟨s, y, ts, rfl, hl, ⟨⟨k, hk⟩, hv0⟩, qb, q⟩ := h
    refine ⟨y, rfl, y, k, rfl, hk, hv0, _, rfl, ?_⟩
    cases hb : wordV y with
    | false => exact iteT (qb hb)
    | true =>
    obtain ⟨z, rfl, hw⟩ := wd_of hb hv0
    have q := q z rfl hw
    refine iteF ?_
    have hl0 := hl
    obtain ⟨⟨dx, a, h1, h2⟩, few, sg1, len1⟩ := hl
    refine ⟨.ref s, rfl, s, ts, rfl, hl0, fun A H1 k1 nA ⟨vs, hA, hv⟩ => ?_⟩
    have lp := pl_len len1 few
    refine ⟨A, rfl, ⟨_, sq_of hA⟩, fun D nD => lc_list (xs := vs) (fun i H' => Same H1 H' ∧ ∃ us, H' D = some (.lst us) ∧ All2 (PAt H') us (((pl ts).take i).filter (beg ts z))) ⟨Same.new nD, [], upd_same, .nil⟩ (fun i H' _ w => sq_of (w.1 _ _ hA)) ?_ ?_⟩
    · rintro i x H2 hx ⟨k2, us, hD, hu⟩
      obtain ⟨p, ep, b, rfl, eb⟩ := hv.at hx
      have ip := pl_mem.mp (List.mem_of_getElem? ep)
      have eb2 := k2 _ _ eb
      have k12 := k1.trans k2
      have lt := tx_len len1 p.1
      have sb : Txt.startswith3 (tx ts p.1) z ((p.2 : Nat) : Int) = beg ts z p := by
        rw [starts3 (Nat.le_of_lt ip.at_)]
        unfold beg
        rw [sfx_cod]
      refine ⟨b, _, rfl, SqT.of eb2, rfl, _, _, rfl, _, _, rfl, rfl, rfl, .ref s, rfl, s, C, dx, _, .ref a, rfl, k12 _ _ h1, L.cl, L.nt, lk1, _, rfl, a, _, _, _, rfl, rfl, SqT.of (k12 _ _ h2), atI_nat (tx_at ip.text), rfl, _, rfl, _, rfl, _, _, _, rfl, rfl, _, rfl, ?_⟩
      rw [sb, filt_snoc (beg ts z) ep]
      refine ite2 (fun c => ?_) (fun c => ?_)
      · rw [if_pos c]
        refine ⟨_, rfl, _, rfl, by show 2 ≤ sizeLine; decide, fun c nc => ⟨us, (Same.new nc) _ _ hD, ?_, sameAt (k2.trans (Same.new nc)) nD, us ++ [.ref c], upd_same, ?_⟩⟩
        · have z1 := hu.len
          have z2 := List.length_filter_le (beg ts z) ((pl ts).take i)
          rw [List.length_take] at z2
          have h3 : sizeLine = 16777216 := sizeLine_eq
          omega
        · exact add_pair nc hD hu rfl
      · rw [if_neg c, List.append_nil]
        exact ⟨k2, us, hD, hu⟩
    · rintro H2 ⟨k2, us, hD, hu⟩
      rw [hv.len, List.take_length] at hu
      exact q D H2 (k1.trans k2) (Same.free k1 nD) ⟨us, hD, hu⟩
theorem okr_PCount {f : Addr} {fd : FuncData} (F : Fun K "count" "count" sPCount f fd)  {fPPlaces : Addr} {fdPPlaces : FuncData} (FPl : Fun K "places" "places" sPPlaces fPPlaces fdPPlaces) (bPl : Binds K fdPPlaces ["library", "word"] []) (gPl : mg "places" = some (.ref fPPlaces)) (GPl : FnOk P w K mg base (L2.CX P w) 3 fPPlaces fdPPlaces ["library", "word"] (spRPlaces C cW)) (T : Glob mg) : FnOk P w K mg base (L2.CX P w) 4 f fd ["library", "word"] (spRCount C cW) := by
  refine F.okX scPCount (fun vs H Q E h => ?_) (fun cdv A outer s H vs Q E hr h => ?_)
  · obtain ⟨s, y, ts, rfl, _⟩ := h
    rfl
  · refine ⟨_, (pss_one (ps_ret (pe_callB call_len_seq (by rfl) T.len PySem.boot_len (pa_cons (pe_callS GPl (hr.mono (by decide)) rfl gPl FPl.kp bPl (fun σ => passAt (takes_of rfl rfl rfl rfl) σ) (pa_cons (pv 0) (pa_cons (pv 1) pa_nil))) pa_nil)))), ?_⟩
    obtain ⟨s, y, ts, rfl, hl, hy, qb, q⟩ := h
    refine ⟨.ref s, rfl, y, rfl, s, y, ts, rfl, hl, hy, qb, fun z e hw A H1 k1 nA ⟨vs, hA, hv⟩ => ?_⟩
    refine ⟨A, vs, rfl, .inl (sq_of hA), ?_⟩
    rw [hv.len]
    exact q z e hw H1 k1
theorem okr_PSpan {f : Addr} {fd : FuncData} (F : Fun K "span" "span" sPSpan f fd)  {fPAllPlaces : Addr} {fdPAllPlaces : FuncData} (DPAllPlaces : Dk P w K mg base "all_places" sPAllPlaces ["library"] 1 (spAllPlaces C) fPAllPlaces fdPAllPlaces) {fPEnding : Addr} {fdPEnding : FuncData} (DPEnding : Dk P w K mg base "ending" sPEnding ["library", "place"] 3 (spEnding C) fPEnding fdPEnding) {fPCount : Addr} {fdPCount : FuncData} (FCo : Fun K "count" "count" sPCount fPCount fdPCount) (bCo : Binds K fdPCount ["library", "word"] []) (gCo : mg "count" = some (.ref fPCount)) (GCo : FnOk P w K mg base (L2.CX P w) 4 fPCount fdPCount ["library", "word"] (spRCount C cW)) (T : Glob mg) : FnOk P w K mg base (L2.CX P w) 5 f fd ["library", "word"] (spRSpan C cW) := by
  refine F.okX scPSpan (fun vs H Q E h => ?_) (fun cdv A outer s H vs Q E hr h => ?_)
  · obtain ⟨s, y, ts, rfl, _⟩ := h
    rfl
  · refine ⟨_, (pss_cons (ps_set (i := 2) scPSpan.nd rfl (.inl rfl) (pe_callS GCo (hr.mono (by decide)) rfl gCo FCo.kp bCo (fun σ => passAt (takes_of rfl rfl rfl rfl) σ) (pa_cons (pv 0) (pa_cons (pv 1) pa_nil))))
      (pss_cons (ps_set (i := 3) scPSpan.nd rfl (.inl rfl) (pe_callB call_len_seq (by rfl) T.len PySem.boot_len (pa_cons (pe_lc (own := [("place", 4)]) (g := gName 4) (by rfl) scPSpan.nd (pi_list (pe_call DPAllPlaces.ok (hr.mono (by decide)) (by rfl) DPAllPlaces.g DPAllPlaces.F.kp DPAllPlaces.b .nil pass0 (pa_cons (pv 0) pa_nil))) (blkOk_by (N := ["library", "word", "many", "ahead", "place"]) (sc := defScope sPSpan) (by decide +kernel)) (fun _ _ _ _ _ => pg_name (i := 4) scPSpan.nd rfl (.inl rfl)) (fun _ _ _ _ _ => (pts_one (pt_cmpR op_lt_str (pe_call DPEnding.ok (hr.mono (by decide)) (by rfl) DPEnding.g DPEnding.F.kp DPEnding.b .nil pass0 (pa_cons (pv 0) (pa_cons (pv 4) pa_nil))) (pv 1) (nomark _)))) (fun _ _ _ _ _ => (pv 4))) pa_nil)))
      (pss_one (ps_ret (pe_tup (pa_cons (pv 3) (pa_cons (pe_op op_add (pv 3) (pv 2)) pa_nil))))))), ?_⟩
    obtain ⟨s, y, ts, rfl, hl, hy, qb, q⟩ := h
    refine ⟨.ref s, rfl, y, rfl, s, y, ts, rfl, hl, hy, qb, fun z e hw H0 k0 => ?_⟩
    subst e
    have q := q z rfl hw
    have hl := hl.same k0
    have lp := pl_len hl.len hl.few
    refine ⟨.ref s, rfl, s, ts, rfl, hl, fun A H1 k1 nA ⟨vs, hA, hv⟩ => ?_⟩
    refine ⟨A, rfl, ⟨_, sq_of hA⟩, fun D nD => lc_list (xs := vs) (fun i H' => Same H1 H' ∧ ∃ us, H' D = some (.lst us) ∧ us.length = (((pl ts).take i).filter fun p => decide (cod (sfx ts p) < cod z)).length) ⟨Same.new nD, [], upd_same, rfl⟩ (fun i H' _ w => sq_of (w.1 _ _ hA)) ?_ ?_⟩
    · rintro i x H2 hx ⟨k2, us, hD, hu⟩
      obtain ⟨p, ep, rp⟩ := hv.at hx
      have ip := pl_mem.mp (List.mem_of_getElem? ep)
      refine ⟨rfl, .ref s, rfl, x, rfl, s, ts, x, p, rfl, hl.same (k1.trans k2), rp.same k2, ip, .str z, rfl, _, _, rfl, rfl, _, rfl, ?_⟩
      rw [filt_snoc _ ep]
      refine ite2 (fun c => ?_) (fun c => ?_)
      · have c : decide (cod (sfx ts p) < cod z) = true := c
        rw [if_pos c]
        refine ⟨x, rfl, us, hD, ?_, sameAt k2 nD, us ++ [x], upd_same, by rw [List.length_append, List.length_append, hu]; rfl⟩
        have z2 := List.length_filter_le (fun p => decide (cod (sfx ts p) < cod z)) ((pl ts).take i)
        rw [List.length_take] at z2
        have h3 : sizeLine = 16777216 := sizeLine_eq
        omega
      · have c : ¬ decide (cod (sfx ts p) < cod z) = true := c
        rw [if_neg c, List.append_nil]
        exact ⟨k2, us, hD, hu⟩
    · rintro H2 ⟨k2, us, hD, hu⟩
      rw [hv.len, List.take_length] at hu
      refine ⟨D, us, rfl, .inl (sq_of hD), ?_⟩
      refine ⟨_, rfl, _, rfl, _, rfl, _, _, rfl, rfl, by show 2 ≤ sizeLine; decide, fun b nb => ?_⟩
      refine q b _ ((k0.trans (k1.trans k2)).trans (Same.new nb)) ?_
      rw [upd_same, hu]
      rfl
abbrev sPFirst : Stmt := topS 26
theorem scPFirst : FnScope ["library", "word"] ["library", "word"] (defScope sPFirst) := ⟨rfl, rfl, rfl, by decide +kernel, rfl, by decide +kernel, by decide +kernel⟩
theorem ok_PFirst {f : Addr} {fd : FuncData} (F : Fun K "first_place" "first_place" sPFirst f fd) {fPPlaces : Addr} {fdPPlaces : FuncData} (FPl : Fun K "places" "places" sPPlaces fPPlaces fdPPlaces) (bPl : Binds K fdPPlaces ["library", "word"] []) (gPl : mg "places" = some (.ref fPPlaces)) (GPl : FnOk P w K mg base (L2.CX P w) 3 fPPlaces fdPPlaces ["library", "word"] (spRPlaces C cW))  (T : Glob mg) : FnOk P w K mg base (L2.CX P w) 4 f fd ["library", "word"] (spRAny C cW) := by
  refine F.okX scPFirst (fun vs H Q E h => ?_) (fun cdv A outer s H vs Q E hr h => ?_)
  · obtain ⟨s, y, ts, rfl, _⟩ := h
    rfl
  · refine ⟨_, (pss_one (ps_ret (pe_callBK (cr_minDf (by rfl) hr.units) (by rfl) T.min (by decide +kernel) (pa_cons (pe_callS GPl (hr.mono (by decide)) rfl gPl FPl.kp bPl (fun σ => passAt (takes_of rfl rfl rfl rfl) σ) (pa_cons (pv 0) (pa_cons (pv 1) pa_nil))) pa_nil) (pk_cons pe_non pk_nil)))), ?_⟩
    obtain ⟨s, y, ts, rfl, hl, hy, qb, q⟩ := h
    refine ⟨.ref s, rfl, y, rfl, s, y, ts, rfl, hl, hy, qb, fun z e hw A H1 k1 nA ⟨vs, hA, hv⟩ => ?_⟩
    dsimp only [tNil]
    exact min_pls hA hv (fnd_asc ts z) fun v hp => q z e hw v H1 k1
abbrev sPLast : Stmt := topS 27
theorem scPLast : FnScope ["library", "word"] ["library", "word"] (defScope sPLast) := ⟨rfl, rfl, rfl, by decide +kernel, rfl, by decide +kernel, by decide +kernel⟩
theorem ok_PLast {f : Addr} {fd : FuncData} (F : Fun K "last_place" "last_place" sPLast f fd) {fPPlaces : Addr} {fdPPlaces : FuncData} (FPl : Fun K "places" "places" sPPlaces fPPlaces fdPPlaces) (bPl : Binds K fdPPlaces ["library", "word"] []) (gPl : mg "places" = some (.ref fPPlaces)) (GPl : FnOk P w K mg base (L2.CX P w) 3 fPPlaces fdPPlaces ["library", "word"] (spRPlaces C cW))  (T : Glob mg) : FnOk P w K mg base (L2.CX P w) 4 f fd ["library", "word"] (spRAny C cW) := by
  refine F.okX scPLast (fun vs H Q E h => ?_) (fun cdv A outer s H vs Q E hr h => ?_)
  · obtain ⟨s, y, ts, rfl, _⟩ := h
    rfl
  · refine ⟨_, (pss_one (ps_ret (pe_callBK (cr_maxDf (by rfl) hr.units) (by rfl) T.max (by decide +kernel) (pa_cons (pe_callS GPl (hr.mono (by decide)) rfl gPl FPl.kp bPl (fun σ => passAt (takes_of rfl rfl rfl rfl) σ) (pa_cons (pv 0) (pa_cons (pv 1) pa_nil))) pa_nil) (pk_cons pe_non pk_nil)))), ?_⟩
    obtain ⟨s, y, ts, rfl, hl, hy, qb, q⟩ := h
    refine ⟨.ref s, rfl, y, rfl, s, y, ts, rfl, hl, hy, qb, fun z e hw A H1 k1 nA ⟨vs, hA, hv⟩ => ?_⟩
    dsimp only [tNil]
    exact max_pls hA hv (fnd_asc ts z) fun v hp => q z e hw v H1 k1
end
end LawK
namespace Ev
open PySem PySem.Spec PyProof PyProof.Rows L2
def tIfT (t u v : TT) : TT := fun σ H Q => t σ H fun c H1 => if c = true then u σ H1 Q else v σ H1 Q
theorem pt_ifT {X : Cx} {c a b : Expr} {tC tA tB : TT} {pos : Pos} (hc : PT X c tC) (ha : PT X a tA) (hb : PT X b tB) : PT X (.IfExp c a b pos) (tIfT tC tA tB) := by
  refine ⟨fun pins s σ H Q I h => ?_⟩
  show wpAny (model X.prog X.w) X.A (do
    if ← PySem.isTrue c X.env (eval c X.env) then PySem.isTrue a X.env (eval a X.env) else PySem.isTrue b X.env (eval b X.env)) _ X.xe s
  refine wpAny_bind (wpAny_mono (hc.run pins s σ H _ I h) (fun d s1 ⟨H1, I1, q1⟩ => ?_) fun _ _ x => x)
  cases d with
  | true => exact ha.run pins s1 σ H1 Q I1 q1
  | false => exact hb.run pins s1 σ H1 Q I1 q1
end Ev
set_option maxHeartbeats 4000000
namespace LawK
open PySem PySem.Spec PyProof.Rows L2 Ev

theorem pe_dead {X : Cx} {e : Expr} : L2.PE X e (fun _ _ _ => False) := ⟨fun pins s σ H Q I q => q.elim⟩
def spRNext (C cW cP : Addr) : Sp := fun vs H Q E => ∃ (s : Addr) (y x : V) (o : Option (List V)) (ts : List Str), vs = [.ref s, y, x] ∧ LibAt H C s ts ∧ Wy H y ∧ Tg H x o ∧ (wordV y = false → E (.ref cW) none H) ∧
  (∀ w, y = .str w → Wd w → placeV ts o = false → ∀ H', Same H H' → E (.ref cP) none H') ∧ (∀ w, y = .str w → Wd w → placeV ts o = true → ∀ v H', Same H H' → Q v H')
/-- parts of a thing that is no gap -/
def NoGap (H : Hp) (ts : List Str) (x : V) : Prop := (∃ k, Kd H x k ∧ k ≠ .tup) ∨ ∃ a xs os, x = .ref a ∧ H a = some (.tup xs) ∧ xs.length ≤ 30 ∧ All2 (Tg H) xs os ∧ ∃ (i : Nat) (y : V) (o : Option (List V)), xs[i]? = some y ∧ os[i]? = some o ∧ y ≠ .non ∧ placeV ts o = false
theorem NoGap.same {H H' : Hp} {ts : List Str} {x : V} (k : Same H H') (h : NoGap H ts x) : NoGap H' ts x := by
  rcases h with ⟨n, hk, ne⟩ | ⟨a, xs, os, e, ha, few, hx, r⟩
  · exact .inl ⟨n, hk.same k, ne⟩
  · exact .inr ⟨a, xs, os, e, k _ _ ha, few, hx.imp fun _ _ q => q.same k, r⟩
def spRIsGap (C cW : Addr) : Sp := fun vs H Q E => ∃ (s : Addr) (y x : V) (ts : List Str), vs = [.ref s, y, x] ∧ LibAt H C s ts ∧ Wy H y ∧ NoGap H ts x ∧ (wordV y = false → E (.ref cW) none H) ∧ (∀ w, y = .str w → Wd w → ∀ v H', Same H H' → Q v H')
def manyV : V → Bool
  | .int i => decide (1 ≤ i) && decide (i ≤ 2000)
  | _ => false
def spRMany (C cN : Addr) : Sp := fun vs H Q E => ∃ (s : Addr) (x : V) (k : Kn) (ts : List Str), vs = [.ref s, x] ∧ LibAt H C s ts ∧ Kd H x k ∧ (manyV x = false → E (.ref cN) none H) ∧ (manyV x = true → ∀ v H', Same H H' → Q v H')
def pieceV (ts : List Str) : V → Bool
  | .int i => decide (0 ≤ i) && decide (i < ((due ts).length : Nat))
  | _ => false
def spRPiece (C cN : Addr) : Sp := fun vs H Q E => ∃ (s : Addr) (x : V) (k : Kn) (ts : List Str), vs = [.ref s, x] ∧ LibAt H C s ts ∧ Kd H x k ∧ (pieceV ts x = false → ∀ H', Same H H' → E (.ref cN) none H') ∧ (pieceV ts x = true → ∀ v H', Same H H' → Q v H')
section
variable {P : Program} {w : World} {K : PySem.W.Frag} {mg : Str → Option Value} {base : Heap}
variable {C fI : Addr} {fdI : FuncData}
variable {PE cW cP cN : Addr}
abbrev sPTextsWith : Stmt := topS 29
theorem scPTextsWith : FnScope ["library", "word", "text", "_"] ["library", "word"] (defScope sPTextsWith) := ⟨rfl, rfl, rfl, by decide +kernel, rfl, by decide +kernel, by decide +kernel⟩
theorem ok_PTextsWith {f : Addr} {fd : FuncData} (F : Fun K "texts_with" "texts_with" sPTextsWith f fd) {fPPlaces : Addr} {fdPPlaces : FuncData} (FPl : Fun K "places" "places" sPPlaces fPPlaces fdPPlaces) (bPl : Binds K fdPPlaces ["library", "word"] []) (gPl : mg "places" = some (.ref fPPlaces)) (GPl : FnOk P w K mg base (L2.CX P w) 3 fPPlaces fdPPlaces ["library", "word"] (spRPlaces C cW))  (T : Glob mg) : FnOk P w K mg base (L2.CX P w) 4 f fd ["library", "word"] (spRAny C cW) := by
  refine F.okX scPTextsWith (fun vs H Q E h => ?_) (fun cdv A outer s H vs Q E hr h => ?_)
  · obtain ⟨s, y, ts, rfl, _⟩ := h
    rfl
  · refine ⟨_, (pss_one (ps_ret (pe_callTy call_tuple_of (by rfl) T.tuple (by decide +kernel) (pa_cons (pe_callB (cr_sortedSi (by rfl)) (by rfl) T.sorted (by decide +kernel) (pa_cons (pe_sc1 (own := [("text", 2), ("_", 3)]) (g := (gTup K 2 (gCons (gName 2) (gCons (gName 3) gNil)))) (te := tVar 2) (by rfl) scPTextsWith.nd (pi_list (pe_callS GPl (hr.mono (by decide)) rfl gPl FPl.kp bPl (fun σ => passAt (takes_of rfl rfl rfl rfl) σ) (pa_cons (pv 0) (pa_cons (pv 1) pa_nil)))) (blkOk_by (N := ["library", "word", "text", "_"]) (sc := defScope sPTextsWith) (by decide +kernel)) (fun _ _ _ => pg_tup (by rfl) (pgs_cons (pg_name (i := 2) scPTextsWith.nd rfl (.inl rfl)) (pgs_cons (pg_name (i := 3) scPTextsWith.nd rfl (.inl rfl)) pgs_nil))) (fun _ _ _ => pts_nil) (fun _ _ _ => pv 2)) pa_nil)) pa_nil)))), ?_⟩
    obtain ⟨s, y, ts, rfl, hl, hy, qb, q⟩ := h
    have fl := fnd_len hl.len hl.few
    refine ⟨.ref s, rfl, y, rfl, s, y, ts, rfl, hl, hy, qb, fun z e hw A H1 k1 nA ⟨vs, hA, hv⟩ => ?_⟩
    have fl := fl z
    have lv := hv.len
    refine ⟨A, rfl, ⟨_, sq_of hA⟩, fun D nD => wk (walk_list (xs := vs)) (fun i H' => Same H1 H' ∧ ∃ (S : Key → Bool) (n : Nat), H' D = some (SetX P w D S n) ∧ (∀ k, S k = true → ∃ y, k = .inl y) ∧ n ≤ i) ⟨Same.new nD, _, 0, upd_same, fun k e => (by cases e), Nat.zero_le _⟩ (fun i H' _ w => sq_of (w.1 _ _ hA)) ?_ ?_⟩
    · rintro i v H2 H2' hi ⟨k2, S, n, hD, hS, hn⟩ ⟨eH, hvi⟩
      subst eH
      obtain ⟨r, er, b, rfl, eb⟩ := hv.at hvi
      refine ⟨b, _, rfl, SqT.of (k2 _ _ eb), rfl, _, _, rfl, _, _, rfl, rfl, rfl, _, rfl, .inl ((r.1 : Nat) : Int), S, n, rfl, hD, by show _ < 4096; omega, sameAt k2 nD, (fun k => S k || decide (k = .inl ((r.1 : Nat) : Int))), (if S (.inl ((r.1 : Nat) : Int)) = true then n else n + 1), upd_same, fun k e => ?_, by split <;> omega⟩
      rw [Bool.or_eq_true, decide_eq_true_eq] at e
      rcases e with e | e
      · exact hS k e
      · exact ⟨_, e⟩
    · rintro H2 ⟨k2, S, n, hD, hS, hn⟩
      refine ⟨D, S, n, rfl, hD, hS, fun zs p hs hm hl3 np => ?_⟩
      have kp := Same.new (H := H2) (o := .lst (zs.map V.int)) np
      exact ⟨p, _, rfl, .inl ⟨sq_of upd_same, fun t nt => q z e hw _ _ (((k1.trans k2).trans kp).trans (Same.new nt))⟩⟩
abbrev sPNext : Stmt := topS 28
theorem scPNext : FnScope ["library", "word", "place", "found", "other"] ["library", "word", "place"] (defScope sPNext) := ⟨rfl, rfl, rfl, by decide +kernel, rfl, by decide +kernel, by decide +kernel⟩
theorem ok_PNext {f : Addr} {fd : FuncData} (F : Fun K "next_place" "next_place" sPNext f fd) (ENoPlace : Cls0 P K mg PE "NoPlace" cP) {fPPlaces : Addr} {fdPPlaces : FuncData} (FPl : Fun K "places" "places" sPPlaces fPPlaces fdPPlaces) (bPl : Binds K fdPPlaces ["library", "word"] []) (gPl : mg "places" = some (.ref fPPlaces)) (GPl : FnOk P w K mg base (L2.CX P w) 3 fPPlaces fdPPlaces ["library", "word"] (spRPlaces C cW)) {fPPlace : Addr} {fdPPlace : FuncData} (DPPlace : Dk P w K mg base "is_place" sPPlace ["library", "thing"] 2 (spPPlaceG C) fPPlace fdPPlace) {fPPlaces : Addr} {fdPPlaces : FuncData} (FPl : Fun K "places" "places" sPPlaces fPPlaces fdPPlaces) (bPl : Binds K fdPPlaces ["library", "word"] []) (gPl : mg "places" = some (.ref fPPlaces)) (GPl : FnOk P w K mg base (L2.CX P w) 3 fPPlaces fdPPlaces ["library", "word"] (spRPlaces C cW)) (T : Glob mg) : FnOk P w K mg base (L2.CX P w) 4 f fd ["library", "word", "place"] (spRNext C cW cP) := by
  obtain ⟨fP, SNoPlace⟩ := ENoPlace.sup
  refine F.okX scPNext (fun vs H Q E h => ?_) (fun cdv A outer s H vs Q E hr h => ?_)
  · obtain ⟨s, y, x, o, ts, rfl, _⟩ := h
    rfl
  · refine ⟨_, (pss_cons (ps_set (i := 3) scPNext.nd rfl (.inl rfl) (pe_callS GPl (hr.mono (by decide)) rfl gPl FPl.kp bPl (fun σ => passAt (takes_of rfl rfl rfl rfl) σ) (pa_cons (pv 0) (pa_cons (pv 1) pa_nil))))
      (pss_cons (ps_if (pt_not (pt_val (pe_call DPPlace.ok (hr.mono (by decide)) (by rfl) DPPlace.g DPPlace.F.kp DPPlace.b .nil pass0 (pa_cons (pv 0) (pa_cons (pv 2) pa_nil)))))
      (pss_one (ps_raise rfl (takes_of rfl rfl rfl rfl) (pmk_exc0 SNoPlace hr (by rfl) ENoPlace.g)))
      pss_nil)
      (pss_one (ps_ret (pe_callBK (cr_minDf (by rfl) hr.units) (by rfl) T.min (by decide +kernel) (pa_cons (pe_lc (own := [("other", 4)]) (g := gName 4) (by rfl) scPNext.nd (pi_list (pv 3)) (blkOk_by (N := ["library", "word", "place", "found", "other"]) (sc := defScope sPNext) (by decide +kernel)) (fun _ _ _ _ _ => pg_name (i := 4) scPNext.nd rfl (.inl rfl)) (fun _ _ _ _ _ => (pts_one (show L2.PT _ _ (tTest (tOp (rGtD K) (tVar 4) (tVar 2))) from pt_cmpR (op_gtD hr.units) (pv 4) (pv 2) (nomark _)))) (fun _ _ _ _ _ => (pv 4))) pa_nil) (pk_cons pe_non pk_nil)))))), ?_⟩
    obtain ⟨s, y, x0, o, ts, rfl, hl, hy, hT, qb, qp, q⟩ := h
    have fl := fnd_len hl.len hl.few
    refine ⟨.ref s, rfl, y, rfl, s, y, ts, rfl, hl, hy, qb, fun z e hw A H1 k1 nA ⟨vs, hA, hv⟩ => ?_⟩
    have fl := fl z
    refine ⟨.ref s, rfl, x0, rfl, s, ts, x0, o, rfl, hl.same k1, hT.same k1, _, rfl, ?_⟩
    cases hb : placeV ts o with
    | false => exact iteT (qp z e hw hb H1 k1)
    | true =>
    refine iteF ?_
    obtain ⟨i0, j0, rfl, a1, a2, a3, a4⟩ := place_true hb
    obtain ⟨p, v, rfl, hp⟩ : ∃ p v, x0 = v ∧ PAt H v p := by
      cases hT with
      | @tup a _ e n h => exact ⟨(i0.toNat, j0.toNat), .ref a, rfl, a, rfl, by rw [e]; simp only [Int.toNat_of_nonneg a1, Int.toNat_of_nonneg a3]⟩
    refine ⟨.ref A, rfl, A, rfl, ⟨_, sq_of hA⟩, fun D nD => lc_list (xs := vs) (fun i H' => Same H1 H' ∧ ∃ us, H' D = some (.lst us) ∧ All2 (PAt H') us (((fnd ts z).take i).filter fun q => decide (ltP p q))) ⟨Same.new nD, [], upd_same, .nil⟩ (fun i H' _ w => sq_of (w.1 _ _ hA)) ?_ ?_⟩
    · rintro i x H2 hx ⟨k2, us, hD, hu⟩
      obtain ⟨r, er, rr⟩ := hv.at hx
      have rr2 := rr.same k2
      refine ⟨rfl, x, rfl, x0, rfl, _, _, encP_dp rr2, encP_dp (hp.same (k1.trans k2)), encP_alike _ _, (fun e => by unfold encP at e; cases e), by rw [encP_depth, encP_depth]; decide, _, rfl, ?_⟩
      rw [encP_lt, filt_snoc (fun q => decide (ltP p q)) er]
      refine ite2 (fun c => ?_) (fun c => ?_)
      · rw [if_pos c]
        have kp : ∀ {y : V} {r : Pl}, PAt H2 y r → PAt (upd H2 D (.lst (us ++ [x]))) y r := fun {y r} ⟨b, e, h⟩ => ⟨b, e, by
          rw [upd_ne (fun z => by rw [z, hD] at h; cases h)]
          exact h⟩
        refine ⟨x, rfl, us, hD, ?_, sameAt k2 nD, us ++ [x], upd_same, (hu.imp fun _ _ h => kp h).snoc (kp rr2)⟩
        have z1 := hu.len
        have z2 := List.length_filter_le (fun q => decide (ltP p q)) ((fnd ts z).take i)
        rw [List.length_take] at z2
        have h3 : sizeLine = 16777216 := sizeLine_eq
        omega
      · rw [if_neg c, List.append_nil]
        exact ⟨k2, us, hD, hu⟩
    · rintro H2 ⟨k2, us, hD, hu⟩
      rw [hv.len, List.take_length] at hu
      dsimp only [tNil]
      exact min_pls hD hu ((fnd_asc ts z).sublist List.filter_sublist) fun v' hp' => q z e hw hb v' H2 (k1.trans k2)
abbrev sPGap : Stmt := topS 31
theorem scPGap : FnScope ["library", "word", "first", "behind", "order", "less", "greater"] ["library", "word"] (defScope sPGap) := ⟨rfl, rfl, rfl, by decide +kernel, rfl, by decide +kernel, by decide +kernel⟩
theorem ok_PGap {f : Addr} {fd : FuncData} (F : Fun K "gap" "gap" sPGap f fd)  {fPEndings : Addr} {fdPEndings : FuncData} (DPEndings : Dk P w K mg base "endings" sPEndings ["library"] 2 (spEndings C) fPEndings fdPEndings) {fPSpan : Addr} {fdPSpan : FuncData} (FSp : Fun K "span" "span" sPSpan fPSpan fdPSpan) (bSp : Binds K fdPSpan ["library", "word"] []) (gSp : mg "span" = some (.ref fPSpan)) (GSp : FnOk P w K mg base (L2.CX P w) 5 fPSpan fdPSpan ["library", "word"] (spRSpan C cW)) (T : Glob mg) : FnOk P w K mg base (L2.CX P w) 6 f fd ["library", "word"] (spRAny C cW) := by
  refine F.okX scPGap (fun vs H Q E h => ?_) (fun cdv A outer s H vs Q E hr h => ?_)
  · obtain ⟨s, y, ts, rfl, _⟩ := h
    rfl
  · refine ⟨_, (pss_cons (ps_asg (pe_callS GSp (hr.mono (by decide)) rfl gSp FSp.kp bSp (fun σ => passAt (takes_of rfl rfl rfl rfl) σ) (pa_cons (pv 0) (pa_cons (pv 1) pa_nil))) (pg_tup (by rfl) (pgs_cons (pg_name (i := 2) scPGap.nd rfl (.inl rfl)) (pgs_cons (pg_name (i := 3) scPGap.nd rfl (.inl rfl)) pgs_nil))))
      (pss_cons (ps_if (pt_cmpR op_lt (pv 2) (pv 3) (nomark _))
      (pss_one (ps_ret pe_non))
      pss_nil)
      (pss_cons (ps_set (i := 4) scPGap.nd rfl (.inl rfl) (pe_call DPEndings.ok (hr.mono (by decide)) (by rfl) DPEndings.g DPEndings.F.kp DPEndings.b .nil pass0 (pa_cons (pv 0) pa_nil)))
      (pss_cons (ps_set (i := 5) scPGap.nd rfl (.inl rfl) (pe_ifExp (pt_cmpR op_gt (pv 2) pe_int (nomark _)) (pe_ix ix_list (pv 4) (pe_op op_sub (pv 2) pe_int) (fun _ _ => rfl)) pe_non))
      (pss_cons (ps_set (i := 6) scPGap.nd rfl (.inl rfl) (pe_ifExp (pt_cmpR op_lt (pv 2) (pe_callB call_len_seq (by rfl) T.len PySem.boot_len (pa_cons (pv 4) pa_nil)) (nomark _)) (pe_ix ix_list (pv 4) (pv 2) (fun _ _ => rfl)) pe_non))
      (pss_one (ps_ret (pe_tup (pa_cons (pv 5) (pa_cons (pv 6) pa_nil)))))))))), ?_⟩
    obtain ⟨s, y, ts, rfl, hl, hy, qb, q⟩ := h
    refine ⟨.ref s, rfl, y, rfl, s, y, ts, rfl, hl, hy, qb, fun z e hw b H1 k1 hb => ?_⟩
    refine ⟨b, _, rfl, SqT.of hb, rfl, _, _, rfl, _, _, rfl, rfl, ?_⟩
    refine ⟨_, rfl, _, rfl, _, _, rfl, rfl, _, rfl, ite2 (fun c => q z e hw _ H1 k1) (fun c => ?_)⟩
    dsimp only [tNext, tDrop]
    have hl := hl.same k1
    have le : nLt ts z ≤ nP ts := by
      rw [nLt_eq]
      exact (cnt_down (ord_srt ts) (cod z)).1
    refine ⟨.ref s, rfl, s, ts, rfl, hl, fun A H2 k2 nA ⟨vs, hA, hv⟩ => ?_⟩
    have lv : vs.length = nP ts := hv.len
    have k12 := k1.trans k2
    have fin : ∀ v u t, H2 t = none → Q (.ref t) (upd H2 t (.tup [v, u])) := fun v u t nt => q z e hw _ _ (k12.trans (Same.new nt))
    refine ⟨_, rfl, _, _, rfl, rfl, _, rfl, ite2 (fun d => ?_) (fun d => ?_)⟩
    · have d1 : (0 : Int) < ((nLt ts z : Nat) : Int) := of_decide_eq_true d
      have e1 : ((nLt ts z : Nat) : Int) - 1 = ((nLt ts z - 1 : Nat) : Int) := by omega
      have lt : nLt ts z - 1 < vs.length := by omega
      refine ⟨.ref A, rfl, _, rfl, _, _, rfl, rfl, A, vs, _, _, rfl, rfl, sq_of hA, (by rw [e1]; exact atI_nat (List.getElem?_eq_getElem lt)), ?_⟩
      refine ⟨_, rfl, .ref A, rfl, A, vs, rfl, .inl (sq_of hA), _, _, rfl, rfl, _, rfl, ite2 (fun d => ?_) (fun d => ?_)⟩
      · have d1 : ((nLt ts z : Nat) : Int) < ((vs.length : Nat) : Int) := of_decide_eq_true d
        have lt2 : nLt ts z < vs.length := by omega
        exact ⟨.ref A, rfl, _, rfl, A, vs, _, _, rfl, rfl, sq_of hA, atI_nat (List.getElem?_eq_getElem lt2), _, rfl, _, rfl, by show 2 ≤ sizeLine; decide, fun t nt => fin _ _ t nt⟩
      · exact ⟨_, rfl, _, rfl, by show 2 ≤ sizeLine; decide, fun t nt => fin _ _ t nt⟩
    · refine ⟨_, rfl, .ref A, rfl, A, vs, rfl, .inl (sq_of hA), _, _, rfl, rfl, _, rfl, ite2 (fun d => ?_) (fun d => ?_)⟩
      · have d1 : ((nLt ts z : Nat) : Int) < ((vs.length : Nat) : Int) := of_decide_eq_true d
        have lt2 : nLt ts z < vs.length := by omega
        exact ⟨.ref A, rfl, _, rfl, A, vs, _, _, rfl, rfl, sq_of hA, atI_nat (List.getElem?_eq_getElem lt2), _, rfl, _, rfl, by show 2 ≤ sizeLine; decide, fun t nt => fin _ _ t nt⟩
      · exact ⟨_, rfl, _, rfl, by show 2 ≤ sizeLine; decide, fun t nt => fin _ _ t nt⟩
theorem okr_PNumberOf {f : Addr} {fd : FuncData} (F : Fun K "number_of" "number_of" sPNumberOf f fd)  {fPEndings : Addr} {fdPEndings : FuncData} (DPEndings : Dk P w K mg base "endings" sPEndings ["library"] 2 (spEndings C) fPEndings fdPEndings) {fPEnding : Addr} {fdPEnding : FuncData} (DPEnding : Dk P w K mg base "ending" sPEnding ["library", "place"] 3 (spEnding C) fPEnding fdPEnding) {fPLengths : Addr} {fdPLengths : FuncData} (DPLengths : Dk P w K mg base "lengths" sPLengths ["library"] 5 (spLengths C) fPLengths fdPLengths) {fPSpan : Addr} {fdPSpan : FuncData} (FSp : Fun K "span" "span" sPSpan fPSpan fdPSpan) (bSp : Binds K fdPSpan ["library", "word"] []) (gSp : mg "span" = some (.ref fPSpan)) (GSp : FnOk P w K mg base (L2.CX P w) 5 fPSpan fdPSpan ["library", "word"] (spRSpan C cW)) (T : Glob mg) : FnOk P w K mg base (L2.CX P w) 6 f fd ["library", "word"] (spRAny C cW) := by
  refine F.okX scPNumberOf (fun vs H Q E h => ?_) (fun cdv A outer s H vs Q E hr h => ?_)
  · obtain ⟨s, y, ts, rfl, _⟩ := h
    rfl
  · refine ⟨_, (pss_cons (ps_asg (pe_callS GSp (hr.mono (by decide)) rfl gSp FSp.kp bSp (fun σ => passAt (takes_of rfl rfl rfl rfl) σ) (pa_cons (pv 0) (pa_cons (pv 1) pa_nil))) (pg_tup (by rfl) (pgs_cons (pg_name (i := 2) scPNumberOf.nd rfl (.inl rfl)) (pgs_cons (pg_name (i := 3) scPNumberOf.nd rfl (.inl rfl)) pgs_nil))))
      (pss_cons (ps_if (pt_cmpR op_eq (pv 2) (pv 3) (nomark _))
      (pss_one (ps_ret pe_non))
      pss_nil)
      (pss_cons (ps_set (i := 4) scPNumberOf.nd rfl (.inr rfl) (pe_call DPEndings.ok (hr.mono (by decide)) (by rfl) DPEndings.g DPEndings.F.kp DPEndings.b .nil pass0 (pa_cons (pv 0) pa_nil)))
      (pss_cons (ps_set (i := 5) scPNumberOf.nd rfl (.inr rfl) (pe_call DPLengths.ok (hr.mono (by decide)) (by rfl) DPLengths.g DPLengths.F.kp DPLengths.b .nil pass0 (pa_cons (pv 0) pa_nil)))
      (pss_cons (ps_set (i := 6) scPNumberOf.nd rfl (.inl rfl) (pe_callB (cr_sum rfl) (by rfl) T.sum (by decide +kernel) (pa_cons (pe_lc (own := [("number", 7)]) (g := gName 7) (by rfl) scPNumberOf.nd (pi_range1 (by rfl) T.range (pa_cons (pv 2) pa_nil)) (blkOk_by (N := ["library", "word", "first", "behind", "order", "common_lengths", "ahead", "number"]) (sc := defScope sPNumberOf) (by decide +kernel)) (fun _ _ _ _ _ => pg_name (i := 7) scPNumberOf.nd rfl (.inl rfl)) (fun _ _ _ _ _ => pts_nil) (fun _ _ _ _ _ => (pe_op op_sub (pe_callB call_lenZ (by rfl) T.len PySem.boot_len (pa_cons (pe_call DPEnding.ok (hr.mono (by decide)) (by rfl) DPEnding.g DPEnding.F.kp DPEnding.b .nil pass0 (pa_cons (pv 0) (pa_cons (pe_ix (r := rIxL K) ix_list (pv 4) (pv 7) (fun _ _ => rfl)) pa_nil))) pa_nil)) (pe_ix (r := rIxL K) ix_list (pv 5) (pv 7) (fun _ _ => rfl))))) pa_nil)))
      (pss_one (ps_ret (pe_op op_sub (pe_op op_sub (pe_op op_add (pv 6) (pe_callB call_lenZ (by rfl) T.len PySem.boot_len (pa_cons (pv 1) pa_nil))) (pe_ix ix_list (pv 5) (pv 2) (fun _ _ => rfl))) pe_int)))))))), ?_⟩
    obtain ⟨s, y, ts, rfl, hl, hy, qb, q⟩ := h
    refine ⟨.ref s, rfl, y, rfl, s, y, ts, rfl, hl, hy, qb, fun z e hw b H0 k0 hb => ?_⟩
    subst e
    have q := q z rfl hw
    have nz : cod z ≠ [] := fun e => by
      have := hw.pos
      rw [len_S] at this
      have e : z.cps.toList = [] := e
      rw [e] at this
      exact absurd this (by simp)
    refine ⟨b, _, rfl, SqT.of hb, rfl, _, _, rfl, _, _, rfl, rfl, ?_⟩
    refine ⟨_, rfl, _, rfl, rfl, _, rfl, ite2 (fun c => ?_) (fun c => ?_)⟩
    · rw [dec_int] at c
      have c1 : ((nLt ts z : Nat) : Int) = ((nLt ts z + nBeg ts z : Nat) : Int) := of_decide_eq_true c
      have e0 : ¬ z ∈ due ts := fun h => by
        have := (due_w nz).mp h
        omega
      exact q _ _ k0
    · rw [dec_int] at c
      have c1 : ¬ ((nLt ts z : Nat) : Int) = ((nLt ts z + nBeg ts z : Nat) : Int) := fun h => c (decide_eq_true h)
      have pos : 0 < nBeg ts z := by omega
      obtain ⟨d1, d2, d3⟩ := due_no nz pos
      have ol : nP ts ≤ 1600 := ord_len hl.len hl.few
      dsimp only [tNext, tDrop]
      refine ⟨.ref s, rfl, s, ts, rfl, hl.same k0, fun A H1 k1 nA ⟨vs, hA, hv⟩ => ?_⟩
      have k01 := k0.trans k1
      refine ⟨.ref s, rfl, s, ts, rfl, hl.same k01, fun B H2 k2 nB hB => ?_⟩
      have k02 := k01.trans k2
      refine ⟨_, rfl, _, rfl, by omega, by omega, fun D nD => lc_range (fun i H' => Same H2 H' ∧ H' D = some (.lst (((List.range i).map fun i => (((sOf ts i).length : Nat) : Int) - ((ln (sOf ts) i : Nat) : Int)).map V.int))) ⟨Same.new nD, upd_same⟩ ?_ ?_⟩
      · rintro i H3 hi ⟨k3, hD⟩
        have hi2 : i < nLt ts z := by omega
        have hi3 : i < nP ts := by omega
        obtain ⟨p, ip, ep, es⟩ := sOf_in hi3
        obtain ⟨y, ey, ry⟩ := hv.of_at ep
        have k23 := k2.trans k3
        have ls := sfx_len2 hl.len p
        have e0 : (0 + (i : Int)) = (i : Nat) := by omega
        rw [e0]
        refine ⟨rfl, .ref s, rfl, .ref A, rfl, _, rfl, A, _, _, _, rfl, rfl, sq_of (k23 _ _ hA), atI_nat ey, s, ts, y, p, rfl, hl.same (k01.trans k23), ry.same k23, ip, _, rfl, len5 (by omega), .ref B, rfl, _, rfl, B, _, _, _, rfl, rfl, sq_of (k3 _ _ hB), atI_nat (by rw [List.getElem?_map, lens_at hi3]; rfl), _, _, rfl, rfl, _, hD, ?_, sameAt k3 nD, ?_⟩
        · rw [List.length_map, List.length_map, List.length_range]
          have := ord_len hl.len hl.few
          have h3 : sizeLine = 16777216 := sizeLine_eq
          omega
        · rw [upd_same, List.range_succ, List.map_append, List.map_append]
          rw [len_S (sfx ts p)]
          simp only [List.map_cons, List.map_nil]
          rw [es]
      · rintro H3 ⟨k3, hD⟩
        have et : (((nLt ts z : Nat) : Int)).toNat = nLt ts z := by omega
        rw [et] at hD
        refine ⟨D, _, rfl, sq_of hD, ?_⟩
        rw [part_sum ts _ (Nat.le_of_lt d1)]
        refine ⟨_, rfl, _, rfl, _, rfl, len5 hw.few, _, _, rfl, rfl, .ref B, rfl, _, rfl, B, _, _, _, rfl, rfl, sq_of (k3 _ _ hB), atI_nat (by rw [List.getElem?_map, lens_at d1]; rfl), _, _, rfl, rfl, _, _, rfl, rfl, ?_⟩
        have e5 : (((pcs (sOf ts) (nLt ts z)).length : Nat) : Int) + ((z.length : Nat) : Int) - ((ln (sOf ts) (nLt ts z) : Nat) : Int) - 1 = (((pcs (sOf ts) (nLt ts z)).length + (z.length - ln (sOf ts) (nLt ts z) - 1) : Nat) : Int) := by omega
        exact q _ _ (k02.trans k3)
theorem okr_PManyLong {f : Addr} {fd : FuncData} (F : Fun K "many_long" "many_long" sPManyLong f fd) (L : LibC K mg C fI fdI) {tM : Tok} (gM : mg "MOST_SIGNS" = some (.int 2000 tM)) (ENoNumber : Cls0 P K mg PE "NoNumber" cN) {fPNumber : Addr} {fdPNumber : FuncData} (DPNumber : Dk P w K mg base "is_number" sPNumber ["thing"] 1 spNum fPNumber fdPNumber) (T : Glob mg) : FnOk P w K mg base (L2.CX P w) 2 f fd ["library", "many"] (spRMany C cN) := by
  obtain ⟨fN, SNoNumber⟩ := ENoNumber.sup
  refine F.okX scPManyLong (fun vs H Q E h => ?_) (fun cdv A outer s H vs Q E hr h => ?_)
  · obtain ⟨s, x, k, ts, rfl, _⟩ := h
    rfl
  · refine ⟨_, (pss_cons (ps_if (PW.pt (pw_or (pt_not (pt_val (pe_call DPNumber.ok (hr.mono (by decide)) (by rfl) DPNumber.g DPNumber.F.kp DPNumber.b .nil pass0 (pa_cons (pv 1) pa_nil)))) (pw_or (pt_cmpR op_lt (pv 1) pe_int (nomark _)) (pw_or1 (pt_cmpR op_gt (pv 1) (pe_glob (v := .int 2000) (by rfl) gM ⟨_, rfl⟩) (nomark _))))))
      (pss_one (ps_raise rfl (takes_of rfl rfl rfl rfl) (pmk_exc0 SNoNumber hr (by rfl) ENoNumber.g)))
      pss_nil)
      (pss_one (ps_ret (pe_callB cr_lenSx (by rfl) T.len PySem.boot_len (pa_cons (pe_sc2 (own := [("text", 2), ("at", 3)]) (vs1 := [3]) (g := gName 2) (g1 := gName 3) (by rfl) scPManyLong.nd (pi_tup (pe_fld (pv 0) rfl)) (blkOk_by (N := ["library", "many", "text", "at"]) (sc := defScope sPManyLong) (by decide +kernel)) (by decide) (fun _ _ _ => pg_name (i := 2) scPManyLong.nd rfl (.inl rfl)) (fun _ _ _ => pts_nil) (fun _ _ _ => pi_range1 (by rfl) T.range (pa_cons (pe_op op_add (pe_op op_sub (pe_callB call_lenZ (by rfl) T.len PySem.boot_len (pa_cons (pv 2) pa_nil)) (pv 1)) pe_int) pa_nil)) (fun _ _ _ => pg_name (i := 3) scPManyLong.nd rfl (.inl rfl)) (fun _ _ _ => pts_nil) (fun _ _ _ => pe_slice sl_str (pv 2) (po_some (pv 3)) (po_some (pe_op op_add (pv 3) (pv 1))))) pa_nil))))), ?_⟩
    obtain ⟨s, x, k, ts, rfl, hl, hk, qb, q⟩ := h
    obtain ⟨⟨dx, a, h1, h2⟩, few, sg1, len1⟩ := hl
    refine ⟨x, rfl, x, k, rfl, hk, _, rfl, ?_⟩
    cases hn : numV x with
    | false => exact iteT (qb (by cases x with
        | int i =>
          have : decide (0 ≤ i) = false := hn
          show (decide (1 ≤ i) && decide (i ≤ 2000)) = false
          rw [decide_eq_false (show ¬ 1 ≤ i from fun z => by have := of_decide_eq_false this; omega), Bool.false_and]
        | _ => rfl))
    | true =>
    obtain ⟨i, rfl, i0⟩ : ∃ i, x = .int i ∧ 0 ≤ i := by
      cases x with
      | int i => exact ⟨i, rfl, of_decide_eq_true hn⟩
      | _ => exact Bool.noConfusion hn
    obtain ⟨m, rfl⟩ := Int.eq_ofNat_of_zero_le i0
    refine iteF ⟨_, rfl, _, _, rfl, rfl, _, rfl, ite2 (fun c => qb ?_) (fun c1 => ?_)⟩
    · have := of_decide_eq_true c
      show (decide ((1 : Int) ≤ m) && decide ((m : Int) ≤ 2000)) = false
      rw [decide_eq_false (show ¬ (1 : Int) ≤ m by omega), Bool.false_and]
    refine ⟨_, rfl, _, _, rfl, rfl, _, rfl, ite2 (fun c => qb ?_) (fun c2 => ?_)⟩
    · have := of_decide_eq_true c
      show (decide ((1 : Int) ≤ m) && decide ((m : Int) ≤ 2000)) = false
      rw [decide_eq_false (show ¬ (m : Int) ≤ 2000 by omega), Bool.and_false]
    have m1 : 1 ≤ m := by
      have : ¬ (m : Int) < 1 := fun z => c1 (decide_eq_true z)
      omega
    have m2 : m ≤ 2000 := by
      have : ¬ (2000 : Int) < (m : Int) := fun z => c2 (decide_eq_true z)
      omega
    have q := q (by show (decide ((1 : Int) ≤ m) && decide ((m : Int) ≤ 2000)) = true; rw [decide_eq_true (show (1 : Int) ≤ m by omega), decide_eq_true (show (m : Int) ≤ 2000 by omega)]; rfl)
    dsimp only [tNext, tDrop]
    refine ⟨.ref s, rfl, s, C, dx, _, .ref a, rfl, h1, L.cl, L.nt, lk1, a, rfl, ⟨_, SqT.of h2⟩, fun D nD => wk (walk_tup (xs := ts.map V.str)) (fun i H' => Same H H' ∧ ∃ (S : Key → Bool) (l : List Str), H' D = some (SetX P w D S l.length) ∧ l.Nodup ∧ (∀ k, S k = true ↔ ∃ y ∈ l, k = .inr y) ∧ (∀ y, y ∈ l ↔ Mid ts m i y) ∧ l.length ≤ 201 * i) ⟨Same.new nD, _, [], upd_same, List.nodup_nil, fun k => ⟨fun e => (by cases e), fun ⟨y, h, _⟩ => absurd h (by simp)⟩, fun y => ⟨fun h => absurd h (by simp), fun ⟨i, _, h, _⟩ => absurd h (by omega)⟩, Nat.zero_le _⟩ (fun i H' _ w => SqT.of (w.1 _ _ h2)) ?_ ?_⟩
    · rintro i v H1 H1' hi ⟨k1, S, l, hD, nd, hS, hM, hn⟩ ⟨eH, hv⟩
      subst eH
      rw [List.length_map] at hi
      obtain rfl : V.str (tx ts i) = v := Option.some.inj ((tx_at hi).symm.trans hv)
      have ln1 := tx_len len1 i
      refine ⟨rfl, _, rfl, _, rfl, len5 (by omega), _, rfl, _, _, rfl, rfl, _, _, rfl, rfl, _, rfl, by omega, by omega, wk walk_range (fun j H' => Same H H' ∧ ∃ (S : Key → Bool) (l : List Str), H' D = some (SetX P w D S l.length) ∧ l.Nodup ∧ (∀ k, S k = true ↔ ∃ y ∈ l, k = .inr y) ∧ (∀ y, y ∈ l ↔ Mid ts m i y ∨ ∃ j', j' < j ∧ y = cutS (tx ts i) (some ((j' : Nat) : Int)) (some (((j' : Nat) : Int) + (m : Nat)))) ∧ l.length ≤ 201 * i + j) ⟨k1, S, l, hD, nd, hS, fun y => (hM y).trans ⟨.inl, fun h => h.elim id fun ⟨j', h, _⟩ => absurd h (by omega)⟩, hn⟩ (fun _ _ _ _ => trivial) ?_ ?_⟩
      · rintro j y H2 H2' hj ⟨k2, S2, l2, hD2, nd2, hS2, hM2, hn2⟩ ⟨eH, rfl⟩
        subst eH
        have e0 : (0 + (j : Int)) = (j : Nat) := by omega
        dsimp only
        rw [e0]
        obtain ⟨z, ez⟩ : ∃ z, z = cutS (tx ts i) (some ((j : Nat) : Int)) (some (((j : Nat) : Int) + (m : Nat))) := ⟨_, rfl⟩
        refine ⟨rfl, _, rfl, _, rfl, _, rfl, _, rfl, _, rfl, _, _, rfl, rfl, _, rfl, _, rfl, len5 (by omega), .inr z, S2, l2.length, by rw [ez]; rfl, hD2, by show _ < 4096; omega, sameAt k2 nD, (fun k => S2 k || decide (k = .inr z)), if S2 (.inr z) = true then l2 else l2 ++ [z], ?_, ?_, ?_, ?_, ?_⟩
        · rw [upd_same]
          unfold put1
          have e9 : (if S2 (.inr z) = true then l2 else l2 ++ [z]).length = if S2 (.inr z) = true then l2.length else l2.length + 1 := by split <;> simp
          rw [e9]
          rfl
        · split
          · exact nd2
          · rename_i c
            refine List.nodup_append.mpr ⟨nd2, List.pairwise_singleton _ z, fun a ha b hb e => c ((hS2 _).mpr ⟨a, ha, ?_⟩)⟩
            rw [e, List.mem_singleton.mp hb]
        · intro k
          rw [Bool.or_eq_true, decide_eq_true_eq, hS2 k]
          constructor
          · rintro (⟨y, hy, rfl⟩ | rfl)
            · exact ⟨y, by split <;> first | exact hy | exact List.mem_append_left _ hy, rfl⟩
            · refine ⟨z, ?_, rfl⟩
              split
              · rename_i c
                obtain ⟨y, hy, e⟩ := (hS2 _).mp c
                rw [Sum.inr.inj e]
                exact hy
              · exact List.mem_append_right _ (by simp)
          · rintro ⟨y, hy, rfl⟩
            split at hy
            · exact .inl ⟨y, hy, rfl⟩
            · rcases List.mem_append.mp hy with h | h
              · exact .inl ⟨y, h, rfl⟩
              · exact .inr (by rw [List.mem_singleton.mp h])
        · intro y
          have e8 : y ∈ (if S2 (.inr z) = true then l2 else l2 ++ [z]) ↔ y ∈ l2 ∨ y = z := by
            split
            · rename_i c
              refine ⟨.inl, fun h => h.elim id fun e => ?_⟩
              obtain ⟨u, hu, e2⟩ := (hS2 _).mp c
              rw [e, Sum.inr.inj e2]
              exact hu
            · rw [List.mem_append, List.mem_singleton]
          rw [e8, hM2 y]
          constructor
          · rintro ((h | ⟨j', h1, h2⟩) | h)
            · exact .inl h
            · exact .inr ⟨j', by omega, h2⟩
            · exact .inr ⟨j, by omega, by rw [h, ez]⟩
          · rintro (h | ⟨j', h1, h2⟩)
            · exact .inl (.inl h)
            · rcases Nat.lt_or_ge j' j with c | c
              · exact .inl (.inr ⟨j', c, h2⟩)
              · exact .inr (by rw [h2, ez, show j' = j by omega])
        · split
          · omega
          · rw [List.length_append]
            show _ + 1 ≤ _
            omega
      · rintro H2 ⟨k2, S2, l2, hD2, nd2, hS2, hM2, hn2⟩
        refine ⟨k2, S2, l2, hD2, nd2, hS2, fun y => (hM2 y).trans ?_, by omega⟩
        constructor
        · rintro (⟨i', j', a1, a2, a3⟩ | ⟨j', a1, a2⟩)
          · exact ⟨i', j', by omega, a2, a3⟩
          · exact ⟨i, j', by omega, by omega, a2⟩
        · rintro ⟨i', j', a1, a2, a3⟩
          rcases Nat.lt_or_ge i' i with c | c
          · exact .inl ⟨i', j', c, a2, a3⟩
          · obtain rfl : i' = i := by omega
            exact .inr ⟨j', by omega, a3⟩
    · rintro H1 ⟨k1, S, l, hD, nd, hS, hM, hn⟩
      rw [List.length_map] at hM
      exact ⟨D, S, l.length, rfl, hD, q _ _ k1⟩
theorem okr_PNumbered {f : Addr} {fd : FuncData} (F : Fun K "piece_numbered" "piece_numbered" sPNumbered f fd) (ENoNumber : Cls0 P K mg PE "NoNumber" cN) {fPEndings : Addr} {fdPEndings : FuncData} (DPEndings : Dk P w K mg base "endings" sPEndings ["library"] 2 (spEndings C) fPEndings fdPEndings) {fPEnding : Addr} {fdPEnding : FuncData} (DPEnding : Dk P w K mg base "ending" sPEnding ["library", "place"] 3 (spEnding C) fPEnding fdPEnding) {fPLengths : Addr} {fdPLengths : FuncData} (DPLengths : Dk P w K mg base "lengths" sPLengths ["library"] 5 (spLengths C) fPLengths fdPLengths) {fPNumber : Addr} {fdPNumber : FuncData} (DPNumber : Dk P w K mg base "is_number" sPNumber ["thing"] 1 spNum fPNumber fdPNumber) (T : Glob mg) : FnOk P w K mg base (L2.CX P w) 6 f fd ["library", "number"] (spRPiece C cN) := by
  obtain ⟨fN, SNoNumber⟩ := ENoNumber.sup
  refine F.okX scPNumbered (fun vs H Q E h => ?_) (fun cdv A outer s H vs Q E hr h => ?_)
  · obtain ⟨s, x, k, ts, rfl, _⟩ := h
    rfl
  · refine ⟨_, (pss_cons (ps_if (pt_not (pt_val (pe_call DPNumber.ok (hr.mono (by decide)) (by rfl) DPNumber.g DPNumber.F.kp DPNumber.b .nil pass0 (pa_cons (pv 1) pa_nil))))
      (pss_one (ps_raise rfl (takes_of rfl rfl rfl rfl) (pmk_exc0 SNoNumber hr (by rfl) ENoNumber.g)))
      pss_nil)
      (pss_cons (ps_set (i := 2) scPNumbered.nd rfl (.inl rfl) (pv 1))
      (pss_cons (ps_for (passes_of rfl) rfl (RZ.pi_zipA (by rfl) T.zip (pa_cons (pe_call DPEndings.ok (hr.mono (by decide)) (by rfl) DPEndings.g DPEndings.F.kp DPEndings.b .nil pass0 (pa_cons (pv 0) pa_nil)) (pa_cons (pe_call DPLengths.ok (hr.mono (by decide)) (by rfl) DPLengths.g DPLengths.F.kp DPLengths.b .nil pass0 (pa_cons (pv 0) pa_nil)) pa_nil))) (pg_tup (by rfl) (pgs_cons (pg_name (i := 3) scPNumbered.nd rfl (.inl rfl)) (pgs_cons (pg_name (i := 4) scPNumbered.nd rfl (.inl rfl)) pgs_nil)))
      (pss_cons (ps_set (i := 5) scPNumbered.nd rfl (.inl rfl) (pe_call DPEnding.ok (hr.mono (by decide)) (by rfl) DPEnding.g DPEnding.F.kp DPEnding.b .nil pass0 (pa_cons (pv 0) (pa_cons (pv 3) pa_nil))))
        (pss_cons (ps_if (pt_cmpR op_lt (pv 2) (pe_op op_sub (pe_callB call_lenZ (by rfl) T.len PySem.boot_len (pa_cons (pv 5) pa_nil)) (pv 4)) (nomark _))
        (pss_one (ps_ret (pe_slice sl_str (pv 5) po_none (po_some (pe_op op_add (pe_op op_add (pv 4) (pv 2)) pe_int)))))
        pss_nil)
        (pss_one (ps_aug (i := 2) scPNumbered.nd rfl (.inl rfl) (pe_op op_sub (pe_callB call_lenZ (by rfl) T.len PySem.boot_len (pa_cons (pv 5) pa_nil)) (pv 4)) ip_sub)))))
      (pss_one (ps_raise rfl (takes_of rfl rfl rfl rfl) (pmk_exc0 SNoNumber hr (by rfl) ENoNumber.g)))))), ?_⟩
    obtain ⟨s, x, k, ts, rfl, hl, hk, qb, q⟩ := h
    refine ⟨x, rfl, x, k, rfl, hk, _, rfl, ?_⟩
    cases hn : numV x with
    | false => exact iteT (qb (by cases x with
        | int i =>
          have : decide (0 ≤ i) = false := hn
          show (decide (0 ≤ i) && decide (i < ((due ts).length : Nat))) = false
          rw [this, Bool.false_and]
        | _ => rfl) H (Same.refl H))
    | true =>
    obtain ⟨i, rfl, i0⟩ : ∃ i, x = .int i ∧ 0 ≤ i := by
      cases x with
      | int i => exact ⟨i, rfl, of_decide_eq_true hn⟩
      | _ => exact Bool.noConfusion hn
    obtain ⟨m, rfl⟩ := Int.eq_ofNat_of_zero_le i0
    refine iteF ?_
    have dlen : (due ts).length = (pcs (sOf ts) (nP ts)).length := by unfold due; rw [List.length_map]
    refine ⟨_, rfl, .ref s, rfl, s, ts, rfl, hl, fun A H1 k1 nA ⟨vs, hA, hv⟩ => ?_⟩
    refine ⟨.ref s, rfl, s, ts, rfl, hl.same k1, fun B H2 k2 nB hB => ?_⟩
    have k12 := k1.trans k2
    have lv := hv.len
    refine ⟨A, B, _, _, rfl, .inl ⟨sq_of (k2 _ _ hA), sq_of hB, for_it (walk_zip (K := K) (a := A) (b := B) (xs := vs) (ys := (lensOf ts).map iN) (n := nP ts) (by rw [List.length_map, lens_len, lv]; exact (Nat.min_self _).symm)) (fun i σ H' => ∃ (x y u : Option V) (r : Nat), σ = [some (.ref s), some (iN m), some (iN r), x, y, u] ∧ Same H2 H' ∧ m = (pcs (sOf ts) i).length + r) ⟨_, _, _, m, rfl, Same.refl H2, by show m = 0 + m; omega⟩ (fun i σ H' _ ⟨_, _, _, _, _, w, _⟩ => ⟨sq_of (w _ _ (k2 _ _ hA)), sq_of (w _ _ hB)⟩) ?_ ?_⟩⟩
    · rintro i v σ H3 H4 hi ⟨x, y, u, r, rfl, k3, em⟩ ⟨t, y1, y2, rfl, nt, rfl, e1, e2⟩
      have e1 : vs[i]? = some y1 := e1
      have e2 : ((lensOf ts).map iN)[i]? = some y2 := e2
      rw [List.getElem?_map, lens_at hi] at e2
      obtain rfl : iN (ln (sOf ts) i) = y2 := Option.some.inj e2
      obtain ⟨p, ep, rp⟩ := hv.at e1
      have ip := ord_mem.mp (List.mem_of_getElem? ep)
      have kt := Same.new (H := H3) (o := .tup [y1, iN (ln (sOf ts) i)]) nt
      have kk := (k2.trans k3).trans kt
      have ls := sfx_len2 hl.len p
      have ll := ln_le2 ep
      have e9 := due_few ep
      refine ⟨t, [y1, iN (ln (sOf ts) i)], rfl, SqT.of upd_same, rfl, y1, [iN (ln (sOf ts) i)], rfl, iN (ln (sOf ts) i), [], rfl, rfl, ?_⟩
      refine ⟨.ref s, rfl, y1, rfl, s, ts, y1, p, rfl, hl.same (k1.trans kk), rp.same kk, ip, ?_⟩
      refine ⟨_, rfl, _, rfl, _, rfl, len5 (by omega), _, rfl, _, _, rfl, rfl, _, _, rfl, rfl, _, rfl, ite2 (fun c => ?_) (fun c => ?_)⟩
      · have c1 : (r : Int) < ((sfx ts p).length : Nat) - (ln (sOf ts) i : Nat) := of_decide_eq_true c
        have pre := (pcs_pre (sOf ts) (show i + 1 ≤ nP ts from hi)).length_le
        have q := q (by show (decide ((0 : Int) ≤ m) && decide ((m : Int) < ((due ts).length : Nat))) = true; rw [decide_eq_true (show (0 : Int) ≤ m by omega), decide_eq_true (show (m : Int) < ((due ts).length : Nat) by omega)]; rfl)
        exact ⟨_, rfl, _, rfl, _, rfl, _, _, rfl, rfl, _, _, rfl, rfl, _, rfl, _, rfl, len5 (by omega), q _ _ (k1.trans kk)⟩
      · have c1 : ¬ (r : Int) < ((sfx ts p).length : Nat) - (ln (sOf ts) i : Nat) := fun z => c (decide_eq_true z)
        dsimp only [tNext, tDrop]
        refine ⟨_, rfl, _, rfl, _, rfl, len5 (by omega), _, rfl, _, _, rfl, rfl, _, _, rfl, rfl, ?_⟩
        refine ⟨some y1, some (iN (ln (sOf ts) i)), some (.str (sfx ts p)), r - ((sfx ts p).length - ln (sOf ts) i), ?_, k3.trans kt, by omega⟩
        have e8 : (r : Int) - (((sfx ts p).length : Nat) - (ln (sOf ts) i : Nat)) = ((r - ((sfx ts p).length - ln (sOf ts) i) : Nat) : Int) := by omega
        dsimp only
        rw [e8]
        rfl
    · rintro σ H3 ⟨x, y, u, r, rfl, k3, em⟩
      exact qb (by show (decide ((0 : Int) ≤ m) && decide ((m : Int) < ((due ts).length : Nat))) = false; rw [decide_eq_false (show ¬ (m : Int) < ((due ts).length : Nat) by omega), Bool.and_false]) _ (k12.trans k3)
abbrev sPIsGap : Stmt := topS 32
theorem scPIsGap : FnScope ["library", "word", "thing", "right", "part"] ["library", "word", "thing"] (defScope sPIsGap) := ⟨rfl, rfl, rfl, by decide +kernel, rfl, by decide +kernel, by decide +kernel⟩
theorem ok_PIsGap {f : Addr} {fd : FuncData} (F : Fun K "is_gap" "is_gap" sPIsGap f fd)  {fPPlace : Addr} {fdPPlace : FuncData} (DPPlace : Dk P w K mg base "is_place" sPPlace ["library", "thing"] 2 (spPPlaceG C) fPPlace fdPPlace) {fPGap : Addr} {fdPGap : FuncData} (FGa : Fun K "gap" "gap" sPGap fPGap fdPGap) (bGa : Binds K fdPGap ["library", "word"] []) (gGa : mg "gap" = some (.ref fPGap)) (GGa : FnOk P w K mg base (L2.CX P w) 6 fPGap fdPGap ["library", "word"] (spRAny C cW)) (T : Glob mg) : FnOk P w K mg base (L2.CX P w) 7 f fd ["library", "word", "thing"] (spRIsGap C cW) := by
  refine F.okX scPIsGap (fun vs H Q E h => ?_) (fun cdv A outer s H vs Q E hr h => ?_)
  · obtain ⟨s, y, x, ts, rfl, _⟩ := h
    rfl
  · refine ⟨_, (pss_cons (ps_set (i := 3) scPIsGap.nd rfl (.inl rfl) (pe_callS GGa (hr.mono (by decide)) rfl gGa FGa.kp bGa (fun σ => passAt (takes_of rfl rfl rfl rfl) σ) (pa_cons (pv 0) (pa_cons (pv 1) pa_nil))))
      (pss_cons (ps_if (pt_not (pt_val (pe_callB call_isi (by rfl) T.isinstance PyProof.Rows.boot_isinstance (pa_cons (pv 2) (pa_cons (pe_bltn (v := .ty "tuple") (by rfl) T.tuple (by decide +kernel) rfl) pa_nil)))))
      (pss_one (ps_ret pe_bl))
      pss_nil)
      (pss_one (ps_ret (pe_and (pe_callB (cr_all rfl) (by rfl) T.all (by decide +kernel) (pa_cons (pe_lc (own := [("part", 4)]) (g := gName 4) (by rfl) scPIsGap.nd (pi_tup (pv 2)) (blkOk_by (N := ["library", "word", "thing", "right", "part"]) (sc := defScope sPIsGap) (by decide +kernel)) (fun _ _ _ _ _ => pg_name (i := 4) scPIsGap.nd rfl (.inl rfl)) (fun _ _ _ _ _ => pts_nil) (fun _ _ _ _ _ => (pe_or (pe_cmpR op_isN (pv 4) pe_non (nomark _)) (pe_one (pe_call DPPlace.ok (hr.mono (by decide)) (by rfl) DPPlace.g DPPlace.F.kp DPPlace.b .nil pass0 (pa_cons (pv 0) (pa_cons (pv 4) pa_nil))))))) pa_nil)) (pe_one pe_dead)))))), ?_⟩
    obtain ⟨s, y, x, ts, rfl, hl, hy, hx, qb, q⟩ := h
    refine ⟨.ref s, rfl, y, rfl, s, y, ts, rfl, hl, hy, qb, fun z e hw v H1 k1 => ?_⟩
    have q := q z e hw
    rcases hx.same k1 with ⟨n, hk, ne⟩ | ⟨a, xs, os, rfl, ha, few, hxs, i0, y0, o0, e1, e2, ny, pv0⟩
    · exact ⟨x, rfl, x, .ty "tuple", .type (Kn.name n), .type "tuple", false, rfl, .ty _, Kd.tyx hk, kit_no ne, _, rfl, iteT (q _ H1 k1)⟩
    · refine ⟨.ref a, rfl, .ref a, .ty "tuple", .type (Kn.name .tup), .type "tuple", kitB .tup .tup, rfl, .ty _, Kd.tyx (.tup ha), kit_kn .tup .tup, _, rfl, iteF ?_⟩
      have lx := hxs.len
      have hl1 := hl.same k1
      refine ⟨.ref a, rfl, a, rfl, ⟨_, SqT.of ha⟩, fun D nD => lc_tup (K := K) (xs := xs) (fun i H' => Same H1 H' ∧ ∃ bs : List Bool, H' D = some (.lst (bs.map V.bl)) ∧ bs.length = i ∧ (i0 < i → bs[i0]? = some false)) ⟨Same.new nD, [], upd_same, rfl, fun h => absurd h (by omega)⟩ (fun i H' _ w => SqT.of (w.1 _ _ ha)) ?_ ?_⟩
      · rintro i u H2 hu ⟨k2, bs, hD, lb, hb⟩
        obtain ⟨o1, eo, to⟩ := hxs.at hu
        have hi : i < xs.length := (List.getElem?_eq_some_iff.mp hu).1
        have fin : ∀ b : Bool, (i0 = i → b = false) → ∃ acc, H2 D = some (.lst acc) ∧ acc.length < sizeLine ∧ (Same H1 (upd H2 D (.lst (acc ++ [.bl b]))) ∧ ∃ bs : List Bool, upd H2 D (.lst (acc ++ [.bl b])) D = some (.lst (bs.map V.bl)) ∧ bs.length = i + 1 ∧ (i0 < i + 1 → bs[i0]? = some false)) := fun b hbb => by
          refine ⟨_, hD, by rw [List.length_map, lb, sizeLine_eq]; omega, sameAt k2 nD, bs ++ [b], by rw [upd_same, List.map_append]; rfl, by rw [List.length_append, lb]; rfl, fun h => ?_⟩
          rcases Nat.lt_or_ge i0 i with g | g
          · rw [List.getElem?_append_left (by omega)]
            exact hb g
          · obtain rfl : i0 = i := by omega
            rw [List.getElem?_append_right (by omega), lb, Nat.sub_self, hbb rfl]
            rfl
        refine ⟨rfl, u, rfl, rfl, _, rfl, ?_⟩
        by_cases nu : u = .non
        · rw [decide_eq_true nu]
          refine iteT (fin true fun e => ?_)
          subst e
          rw [hu] at e1
          exact absurd (Option.some.inj e1 ▸ nu) ny
        · rw [decide_eq_false nu]
          refine iteF ⟨.ref s, rfl, u, rfl, s, ts, u, o1, rfl, hl1.same k2, to.same k2, fin _ fun e => ?_⟩
          subst e
          rw [eo] at e2
          rw [Option.some.inj e2]
          exact pv0
      · rintro H2 ⟨k2, bs, hD, lb, hb⟩
        have hi0 : i0 < xs.length := (List.getElem?_eq_some_iff.mp e1).1
        refine ⟨D, bs, rfl, sq_of hD, _, rfl, ?_⟩
        have eb : bs.all id = false := by
          refine Bool.eq_false_iff.mpr fun z => ?_
          have := List.all_eq_true.mp z false (List.mem_of_getElem? (hb hi0))
          cases this
        rw [eb]
        exact iteF (q _ _ (k1.trans k2))
end
end LawK
set_option maxHeartbeats 4000000
namespace LawK
open PySem PySem.Spec PyProof.Rows L2 Ev

def spLDeep : Sp := fun vs H Q _ => ∃ (p : Addr), vs = [.ref p] ∧ ∃ l, HandL H p l ∧ ∀ a k H', Kd H' (.ref a) k → Hn p l H H' → Q (.ref a) H'
def spLNoWord : Sp := fun vs H Q _ => ∃ (p : Addr), vs = [.ref p] ∧ ∃ l, HandL H p l ∧ ∀ y H', Wy H' y → wordV y = false → Hn p l H H' → Q y H'
theorem but_write {q : Addr} {H H1 : Hp} {o o2 : HO} (n : H q = none) (k : Same (upd H q o) H1) : Same H (upd H1 q o2) := fun b u e => by
  have nb : b ≠ q := fun z => by rw [z, n] at e; cases e
  rw [upd_ne nb]
  exact k _ _ (by rw [upd_ne nb]; exact e)
theorem vs_str {z : Str} (h : z.length ≤ 5000) : Vs (.str z) := fun z' e => by cases e; exact h
theorem vs_no {v : V} (h : ∀ z, v ≠ .str z) : Vs v := fun z e => absurd e (h z)
/-- a part that is no tuple of a place -/
def Prt (H : Hp) (ts : List Str) (y : V) : Prop := (∃ k, Kd H y k) ∧ Vs y ∧ ∃ o, Tg H y o ∧ placeV ts o = false
/-- what is no place -/
def Pn (H : Hp) (ts : List Str) (v : V) : Prop := ∃ o, Tg H v o ∧ placeV ts o = false ∧ NoGap H ts v
def spLNoPlace : Sp := fun vs H Q _ => ∃ (p a : Addr) (ts : List Str), vs = [.ref p, .ref a] ∧ TsAt H a ts ∧ ∃ l, HandL H p l ∧ ∀ v H', Pn H' ts v → Hn p l H H' → Q v H'
theorem Wy.but {H H' : Hp} {p l : Addr} {y : V} (h : Wy H y) (h0 : HandL H p l) (h1 : HandL H' p l) (b : But p H H') : Wy H' y := ⟨let ⟨k, q⟩ := h.kd; ⟨k, Kd.but q h0 h1 b⟩, h.vs⟩
theorem Prt.same {H H' : Hp} {ts : List Str} {y : V} (k : Same H H') (h : Prt H ts y) : Prt H' ts y := let ⟨⟨n, h1⟩, h2, o, h3, h4⟩ := h; ⟨⟨n, h1.same k⟩, h2, o, h3.same k, h4⟩
theorem Prt.plain {H : Hp} {ts : List Str} {y : V} {k : Kn} (h : Kd H y k) (n : k ≠ .tup) (s : Vs y) : Prt H ts y := ⟨⟨k, h⟩, s, none, .no h n s, rfl⟩
theorem Prt.int {H : Hp} {ts : List Str} (i : Int) : Prt H ts (.int i) := .plain (.int i) (by decide) (vs_no fun z e => by cases e)
theorem Prt.non {H : Hp} {ts : List Str} : Prt H ts .non := .plain .non (by decide) (vs_no fun z e => by cases e)
theorem Prt.bl {H : Hp} {ts : List Str} (b : Bool) : Prt H ts (.bl b) := .plain (.bl b) (by decide) (vs_no fun z e => by cases e)
theorem Prt.str {H : Hp} {ts : List Str} {z : Str} (h : z.length ≤ 5000) : Prt H ts (.str z) := .plain (.str z) (by decide) (vs_str h)
theorem sc_all {H : Hp} {ts : List Str} : ∀ {xs : List V}, (∀ y ∈ xs, Prt H ts y) → ∃ os, All2 (Tg H) xs os ∧ ∀ (i : Nat) o, os[i]? = some o → placeV ts o = false
  | [], _ => ⟨[], .nil, fun i o e => by cases e⟩
  | x :: xs, h => by
    obtain ⟨os, h1, h2⟩ := sc_all (fun y hy => h y (List.mem_cons_of_mem _ hy))
    obtain ⟨_, _, o, h3, h4⟩ := h x (List.mem_cons_self ..)
    refine ⟨o :: os, .cons h3 h1, fun i o' e => ?_⟩
    cases i with
    | zero => cases e; exact h4
    | succ i => exact h2 i o' e
theorem Pn.plain {H : Hp} {ts : List Str} {y : V} {k : Kn} (h : Kd H y k) (n : k ≠ .tup) (s : Vs y) : Pn H ts y := ⟨none, .no h n s, rfl, .inl ⟨k, h, n⟩⟩
theorem Pn.tup {H : Hp} {ts : List Str} {a : Addr} {xs : List V} (e : H a = some (.tup xs)) (few : xs.length ≤ 30) (h : ∀ y ∈ xs, Prt H ts y) (nn : ∃ y ∈ xs, y ≠ .non) (np : placeV ts (some xs) = false) : Pn H ts (.ref a) := by
  obtain ⟨os, h1, h2⟩ := sc_all h
  refine ⟨some xs, .tup e few fun y hy => ⟨(h y hy).1, (h y hy).2.1⟩, np, .inr ⟨a, xs, os, rfl, e, few, h1, ?_⟩⟩
  obtain ⟨y, hy, ny⟩ := nn
  obtain ⟨i, ei⟩ := List.getElem?_of_mem hy
  obtain ⟨o, eo, _⟩ := h1.at ei
  exact ⟨i, y, o, ei, eo, ny, h2 i o eo⟩
theorem All2.imp_mem {α β : Type} {R S : α → β → Prop} {xs : List α} {ys : List β} (f : ∀ x y, R x y → S x y) (h : All2 R xs ys) : All2 S xs ys := h.imp f
theorem Pn.same {H H' : Hp} {ts : List Str} {v : V} (k : Same H H') (h : Pn H ts v) : Pn H' ts v := let ⟨o, h1, h2, h3⟩ := h; ⟨o, h1.same k, h2, h3.same k⟩
theorem Pn.but {H H' : Hp} {ts : List Str} {p l : Addr} {v : V} (h : Pn H ts v) (h0 : HandL H p l) (h1 : HandL H' p l) (b : But p H H') : Pn H' ts v := by
  obtain ⟨o, g1, g2, g3⟩ := h
  refine ⟨o, Tg.but g1 h0 h1 b, g2, ?_⟩
  rcases g3 with ⟨n, hk, ne⟩ | ⟨a, xs, os, e, ha, few, hx, r⟩
  · exact .inl ⟨n, Kd.but hk h0 h1 b, ne⟩
  · exact .inr ⟨a, xs, os, e, b _ _ (tup_ne h0 ha) ha, few, hx.imp fun _ _ q => Tg.but q h0 h1 b, r⟩
theorem np_2 {ts : List Str} {x y : V} (h : ∀ i, x = .int i → 0 ≤ i → i < ts.length → ∀ j, y = .int j → 0 ≤ j → j < ((ts.getD i.toNat Str.empty).length : Int) → False) : placeV ts (some [x, y]) = false := by
  cases e : placeV ts (some [x, y]) with
  | false => rfl
  | true =>
    obtain ⟨i, j, e1, a1, a2, a3, a4⟩ := place_true e
    simp only [Option.some.injEq, List.cons.injEq, and_true] at e1
    exact absurd (h i e1.1 a1 a2 j e1.2 a3 a4) (fun z => z)
theorem Kd.ref {H : Hp} {x : V} {k : Kn} (h : Kd H x k) : True := trivial
section
variable {P : Program} {w : World} {K : PySem.W.Frag} {mg : Str → Option Value} {base : Heap}
abbrev sDeep : Stmt := topS 40
theorem scDeep : FnScope ["hand", "found", "turn"] ["hand"] (defScope sDeep) := ⟨rfl, rfl, rfl, by decide +kernel, rfl, by decide +kernel, by decide +kernel⟩
theorem ok_Deep {f : Addr} {fd : FuncData} (F : Fun K "_law_deep" "_law_deep" sDeep f fd)  {fDraw : Addr} {fdDraw : FuncData} (DDraw : Dk P w K mg base "_law_draw" sDraw ["hand", "many"] 1 spDraw fDraw fdDraw) (T : Glob mg) : FnOk P w K mg base CX0 2 f fd ["hand"] spLDeep := by
  refine F.ok scDeep (fun vs H Q E h => ?_) (fun cdv A outer s H vs Q E hr h => ?_)
  · obtain ⟨p, rfl, _⟩ := h
    rfl
  · refine ⟨_, (pss_cons (ps_set (i := 1) scDeep.nd rfl (.inl rfl) (pe_ix ix_list (pe_lst (pa_cons pe_non (pa_cons pe_str (pa_cons (pe_un un_neg pe_int) (pa_cons pe_dnewK pa_nil))))) (pe_call DDraw.ok (hr.mono (by decide)) (by rfl) DDraw.g DDraw.F.kp DDraw.b .nil pass0 (pa_cons (pv 0) (pa_cons pe_int pa_nil))) (fun _ _ => rfl)))
      (pss_cons (ps_for PassesOwn.never rfl (pi_range1 (by rfl) T.range (pa_cons (pe_op op_add pe_int (pe_call DDraw.ok (hr.mono (by decide)) (by rfl) DDraw.g DDraw.F.kp DDraw.b .nil pass0 (pa_cons (pv 0) (pa_cons pe_int pa_nil)))) pa_nil)) (pg_name (i := 2) scDeep.nd rfl (.inl rfl))
      (pss_one (ps_set (i := 1) scDeep.nd rfl (.inl rfl) (pe_ix ix_list (pe_lst (pa_cons (pe_tup (pa_cons (pv 1) pa_nil)) (pa_cons (pe_lst (pa_cons (pv 1) pa_nil)) (pa_cons (pe_slice sl_tupM (pe_tup (pa_cons (pv 1) (pa_cons (pv 1) pa_nil))) po_none (po_some pe_int)) (pa_cons (pe_disp (pps_cons pe_int (pv 1) pps_nil) (by rfl) (by rfl) (by simp) (by decide)) pa_nil))))) (pe_call DDraw.ok (hr.mono (by decide)) (by rfl) DDraw.g DDraw.F.kp DDraw.b .nil pass0 (pa_cons (pv 0) (pa_cons pe_int pa_nil))) (fun _ _ => rfl)))))
      (pss_one (ps_ret (pv 1))))), ?_⟩
    obtain ⟨p, rfl, l, hH, q⟩ := h
    refine ⟨_, rfl, fun d nd => ⟨by show 4 ≤ sizeLine; decide, fun a na => ?_⟩⟩
    have k1 := (Same.new (o := .dK []) nd).trans (Same.new (o := .lst [.non, .str "a", .int (-1), .ref d]) na)
    have hA : upd (upd H d (.dK [])) a (.lst [.non, .str "a", .int (-1), .ref d]) a = some (.lst [.non, .str "a", .int (-1), .ref d]) := upd_same
    have hd : upd (upd H d (.dK [])) a (.lst [.non, .str "a", .int (-1), .ref d]) d = some (.dK []) := Same.new na _ _ upd_same
    have n1 := (Hn.refl hH).same k1
    revert n1 hA hd
    generalize upd (upd H d (.dK [])) a (.lst [.non, .str "a", .int (-1), .ref d]) = H1
    intro hA hd n1
    have nap : a ≠ p := hand_ne n1.at_ hA (fun x1 x2 x3 x4 x5 z => by cases z)
    have ndp : d ≠ p := hand_ne n1.at_ hd (fun x1 x2 x3 x4 x5 z => by cases z)
    refine ⟨.ref p, rfl, p, 4, rfl, by decide, by decide, l, n1.at_, fun v H2 v0 v1 h2 b2 => ?_⟩
    have hA2 := b2 _ _ nap hA
    have n2 := n1.go h2 b2
    obtain ⟨x, k, ex, hx⟩ : ∃ x k, atI [V.non, V.str "a", V.int (-1), V.ref d] v = some x ∧ Kd H2 x k := by
      have e4 : v = 0 ∨ v = 1 ∨ v = 2 ∨ v = 3 := by omega
      rcases e4 with rfl | rfl | rfl | rfl
      · exact ⟨_, _, rfl, .non⟩
      · exact ⟨_, _, rfl, .str _⟩
      · exact ⟨_, _, rfl, .int _⟩
      · exact ⟨_, _, rfl, .dic (b2 _ _ ndp hd)⟩
    refine ⟨a, _, v, x, rfl, rfl, sq_of hA2, ex, ?_⟩
    dsimp only [tNext, tDrop]
    refine ⟨.ref p, rfl, p, 30, rfl, by decide, by decide, l, n2.at_, fun m H3 m0 m1 h3 b3 => ?_⟩
    have n3 := n2.go h3 b3
    have hx3 := Kd.but hx h2 h3 b3
    refine ⟨_, _, rfl, rfl, 1 + m, rfl, by omega, by omega, for_range (fun i σ H' => ∃ x u k, σ = [some (.ref p), some x, u] ∧ Kd H' x k ∧ Hn p l H H' ∧ (0 < i → ∃ a, x = .ref a)) ⟨x, _, k, rfl, hx3, n3, fun z => absurd z (by omega)⟩ ?_ ?_⟩
    · rintro i σ H4 hi ⟨x, u, k, rfl, hx, n4, hr⟩
      have s1 : 1 ≤ sizeLine := by decide
      have s2 : 2 ≤ sizeLine := by decide
      refine ⟨x, rfl, s1, fun t1 nt1 => ⟨x, rfl, s1, fun t2 nt2 => ⟨x, rfl, x, rfl, s2, fun t3 nt3 => ?_⟩⟩⟩
      have ka := ((Same.new (o := .tup [x]) nt1).trans (Same.new (o := .lst [x]) nt2)).trans (Same.new (o := .tup [x, x]) nt3)
      refine ⟨_, rfl, t3, [x, x], rfl, upd_same, fun t4 H5 k5 h5 => ?_⟩
      refine fun d2 nd2 => ⟨x, rfl, ?_⟩
      refine ⟨upd_same, [(.inl 0, x)], rfl, by show 1 ≤ 15; decide, ?_⟩
      have kd := but_write (o := .dK []) (o2 := .dK (mergeK [] [(.inl 0, x)])) nd2 (Same.refl _)
      have kall := (ka.trans k5).trans kd
      refine ⟨by show 4 ≤ sizeLine; decide, fun b nb => ?_⟩
      have kb := kall.trans (Same.new (o := .lst [.ref t1, .ref t2, .ref t4, .ref d2]) nb)
      have e1 := ((Same.new (o := .lst [x]) nt2).trans (Same.new (o := .tup [x, x]) nt3)).trans ((k5.trans kd).trans (Same.new (o := .lst [.ref t1, .ref t2, .ref t4, .ref d2]) nb)) _ _ (upd_same (H := H4) (a := t1) (o := .tup [x]))
      have e2 := ((Same.new (o := .tup [x, x]) nt3).trans ((k5.trans kd).trans (Same.new (o := .lst [.ref t1, .ref t2, .ref t4, .ref d2]) nb))) _ _ (upd_same (a := t2) (o := .lst [x]))
      have e3 := (kd.trans (Same.new (o := .lst [.ref t1, .ref t2, .ref t4, .ref d2]) nb)) _ _ h5
      have e4 := (Same.new (o := .lst [.ref t1, .ref t2, .ref t4, .ref d2]) nb) _ _ (upd_same (a := d2) (o := .dK (mergeK [] [(.inl 0, x)])))
      have eb : (upd (upd (upd H5 d2 (.dK [])) d2 (.dK (mergeK [] [(.inl 0, x)]))) b (.lst [.ref t1, .ref t2, .ref t4, .ref d2])) b = some (.lst [.ref t1, .ref t2, .ref t4, .ref d2]) := upd_same
      revert kb e1 e2 e3 e4 eb
      generalize (upd (upd (upd H5 d2 (.dK [])) d2 (.dK (mergeK [] [(.inl 0, x)]))) b (.lst [.ref t1, .ref t2, .ref t4, .ref d2])) = H6
      intro kb e1 e2 e3 e4 eb
      have n6 := n4.same kb
      have nw : ∀ {a : Addr} {o : HO}, H6 a = some o → (∀ x1 x2 x3 x4 x5, o ≠ .lst [x1, x2, x3, x4, x5]) → a ≠ p := fun h n => hand_ne n6.at_ h n
      refine ⟨.ref p, rfl, p, 4, rfl, by decide, by decide, l, n6.at_, fun v H7 v0 v1 h7 b7 => ?_⟩
      have g1 := b7 _ _ (nw e1 (fun x1 x2 x3 x4 x5 z => by cases z)) e1
      have g2 := b7 _ _ (nw e2 (fun x1 x2 x3 x4 x5 z => by cases z)) e2
      have g3 := b7 _ _ (nw e3 (fun x1 x2 x3 x4 x5 z => by cases z)) e3
      have g4 := b7 _ _ (nw e4 (fun x1 x2 x3 x4 x5 z => by cases z)) e4
      have g5 := b7 _ _ (nw eb (fun x1 x2 x3 x4 x5 z => by cases z)) eb
      obtain ⟨y, k, ey, hy⟩ : ∃ y k, atI [V.ref t1, .ref t2, .ref t4, .ref d2] v = some (.ref y) ∧ Kd H7 (.ref y) k := by
        have e4 : v = 0 ∨ v = 1 ∨ v = 2 ∨ v = 3 := by omega
        rcases e4 with rfl | rfl | rfl | rfl
        · exact ⟨_, _, rfl, .tup g1⟩
        · exact ⟨_, _, rfl, .lst g2⟩
        · exact ⟨_, _, rfl, .tup g3⟩
        · exact ⟨_, _, rfl, .dic g4⟩
      exact ⟨b, _, v, .ref y, rfl, rfl, sq_of g5, ey, .ref y, _, k, rfl, hy, n6.go h7 b7, fun _ => ⟨y, rfl⟩⟩
    · rintro σ H4 ⟨x, u, k, rfl, hx, n4, hr⟩
      obtain ⟨a, rfl⟩ := hr (by omega)
      exact ⟨.ref a, rfl, q a k H4 hx n4⟩
abbrev sNoWord : Stmt := topS 49
theorem scNoWord : FnScope ["hand"] ["hand"] (defScope sNoWord) := ⟨rfl, rfl, rfl, by decide +kernel, rfl, by decide +kernel, by decide +kernel⟩
theorem ok_NoWord {f : Addr} {fd : FuncData} (F : Fun K "_law_no_word" "_law_no_word" sNoWord f fd)  {fDraw : Addr} {fdDraw : FuncData} (DDraw : Dk P w K mg base "_law_draw" sDraw ["hand", "many"] 1 spDraw fDraw fdDraw) {fDeep : Addr} {fdDeep : FuncData} (DDeep : Dk P w K mg base "_law_deep" sDeep ["hand"] 2 spLDeep fDeep fdDeep) (T : Glob mg) : FnOk P w K mg base CX0 3 f fd ["hand"] spLNoWord := by
  refine F.ok scNoWord (fun vs H Q E h => ?_) (fun cdv A outer s H vs Q E hr h => ?_)
  · obtain ⟨p, rfl, _⟩ := h
    rfl
  · refine ⟨_, (pss_one (ps_ret (pe_ix ix_list (pe_lst (pa_cons pe_non (pa_cons pe_str (pa_cons pe_int (pa_cons (pe_tup (pa_cons pe_str pa_nil)) (pa_cons (pe_lst (pa_cons pe_str pa_nil)) (pa_cons pe_str (pa_cons pe_bl (pa_cons pe_dnewK (pa_cons pe_str (pa_cons (pe_call DDeep.ok (hr.mono (by decide)) (by rfl) DDeep.g DDeep.F.kp DDeep.b .nil pass0 (pa_cons (pv 0) pa_nil)) pa_nil))))))))))) (pe_call DDraw.ok (hr.mono (by decide)) (by rfl) DDraw.g DDraw.F.kp DDraw.b .nil pass0 (pa_cons (pv 0) (pa_cons pe_int pa_nil))) (fun _ _ => rfl)))), ?_⟩
    obtain ⟨p, rfl, l, hH, q⟩ := h
    have s1 : 1 ≤ sizeLine := by decide
    refine ⟨s1, fun t1 nt1 => ⟨s1, fun t2 nt2 => ?_⟩⟩
    refine fun d nd => ?_
    have k1 := Same.new (o := .tup [.str "a"]) nt1
    have k2 := Same.new (o := .lst [.str "a"]) nt2
    have k3 := Same.new (o := .dK []) nd
    have hd3 : upd (upd (upd H t1 (.tup [.str "a"])) t2 (.lst [.str "a"])) d (.dK []) d = some (.dK []) := upd_same
    have hW1 : Wy _ (.ref t1) := ⟨⟨_, .tup (k3 _ _ (k2 _ _ upd_same))⟩, vs_no fun z e => by cases e⟩
    have hW2 : Wy _ (.ref t2) := ⟨⟨_, .lst (k3 _ _ upd_same)⟩, vs_no fun z e => by cases e⟩
    have hW3 : Wy _ (.ref d) := ⟨⟨_, .dic hd3⟩, vs_no fun z e => by cases e⟩
    have n3 := (Hn.refl hH).same ((k1.trans k2).trans k3)
    refine ⟨.ref p, rfl, p, rfl, l, n3.at_, fun a k H2 hk n2 => ⟨by show 10 ≤ sizeLine; decide, fun b nb => ?_⟩⟩
    have wb : ∀ y ∈ [V.non, .str "", .int 0, .ref t1, .ref t2, .str "a\n", .bl true, .ref d, .str "a\nb", .ref a], Wy H2 y ∧ wordV y = false := by
      have g1 := Wy.but hW1 n3.at_ n2.at_ n2.but
      have g2 := Wy.but hW2 n3.at_ n2.at_ n2.but
      have g3 := Wy.but hW3 n3.at_ n2.at_ n2.but
      intro y hy
      simp only [List.mem_cons, List.not_mem_nil, or_false] at hy
      rcases hy with rfl | rfl | rfl | rfl | rfl | rfl | rfl | rfl | rfl | rfl
      · exact ⟨⟨⟨_, .non⟩, vs_no fun z e => by cases e⟩, rfl⟩
      · exact ⟨⟨⟨_, .str _⟩, vs_str (by decide +kernel)⟩, by decide +kernel⟩
      · exact ⟨⟨⟨_, .int _⟩, vs_no fun z e => by cases e⟩, rfl⟩
      · exact ⟨g1, rfl⟩
      · exact ⟨g2, rfl⟩
      · exact ⟨⟨⟨_, .str _⟩, vs_str (by decide +kernel)⟩, by decide +kernel⟩
      · exact ⟨⟨⟨_, .bl _⟩, vs_no fun z e => by cases e⟩, rfl⟩
      · exact ⟨g3, rfl⟩
      · exact ⟨⟨⟨_, .str _⟩, vs_str (by decide +kernel)⟩, by decide +kernel⟩
      · exact ⟨⟨⟨_, hk⟩, vs_no fun z e => by cases e⟩, rfl⟩
    have kb := Same.new (o := .lst [.non, .str "", .int 0, .ref t1, .ref t2, .str "a\n", .bl true, .ref d, .str "a\nb", .ref a]) nb
    have n4 := (n3.trans n2).same kb
    refine ⟨.ref p, rfl, p, 10, rfl, by decide, by decide, l, n4.at_, fun v H3 v0 v1 h3 b3 => ?_⟩
    obtain ⟨y, ey, my⟩ := atI_in (xs := [V.non, .str "", .int 0, .ref t1, .ref t2, .str "a\n", .bl true, .ref d, .str "a\nb", .ref a]) v0 v1
    have gb := b3 b _ (hand_ne n4.at_ upd_same (fun x1 x2 x3 x4 x5 z => by cases z)) upd_same
    exact ⟨b, _, v, y, rfl, rfl, sq_of gb, ey, q y H3 (Wy.but ((wb y my).1.same kb) n4.at_ h3 b3) (wb y my).2 (n4.go h3 b3)⟩
abbrev sNoPlace : Stmt := topS 48
theorem scNoPlace : FnScope ["hand", "texts", "many", "kind", "number", "long"] ["hand", "texts"] (defScope sNoPlace) := ⟨rfl, rfl, rfl, by decide +kernel, rfl, by decide +kernel, by decide +kernel⟩
theorem ok_NoPlace {f : Addr} {fd : FuncData} (F : Fun K "_law_no_place" "_law_no_place" sNoPlace f fd)  {fDraw : Addr} {fdDraw : FuncData} (DDraw : Dk P w K mg base "_law_draw" sDraw ["hand", "many"] 1 spDraw fDraw fdDraw) (T : Glob mg) : FnOk P w K mg base CX0 2 f fd ["hand", "texts"] spLNoPlace := by
  refine F.ok scNoPlace (fun vs H Q E h => ?_) (fun cdv A outer s H vs Q E hr h => ?_)
  · obtain ⟨p, a, ts, rfl, _⟩ := h
    rfl
  · refine ⟨_, (pss_cons (ps_set (i := 2) scNoPlace.nd rfl (.inl rfl) (pe_callB call_len_seq (by rfl) T.len PySem.boot_len (pa_cons (pv 1) pa_nil)))
      (pss_cons (ps_set (i := 3) scNoPlace.nd rfl (.inl rfl) (pe_call DDraw.ok (hr.mono (by decide)) (by rfl) DDraw.g DDraw.F.kp DDraw.b .nil pass0 (pa_cons (pv 0) (pa_cons pe_int pa_nil))))
      (pss_cons (ps_if (pt_cmpR op_eq (pv 3) pe_int (nomark _))
      (pss_one (ps_ret (pe_ix ix_list (pe_lst (pa_cons pe_non (pa_cons pe_int (pa_cons pe_str (pa_cons (pe_lst (pa_cons pe_int (pa_cons pe_int pa_nil))) (pa_cons (pe_tup (pa_cons pe_int pa_nil)) (pa_cons (pe_tup (pa_cons pe_int (pa_cons pe_int (pa_cons pe_int pa_nil)))) (pa_cons pe_dnewK (pa_cons (pe_tup (pa_cons (pv 2) (pa_cons pe_int pa_nil))) (pa_cons (pe_tup (pa_cons (pe_un un_neg pe_int) (pa_cons pe_int pa_nil))) pa_nil)))))))))) (pe_call DDraw.ok (hr.mono (by decide)) (by rfl) DDraw.g DDraw.F.kp DDraw.b .nil pass0 (pa_cons (pv 0) (pa_cons pe_int pa_nil))) (fun _ _ => rfl))))
      pss_nil)
      (pss_cons (ps_if (PW.pt (pw_or (pt_cmpR op_eq (pv 3) pe_int (nomark _)) (pw_or1 (pt_cmpR op_eq (pv 2) pe_int (nomark _)))))
      (pss_one (ps_ret (pe_ix ix_list (pe_lst (pa_cons (pe_tup (pa_cons (pv 2) (pa_cons pe_int pa_nil))) (pa_cons (pe_tup (pa_cons pe_non (pa_cons pe_int pa_nil))) (pa_cons (pe_tup (pa_cons pe_int (pa_cons pe_non pa_nil))) (pa_cons (pe_tup (pa_cons pe_bl (pa_cons pe_int pa_nil))) (pa_cons (pe_tup (pa_cons pe_int (pa_cons pe_bl pa_nil))) (pa_cons (pe_tup (pa_cons (pe_op op_pow pe_int pe_int) (pa_cons pe_int pa_nil))) (pa_cons (pe_tup (pa_cons (pe_tup (pa_cons pe_int pa_nil)) (pa_cons pe_int pa_nil))) pa_nil)))))))) (pe_call DDraw.ok (hr.mono (by decide)) (by rfl) DDraw.g DDraw.F.kp DDraw.b .nil pass0 (pa_cons (pv 0) (pa_cons pe_int pa_nil))) (fun _ _ => rfl))))
      pss_nil)
      (pss_cons (ps_set (i := 4) scNoPlace.nd rfl (.inl rfl) (pe_call DDraw.ok (hr.mono (by decide)) (by rfl) DDraw.g DDraw.F.kp DDraw.b .nil pass0 (pa_cons (pv 0) (pa_cons (pv 2) pa_nil))))
      (pss_cons (ps_set (i := 5) scNoPlace.nd rfl (.inl rfl) (pe_callB call_lenZ (by rfl) T.len PySem.boot_len (pa_cons (pe_ix ix_tup (pv 1) (pv 4) (fun _ _ => rfl)) pa_nil)))
      (pss_one (ps_ret (pe_tup (pa_cons (pv 4) (pa_cons (pe_ix ix_list (pe_lst (pa_cons (pv 5) (pa_cons (pe_un un_neg pe_int) (pa_cons pe_bl (pa_cons (pe_op op_add (pv 5) pe_int) (pa_cons pe_str (pa_cons (pe_op op_pow pe_int pe_int) pa_nil))))))) (pe_call DDraw.ok (hr.mono (by decide)) (by rfl) DDraw.g DDraw.F.kp DDraw.b .nil pass0 (pa_cons (pv 0) (pa_cons pe_int pa_nil))) (fun _ _ => rfl)) pa_nil))))))))))), ?_⟩
    obtain ⟨p, a, ts, rfl, ht, l, hH, q⟩ := h
    have s1 : 1 ≤ sizeLine := by decide
    have s2 : 2 ≤ sizeLine := by decide
    have s3 : 3 ≤ sizeLine := by decide
    refine ⟨.ref a, rfl, a, _, rfl, .inr (SqT.of ht.at_), ?_⟩
    rw [List.length_map]
    dsimp only [tNext, tDrop]
    refine ⟨.ref p, rfl, p, 4, rfl, by decide, by decide, l, hH, fun kind H1 c0 c1 h1 b1 => ?_⟩
    have n1 := (Hn.refl hH).go h1 b1
    refine ⟨_, rfl, rfl, _, rfl, ite2 (fun c => ?_) (fun c => ?_)⟩
    · refine ⟨s2, fun t1 nt1 => ⟨s1, fun t2 nt2 => ⟨s3, fun t3 nt3 => ?_⟩⟩⟩
      refine fun t4 nt4 => ⟨_, rfl, s2, fun t5 nt5 => ⟨_, rfl, s2, fun t6 nt6 => ⟨by show 9 ≤ sizeLine; decide, fun b nb => ?_⟩⟩⟩
      have k0 := Same.new (o := .lst [.int 0, .int 0]) nt1
      have k1 := Same.new (o := .tup [.int 0]) nt2
      have k2 := Same.new (o := .tup [.int 0, .int 0, .int 0]) nt3
      have k3 := Same.new (o := .dK []) nt4
      have k4 := Same.new (o := .tup [.int (ts.length : Nat), .int 0]) nt5
      have k5 := Same.new (o := .tup [.int (-1), .int 0]) nt6
      have k6 := Same.new (o := .lst [V.non, .int 0, .str "", .ref t1, .ref t2, .ref t3, .ref t4, .ref t5, .ref t6]) nb
      have e0 := (k1.trans (k2.trans (k3.trans (k4.trans (k5.trans (k6)))))) _ _ (upd_same (a := t1) (o := .lst [.int 0, .int 0]))
      have e1 := (k2.trans (k3.trans (k4.trans (k5.trans (k6))))) _ _ (upd_same (a := t2) (o := .tup [.int 0]))
      have e2 := (k3.trans (k4.trans (k5.trans (k6)))) _ _ (upd_same (a := t3) (o := .tup [.int 0, .int 0, .int 0]))
      have e3 := (k4.trans (k5.trans (k6))) _ _ (upd_same (a := t4) (o := .dK []))
      have e4 := (k5.trans (k6)) _ _ (upd_same (a := t5) (o := .tup [.int (ts.length : Nat), .int 0]))
      have e5 := (k6) _ _ (upd_same (a := t6) (o := .tup [.int (-1), .int 0]))
      have kk := k0.trans (k1.trans (k2.trans (k3.trans (k4.trans (k5.trans (k6))))))
      have n9 := n1.same kk
      have hall : ∀ H9 : Hp, H9 t1 = some (.lst [.int 0, .int 0]) → H9 t2 = some (.tup [.int 0]) → H9 t3 = some (.tup [.int 0, .int 0, .int 0]) → H9 t4 = some (.dK []) → H9 t5 = some (.tup [.int (ts.length : Nat), .int 0]) → H9 t6 = some (.tup [.int (-1), .int 0]) →  ∀ y ∈ [V.non, .int 0, .str "", .ref t1, .ref t2, .ref t3, .ref t4, .ref t5, .ref t6], Pn H9 ts y := by
        intro H9 e0 e1 e2 e3 e4 e5 y hy
        simp only [List.mem_cons, List.not_mem_nil, or_false] at hy
        rcases hy with rfl | rfl | rfl | rfl | rfl | rfl | rfl | rfl | rfl
        · exact Pn.plain .non (by decide) (vs_no fun z e => by cases e)
        · exact Pn.plain (.int _) (by decide) (vs_no fun z e => by cases e)
        · exact Pn.plain (.str _) (by decide) (vs_str (by decide +kernel))
        · exact Pn.plain (.lst e0) (by decide) (vs_no fun z e => by cases e)
        · exact Pn.tup e1 (by simp) (by intro y hy; simp only [List.mem_cons, List.not_mem_nil, or_false] at hy; rcases hy with rfl <;> first | exact .int _ | exact .non | exact .bl _) ⟨_, List.mem_cons_self .., fun z => by cases z⟩ rfl
        · exact Pn.tup e2 (by simp) (by intro y hy; simp only [List.mem_cons, List.not_mem_nil, or_false] at hy; rcases hy with rfl | rfl | rfl <;> first | exact .int _ | exact .non | exact .bl _) ⟨_, List.mem_cons_self .., fun z => by cases z⟩ rfl
        · exact Pn.plain (.dic e3) (by decide) (vs_no fun z e => by cases e)
        · exact Pn.tup e4 (by simp) (by intro y hy; simp only [List.mem_cons, List.not_mem_nil, or_false] at hy; rcases hy with rfl | rfl <;> first | exact .int _ | exact .non | exact .bl _) ⟨_, List.mem_cons_self .., fun z => by cases z⟩ (np_2 fun i e a1 a2 j f b1 b2 => by cases e; omega)
        · exact Pn.tup e5 (by simp) (by intro y hy; simp only [List.mem_cons, List.not_mem_nil, or_false] at hy; rcases hy with rfl | rfl <;> first | exact .int _ | exact .non | exact .bl _) ⟨_, List.mem_cons_self .., fun z => by cases z⟩ (np_2 fun i e a1 a2 j f b1 b2 => by cases e; omega)
      refine ⟨.ref p, rfl, p, 9, rfl, by decide, by decide, l, n9.at_, fun v H3 v0 v1 h3 b3 => ?_⟩
      obtain ⟨y, ey, my⟩ := atI_in (xs := [V.non, .int 0, .str "", .ref t1, .ref t2, .ref t3, .ref t4, .ref t5, .ref t6]) v0 v1
      have gb := b3 b _ (hand_ne n9.at_ upd_same (fun x1 x2 x3 x4 x5 z => by cases z)) upd_same
      exact ⟨b, _, v, y, rfl, rfl, sq_of gb, ey, q y H3 (Pn.but (hall _ e0 e1 e2 e3 e4 e5 y my) n9.at_ h3 b3) (n9.go h3 b3)⟩
    · dsimp only [tNext, tDrop]
      refine ⟨_, rfl, rfl, ?_⟩
      refine ⟨_, rfl, ite2 (fun c1 => iteT ?_) (fun c1 => ⟨_, rfl, rfl, _, rfl, ite2 (fun c2 => ?_) (fun c2 => ?_)⟩)⟩
      · refine ⟨_, rfl, s2, fun t1 nt1 => ⟨s2, fun t2 nt2 => ⟨s2, fun t3 nt3 => ⟨s2, fun t4 nt4 => ⟨s2, fun t5 nt5 => ?_⟩⟩⟩⟩⟩
        refine ⟨_, _, rfl, rfl, ⟨by decide, by decide, by decide⟩, s2, fun t6 nt6 => ⟨s1, fun t0 nt0 => ⟨s2, fun t7 nt7 => ⟨by show 7 ≤ sizeLine; decide, fun b nb => ?_⟩⟩⟩⟩
        have k0 := Same.new (o := .tup [.int (ts.length : Nat), .int 0]) nt1
        have k1 := Same.new (o := .tup [.non, .int 0]) nt2
        have k2 := Same.new (o := .tup [.int 0, .non]) nt3
        have k3 := Same.new (o := .tup [.bl true, .int 0]) nt4
        have k4 := Same.new (o := .tup [.int 0, .bl true]) nt5
        have k5 := Same.new (o := .tup [.int (10 ^ (19 : Int).toNat), .int 0]) nt6
        have k6 := Same.new (o := .tup [.int 0]) nt0
        have k7 := Same.new (o := .tup [.ref t0, .int 0]) nt7
        have k8 := Same.new (o := .lst [V.ref t1, .ref t2, .ref t3, .ref t4, .ref t5, .ref t6, .ref t7]) nb
        have e0 := (k1.trans (k2.trans (k3.trans (k4.trans (k5.trans (k6.trans (k7.trans (k8)))))))) _ _ (upd_same (a := t1) (o := .tup [.int (ts.length : Nat), .int 0]))
        have e1 := (k2.trans (k3.trans (k4.trans (k5.trans (k6.trans (k7.trans (k8))))))) _ _ (upd_same (a := t2) (o := .tup [.non, .int 0]))
        have e2 := (k3.trans (k4.trans (k5.trans (k6.trans (k7.trans (k8)))))) _ _ (upd_same (a := t3) (o := .tup [.int 0, .non]))
        have e3 := (k4.trans (k5.trans (k6.trans (k7.trans (k8))))) _ _ (upd_same (a := t4) (o := .tup [.bl true, .int 0]))
        have e4 := (k5.trans (k6.trans (k7.trans (k8)))) _ _ (upd_same (a := t5) (o := .tup [.int 0, .bl true]))
        have e5 := (k6.trans (k7.trans (k8))) _ _ (upd_same (a := t6) (o := .tup [.int (10 ^ (19 : Int).toNat), .int 0]))
        have e6 := (k7.trans (k8)) _ _ (upd_same (a := t0) (o := .tup [.int 0]))
        have e7 := (k8) _ _ (upd_same (a := t7) (o := .tup [.ref t0, .int 0]))
        have kk := k0.trans (k1.trans (k2.trans (k3.trans (k4.trans (k5.trans (k6.trans (k7.trans (k8))))))))
        have n9 := n1.same kk
        have hall : ∀ H9 : Hp, H9 t1 = some (.tup [.int (ts.length : Nat), .int 0]) → H9 t2 = some (.tup [.non, .int 0]) → H9 t3 = some (.tup [.int 0, .non]) → H9 t4 = some (.tup [.bl true, .int 0]) → H9 t5 = some (.tup [.int 0, .bl true]) → H9 t6 = some (.tup [.int (10 ^ (19 : Int).toNat), .int 0]) → H9 t0 = some (.tup [.int 0]) → H9 t7 = some (.tup [.ref t0, .int 0]) →  ∀ y ∈ [V.ref t1, .ref t2, .ref t3, .ref t4, .ref t5, .ref t6, .ref t7], Pn H9 ts y := by
          intro H9 e0 e1 e2 e3 e4 e5 e6 e7 y hy
          simp only [List.mem_cons, List.not_mem_nil, or_false] at hy
          rcases hy with rfl | rfl | rfl | rfl | rfl | rfl | rfl
          · exact Pn.tup e0 (by simp) (by intro y hy; simp only [List.mem_cons, List.not_mem_nil, or_false] at hy; rcases hy with rfl | rfl <;> first | exact .int _ | exact .non | exact .bl _) ⟨_, List.mem_cons_self .., fun z => by cases z⟩ (np_2 fun i e a1 a2 j f b1 b2 => by cases e; omega)
          · exact Pn.tup e1 (by simp) (by intro y hy; simp only [List.mem_cons, List.not_mem_nil, or_false] at hy; rcases hy with rfl | rfl <;> first | exact .int _ | exact .non | exact .bl _) ⟨_, List.mem_cons_of_mem _ (List.mem_cons_self ..), fun z => by cases z⟩ (np_2 fun i e a1 a2 j f b1 b2 => by cases e <;> cases f)
          · exact Pn.tup e2 (by simp) (by intro y hy; simp only [List.mem_cons, List.not_mem_nil, or_false] at hy; rcases hy with rfl | rfl <;> first | exact .int _ | exact .non | exact .bl _) ⟨_, List.mem_cons_self .., fun z => by cases z⟩ (np_2 fun i e a1 a2 j f b1 b2 => by cases e <;> cases f)
          · exact Pn.tup e3 (by simp) (by intro y hy; simp only [List.mem_cons, List.not_mem_nil, or_false] at hy; rcases hy with rfl | rfl <;> first | exact .int _ | exact .non | exact .bl _) ⟨_, List.mem_cons_self .., fun z => by cases z⟩ (np_2 fun i e a1 a2 j f b1 b2 => by cases e <;> cases f)
          · exact Pn.tup e4 (by simp) (by intro y hy; simp only [List.mem_cons, List.not_mem_nil, or_false] at hy; rcases hy with rfl | rfl <;> first | exact .int _ | exact .non | exact .bl _) ⟨_, List.mem_cons_self .., fun z => by cases z⟩ (np_2 fun i e a1 a2 j f b1 b2 => by cases e <;> cases f)
          · exact Pn.tup e5 (by simp) (by intro y hy; simp only [List.mem_cons, List.not_mem_nil, or_false] at hy; rcases hy with rfl | rfl <;> first | exact .int _ | exact .non | exact .bl _) ⟨_, List.mem_cons_self .., fun z => by cases z⟩ (np_2 fun i e a1 a2 j f b1 b2 => by cases e; have := ht.few; have : (10 : Int) ^ (19 : Int).toNat = 10000000000000000000 := (by decide +kernel); omega)
          · exact Pn.tup e7 (by simp) (by intro y hy; simp only [List.mem_cons, List.not_mem_nil, or_false] at hy; rcases hy with rfl | rfl <;> first | exact .int _ | exact ⟨⟨_, .tup e6⟩, (vs_no fun z e => by cases e), _, .tup e6 (by simp) (fun y hy => by simp only [List.mem_cons, List.not_mem_nil, or_false] at hy; subst hy; exact ⟨⟨_, .int _⟩, (vs_no fun z e => by cases e)⟩), rfl⟩) ⟨_, List.mem_cons_of_mem _ (List.mem_cons_self ..), fun z => by cases z⟩ (np_2 fun i e a1 a2 j f b1 b2 => by cases e <;> cases f)
        refine ⟨.ref p, rfl, p, 7, rfl, by decide, by decide, l, n9.at_, fun v H3 v0 v1 h3 b3 => ?_⟩
        obtain ⟨y, ey, my⟩ := atI_in (xs := [V.ref t1, .ref t2, .ref t3, .ref t4, .ref t5, .ref t6, .ref t7]) v0 v1
        have gb := b3 b _ (hand_ne n9.at_ upd_same (fun x1 x2 x3 x4 x5 z => by cases z)) upd_same
        exact ⟨b, _, v, y, rfl, rfl, sq_of gb, ey, q y H3 (Pn.but (hall _ e0 e1 e2 e3 e4 e5 e6 e7 y my) n9.at_ h3 b3) (n9.go h3 b3)⟩
      · refine ⟨_, rfl, s2, fun t1 nt1 => ⟨s2, fun t2 nt2 => ⟨s2, fun t3 nt3 => ⟨s2, fun t4 nt4 => ⟨s2, fun t5 nt5 => ?_⟩⟩⟩⟩⟩
        refine ⟨_, _, rfl, rfl, ⟨by decide, by decide, by decide⟩, s2, fun t6 nt6 => ⟨s1, fun t0 nt0 => ⟨s2, fun t7 nt7 => ⟨by show 7 ≤ sizeLine; decide, fun b nb => ?_⟩⟩⟩⟩
        have k0 := Same.new (o := .tup [.int (ts.length : Nat), .int 0]) nt1
        have k1 := Same.new (o := .tup [.non, .int 0]) nt2
        have k2 := Same.new (o := .tup [.int 0, .non]) nt3
        have k3 := Same.new (o := .tup [.bl true, .int 0]) nt4
        have k4 := Same.new (o := .tup [.int 0, .bl true]) nt5
        have k5 := Same.new (o := .tup [.int (10 ^ (19 : Int).toNat), .int 0]) nt6
        have k6 := Same.new (o := .tup [.int 0]) nt0
        have k7 := Same.new (o := .tup [.ref t0, .int 0]) nt7
        have k8 := Same.new (o := .lst [V.ref t1, .ref t2, .ref t3, .ref t4, .ref t5, .ref t6, .ref t7]) nb
        have e0 := (k1.trans (k2.trans (k3.trans (k4.trans (k5.trans (k6.trans (k7.trans (k8)))))))) _ _ (upd_same (a := t1) (o := .tup [.int (ts.length : Nat), .int 0]))
        have e1 := (k2.trans (k3.trans (k4.trans (k5.trans (k6.trans (k7.trans (k8))))))) _ _ (upd_same (a := t2) (o := .tup [.non, .int 0]))
        have e2 := (k3.trans (k4.trans (k5.trans (k6.trans (k7.trans (k8)))))) _ _ (upd_same (a := t3) (o := .tup [.int 0, .non]))
        have e3 := (k4.trans (k5.trans (k6.trans (k7.trans (k8))))) _ _ (upd_same (a := t4) (o := .tup [.bl true, .int 0]))
        have e4 := (k5.trans (k6.trans (k7.trans (k8)))) _ _ (upd_same (a := t5) (o := .tup [.int 0, .bl true]))
        have e5 := (k6.trans (k7.trans (k8))) _ _ (upd_same (a := t6) (o := .tup [.int (10 ^ (19 : Int).toNat), .int 0]))
        have e6 := (k7.trans (k8)) _ _ (upd_same (a := t0) (o := .tup [.int 0]))
        have e7 := (k8) _ _ (upd_same (a := t7) (o := .tup [.ref t0, .int 0]))
        have kk := k0.trans (k1.trans (k2.trans (k3.trans (k4.trans (k5.trans (k6.trans (k7.trans (k8))))))))
        have n9 := n1.same kk
        have hall : ∀ H9 : Hp, H9 t1 = some (.tup [.int (ts.length : Nat), .int 0]) → H9 t2 = some (.tup [.non, .int 0]) → H9 t3 = some (.tup [.int 0, .non]) → H9 t4 = some (.tup [.bl true, .int 0]) → H9 t5 = some (.tup [.int 0, .bl true]) → H9 t6 = some (.tup [.int (10 ^ (19 : Int).toNat), .int 0]) → H9 t0 = some (.tup [.int 0]) → H9 t7 = some (.tup [.ref t0, .int 0]) →  ∀ y ∈ [V.ref t1, .ref t2, .ref t3, .ref t4, .ref t5, .ref t6, .ref t7], Pn H9 ts y := by
          intro H9 e0 e1 e2 e3 e4 e5 e6 e7 y hy
          simp only [List.mem_cons, List.not_mem_nil, or_false] at hy
          rcases hy with rfl | rfl | rfl | rfl | rfl | rfl | rfl
          · exact Pn.tup e0 (by simp) (by intro y hy; simp only [List.mem_cons, List.not_mem_nil, or_false] at hy; rcases hy with rfl | rfl <;> first | exact .int _ | exact .non | exact .bl _) ⟨_, List.mem_cons_self .., fun z => by cases z⟩ (np_2 fun i e a1 a2 j f b1 b2 => by cases e; omega)
          · exact Pn.tup e1 (by simp) (by intro y hy; simp only [List.mem_cons, List.not_mem_nil, or_false] at hy; rcases hy with rfl | rfl <;> first | exact .int _ | exact .non | exact .bl _) ⟨_, List.mem_cons_of_mem _ (List.mem_cons_self ..), fun z => by cases z⟩ (np_2 fun i e a1 a2 j f b1 b2 => by cases e <;> cases f)
          · exact Pn.tup e2 (by simp) (by intro y hy; simp only [List.mem_cons, List.not_mem_nil, or_false] at hy; rcases hy with rfl | rfl <;> first | exact .int _ | exact .non | exact .bl _) ⟨_, List.mem_cons_self .., fun z => by cases z⟩ (np_2 fun i e a1 a2 j f b1 b2 => by cases e <;> cases f)
          · exact Pn.tup e3 (by simp) (by intro y hy; simp only [List.mem_cons, List.not_mem_nil, or_false] at hy; rcases hy with rfl | rfl <;> first | exact .int _ | exact .non | exact .bl _) ⟨_, List.mem_cons_self .., fun z => by cases z⟩ (np_2 fun i e a1 a2 j f b1 b2 => by cases e <;> cases f)
          · exact Pn.tup e4 (by simp) (by intro y hy; simp only [List.mem_cons, List.not_mem_nil, or_false] at hy; rcases hy with rfl | rfl <;> first | exact .int _ | exact .non | exact .bl _) ⟨_, List.mem_cons_self .., fun z => by cases z⟩ (np_2 fun i e a1 a2 j f b1 b2 => by cases e <;> cases f)
          · exact Pn.tup e5 (by simp) (by intro y hy; simp only [List.mem_cons, List.not_mem_nil, or_false] at hy; rcases hy with rfl | rfl <;> first | exact .int _ | exact .non | exact .bl _) ⟨_, List.mem_cons_self .., fun z => by cases z⟩ (np_2 fun i e a1 a2 j f b1 b2 => by cases e; have := ht.few; have : (10 : Int) ^ (19 : Int).toNat = 10000000000000000000 := (by decide +kernel); omega)
          · exact Pn.tup e7 (by simp) (by intro y hy; simp only [List.mem_cons, List.not_mem_nil, or_false] at hy; rcases hy with rfl | rfl <;> first | exact .int _ | exact ⟨⟨_, .tup e6⟩, (vs_no fun z e => by cases e), _, .tup e6 (by simp) (fun y hy => by simp only [List.mem_cons, List.not_mem_nil, or_false] at hy; subst hy; exact ⟨⟨_, .int _⟩, (vs_no fun z e => by cases e)⟩), rfl⟩) ⟨_, List.mem_cons_of_mem _ (List.mem_cons_self ..), fun z => by cases z⟩ (np_2 fun i e a1 a2 j f b1 b2 => by cases e <;> cases f)
        refine ⟨.ref p, rfl, p, 7, rfl, by decide, by decide, l, n9.at_, fun v H3 v0 v1 h3 b3 => ?_⟩
        obtain ⟨y, ey, my⟩ := atI_in (xs := [V.ref t1, .ref t2, .ref t3, .ref t4, .ref t5, .ref t6, .ref t7]) v0 v1
        have gb := b3 b _ (hand_ne n9.at_ upd_same (fun x1 x2 x3 x4 x5 z => by cases z)) upd_same
        exact ⟨b, _, v, y, rfl, rfl, sq_of gb, ey, q y H3 (Pn.but (hall _ e0 e1 e2 e3 e4 e5 e6 e7 y my) n9.at_ h3 b3) (n9.go h3 b3)⟩
      · have few := ht.few
        have tpos : 0 < ts.length := by
          rw [dec_int] at c2
          have : ¬ ((ts.length : Nat) : Int) = 0 := fun z => c2 (decide_eq_true z)
          omega
        dsimp only [tNext, tDrop]
        refine ⟨.ref p, rfl, _, rfl, p, (ts.length : Nat), rfl, by omega, by omega, l, h1, fun number H2 d0 d1 h2 b2 => ?_⟩
        have n2 := n1.go h2 b2
        obtain ⟨et, mt⟩ := text_at d0 d1
        have ha2 : H2 a = some (.tup (ts.map V.str)) := b2 _ _ (tup_ne h1 (b1 _ _ (tup_ne hH ht.at_) ht.at_)) (b1 _ _ (tup_ne hH ht.at_) ht.at_)
        have lt := ht.len _ mt
        refine ⟨.ref a, rfl, _, rfl, a, _, number, _, rfl, rfl, SqT.of ha2, et, _, rfl, len6 lt, ?_⟩
        dsimp only
        refine ⟨_, rfl, _, rfl, _, rfl, _, rfl, _, _, rfl, rfl, ?_⟩
        refine ⟨_, _, rfl, rfl, ⟨by decide, by decide, by decide⟩, by show 6 ≤ sizeLine; decide, fun b nb => ?_⟩
        have kk := Same.new (o := .lst [V.int ((ts.getD number.toNat Str.empty).length : Int), .int (-1), .bl true, .int (((ts.getD number.toNat Str.empty).length : Int) + 1), .str "0", .int (10 ^ (19 : Int).toNat)]) nb
        have n9 := n2.same kk
        refine ⟨.ref p, rfl, p, 6, rfl, by decide, by decide, l, n9.at_, fun v H3 v0 v1 h3 b3 => ?_⟩
        obtain ⟨y, ey, my⟩ := atI_in (xs := [V.int ((ts.getD number.toNat Str.empty).length : Int), .int (-1), .bl true, .int (((ts.getD number.toNat Str.empty).length : Int) + 1), .str "0", .int (10 ^ (19 : Int).toNat)]) v0 v1
        have gb := b3 b _ (hand_ne n9.at_ upd_same (fun x1 x2 x3 x4 x5 z => by cases z)) upd_same
        have hall : Prt H3 ts y ∧ ∀ j, y = .int j → 0 ≤ j → j < ((ts.getD number.toNat Str.empty).length : Int) → False := by
          have big : (10 : Int) ^ (19 : Int).toNat = 10000000000000000000 := by decide +kernel
          simp only [List.mem_cons, List.not_mem_nil, or_false] at my
          rcases my with rfl | rfl | rfl | rfl | rfl | rfl
          · exact ⟨.int _, fun j e a b => by cases e; omega⟩
          · exact ⟨.int _, fun j e a b => by cases e; omega⟩
          · exact ⟨.bl _, fun j e a b => by cases e⟩
          · exact ⟨.int _, fun j e a b => by cases e; omega⟩
          · exact ⟨.str (by decide +kernel), fun j e a b => by cases e⟩
          · exact ⟨.int _, fun j e a b => by cases e; omega⟩
        refine ⟨b, _, v, y, rfl, rfl, sq_of gb, ey, s2, fun t nt => ?_⟩
        refine q (.ref t) _ (Pn.tup upd_same (by simp) ?_ ⟨_, List.mem_cons_self .., fun z => by cases z⟩ (np_2 fun i e a1 a2 j f c1 c2 => ?_)) ((n9.go h3 b3).same (Same.new nt))
        · intro z hz
          simp only [List.mem_cons, List.not_mem_nil, or_false] at hz
          rcases hz with rfl | rfl
          · exact .int _
          · exact Prt.same (Same.new nt) hall.1
        · cases e
          exact hall.2 j f c1 c2
end
end LawK
set_option maxHeartbeats 4000000
namespace LawK
open PySem PySem.Spec PyProof.Rows L2 Ev

/-- what is asked with a word, and the number of the error that is due -/
inductive AskR (H : Hp) (ts : List Str) : Str → V → V → Nat → Prop
  | a0 {y x : V} (hy : Wy H y) (hx : Pn H ts x) : AskR H ts "places" y x (if wordV y = true then 0 else 1)
  | a1 {y x : V} (hy : Wy H y) (hx : Pn H ts x) : AskR H ts "count" y x (if wordV y = true then 0 else 1)
  | a2 {y x : V} (hy : Wy H y) (hx : Pn H ts x) : AskR H ts "first_place" y x (if wordV y = true then 0 else 1)
  | a3 {y x : V} (hy : Wy H y) (hx : Pn H ts x) : AskR H ts "last_place" y x (if wordV y = true then 0 else 1)
  | a4 {y x : V} (hy : Wy H y) (hx : Pn H ts x) : AskR H ts "texts_with" y x (if wordV y = true then 0 else 1)
  | a5 {y x : V} (hy : Wy H y) (hx : Pn H ts x) : AskR H ts "span" y x (if wordV y = true then 0 else 1)
  | a6 {y x : V} (hy : Wy H y) (hx : Pn H ts x) : AskR H ts "gap" y x (if wordV y = true then 0 else 1)
  | a7 {y x : V} (hy : Wy H y) (hx : Pn H ts x) : AskR H ts "is_gap" y x (if wordV y = true then 0 else 1)
  | a8 {y x : V} (hy : Wy H y) (hx : Pn H ts x) : AskR H ts "number_of" y x (if wordV y = true then 0 else 1)
  | nx {y x : V} {o : Option (List V)} (hy : Wy H y) (hx : Tg H x o) : AskR H ts "next_place" y x (if wordV y = true then (if placeV ts o = true then 0 else 2) else 1)
  | ml {y x : V} {k : Kn} (hy : Kd H y k) : AskR H ts "many_long" y x (if manyV y = true then 0 else 3)
  | pn {y x : V} {k : Kn} (hy : Kd H y k) : AskR H ts "piece_numbered" y x (if pieceV ts y = true then 0 else 3)
def spLCalled (C cW cP cN : Addr) : Sp := fun vs H Q E => ∃ (s : Addr) (z : Str) (y x : V) (ts : List Str) (r : Nat), vs = [.str z, .ref s, y, x] ∧ LibAt H C s ts ∧ AskR H ts z y x r ∧
  (r = 0 → ∀ v H', Same H H' → Q v H') ∧ (r = 1 → ∀ H', Same H H' → E (.ref cW) none H') ∧ (r = 2 → ∀ H', Same H H' → E (.ref cP) none H') ∧ (r = 3 → ∀ H', Same H H' → E (.ref cN) none H')
def errS : Nat → Str
  | 0 => ""
  | 1 => "word"
  | 2 => "place"
  | _ => "number"
def spLError (C : Addr) : Sp := fun vs H Q _ => ∃ (s : Addr) (z : Str) (y x : V) (ts : List Str) (r : Nat), vs = [.str z, .ref s, y, x] ∧ LibAt H C s ts ∧ AskR H ts z y x r ∧ (∀ H', Same H H' → Q (.str (errS r)) H')
theorem wd_to {w : Str} (h : Wd w) : wordV (.str w) = true := by
  show (sgB w && decide ((0 : Int) < (w.length : Int))) = true
  rw [h.sg, decide_eq_true (by have := h.pos; omega)]
  rfl
theorem AskR.lt {H : Hp} {ts : List Str} {z : Str} {y x : V} {r : Nat} (h : AskR H ts z y x r) : r = 0 ∨ r = 1 ∨ r = 2 ∨ r = 3 := by
  cases h <;> repeat' split
  all_goals simp
section
variable {P : Program} {w : World} {K : PySem.W.Frag} {mg : Str → Option Value} {base : Heap}
variable {C fI : Addr} {fdI : FuncData}
variable {PE cW cP cN : Addr}
abbrev sCalled : Stmt := topS 50
theorem scCalled : FnScope ["word", "library", "one", "two"] ["word", "library", "one", "two"] (defScope sCalled) := ⟨rfl, rfl, rfl, by decide +kernel, rfl, by decide +kernel, by decide +kernel⟩
theorem ok_Called {f : Addr} {fd : FuncData} (F : Fun K "_law_called" "_law_called" sCalled f fd)  {fPPlaces : Addr} {fdPPlaces : FuncData} (FPl : Fun K "places" "places" sPPlaces fPPlaces fdPPlaces) (bPl : Binds K fdPPlaces ["library", "word"] []) (gPl : mg "places" = some (.ref fPPlaces)) (GPl : FnOk P w K mg base (L2.CX P w) 3 fPPlaces fdPPlaces ["library", "word"] (spRPlaces C cW)) {fPCount : Addr} {fdPCount : FuncData} (FCo : Fun K "count" "count" sPCount fPCount fdPCount) (bCo : Binds K fdPCount ["library", "word"] []) (gCo : mg "count" = some (.ref fPCount)) (GCo : FnOk P w K mg base (L2.CX P w) 4 fPCount fdPCount ["library", "word"] (spRCount C cW)) {fPFirst : Addr} {fdPFirst : FuncData} (FFi : Fun K "first_place" "first_place" sPFirst fPFirst fdPFirst) (bFi : Binds K fdPFirst ["library", "word"] []) (gFi : mg "first_place" = some (.ref fPFirst)) (GFi : FnOk P w K mg base (L2.CX P w) 4 fPFirst fdPFirst ["library", "word"] (spRAny C cW)) {fPLast : Addr} {fdPLast : FuncData} (FLa : Fun K "last_place" "last_place" sPLast fPLast fdPLast) (bLa : Binds K fdPLast ["library", "word"] []) (gLa : mg "last_place" = some (.ref fPLast)) (GLa : FnOk P w K mg base (L2.CX P w) 4 fPLast fdPLast ["library", "word"] (spRAny C cW)) {fPNext : Addr} {fdPNext : FuncData} (FNe : Fun K "next_place" "next_place" sPNext fPNext fdPNext) (bNe : Binds K fdPNext ["library", "word", "place"] []) (gNe : mg "next_place" = some (.ref fPNext)) (GNe : FnOk P w K mg base (L2.CX P w) 4 fPNext fdPNext ["library", "word", "place"] (spRNext C cW cP)) {fPTextsWith : Addr} {fdPTextsWith : FuncData} (FTw : Fun K "texts_with" "texts_with" sPTextsWith fPTextsWith fdPTextsWith) (bTw : Binds K fdPTextsWith ["library", "word"] []) (gTw : mg "texts_with" = some (.ref fPTextsWith)) (GTw : FnOk P w K mg base (L2.CX P w) 4 fPTextsWith fdPTextsWith ["library", "word"] (spRAny C cW)) {fPSpan : Addr} {fdPSpan : FuncData} (FSp : Fun K "span" "span" sPSpan fPSpan fdPSpan) (bSp : Binds K fdPSpan ["library", "word"] []) (gSp : mg "span" = some (.ref fPSpan)) (GSp : FnOk P w K mg base (L2.CX P w) 5 fPSpan fdPSpan ["library", "word"] (spRSpan C cW)) {fPGap : Addr} {fdPGap : FuncData} (FGa : Fun K "gap" "gap" sPGap fPGap fdPGap) (bGa : Binds K fdPGap ["library", "word"] []) (gGa : mg "gap" = some (.ref fPGap)) (GGa : FnOk P w K mg base (L2.CX P w) 6 fPGap fdPGap ["library", "word"] (spRAny C cW)) {fPIsGap : Addr} {fdPIsGap : FuncData} (FIg : Fun K "is_gap" "is_gap" sPIsGap fPIsGap fdPIsGap) (bIg : Binds K fdPIsGap ["library", "word", "thing"] []) (gIg : mg "is_gap" = some (.ref fPIsGap)) (GIg : FnOk P w K mg base (L2.CX P w) 7 fPIsGap fdPIsGap ["library", "word", "thing"] (spRIsGap C cW)) {fPManyLong : Addr} {fdPManyLong : FuncData} (FMl : Fun K "many_long" "many_long" sPManyLong fPManyLong fdPManyLong) (bMl : Binds K fdPManyLong ["library", "many"] []) (gMl : mg "many_long" = some (.ref fPManyLong)) (GMl : FnOk P w K mg base (L2.CX P w) 2 fPManyLong fdPManyLong ["library", "many"] (spRMany C cN)) {fPNumbered : Addr} {fdPNumbered : FuncData} (FPn : Fun K "piece_numbered" "piece_numbered" sPNumbered fPNumbered fdPNumbered) (bPn : Binds K fdPNumbered ["library", "number"] []) (gPn : mg "piece_numbered" = some (.ref fPNumbered)) (GPn : FnOk P w K mg base (L2.CX P w) 6 fPNumbered fdPNumbered ["library", "number"] (spRPiece C cN)) {fPNumberOf : Addr} {fdPNumberOf : FuncData} (FNo : Fun K "number_of" "number_of" sPNumberOf fPNumberOf fdPNumberOf) (bNo : Binds K fdPNumberOf ["library", "word"] []) (gNo : mg "number_of" = some (.ref fPNumberOf)) (GNo : FnOk P w K mg base (L2.CX P w) 6 fPNumberOf fdPNumberOf ["library", "word"] (spRAny C cW)) (T : Glob mg) : FnOk P w K mg base (L2.CX P w) 8 f fd ["word", "library", "one", "two"] (spLCalled C cW cP cN) := by
  refine F.okX scCalled (fun vs H Q E h => ?_) (fun cdv A outer s H vs Q E hr h => ?_)
  · obtain ⟨s, z, y, x, ts, r, rfl, _⟩ := h
    rfl
  · refine ⟨_, (pss_cons (ps_if (pt_cmpR op_eq (pv 0) pe_str (nomark _))
      (pss_one (ps_ret (pe_callS GPl (hr.mono (by decide)) rfl gPl FPl.kp bPl (fun σ => passAt (takes_of rfl rfl rfl rfl) σ) (pa_cons (pv 1) (pa_cons (pv 2) pa_nil)))))
      pss_nil)
      (pss_cons (ps_if (pt_cmpR op_eq (pv 0) pe_str (nomark _))
      (pss_one (ps_ret (pe_callS GCo (hr.mono (by decide)) rfl gCo FCo.kp bCo (fun σ => passAt (takes_of rfl rfl rfl rfl) σ) (pa_cons (pv 1) (pa_cons (pv 2) pa_nil)))))
      pss_nil)
      (pss_cons (ps_if (pt_cmpR op_eq (pv 0) pe_str (nomark _))
      (pss_one (ps_ret (pe_callS GFi (hr.mono (by decide)) rfl gFi FFi.kp bFi (fun σ => passAt (takes_of rfl rfl rfl rfl) σ) (pa_cons (pv 1) (pa_cons (pv 2) pa_nil)))))
      pss_nil)
      (pss_cons (ps_if (pt_cmpR op_eq (pv 0) pe_str (nomark _))
      (pss_one (ps_ret (pe_callS GLa (hr.mono (by decide)) rfl gLa FLa.kp bLa (fun σ => passAt (takes_of rfl rfl rfl rfl) σ) (pa_cons (pv 1) (pa_cons (pv 2) pa_nil)))))
      pss_nil)
      (pss_cons (ps_if (pt_cmpR op_eq (pv 0) pe_str (nomark _))
      (pss_one (ps_ret (pe_callS GNe (hr.mono (by decide)) rfl gNe FNe.kp bNe (fun σ => passAt (takes_of rfl rfl rfl rfl) σ) (pa_cons (pv 1) (pa_cons (pv 2) (pa_cons (pv 3) pa_nil))))))
      pss_nil)
      (pss_cons (ps_if (pt_cmpR op_eq (pv 0) pe_str (nomark _))
      (pss_one (ps_ret (pe_callS GTw (hr.mono (by decide)) rfl gTw FTw.kp bTw (fun σ => passAt (takes_of rfl rfl rfl rfl) σ) (pa_cons (pv 1) (pa_cons (pv 2) pa_nil)))))
      pss_nil)
      (pss_cons (ps_if (pt_cmpR op_eq (pv 0) pe_str (nomark _))
      (pss_one (ps_ret (pe_callS GSp (hr.mono (by decide)) rfl gSp FSp.kp bSp (fun σ => passAt (takes_of rfl rfl rfl rfl) σ) (pa_cons (pv 1) (pa_cons (pv 2) pa_nil)))))
      pss_nil)
      (pss_cons (ps_if (pt_cmpR op_eq (pv 0) pe_str (nomark _))
      (pss_one (ps_ret (pe_callS GGa (hr.mono (by decide)) rfl gGa FGa.kp bGa (fun σ => passAt (takes_of rfl rfl rfl rfl) σ) (pa_cons (pv 1) (pa_cons (pv 2) pa_nil)))))
      pss_nil)
      (pss_cons (ps_if (pt_cmpR op_eq (pv 0) pe_str (nomark _))
      (pss_one (ps_ret (pe_callS GIg (hr.mono (by decide)) rfl gIg FIg.kp bIg (fun σ => passAt (takes_of rfl rfl rfl rfl) σ) (pa_cons (pv 1) (pa_cons (pv 2) (pa_cons (pv 3) pa_nil))))))
      pss_nil)
      (pss_cons (ps_if (pt_cmpR op_eq (pv 0) pe_str (nomark _))
      (pss_one (ps_ret (pe_callS GNo (hr.mono (by decide)) rfl gNo FNo.kp bNo (fun σ => passAt (takes_of rfl rfl rfl rfl) σ) (pa_cons (pv 1) (pa_cons (pv 2) pa_nil)))))
      pss_nil)
      (pss_cons (ps_if (pt_cmpR op_eq (pv 0) pe_str (nomark _))
      (pss_one (ps_ret (pe_callS GMl (hr.mono (by decide)) rfl gMl FMl.kp bMl (fun σ => passAt (takes_of rfl rfl rfl rfl) σ) (pa_cons (pv 1) (pa_cons (pv 2) pa_nil)))))
      pss_nil)
      (pss_one (ps_ret (pe_callS GPn (hr.mono (by decide)) rfl gPn FPn.kp bPn (fun σ => passAt (takes_of rfl rfl rfl rfl) σ) (pa_cons (pv 1) (pa_cons (pv 2) pa_nil)))))))))))))))), ?_⟩
    obtain ⟨s, z, y, x, ts, r, rfl, hl, ha, q0, q1, q2, q3⟩ := h
    cases ha with
    | a0 hy hx => exact ⟨_, rfl, rfl, _, rfl, seq ⟨.ref s, rfl, y, rfl, s, y, ts, rfl, hl, hy, fun e => q1 (by rw [if_neg (by rw [e]; decide)]) H (Same.refl H), fun w e hw a H' k _ _ => q0 (by rw [e]; exact if_pos (wd_to hw)) _ H' k⟩⟩
    | a1 hy hx => exact ⟨_, rfl, rfl, _, rfl, sne (by decide +kernel) ⟨_, rfl, rfl, _, rfl, seq ⟨.ref s, rfl, y, rfl, s, y, ts, rfl, hl, hy, fun e => q1 (by rw [if_neg (by rw [e]; decide)]) H (Same.refl H), fun w e hw H' k => q0 (by rw [e]; exact if_pos (wd_to hw)) _ H' k⟩⟩⟩
    | a2 hy hx => exact ⟨_, rfl, rfl, _, rfl, sne (by decide +kernel) ⟨_, rfl, rfl, _, rfl, sne (by decide +kernel) ⟨_, rfl, rfl, _, rfl, seq ⟨.ref s, rfl, y, rfl, s, y, ts, rfl, hl, hy, fun e => q1 (by rw [if_neg (by rw [e]; decide)]) H (Same.refl H), fun w e hw v H' k => q0 (by rw [e]; exact if_pos (wd_to hw)) v H' k⟩⟩⟩⟩
    | a3 hy hx => exact ⟨_, rfl, rfl, _, rfl, sne (by decide +kernel) ⟨_, rfl, rfl, _, rfl, sne (by decide +kernel) ⟨_, rfl, rfl, _, rfl, sne (by decide +kernel) ⟨_, rfl, rfl, _, rfl, seq ⟨.ref s, rfl, y, rfl, s, y, ts, rfl, hl, hy, fun e => q1 (by rw [if_neg (by rw [e]; decide)]) H (Same.refl H), fun w e hw v H' k => q0 (by rw [e]; exact if_pos (wd_to hw)) v H' k⟩⟩⟩⟩⟩
    | a4 hy hx => exact ⟨_, rfl, rfl, _, rfl, sne (by decide +kernel) ⟨_, rfl, rfl, _, rfl, sne (by decide +kernel) ⟨_, rfl, rfl, _, rfl, sne (by decide +kernel) ⟨_, rfl, rfl, _, rfl, sne (by decide +kernel) ⟨_, rfl, rfl, _, rfl, sne (by decide +kernel) ⟨_, rfl, rfl, _, rfl, seq ⟨.ref s, rfl, y, rfl, s, y, ts, rfl, hl, hy, fun e => q1 (by rw [if_neg (by rw [e]; decide)]) H (Same.refl H), fun w e hw v H' k => q0 (by rw [e]; exact if_pos (wd_to hw)) v H' k⟩⟩⟩⟩⟩⟩⟩
    | a5 hy hx => exact ⟨_, rfl, rfl, _, rfl, sne (by decide +kernel) ⟨_, rfl, rfl, _, rfl, sne (by decide +kernel) ⟨_, rfl, rfl, _, rfl, sne (by decide +kernel) ⟨_, rfl, rfl, _, rfl, sne (by decide +kernel) ⟨_, rfl, rfl, _, rfl, sne (by decide +kernel) ⟨_, rfl, rfl, _, rfl, sne (by decide +kernel) ⟨_, rfl, rfl, _, rfl, seq ⟨.ref s, rfl, y, rfl, s, y, ts, rfl, hl, hy, fun e => q1 (by rw [if_neg (by rw [e]; decide)]) H (Same.refl H), fun w e hw b H' k _ => q0 (by rw [e]; exact if_pos (wd_to hw)) _ H' k⟩⟩⟩⟩⟩⟩⟩⟩
    | a6 hy hx => exact ⟨_, rfl, rfl, _, rfl, sne (by decide +kernel) ⟨_, rfl, rfl, _, rfl, sne (by decide +kernel) ⟨_, rfl, rfl, _, rfl, sne (by decide +kernel) ⟨_, rfl, rfl, _, rfl, sne (by decide +kernel) ⟨_, rfl, rfl, _, rfl, sne (by decide +kernel) ⟨_, rfl, rfl, _, rfl, sne (by decide +kernel) ⟨_, rfl, rfl, _, rfl, sne (by decide +kernel) ⟨_, rfl, rfl, _, rfl, seq ⟨.ref s, rfl, y, rfl, s, y, ts, rfl, hl, hy, fun e => q1 (by rw [if_neg (by rw [e]; decide)]) H (Same.refl H), fun w e hw v H' k => q0 (by rw [e]; exact if_pos (wd_to hw)) v H' k⟩⟩⟩⟩⟩⟩⟩⟩⟩
    | a7 hy hx => exact ⟨_, rfl, rfl, _, rfl, sne (by decide +kernel) ⟨_, rfl, rfl, _, rfl, sne (by decide +kernel) ⟨_, rfl, rfl, _, rfl, sne (by decide +kernel) ⟨_, rfl, rfl, _, rfl, sne (by decide +kernel) ⟨_, rfl, rfl, _, rfl, sne (by decide +kernel) ⟨_, rfl, rfl, _, rfl, sne (by decide +kernel) ⟨_, rfl, rfl, _, rfl, sne (by decide +kernel) ⟨_, rfl, rfl, _, rfl, sne (by decide +kernel) ⟨_, rfl, rfl, _, rfl, seq ⟨.ref s, rfl, y, rfl, x, rfl, s, y, x, ts, rfl, hl, hy, (let ⟨_, _, _, g⟩ := hx; g), fun e => q1 (by rw [if_neg (by rw [e]; decide)]) H (Same.refl H), fun w e hw v H' k => q0 (by rw [e]; exact if_pos (wd_to hw)) v H' k⟩⟩⟩⟩⟩⟩⟩⟩⟩⟩
    | a8 hy hx => exact ⟨_, rfl, rfl, _, rfl, sne (by decide +kernel) ⟨_, rfl, rfl, _, rfl, sne (by decide +kernel) ⟨_, rfl, rfl, _, rfl, sne (by decide +kernel) ⟨_, rfl, rfl, _, rfl, sne (by decide +kernel) ⟨_, rfl, rfl, _, rfl, sne (by decide +kernel) ⟨_, rfl, rfl, _, rfl, sne (by decide +kernel) ⟨_, rfl, rfl, _, rfl, sne (by decide +kernel) ⟨_, rfl, rfl, _, rfl, sne (by decide +kernel) ⟨_, rfl, rfl, _, rfl, sne (by decide +kernel) ⟨_, rfl, rfl, _, rfl, seq ⟨.ref s, rfl, y, rfl, s, y, ts, rfl, hl, hy, fun e => q1 (by rw [if_neg (by rw [e]; decide)]) H (Same.refl H), fun w e hw v H' k => q0 (by rw [e]; exact if_pos (wd_to hw)) v H' k⟩⟩⟩⟩⟩⟩⟩⟩⟩⟩⟩
    | @nx _ _ o hy hx => exact ⟨_, rfl, rfl, _, rfl, sne (by decide +kernel) ⟨_, rfl, rfl, _, rfl, sne (by decide +kernel) ⟨_, rfl, rfl, _, rfl, sne (by decide +kernel) ⟨_, rfl, rfl, _, rfl, sne (by decide +kernel) ⟨_, rfl, rfl, _, rfl, seq ⟨.ref s, rfl, y, rfl, x, rfl, s, y, x, o, ts, rfl, hl, hy, hx, fun e => q1 (by rw [if_neg (by rw [e]; decide)]) H (Same.refl H), fun w e hw b H' k => q2 (by rw [e]; exact (if_pos (wd_to hw)).trans (if_neg (by rw [b]; decide))) H' k, fun w e hw b v H' k => q0 (by rw [e]; exact (if_pos (wd_to hw)).trans (if_pos b)) v H' k⟩⟩⟩⟩⟩⟩
    | ml hy => exact ⟨_, rfl, rfl, _, rfl, sne (by decide +kernel) ⟨_, rfl, rfl, _, rfl, sne (by decide +kernel) ⟨_, rfl, rfl, _, rfl, sne (by decide +kernel) ⟨_, rfl, rfl, _, rfl, sne (by decide +kernel) ⟨_, rfl, rfl, _, rfl, sne (by decide +kernel) ⟨_, rfl, rfl, _, rfl, sne (by decide +kernel) ⟨_, rfl, rfl, _, rfl, sne (by decide +kernel) ⟨_, rfl, rfl, _, rfl, sne (by decide +kernel) ⟨_, rfl, rfl, _, rfl, sne (by decide +kernel) ⟨_, rfl, rfl, _, rfl, sne (by decide +kernel) ⟨_, rfl, rfl, _, rfl, seq ⟨.ref s, rfl, y, rfl, s, y, _, ts, rfl, hl, hy, fun e => q3 (if_neg (by rw [e]; decide)) H (Same.refl H), fun e v H' k => q0 (if_pos e) v H' k⟩⟩⟩⟩⟩⟩⟩⟩⟩⟩⟩⟩
    | pn hy => exact ⟨_, rfl, rfl, _, rfl, sne (by decide +kernel) ⟨_, rfl, rfl, _, rfl, sne (by decide +kernel) ⟨_, rfl, rfl, _, rfl, sne (by decide +kernel) ⟨_, rfl, rfl, _, rfl, sne (by decide +kernel) ⟨_, rfl, rfl, _, rfl, sne (by decide +kernel) ⟨_, rfl, rfl, _, rfl, sne (by decide +kernel) ⟨_, rfl, rfl, _, rfl, sne (by decide +kernel) ⟨_, rfl, rfl, _, rfl, sne (by decide +kernel) ⟨_, rfl, rfl, _, rfl, sne (by decide +kernel) ⟨_, rfl, rfl, _, rfl, sne (by decide +kernel) ⟨_, rfl, rfl, _, rfl, sne (by decide +kernel) ⟨.ref s, rfl, y, rfl, s, y, _, ts, rfl, hl, hy, fun e H' k => q3 (if_neg (by rw [e]; decide)) H' k, fun e v H' k => q0 (if_pos e) v H' k⟩⟩⟩⟩⟩⟩⟩⟩⟩⟩⟩⟩
abbrev sError : Stmt := topS 51
theorem scError : FnScope ["word", "library", "one", "two"] ["word", "library", "one", "two"] (defScope sError) := ⟨rfl, rfl, rfl, by decide +kernel, rfl, by decide +kernel, by decide +kernel⟩
theorem ok_Error {f fS : Addr} {fd fdS : FuncData} (F : Fun K "_law_error" "_law_error" sError f fd) (EW : Cls0 P K mg PE "NoWord" cW) (EP : Cls0 P K mg PE "NoPlace" cP) (EN : Cls0 P K mg PE "NoNumber" cN) (gPE : mg "PieceError" = some (.ref PE)) (ne1 : cW ≠ cP) (ne2 : cW ≠ cN) (ne3 : cP ≠ cN)
    (FS : Fun K "_law_called" "_law_called" sCalled fS fdS) (bS : Binds K fdS ["word", "library", "one", "two"] []) (gS : mg "_law_called" = some (.ref fS)) (GS : FnOk P w K mg base (L2.CX P w) 8 fS fdS ["word", "library", "one", "two"] (spLCalled C cW cP cN)) (T : Glob mg) :
    FnOk P w K mg base CX0 9 f fd ["word", "library", "one", "two"] (spLError C) := by
  refine F.ok scError (fun vs H Q E h => ?_) (fun cdv A outer s H vs Q E hr h => ?_)
  · obtain ⟨s, z, y, x, ts, r, rfl, _⟩ := h
    rfl
  · obtain ⟨p, z, y, x, ts, r, rfl, hl, ha, q⟩ := h
    refine ⟨_, pss_cons (ps_try_many (tb := fun W => tDrop (tCallS (spLCalled C cW cP cN) (fun σ => WE W σ) (tCons (tVar 0) (tCons (tVar 1) (tCons (tVar 2) (tCons (tVar 3) tNil)))))) (Wout := fun _ _ _ _ => False) rfl rfl takes0
        (fun W pn xe tk _ => pss_one (ps_expr (pe_callS (E := fun σ => WE W σ) GS (hr.mono (by decide)) (by rfl) gS FS.kp bS (fun σ => passAt tk σ) (pa_cons (pv 0) (pa_cons (pv 1) (pa_cons (pv 2) (pa_cons (pv 3) pa_nil)))))))
        (HdsOk.cons ⟨rfl, by decide, .inl EW.g⟩ (fun a oe cls d pn hz hf => pss_one (ps_ret pe_str)) (HdsOk.cons ⟨rfl, by decide, .inl EP.g⟩ (fun a oe cls d pn hz hf => pss_one (ps_ret pe_str)) (HdsOk.cons ⟨rfl, by decide, .inl EN.g⟩ (fun a oe cls d pn hz hf => pss_one (ps_ret pe_str)) (HdsOk.cons ⟨rfl, by decide, .inl gPE⟩ (fun a oe cls d pn hz hf => pss_one (ps_ret pe_str)) HdsOk.nil))))) (pss_one (ps_ret pe_str)), ?_⟩
    refine ⟨.str z, rfl, .ref p, rfl, y, rfl, x, rfl, p, z, y, x, ts, r, rfl, hl, ha, fun e v H' k => ?_, fun e H' k => ?_, fun e H' k => ?_, fun e H' k => ?_⟩
    · have q' := q H' k
      rw [e] at q'
      exact q'
    · have q' := q H' k
      rw [e] at q'
      exact ⟨true, (exm_at EW.er EW.er EW.ne).trans (congrArg some (decide_eq_true rfl)), (fun _ a na => q'), fun z => Bool.noConfusion z⟩
    · have q' := q H' k
      rw [e] at q'
      exact ⟨false, (exm_at EW.er EP.er EW.ne).trans (congrArg some (decide_eq_false (Ne.symm ne1))), (fun z => Bool.noConfusion z), fun _ => ⟨true, (exm_at EP.er EP.er EP.ne).trans (congrArg some (decide_eq_true rfl)), (fun _ a na => q'), fun z => Bool.noConfusion z⟩⟩
    · have q' := q H' k
      rw [e] at q'
      exact ⟨false, (exm_at EW.er EN.er EW.ne).trans (congrArg some (decide_eq_false (Ne.symm ne2))), (fun z => Bool.noConfusion z), fun _ => ⟨false, (exm_at EP.er EN.er EP.ne).trans (congrArg some (decide_eq_false (Ne.symm ne3))), (fun z => Bool.noConfusion z), fun _ => ⟨true, (exm_at EN.er EN.er EN.ne).trans (congrArg some (decide_eq_true rfl)), (fun _ a na => q'), fun z => Bool.noConfusion z⟩⟩⟩
end
end LawK
set_option maxHeartbeats 4000000
namespace LawK
open PySem PySem.Spec PyProof.Rows L2 Ev
theorem lib_new {H3 H4 : Hp} {C b s dx : Addr} {ts : List Str} (ht : TsAt H3 b ts) (ns : H3 s = none) (ndx : H3 dx = none) (ndxs : dx ≠ s)
    (ha : H4 s = some (.ins C dx [("texts", .ref b)])) (ho : ∀ c u, c ≠ s → upd (upd H3 dx (.own s)) s (.ins C dx []) c = some u → H4 c = some u) : Same H3 H4 ∧ LibAt H4 C s ts := by
  have ka := Same.new (o := .own s) ndx
  have ns2 : upd H3 dx (.own s) s = none := by
    rw [upd_ne (Ne.symm ndxs)]
    exact ns
  have kb := ka.trans (Same.new (o := .ins C dx []) ns2)
  have k4 : Same H3 H4 := fun c u hc => ho c u (ne_of_none (ka _ _ hc) ns2) (kb _ _ hc)
  exact ⟨k4, ⟨dx, b, ha, k4 _ _ ht.at_⟩, ht.few, ht.sg, ht.len⟩
theorem lib_in {H3 : Hp} {C b s dx : Addr} {ts : List Str} (ht : TsAt H3 b ts) (ns : H3 s = none) (ndx : H3 dx = none) (ndxs : dx ≠ s) : upd (upd H3 dx (.own s)) s (.ins C dx []) b = some (.tup (ts.map V.str)) := by
  have ka := Same.new (o := .own s) ndx
  have ns2 : upd H3 dx (.own s) s = none := by
    rw [upd_ne (Ne.symm ndxs)]
    exact ns
  exact (ka.trans (Same.new (o := .ins C dx []) ns2)) _ _ ht.at_
theorem LibAt.but {H H' : Hp} {C s p l : Addr} {ts : List Str} (h : LibAt H C s ts) (hp : HandL H p l) (b : But p H H') : LibAt H' C s ts := by
  obtain ⟨⟨dx, a, h1, h2⟩, h3, h4, h5⟩ := h
  exact ⟨⟨dx, a, b _ _ (hand_ne hp h1 fun _ _ _ _ _ z => by cases z) h1, b _ _ (tup_ne hp h2) h2⟩, h3, h4, h5⟩

def asksL : List Str := ["places", "count", "first_place", "last_place", "texts_with", "span", "gap", "is_gap", "number_of"]
theorem ask_of {H : Hp} {ts : List Str} {z : Str} {y x : V} (hz : z ∈ asksL) (hy : Wy H y) (hx : Pn H ts x) : AskR H ts z y x (if wordV y = true then 0 else 1) := by
  unfold asksL at hz
  simp only [List.mem_cons, List.not_mem_nil, or_false] at hz
  rcases hz with rfl | rfl | rfl | rfl | rfl | rfl | rfl | rfl | rfl
  · exact .a0 hy hx
  · exact .a1 hy hx
  · exact .a2 hy hx
  · exact .a3 hy hx
  · exact .a4 hy hx
  · exact .a5 hy hx
  · exact .a6 hy hx
  · exact .a7 hy hx
  · exact .a8 hy hx
theorem place_of {ts : List Str} {p : Pl} (h : InT ts p) : placeV ts (some [.int (p.1 : Nat), .int (p.2 : Nat)]) = true := by
  have a := h.text
  have b : p.2 < (ts.getD p.1 Str.empty).length := h.at_
  show (decide ((0 : Int) ≤ (p.1 : Nat)) && decide (((p.1 : Nat) : Int) ≤ (ts.length : Int) - 1) && (decide ((0 : Int) ≤ (p.2 : Nat)) && decide (((p.2 : Nat) : Int) ≤ (((ts.getD ((p.1 : Nat) : Int).toNat Str.empty).length : Int) - 1)))) = true
  rw [Int.toNat_natCast]
  rw [decide_eq_true (by omega), decide_eq_true (by omega), decide_eq_true (by omega), decide_eq_true (by omega)]
  rfl
def spLWords (C : Addr) : Sp := fun vs H Q _ => ∃ (p s a : Addr) (ts : List Str), vs = [.ref p, .ref s, .ref a] ∧ LibAt H C s ts ∧ TsAt H a ts ∧ ∃ l, HandL H p l ∧ ∀ H', Hn p l H H' → Q (.bl true) H'
theorem wd_wy {H : Hp} {z : Str} (h : Wd z) : Wy H (.str z) := ⟨⟨_, .str z⟩, vs_str h.few⟩
section
variable {P : Program} {w : World} {K : PySem.W.Frag} {mg : Str → Option Value} {base : Heap}
variable {C fI : Addr} {fdI : FuncData}
abbrev sAreWordsRefused : Stmt := topS 52
theorem scAreWordsRefused : FnScope ["hand", "library", "texts", "asks", "turn", "none", "wrong", "right", "word", "spots", "place"] ["hand", "library", "texts"] (defScope sAreWordsRefused) := ⟨rfl, rfl, rfl, by decide +kernel, rfl, by decide +kernel, by decide +kernel⟩
theorem ok_AreWordsRefused {f : Addr} {fd : FuncData} (F : Fun K "_law_are_words_refused" "_law_are_words_refused" sAreWordsRefused f fd)  {fDraw : Addr} {fdDraw : FuncData} (DDraw : Dk P w K mg base "_law_draw" sDraw ["hand", "many"] 1 spDraw fDraw fdDraw) {fPlaces : Addr} {fdPlaces : FuncData} (DPlaces : Dk P w K mg base "_law_places" sPlaces ["texts"] 1 spLPlaces fPlaces fdPlaces) {fPiece : Addr} {fdPiece : FuncData} (DPiece : Dk P w K mg base "_law_piece" sPiece ["hand", "texts"] 5 spPiece fPiece fdPiece) {fNoPlace : Addr} {fdNoPlace : FuncData} (DNoPlace : Dk P w K mg base "_law_no_place" sNoPlace ["hand", "texts"] 2 spLNoPlace fNoPlace fdNoPlace) {fNoWord : Addr} {fdNoWord : FuncData} (DNoWord : Dk P w K mg base "_law_no_word" sNoWord ["hand"] 3 spLNoWord fNoWord fdNoWord) {fError : Addr} {fdError : FuncData} (DError : Dk P w K mg base "_law_error" sError ["word", "library", "one", "two"] 9 (spLError C) fError fdError) (T : Glob mg) : FnOk P w K mg base CX0 10 f fd ["hand", "library", "texts"] (spLWords C) := by
  refine F.ok scAreWordsRefused (fun vs H Q E h => ?_) (fun cdv A outer s H vs Q E hr h => ?_)
  · obtain ⟨p, s, a, ts, rfl, _⟩ := h
    rfl
  · refine ⟨_, (pss_cons (ps_set (i := 3) scAreWordsRefused.nd rfl (.inl rfl) (pe_lst (pa_cons pe_str (pa_cons pe_str (pa_cons pe_str (pa_cons pe_str (pa_cons pe_str (pa_cons pe_str (pa_cons pe_str (pa_cons pe_str (pa_cons pe_str pa_nil)))))))))))
      (pss_cons (ps_for PassesOwn.never rfl (pi_range1 (by rfl) T.range (pa_cons pe_int pa_nil)) (pg_name (i := 4) scAreWordsRefused.nd rfl (.inl rfl))
      (pss_cons (ps_set (i := 5) scAreWordsRefused.nd rfl (.inl rfl) (pe_call DNoWord.ok (hr.mono (by decide)) (by rfl) DNoWord.g DNoWord.F.kp DNoWord.b .nil pass0 (pa_cons (pv 0) pa_nil)))
        (pss_cons (ps_set (i := 6) scAreWordsRefused.nd rfl (.inl rfl) (pe_call DNoPlace.ok (hr.mono (by decide)) (by rfl) DNoPlace.g DNoPlace.F.kp DNoPlace.b .nil pass0 (pa_cons (pv 0) (pa_cons (pv 2) pa_nil))))
        (pss_cons (ps_set (i := 7) scAreWordsRefused.nd rfl (.inl rfl) (pe_call DPiece.ok (hr.mono (by decide)) (by rfl) DPiece.g DPiece.F.kp DPiece.b .nil pass0 (pa_cons (pv 0) (pa_cons (pv 2) pa_nil))))
        (pss_cons (ps_for PassesOwn.never rfl (pi_list (pv 3)) (pg_name (i := 8) scAreWordsRefused.nd rfl (.inl rfl))
        (pss_one (ps_if (PW.pt (pw_or (pt_cmpR op_ne (pe_call DError.ok (hr.mono (by decide)) (by rfl) DError.g DError.F.kp DError.b .nil pass0 (pa_cons (pv 8) (pa_cons (pv 1) (pa_cons (pv 5) (pa_cons (pv 6) pa_nil))))) pe_str (nomark _)) (pw_or1 (pt_cmpR op_ne (pe_call DError.ok (hr.mono (by decide)) (by rfl) DError.g DError.F.kp DError.b .nil pass0 (pa_cons (pv 8) (pa_cons (pv 1) (pa_cons (pv 7) (pa_cons (pv 6) pa_nil))))) pe_str (nomark _)))))
          (pss_one (ps_ret pe_bl))
          pss_nil)))
        (pss_cons (ps_if (pt_cmpR op_ne (pe_call DError.ok (hr.mono (by decide)) (by rfl) DError.g DError.F.kp DError.b .nil pass0 (pa_cons pe_str (pa_cons (pv 1) (pa_cons (pv 5) (pa_cons (pv 6) pa_nil))))) pe_str (nomark _))
        (pss_one (ps_ret pe_bl))
        pss_nil)
        (pss_cons (ps_if (pt_cmpR op_ne (pe_call DError.ok (hr.mono (by decide)) (by rfl) DError.g DError.F.kp DError.b .nil pass0 (pa_cons pe_str (pa_cons (pv 1) (pa_cons (pv 7) (pa_cons (pv 6) pa_nil))))) pe_str (nomark _))
        (pss_one (ps_ret pe_bl))
        pss_nil)
        (pss_cons (ps_set (i := 9) scAreWordsRefused.nd rfl (.inl rfl) (pe_call DPlaces.ok (hr.mono (by decide)) (by rfl) DPlaces.g DPlaces.F.kp DPlaces.b .nil pass0 (pa_cons (pv 2) pa_nil)))
        (pss_one (ps_if (pt_cmpR op_gt (pe_callB call_len_seq (by rfl) T.len PySem.boot_len (pa_cons (pv 9) pa_nil)) pe_int (nomark _))
        (pss_cons (ps_set (i := 10) scAreWordsRefused.nd rfl (.inl rfl) (pe_ix ix_list (pv 9) (pe_call DDraw.ok (hr.mono (by decide)) (by rfl) DDraw.g DDraw.F.kp DDraw.b .nil pass0 (pa_cons (pv 0) (pa_cons (pe_callB call_len_seq (by rfl) T.len PySem.boot_len (pa_cons (pv 9) pa_nil)) pa_nil))) (fun _ _ => rfl)))
          (pss_cons (ps_if (pt_cmpR op_ne (pe_call DError.ok (hr.mono (by decide)) (by rfl) DError.g DError.F.kp DError.b .nil pass0 (pa_cons pe_str (pa_cons (pv 1) (pa_cons (pv 5) (pa_cons (pv 10) pa_nil))))) pe_str (nomark _))
          (pss_one (ps_ret pe_bl))
          pss_nil)
          (pss_one (ps_if (pt_cmpR op_ne (pe_call DError.ok (hr.mono (by decide)) (by rfl) DError.g DError.F.kp DError.b .nil pass0 (pa_cons pe_str (pa_cons (pv 1) (pa_cons (pv 7) (pa_cons (pv 10) pa_nil))))) pe_str (nomark _))
          (pss_one (ps_ret pe_bl))
          pss_nil))))
        pss_nil))))))))))
      (pss_one (ps_ret pe_bl)))), ?_⟩
    obtain ⟨p, s, a, ts, rfl, hl, ht, l, hH, q⟩ := h
    refine ⟨by show 9 ≤ sizeLine; decide, fun A nA => ?_⟩
    have kA := Same.new (H := H) (o := .lst [V.str "places", .str "count", .str "first_place", .str "last_place", .str "texts_with", .str "span", .str "gap", .str "is_gap", .str "number_of"]) nA
    have hA : upd H A (.lst [V.str "places", .str "count", .str "first_place", .str "last_place", .str "texts_with", .str "span", .str "gap", .str "is_gap", .str "number_of"]) A = some (.lst [V.str "places", .str "count", .str "first_place", .str "last_place", .str "texts_with", .str "span", .str "gap", .str "is_gap", .str "number_of"]) := upd_same
    have n0 := (Hn.refl hH).same kA
    have nAp := (hH.ne nA).1
    have hl := hl.same kA
    have ht := ht.same kA
    revert n0 hl ht hA
    generalize upd H A (.lst [V.str "places", .str "count", .str "first_place", .str "last_place", .str "texts_with", .str "span", .str "gap", .str "is_gap", .str "number_of"]) = H0
    intro hA n0 hl ht
    have hA : H0 A = some (.lst (asksL.map V.str)) := hA
    refine ⟨_, rfl, by decide, by decide, for_range (fun i σ H' => ∃ u4 u5 u6 u7 u8 u9 u10 : Option V, σ = [some (.ref p), some (.ref s), some (.ref a), some (.ref A), u4, u5, u6, u7, u8, u9, u10] ∧ Hn p l H0 H') ⟨_, _, _, _, _, _, _, rfl, Hn.refl n0.at_⟩ ?_ ?_⟩
    · rintro i σ H1 hi ⟨u4, u5, u6, u7, u8, u9, u10, rfl, n1⟩
      refine ⟨.ref p, rfl, p, rfl, l, n1.at_, fun y H2 wy wn n2 => ?_⟩
      have n12 := n1.trans n2
      refine ⟨.ref p, rfl, .ref a, rfl, p, a, ts, rfl, ht.but n0.at_ n12.but, l, n12.at_, fun x H3 px n3 => ?_⟩
      have n13 := n12.trans n3
      refine ⟨.ref p, rfl, .ref a, rfl, p, a, ts, rfl, ht.but n0.at_ n13.but, l, n13.at_, fun z H4 wz h4 b4 => ?_⟩
      have n14 := n13.go h4 b4
      have hA4 := n14.but _ _ nAp hA
      have hl4 := hl.but n0.at_ n14.but
      have ht4 := ht.but n0.at_ n14.but
      have wy4 : Wy H4 y := Wy.but (Wy.but wy n12.at_ n13.at_ n3.but) n13.at_ h4 b4
      have px4 : Pn H4 ts x := Pn.but px n13.at_ h4 b4
      have e1 : errS (if wordV y = true then 0 else 1) = "word" := by rw [if_neg (by rw [wn]; decide)]; rfl
      have e2 : errS (if wordV (.str z) = true then 0 else 1) = "" := by rw [if_pos (wd_to wz)]; rfl
      refine ⟨.ref A, rfl, A, rfl, ⟨_, sq_of hA4⟩, for_list (K := K) (xs := asksL.map V.str) (fun i σ H' => ∃ u8 : Option V, σ = [some (.ref p), some (.ref s), some (.ref a), some (.ref A), _, some y, some x, some (.str z), u8, u9, u10] ∧ Same H4 H') ⟨_, rfl, Same.refl H4⟩ (fun i σ H' _ ⟨_, _, w⟩ => sq_of (w _ _ hA4)) ?_ ?_⟩
      · rintro j v σ H5 hv ⟨u8, rfl, k5⟩
        rw [List.getElem?_map] at hv
        obtain ⟨ask, ha, rfl⟩ := Option.map_eq_some_iff.mp hv
        have ma := List.mem_of_getElem? ha
        refine ⟨.str ask, rfl, .ref s, rfl, y, rfl, x, rfl, s, ask, y, x, ts, _, rfl, hl4.same k5, ask_of ma (wy4.same k5) (px4.same k5), fun H6 k6 => ⟨rfl, _, rfl, iteNS (congrArg V.str e1) ?_⟩⟩
        have k56 := k5.trans k6
        refine ⟨.str ask, rfl, .ref s, rfl, .str z, rfl, x, rfl, s, ask, .str z, x, ts, _, rfl, hl4.same k56, ask_of ma (wd_wy wz) (px4.same k56), fun H7 k7 => ⟨rfl, _, rfl, iteNS (congrArg V.str e2) ?_⟩⟩
        exact ⟨_, rfl, k56.trans k7⟩
      · rintro σ H5 ⟨u8, rfl, k5⟩
        obtain ⟨o, to, po, ng⟩ := px4
        refine ⟨.ref s, rfl, y, rfl, x, rfl, s, "next_place", y, x, ts, _, rfl, hl4.same k5, .nx (wy4.same k5) (to.same k5), fun H6 k6 => ⟨rfl, _, rfl, iteNS (congrArg V.str (by rw [if_neg (by rw [wn]; decide)]; rfl)) ?_⟩⟩
        have k56 := k5.trans k6
        dsimp only [tNext, tDrop]
        refine ⟨.ref s, rfl, .str z, rfl, x, rfl, s, "next_place", .str z, x, ts, _, rfl, hl4.same k56, .nx (wd_wy wz) (to.same k56), fun H7 k7 => ⟨rfl, _, rfl, iteNS (congrArg V.str (by rw [if_pos (wd_to wz), if_neg (by rw [po]; decide)]; rfl)) ?_⟩⟩
        have k57 := k56.trans k7
        dsimp only [tNext, tDrop]
        refine ⟨.ref a, rfl, a, ts, rfl, ht4.same k57, fun S H8 k8 nS ⟨vs, hS, hv⟩ => ?_⟩
        have k58 := k57.trans k8
        have h8 := h4.same k58
        have nSp := (h4.same k57).ne nS
        have lv := hv.len
        have lp := pl_len ht.len ht.few
        have n18 := n14.same k58
        refine ⟨.ref S, rfl, S, vs, rfl, .inl (sq_of hS), _, _, rfl, rfl, _, rfl, ite2 (fun c => ?_) (fun c => ⟨_, _, _, _, _, _, _, rfl, n18⟩)⟩
        have c : (0 : Int) < ((vs.length : Nat) : Int) := of_decide_eq_true c
        refine ⟨.ref S, rfl, .ref p, rfl, .ref S, rfl, S, vs, rfl, .inl (sq_of hS), p, _, rfl, c, by omega, l, h8, fun v H9 v0 v1 h9 b9 => ?_⟩
        obtain ⟨j, rfl⟩ := Int.eq_ofNat_of_zero_le v0
        have jl : j < vs.length := by omega
        obtain ⟨p1, ep, rp⟩ := hv.at (List.getElem?_eq_getElem jl)
        have ip := pl_mem.mp (List.mem_of_getElem? ep)
        have n19 := n18.go h9 b9
        refine ⟨S, vs, _, vs[j], rfl, rfl, sq_of (b9 _ _ nSp.1 hS), atI_nat (List.getElem?_eq_getElem jl), ?_⟩
        obtain ⟨b, eb, hb⟩ := rp
        have hb9 := b9 _ _ (tup_ne h8 hb) hb
        have tp : Tg H9 vs[j] (some [.int (p1.1 : Nat), .int (p1.2 : Nat)]) := by
          rw [eb]
          exact .tup hb9 (by simp) fun u hu => by
            simp only [List.mem_cons, List.not_mem_nil, or_false] at hu
            rcases hu with rfl | rfl <;> exact ⟨⟨_, .int _⟩, vs_no fun z e => by cases e⟩
        have pp := place_of ip
        have hl9 := hl.but n0.at_ n19.but
        have wy9 : Wy H9 y := Wy.but (wy4.same k58) h8 h9 b9
        refine ⟨.ref s, rfl, y, rfl, vs[j], rfl, s, "next_place", y, vs[j], ts, _, rfl, hl9, .nx wy9 tp, fun H10 k10 => ⟨rfl, _, rfl, iteNS (congrArg V.str (by rw [if_neg (by rw [wn]; decide)]; rfl)) ?_⟩⟩
        dsimp only [tNext, tDrop]
        refine ⟨.ref s, rfl, .str z, rfl, vs[j], rfl, s, "next_place", .str z, vs[j], ts, _, rfl, hl9.same k10, .nx (wd_wy wz) (tp.same k10), fun H11 k11 => ⟨rfl, _, rfl, iteNS (congrArg V.str (by rw [if_pos (wd_to wz), if_pos pp]; rfl)) ?_⟩⟩
        exact ⟨_, _, _, _, _, _, _, rfl, n19.same (k10.trans k11)⟩
    · rintro σ H1 ⟨u4, u5, u6, u7, u8, u9, u10, rfl, n1⟩
      exact q H1 (n0.trans n1)
end
end LawK
set_option maxHeartbeats 4000000
/-! The law's own def, called by the caller of claims alone: what runs around it is known (no repr is under way). -/
namespace Ev
open PySem PySem.Spec PyProof.Rows L2
/-- the def at f keeps sp, called where A runs around it -/
structure FnAt (A : Around) (P : Program) (w : World) (K : PySem.W.Frag) (mg : Str → Option Value) (base : Heap) (CX : CXT) (f : Addr) (fd : FuncData) (ps : List Str) (sp : Sp) : Prop where
  len : ∀ vs H Q E, sp vs H Q E → vs.length = ps.length
  run : ∀ (outer : List Env) (s : Shared) (H : Hp) (args : Args) (us : List Value) (vs : List V) (Q : VK) (E : XK), Env0 P w K mg base A outer s H → BindsTo s fd args (ps.zip us) → Vals vs us → sp vs H Q E →
    codeAny (model P w) A (.call (.ref f) args) (CR CX outer P w H s Q E) s
section
variable {A : Around} {CX : CXT} {P : Program} {w : World} {K : PySem.W.Frag} {mg : Str → Option Value} {base : Heap} {k : Nat}
theorem fun_at {x qual : Str} {st : Stmt} {f : Addr} {fd : FuncData} {N ps : List Str} {sp : Sp} (F : Fun K x qual st f fd) (S : FnScope N ps (defScope st)) (hr : Room (k + 1) A) (len : ∀ vs H Q E, sp vs H Q E → vs.length = ps.length)
    (hbody : ∀ (cdv : Value) (outer : List Env) (s : Shared) (H : Hp) (vs : List V) (Q : VK) (E : XK), Room k (A.deeper (envOfC qual (defScope st) s.heap.objs.size f cdv)) → sp vs H Q E →
      ∃ t, PSs (cxOf CX P w K mg base N qual (defScope st) f cdv A outer s H E).nox (defBody st) t ∧ t { nx := fun _ H' => Q .non H', rt := Q } (start N vs) H) : FnAt A P w K mg base CX f fd ps sp := by
  obtain ⟨oc, od, kV, doc, pm, an, cdv, ct, osl, rfl, lk, hcd⟩ := F.ex
  refine ⟨len, fun outer s H args us vs Q E e0 hb r hsp => ?_⟩
  have lim : s.heap.NoLimit := e0.mod.nolimit.keeps fun b o e => (e0.bs b o e).1
  have KX : K.In s.heap := e0.mod.kin.keeps fun b o e => (e0.bs b o e).1
  have kinds : ∀ y ∈ ps.zip us, (defScope st).names.lookup y.1 = some .local ∨ ((defScope st).names.lookup y.1 = some .cell ∧ ((cellsFrom (s.heap.objs.size + 1) (defScope st).names []).lookup y.1).isSome = true) := by
    rintro ⟨n, v⟩ hy
    exact (S.par n (List.of_mem_zip hy).1).imp id fun q => ⟨q, PySem.W.cellsFrom_some _ _ _ (.inl q)⟩
  refine codeAny_call_function hr.depth (KX _ _ lk) rfl S.co S.gen rfl (PySem.W.codeRec_of KX hcd) (hb _ _ _ _ (wpAny_newFunctionEnv_cells S.kind kinds fun env he s1 x => ?_))
  subst he
  obtain ⟨t, ht, hq⟩ := hbody cdv outer s H vs Q E (hr.deeper _) hsp
  have I := inv_start (CX := CX) (P := P) (w := w) (mg := mg) (base := base) (E := E) S hr.hd e0 (len _ _ _ _ hsp) r x
  refine ⟨lim.keeps x.toInCall.keep, codeAny_func (wpAny_mono (ht.nox.run [] s1 (start N vs) H _ I hq) (fun fl s' hs => ?_) fun e s' hs => hs)⟩
  cases fl with
  | ret u =>
    obtain ⟨v, σ', H', J, rv, q⟩ := hs
    exact ⟨v, H', J.os, J.bare, J.base, J.hok, rv, q⟩
  | next =>
    obtain ⟨σ', H', J, q⟩ := hs
    exact ⟨V.non, H', J.os, J.bare, J.base, J.hok, rfl, q⟩
  | brk => exact hs.elim fun _ z => z.elim fun _ y => y.2.elim
  | cont => exact hs.elim fun _ z => z.elim fun _ y => y.2.elim
end
section
variable {P : Program} {w : World} {K : PySem.W.Frag} {mg mb : Str → Option Value} {fa a : Addr} {fd : FuncData} {x : Str} {sp : Sp} {s₁ : Shared} {vs : List Value} {ns : List Int}
/-- from one abstract heap: nothing is tracked but, perhaps, the script -/
theorem law_at0 {H : Hp} (KX : K.In s₁.heap) (hns : s₁.heap.Ns mainGlobals mg) (hb : s₁.heap.Ns builtinsNs mb) (hbb : ∀ y : Str, y ≠ "__name__" → mb y = bootBuiltins y) (hlim : s₁.heap.NoLimit) (hg : s₁.gens = #[])
    (ha : s₁.heap.get? a = some { cls := .type "list", data := .seq vs.toArray }) (F : ∀ base : Heap, K.In base → base.Ns mainGlobals mg → FnAt callerA P w K mg base CX0 fa fd [x] sp)
    (hbind : ∀ (s : Shared) (u : Value), BindsTo s fd ⟨[u], []⟩ [(x, u)]) (hO : Only H) (hok : HOk P w H s₁.heap) (hA : ∀ b, H b ≠ none → b = a) (hK : H a ≠ none → K.lookup a = none)
    (hsp : sp [.ref a] H (fun v _ => v = .bl true) fun _ _ _ => False) :
    codeAny (model P w) callerA (.call (.ref fa) ⟨[.ref a], []⟩) (fun r s' => r = .ok (.ret (.bool true)) ∧ OldK s₁.heap s'.heap ∧ s'.os = s₁.os ∧ AllBare s'.gens) s₁ := by
  have off : ∀ {b : Addr} {o : Obj}, s₁.heap.get? b = some o → o ≠ { cls := .type "list", data := .seq vs.toArray } → H b = none := fun {b o} e n => by
    refine Classical.byContradiction fun z => n ?_
    have eb := hA b z
    rw [eb, ha] at e
    exact (Option.some.inj e).symm
  have nsK : ∀ {b : Addr} {m : Str → Option Value}, s₁.heap.Ns b m → (hidT s₁.heap H).Ns b m := fun {b m} ⟨o, es, ep, e, d, r⟩ => ⟨o, es, ep, hidT_get e (off e fun z => by rw [z] at d; cases d), d, r⟩
  have hKb : K.In (hidT s₁.heap H) := fun b o e => hidT_get (KX b o e) (Classical.byContradiction fun z => by
    have eb := hA b z
    rw [eb] at e z
    rw [hK z] at e
    cases e)
  have hM : Mod K mg (hidT s₁.heap H) := ⟨hKb, nsK hns, ⟨mb, nsK hb, hbb⟩, hlim.elim fun mc z => ⟨mc, nsK z.1, z.2⟩⟩
  have e0 : Env0 P w K mg (hidT s₁.heap H) callerA [] s₁ H := ⟨rfl, hM, fun b o e => of_hidT e, Nat.le_of_eq (hidT_size _ _), trivial, fun b hb => absurd (show b ∈ ([] : List Addr) from hb) (by simp), hok, .of_eq hg⟩
  refine codeAny_mono ((F _ hKb (nsK hns)).run [] s₁ H ⟨[.ref a], []⟩ [.ref a] [.ref a] _ _ e0 (hbind s₁ (.ref a)) (.cons rfl .nil) hsp) fun r s' h => ?_
  rcases r with e | fl
  · exact False.elim h
  cases fl with
  | next => exact False.elim h
  | brk => exact False.elim h
  | cont => exact False.elim h
  | ret u =>
    obtain ⟨v, H', os, bare, un, hok', r', rfl⟩ := h
    obtain rfl : u = Value.bool true := r'
    refine ⟨rfl, OldK.of_keep fun b o e => ?_, os, bare⟩
    rcases hO b with z | ⟨ob, xs, z⟩
    · exact un.keep b o e z (fun y => absurd (show b ∈ ([] : List Addr) from y) (by simp)) (by simp)
    · have e1 := (hok b _ z).1
      rw [e] at e1
      cases e1
      exact (hok' b _ (un.frzs b _ _ z)).1
theorem law_at (KX : K.In s₁.heap) (hns : s₁.heap.Ns mainGlobals mg) (hb : s₁.heap.Ns builtinsNs mb) (hbb : ∀ y : Str, y ≠ "__name__" → mb y = bootBuiltins y) (hlim : s₁.heap.NoLimit) (hg : s₁.gens = #[])
    (ha : s₁.heap.get? a = some { cls := .type "list", data := .seq vs.toArray }) (hi : IntsAre vs ns) (hl : ns.length ≤ sizeLine)
    (F : ∀ base : Heap, K.In base → base.Ns mainGlobals mg → FnAt callerA P w K mg base CX0 fa fd [x] sp) (hbind : ∀ (s : Shared) (u : Value), BindsTo s fd ⟨[u], []⟩ [(x, u)])
    (hsp : ∀ H : Hp, Only H → SqL K H a (ns.map V.int) → sp [.ref a] H (fun v _ => v = .bl true) fun _ _ _ => False) :
    codeAny (model P w) callerA (.call (.ref fa) ⟨[.ref a], []⟩) (fun r s' => r = .ok (.ret (.bool true)) ∧ OldK s₁.heap s'.heap ∧ s'.os = s₁.os ∧ AllBare s'.gens) s₁ := by
  have rv := vals_ints hi
  cases hk : K.lookup a with
  | some o =>
    have e := KX a o hk
    rw [ha] at e
    cases e
    have hO : Only (fun _ => none) := fun _ => .inl rfl
    exact law_at0 KX hns hb hbb hlim hg ha F hbind hO (fun b u z => by cases z) (fun b z => absurd rfl z) (fun z => absurd rfl z)
      (hsp _ hO (.inr ⟨_, vs.toArray, _, hk, rfl, rfl, rfl, by rw [List.size_toArray, hi.length]; exact hl, by simpa using rv⟩))
  | none =>
    have same : upd (fun _ => none) a (.frz { cls := .type "list", data := .seq vs.toArray } (.lst (ns.map V.int))) a = some (.frz { cls := .type "list", data := .seq vs.toArray } (.lst (ns.map V.int))) := upd_same
    have hO : Only (upd (fun _ => none) a (.frz { cls := .type "list", data := .seq vs.toArray } (.lst (ns.map V.int)))) := fun b => by
      by_cases h : b = a
      · exact .inr ⟨_, _, by rw [h]; exact same⟩
      · exact .inl (by rw [upd_ne h])
    refine law_at0 KX hns hb hbb hlim hg ha F hbind hO (fun b u z => ?_) (fun b z => ?_) (fun _ => hk) (hsp _ hO (.inl (.inr ⟨_, same⟩)))
    · by_cases h : b = a
      · subst h
        rw [same] at z
        cases z
        exact ⟨ha, by rw [List.length_map]; exact hl, vs, _, rv, ha⟩
      · rw [upd_ne h] at z
        cases z
    · exact Classical.byContradiction fun h => z (by rw [upd_ne h])
end
/-- the end of a law's row -/
theorem walk_at {l : PySem.W.OpenLaw} {n : Nat} {q : Program} {loose : List Str} {XP : (Str → Option Value) → Heap → Prop} {YP : World → Heap → Prop} {d : DefRec} {K : Params → PySem.W.Frag} {sp : PySem.W.Frag → Sp} {x : Str}
    (hn : l.most = some n) (hn2 : n ≤ sizeLine) (hdf : d.params.defaults = []) (hY : ∀ (w : World) (h : Heap), YP w h → (K w.params).In h)
    (F : ∀ (w : World) (mg : Str → Option Value) (fa : Addr) (h : Heap), (K w.params).In h → h.Ns mainGlobals mg → mg d.name = some (.ref fa) →
      ∃ fd : FuncData, (∀ (s : Shared) (u : Value), BindsTo s fd ⟨[u], []⟩ [(x, u)]) ∧ ∀ base : Heap, (K w.params).In base → base.Ns mainGlobals mg → FnAt callerA l.prog w (K w.params) mg base CX0 fa fd [x] (sp (K w.params)))
    (hsp : ∀ (K : PySem.W.Frag) (H : Hp) (a : Addr) (ns : List Int), ns.length ≤ n → Only H → SqL K H a (ns.map V.int) → sp K [.ref a] H (fun v _ => v = .bl true) fun _ _ _ => False) :
    PySem.W.WalkO q loose XP YP l.row.toRowW d [] (fun f vs => PySem.call f vs) :=
  Att.attach_call hn hdf fun w s₀ s₁ mg mb fa o pm cd doc a vs ns G Y ho hd hcd hmg hobj hints hlen hg => by
    obtain ⟨fd, hb, hF⟩ := F w mg fa _ (hY w _ Y) G.T.g hmg
    exact law_at (hY w _ Y) G.T.g G.T.b G.T.builtins G.T.nolimit hg hobj hints (Nat.le_trans hlen hn2) hF hb fun H hO hS => hsp _ H a ns hlen hO hS
/-- C() of an own error class without an __init__ of its own -/
theorem pe_excP {X : Cx} {x : Str} {C : Addr} {p pos : Pos} {bmB : List Value} {B newId initId : String} (F : ExcBaseFacts B newId initId bmB) (q : PySem.W.excIn X.K C bmB newId = true) (kC : PySem.W.keepIn X.K (.ref C) = true) (hg : Gl X x) (hm : X.mg x = some (.ref C))
    (hdb : (x == ("__debug__" : Str)) = false := by decide) : PE X (.Call (.Name x p) [] [] pos) (fun _ H Q => ∀ a, H a = none → Q (.ref a) (upd H a (exo a C none))) := by
  refine ⟨fun pins s σ H Q I h => ?_⟩
  refine wpAny_Call_Name_kw (ld_glob I hg hm ?_ hdb)
  refine PySem.W.callWith_K0 I.kIn kC ?_
  show wpAny _ _ (call (.ref C) []) _ _ _
  obtain ⟨bm, N, nm, qn, bs, hdct, sn, sub, ab, col, dd, k0, k1, k2, k3, k5, mN, hC, hN, hni, T⟩ := exc_obj I.kIn q
  refine wpAny_call_exc_subT F T hC hN hni (fun h' a hm => ?_) (by show 0 ≤ sizeLine; decide)
  have hn : H a = none := I.hok.gone hm.new
  obtain ⟨t, ht, _, _⟩ := hm.there
  exact ⟨.ref a, upd H a (exo a C none), I.laidN hm.keeps hm.new hn (exo_ok ht), rfl, h a hn⟩
end Ev
set_option maxHeartbeats 4000000
/-! Objects of an own class, made where the making may raise; == by an own __eq__, with anything. -/
namespace Ev
open PySem PySem.Spec PyProof.Rows L2
section
variable {X : Cx} {CX : CXT} {k : Nat} {f C : Addr} {fd : FuncData} {ps : List Str} {sp : Sp} {x : Str} {p pos : Pos} {e : Expr} {es : List Expr} {t : TA}
theorem run_mkAt {pins : List (Addr × Obj)} {σ : L2.St} {H : Hp} {s : Shared} {Q : VK} {us : List Value} {vs : List V} {E : XK} (M : Mk X.K C f) (F : FnOk X.prog X.w X.K X.mg X.base CX k f fd ps sp) (hr : Room (k + 1) X.A) (hb : Binds X.K fd ps []) (hx : PassesAt CX X σ E) (I : Inv X pins σ H s) (r : Vals vs us)
    (h : ∀ a dx, H a = none → H dx = none → dx ≠ a → sp (.ref a :: vs) (upd (upd H dx (.own a)) a (.ins C dx [])) (fun v H2 => v = .non ∧ Q (.ref a) H2) E) :
    wpAny (model X.prog X.w) X.A (call (.ref C) us) (EP X pins σ Q) X.xe s := by
  have q := h (s.heap.objs.size + 1) s.heap.objs.size (I.hok.fresh (Nat.le_succ _)) (I.hok.fresh (Nat.le_refl _)) (Nat.ne_of_lt (Nat.lt_succ_self _))
  have J := Inv.made (C := C) I
  have rv : Vals (V.ref (s.heap.objs.size + 1) :: vs) (Value.ref (s.heap.objs.size + 1) :: us) := .cons rfl r
  have len := F.len _ _ _ _ q
  have lu : (Value.ref (s.heap.objs.size + 1) :: us ++ []).length = ps.length := by
    rw [List.append_nil, ← rv.length]
    exact len
  have bnd := hb _ (Value.ref (s.heap.objs.size + 1) :: us) J.kIn lu
  rw [List.append_nil] at bnd
  have go := F.run _ X.stack _ _ ⟨Value.ref (s.heap.objs.size + 1) :: us, []⟩ (Value.ref (s.heap.objs.size + 1) :: us) _ _ E (hr.make C us []) (J.env0.make C us []) bnd rv q
  refine wpAny_call (make_map (f := f) I.kIn M.makes M.init (beq_iff_eq.mp M.fn) (codeAny_mono go ?_))
  intro res s' got
  match res, got with
  | .error er, got => exact hx pins _ _ er s' J got
  | .ok (.ret u), got =>
    obtain ⟨v, H', I3, ru, rfl, q3⟩ := J.after got
    exact ⟨ru, ⟨V.ref (s.heap.objs.size + 1), H', I3, rfl, q3⟩⟩
  | .ok .next, got => exact got.elim
  | .ok .brk, got => exact got.elim
  | .ok .cont, got => exact got.elim
def tMkS (C : Addr) (sp : Sp) (E : L2.St → XK) (t : TA) : TE := fun σ H Q => t σ H fun vs H1 => ∀ a dx, H1 a = none → H1 dx = none → dx ≠ a →
  sp (.ref a :: vs) (upd (upd H1 dx (.own a)) a (.ins C dx [])) (fun v H2 => v = .non ∧ Q (.ref a) H2) (E σ)
theorem pe_mkS {E : L2.St → XK} (M : Mk X.K C f) (F : FnOk X.prog X.w X.K X.mg X.base CX k f fd ps sp) (hr : Room (k + 1) X.A) (hg : Gl X x) (hm : X.mg x = some (.ref C)) (hb : Binds X.K fd ps []) (hx : ∀ σ, PassesAt CX X σ (E σ)) (ha : PA X (e :: es) t)
    (hdb : (x == ("__debug__" : Str)) = false := by decide) (he : starEach (e :: es) X.env = (false, eval e X.env) :: starEach es X.env := by rfl) (hpl : (backTo pos (starEach es X.env)).any (·.1) = false := by rfl) :
    PE X (.Call (.Name x p) (e :: es) [] pos) (tMkS C sp E t) := by
  constructor
  intro pins s σ H Q I h
  refine wpAny_Call_Name_kw (ld_glob I hg hm ?_ hdb)
  refine PySem.W.callWith_K (h₀ := X.base) I.ok.mod.kin M.kp (thn (ha.run pos pins s σ H _ I h) ?_) he hpl
  rintro us s1 ⟨vs, H1, I1, r, q⟩
  exact ⟨I1.kIn, run_mkAt M F hr hb (hx σ) I1 r q⟩
theorem passL_at (σ : L2.St) : PassesAt (L2.CX X.prog X.w) X σ E0 := fun pins H s e s' I h => passL pins σ H s e s' I h
/-- x == y, x an object of the class at C -/
def rEqO (C : Addr) (K : PySem.W.Frag) (sp : Sp) (E : XK) : R2 := fun x y H Q => ∃ a dx fs t, x = .ref a ∧ H a = some (.ins C dx fs) ∧ TyX K H y t ∧ PySem.W.notFirst K C t = true ∧ sp [x, y] H (fun v H' => (∃ b, v = .bl b) ∧ Q v H') E
theorem op_eqO {E : XK} (F : FnOk X.prog X.w X.K X.mg X.base CX k f fd ps sp) (hs : PySem.W.findIn X.K (.ref C) "__eq__" = some (some (.ref f))) (hf : PySem.W.isFn X.K (.ref f) = true) (hb : Binds X.K fd ps []) (hx : Passes CX X E) (hr : Room k X.A) : OpR X (compareOp .Eq) (rEqO C X.K sp E) := by
  intro pins s σ H x y v u Q I rx ry h
  obtain ⟨a, dx, fs, t, rfl, ha, ty, nf, q⟩ := h
  cases rx
  obtain ⟨mA, J, _⟩ := ins_get I.hok ha
  obtain ⟨od, J, _⟩ := J.look
  obtain ⟨m, hF⟩ := I.fr
  obtain ⟨P, Z, hp, _⟩ := kit_of I ry ty
  show wpAny (model X.prog X.w) X.A (richCompare .Eq _ u) (EP X pins σ Q) X.xe s
  refine PySem.W.cmp_K (op := .Eq) (tb := t) hr.units0 hF I.ok.mod.kin J (Z.ty _ _ I.kIn hp) nf hs hf ?_
  have len := F.len _ _ _ _ q
  have rv : Vals [V.ref a, y] [Value.ref a, u] := .cons rfl (.cons ry .nil)
  have bnd := hb s [Value.ref a, u] I.kIn (by simpa using len)
  have go := F.run X.A X.stack s H ⟨[Value.ref a, u], []⟩ [Value.ref a, u] [V.ref a, y] _ E hr I.env0 (by simpa using bnd) rv q
  refine wpAny_call (codeAny_mono go ?_)
  intro res s' got
  match res, got with
  | .error er, got => exact hx pins σ H s er s' I got
  | .ok (.ret w), got =>
    obtain ⟨z, H', I', rz, ⟨b, rfl⟩, q'⟩ := I.after got
    cases rz
    exact ⟨.bl b, H', I', rfl, q'⟩
  | .ok .next, got => exact got.elim
  | .ok .brk, got => exact got.elim
  | .ok .cont, got => exact got.elim
end
end Ev
set_option maxHeartbeats 4000000
/-! A text read from its end. -/
namespace Ev
open PySem PySem.Spec PyProof.Rows L2
def revC (z : Str) : List Nat := (List.range z.length).map fun k => z.cps.getD (z.length - 1 - k) 0
def revZ (z : Str) : Str := SX.S (revC z)
theorem rev_pick (z : Str) : (Builtin.Str.strSliceIndices none none (-1) z.length).filterMap (z.cps[·]?) = revC z := by
  rw [picked_rev, filterMap_get, List.map_map]
  · rfl
  · intro i hi
    obtain ⟨k, hk, rfl⟩ := List.mem_map.mp hi
    have hk' := List.mem_range.mp hk
    show z.length - 1 - k < z.length
    omega
theorem revC_len (z : Str) : (revC z).length = z.length := by
  unfold revC
  rw [List.length_map, List.length_range]
theorem revZ_len (z : Str) : (revZ z).length = z.length := (SX.S_len _).trans (revC_len z)
theorem revC_mem {z : Str} {c : Nat} (h : c ∈ revC z) : c ∈ z.cps.toList := by
  obtain ⟨k, hk, rfl⟩ := List.mem_map.mp h
  have hk' := List.mem_range.mp hk
  have hi : z.length - 1 - k < z.cps.size := by
    show z.length - 1 - k < z.length
    omega
  have e : z.cps.getD (z.length - 1 - k) 0 = z.cps[z.length - 1 - k] := by simp [Array.getD, hi]
  rw [e]
  exact Array.getElem_mem_toList hi
theorem sgB_rev {z : Str} (h : sgB z = true) : sgB (revZ z) = true := List.all_eq_true.mpr fun c hc => sgB_mem h (revC_mem hc)
def tRevS (te : TE) : TE := fun σ H Q => te σ H fun x H1 => ∃ z : Str, x = .str z ∧ z.length ≤ sizeLine ∧ Q (.str (revZ z)) H1
theorem pe_revS {X : Cx} {e : Expr} {te : TE} {k : Nat} {p1 p2 p3 pos : Pos} (he : PE X e te) :
    PE X (.Subscript e (.Slice none none (some (.UnaryOp .USub (.Constant (.int 1) k p1) p2)) p3) pos) (tRevS te) := by
  constructor
  intro pins s σ H Q I h
  apply Subscript_
  refine thn (he.run pins s σ H _ I h) ?_
  rintro v s1 ⟨x, H1, I1, r1, z, rfl, hz, q⟩
  obtain ⟨t, rfl⟩ := r1
  have hst : PO X (some (.UnaryOp .USub (.Constant (.int 1) k p1) p2)) _ := po_some (pe_un un_neg pe_int)
  apply wpAny_Slice
  refine thn (po_none.run pins s1 σ H1 (fun o H2 => o = none ∧ H2 = H1) I1 ⟨rfl, rfl⟩) ?_
  rintro vl s2 ⟨l, H2, I2, pl, rfl, rfl⟩
  refine thn (po_none.run pins s2 σ _ (fun o H3 => o = none ∧ H3 = H2) I2 ⟨rfl, rfl⟩) ?_
  rintro vu s3 ⟨u, H3, I3, pu, rfl, rfl⟩
  refine thn (hst.run pins s3 σ _ (fun o H4 => o = some (-1) ∧ H4 = H3) I3 ⟨1, rfl, -1, rfl, rfl, rfl⟩) ?_
  rintro vs s4 ⟨o, H4, I4, pz, rfl, rfl⟩
  have I5 := I4.kept (t' := s4.toks) (h' := s4.heap.push { cls := .type "slice", data := .fields #[vl, vu, vs] }) fun b ob g => Heap.get?_push_of_some _ g
  obtain ⟨l', rfl, el⟩ := IsPart.raw pl
  obtain ⟨u', rfl, eu⟩ := IsPart.raw pu
  obtain ⟨w', rfl, ew⟩ := IsPart.raw pz
  refine tail_any (ops := [.str z t, .ref s4.heap.objs.size]) (typeIs_str _ _ _) F.slot_str_getitem.lookup ?_ (by with_unfolding_all rfl)
  have e1 : ((w'.map (·.1)).getD 1 == 1) = false := by rw [ew]; rfl
  have e0 : ((w'.map (·.1)).getD 1 == 0) = false := by rw [ew]; rfl
  refine wpAny_getItem_str_slice (l := l') (u := u') (st := w') (Heap.IsSliceOf.new ..) e0 ?_
  have em : sliceMade z t l' u' w' = Made.str (revZ z) := by
    unfold sliceMade
    rw [e1, Bool.false_and, if_neg (by decide)]
    have e2 : slicePicked z l' u' w' = Builtin.Str.strSliceIndices none none (-1) z.length := by
      unfold slicePicked
      rw [el, eu, ew]
      rfl
    rw [e2, rev_pick]
    rfl
  rw [em]
  refine ⟨?_, .str (revZ z), H4, I5.tok _, ⟨_, rfl⟩, q⟩
  rw [revZ_len]
  exact hz
end Ev
set_option maxHeartbeats 4000000
/-! Tuples of texts as data. -/
namespace Ev
open PySem PySem.Spec PyProof.Rows L2
theorem dp_strs {K : PySem.W.Frag} {H : Hp} : ∀ ts : List Str, DpAll K H (ts.map V.str) (ts.map PyData.str)
  | [] => .nil
  | t :: ts => .cons (.str t) (dp_strs ts)
theorem eqv_strs : ∀ ts us : List Str, PyData.eqvAll (ts.map PyData.str) (us.map PyData.str) = decide (ts = us)
  | [], [] => by rw [decide_eq_true rfl]; rfl
  | [], u :: us => by rw [decide_eq_false (by simp)]; rfl
  | t :: ts, [] => by rw [decide_eq_false (by simp)]; rfl
  | t :: ts, u :: us => by
    show (PyData.eqv (.str t) (.str u) && PyData.eqvAll (ts.map PyData.str) (us.map PyData.str)) = _
    rw [eqv_strs ts us]
    show ((t == u) && _) = _
    by_cases e : t = u
    · subst e
      by_cases e2 : ts = us
      · subst e2
        simp
      · simp [e2]
    · have : (t == u) = false := by simpa using e
      rw [this, Bool.false_and, decide_eq_false fun z => e (by injection z)]
theorem strOk_sg {t : Str} (h : sgB t = true) : PyData.strOk t = true := by
  have g : ∀ c ∈ t.cps.toList, c ≤ 126 := fun c hc => by
    have := sgB_mem h hc
    unfold sgC at this
    exact of_decide_eq_true (Bool.and_eq_true_iff.mp this).2
  show t.cps.all (· < 0x110000) = true
  rw [← Array.all_toList, List.all_eq_true]
  intro c hc
  have := g c hc
  exact decide_eq_true (by omega)
theorem shaped_strs {ts : List Str} (h : ∀ t ∈ ts, sgB t = true) : SeqAt.shaped (.tuple (ts.map PyData.str)) = true := by
  have h1 : ∀ us : List Str, (∀ t ∈ us, sgB t = true) → PyData.canLayAll0 (us.map PyData.str) = true := fun us hu => by
    induction us with
    | nil => rfl
    | cons u us ih =>
      show (PyData.strOk u && PyData.canLayAll0 (us.map PyData.str)) = true
      rw [strOk_sg (hu u (by simp)), ih fun t ht => hu t (List.mem_cons_of_mem _ ht)]
      rfl
  have h2 : ∀ us : List Str, PyData.depthAll (us.map PyData.str) ≤ 1 := fun us => by
    induction us with
    | nil => exact Nat.zero_le _
    | cons u us ih =>
      simp only [List.map_cons, PyData.depthAll, PyData.depth]
      omega
  unfold SeqAt.shaped
  have a : (PyData.tuple (ts.map PyData.str)).canLay0 = true := h1 ts h
  have b : (PyData.tuple (ts.map PyData.str)).depth ≤ 64 := by
    have := h2 ts
    simp only [PyData.depth]
    omega
  rw [a, decide_eq_true b]
  rfl
end Ev
set_option maxHeartbeats 4000000
namespace LawK
open PySem PySem.Spec PyProof.Rows L2 Ev
theorem due_len {ts : List Str} (len : ∀ t ∈ ts, t.length ≤ 200) (few : ts.length ≤ 8) : (due ts).length ≤ 320000 := by
  have a := pcs_sum (sOf ts) (nP ts)
  have b : ∀ n, ((List.range n).map fun i => (sOf ts i).length).sum ≤ 200 * n := fun n => by
    induction n with
    | zero => exact Nat.le_refl _
    | succ n ih =>
      rw [List.range_succ, List.map_append, List.sum_append]
      simp only [List.map_cons, List.map_nil, List.sum_cons, List.sum_nil]
      have : (sOf ts n).length ≤ 200 := by
        unfold sOf
        rw [← len_S]
        exact sfx_len2 len _
      omega
  have c := b (nP ts)
  have d : nP ts ≤ 1600 := ord_len len few
  have : (due ts).length = (pcs (sOf ts) (nP ts)).length := by unfold due; rw [List.length_map]
  omega

def spLaw (K : PySem.W.Frag) : Sp := fun vs H Q _ => ∃ (a : Addr) (ns : List Int), vs = [.ref a] ∧ SqL K H a (ns.map V.int) ∧ ∀ H', Q (.bl true) H'
/-- no number of a piece, no length -/
def Odd (H : Hp) (ts : List Str) (y : V) : Prop := (∃ k, Kd H y k) ∧ manyV y = false ∧ pieceV ts y = false
theorem Odd.but {H H' : Hp} {ts : List Str} {p l : Addr} {y : V} (h : Odd H ts y) (h0 : HandL H p l) (h1 : HandL H' p l) (b : But p H H') : Odd H' ts y := ⟨let ⟨k, q⟩ := h.1; ⟨k, Kd.but q h0 h1 b⟩, h.2⟩
abbrev sLaw : Stmt := topS 53
theorem scLaw : FnScope ["script", "hand", "texts", "library", "many", "turn", "odd", "wrong", "right"] ["script"] (defScope sLaw) := ⟨rfl, rfl, rfl, by decide +kernel, rfl, by decide +kernel, by decide +kernel⟩
section
variable {P : Program} {w : World} {K : PySem.W.Frag} {mg : Str → Option Value} {base : Heap}
variable {C fI : Addr} {fdI : FuncData}

theorem ok_law {f : Addr} {fd : FuncData} (F : Fun K "law" "law" sLaw f fd) {fPAllPieces : Addr} {fdPAllPieces : FuncData} (DPAllPieces : Dk P w K mg base "all_pieces" sPAllPieces ["library"] 6 (spAllPieces C) fPAllPieces fdPAllPieces) {fHand : Addr} {fdHand : FuncData} (DHand : Dk P w K mg base "_law_hand" sHand ["script"] 1 (spHand K) fHand fdHand) {fDraw : Addr} {fdDraw : FuncData} (DDraw : Dk P w K mg base "_law_draw" sDraw ["hand", "many"] 1 spDraw fDraw fdDraw) {fTexts : Addr} {fdTexts : FuncData} (DTexts : Dk P w K mg base "_law_texts" sTexts ["hand", "most"] 5 spLTexts fTexts fdTexts) {fError : Addr} {fdError : FuncData} (DError : Dk P w K mg base "_law_error" sError ["word", "library", "one", "two"] 9 (spLError C) fError fdError) {fAreWordsRefused : Addr} {fdAreWordsRefused : FuncData} (DAreWordsRefused : Dk P w K mg base "_law_are_words_refused" sAreWordsRefused ["hand", "library", "texts"] 10 (spLWords C) fAreWordsRefused fdAreWordsRefused) (L : LibC K mg C fI fdI) (GI : FnOk P w K mg base (L2.CX P w) 4 fI fdI ["self", "texts"] (spLInit C))
    (T : Glob mg) : FnAt callerA P w K mg base CX0 f fd ["script"] (spLaw K) := by
  refine fun_at (k := 12) F scLaw ⟨rfl, by decide, by decide⟩ (fun vs H Q E h => ?_) (fun cdv outer s H vs Q E hr h => ?_)
  · obtain ⟨a, ns, rfl, _⟩ := h
    rfl
  · refine ⟨_, (pss_cons (ps_set (i := 1) scLaw.nd rfl (.inl rfl) (pe_call DHand.ok (hr.mono (by decide)) (by rfl) DHand.g DHand.F.kp DHand.b .nil pass0 (pa_cons (pv 0) pa_nil)))
      (pss_cons (ps_set (i := 2) scLaw.nd rfl (.inl rfl) (pe_call DTexts.ok (hr.mono (by decide)) (by rfl) DTexts.g DTexts.F.kp DTexts.b .nil pass0 (pa_cons (pv 1) (pa_cons pe_int pa_nil))))
      (pss_cons (ps_set (i := 3) scLaw.nd rfl (.inl rfl) (pe_mkS (E := fun _ => E0) L.mak GI (hr.mono (by decide)) (by rfl) L.g L.bI (fun σ => passL_at σ) (pa_cons (pv 2) pa_nil)))
      (pss_cons (ps_set (i := 4) scLaw.nd rfl (.inl rfl) (pe_call DPAllPieces.ok (hr.mono (by decide)) (by rfl) DPAllPieces.g DPAllPieces.F.kp DPAllPieces.b .nil pass0 (pa_cons (pv 3) pa_nil)))
      (pss_cons (ps_if (pt_not (pt_val (pe_call DAreWordsRefused.ok (hr.mono (by decide)) (by rfl) DAreWordsRefused.g DAreWordsRefused.F.kp DAreWordsRefused.b .nil pass0 (pa_cons (pv 1) (pa_cons (pv 3) (pa_cons (pv 2) pa_nil))))))
      (pss_one (ps_ret pe_bl))
      pss_nil)
      (pss_cons (ps_for PassesOwn.never rfl (pi_range1 (by rfl) T.range (pa_cons pe_int pa_nil)) (pg_name (i := 5) scLaw.nd rfl (.inl rfl))
      (pss_cons (ps_set (i := 6) scLaw.nd rfl (.inl rfl) (pe_ix ix_list (pe_lst (pa_cons (pe_un un_neg pe_int) (pa_cons pe_bl (pa_cons pe_bl (pa_cons pe_non (pa_cons pe_str (pa_cons (pe_tup (pa_cons pe_int pa_nil)) (pa_cons (pe_op op_pow pe_int pe_int) (pa_cons (pe_lst (pa_cons pe_int pa_nil)) (pa_cons pe_dnewK pa_nil)))))))))) (pe_call DDraw.ok (hr.mono (by decide)) (by rfl) DDraw.g DDraw.F.kp DDraw.b .nil pass0 (pa_cons (pv 1) (pa_cons pe_int pa_nil))) (fun _ _ => rfl)))
        (pss_cons (ps_for PassesOwn.never rfl (pi_list (pe_lst (pa_cons (pv 6) (pa_cons (pv 4) pa_nil)))) (pg_name (i := 7) scLaw.nd rfl (.inl rfl))
        (pss_one (ps_if (pt_cmpR op_ne (pe_call DError.ok (hr.mono (by decide)) (by rfl) DError.g DError.F.kp DError.b .nil pass0 (pa_cons pe_str (pa_cons (pv 3) (pa_cons (pv 7) (pa_cons pe_int pa_nil))))) pe_str (nomark _))
          (pss_one (ps_ret pe_bl))
          pss_nil)))
        (pss_cons (ps_for PassesOwn.never rfl (pi_list (pe_lst (pa_cons (pv 6) (pa_cons pe_int (pa_cons pe_int pa_nil))))) (pg_name (i := 7) scLaw.nd rfl (.inl rfl))
        (pss_one (ps_if (pt_cmpR op_ne (pe_call DError.ok (hr.mono (by decide)) (by rfl) DError.g DError.F.kp DError.b .nil pass0 (pa_cons pe_str (pa_cons (pv 3) (pa_cons (pv 7) (pa_cons pe_int pa_nil))))) pe_str (nomark _))
          (pss_one (ps_ret pe_bl))
          pss_nil)))
        (pss_cons (ps_for PassesOwn.never rfl (pi_list (pe_lst (pa_cons pe_int (pa_cons pe_int (pa_cons (pe_op op_add pe_int (pe_call DDraw.ok (hr.mono (by decide)) (by rfl) DDraw.g DDraw.F.kp DDraw.b .nil pass0 (pa_cons (pv 1) (pa_cons pe_int pa_nil)))) pa_nil))))) (pg_name (i := 8) scLaw.nd rfl (.inl rfl))
        (pss_one (ps_if (pt_cmpR op_ne (pe_call DError.ok (hr.mono (by decide)) (by rfl) DError.g DError.F.kp DError.b .nil pass0 (pa_cons pe_str (pa_cons (pv 3) (pa_cons (pv 8) (pa_cons pe_int pa_nil))))) pe_str (nomark _))
          (pss_one (ps_ret pe_bl))
          pss_nil)))
        (pss_one (ps_if (PW.pt (pw_and (pt_cmpR op_gt (pv 4) pe_int (nomark _)) (pw_and1 (pt_cmpR op_ne (pe_call DError.ok (hr.mono (by decide)) (by rfl) DError.g DError.F.kp DError.b .nil pass0 (pa_cons pe_str (pa_cons (pv 3) (pa_cons (pe_op op_sub (pv 4) pe_int) (pa_cons pe_int pa_nil))))) pe_str (nomark _)))))
        (pss_one (ps_ret pe_bl))
        pss_nil)))))))
      (pss_one (ps_ret (pe_and (pe_cmpR op_eq (pe_call DPAllPieces.ok (hr.mono (by decide)) (by rfl) DPAllPieces.g DPAllPieces.F.kp DPAllPieces.b .nil pass0 (pa_cons (pv 3) pa_nil)) (pv 4) (nomark _)) (pe_one (pe_cmpR (op_eqD hr.units) (pe_fld (pv 3) rfl) (pv 2) (nomark _)))))))))))), ?_⟩
    obtain ⟨a, ns, rfl, hS, q⟩ := h
    have s1 : 1 ≤ sizeLine := by decide
    have s2 : 2 ≤ sizeLine := by decide
    have s3 : 3 ≤ sizeLine := by decide
    refine ⟨.ref a, rfl, a, ns, rfl, hS, fun p l H1 np nl h1 k1 => ?_⟩
    refine ⟨.ref p, rfl, p, 8, rfl, by decide, by decide, l, h1, fun ta ts H2 hta few2 sg2 len2 h2 b2 => ?_⟩
    have ht : TsAt H2 ta ts := ⟨hta, few2, sg2, fun t h => by have := len2 t h; omega⟩
    have h4 := h2
    refine ⟨.ref ta, rfl, fun s dx ns' ndx ndxs => ?_⟩
    refine ⟨s, dx, ta, ts, rfl, upd_same, lib_in ht ns' ndx ndxs, ht.few, ht.sg, ht.len, fun H5 ha5 ho5 => ⟨rfl, ?_⟩⟩
    obtain ⟨k5, hL⟩ := lib_new ht ns' ndx ndxs ha5 ho5
    have ht := ht.same k5
    have h4 := h4.same k5
    clear ha5 ho5 ns' ndx ndxs
    have dl := due_len ht.len ht.few
    refine ⟨.ref s, rfl, s, ts, rfl, hL, fun H6 k6 => ?_⟩
    have ht := ht.same k6
    have hL := hL.same k6
    have h4 := h4.same k6
    refine ⟨.ref p, rfl, .ref s, rfl, .ref ta, rfl, p, s, ta, ts, rfl, hL, ht, l, h4, fun H7 n7 => ⟨_, rfl, iteF ?_⟩⟩
    have ht := ht.but h4 n7.but
    have hL := hL.but h4 n7.but
    have h4 := n7.at_
    clear n7 k6 k5
    refine ⟨_, rfl, by decide, by decide, for_range (fun i σ H' => ∃ u5 u6 u7 u8 : Option V, σ = [some (.ref a), some (.ref p), some (.ref ta), some (.ref s), some (iN (due ts).length), u5, u6, u7, u8] ∧ HandL H' p l ∧ TsAt H' ta ts ∧ LibAt H' C s ts) ⟨_, _, _, _, rfl, h4, ht, hL⟩ ?_ ?_⟩
    · clear h4 ht hL
      rintro i σ H8 hi ⟨u5, u6, u7, u8, rfl, h4, ht, hL⟩
      refine ⟨_, rfl, s1, fun t1 nt1 => ?_⟩
      refine ⟨_, _, rfl, rfl, ⟨by decide, by decide, by decide⟩, s1, fun t2 nt2 => ?_⟩
      refine fun t3 nt3 => ⟨by show 9 ≤ sizeLine; decide, fun b nb => ?_⟩
      have k1 := Same.new (o := .tup [.int 1]) nt1
      have k2 := Same.new (o := .lst [.int 0]) nt2
      have k3 := Same.new (o := .dK []) nt3
      have kb := Same.new (o := .lst [V.int (-1), .bl true, .bl false, .non, .str "1", .ref t1, .int (10 ^ (19 : Int).toNat), .ref t2, .ref t3]) nb
      have e1 := (k2.trans (k3.trans kb)) _ _ (upd_same (a := t1) (o := .tup [.int 1]))
      have e2 := (k3.trans kb) _ _ (upd_same (a := t2) (o := .lst [.int 0]))
      have e3 := kb _ _ (upd_same (a := t3) (o := .dK []))
      have kk := k1.trans (k2.trans (k3.trans kb))
      have h9 := h4.same kk
      have ht := ht.same kk
      have hL := hL.same kk
      have hall : ∀ H9 : Hp, H9 t1 = some (.tup [.int 1]) → H9 t2 = some (.lst [.int 0]) → H9 t3 = some (.dK []) → ∀ y ∈ [V.int (-1), .bl true, .bl false, .non, .str "1", .ref t1, .int (10 ^ (19 : Int).toNat), .ref t2, .ref t3], Odd H9 ts y := by
        intro H9 e1 e2 e3 y hy
        have big : (10 : Int) ^ (19 : Int).toNat = 10000000000000000000 := by decide +kernel
        simp only [List.mem_cons, List.not_mem_nil, or_false] at hy
        rcases hy with rfl | rfl | rfl | rfl | rfl | rfl | rfl | rfl | rfl
        · exact ⟨⟨_, .int _⟩, rfl, rfl⟩
        · exact ⟨⟨_, .bl _⟩, rfl, rfl⟩
        · exact ⟨⟨_, .bl _⟩, rfl, rfl⟩
        · exact ⟨⟨_, .non⟩, rfl, rfl⟩
        · exact ⟨⟨_, .str _⟩, rfl, rfl⟩
        · exact ⟨⟨_, .tup e1⟩, rfl, rfl⟩
        · exact ⟨⟨_, .int _⟩, by decide +kernel, by show (decide ((0 : Int) ≤ 10 ^ (19 : Int).toNat) && decide ((10 ^ (19 : Int).toNat : Int) < ((due ts).length : Nat))) = false; rw [decide_eq_false (show ¬ ((10 ^ (19 : Int).toNat : Int) < ((due ts).length : Nat)) by omega), Bool.and_false]⟩
        · exact ⟨⟨_, .lst e2⟩, rfl, rfl⟩
        · exact ⟨⟨_, .dic e3⟩, rfl, rfl⟩
      refine ⟨.ref p, rfl, p, 9, rfl, by decide, by decide, l, h9, fun v H9 v0 v1 h10 b10 => ?_⟩
      obtain ⟨y, ey, my⟩ := atI_in (xs := [V.int (-1), .bl true, .bl false, .non, .str "1", .ref t1, .int (10 ^ (19 : Int).toNat), .ref t2, .ref t3]) v0 v1
      have gb := b10 b _ (hand_ne h9 upd_same (fun x1 x2 x3 x4 x5 z => by cases z)) upd_same
      have od : Odd H9 ts y := Odd.but (hall _ e1 e2 e3 y my) h9 h10 b10
      have ht := ht.but h9 b10
      have hL := hL.but h9 b10
      refine ⟨b, _, v, y, rfl, rfl, sq_of gb, ey, ?_⟩
      clear hall e1 e2 e3 gb kb
      dsimp only [tNext, tDrop]
      refine ⟨y, rfl, _, rfl, s2, fun B nB => ⟨B, rfl, ⟨_, sq_of upd_same⟩, for_list (K := K) (xs := [y, iN (due ts).length]) (fun i σ H' => ∃ u7 : Option V, σ = [some (.ref a), some (.ref p), some (.ref ta), some (.ref s), some (iN (due ts).length), _, some y, u7, u8] ∧ Same H9 H' ∧ H' B = some (.lst [y, iN (due ts).length])) ⟨_, rfl, Same.new nB, upd_same⟩ (fun i σ H' _ ⟨_, _, _, w⟩ => sq_of w) ?_ ?_⟩⟩
      · rintro j x σ H11 hx ⟨u7, rfl, k11, hB⟩
        have ox : (∃ k, Kd H9 x k) ∧ pieceV ts x = false := by
          have mx := List.mem_of_getElem? hx
          simp only [List.mem_cons, List.not_mem_nil, or_false] at mx
          rcases mx with rfl | rfl
          · exact ⟨od.1, od.2.2⟩
          · exact ⟨⟨_, .int _⟩, by show (decide ((0 : Int) ≤ ((due ts).length : Nat)) && decide ((((due ts).length : Nat) : Int) < ((due ts).length : Nat))) = false; rw [decide_eq_false (Int.lt_irrefl _), Bool.and_false]⟩
        obtain ⟨⟨k, hk⟩, px⟩ := ox
        refine ⟨.ref s, rfl, x, rfl, s, "piece_numbered", x, .int 0, ts, _, rfl, hL.same k11, .pn (hk.same k11), fun H12 k12 => ⟨rfl, _, rfl, iteNS (congrArg V.str (by rw [if_neg (by rw [px]; decide)]; rfl)) ?_⟩⟩
        exact ⟨_, rfl, k11.trans k12, k12 _ _ hB⟩
      rintro σ H11 ⟨u7', rfl, k11, _⟩
      clear nB
      refine ⟨y, rfl, s3, fun B nB => ⟨B, rfl, ⟨_, sq_of upd_same⟩, for_list (K := K) (xs := [y, .int 0, .int 2001]) (fun i σ H' => ∃ u7 : Option V, σ = [some (.ref a), some (.ref p), some (.ref ta), some (.ref s), some (iN (due ts).length), _, some y, u7, u8] ∧ Same H9 H' ∧ H' B = some (.lst [y, .int 0, .int 2001])) ⟨_, rfl, k11.trans (Same.new nB), upd_same⟩ (fun i σ H' _ ⟨_, _, _, w⟩ => sq_of w) ?_ ?_⟩⟩
      · rintro j x σ H13 hx ⟨u7, rfl, k13, hB⟩
        have ox : (∃ k, Kd H9 x k) ∧ manyV x = false := by
          have mx := List.mem_of_getElem? hx
          simp only [List.mem_cons, List.not_mem_nil, or_false] at mx
          rcases mx with rfl | rfl | rfl
          · exact ⟨od.1, od.2.1⟩
          · exact ⟨⟨_, .int _⟩, by decide +kernel⟩
          · exact ⟨⟨_, .int _⟩, by decide +kernel⟩
        obtain ⟨⟨k, hk⟩, px⟩ := ox
        refine ⟨.ref s, rfl, x, rfl, s, "many_long", x, .int 0, ts, _, rfl, hL.same k13, .ml (hk.same k13), fun H12 k12 => ⟨rfl, _, rfl, iteNS (congrArg V.str (by rw [if_neg (by rw [px]; decide)]; rfl)) ?_⟩⟩
        exact ⟨_, rfl, k13.trans k12, k12 _ _ hB⟩
      rintro σ H13 ⟨u7'', rfl, k13, _⟩
      clear nB
      have h13 := h10.same k13
      have ht := ht.same k13
      have hL := hL.same k13
      refine ⟨.ref p, rfl, p, 2000, rfl, by decide, by decide, l, h13, fun d H14 d0 d1 h14 b14 => ?_⟩
      have ht := ht.but h13 b14
      have hL := hL.but h13 b14
      refine ⟨_, _, rfl, rfl, s3, fun B nB => ⟨B, rfl, ⟨_, sq_of upd_same⟩, for_list (K := K) (xs := [.int 1, .int 2000, .int (1 + d)]) (fun i σ H' => ∃ u8 : Option V, σ = [some (.ref a), some (.ref p), some (.ref ta), some (.ref s), some (iN (due ts).length), _, some y, u7'', u8] ∧ Same H14 H' ∧ H' B = some (.lst [.int 1, .int 2000, .int (1 + d)])) ⟨_, rfl, Same.new nB, upd_same⟩ (fun i σ H' _ ⟨_, _, _, w⟩ => sq_of w) ?_ ?_⟩⟩
      · rintro j x σ H15 hx ⟨u7, rfl, k15, hB⟩
        have ox : (∃ k, Kd H14 x k) ∧ manyV x = true := by
          have mx := List.mem_of_getElem? hx
          simp only [List.mem_cons, List.not_mem_nil, or_false] at mx
          rcases mx with rfl | rfl | rfl
          · exact ⟨⟨_, .int _⟩, by decide +kernel⟩
          · exact ⟨⟨_, .int _⟩, by decide +kernel⟩
          · exact ⟨⟨_, .int _⟩, by show (decide ((1 : Int) ≤ 1 + d) && decide (1 + d ≤ 2000)) = true; rw [decide_eq_true (show (1 : Int) ≤ 1 + d by omega), decide_eq_true (show 1 + d ≤ 2000 by omega)]; rfl⟩
        obtain ⟨⟨k, hk⟩, px⟩ := ox
        refine ⟨.ref s, rfl, x, rfl, s, "many_long", x, .int 0, ts, _, rfl, hL.same k15, .ml (hk.same k15), fun H12 k12 => ⟨rfl, _, rfl, iteNS (congrArg V.str (by rw [if_pos px]; rfl)) ?_⟩⟩
        exact ⟨_, rfl, k15.trans k12, k12 _ _ hB⟩
      rintro σ H15 ⟨u8', rfl, k15, _⟩
      have h15 := h14.same k15
      have ht := ht.same k15
      have hL := hL.same k15
      refine ⟨_, rfl, _, _, rfl, rfl, _, rfl, ite2 (fun c => ?_) (fun c => iteF ⟨_, _, _, _, rfl, h15, ht, hL⟩)⟩
      have c : (0 : Int) < ((due ts).length : Nat) := of_decide_eq_true c
      have px : pieceV ts (.int (((due ts).length : Nat) - 1)) = true := by
        show (decide ((0 : Int) ≤ ((due ts).length : Nat) - 1) && decide ((((due ts).length : Nat) : Int) - 1 < ((due ts).length : Nat))) = true
        rw [decide_eq_true (by omega), decide_eq_true (by omega)]
        rfl
      refine ⟨.ref s, rfl, _, rfl, _, _, rfl, rfl, s, "piece_numbered", .int (((due ts).length : Nat) - 1), .int 0, ts, _, rfl, hL, .pn (.int _), fun H16 k16 => ⟨rfl, _, rfl, iteNS (congrArg V.str (by rw [if_pos px]; rfl)) ?_⟩⟩
      exact ⟨_, _, _, _, rfl, h15.same k16, ht.same k16, hL.same k16⟩
    rintro σ H8 ⟨u5, u6, u7, u8, rfl, h4, ht, hL⟩
    refine ⟨.ref s, rfl, s, ts, rfl, hL, fun H9 k9 => ?_⟩
    refine ⟨_, rfl, rfl, _, rfl, ?_⟩
    rw [decide_eq_true rfl]
    have ht := ht.same k9
    have hL := hL.same k9
    obtain ⟨⟨dx, b, e1, e2⟩, _, sg1, _⟩ := hL
    refine iteT ⟨.ref s, rfl, s, C, dx, _, .ref b, rfl, e1, L.cl, L.nt, lk1, .ref ta, rfl, .tuple (ts.map PyData.str), .tuple (ts.map PyData.str), .tup (SqT.of e2) (dp_strs ts), .tup (SqT.of ht.at_) (dp_strs ts), shaped_strs sg1, shaped_strs sg1, ?_⟩
    have e : PyData.eqv (.tuple (ts.map PyData.str)) (.tuple (ts.map PyData.str)) = true := (eqv_strs ts ts).trans (decide_eq_true rfl)
    rw [e]
    exact q H9
end
end LawK
set_option maxHeartbeats 8000000
namespace LawK
open PySem PySem.Spec PyProof.Rows L2 Ev
structure Df (K : PySem.W.Frag) (mg : Str → Option Value) (x : Str) (st : Stmt) (ps : List Str) (f : Addr) (fd : FuncData) : Prop where
  F : Fun K x x st f fd
  b : Binds K fd ps []
  g : mg x = some (.ref f)
section
variable {P : Program} {w : World} {K : PySem.W.Frag} {mg : Str → Option Value} {h : Heap} {x : Str}
theorem df_mk {st : Stmt} {ps : List Str} {oc kV dc pm cd ct : Value} {od an : Option Addr} {sl : Array (Option Value)} {fa : Addr} (X : K.In h) (G : h.Ns mainGlobals mg)
    (hb : ∀ (kV doc pm : Value) (an : Option Addr) (cdv ct : Value) (us : List Value), us.length = ps.length → bindArgs (PySem.W.fnOf x x (defArgs st) (defBody st) (defScope st) .none kV doc pm an cdv ct) ⟨us, []⟩ = pure (ps.zip us))
    (a : PySem.W.nsIn K mainGlobals x = some (some (.ref fa))) (l : K.lookup fa = some ⟨oc, od, .func (PySem.W.fnOf x x (defArgs st) (defBody st) (defScope st) .none kV dc pm an cd ct), sl⟩)
    (ck : (PySem.W.codeIn K cd x && PySem.W.keepIn K (.ref fa)) = true) : ∃ fd, Df K mg x st ps fa fd := by
  obtain ⟨c1, c2⟩ := Bool.and_eq_true_iff.mp ck
  have F1 := fun_mk (st := st) l c1 c2
  exact ⟨_, F1, F1.binds (ps := ps) hb, PySem.W.mg_of X G a⟩
end
def chkL (K : PySem.W.Frag) (C fI : Addr) : Bool := PySem.W.makesIn K C && (PySem.W.isFn K (.ref fI) && (PySem.W.keepIn K (.ref C) && (PySem.W.plainGet K C Str.empty && (PySem.W.hasDictIn K C && (PySem.W.plainOver K C &&
  (decide (PySem.W.findIn K (.ref C) "__setattr__" = some (some (.builtin "object.__setattr__"))) && decide (PySem.W.findIn K (.ref C) "texts" = some none)))))))
theorem lib_mk {K : PySem.W.Frag} {mg : Str → Option Value} {h : Heap} {oc1 kV1 dc1 pm1 cd1 ct1 : Value} {od1 an1 : Option Addr} {sl1 : Array (Option Value)} {C fI : Addr} (X : K.In h) (G : h.Ns mainGlobals mg)
    (aC : PySem.W.nsIn K mainGlobals "Library" = some (some (.ref C))) (iC : PySem.W.findIn K (.ref C) "__init__" = some (some (.ref fI)))
    (lI : K.lookup fI = some ⟨oc1, od1, .func (PySem.W.fnOf "__init__" "Library.__init__" (defArgs sLInit) (defBody sLInit) (defScope sLInit) .none kV1 dc1 pm1 an1 cd1 ct1), sl1⟩)
    (c1 : (PySem.W.codeIn K cd1 "Library.__init__" && PySem.W.keepIn K (.ref fI)) = true) (ck : chkL K C fI = true) : ∃ fI fdI, LibC K mg C fI fdI := by
  obtain ⟨i1, i2⟩ := Bool.and_eq_true_iff.mp c1
  have FI := fun_mk (st := sLInit) lI i1 i2
  obtain ⟨h1, ck⟩ := Bool.and_eq_true_iff.mp ck
  obtain ⟨h2, ck⟩ := Bool.and_eq_true_iff.mp ck
  obtain ⟨h3, ck⟩ := Bool.and_eq_true_iff.mp ck
  obtain ⟨h4, ck⟩ := Bool.and_eq_true_iff.mp ck
  obtain ⟨h5, ck⟩ := Bool.and_eq_true_iff.mp ck
  obtain ⟨h6, ck⟩ := Bool.and_eq_true_iff.mp ck
  obtain ⟨h7, h8⟩ := Bool.and_eq_true_iff.mp ck
  have h8' := of_decide_eq_true h8
  exact ⟨_, _, ⟨h1, iC, h2, h3⟩, ⟨h4, h5, h6, of_decide_eq_true h7⟩, h8',
    FI, FI.binds (ps := ["self", "texts"]) (fun _ _ _ _ _ _ us hl => match us, hl with | [_, _], _ => rfl), PySem.W.mg_of X G aC⟩
theorem end_mk {P : Program} {w : World} {K : PySem.W.Frag} {mg : Str → Option Value} {h : Heap} {fa f PE C cEW cEP cEN fPNumber fPSigns fPWord fPPlace fPAllPlaces fPInOrder fPEndings fPEnding fQCommon fPCommon fPLengths fPPlaces fPCount fPFirst fPLast fPNext fPTextsWith fPSpan fPGap fPIsGap fPAllPieces fPManyLong fPNumbered fPNumberOf fHand fDraw fDeep fAnySign fSign fText fTexts fWord fPlaces fPiece fNoPlace fNoWord fCalled fError fAreWordsRefused : Addr} {oc kV dc pm cd ct : Value} {od an : Option Addr} {sl : Array (Option Value)} (X : K.In h) (G : h.Ns mainGlobals mg) (hfa : mg "law" = some (.ref fa))
    (aL : PySem.W.nsIn K mainGlobals "law" = some (some (.ref f))) (lL : K.lookup f = some ⟨oc, od, .func (PySem.W.fnOf "law" "law" (defArgs sLaw) (defBody sLaw) (defScope sLaw) .none kV dc pm an cd ct), sl⟩) (ck : (PySem.W.codeIn K cd "law" && PySem.W.keepIn K (.ref f)) = true)
    {tMOST_TEXTS : Tok} (aMOST_TEXTS : PySem.W.nsIn K mainGlobals "MOST_TEXTS" = some (some (.int 8 tMOST_TEXTS)))
    {tMOST_SIGNS : Tok} (aMOST_SIGNS : PySem.W.nsIn K mainGlobals "MOST_SIGNS" = some (some (.int 2000 tMOST_SIGNS)))
    (DPNumber : ∃ fd, Df K mg "is_number" sPNumber ["thing"] fPNumber fd)
    (DPSigns : ∃ fd, Df K mg "is_signs" sPSigns ["thing"] fPSigns fd)
    (DPWord : ∃ fd, Df K mg "is_word" sPWord ["thing"] fPWord fd)
    (DPPlace : ∃ fd, Df K mg "is_place" sPPlace ["library", "thing"] fPPlace fd)
    (DPAllPlaces : ∃ fd, Df K mg "all_places" sPAllPlaces ["library"] fPAllPlaces fd)
    (DPInOrder : ∃ fd, Df K mg "in_order" sPInOrder ["library", "found"] fPInOrder fd)
    (DPEndings : ∃ fd, Df K mg "endings" sPEndings ["library"] fPEndings fd)
    (DPEnding : ∃ fd, Df K mg "ending" sPEnding ["library", "place"] fPEnding fd)
    (DQCommon : ∃ fd, Df K mg "_common" sQCommon ["one", "other"] fQCommon fd)
    (DPCommon : ∃ fd, Df K mg "common" sPCommon ["library", "one", "other"] fPCommon fd)
    (DPLengths : ∃ fd, Df K mg "lengths" sPLengths ["library"] fPLengths fd)
    (DPPlaces : ∃ fd, Df K mg "places" sPPlaces ["library", "word"] fPPlaces fd)
    (DPCount : ∃ fd, Df K mg "count" sPCount ["library", "word"] fPCount fd)
    (DPFirst : ∃ fd, Df K mg "first_place" sPFirst ["library", "word"] fPFirst fd)
    (DPLast : ∃ fd, Df K mg "last_place" sPLast ["library", "word"] fPLast fd)
    (DPNext : ∃ fd, Df K mg "next_place" sPNext ["library", "word", "place"] fPNext fd)
    (DPTextsWith : ∃ fd, Df K mg "texts_with" sPTextsWith ["library", "word"] fPTextsWith fd)
    (DPSpan : ∃ fd, Df K mg "span" sPSpan ["library", "word"] fPSpan fd)
    (DPGap : ∃ fd, Df K mg "gap" sPGap ["library", "word"] fPGap fd)
    (DPIsGap : ∃ fd, Df K mg "is_gap" sPIsGap ["library", "word", "thing"] fPIsGap fd)
    (DPAllPieces : ∃ fd, Df K mg "all_pieces" sPAllPieces ["library"] fPAllPieces fd)
    (DPManyLong : ∃ fd, Df K mg "many_long" sPManyLong ["library", "many"] fPManyLong fd)
    (DPNumbered : ∃ fd, Df K mg "piece_numbered" sPNumbered ["library", "number"] fPNumbered fd)
    (DPNumberOf : ∃ fd, Df K mg "number_of" sPNumberOf ["library", "word"] fPNumberOf fd)
    (DHand : ∃ fd, Df K mg "_law_hand" sHand ["script"] fHand fd)
    (DDraw : ∃ fd, Df K mg "_law_draw" sDraw ["hand", "many"] fDraw fd)
    (DDeep : ∃ fd, Df K mg "_law_deep" sDeep ["hand"] fDeep fd)
    (DAnySign : ∃ fd, Df K mg "_law_any_sign" sAnySign ["hand"] fAnySign fd)
    (DSign : ∃ fd, Df K mg "_law_sign" sSign ["hand", "kind"] fSign fd)
    (DText : ∃ fd, Df K mg "_law_text" sText ["hand", "most"] fText fd)
    (DTexts : ∃ fd, Df K mg "_law_texts" sTexts ["hand", "most"] fTexts fd)
    (DWord : ∃ fd, Df K mg "_law_word" sWord ["hand", "most"] fWord fd)
    (DPlaces : ∃ fd, Df K mg "_law_places" sPlaces ["texts"] fPlaces fd)
    (DPiece : ∃ fd, Df K mg "_law_piece" sPiece ["hand", "texts"] fPiece fd)
    (DNoPlace : ∃ fd, Df K mg "_law_no_place" sNoPlace ["hand", "texts"] fNoPlace fd)
    (DNoWord : ∃ fd, Df K mg "_law_no_word" sNoWord ["hand"] fNoWord fd)
    (DCalled : ∃ fd, Df K mg "_law_called" sCalled ["word", "library", "one", "two"] fCalled fd)
    (DError : ∃ fd, Df K mg "_law_error" sError ["word", "library", "one", "two"] fError fd)
    (DAreWordsRefused : ∃ fd, Df K mg "_law_are_words_refused" sAreWordsRefused ["hand", "library", "texts"] fAreWordsRefused fd)
    (EW : Cls0 P K mg PE "NoWord" cEW) (EP : Cls0 P K mg PE "NoPlace" cEP) (EN : Cls0 P K mg PE "NoNumber" cEN) (neEWEP : cEW ≠ cEP) (neEWEN : cEW ≠ cEN) (neEPEN : cEP ≠ cEN) (aPE : PySem.W.nsIn K mainGlobals "PieceError" = some (some (.ref PE))) (LL : ∃ fI fdI, LibC K mg C fI fdI) (T : Glob mg) :
    ∃ fd : FuncData, (∀ (s : Shared) (u : Value), BindsTo s fd ⟨[u], []⟩ [("script", u)]) ∧ ∀ base : Heap, K.In base → base.Ns mainGlobals mg → FnAt callerA P w K mg base CX0 fa fd ["script"] (spLaw K) := by
  have e := hfa.symm.trans (PySem.W.mg_of X G aL)
  cases e
  obtain ⟨fI, fdI, L⟩ := LL
  obtain ⟨fdPNumber, DPNumber⟩ := DPNumber
  obtain ⟨fdPSigns, DPSigns⟩ := DPSigns
  obtain ⟨fdPWord, DPWord⟩ := DPWord
  obtain ⟨fdPPlace, DPPlace⟩ := DPPlace
  obtain ⟨fdPAllPlaces, DPAllPlaces⟩ := DPAllPlaces
  obtain ⟨fdPInOrder, DPInOrder⟩ := DPInOrder
  obtain ⟨fdPEndings, DPEndings⟩ := DPEndings
  obtain ⟨fdPEnding, DPEnding⟩ := DPEnding
  obtain ⟨fdQCommon, DQCommon⟩ := DQCommon
  obtain ⟨fdPCommon, DPCommon⟩ := DPCommon
  obtain ⟨fdPLengths, DPLengths⟩ := DPLengths
  obtain ⟨fdPPlaces, DPPlaces⟩ := DPPlaces
  obtain ⟨fdPCount, DPCount⟩ := DPCount
  obtain ⟨fdPFirst, DPFirst⟩ := DPFirst
  obtain ⟨fdPLast, DPLast⟩ := DPLast
  obtain ⟨fdPNext, DPNext⟩ := DPNext
  obtain ⟨fdPTextsWith, DPTextsWith⟩ := DPTextsWith
  obtain ⟨fdPSpan, DPSpan⟩ := DPSpan
  obtain ⟨fdPGap, DPGap⟩ := DPGap
  obtain ⟨fdPIsGap, DPIsGap⟩ := DPIsGap
  obtain ⟨fdPAllPieces, DPAllPieces⟩ := DPAllPieces
  obtain ⟨fdPManyLong, DPManyLong⟩ := DPManyLong
  obtain ⟨fdPNumbered, DPNumbered⟩ := DPNumbered
  obtain ⟨fdPNumberOf, DPNumberOf⟩ := DPNumberOf
  obtain ⟨fdHand, DHand⟩ := DHand
  obtain ⟨fdDraw, DDraw⟩ := DDraw
  obtain ⟨fdDeep, DDeep⟩ := DDeep
  obtain ⟨fdAnySign, DAnySign⟩ := DAnySign
  obtain ⟨fdSign, DSign⟩ := DSign
  obtain ⟨fdText, DText⟩ := DText
  obtain ⟨fdTexts, DTexts⟩ := DTexts
  obtain ⟨fdWord, DWord⟩ := DWord
  obtain ⟨fdPlaces, DPlaces⟩ := DPlaces
  obtain ⟨fdPiece, DPiece⟩ := DPiece
  obtain ⟨fdNoPlace, DNoPlace⟩ := DNoPlace
  obtain ⟨fdNoWord, DNoWord⟩ := DNoWord
  obtain ⟨fdCalled, DCalled⟩ := DCalled
  obtain ⟨fdError, DError⟩ := DError
  obtain ⟨fdAreWordsRefused, DAreWordsRefused⟩ := DAreWordsRefused
  obtain ⟨c1, c2⟩ := Bool.and_eq_true_iff.mp ck
  have F1 := fun_mk (st := sLaw) lL c1 c2
  refine ⟨PySem.W.fnOf "law" "law" (defArgs sLaw) (defBody sLaw) (defScope sLaw) .none kV dc pm an cd ct, fun s u => .of_eq rfl, fun base _ _ => ?_⟩
  have TPSigns : Dk P w K mg base "is_signs" sPSigns ["thing"] 1 spSg fPSigns fdPSigns := ⟨DPSigns.F, DPSigns.b, DPSigns.g, ok_PSigns (DPSigns.F) (T)⟩
  have GI : FnOk P w K mg base (L2.CX P w) 4 fI fdI ["self", "texts"] (spLInit C) := ok_LInit L (PySem.W.mg_of X G aMOST_TEXTS) (PySem.W.mg_of X G aMOST_SIGNS) TPSigns T
  have TPAllPlaces : Dk P w K mg base "all_places" sPAllPlaces ["library"] 1 (spAllPlaces C) fPAllPlaces fdPAllPlaces := ⟨DPAllPlaces.F, DPAllPlaces.b, DPAllPlaces.g, ok_PAllPlaces (DPAllPlaces.F) (L) (T)⟩
  have TPNumber : Dk P w K mg base "is_number" sPNumber ["thing"] 1 spNum fPNumber fdPNumber := ⟨DPNumber.F, DPNumber.b, DPNumber.g, ok_PNumber (DPNumber.F) (T)⟩
  have TPPlace : Dk P w K mg base "is_place" sPPlace ["library", "thing"] 2 (spPPlace C) fPPlace fdPPlace := ⟨DPPlace.F, DPPlace.b, DPPlace.g, ok_PPlace (DPPlace.F) (L) (TPNumber) (T)⟩
  have TPPlaceG : Dk P w K mg base "is_place" sPPlace ["library", "thing"] 2 (spPPlaceG C) fPPlace fdPPlace := ⟨DPPlace.F, DPPlace.b, DPPlace.g, okg_PPlace (DPPlace.F) (TPNumber) (L) (T)⟩
  have TPEnding : Dk P w K mg base "ending" sPEnding ["library", "place"] 3 (spEnding C) fPEnding fdPEnding := ⟨DPEnding.F, DPEnding.b, DPEnding.g, ok_PEnding (DPEnding.F) (L) (TPPlace) (T)⟩
  have TPInOrder : Dk P w K mg base "in_order" sPInOrder ["library", "found"] 1 (spInOrder C) fPInOrder fdPInOrder := ⟨DPInOrder.F, DPInOrder.b, DPInOrder.g, ok_PInOrder (DPInOrder.F) (L) (T)⟩
  have TPEndings : Dk P w K mg base "endings" sPEndings ["library"] 2 (spEndings C) fPEndings fdPEndings := ⟨DPEndings.F, DPEndings.b, DPEndings.g, ok_PEndings (DPEndings.F) (TPAllPlaces) (TPInOrder) (T)⟩
  have TQCommon : Dk P w K mg base "_common" sQCommon ["one", "other"] 1 spCommonZ fQCommon fdQCommon := ⟨DQCommon.F, DQCommon.b, DQCommon.g, ok_QCommon (DQCommon.F) (T)⟩
  have TPCommon : Dk P w K mg base "common" sPCommon ["library", "one", "other"] 4 (spCommonP C) fPCommon fdPCommon := ⟨DPCommon.F, DPCommon.b, DPCommon.g, ok_PCommon (DPCommon.F) (TPEnding) (TQCommon) (T)⟩
  have TPLengths : Dk P w K mg base "lengths" sPLengths ["library"] 5 (spLengths C) fPLengths fdPLengths := ⟨DPLengths.F, DPLengths.b, DPLengths.g, ok_PLengths (DPLengths.F) (TPEndings) (TPCommon) (T)⟩
  have TPAllPieces : Dk P w K mg base "all_pieces" sPAllPieces ["library"] 6 (spAllPieces C) fPAllPieces fdPAllPieces := ⟨DPAllPieces.F, DPAllPieces.b, DPAllPieces.g, ok_PAllPieces (DPAllPieces.F) (TPAllPlaces) (TPEnding) (TPLengths) (T)⟩
  have THand : Dk P w K mg base "_law_hand" sHand ["script"] 1 (spHand K) fHand fdHand := ⟨DHand.F, DHand.b, DHand.g, ok_Hand (DHand.F) (T)⟩
  have TDraw : Dk P w K mg base "_law_draw" sDraw ["hand", "many"] 1 spDraw fDraw fdDraw := ⟨DDraw.F, DDraw.b, DDraw.g, ok_Draw (DDraw.F) (T)⟩
  have TAnySign : Dk P w K mg base "_law_any_sign" sAnySign ["hand"] 2 spAnySign fAnySign fdAnySign := ⟨DAnySign.F, DAnySign.b, DAnySign.g, ok_AnySign (DAnySign.F) (TDraw) (T)⟩
  have TSign : Dk P w K mg base "_law_sign" sSign ["hand", "kind"] 3 spSign fSign fdSign := ⟨DSign.F, DSign.b, DSign.g, ok_Sign (DSign.F) (TDraw) (TAnySign) (T)⟩
  have TText : Dk P w K mg base "_law_text" sText ["hand", "most"] 4 spLText fText fdText := ⟨DText.F, DText.b, DText.g, ok_Text (DText.F) (TDraw) (TSign) (T)⟩
  have TTexts : Dk P w K mg base "_law_texts" sTexts ["hand", "most"] 5 spLTexts fTexts fdTexts := ⟨DTexts.F, DTexts.b, DTexts.g, ok_Texts (DTexts.F) (TDraw) (TText) (T)⟩
  have TPWord : Dk P w K mg base "is_word" sPWord ["thing"] 2 spWd fPWord fdPWord := ⟨DPWord.F, DPWord.b, DPWord.g, ok_PWord (DPWord.F) (TPSigns) (T)⟩
  have GPl : FnOk P w K mg base (L2.CX P w) 3 fPPlaces fdPPlaces ["library", "word"] (spRPlaces C cEW) := okr_PPlaces (DPPlaces.F) (L) (EW) (TPAllPlaces) (TPWord) (T)
  have GCo : FnOk P w K mg base (L2.CX P w) 4 fPCount fdPCount ["library", "word"] (spRCount C cEW) := okr_PCount (DPCount.F) (DPPlaces.F) (DPPlaces.b) (DPPlaces.g) (GPl) (T)
  have GFi : FnOk P w K mg base (L2.CX P w) 4 fPFirst fdPFirst ["library", "word"] (spRAny C cEW) := ok_PFirst (DPFirst.F) (DPPlaces.F) (DPPlaces.b) (DPPlaces.g) (GPl) (T)
  have GLa : FnOk P w K mg base (L2.CX P w) 4 fPLast fdPLast ["library", "word"] (spRAny C cEW) := ok_PLast (DPLast.F) (DPPlaces.F) (DPPlaces.b) (DPPlaces.g) (GPl) (T)
  have GNe : FnOk P w K mg base (L2.CX P w) 4 fPNext fdPNext ["library", "word", "place"] (spRNext C cEW cEP) := ok_PNext (DPNext.F) (EP) (DPPlaces.F) (DPPlaces.b) (DPPlaces.g) (GPl) (TPPlaceG) (DPPlaces.F) (DPPlaces.b) (DPPlaces.g) (GPl) (T)
  have GTw : FnOk P w K mg base (L2.CX P w) 4 fPTextsWith fdPTextsWith ["library", "word"] (spRAny C cEW) := ok_PTextsWith (DPTextsWith.F) (DPPlaces.F) (DPPlaces.b) (DPPlaces.g) (GPl) (T)
  have GSp : FnOk P w K mg base (L2.CX P w) 5 fPSpan fdPSpan ["library", "word"] (spRSpan C cEW) := okr_PSpan (DPSpan.F) (TPAllPlaces) (TPEnding) (DPCount.F) (DPCount.b) (DPCount.g) (GCo) (T)
  have GGa : FnOk P w K mg base (L2.CX P w) 6 fPGap fdPGap ["library", "word"] (spRAny C cEW) := ok_PGap (DPGap.F) (TPEndings) (DPSpan.F) (DPSpan.b) (DPSpan.g) (GSp) (T)
  have GIg : FnOk P w K mg base (L2.CX P w) 7 fPIsGap fdPIsGap ["library", "word", "thing"] (spRIsGap C cEW) := ok_PIsGap (DPIsGap.F) (TPPlaceG) (DPGap.F) (DPGap.b) (DPGap.g) (GGa) (T)
  have GMl : FnOk P w K mg base (L2.CX P w) 2 fPManyLong fdPManyLong ["library", "many"] (spRMany C cEN) := okr_PManyLong (DPManyLong.F) (L) (PySem.W.mg_of X G aMOST_SIGNS) (EN) (TPNumber) (T)
  have GPn : FnOk P w K mg base (L2.CX P w) 6 fPNumbered fdPNumbered ["library", "number"] (spRPiece C cEN) := okr_PNumbered (DPNumbered.F) (EN) (TPEndings) (TPEnding) (TPLengths) (TPNumber) (T)
  have GNo : FnOk P w K mg base (L2.CX P w) 6 fPNumberOf fdPNumberOf ["library", "word"] (spRAny C cEW) := okr_PNumberOf (DPNumberOf.F) (TPEndings) (TPEnding) (TPLengths) (DPSpan.F) (DPSpan.b) (DPSpan.g) (GSp) (T)
  have GCalled : FnOk P w K mg base (L2.CX P w) 8 fCalled fdCalled ["word", "library", "one", "two"] (spLCalled C cEW cEP cEN) := ok_Called (DCalled.F) (DPPlaces.F) (DPPlaces.b) (DPPlaces.g) (GPl) (DPCount.F) (DPCount.b) (DPCount.g) (GCo) (DPFirst.F) (DPFirst.b) (DPFirst.g) (GFi) (DPLast.F) (DPLast.b) (DPLast.g) (GLa) (DPNext.F) (DPNext.b) (DPNext.g) (GNe) (DPTextsWith.F) (DPTextsWith.b) (DPTextsWith.g) (GTw) (DPSpan.F) (DPSpan.b) (DPSpan.g) (GSp) (DPGap.F) (DPGap.b) (DPGap.g) (GGa) (DPIsGap.F) (DPIsGap.b) (DPIsGap.g) (GIg) (DPManyLong.F) (DPManyLong.b) (DPManyLong.g) (GMl) (DPNumbered.F) (DPNumbered.b) (DPNumbered.g) (GPn) (DPNumberOf.F) (DPNumberOf.b) (DPNumberOf.g) (GNo) (T)
  have TError : Dk P w K mg base "_law_error" sError ["word", "library", "one", "two"] 9 (spLError C) fError fdError := ⟨DError.F, DError.b, DError.g, ok_Error (DError.F) (EW) (EP) (EN) (PySem.W.mg_of X G aPE) (neEWEP) (neEWEN) (neEPEN) (DCalled.F) (DCalled.b) (DCalled.g) (GCalled) (T)⟩
  have TPlaces : Dk P w K mg base "_law_places" sPlaces ["texts"] 1 spLPlaces fPlaces fdPlaces := ⟨DPlaces.F, DPlaces.b, DPlaces.g, ok_Places (DPlaces.F) (T)⟩
  have TWord : Dk P w K mg base "_law_word" sWord ["hand", "most"] 4 spLWord fWord fdWord := ⟨DWord.F, DWord.b, DWord.g, ok_Word (DWord.F) (TDraw) (TSign) (T)⟩
  have TPiece : Dk P w K mg base "_law_piece" sPiece ["hand", "texts"] 5 spPiece fPiece fdPiece := ⟨DPiece.F, DPiece.b, DPiece.g, ok_Piece (DPiece.F) (TDraw) (TSign) (TWord) (TPlaces) (T)⟩
  have TNoPlace : Dk P w K mg base "_law_no_place" sNoPlace ["hand", "texts"] 2 spLNoPlace fNoPlace fdNoPlace := ⟨DNoPlace.F, DNoPlace.b, DNoPlace.g, ok_NoPlace (DNoPlace.F) (TDraw) (T)⟩
  have TDeep : Dk P w K mg base "_law_deep" sDeep ["hand"] 2 spLDeep fDeep fdDeep := ⟨DDeep.F, DDeep.b, DDeep.g, ok_Deep (DDeep.F) (TDraw) (T)⟩
  have TNoWord : Dk P w K mg base "_law_no_word" sNoWord ["hand"] 3 spLNoWord fNoWord fdNoWord := ⟨DNoWord.F, DNoWord.b, DNoWord.g, ok_NoWord (DNoWord.F) (TDraw) (TDeep) (T)⟩
  have TAreWordsRefused : Dk P w K mg base "_law_are_words_refused" sAreWordsRefused ["hand", "library", "texts"] 10 (spLWords C) fAreWordsRefused fdAreWordsRefused := ⟨DAreWordsRefused.F, DAreWordsRefused.b, DAreWordsRefused.g, ok_AreWordsRefused (DAreWordsRefused.F) (TDraw) (TPlaces) (TPiece) (TNoPlace) (TNoWord) (TError) (T)⟩
  exact ok_law F1 (DPAllPieces := TPAllPieces) (DHand := THand) (DDraw := TDraw) (DTexts := TTexts) (DError := TError) (DAreWordsRefused := TAreWordsRefused) (L := L) (GI := GI) (T := T)
end LawK
open PySem PySem.W PyProof.Rows L2
set_option maxRecDepth 100000 in
set_option maxHeartbeats 0 in
theorem PySem.Challenge.cw_everypiece_k21_asks_refused_holds : PySem.Challenge.rw_everypiece_k21_asks_refused.Holds := by
  w_on; o_law; k_head; (case hw => w_witness2)
  k_fill
  refine Ev.walk_at (l := PySem.Challenge.rw_everypiece_k21_asks_refused) (n := 63) (x := "script") (sp := LawK.spLaw) rfl (by decide) rfl (fun w h Y => PySem.W.kIn_of Y) ?F (fun K H a ns hl _ hS => ⟨a, ns, rfl, hS, fun _ => rfl⟩)
  case F =>
    intro w mg fa h KX G hmg
    have hfa : mg "law" = some (.ref fa) := hmg
    clear hmg
    refine LawK.say KX (fun K => LawK.Sh0 (PySem.W.OpenLaw.prog PySem.Challenge.rw_everypiece_k21_asks_refused) K mg) (by
      refine' LawK.sh0_mk KX G ?kq1a ?kq1b ?kq1c ?kq1d ?kq1e
      (case kq1a => k_is); (case kq1b => k_is); (case kq1c => k_is); (case kq1d => decide +kernel); (case kq1e => k_is)) ?_
    intro S
    refine LawK.say KX (fun K => LawK.Cls0 (PySem.W.OpenLaw.prog PySem.Challenge.rw_everypiece_k21_asks_refused) K mg 24 "NoWord" 65) (by
      refine' LawK.cls0_mk (qual := "NoWord.__init__") KX G S ?kq2a ?kq2l ?kq2i ?kq2f ?kq2d ?kq2e ?kq2v ?kq2w ?kq2p ?kq2c
      (case kq2a => k_is); (case kq2l => k_is); (case kq2i => k_is); (case kq2f => k_is); (case kq2d => k_is); (case kq2e => k_is); (case kq2v => rfl); (case kq2w => rfl); (case kq2p => rfl); (case kq2c => kernel_rfl)) ?_
    intro EW
    refine LawK.say KX (fun K => LawK.Cls0 (PySem.W.OpenLaw.prog PySem.Challenge.rw_everypiece_k21_asks_refused) K mg 24 "NoPlace" 86) (by
      refine' LawK.cls0_mk (qual := "NoPlace.__init__") KX G S ?kq3a ?kq3l ?kq3i ?kq3f ?kq3d ?kq3e ?kq3v ?kq3w ?kq3p ?kq3c
      (case kq3a => k_is); (case kq3l => k_is); (case kq3i => k_is); (case kq3f => k_is); (case kq3d => k_is); (case kq3e => k_is); (case kq3v => rfl); (case kq3w => rfl); (case kq3p => rfl); (case kq3c => kernel_rfl)) ?_
    intro EP
    refine LawK.say KX (fun K => LawK.Cls0 (PySem.W.OpenLaw.prog PySem.Challenge.rw_everypiece_k21_asks_refused) K mg 24 "NoNumber" 107) (by
      refine' LawK.cls0_mk (qual := "NoNumber.__init__") KX G S ?kq4a ?kq4l ?kq4i ?kq4f ?kq4d ?kq4e ?kq4v ?kq4w ?kq4p ?kq4c
      (case kq4a => k_is); (case kq4l => k_is); (case kq4i => k_is); (case kq4f => k_is); (case kq4d => k_is); (case kq4e => k_is); (case kq4v => rfl); (case kq4w => rfl); (case kq4p => rfl); (case kq4c => kernel_rfl)) ?_
    intro EN
    refine LawK.say KX (fun K => ∃ fd, LawK.Df K mg "is_number" LawK.sPNumber ["thing"] 116 fd) (by
      refine' LawK.df_mk KX G (fun _ _ _ _ _ _ us hl => match us, hl with | [_], _ => rfl) ?kq5a ?kq5l ?kq5c
      (case kq5a => k_is); (case kq5l => k_is); (case kq5c => kernel_rfl)) ?_
    intro DPNumber
    refine LawK.say KX (fun K => ∃ fd, LawK.Df K mg "is_signs" LawK.sPSigns ["thing"] 123 fd) (by
      refine' LawK.df_mk KX G (fun _ _ _ _ _ _ us hl => match us, hl with | [_], _ => rfl) ?kq6a ?kq6l ?kq6c
      (case kq6a => k_is); (case kq6l => k_is); (case kq6c => kernel_rfl)) ?_
    intro DPSigns
    refine LawK.say KX (fun K => ∃ fd, LawK.Df K mg "is_word" LawK.sPWord ["thing"] 130 fd) (by
      refine' LawK.df_mk KX G (fun _ _ _ _ _ _ us hl => match us, hl with | [_], _ => rfl) ?kq7a ?kq7l ?kq7c
      (case kq7a => k_is); (case kq7l => k_is); (case kq7c => kernel_rfl)) ?_
    intro DPWord
    refine LawK.say KX (fun K => ∃ fd, LawK.Df K mg "is_place" LawK.sPPlace ["library", "thing"] 163 fd) (by
      refine' LawK.df_mk KX G (fun _ _ _ _ _ _ us hl => match us, hl with | [_, _], _ => rfl) ?kq8a ?kq8l ?kq8c
      (case kq8a => k_is); (case kq8l => k_is); (case kq8c => kernel_rfl)) ?_
    intro DPPlace
    refine LawK.say KX (fun K => ∃ fd, LawK.Df K mg "all_places" LawK.sPAllPlaces ["library"] 168 fd) (by
      refine' LawK.df_mk KX G (fun _ _ _ _ _ _ us hl => match us, hl with | [_], _ => rfl) ?kq9a ?kq9l ?kq9c
      (case kq9a => k_is); (case kq9l => k_is); (case kq9c => kernel_rfl)) ?_
    intro DPAllPlaces
    refine LawK.say KX (fun K => ∃ fd, LawK.Df K mg "in_order" LawK.sPInOrder ["library", "found"] 173 fd) (by
      refine' LawK.df_mk KX G (fun _ _ _ _ _ _ us hl => match us, hl with | [_, _], _ => rfl) ?kq10a ?kq10l ?kq10c
      (case kq10a => k_is); (case kq10l => k_is); (case kq10c => kernel_rfl)) ?_
    intro DPInOrder
    refine LawK.say KX (fun K => ∃ fd, LawK.Df K mg "endings" LawK.sPEndings ["library"] 180 fd) (by
      refine' LawK.df_mk KX G (fun _ _ _ _ _ _ us hl => match us, hl with | [_], _ => rfl) ?kq11a ?kq11l ?kq11c
      (case kq11a => k_is); (case kq11l => k_is); (case kq11c => kernel_rfl)) ?_
    intro DPEndings
    refine LawK.say KX (fun K => ∃ fd, LawK.Df K mg "ending" LawK.sPEnding ["library", "place"] 187 fd) (by
      refine' LawK.df_mk KX G (fun _ _ _ _ _ _ us hl => match us, hl with | [_, _], _ => rfl) ?kq12a ?kq12l ?kq12c
      (case kq12a => k_is); (case kq12l => k_is); (case kq12c => kernel_rfl)) ?_
    intro DPEnding
    refine LawK.say KX (fun K => ∃ fd, LawK.Df K mg "_common" LawK.sQCommon ["one", "other"] 194 fd) (by
      refine' LawK.df_mk KX G (fun _ _ _ _ _ _ us hl => match us, hl with | [_, _], _ => rfl) ?kq13a ?kq13l ?kq13c
      (case kq13a => k_is); (case kq13l => k_is); (case kq13c => kernel_rfl)) ?_
    intro DQCommon
    refine LawK.say KX (fun K => ∃ fd, LawK.Df K mg "common" LawK.sPCommon ["library", "one", "other"] 201 fd) (by
      refine' LawK.df_mk KX G (fun _ _ _ _ _ _ us hl => match us, hl with | [_, _, _], _ => rfl) ?kq14a ?kq14l ?kq14c
      (case kq14a => k_is); (case kq14l => k_is); (case kq14c => kernel_rfl)) ?_
    intro DPCommon
    refine LawK.say KX (fun K => ∃ fd, LawK.Df K mg "lengths" LawK.sPLengths ["library"] 206 fd) (by
      refine' LawK.df_mk KX G (fun _ _ _ _ _ _ us hl => match us, hl with | [_], _ => rfl) ?kq15a ?kq15l ?kq15c
      (case kq15a => k_is); (case kq15l => k_is); (case kq15c => kernel_rfl)) ?_
    intro DPLengths
    refine LawK.say KX (fun K => ∃ fd, LawK.Df K mg "places" LawK.sPPlaces ["library", "word"] 211 fd) (by
      refine' LawK.df_mk KX G (fun _ _ _ _ _ _ us hl => match us, hl with | [_, _], _ => rfl) ?kq16a ?kq16l ?kq16c
      (case kq16a => k_is); (case kq16l => k_is); (case kq16c => kernel_rfl)) ?_
    intro DPPlaces
    refine LawK.say KX (fun K => ∃ fd, LawK.Df K mg "count" LawK.sPCount ["library", "word"] 218 fd) (by
      refine' LawK.df_mk KX G (fun _ _ _ _ _ _ us hl => match us, hl with | [_, _], _ => rfl) ?kq17a ?kq17l ?kq17c
      (case kq17a => k_is); (case kq17l => k_is); (case kq17c => kernel_rfl)) ?_
    intro DPCount
    refine LawK.say KX (fun K => ∃ fd, LawK.Df K mg "first_place" LawK.sPFirst ["library", "word"] 225 fd) (by
      refine' LawK.df_mk KX G (fun _ _ _ _ _ _ us hl => match us, hl with | [_, _], _ => rfl) ?kq18a ?kq18l ?kq18c
      (case kq18a => k_is); (case kq18l => k_is); (case kq18c => kernel_rfl)) ?_
    intro DPFirst
    refine LawK.say KX (fun K => ∃ fd, LawK.Df K mg "last_place" LawK.sPLast ["library", "word"] 232 fd) (by
      refine' LawK.df_mk KX G (fun _ _ _ _ _ _ us hl => match us, hl with | [_, _], _ => rfl) ?kq19a ?kq19l ?kq19c
      (case kq19a => k_is); (case kq19l => k_is); (case kq19c => kernel_rfl)) ?_
    intro DPLast
    refine LawK.say KX (fun K => ∃ fd, LawK.Df K mg "next_place" LawK.sPNext ["library", "word", "place"] 237 fd) (by
      refine' LawK.df_mk KX G (fun _ _ _ _ _ _ us hl => match us, hl with | [_, _, _], _ => rfl) ?kq20a ?kq20l ?kq20c
      (case kq20a => k_is); (case kq20l => k_is); (case kq20c => kernel_rfl)) ?_
    intro DPNext
    refine LawK.say KX (fun K => ∃ fd, LawK.Df K mg "texts_with" LawK.sPTextsWith ["library", "word"] 242 fd) (by
      refine' LawK.df_mk KX G (fun _ _ _ _ _ _ us hl => match us, hl with | [_, _], _ => rfl) ?kq21a ?kq21l ?kq21c
      (case kq21a => k_is); (case kq21l => k_is); (case kq21c => kernel_rfl)) ?_
    intro DPTextsWith
    refine LawK.say KX (fun K => ∃ fd, LawK.Df K mg "span" LawK.sPSpan ["library", "word"] 247 fd) (by
      refine' LawK.df_mk KX G (fun _ _ _ _ _ _ us hl => match us, hl with | [_, _], _ => rfl) ?kq22a ?kq22l ?kq22c
      (case kq22a => k_is); (case kq22l => k_is); (case kq22c => kernel_rfl)) ?_
    intro DPSpan
    refine LawK.say KX (fun K => ∃ fd, LawK.Df K mg "gap" LawK.sPGap ["library", "word"] 254 fd) (by
      refine' LawK.df_mk KX G (fun _ _ _ _ _ _ us hl => match us, hl with | [_, _], _ => rfl) ?kq23a ?kq23l ?kq23c
      (case kq23a => k_is); (case kq23l => k_is); (case kq23c => kernel_rfl)) ?_
    intro DPGap
    refine LawK.say KX (fun K => ∃ fd, LawK.Df K mg "is_gap" LawK.sPIsGap ["library", "word", "thing"] 259 fd) (by
      refine' LawK.df_mk KX G (fun _ _ _ _ _ _ us hl => match us, hl with | [_, _, _], _ => rfl) ?kq24a ?kq24l ?kq24c
      (case kq24a => k_is); (case kq24l => k_is); (case kq24c => kernel_rfl)) ?_
    intro DPIsGap
    refine LawK.say KX (fun K => ∃ fd, LawK.Df K mg "all_pieces" LawK.sPAllPieces ["library"] 264 fd) (by
      refine' LawK.df_mk KX G (fun _ _ _ _ _ _ us hl => match us, hl with | [_], _ => rfl) ?kq25a ?kq25l ?kq25c
      (case kq25a => k_is); (case kq25l => k_is); (case kq25c => kernel_rfl)) ?_
    intro DPAllPieces
    refine LawK.say KX (fun K => ∃ fd, LawK.Df K mg "many_long" LawK.sPManyLong ["library", "many"] 269 fd) (by
      refine' LawK.df_mk KX G (fun _ _ _ _ _ _ us hl => match us, hl with | [_, _], _ => rfl) ?kq26a ?kq26l ?kq26c
      (case kq26a => k_is); (case kq26l => k_is); (case kq26c => kernel_rfl)) ?_
    intro DPManyLong
    refine LawK.say KX (fun K => ∃ fd, LawK.Df K mg "piece_numbered" LawK.sPNumbered ["library", "number"] 276 fd) (by
      refine' LawK.df_mk KX G (fun _ _ _ _ _ _ us hl => match us, hl with | [_, _], _ => rfl) ?kq27a ?kq27l ?kq27c
      (case kq27a => k_is); (case kq27l => k_is); (case kq27c => kernel_rfl)) ?_
    intro DPNumbered
    refine LawK.say KX (fun K => ∃ fd, LawK.Df K mg "number_of" LawK.sPNumberOf ["library", "word"] 281 fd) (by
      refine' LawK.df_mk KX G (fun _ _ _ _ _ _ us hl => match us, hl with | [_, _], _ => rfl) ?kq28a ?kq28l ?kq28c
      (case kq28a => k_is); (case kq28l => k_is); (case kq28c => kernel_rfl)) ?_
    intro DPNumberOf
    refine LawK.say KX (fun K => ∃ fd, LawK.Df K mg "_law_hand" LawK.sHand ["script"] 286 fd) (by
      refine' LawK.df_mk KX G (fun _ _ _ _ _ _ us hl => match us, hl with | [_], _ => rfl) ?kq29a ?kq29l ?kq29c
      (case kq29a => k_is); (case kq29l => k_is); (case kq29c => kernel_rfl)) ?_
    intro DHand
    refine LawK.say KX (fun K => ∃ fd, LawK.Df K mg "_law_draw" LawK.sDraw ["hand", "many"] 293 fd) (by
      refine' LawK.df_mk KX G (fun _ _ _ _ _ _ us hl => match us, hl with | [_, _], _ => rfl) ?kq30a ?kq30l ?kq30c
      (case kq30a => k_is); (case kq30l => k_is); (case kq30c => kernel_rfl)) ?_
    intro DDraw
    refine LawK.say KX (fun K => ∃ fd, LawK.Df K mg "_law_deep" LawK.sDeep ["hand"] 300 fd) (by
      refine' LawK.df_mk KX G (fun _ _ _ _ _ _ us hl => match us, hl with | [_], _ => rfl) ?kq31a ?kq31l ?kq31c
      (case kq31a => k_is); (case kq31l => k_is); (case kq31c => kernel_rfl)) ?_
    intro DDeep
    refine LawK.say KX (fun K => ∃ fd, LawK.Df K mg "_law_any_sign" LawK.sAnySign ["hand"] 307 fd) (by
      refine' LawK.df_mk KX G (fun _ _ _ _ _ _ us hl => match us, hl with | [_], _ => rfl) ?kq32a ?kq32l ?kq32c
      (case kq32a => k_is); (case kq32l => k_is); (case kq32c => kernel_rfl)) ?_
    intro DAnySign
    refine LawK.say KX (fun K => ∃ fd, LawK.Df K mg "_law_sign" LawK.sSign ["hand", "kind"] 314 fd) (by
      refine' LawK.df_mk KX G (fun _ _ _ _ _ _ us hl => match us, hl with | [_, _], _ => rfl) ?kq33a ?kq33l ?kq33c
      (case kq33a => k_is); (case kq33l => k_is); (case kq33c => kernel_rfl)) ?_
    intro DSign
    refine LawK.say KX (fun K => ∃ fd, LawK.Df K mg "_law_text" LawK.sText ["hand", "most"] 319 fd) (by
      refine' LawK.df_mk KX G (fun _ _ _ _ _ _ us hl => match us, hl with | [_, _], _ => rfl) ?kq34a ?kq34l ?kq34c
      (case kq34a => k_is); (case kq34l => k_is); (case kq34c => kernel_rfl)) ?_
    intro DText
    refine LawK.say KX (fun K => ∃ fd, LawK.Df K mg "_law_texts" LawK.sTexts ["hand", "most"] 326 fd) (by
      refine' LawK.df_mk KX G (fun _ _ _ _ _ _ us hl => match us, hl with | [_, _], _ => rfl) ?kq35a ?kq35l ?kq35c
      (case kq35a => k_is); (case kq35l => k_is); (case kq35c => kernel_rfl)) ?_
    intro DTexts
    refine LawK.say KX (fun K => ∃ fd, LawK.Df K mg "_law_word" LawK.sWord ["hand", "most"] 331 fd) (by
      refine' LawK.df_mk KX G (fun _ _ _ _ _ _ us hl => match us, hl with | [_, _], _ => rfl) ?kq36a ?kq36l ?kq36c
      (case kq36a => k_is); (case kq36l => k_is); (case kq36c => kernel_rfl)) ?_
    intro DWord
    refine LawK.say KX (fun K => ∃ fd, LawK.Df K mg "_law_places" LawK.sPlaces ["texts"] 336 fd) (by
      refine' LawK.df_mk KX G (fun _ _ _ _ _ _ us hl => match us, hl with | [_], _ => rfl) ?kq37a ?kq37l ?kq37c
      (case kq37a => k_is); (case kq37l => k_is); (case kq37c => kernel_rfl)) ?_
    intro DPlaces
    refine LawK.say KX (fun K => ∃ fd, LawK.Df K mg "_law_piece" LawK.sPiece ["hand", "texts"] 343 fd) (by
      refine' LawK.df_mk KX G (fun _ _ _ _ _ _ us hl => match us, hl with | [_, _], _ => rfl) ?kq38a ?kq38l ?kq38c
      (case kq38a => k_is); (case kq38l => k_is); (case kq38c => kernel_rfl)) ?_
    intro DPiece
    refine LawK.say KX (fun K => ∃ fd, LawK.Df K mg "_law_no_place" LawK.sNoPlace ["hand", "texts"] 350 fd) (by
      refine' LawK.df_mk KX G (fun _ _ _ _ _ _ us hl => match us, hl with | [_, _], _ => rfl) ?kq39a ?kq39l ?kq39c
      (case kq39a => k_is); (case kq39l => k_is); (case kq39c => kernel_rfl)) ?_
    intro DNoPlace
    refine LawK.say KX (fun K => ∃ fd, LawK.Df K mg "_law_no_word" LawK.sNoWord ["hand"] 357 fd) (by
      refine' LawK.df_mk KX G (fun _ _ _ _ _ _ us hl => match us, hl with | [_], _ => rfl) ?kq40a ?kq40l ?kq40c
      (case kq40a => k_is); (case kq40l => k_is); (case kq40c => kernel_rfl)) ?_
    intro DNoWord
    refine LawK.say KX (fun K => ∃ fd, LawK.Df K mg "_law_called" LawK.sCalled ["word", "library", "one", "two"] 364 fd) (by
      refine' LawK.df_mk KX G (fun _ _ _ _ _ _ us hl => match us, hl with | [_, _, _, _], _ => rfl) ?kq41a ?kq41l ?kq41c
      (case kq41a => k_is); (case kq41l => k_is); (case kq41c => kernel_rfl)) ?_
    intro DCalled
    refine LawK.say KX (fun K => ∃ fd, LawK.Df K mg "_law_error" LawK.sError ["word", "library", "one", "two"] 371 fd) (by
      refine' LawK.df_mk KX G (fun _ _ _ _ _ _ us hl => match us, hl with | [_, _, _, _], _ => rfl) ?kq42a ?kq42l ?kq42c
      (case kq42a => k_is); (case kq42l => k_is); (case kq42c => kernel_rfl)) ?_
    intro DError
    refine LawK.say KX (fun K => ∃ fd, LawK.Df K mg "_law_are_words_refused" LawK.sAreWordsRefused ["hand", "library", "texts"] 378 fd) (by
      refine' LawK.df_mk KX G (fun _ _ _ _ _ _ us hl => match us, hl with | [_, _, _], _ => rfl) ?kq43a ?kq43l ?kq43c
      (case kq43a => k_is); (case kq43l => k_is); (case kq43c => kernel_rfl)) ?_
    intro DAreWordsRefused
    refine LawK.say KX (fun K => ∃ fI fdI, LawK.LibC K mg 152 fI fdI) (by
      refine' LawK.lib_mk KX G ?kq44a ?kq44b ?kq44d ?kq44f ?kq44i
      (case kq44a => k_is); (case kq44b => k_is); (case kq44d => k_is); (case kq44f => kernel_rfl); (case kq44i => kernel_rfl)) ?_
    intro LL
    have GL : LawK.Glob mg := ⟨mg_none_of KX G (by k_is), mg_none_of KX G (by k_is), mg_none_of KX G (by k_is), mg_none_of KX G (by k_is), mg_none_of KX G (by k_is), mg_none_of KX G (by k_is), mg_none_of KX G (by k_is), mg_none_of KX G (by k_is), mg_none_of KX G (by k_is), mg_none_of KX G (by k_is), mg_none_of KX G (by k_is), mg_none_of KX G (by k_is), mg_none_of KX G (by k_is), mg_none_of KX G (by k_is), mg_none_of KX G (by k_is), mg_none_of KX G (by k_is), mg_none_of KX G (by k_is), mg_none_of KX G (by k_is), mg_none_of KX G (by k_is), mg_none_of KX G (by k_is)⟩
    refine' LawK.end_mk KX G hfa ?kq45a ?kq45l ?kq45c ?kq45b ?kq45d DPNumber DPSigns DPWord DPPlace DPAllPlaces DPInOrder DPEndings DPEnding DQCommon DPCommon DPLengths DPPlaces DPCount DPFirst DPLast DPNext DPTextsWith DPSpan DPGap DPIsGap DPAllPieces DPManyLong DPNumbered DPNumberOf DHand DDraw DDeep DAnySign DSign DText DTexts DWord DPlaces DPiece DNoPlace DNoWord DCalled DError DAreWordsRefused EW EP EN (by decide) (by decide) (by decide) ?kq45p LL GL
    (case kq45a => k_is); (case kq45l => k_is); (case kq45c => kernel_rfl); (case kq45b => k_is); (case kq45d => k_is); (case kq45p => k_is)
