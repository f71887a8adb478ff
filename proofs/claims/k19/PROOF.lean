import PyProof.Rows.All
import Wide.All
import OpenK.AllK
import Wide.FinOn
import HandS.ForMost
import HandS.ForExc
import PyProof.ReprRoads
import PyProof.ReprLen
import HandS.Dict
import HandS.ExcInit
import PyProof.StrBlock2
import HandS.IsInst
import HandS.Codes
import HandS.StrMore
import HandS.TupMul
import HandS.Style
import HandS.TupAny
import HandS.Zip
import KE.GoesEnum
import KE.KExcSuper
import KE.KExcMake
import HandS.ExcValue
import HandS.ExcIs
import KE.KExcIs
import HandS.ExcField
import HandS.TryMany
import HandS.TryOnly
import HandS.Base
import HandS.Call
import HandS.List
import HandS.Comp
import HandS.Set
import HandS.SetKeys
import HandS.SetBool
import HandS.SortOrd
import HandS.SortInts
import PyProof.Rows.SortStr
import HandS.Walk
import KE.SortData
import KE.DataCmp
import KE.KDictList
import HandS.Iter
import HandS.Conv
import HandS.More
import HandS.CallLocal
import PyProof.DictStraight
import HandS.DictTup
import KE.DataMinMax
import HandS.SortKw
import PyProof.Rows.RowBridgeK
import HandS.SetFor
import KE.DatumIndex
import HandS.OwnEq
import PySem.Challenge.RW_everypiece_k19_whole_gaps_of_words
set_option Elab.async false
set_option linter.all false
set_option maxRecDepth 100000
set_option maxHeartbeats 4000000
/-! repr of nested data that the law has made. -/
namespace Ev
open PySem PySem.Spec PyProof.Rows L2

/-- a display of a list; its place is not the table of modules -/
def tLstN (t : TA) : TE := fun σ H Q => t σ H fun xs H1 => xs.length ≤ sizeLine ∧ ∀ p, H1 p = none → p ≠ sysModules → Q (.ref p) (upd H1 p (.lst xs))
theorem pe_lstN {X : Cx} {es : List Expr} {pos : Pos} {t : TA} (h : PA X es t) : PE X (.List es pos) (tLstN t) := by
  refine ⟨fun pins s σ H Q I hq => ?_⟩
  refine wpAny_List_spliced (thn (h.run pos pins s σ H _ I hq) fun us s1 hh => ?_)
  obtain ⟨xs, H1, I1, r, z, q⟩ := hh
  have hf : H1 s1.heap.objs.size = none := I1.hok.fresh (Nat.le_refl _)
  refine ⟨by rw [← r.length]; exact z, .ref s1.heap.objs.size, upd H1 s1.heap.objs.size (.lst xs), I1.laid (t' := s1.toks) (o := .lst xs) (fun b u e => Heap.get?_push_of_some _ e) (Nat.le_refl _) ⟨z, us, 0, r, Heap.get?_push_size _ rfl⟩, rfl, q _ hf (Ne.symm (Nat.ne_of_lt I1.big))⟩

/-- the datum d is told by v -/
inductive Dt (H : Hp) : V → PyData → Prop
  | non : Dt H .non .none
  | bl (b : Bool) : Dt H (.bl b) (.bool b)
  | int (i : Int) : Dt H (.int i) (.int i)
  | str (x : Str) : Dt H (.str x) (.str x)
  | dic {a : Addr} : H a = some (.dK []) → Dt H (.ref a) (.dict [])
  | l0 {a : Addr} : H a = some (.lst []) → a ≠ sysModules → Dt H (.ref a) (.list [])
  | l1 {a : Addr} {x : V} {d : PyData} : H a = some (.lst [x]) → a ≠ sysModules → Dt H x d → Dt H (.ref a) (.list [d])
  | l2 {a : Addr} {x y : V} {d e : PyData} : H a = some (.lst [x, y]) → a ≠ sysModules → Dt H x d → Dt H y e → Dt H (.ref a) (.list [d, e])
  | t0 {a : Addr} : H a = some (.tup []) → Dt H (.ref a) (.tuple [])
  | t1 {a : Addr} {x : V} {d : PyData} : H a = some (.tup [x]) → Dt H x d → Dt H (.ref a) (.tuple [d])
  | t2 {a : Addr} {x y : V} {d e : PyData} : H a = some (.tup [x, y]) → Dt H x d → Dt H y e → Dt H (.ref a) (.tuple [d, e])
theorem Dt.keep {H H' : Hp} {v : V} {d : PyData} (h : Dt H v d) (k : ∀ b o, H b = some o → H' b = some o) : Dt H' v d := by
  induction h with
  | non => exact .non
  | bl b => exact .bl b
  | int i => exact .int i
  | str x => exact .str x
  | dic e => exact .dic (k _ _ e)
  | l0 e n => exact .l0 (k _ _ e) n
  | l1 e n _ ih => exact .l1 (k _ _ e) n ih
  | l2 e n _ _ i1 i2 => exact .l2 (k _ _ e) n i1 i2
  | t0 e => exact .t0 (k _ _ e)
  | t1 e _ ih => exact .t1 (k _ _ e) ih
  | t2 e _ _ i1 i2 => exact .t2 (k _ _ e) i1 i2
section
variable {X : Cx} {pins : List (Addr × Obj)} {σ : L2.St} {H : Hp} {s : Shared}
theorem lst_at (I : L2.Inv X pins σ H s) {a : Addr} {xs : List V} (h : H a = some (.lst xs)) : ∃ (its : List Value) (n : Nat), Vals xs its ∧ s.heap.get? a = some { cls := .type "list", data := .seq its.toArray n } := by
  obtain ⟨_, its, n, r, e⟩ := (show ObjOk X.prog X.w H s.heap a (.lst xs) from I.hok a _ h)
  exact ⟨its, n, r, e⟩
theorem tup_at (I : L2.Inv X pins σ H s) {a : Addr} {xs : List V} (h : H a = some (.tup xs)) : ∃ (its : List Value) (o : Obj) (n : Nat), Vals xs its ∧ s.heap.get? a = some o ∧ o.cls = .type "tuple" ∧ o.data = .seq its.toArray n := by
  obtain ⟨_, its, r, o, e, c, n, d⟩ := (show ObjOk X.prog X.w H s.heap a (.tup xs) from I.hok a _ h)
  exact ⟨its, o, n, r, e, c, d⟩
theorem Dt.reads (I : L2.Inv X pins σ H s) {v : V} {d : PyData} (h : Dt H v d) : ∀ {u : Value}, RelV v u → ∃ as, Reads s.heap u d as ∧ sysModules ∉ as := by
  induction h with
  | non => intro u r; cases r; exact ⟨_, .none, by simp⟩
  | bl b => intro u r; cases r; exact ⟨_, .bool b, by simp⟩
  | int i => intro u r; obtain ⟨t, rfl⟩ := r; exact ⟨_, .int i t, by simp⟩
  | str x => intro u r; obtain ⟨t, rfl⟩ := r; exact ⟨_, .str x t, by simp⟩
  | @dic a e =>
    intro u r
    cases r
    obtain ⟨_, hs, vs, kv, o, es, ep, ho, hx, hd, hk, hp, _⟩ := (show ObjOk X.prog X.w H s.heap a (.dK []) from I.hok a _ e)
    cases kv
    have he : es.toList = [] := by
      generalize es.toList = l at hp
      cases hp
      rfl
    refine ⟨a :: [] ++ [], .dict (as := []) (bs := []) ho hx.1 hd ?_ ?_, ?_⟩
    · rw [he]; exact .nil
    · rw [he]; exact .nil
    · have : a ≠ sysModules := by simpa using hs
      simp [Ne.symm this]
  | @l0 a e n =>
    intro u r
    cases r
    obtain ⟨its, m, rv, ho⟩ := lst_at I e
    cases rv
    exact ⟨_, .list ho rfl rfl .nil, by simp [Ne.symm n]⟩
  | @l1 a x d e n hx ih =>
    intro u r
    cases r
    obtain ⟨its, m, rv, ho⟩ := lst_at I e
    cases rv with
    | cons r1 rr =>
      cases rr
      obtain ⟨as, q, nq⟩ := ih r1
      exact ⟨_, .list ho rfl rfl (.cons q .nil), by simp [Ne.symm n, nq]⟩
  | @l2 a x y d e2 e n hx hy ih1 ih2 =>
    intro u r
    cases r
    obtain ⟨its, m, rv, ho⟩ := lst_at I e
    cases rv with
    | cons r1 rr =>
      cases rr with
      | cons r2 rr =>
        cases rr
        obtain ⟨as, q, nq⟩ := ih1 r1
        obtain ⟨bs, q2, nq2⟩ := ih2 r2
        exact ⟨_, .list ho rfl rfl (.cons q (.cons q2 .nil)), by simp [Ne.symm n, nq, nq2]⟩
  | @t0 a e =>
    intro u r
    cases r
    obtain ⟨its, o, m, rv, ho, hc, hd⟩ := tup_at I e
    cases rv
    exact ⟨_, .tuple ho hc hd .nil, by simp⟩
  | @t1 a x d e hx ih =>
    intro u r
    cases r
    obtain ⟨its, o, m, rv, ho, hc, hd⟩ := tup_at I e
    cases rv with
    | cons r1 rr =>
      cases rr
      obtain ⟨as, q, nq⟩ := ih r1
      exact ⟨_, .tuple ho hc hd (.cons q .nil), by simp [nq]⟩
  | @t2 a x y d e2 e hx hy ih1 ih2 =>
    intro u r
    cases r
    obtain ⟨its, o, m, rv, ho, hc, hd⟩ := tup_at I e
    cases rv with
    | cons r1 rr =>
      cases rr with
      | cons r2 rr =>
        cases rr
        obtain ⟨as, q, nq⟩ := ih1 r1
        obtain ⟨bs, q2, nq2⟩ := ih2 r2
        exact ⟨_, .tuple ho hc hd (.cons q (.cons q2 .nil)), by simp [nq, nq2]⟩
end
/-- repr(x), x a datum of small depth and size -/
def rRepr : List V → Hp → VK → Prop := fun xs H Q => ∃ (x : V) (d : PyData), xs = [x] ∧ Dt H x d ∧ d.showable = true ∧ d.depth ≤ 100 ∧ d.shown.length ≤ 100000 ∧ Q (.str d.shown) H
theorem call_repr {X : Cx} {k : Nat} (hg : X.A.guards = some []) (hr : Room k X.A) : CallR X (.builtin "repr") rRepr := by
  intro pins s σ H xs us Q I r h
  obtain ⟨x, d, rfl, hd, hs, hdp, hz, q⟩ := h
  obtain ⟨u, rfl, ru⟩ := vals1 r
  have hz' : d.shown.length ≤ sizeLine := Nat.le_trans hz (by decide)
  obtain ⟨as, rd, ns⟩ := hd.reads I ru
  have hu : X.A.units + (d.depth + 1) < cLine := by have := hr.un; omega
  have viaRef : ∀ a, u = .ref a → wpAny (model X.prog X.w) X.A (call (.builtin "repr") [u]) (EP X pins σ Q) X.xe s := fun a e => by
    subst e
    exact repr_of_reads' rd hs (fun _ => ns) hg hu (fun _ _ e => e) (fun h' u tk k => ⟨.str d.shown, H, I.kept k, ⟨_, rfl⟩, q⟩) hz'
  cases hd with
  | non => cases ru; exact PySem.P.repr_of_none ⟨.str _, H, I.tok _, ⟨_, rfl⟩, by simpa only [PyData.shown] using q⟩
  | bl b => cases ru; exact PySem.P.repr_of_bool ⟨.str _, H, I.tok _, ⟨_, rfl⟩, by simpa only [PyData.shown] using q⟩
  | int i => obtain ⟨t, rfl⟩ := ru; exact PySem.P.repr_of_int (by simpa [PyData.showable] using hs) ⟨.str _, H, I.tok _, ⟨_, rfl⟩, by simpa only [PyData.shown] using q⟩
  | str x => obtain ⟨t, rfl⟩ := ru; exact PySem.P.repr_of_str ⟨.str _, H, I.tok _, ⟨_, rfl⟩, by simpa only [PyData.shown] using q⟩ (by simpa only [PyData.shown] using hz')
  | dic e => exact viaRef _ ru
  | l0 e n => exact viaRef _ ru
  | l1 e n h1 => exact viaRef _ ru
  | l2 e n h1 h2 => exact viaRef _ ru
  | t0 e => exact viaRef _ ru
  | t1 e h1 => exact viaRef _ ru
  | t2 e h1 h2 => exact viaRef _ ru
/-- what is told of a datum: it may be shown, so deep, so long -/
def Small (d : PyData) (n m : Nat) : Prop := d.showable = true ∧ d.depth ≤ n ∧ d.shown.length ≤ m
theorem int_len {k : Int} (hk : 0 ≤ k ∧ k < 100) : (PyData.shown (.int k)).length ≤ 3 := by
  have e : (toString k).length ≤ 2 + 1 := int_text_length_le10 (by decide) (by omega)
  simp only [PyData.shown]
  rw [PySem.ofString_length]
  exact e
theorem int_show {k : Int} (hk : 0 ≤ k ∧ k < 100) : k.natAbs.log2 < 1920 := by
  have := Nat.log2_le_self k.natAbs
  omega
theorem small_tup {d : PyData} {n m : Nat} {k : Int} (h : Small d n m) (hk : 0 ≤ k ∧ k < 100) : Small (.tuple [d, .int k]) (n + 1) (m + 10) := by
  obtain ⟨h1, h2, h3⟩ := h
  refine ⟨by simp [PyData.showable, PyData.showableAll, h1, int_show hk], by simp only [PyData.depth, PyData.depthAll]; omega, ?_⟩
  have e := tupleText_len_le (PyData.shownAll [d, .int k])
  have e2 := int_len hk
  simp only [PyData.shownAll, List.map_cons, List.map_nil, List.sum_cons, List.sum_nil, List.length_cons, List.length_nil] at e
  show (tupleText (PyData.shownAll [d, .int k])).length ≤ m + 10
  simp only [PyData.shownAll]
  omega
theorem small_lst {d : PyData} {n m : Nat} {k : Int} (h : Small d n m) (hk : 0 ≤ k ∧ k < 100) : Small (.list [.int k, d]) (n + 1) (m + 10) := by
  obtain ⟨h1, h2, h3⟩ := h
  refine ⟨by simp [PyData.showable, PyData.showableAll, h1, int_show hk], by simp only [PyData.depth, PyData.depthAll]; omega, ?_⟩
  have e := listText_len_le (PyData.shownAll [.int k, d])
  have e2 := int_len hk
  simp only [PyData.shownAll, List.map_cons, List.map_nil, List.sum_cons, List.sum_nil, List.length_cons, List.length_nil] at e
  show (listText (PyData.shownAll [.int k, d])).length ≤ m + 10
  simp only [PyData.shownAll]
  omega
theorem Small.mono {d : PyData} {n m n' m' : Nat} (h : Small d n m) (h1 : n ≤ n') (h2 : m ≤ m') : Small d n' m' := ⟨h.1, Nat.le_trans h.2.1 h1, Nat.le_trans h.2.2 h2⟩
end Ev
set_option maxHeartbeats 4000000
namespace LawK
open PySem PySem.Spec PyProof.Rows L2 Ev

def topS (i : Nat) : Stmt := PySem.Challenge.pw_everypiece_k19_whole_gaps_of_words.main.body.getD i (.Pass ⟨0, 0, 0, 0⟩)
abbrev sHand : Stmt := topS 26
theorem scHand : FnScope ["script", "cell"] ["script"] (defScope sHand) := ⟨rfl, rfl, rfl, by decide +kernel, rfl, by decide +kernel, by decide +kernel⟩
abbrev sDraw : Stmt := topS 27
theorem scDraw : FnScope ["hand", "many", "cell", "digit", "number"] ["hand", "many"] (defScope sDraw) := ⟨rfl, rfl, rfl, by decide +kernel, rfl, by decide +kernel, by decide +kernel⟩
/-! ### the hand of a law: what is left of the script, and a seed -/
def HandL (H : Hp) (p l : Addr) : Prop := ∃ (cells : List Int) (i r s n : Int), H p = some (.lst [.ref l, .int i, .int r, .int s, .int n]) ∧ H l = some (.lst (cells.map V.int)) ∧ l ≠ p ∧ 0 ≤ i ∧ 0 ≤ s ∧ s < 2147483647
/-- nothing but the hand at p has changed -/
def But (p : Addr) (H H' : Hp) : Prop := ∀ b o, b ≠ p → H b = some o → H' b = some o
theorem But.refl (p : Addr) (H : Hp) : But p H H := fun _ _ _ h => h
theorem But.trans {p : Addr} {H H1 H2 : Hp} (a : But p H H1) (b : But p H1 H2) : But p H H2 := fun c o n h => b c o n (a c o n h)
theorem But.new {p q : Addr} {H H1 : Hp} {o : HO} (a : But p H H1) (h : H1 q = none) : But p H (upd H1 q o) := fun c u n e => by
  have z := a c u n e
  rw [upd_ne (ne_of_none z h)]
  exact z
theorem But.same {p : Addr} {H H' : Hp} (a : Same H H') : But p H H' := fun c o _ e => a c o e
def spDraw : Sp := fun vs H Q _ => ∃ (p : Addr) (m : Int), vs = [.ref p, .int m] ∧ 0 < m ∧ m < 1000000 ∧ ∃ l, HandL H p l ∧ ∀ v H', 0 ≤ v → v < m → HandL H' p l → But p H H' → Q (.int v) H'
def spHand (K : PySem.W.Frag) : Sp := fun vs H Q _ => ∃ (a : Addr) (ns : List Int), vs = [.ref a] ∧ SqL K H a (ns.map V.int) ∧ ∀ p l H', H p = none → H l = none → HandL H' p l → Same H H' → Q (.ref p) H'
structure Glob (mg : Str → Option Value) : Prop where
  abs : mg "abs" = none
  any : mg "any" = none
  repr : mg "repr" = none
  reversed : mg "reversed" = none
  len : mg "len" = none
  int : mg "int" = none
  list : mg "list" = none
  range : mg "range" = none
  isinstance : mg "isinstance" = none
  bool : mg "bool" = none
  str : mg "str" = none
  tuple : mg "tuple" = none
  sum : mg "sum" = none
  ord : mg "ord" = none
  zip : mg "zip" = none
  max : mg "max" = none
  min : mg "min" = none
  all : mg "all" = none
  enumerate : mg "enumerate" = none
  sorted : mg "sorted" = none

theorem sq_of {K : PySem.W.Frag} {H : Hp} {a : Addr} {xs : List V} (h : H a = some (.lst xs)) : SqL K H a xs := .inl (.inl h)
theorem atI_in {α : Type} {xs : List α} {i : Int} (h0 : 0 ≤ i) (h1 : i < xs.length) : ∃ v, atI xs i = some v ∧ v ∈ xs := by
  obtain ⟨j, rfl⟩ := Int.eq_ofNat_of_zero_le h0
  have hj : j < xs.length := by omega
  exact ⟨xs[j], atI_nat (by rw [List.getElem?_eq_getElem hj]), List.getElem_mem hj⟩
theorem atI_int {xs : List Int} {i : Int} (h0 : 0 ≤ i) (h1 : i < xs.length) : ∃ c : Int, atI (xs.map V.int) i = some (.int c) := by
  obtain ⟨v, e, hm⟩ := atI_in (xs := xs.map V.int) h0 (by rw [List.length_map]; exact h1)
  obtain ⟨c, _, rfl⟩ := List.mem_map.mp hm
  exact ⟨c, e⟩
theorem sqSame {K : PySem.W.Frag} {H H' : Hp} {a : Addr} {xs : List V} (h : SqL K H a xs) (k : Same H H') : SqL K H' a xs := by
  rcases h with (h | ⟨o, h⟩) | h
  · exact .inl (.inl (k _ _ h))
  · exact .inl (.inr ⟨o, k _ _ h⟩)
  · exact .inr h
theorem Same.new {H : Hp} {q : Addr} {o : HO} (h : H q = none) : Same H (upd H q o) := fun b u e => by
  rw [upd_ne (ne_of_none e h)]
  exact e
theorem sameAt {H H' : Hp} {q : Addr} {o : HO} (k : Same H H') (h : H q = none) : Same H (upd H' q o) := fun b u e => by
  rw [upd_ne (ne_of_none e h)]
  exact k b u e
theorem Same.free {H H' : Hp} (k : Same H H') {a : Addr} (h : H' a = none) : H a = none := by
  cases e : H a with
  | none => rfl
  | some o =>
    rw [k _ _ e] at h
    cases h
theorem cells_cut {ns : List Int} {h : Option Int} : ∃ ms : List Int, cutV (ns.map V.int) none h = ms.map V.int ∧ ms.length ≤ ns.length := by
  refine ⟨(ns.drop (HT.sIx (ns.map V.int).length 0 none)).take (HT.sIx (ns.map V.int).length (ns.map V.int).length h - HT.sIx (ns.map V.int).length 0 none), ?_, ?_⟩
  · show ((ns.map V.int).drop _).take _ = _
    rw [← List.map_drop, ← List.map_take]
  · rw [List.length_take, List.length_drop]
    omega
theorem PSs.imp {X : Cx} {st : List Stmt} {t u : TS} (h : PSs X st u) (k : ∀ D σ H, t D σ H → u D σ H) : PSs X st t := ⟨fun pins s σ H D I q => h.run pins s σ H D I (k D σ H q)⟩
theorem PE.imp {X : Cx} {e : Expr} {t u : TE} (h : PE X e u) (k : ∀ σ H Q, t σ H Q → u σ H Q) : PE X e t := ⟨fun pins s σ H Q I q => h.run pins s σ H Q I (k σ H Q q)⟩
theorem PS.imp {X : Cx} {st : Stmt} {t u : TS} (h : PS X st u) (k : ∀ D σ H, t D σ H → u D σ H) : PS X st t := ⟨fun pins s σ H D I q => h.run pins s σ H D I (k D σ H q)⟩
def tTail : TS := fun D σ H => ∃ (p : Addr) (m : Int) (l : Addr) (cells : List Int) (i r s n : Int) (c f x : Option V), σ = [some (.ref p), some (.int m), c, f, x] ∧ 0 < m ∧ m < 1000000 ∧ H p = some (.lst [.ref l, .int i, .int r, .int s, .int n]) ∧ H l = some (.lst (cells.map V.int)) ∧ l ≠ p ∧ 0 ≤ i ∧ 0 ≤ s ∧ s < 2147483647 ∧
  ∀ v H', 0 ≤ v → v < m → HandL H' p l → But p H H' → D.rt (.int v) H'
theorem HandL.mk {H : Hp} {p l : Addr} {cells : List Int} {i r s n : Int} (hp : H p = some (.lst [.ref l, .int i, .int r, .int s, .int n])) (hl : H l = some (.lst (cells.map V.int))) (n0 : l ≠ p) (h1 : 0 ≤ i) (h2 : 0 ≤ s) (h3 : s < 2147483647) : HandL H p l := ⟨cells, i, r, s, n, hp, hl, n0, h1, h2, h3⟩
theorem but_upd {p : Addr} {H : Hp} {o : HO} : But p H (upd H p o) := fun b u n e => by
  rw [upd_ne n]
  exact e
theorem boot_ty_int : bootBuiltins "int" = some (.type "int") := by decide +kernel
section
variable {P : Program} {w : World} {K : PySem.W.Frag} {mg : Str → Option Value} {base : Heap}

theorem ok_Hand {f : Addr} {fd : FuncData} (F : Fun K "_law_hand" "_law_hand" sHand f fd) (T : Glob mg) : FnOk P w K mg base CX0 1 f fd ["script"] (spHand K) := by
  refine F.ok scHand (fun vs H Q E h => ?_) (fun cdv A outer s H vs Q E hr h => ?_)
  · obtain ⟨a, ns, rfl, _⟩ := h
    rfl
  · obtain ⟨a, ns, rfl, hS, q⟩ := h
    refine ⟨_, (pss_one (ps_ret (pe_lst (pa_cons (pe_lc (own := [("cell", 1)]) (g := gName 1) (by rfl) scHand.nd (pi_list (pe_slice sl_list (pv 0) po_none (po_some pe_int))) (blkOk_by (N := ["script", "cell"]) (sc := defScope sHand) (by decide +kernel)) (fun _ _ _ _ _ => pg_name (i := 1) scHand.nd rfl (.inl rfl)) (fun _ _ _ _ _ => pts_nil) (fun _ _ _ _ _ => (pe_callTy call_int1 (by rfl) T.int boot_ty_int (pa_cons (pv 1) pa_nil)))) (pa_cons pe_int (pa_cons pe_int (pa_cons (pe_op op_add pe_int (pe_callB call_len_seq (by rfl) T.len PySem.boot_len (pa_cons (pe_slice sl_list (pv 0) po_none (po_some pe_int)) pa_nil))) (pa_cons pe_int pa_nil)))))))), ?_⟩
    obtain ⟨ms, ec, lm⟩ := cells_cut (ns := ns) (h := some 63)
    have lc : (cutV (ns.map V.int) none (some (63 : Int))).length ≤ 63 := by
      show (((ns.map V.int).drop _).take _).length ≤ 63
      rw [List.length_take]
      have : HT.sIx (ns.map V.int).length (ns.map V.int).length (some (63 : Int)) ≤ 63 := Nat.min_le_left _ _
      omega
    refine ⟨.ref a, rfl, 63, rfl, a, _, rfl, hS, fun c nc => ?_⟩
    rw [ec]
    rw [ec, List.length_map] at lc
    have kc := Same.new (o := .lst (ms.map V.int)) nc
    have hc : upd H c (.lst (ms.map V.int)) c = some (.lst (ms.map V.int)) := upd_same
    revert kc hc
    generalize upd H c (.lst (ms.map V.int)) = H1
    intro kc hc
    refine ⟨c, rfl, ⟨_, sq_of hc⟩, fun l nl => lc_list (xs := ms.map V.int) (fun i H' => Same H1 H' ∧ ∃ zs : List Int, H' l = some (.lst (zs.map V.int)) ∧ zs.length = i) ⟨Same.new nl, [], upd_same, rfl⟩ (fun i H' _ w => sq_of (w.1 _ _ hc)) ?_ ?_⟩
    · rintro i x H2 hx ⟨k2, zs, hl, lz⟩
      rw [List.getElem?_map] at hx
      obtain ⟨y, hy, rfl⟩ := Option.map_eq_some_iff.mp hx
      have li := (List.getElem?_eq_some_iff.mp hy).1
      refine ⟨rfl, .int y, rfl, .inl ⟨y, rfl, _, hl, ?_, sameAt k2 nl, zs ++ [y], ?_, by rw [List.length_append, lz]; rfl⟩⟩
      · rw [List.length_map, lz, sizeLine_eq]
        omega
      · rw [upd_same, List.map_append]
        rfl
    · rintro H2 ⟨k2, zs, hl, lz⟩
      rw [List.length_map] at lz
      refine ⟨.ref a, rfl, 63, rfl, a, _, rfl, sqSame hS (kc.trans k2), fun d nd => ?_⟩
      rw [ec]
      have kd := Same.new (o := .lst (ms.map V.int)) nd
      have hd : upd H2 d (.lst (ms.map V.int)) d = some (.lst (ms.map V.int)) := upd_same
      revert kd hd
      generalize upd H2 d (.lst (ms.map V.int)) = H3
      intro kd hd
      refine ⟨d, _, rfl, .inl (sq_of hd), _, _, rfl, rfl, by show 5 ≤ sizeLine; decide, fun p hp => ?_⟩
      have hl3 := kd _ _ hl
      have nlp : l ≠ p := fun e => by
        rw [e] at hl3
        rw [hl3] at hp
        cases hp
      have kH3 : Same H H3 := (kc.trans k2).trans kd
      have ncl : H l = none := Same.free kc nl
      refine q p l _ (Same.free kH3 hp) ncl ⟨zs, 0, 0, 1 + (((ms.map V.int).length : Nat) : Int), 0, upd_same, by rw [upd_ne nlp]; exact hl3, nlp, by decide, by omega, ?_⟩ (sameAt kH3 (Same.free kH3 hp))
      rw [List.length_map]
      omega
theorem ok_Draw {f : Addr} {fd : FuncData} (F : Fun K "_law_draw" "_law_draw" sDraw f fd) (T : Glob mg) : FnOk P w K mg base CX0 1 f fd ["hand", "many"] spDraw := by
  refine F.ok scDraw (fun vs H Q E h => ?_) (fun cdv A outer s H vs Q E hr h => ?_)
  · obtain ⟨p, m, rfl, _⟩ := h
    rfl
  · obtain ⟨p, m, rfl, m0, m1, l, ⟨cells, i, r, s0, n, hp, hl, npl, hi, hs0, hs1⟩, q⟩ := h
    refine ⟨_, (pss_cons (ps_if (PW.pt (pw_and (pt_cmpR op_eq (pe_ix ix_list (pv 0) pe_int (fun _ _ => rfl)) pe_int (nomark _)) (pw_and1 (pt_cmpR op_lt (pe_ix ix_list (pv 0) pe_int (fun _ _ => rfl)) (pe_callB call_len_seq (by rfl) T.len PySem.boot_len (pa_cons (pe_ix ix_list (pv 0) pe_int (fun _ _ => rfl)) pa_nil)) (nomark _)))))
      (pss_cons (ps_set (i := 2) scDraw.nd rfl (.inl rfl) (pe_ix ix_list (pe_ix ix_list (pv 0) pe_int (fun _ _ => rfl)) (pe_ix ix_list (pv 0) pe_int (fun _ _ => rfl)) (fun _ _ => rfl)))
        (pss_cons (ps_asg (pe_op op_add (pe_ix ix_list (pv 0) pe_int (fun _ _ => rfl)) pe_int) (pg_sub (pv 0) pe_int set_list))
        (pss_cons (ps_asg (pe_op op_mod (pe_callTy call_int1 (by rfl) T.int boot_ty_int (pa_cons (pe_op op_add (pe_op op_add (pe_op op_mul (pe_ix ix_list (pv 0) pe_int (fun _ _ => rfl)) pe_int) (pe_op op_mul (pv 2) pe_int)) pe_int) pa_nil)) pe_int) (pg_sub (pv 0) pe_int set_list))
        (pss_one (ps_if (pt_cmpR op_ge (pv 2) (pe_op op_pow pe_int pe_int) (nomark _))
        (pss_one (ps_asg (pv 2) (pg_sub (pv 0) pe_int set_list)))
        pss_nil)))))
      pss_nil)
      (PSs.imp (t := tTail) (pss_cons (ps_if (pt_cmpR op_gt (pe_ix ix_list (pv 0) pe_int (fun _ _ => rfl)) pe_int (nomark _))
      (pss_cons (ps_set (i := 3) scDraw.nd rfl (.inl rfl) (pe_op op_mod (pe_callTy call_int1 (by rfl) T.int boot_ty_int (pa_cons (pe_ix ix_list (pv 0) pe_int (fun _ _ => rfl)) pa_nil)) (pv 1)))
        (pss_cons (ps_asg (pe_op op_fdiv (pe_ix ix_list (pv 0) pe_int (fun _ _ => rfl)) (pv 1)) (pg_sub (pv 0) pe_int set_list))
        (pss_one (ps_ret (pv 3)))))
      pss_nil)
      (pss_cons (ps_asg (pe_op op_add (pe_ix ix_list (pv 0) pe_int (fun _ _ => rfl)) pe_int) (pg_sub (pv 0) pe_int set_list))
      (pss_cons (ps_set (i := 4) scDraw.nd rfl (.inl rfl) (pe_op op_mod (pe_callTy call_int1 (by rfl) T.int boot_ty_int (pa_cons (pe_op op_mul (pe_callTy call_int1 (by rfl) T.int boot_ty_int (pa_cons (pe_op op_add (pe_ix ix_list (pv 0) pe_int (fun _ _ => rfl)) (pe_op op_mul pe_int (pe_ix ix_list (pv 0) pe_int (fun _ _ => rfl)))) pa_nil)) pe_int) pa_nil)) pe_int))
      (pss_cons (ps_set (i := 4) scDraw.nd rfl (.inl rfl) (pe_op op_mod (pe_callTy call_int1 (by rfl) T.int boot_ty_int (pa_cons (pe_op op_mul (pv 4) (pe_op op_add (pe_op op_fdiv (pv 4) pe_int) pe_int)) pa_nil)) pe_int))
      (pss_cons (ps_set (i := 4) scDraw.nd rfl (.inl rfl) (pe_op op_mod (pe_callTy call_int1 (by rfl) T.int boot_ty_int (pa_cons (pe_op op_mul (pv 4) (pe_op op_add (pe_op op_fdiv (pv 4) pe_int) pe_int)) pa_nil)) pe_int))
      (pss_one (ps_ret (pe_op op_mod (pe_callTy call_int1 (by rfl) T.int boot_ty_int (pa_cons (pe_op op_fdiv (pv 4) pe_int) pa_nil)) (pv 1))))))))) ?tail)), ?_⟩
    case tail =>
      rintro D σ H ⟨p, m, l, cells, i, r, s, n, c, f, x, rfl, m0, m1, hp, hl, npl, hi, hs0, hs1, q⟩
      refine ⟨.ref p, rfl, p, _, 2, _, rfl, rfl, sq_of hp, rfl, _, _, rfl, rfl, _, rfl, ite2 (fun e => ?_) (fun e => ?_)⟩
      · refine ⟨.ref p, rfl, p, _, 2, _, rfl, rfl, sq_of hp, rfl, .inl ⟨r, rfl, .int m, rfl, _, _, rfl, rfl, m0, ?_⟩⟩
        refine ⟨.ref p, rfl, p, _, 2, _, rfl, rfl, sq_of hp, rfl, .int m, rfl, _, _, rfl, rfl, ⟨m0, by omega⟩, ?_⟩
        refine ⟨.ref p, rfl, p, _, 2, 2, rfl, rfl, hp, rfl, ?_⟩
        refine ⟨_, rfl, ?_⟩
        refine q _ _ (Int.emod_nonneg _ (by omega)) (Int.emod_lt_of_pos _ m0) (.mk upd_same (by rw [upd_ne npl]; exact hl) npl hi hs0 hs1) but_upd
      · dsimp only [tNext, tDrop]
        refine ⟨.ref p, rfl, p, _, 4, _, rfl, rfl, sq_of hp, rfl, _, _, rfl, rfl, .ref p, rfl, p, _, 4, 4, rfl, rfl, hp, rfl, ?_⟩
        dsimp only
        have hp2 : upd H p (.lst (List.set [.ref l, .int i, .int r, .int s, .int n] 4 (.int (n + 1)))) p = some (.lst [.ref l, .int i, .int r, .int s, .int (n + 1)]) := upd_same
        have hl2 : upd H p (.lst (List.set [.ref l, .int i, .int r, .int s, .int n] 4 (.int (n + 1)))) l = some (.lst (cells.map V.int)) := by rw [upd_ne npl]; exact hl
        have b2 : But p H (upd H p (.lst (List.set [.ref l, .int i, .int r, .int s, .int n] 4 (.int (n + 1))))) := but_upd
        generalize upd H p (.lst (List.set [.ref l, .int i, .int r, .int s, .int n] 4 (.int (n + 1)))) = H2 at hp2 hl2 b2 ⊢
        refine ⟨.ref p, rfl, p, _, 3, _, rfl, rfl, sq_of hp2, rfl, .ref p, rfl, p, _, 4, _, rfl, rfl, sq_of hp2, rfl, 7919, n + 1, rfl, rfl, .inl ⟨by decide, by decide⟩, _, _, rfl, rfl, .inl ⟨_, rfl, _, _, rfl, rfl, .inr ⟨by decide, by decide⟩, .inl ⟨_, rfl, _, _, rfl, rfl, (by show (0 : Int) < 2147483647; decide), ?_⟩⟩⟩
        dsimp only
        have a2 : 0 ≤ ((s + 7919 * (n + 1)) * 48271) % 2147483647 := Int.emod_nonneg _ (by decide)
        have a3 : ((s + 7919 * (n + 1)) * 48271) % 2147483647 < 2147483647 := Int.emod_lt_of_pos _ (by decide)
        generalize ((s + 7919 * (n + 1)) * 48271) % 2147483647 = y at a2 a3 ⊢
        refine ⟨.int y, rfl, .int y, rfl, _, _, rfl, rfl, ⟨by decide, by decide⟩, _, _, rfl, rfl, _, _, rfl, rfl, .inl ⟨by omega, by omega⟩, .inl ⟨_, rfl, _, _, rfl, rfl, (by show (0 : Int) < 2147483647; decide), ?_⟩⟩
        dsimp only
        have a4 : 0 ≤ (y * (y / 1009 + 69621)) % 2147483647 := Int.emod_nonneg _ (by decide)
        have a5 : (y * (y / 1009 + 69621)) % 2147483647 < 2147483647 := Int.emod_lt_of_pos _ (by decide)
        generalize (y * (y / 1009 + 69621)) % 2147483647 = z at a4 a5 ⊢
        refine ⟨.int z, rfl, .int z, rfl, _, _, rfl, rfl, ⟨by decide, by decide⟩, _, _, rfl, rfl, _, _, rfl, rfl, .inl ⟨by omega, by omega⟩, .inl ⟨_, rfl, _, _, rfl, rfl, (by show (0 : Int) < 2147483399; decide), ?_⟩⟩
        refine ⟨_, rfl, _, _, rfl, rfl, ⟨by decide, by decide⟩, .inl ⟨_, rfl, .int m, rfl, _, _, rfl, rfl, m0, ?_⟩⟩
        exact q _ _ (Int.emod_nonneg _ (by omega)) (Int.emod_lt_of_pos _ m0) (.mk hp2 hl2 npl hi hs0 hs1) b2
    have fin : ∀ {H2 : Hp} {i r s n : Int} {c : Option V}, H2 p = some (.lst [.ref l, .int i, .int r, .int s, .int n]) → H2 l = some (.lst (cells.map V.int)) → 0 ≤ i → 0 ≤ s → s < 2147483647 → But p H H2 →
        tTail { nx := fun _ H' => Q .non H', rt := Q } [some (.ref p), some (.int m), c, none, none] H2 := fun {H2 i r s n c} h1 h2 h3 h4 h5 h6 =>
      ⟨p, m, l, cells, i, r, s, n, c, none, none, rfl, m0, m1, h1, h2, npl, h3, h4, h5, fun v H' g1 g2 g3 g4 => q v H' g1 g2 g3 (h6.trans g4)⟩
    refine ⟨.ref p, rfl, p, _, 2, _, rfl, rfl, sq_of hp, rfl, rfl, _, rfl, ite2 (fun e => ?_) (fun e => ?_)⟩
    · refine ⟨.ref p, rfl, p, _, 1, _, rfl, rfl, sq_of hp, rfl, .ref p, rfl, p, _, 0, _, rfl, rfl, sq_of hp, rfl, l, _, rfl, .inl (sq_of hl), _, _, rfl, rfl, _, rfl, ite2 (fun e2 => ?_) (fun e2 => ?_)⟩
      · have hlt : i < (cells.length : Int) := by
          have z := of_decide_eq_true e2
          rw [List.length_map] at z
          exact z
        obtain ⟨c, hc⟩ := atI_int hi hlt
        refine ⟨.ref p, rfl, p, _, 0, _, rfl, rfl, sq_of hp, rfl, .ref p, rfl, p, _, 1, _, rfl, rfl, sq_of hp, rfl, l, _, i, _, rfl, rfl, sq_of hl, hc, ?_⟩
        refine ⟨.ref p, rfl, p, _, 1, _, rfl, rfl, sq_of hp, rfl, _, _, rfl, rfl, .ref p, rfl, p, _, 1, 1, rfl, rfl, hp, rfl, ?_⟩
        dsimp only
        have hp2 : upd H p (.lst (List.set [.ref l, .int i, .int r, .int s0, .int n] 1 (.int (i + 1)))) p = some (.lst [.ref l, .int (i + 1), .int r, .int s0, .int n]) := upd_same
        have hl2 : upd H p (.lst (List.set [.ref l, .int i, .int r, .int s0, .int n] 1 (.int (i + 1)))) l = some (.lst (cells.map V.int)) := by rw [upd_ne npl]; exact hl
        have b2 : But p H (upd H p (.lst (List.set [.ref l, .int i, .int r, .int s0, .int n] 1 (.int (i + 1))))) := but_upd
        generalize upd H p (.lst (List.set [.ref l, .int i, .int r, .int s0, .int n] 1 (.int (i + 1)))) = H2 at hp2 hl2 b2 ⊢
        refine ⟨.ref p, rfl, p, _, 3, _, rfl, rfl, sq_of hp2, rfl, s0, 69621, rfl, rfl, .inl ⟨by omega, by omega⟩, .int c, rfl, _, _, rfl, rfl, .inr ⟨by decide, by decide⟩, _, _, rfl, rfl, _, _, rfl, rfl, .inl ⟨_, rfl, _, _, rfl, rfl, (by show (0 : Int) < 2147483629; decide), .ref p, rfl, p, _, 3, 3, rfl, rfl, hp2, rfl, ?_⟩⟩
        dsimp only
        have a0 : 0 ≤ (s0 * 69621 + c * 16 + 11) % 2147483629 := Int.emod_nonneg _ (by decide)
        have a1 : (s0 * 69621 + c * 16 + 11) % 2147483629 < 2147483629 := Int.emod_lt_of_pos _ (by decide)
        generalize (s0 * 69621 + c * 16 + 11) % 2147483629 = s2 at a0 a1 ⊢
        have hp3 : upd H2 p (.lst (List.set [.ref l, .int (i + 1), .int r, .int s0, .int n] 3 (.int s2))) p = some (.lst [.ref l, .int (i + 1), .int r, .int s2, .int n]) := upd_same
        have hl3 : upd H2 p (.lst (List.set [.ref l, .int (i + 1), .int r, .int s0, .int n] 3 (.int s2))) l = some (.lst (cells.map V.int)) := by rw [upd_ne npl]; exact hl2
        have b3 : But p H (upd H2 p (.lst (List.set [.ref l, .int (i + 1), .int r, .int s0, .int n] 3 (.int s2)))) := b2.trans but_upd
        generalize upd H2 p (.lst (List.set [.ref l, .int (i + 1), .int r, .int s0, .int n] 3 (.int s2))) = H3 at hp3 hl3 b3 ⊢
        refine ⟨.int c, rfl, _, _, rfl, rfl, ⟨by decide, by decide, by decide⟩, _, _, rfl, rfl, _, rfl, ite2 (fun _ => ?_) (fun _ => ?_)⟩
        · refine ⟨.int c, rfl, .ref p, rfl, p, _, 2, 2, rfl, rfl, hp3, rfl, ?_⟩
          exact fin upd_same (by rw [upd_ne npl]; exact hl3) (by omega) a0 (by omega) (b3.trans but_upd)
        · dsimp only [tNext, tDrop]
          exact fin hp3 hl3 (by omega) a0 (by omega) b3
      · dsimp only [tNext, tDrop]
        exact fin hp hl hi hs0 hs1 (But.refl _ _)
    · dsimp only [tNext, tDrop]
      exact fin hp hl hi hs0 hs1 (But.refl _ _)
end
end LawK
set_option maxHeartbeats 4000000
/-! Texts: how long, so many times, which signs; kinds of values. -/
namespace Ev
open PySem PySem.Spec PyProof.Rows L2
def rLenZ : List V → Hp → VK → Prop := fun xs H Q => ∃ z : Str, xs = [.str z] ∧ z.length ≤ sizeLine ∧ Q (.int z.length) H
theorem call_lenZ {X : Cx} : CallR X (.builtin "len") rLenZ := fun pins s σ H xs us Q I r h =>
  call_len pins s σ H xs us Q I r (let ⟨z, e, hz, q⟩ := h; ⟨.str z, z.length, e, ⟨hz, rfl⟩, q⟩)
def rMulS : R2 := fun x y H Q => ∃ (z : Str) (n : Int), x = .str z ∧ y = .int n ∧ 0 ≤ n ∧ n ≤ 3000 ∧ z.length ≤ 1000 ∧ Q (.str (Txt.mul z n)) H
theorem mul_ok {z : Str} {n : Int} (h0 : 0 ≤ n) (h1 : n ≤ 3000) (h2 : z.length ≤ 1000) : MulOk z n := by
  refine ⟨by simp; omega, fun a _ => ?_, fun _ _ => ?_⟩
  · have e : (1000 : Int) ≤ (2 ^ 63 - 1) / n := by
      refine Int.le_ediv_of_mul_le (by omega) ?_
      have : (2 : Int) ^ 63 - 1 = 9223372036854775807 := by decide
      omega
    omega
  · have e : z.length * n.toNat ≤ 1000 * 3000 := Nat.mul_le_mul h2 (by omega)
    have h3 : sizeLine = 16777216 := sizeLine_eq
    show decide (z.length * n.toNat > sizeLine) = false
    exact decide_eq_false (by omega)
theorem op_mulS {X : Cx} : OpR X (binaryOp .Mult) rMulS := by
  intro pins s σ H x y v u Q I rx ry h
  obtain ⟨z, n, rfl, rfl, h0, h1, h2, q⟩ := h
  obtain ⟨t, rfl⟩ := rx
  obtain ⟨t', rfl⟩ := ry
  exact SB.mul (mul_ok h0 h1 h2) fun t' k => ⟨.str _, H, I.tok _, ⟨_, rfl⟩, q⟩
/-- every sign of the text is one from the blank to the tilde -/
def sgC (c : Nat) : Bool := decide (32 ≤ c) && decide (c ≤ 126)
def sgB (z : Str) : Bool := z.cps.toList.all sgC
theorem prn128 : ∀ c : Fin 128, Unicode.isPrintable c.val = sgC c.val := by decide +kernel
theorem sgC_of (c : Nat) : (decide (c < 128) && Unicode.isPrintable c) = sgC c := by
  by_cases h : c < 128
  · rw [decide_eq_true h, Bool.true_and]
    exact prn128 ⟨c, h⟩
  · rw [decide_eq_false h, Bool.false_and]
    unfold sgC
    rw [decide_eq_false (show ¬ c ≤ 126 by omega), Bool.and_false]
theorem sgB_of (z : Str) : (Txt.isascii z && Txt.isprintable z) = sgB z := by
  unfold Txt.isascii Txt.isprintable sgB
  rw [← Array.all_toList, ← Array.all_toList]
  generalize z.cps.toList = l
  induction l with
  | nil => rfl
  | cons c l ih =>
    rw [List.all_cons, List.all_cons, List.all_cons, ← sgC_of, ← ih]
    cases decide (c < 128) <;> cases Unicode.isPrintable c <;> cases l.all (fun c => decide (c < 128)) <;> rfl
/-! ### kinds -/
inductive Kn | non | bl | int | str | lst | tup | dic
  deriving DecidableEq
def Kn.name : Kn → String
  | .non => "NoneType"
  | .bl => "bool"
  | .int => "int"
  | .str => "str"
  | .lst => "list"
  | .tup => "tuple"
  | .dic => "dict"
def kitB : Kn → Kn → Bool
  | .bl, .int => true
  | a, b => decide (a = b)
inductive Kd (H : Hp) : V → Kn → Prop
  | non : Kd H .non .non
  | bl (b : Bool) : Kd H (.bl b) .bl
  | int (i : Int) : Kd H (.int i) .int
  | str (z : Str) : Kd H (.str z) .str
  | lst {a : Addr} {xs : List V} (e : H a = some (.lst xs)) : Kd H (.ref a) .lst
  | tup {a : Addr} {xs : List V} (e : H a = some (.tup xs)) : Kd H (.ref a) .tup
  | dic {a : Addr} {kvs : List (Key × V)} (e : H a = some (.dK kvs)) : Kd H (.ref a) .dic
theorem Kd.tyx {K : PySem.W.Frag} {H : Hp} {x : V} {k : Kn} (h : Kd H x k) : TyX K H x (.type k.name) := by
  cases h with
  | non => exact .base .non
  | bl b => exact .base (.bl b)
  | int i => exact .base (.int i)
  | str z => exact .base (.str z)
  | lst e => exact .base (.lst e)
  | tup e => exact .base (.tup e)
  | dic e => exact .base (.dK e)
theorem Kd.same {H H' : Hp} (s : ∀ b o, H b = some o → H' b = some o) {x : V} {k : Kn} (h : Kd H x k) : Kd H' x k := by
  cases h with
  | non => exact .non
  | bl b => exact .bl b
  | int i => exact .int i
  | str z => exact .str z
  | lst e => exact .lst (s _ _ e)
  | tup e => exact .tup (s _ _ e)
  | dic e => exact .dic (s _ _ e)
theorem kit_kn {K : PySem.W.Frag} : ∀ a b : Kn, PySem.W.kitOne K (.type a.name) (.type b.name) = some (kitB a b) := by
  intro a b
  cases a <;> cases b <;> exact kit_ty (by decide +kernel)
theorem rd_isi {K : PySem.W.Frag} {H : Hp} {x : V} {k : Kn} {Q : VK} (T : Kn) (h : Kd H x k) (q : Q (.bl (kitB k T)) H) : rIsi K [x, .ty T.name] H Q :=
  ⟨x, .ty T.name, .type k.name, .type T.name, kitB k T, rfl, .ty _, h.tyx, kit_kn k T, q⟩
/-- for c in s -/
theorem for_strZ {z : Str} {g : TG} {tb : TS} {D : Ends} {σ : L2.St} {H : Hp} (Pv : Nat → L2.St → Hp → Prop) (h0 : Pv 0 σ H)
    (hs : ∀ i c σ H, z.cps[i]? = some c → Pv i σ H → g (.str ⟨#[c]⟩) σ H fun σ2 H2 => tb { D with nx := Pv (i + 1), ct := Pv (i + 1), bk := D.nx } σ2 H2) (hd : ∀ σ H, Pv z.cps.size σ H → D.nx σ H) :
    ∃ W : Nat → Nat → L2.St → Hp → Prop, (∃ m, W 0 m σ H) ∧ ∀ i m σ H, W i m σ H →
      ((Its z).stop i H ∧ D.nx σ H) ∨ ((Its z).go i H ∧ ∃ N : L2.St → Hp → Prop, (∀ σ' H', N σ' H' → ∃ m', m' < m ∧ W (i + 1) m' σ' H') ∧ ∀ x H', (Its z).yld i H x H' → g x σ H' fun σ2 H2 => tb { D with nx := N, ct := N, bk := D.nx } σ2 H2) := by
  refine ⟨fun i m σ H => m = z.cps.size - i ∧ i ≤ z.cps.size ∧ Pv i σ H, ⟨z.cps.size, by simp, Nat.zero_le _, h0⟩, ?_⟩
  rintro i m σ H ⟨rfl, hi, p⟩
  by_cases hlt : i < z.cps.size
  · refine .inr ⟨hlt, Pv (i + 1), fun σ' H' p' => ⟨z.cps.size - (i + 1), by omega, rfl, hlt, p'⟩, fun x H' y => ?_⟩
    obtain ⟨e, c, hc, ex⟩ := y
    subst e ex
    exact hs i c σ _ hc p
  · have e : i = z.cps.size := by omega
    subst e
    exact .inl ⟨Nat.le_refl _, hd σ H p⟩
def sgV : V → Bool
  | .str z => sgB z
  | _ => false
def wordV : V → Bool
  | .str z => sgB z && decide ((0 : Int) < (z.length : Int))
  | _ => false
/-- no text is too long -/
def Vs (x : V) : Prop := ∀ z, x = .str z → z.length ≤ 5000
theorem len5 {n : Nat} (h : n ≤ 5000) : n ≤ sizeLine := by
  have h3 : sizeLine = 16777216 := sizeLine_eq
  omega
def spSg : Sp := fun vs H Q _ => ∃ x k, vs = [x] ∧ Kd H x k ∧ Vs x ∧ Q (.bl (sgV x)) H
def spWd : Sp := fun vs H Q _ => ∃ x k, vs = [x] ∧ Kd H x k ∧ Vs x ∧ Q (.bl (wordV x)) H
def spInt : Sp := fun vs H Q _ => ∃ x k, vs = [x] ∧ Kd H x k ∧ Q (.bl (decide (k = .int))) H
def numV : V → Bool
  | .int i => decide (0 ≤ i)
  | _ => false
def spNum : Sp := fun vs H Q _ => ∃ x k, vs = [x] ∧ Kd H x k ∧ Q (.bl (numV x)) H
def inV2 (a b : Int) : V → Bool
  | .int i => decide (a ≤ i) && decide (i ≤ b)
  | _ => false
def spIn : Sp := fun vs H Q _ => ∃ x k a b, vs = [x, .int a, .int b] ∧ Kd H x k ∧ Q (.bl (inV2 a b x)) H
theorem sgB_at {z : Str} {i c : Nat} (h : z.cps[i]? = some c) (n : sgC c = false) : sgB z = false := by
  unfold sgB
  rw [List.all_eq_false]
  refine ⟨c, ?_, by simp [n]⟩
  rw [← Array.getElem?_toList] at h
  exact List.mem_of_getElem? h
theorem sgB_all {z : Str} (h : ∀ i c : Nat, z.cps[i]? = some c → sgC c = true) : sgB z = true := by
  unfold sgB
  rw [List.all_eq_true]
  intro c hc
  obtain ⟨i, hi, e⟩ := List.mem_iff_getElem.mp hc
  refine h i c ?_
  rw [← Array.getElem?_toList, List.getElem?_eq_getElem hi, e]
end Ev
set_option maxHeartbeats 4000000
/-! Things that are judged: what they are, as far as it is asked. -/
namespace Ev
open PySem PySem.Spec PyProof.Rows L2
def dsm0 : PyData → Bool
  | .str z => decide (z.length ≤ 100) && PyData.strOk z
  | _ => true
/-- no text in it is long -/
def dsm : PyData → Bool
  | .list ds => ds.all dsm0
  | .tuple ds => ds.all dsm0
  | d => dsm0 d
theorem Dt.kd {H : Hp} {v : V} {d : PyData} (h : Dt H v d) : ∃ k, Kd H v k := by
  cases h with
  | non => exact ⟨_, .non⟩
  | bl b => exact ⟨_, .bl b⟩
  | int i => exact ⟨_, .int i⟩
  | str x => exact ⟨_, .str x⟩
  | dic e => exact ⟨_, .dic e⟩
  | l0 e n => exact ⟨_, .lst e⟩
  | l1 e n _ => exact ⟨_, .lst e⟩
  | l2 e n _ _ => exact ⟨_, .lst e⟩
  | t0 e => exact ⟨_, .tup e⟩
  | t1 e _ => exact ⟨_, .tup e⟩
  | t2 e _ _ => exact ⟨_, .tup e⟩
theorem Dt.vs {H : Hp} {v : V} {d : PyData} (h : Dt H v d) (s : dsm0 d = true) : Vs v := by
  cases h with
  | str x =>
    intro z e
    cases e
    have q : x.length ≤ 100 := of_decide_eq_true (Bool.and_eq_true_iff.mp s).1
    exact Nat.le_trans q (by decide)
  | non => exact fun z e => by cases e
  | bl b => exact fun z e => by cases e
  | int i => exact fun z e => by cases e
  | dic e => exact fun z e => by cases e
  | l0 e n => exact fun z e => by cases e
  | l1 e n _ => exact fun z e => by cases e
  | l2 e n _ _ => exact fun z e => by cases e
  | t0 e => exact fun z e => by cases e
  | t1 e _ => exact fun z e => by cases e
  | t2 e _ _ => exact fun z e => by cases e
/-- a thing; some xs: a tuple of xs -/
inductive Tg (H : Hp) : V → Option (List V) → Prop
  | no {x : V} {k : Kn} (h : Kd H x k) (n : k ≠ .tup) (s : Vs x) : Tg H x none
  | tup {a : Addr} {xs : List V} (e : H a = some (.tup xs)) (n : xs.length ≤ 30) (h : ∀ y ∈ xs, (∃ k, Kd H y k) ∧ Vs y) : Tg H (.ref a) (some xs)
theorem Tg.kd {H : Hp} {x : V} {o : Option (List V)} (h : Tg H x o) : ∃ k, Kd H x k ∧ (k = .tup ↔ o.isSome = true) := by
  cases h with
  | no h n s => exact ⟨_, h, fun e => absurd e n, fun e => by cases e⟩
  | tup e n h => exact ⟨_, .tup e, fun _ => rfl, fun _ => rfl⟩
theorem Tg.vs {H : Hp} {x : V} {o : Option (List V)} (h : Tg H x o) : Vs x := by
  cases h with
  | no h n s => exact s
  | tup e n h => exact fun z e => by cases e
theorem Tg.same {H H' : Hp} (s : ∀ b o, H b = some o → H' b = some o) {x : V} {o : Option (List V)} (h : Tg H x o) : Tg H' x o := by
  cases h with
  | no h n z => exact .no (h.same s) n z
  | tup e n h => exact .tup (s _ _ e) n fun y hy => ⟨let ⟨k, q⟩ := (h y hy).1; ⟨k, q.same s⟩, (h y hy).2⟩
theorem Dt.tg {H : Hp} {v : V} {d : PyData} (h : Dt H v d) (s : dsm d = true) : ∃ o, Tg H v o := by
  cases h with
  | non => exact ⟨_, .no .non (by decide) fun z e => by cases e⟩
  | bl b => exact ⟨_, .no (.bl b) (by decide) fun z e => by cases e⟩
  | int i => exact ⟨_, .no (.int i) (by decide) fun z e => by cases e⟩
  | str x => exact ⟨_, .no (.str x) (by decide) (Dt.vs (.str (H := H) x) s)⟩
  | dic e => exact ⟨_, .no (.dic e) (by decide) fun z e => by cases e⟩
  | l0 e n => exact ⟨_, .no (.lst e) (by decide) fun z e => by cases e⟩
  | l1 e n _ => exact ⟨_, .no (.lst e) (by decide) fun z e => by cases e⟩
  | l2 e n _ _ => exact ⟨_, .no (.lst e) (by decide) fun z e => by cases e⟩
  | t0 e => exact ⟨_, .tup e (by decide) fun y hy => absurd hy (by simp)⟩
  | @t1 a x d e hx =>
    have s1 : dsm0 d = true := List.all_eq_true.mp s d (by simp)
    exact ⟨_, .tup e (by simp) fun y hy => by
      obtain rfl := List.mem_singleton.mp hy
      exact ⟨hx.kd, hx.vs s1⟩⟩
  | @t2 a x z d1 d2 e hx hz =>
    have s1 : dsm0 d1 = true := List.all_eq_true.mp s d1 (by simp)
    have s2 : dsm0 d2 = true := List.all_eq_true.mp s d2 (by simp)
    refine ⟨_, .tup e (by simp) fun y hy => ?_⟩
    rcases List.mem_cons.mp hy with g | g
    · rw [g]
      exact ⟨hx.kd, hx.vs s1⟩
    · rw [List.mem_singleton.mp g]
      exact ⟨hz.kd, hz.vs s2⟩
def slen : V → Nat
  | .str z => z.length
  | _ => 0
/-- what is wrong with a thing that is to be texts -/
def badOf : Option (List V) → V
  | none => .int (-1)
  | some xs => if xs.length > 8 then .int (-1) else match xs.findIdx? (fun y => !sgV y) with
    | some k => .int (k : Int)
    | none => if (xs.map slen).sum > 2000 then .str (Str.ofString "long") else .non
/-- whether a thing is a place of these texts -/
def placeV (ts : List Str) : Option (List V) → Bool
  | some [x, y] => inV2 0 ((ts.length : Int) - 1) x && (match x with
    | .int i => inV2 0 (((ts.getD i.toNat Str.empty).length : Int) - 1) y
    | _ => false)
  | _ => false
end Ev
set_option maxHeartbeats 4000000
namespace Ev
open PySem PySem.Spec PyProof.Rows L2
theorem bad1 {xs : List V} (h : xs.length > 8) : badOf (some xs) = .int (-1) := if_pos h
theorem bad2 {xs : List V} {i : Nat} {y : V} (h : ¬ xs.length > 8) (hy : xs[i]? = some y) (b : sgV y = false) (g : ∀ (j : Nat) c, j < i → xs[j]? = some c → sgV c = true) : badOf (some xs) = .int (i : Int) := by
  obtain ⟨hi, ey⟩ := List.getElem?_eq_some_iff.mp hy
  have e : xs.findIdx? (fun y => !sgV y) = some i := by
    rw [List.findIdx?_eq_some_iff_getElem]
    refine ⟨hi, by rw [ey, b]; rfl, fun j hj => ?_⟩
    rw [g j xs[j] hj (List.getElem?_eq_getElem (by omega))]
    simp
  show (if xs.length > 8 then V.int (-1) else match xs.findIdx? (fun y => !sgV y) with
    | some k => V.int (k : Int)
    | none => if (xs.map slen).sum > 2000 then V.str (Str.ofString "long") else V.non) = _
  rw [if_neg h, e]
theorem good_none {xs : List V} (g : ∀ c ∈ xs, sgV c = true) : xs.findIdx? (fun y => !sgV y) = none := by
  rw [List.findIdx?_eq_none_iff]
  intro c hc
  rw [g c hc]
  rfl
theorem bad3 {xs : List V} (h : ¬ xs.length > 8) (g : ∀ c ∈ xs, sgV c = true) (s : (xs.map slen).sum > 2000) : badOf (some xs) = .str (Str.ofString "long") := by
  show (if xs.length > 8 then V.int (-1) else match xs.findIdx? (fun y => !sgV y) with
    | some k => V.int (k : Int)
    | none => if (xs.map slen).sum > 2000 then V.str (Str.ofString "long") else V.non) = _
  rw [if_neg h, good_none g]
  exact if_pos s
theorem bad4 {xs : List V} (h : ¬ xs.length > 8) (g : ∀ c ∈ xs, sgV c = true) (s : ¬ (xs.map slen).sum > 2000) : badOf (some xs) = .non := by
  show (if xs.length > 8 then V.int (-1) else match xs.findIdx? (fun y => !sgV y) with
    | some k => V.int (k : Int)
    | none => if (xs.map slen).sum > 2000 then V.str (Str.ofString "long") else V.non) = _
  rw [if_neg h, good_none g]
  exact if_neg s
/-- what is right: at most eight texts of signs -/
theorem bad_non {o : Option (List V)} (h : badOf o = .non) : ∃ xs, o = some xs ∧ xs.length ≤ 8 ∧ (∀ c ∈ xs, sgV c = true) ∧ (xs.map slen).sum ≤ 2000 := by
  cases o with
  | none => cases h
  | some xs =>
    by_cases h1 : xs.length > 8
    · rw [bad1 h1] at h
      cases h
    · cases e : xs.findIdx? (fun y => !sgV y) with
      | some k =>
        have h' : (if xs.length > 8 then V.int (-1) else match xs.findIdx? (fun y => !sgV y) with
          | some k => V.int (k : Int)
          | none => if (xs.map slen).sum > 2000 then V.str (Str.ofString "long") else V.non) = V.non := h
        rw [if_neg h1, e] at h'
        cases h'
      | none =>
        have g : ∀ c ∈ xs, sgV c = true := fun c hc => by
          have := List.findIdx?_eq_none_iff.mp e c hc
          simpa using this
        refine ⟨xs, rfl, by omega, g, ?_⟩
        by_cases s : (xs.map slen).sum > 2000
        · rw [bad3 h1 g s] at h
          cases h
        · omega
theorem sg_str {y : V} (h : sgV y = true) : ∃ z, y = .str z := by
  cases y with
  | str z => exact ⟨z, rfl⟩
  | non => cases h
  | bl b => cases h
  | int i => cases h
  | byt b => cases h
  | flt b => cases h
  | ref a => cases h
  | ty n => cases h
theorem bad_strs {xs : List V} (g : ∀ c ∈ xs, sgV c = true) : ∃ ts : List Str, xs = ts.map V.str ∧ ∀ t ∈ ts, sgB t = true := by
  induction xs with
  | nil => exact ⟨[], rfl, fun t h => absurd h (by simp)⟩
  | cons y xs ih =>
    obtain ⟨z, rfl⟩ := sg_str (g y (by simp))
    obtain ⟨ts, rfl, h⟩ := ih fun c hc => g c (List.mem_cons_of_mem _ hc)
    refine ⟨z :: ts, rfl, fun t ht => ?_⟩
    rcases List.mem_cons.mp ht with e | e
    · rw [e]
      exact g (.str z) (by simp)
    · exact h t e
theorem sum_cast (ns : List Nat) : (ns.map fun n : Nat => (n : Int)).sum = ((ns.sum : Nat) : Int) := by
  induction ns with
  | nil => rfl
  | cons n ns ih =>
    rw [List.map_cons, List.sum_cons, List.sum_cons, ih]
    simp
/-- the lengths of the texts of a tuple -/
theorem lc_lens {K : PySem.W.Frag} {a : Addr} {ts : List Str} {i : Nat} {σ : L2.St} {H1 : Hp} {D : Addr} {Qd : Hp → Prop} (hi : i < σ.length) (ha : H1 a = some (.tup (ts.map V.str))) (nD : H1 D = none) (hlen : ∀ t ∈ ts, t.length ≤ 5000) (hn : ts.length ≤ 1000)
    (hd : ∀ H, H D = some (.lst ((ts.map fun t => (t.length : Int)).map V.int)) → Same H1 H → Qd H) :
    ∃ W : Nat → Nat → Hp → Prop, (∃ m, W 0 m (upd H1 D (.lst []))) ∧ ∀ j m H, W j m H →
      ((Itt K a).stop j H ∧ Qd H) ∨ ((Itt K a).go j H ∧ ∃ Nx : Hp → Prop, (∀ H', Nx H' → ∃ m', m' < m ∧ W (j + 1) m' H') ∧ ∀ x H', (Itt K a).yld j H x H' → gName i x (wipe σ [i]) H' fun σ2 H2 => wipe σ2 [i] = wipe σ [i] ∧ tYes σ2 H2 fun b H3 =>
        if b = true then tCB rLenZ (tCons (tVar i) tNil) σ2 H3 fun y H4 => ∃ acc, H4 D = some (.lst acc) ∧ acc.length < sizeLine ∧ Nx (upd H4 D (.lst (acc ++ [y]))) else Nx H3) := by
  have sAt : ∀ {H' : Hp} {o : HO}, Same H1 H' → Same H1 (upd H' D o) := fun {H' o} k b u e => by
    rw [upd_ne (ne_of_none e nD)]
    exact k b u e
  refine lc_tup (K := K) (xs := ts.map V.str) (fun j H => H D = some (.lst (((ts.take j).map fun t => (t.length : Int)).map V.int)) ∧ Same H1 H) ⟨upd_same, sAt (Same.refl _)⟩ (fun j H _ p => SqT.of (p.2 _ _ ha)) (fun j x H hx p => ?_) (fun H p => ?_)
  · rw [List.getElem?_map] at hx
    cases e : ts[j]? with
    | none => rw [e] at hx; cases hx
    | some t =>
      rw [e] at hx
      obtain rfl : V.str t = x := Option.some.inj hx
      have hm := List.mem_of_getElem? e
      obtain ⟨hD, hs⟩ := p
      have hw : ((wipe σ [i]).set i (some (V.str t)))[i]? = some (some (V.str t)) := by
        rw [List.getElem?_set_self]
        show i < (σ.set i none).length
        rw [List.length_set]
        exact hi
      refine ⟨?_, .str t, hw, t, rfl, len5 (hlen t hm), _, hD, ?_, ?_, sAt hs⟩
      · show ((σ.set i none).set i (some (V.str t))).set i none = σ.set i none
        rw [List.set_set, List.set_set]
      · have h3 : sizeLine = 16777216 := sizeLine_eq
        rw [List.length_map, List.length_map, List.length_take]
        omega
      · rw [upd_same]
        have et : ts.take (j + 1) = ts.take j ++ [t] := by
          rw [List.take_add_one, e]
          rfl
        rw [et, List.map_append, List.map_append]
        rfl
  · obtain ⟨hD, hs⟩ := p
    rw [List.length_map, List.take_length] at hD
    exact hd H hD hs
theorem lens_sum (ts : List Str) : (ts.map fun t => (t.length : Int)).sum = ((((ts.map V.str).map slen).sum : Nat) : Int) := by
  rw [List.map_map, ← sum_cast, List.map_map]
  rfl
end Ev
set_option maxHeartbeats 4000000
namespace Ev
open PySem PySem.Spec PyProof.Rows L2
theorem joinL1 : ∀ cs : List Nat, TL.joinL [] (cs.map fun c => [c]) = cs
  | [] => rfl
  | [c] => rfl
  | c :: d :: r => by
    have e := joinL1 (d :: r)
    show [c] ++ ([] ++ TL.joinL [] ((d :: r).map fun c => [c])) = c :: d :: r
    rw [e]
    rfl
theorem join1 (cs : List Nat) : Txt.join (Str.ofString "") (cs.map fun c => SX.S [c]) = SX.S cs := by
  have e := SX.join_S [] (cs.map fun c => [c])
  rw [List.map_map, joinL1] at e
  exact e
theorem sgB_S (cs : List Nat) : sgB (SX.S cs) = cs.all sgC := rfl
theorem S_eta (z : Str) : SX.S z.cps.toList = z := SX.S_tl z
theorem len_S (z : Str) : z.length = z.cps.toList.length := by simp [Str.length]
theorem sgB_mem {z : Str} (h : sgB z = true) {c : Nat} (hc : c ∈ z.cps.toList) : sgC c = true := List.all_eq_true.mp h c hc
theorem sgB_of_mem {z : Str} (h : ∀ c ∈ z.cps.toList, sgC c = true) : sgB z = true := List.all_eq_true.mpr h
theorem sgB_cut {z : Str} (h : sgB z = true) (lo hi : Option Int) : sgB (cutS z lo hi) = true := by
  refine sgB_of_mem fun c hc => sgB_mem h ?_
  have hc' : c ∈ (z.cps.toList.drop (HT.sIx z.length 0 lo)).take (HT.sIx z.length z.length hi - HT.sIx z.length 0 lo) := by
    simpa [cutS] using hc
  exact List.mem_of_mem_drop (List.mem_of_mem_take hc')
theorem cut_len {z : Str} (lo hi : Option Int) : (cutS z lo hi).length ≤ z.length := by
  rw [len_S, len_S]
  have e : (cutS z lo hi).cps.toList = (z.cps.toList.drop (HT.sIx z.length 0 lo)).take (HT.sIx z.length z.length hi - HT.sIx z.length 0 lo) := by simp [cutS]
  rw [e, List.length_take, List.length_drop]
  omega
theorem cut_len2 {z : Str} (lo hi : Option Int) : (cutS z lo hi).length ≤ HT.sIx z.length z.length hi - HT.sIx z.length 0 lo := by
  rw [len_S]
  have e : (cutS z lo hi).cps.toList = (z.cps.toList.drop (HT.sIx z.length 0 lo)).take (HT.sIx z.length z.length hi - HT.sIx z.length 0 lo) := by simp [cutS]
  rw [e, List.length_take]
  omega
theorem sgB_app {a b : Str} (h1 : sgB a = true) (h2 : sgB b = true) : sgB (a ++ b) = true := by
  refine sgB_of_mem fun c hc => ?_
  have e : (a ++ b).cps.toList = a.cps.toList ++ b.cps.toList := TL.tl_append a b
  rw [e] at hc
  rcases List.mem_append.mp hc with h | h
  · exact sgB_mem h1 h
  · exact sgB_mem h2 h
theorem app_len (a b : Str) : (a ++ b).length = a.length + b.length := by
  have e : (a ++ b).cps.toList = a.cps.toList ++ b.cps.toList := TL.tl_append a b
  rw [len_S, e, List.length_append, ← len_S, ← len_S]
theorem rep_all (x : Array Nat) : ∀ (n : Nat) (acc : Array Nat), ((List.replicate n x).foldl (· ++ ·) acc).size = acc.size + n * x.size ∧ ∀ c ∈ ((List.replicate n x).foldl (· ++ ·) acc).toList, c ∈ acc.toList ∨ c ∈ x.toList
  | 0, acc => ⟨by simp, fun c h => .inl h⟩
  | n + 1, acc => by
    obtain ⟨h1, h2⟩ := rep_all x n (acc ++ x)
    rw [List.replicate_succ, List.foldl_cons]
    refine ⟨by rw [h1, Array.size_append, Nat.succ_mul]; omega, fun c hc => ?_⟩
    rcases h2 c hc with h | h
    · rw [Array.toList_append] at h
      exact List.mem_append.mp h
    · exact .inr h
theorem mul_facts (z : Str) (n : Int) : (Txt.mul z n).length ≤ z.length * n.toNat ∧ (sgB z = true → sgB (Txt.mul z n) = true) := by
  unfold Txt.mul
  by_cases h1 : n < 1
  · rw [if_pos h1]
    exact ⟨Nat.zero_le _, fun _ => rfl⟩
  · rw [if_neg h1]
    by_cases h2 : (n == 1 || z.length == 0) = true
    · rw [if_pos h2]
      exact ⟨Nat.le_mul_of_pos_right _ (by omega), fun h => h⟩
    · rw [if_neg h2]
      obtain ⟨r1, r2⟩ := rep_all z.cps n.toNat #[]
      refine ⟨?_, fun h => sgB_of_mem fun c hc => ?_⟩
      · show Array.size _ ≤ _
        rw [r1, Nat.mul_comm]
        show 0 + _ ≤ _
        rw [Nat.zero_add]
        exact Nat.le_refl _
      · rcases r2 c hc with q | q
        · cases q
        · exact sgB_mem h q
theorem cut_hi {z : Str} {lo : Option Int} {u : Int} (h : 0 ≤ u) : ((cutS z lo (some u)).length : Int) ≤ u := by
  have e := cut_len2 (z := z) lo (some u)
  have e2 : HT.sIx z.length z.length (some u) ≤ u.toNat := by
    show (if u < 0 then (u + (z.length : Int)).toNat else min u.toNat z.length) ≤ u.toNat
    rw [if_neg (by omega)]
    exact Nat.min_le_left _ _
  omega
theorem cut_lohi {z : Str} {b e : Int} (h : 0 ≤ b) (h2 : b ≤ e) : ((cutS z (some b) (some e)).length : Int) ≤ e - b := by
  have q := cut_len2 (z := z) (some b) (some e)
  have e1 : HT.sIx z.length z.length (some e) = min e.toNat z.length := by
    show (if e < 0 then (e + (z.length : Int)).toNat else min e.toNat z.length) = _
    rw [if_neg (by omega)]
  have e2 : HT.sIx z.length 0 (some b) = min b.toNat z.length := by
    show (if b < 0 then (b + (z.length : Int)).toNat else min b.toNat z.length) = _
    rw [if_neg (by omega)]
  rw [e1, e2] at q
  omega
end Ev
set_option maxHeartbeats 4000000
/-! Tuples put together and cut, the heap only growing. -/
namespace Ev
open PySem PySem.Spec PyProof.Rows L2
def rCatM : R2 := fun x y H Q => ∃ a b xs ys, x = .ref a ∧ y = .ref b ∧ H a = some (.tup xs) ∧ H b = some (.tup ys) ∧ xs.length + ys.length ≤ 1000 ∧ ∀ p H', Same H H' → H' p = some (.tup (xs ++ ys)) → Q (.ref p) H'
theorem sameNew {H : Hp} {q : Addr} {o : HO} (h : H q = none) : Same H (upd H q o) := fun b u e => by
  rw [upd_ne (ne_of_none e h)]
  exact e
theorem op_catM {X : Cx} : OpR X (binaryOp .Add) rCatM := fun pins s σ H x y v u Q I rx ry h =>
  op_catA pins s σ H x y v u Q I rx ry (by
    obtain ⟨a, b, xs, ys, ex, ey, ha, hb, hz, q⟩ := h
    refine ⟨a, b, xs, ys, ex, ey, SqT.of ha, SqT.of hb, ?_, fun e => ?_, fun _ e => ?_, fun _ _ p np => ?_⟩
    · have h3 : sizeLine = 16777216 := sizeLine_eq
      omega
    · refine q b H (Same.refl H) ?_
      rw [e, List.nil_append]
      exact hb
    · refine q a H (Same.refl H) ?_
      rw [e, List.append_nil]
      exact ha
    · exact q p _ (sameNew np) upd_same)
def rSlM : V → Option Int → Option Int → Hp → VK → Prop := fun x lo hi H Q => ∃ a xs, x = .ref a ∧ H a = some (.tup xs) ∧ ∀ p H', Same H H' → H' p = some (.tup (cutV xs lo hi)) → Q (.ref p) H'
theorem sl_tupM {X : Cx} : SlR X rSlM := fun pins s σ H x v vl vu lo hi sl Q I rx hs pl pu h =>
  sl_tupA pins s σ H x v vl vu lo hi sl Q I rx hs pl pu (by
    obtain ⟨a, xs, ex, ha, q⟩ := h
    refine ⟨a, xs, ex, SqT.of ha, fun e => ?_, fun _ p np => q p _ (sameNew np) upd_same⟩
    refine q a H (Same.refl H) ?_
    have ec : cutV xs lo hi = xs := by
      unfold cutV
      rw [e.1, e.2, List.drop_zero, Nat.sub_zero, List.take_length]
    rw [ec]
    exact ha)
theorem cutV_mem {xs : List V} {lo hi : Option Int} {y : V} (h : y ∈ cutV xs lo hi) : y ∈ xs := List.mem_of_mem_drop (List.mem_of_mem_take h)
/-- the place that is one -/
theorem place_true {ts : List Str} {o : Option (List V)} (h : placeV ts o = true) : ∃ (i j : Int), o = some [.int i, .int j] ∧ 0 ≤ i ∧ i < ts.length ∧ 0 ≤ j ∧ j < ((ts.getD i.toNat Str.empty).length : Int) := by
  unfold placeV at h
  split at h
  · rename_i x y
    obtain ⟨h1, h2⟩ := Bool.and_eq_true_iff.mp h
    cases x with
    | int i =>
      obtain ⟨a1, a2⟩ := Bool.and_eq_true_iff.mp (show (decide (0 ≤ i) && decide (i ≤ (ts.length : Int) - 1)) = true from h1)
      have a1 := of_decide_eq_true a1
      have a2 := of_decide_eq_true a2
      cases y with
      | int j =>
        obtain ⟨b1, b2⟩ := Bool.and_eq_true_iff.mp (show (decide (0 ≤ j) && decide (j ≤ ((ts.getD i.toNat Str.empty).length : Int) - 1)) = true from h2)
        have b1 := of_decide_eq_true b1
        have b2 := of_decide_eq_true b2
        exact ⟨i, j, rfl, a1, by omega, b1, by omega⟩
      | non => cases h2
      | bl b => cases h2
      | str b => cases h2
      | byt b => cases h2
      | flt b => cases h2
      | ref b => cases h2
      | ty b => cases h2
    | non => cases h1
    | bl b => cases h1
    | str b => cases h1
    | byt b => cases h1
    | flt b => cases h1
    | ref b => cases h1
    | ty b => cases h1
  · cases h
theorem text_at {ts : List Str} {i : Int} (h0 : 0 ≤ i) (h1 : i < ts.length) : atI (ts.map V.str) i = some (.str (ts.getD i.toNat Str.empty)) ∧ ts.getD i.toNat Str.empty ∈ ts := by
  have hi : i.toNat < ts.length := by omega
  constructor
  · have e1 : i = ((i.toNat : Nat) : Int) := by omega
    rw [e1]
    refine atI_nat ?_
    rw [List.getElem?_map, List.getD_eq_getElem?_getD, Int.toNat_natCast, List.getElem?_eq_getElem hi]
    rfl
  · rw [List.getD_eq_getElem?_getD, List.getElem?_eq_getElem hi]
    exact List.getElem_mem hi
end Ev
set_option maxHeartbeats 4000000
namespace Ev
open PySem PySem.Spec PyProof.Rows L2
/-- x is True, x is False, x any value of a kind -/
def rIsT : R2 := fun x y H Q => ∃ (b : Bool) (k : Kn), y = .bl b ∧ Kd H x k ∧ Q (.bl (decide (x = .bl b))) H
theorem op_isT {X : Cx} : OpR X (compareOp .Is) rIsT := by
  intro pins s σ H x y v u Q I rx ry h
  obtain ⟨b, k, rfl, hk, q⟩ := h
  cases (show u = Value.bool b from ry)
  cases hk with
  | bl a =>
    refine op_isBl pins s σ H _ (.bl b) v _ Q I rx rfl ⟨a, b, rfl, rfl, ?_⟩
    have e : decide (V.bl a = V.bl b) = decide (a = b) := by
      by_cases z : a = b
      · subst z
        simp
      · rw [decide_eq_false z, decide_eq_false fun w => z (V.bl.inj w)]
    rw [e] at q
    exact q
  | non =>
    cases rx
    exact wpAny_is_other rfl (fun z => by cases z) ⟨.bl false, H, I, rfl, by simpa using q⟩
  | int i =>
    obtain ⟨t, rfl⟩ := rx
    exact wpAny_is_other rfl (fun z => by cases z) ⟨.bl false, H, I, rfl, by simpa using q⟩
  | str i =>
    obtain ⟨t, rfl⟩ := rx
    exact wpAny_is_other rfl (fun z => by cases z) ⟨.bl false, H, I, rfl, by simpa using q⟩
  | lst e =>
    cases rx
    exact wpAny_is_other rfl (fun z => by cases z) ⟨.bl false, H, I, rfl, by simpa using q⟩
  | tup e =>
    cases rx
    exact wpAny_is_other rfl (fun z => by cases z) ⟨.bl false, H, I, rfl, by simpa using q⟩
  | dic e =>
    cases rx
    exact wpAny_is_other rfl (fun z => by cases z) ⟨.bl false, H, I, rfl, by simpa using q⟩
end Ev
set_option maxHeartbeats 4000000
namespace LawK
open PySem PySem.Spec PyProof.Rows L2 Ev
theorem HandL.same {H H' : Hp} {p l : Addr} (k : Same H H') (h : HandL H p l) : HandL H' p l := by
  obtain ⟨cells, i, r, s, n, h1, h2, h3⟩ := h
  exact ⟨cells, i, r, s, n, k _ _ h1, k _ _ h2, h3⟩
theorem But.and {p : Addr} {H H1 H2 : Hp} (a : But p H H1) (k : Same H1 H2) : But p H H2 := fun b o n e => k b o (a b o n e)
theorem hand_ne {H : Hp} {p l' a : Addr} {o : HO} (h : HandL H p l') (e : H a = some o) (n : ∀ x1 x2 x3 x4 x5, o ≠ .lst [x1, x2, x3, x4, x5]) : a ≠ p := fun z => by
  obtain ⟨cells, i, r, s, m, h1, _⟩ := h
  rw [z, h1] at e
  exact n _ _ _ _ _ (Option.some.inj e).symm
theorem dt_but {H H' : Hp} {p l' : Addr} {v : V} {d : PyData} (h : Dt H v d) (hp : HandL H p l') (k : But p H H') : Dt H' v d := by
  induction h with
  | non => exact .non
  | bl b => exact .bl b
  | int i => exact .int i
  | str x => exact .str x
  | dic e => exact .dic (k _ _ (hand_ne hp e fun _ _ _ _ _ z => by cases z) e)
  | l0 e n => exact .l0 (k _ _ (hand_ne hp e fun _ _ _ _ _ z => by cases z) e) n
  | l1 e n _ ih => exact .l1 (k _ _ (hand_ne hp e fun _ _ _ _ _ z => by cases z) e) n ih
  | l2 e n _ _ i1 i2 => exact .l2 (k _ _ (hand_ne hp e fun _ _ _ _ _ z => by cases z) e) n i1 i2
  | t0 e => exact .t0 (k _ _ (hand_ne hp e fun _ _ _ _ _ z => by cases z) e)
  | t1 e _ ih => exact .t1 (k _ _ (hand_ne hp e fun _ _ _ _ _ z => by cases z) e) ih
  | t2 e _ _ i1 i2 => exact .t2 (k _ _ (hand_ne hp e fun _ _ _ _ _ z => by cases z) e) i1 i2
structure Hn (p l : Addr) (H H' : Hp) : Prop where
  at_ : HandL H' p l
  but : But p H H'
theorem HandL.ne {H : Hp} {p l q : Addr} (h : HandL H p l) (n : H q = none) : q ≠ p ∧ q ≠ l := by
  obtain ⟨cells, i, r, s, m, h1, h2, _⟩ := h
  exact ⟨fun z => (by rw [z, h1] at n; cases n), fun z => (by rw [z, h2] at n; cases n)⟩
theorem Hn.new {p l q : Addr} {H H' : Hp} {o : HO} (h : Hn p l H H') (n : H' q = none) : Hn p l H (upd H' q o) := ⟨h.at_.same (Same.new n), h.but.and (Same.new n)⟩
theorem Hn.trans {p l : Addr} {H H1 H2 : Hp} (a : Hn p l H H1) (b : Hn p l H1 H2) : Hn p l H H2 := ⟨b.at_, a.but.trans b.but⟩
theorem Hn.refl {p l : Addr} {H : Hp} (h : HandL H p l) : Hn p l H H := ⟨h, But.refl p H⟩
theorem Hn.go {p l : Addr} {H H1 H2 : Hp} (a : Hn p l H H1) (h : HandL H2 p l) (b : But p H1 H2) : Hn p l H H2 := ⟨h, a.but.trans b⟩
theorem Hn.same {p l : Addr} {H H1 H2 : Hp} (a : Hn p l H H1) (k : Same H1 H2) : Hn p l H H2 := ⟨a.at_.same k, a.but.and k⟩
/-- an object that is new since H, at q, changes -/
theorem Hn.at {p l q : Addr} {H H' : Hp} {o : HO} (h : Hn p l H H') (h0 : HandL H p l) (n : H q = none) : Hn p l H (upd H' q o) := by
  obtain ⟨n1, n2⟩ := h0.ne n
  refine ⟨?_, fun b u nb e => ?_⟩
  · obtain ⟨cells, i, r, s, m, h1, h2, h3⟩ := h.at_
    exact ⟨cells, i, r, s, m, by rw [upd_ne (Ne.symm n1)]; exact h1, by rw [upd_ne (Ne.symm n2)]; exact h2, h3⟩
  · rw [upd_ne (ne_of_none e n)]
    exact h.but b u nb e
theorem sqBut {K : PySem.W.Frag} {H H' : Hp} {p a : Addr} {xs : List V} (h : SqL K H a xs) (n : a ≠ p) (b : But p H H') : SqL K H' a xs := by
  rcases h with (h | ⟨o, h⟩) | h
  · exact .inl (.inl (b _ _ n h))
  · exact .inl (.inr ⟨o, b _ _ n h⟩)
  · exact .inr h
structure Dk (P : Program) (w : World) (K : PySem.W.Frag) (mg : Str → Option Value) (base : Heap) (x : Str) (st : Stmt) (ps : List Str) (k : Nat) (sp : Sp) (f : Addr) (fd : FuncData) : Prop where
  F : Fun K x x st f fd
  b : Binds K fd ps []
  g : mg x = some (.ref f)
  ok : FnOk P w K mg base CX0 k f fd ps sp
theorem len6 {z : Str} {n : Nat} (h : z.length ≤ n) (hn : n ≤ 5000 := by decide) : z.length ≤ sizeLine := len5 (Nat.le_trans h hn)
theorem sg_at {z : Str} {v : Int} (hz : sgB z = true) (h0 : 0 ≤ v) (h1 : v < (z.length : Int)) : ∃ c, atI z.cps.toList v = some c ∧ sgC c = true := by
  obtain ⟨c, e, hm⟩ := atI_in (xs := z.cps.toList) h0 (by rw [← len_S]; exact h1)
  exact ⟨c, e, sgB_mem hz hm⟩
theorem str_ok {ts : List Str} (hts : ∀ t ∈ ts, t.length ≤ 5000) {H : Hp} {y : V} (h : y ∈ ts.map V.str) : (∃ k, Kd H y k) ∧ Vs y := by
  obtain ⟨z, hz, rfl⟩ := List.mem_map.mp h
  refine ⟨⟨_, .str z⟩, fun w e => ?_⟩
  cases e
  exact hts z hz
theorem lit_ok {z : Str} (h : z.length ≤ 5000) {H : Hp} : (∃ k, Kd H (.str z) k) ∧ Vs (.str z) := ⟨⟨_, .str z⟩, fun w e => by
  cases e
  exact h⟩
theorem int_ok {i : Int} {H : Hp} : (∃ k, Kd H (.int i) k) ∧ Vs (.int i) := ⟨⟨_, .int i⟩, fun w e => by cases e⟩
theorem tup_ne {H : Hp} {p l a : Addr} {xs : List V} (h : HandL H p l) (e : H a = some (.tup xs)) : a ≠ p := hand_ne h e fun _ _ _ _ _ z => by cases z
theorem Kd.but {H H' : Hp} {p l : Addr} {x : V} {k : Kn} (h : Kd H x k) (h0 : HandL H p l) (h1 : HandL H' p l) (b : But p H H') : Kd H' x k := by
  cases h with
  | non => exact .non
  | bl b => exact .bl b
  | int i => exact .int i
  | str z => exact .str z
  | @lst a xs e =>
    by_cases z : a = p
    · obtain ⟨cells, i, r, s, m, h2, _⟩ := h1
      rw [z]
      exact .lst h2
    · exact .lst (b _ _ z e)
  | tup e => exact .tup (b _ _ (tup_ne h0 e) e)
  | dic e => exact .dic (b _ _ (hand_ne h0 e fun _ _ _ _ _ z => by cases z) e)
theorem Tg.but {H H' : Hp} {p l : Addr} {x : V} {o : Option (List V)} (h : Tg H x o) (h0 : HandL H p l) (h1 : HandL H' p l) (b : But p H H') : Tg H' x o := by
  cases h with
  | no h n s => exact .no (Kd.but h h0 h1 b) n s
  | tup e n h => exact .tup (b _ _ (tup_ne h0 e) e) n fun y hy => ⟨let ⟨k, q⟩ := (h y hy).1; ⟨k, Kd.but q h0 h1 b⟩, (h y hy).2⟩
/-- what a thing's texts may be -/
inductive All2 {α β : Type} (R : α → β → Prop) : List α → List β → Prop
  | nil : All2 R [] []
  | cons {x : α} {y : β} {xs : List α} {ys : List β} (h : R x y) (t : All2 R xs ys) : All2 R (x :: xs) (y :: ys)
theorem All2.imp {α β : Type} {R S : α → β → Prop} {xs : List α} {ys : List β} (f : ∀ x y, R x y → S x y) (h : All2 R xs ys) : All2 S xs ys := by
  induction h with
  | nil => exact .nil
  | cons h _ ih => exact .cons (f _ _ h) ih
theorem All2.len {α β : Type} {R : α → β → Prop} {xs : List α} {ys : List β} (h : All2 R xs ys) : xs.length = ys.length := by
  induction h with
  | nil => rfl
  | cons _ _ ih => exact congrArg (· + 1) ih
theorem All2.at {α β : Type} {R : α → β → Prop} {xs : List α} {ys : List β} (h : All2 R xs ys) : ∀ {i : Nat} {x : α}, xs[i]? = some x → ∃ y, ys[i]? = some y ∧ R x y := by
  induction h with
  | nil => intro i x e; simp at e
  | cons r _ ih =>
    intro i x e
    cases i with
    | zero => cases e; exact ⟨_, rfl, r⟩
    | succ i => exact ih e
theorem All2.snoc {α β : Type} {R : α → β → Prop} {xs : List α} {ys : List β} {x : α} {y : β} (h : All2 R xs ys) (r : R x y) : All2 R (xs ++ [x]) (ys ++ [y]) := by
  induction h with
  | nil => exact .cons r .nil
  | cons r1 _ ih => exact .cons r1 ih
theorem sne {a b : Str} (h : a ≠ b) {A B : Prop} (k : B) : if decide (V.str a = V.str b) = true then A else B := by
  rw [decide_eq_false (fun z => h (V.str.inj z))]
  exact iteF k
theorem seq {a : Str} {A B : Prop} (k : A) : if decide (V.str a = V.str a) = true then A else B := by
  rw [decide_eq_true rfl]
  exact iteT k
end LawK
set_option maxHeartbeats 8000000
/-! enumerate over a tuple, as a walk. -/
namespace Ev
open PySem PySem.Spec PyProof.Rows L2
abbrev enObj (it : Addr) : Obj := { cls := .type "enumerate", data := .fields #[.none, .bool false, .ref it, rawInt 0, .none, .none] }
theorem enum_new1 {v : Value} {o : Obj} {Hh : Heap → Prop} (B : Begins v o Hh) :
    Meets (Builtin.«enumerate.__new__» ⟨[.type "enumerate", v], []⟩)
      (fun _ R s => Hh s.heap ∧ R (.ok (.ret (.ref (s.heap.push o).objs.size))) { s with heap := (s.heap.push o).push (enObj s.heap.objs.size) }) := by
  refine .of_wp fun prog w A R s hh => ?_
  obtain ⟨hp, g, d, tk, os⟩ := s
  obtain ⟨hv, hR⟩ := hh
  have hs := sub_enumerate
  have qi : ∀ {B' : Around} {E : Value → Shared → Prop} {Q : Value → Shared → Prop}, Q (.ref hp.objs.size) ⟨hp.push o, g, d, tk, os⟩ →
      wpAny (model prog w) B' (pyIter v) Q E ⟨hp, g, d, tk, os⟩ := fun q => B.iter prog w _ _ ⟨hp, g, d, tk, os⟩ _ hv q
  wp_walk using qi
  apply wpAny_stack_any
  intro st
  apply wpAny_pure
  split
  · rename_i c _ _ _ _ _
    cases (c == Value.type "enumerate") <;> (wp_walk using qi; exact ⟨_, rfl, hR⟩)
  · wp_walk using qi
    exact ⟨_, rfl, hR⟩
theorem enum_call {prog : Program} {w : World} {A : Around} {E : Value → Shared → Prop} {s : Shared} {v : Value} {o : Obj} {Hh : Heap → Prop} {Q : Value → Shared → Prop} (B : Begins v o Hh) (hv : Hh s.heap)
    (h : ∀ h', IsEnum h' (s.heap.objs.size + 1) s.heap.objs.size 0 .none → h'.get? s.heap.objs.size = some o → (∀ b u, s.heap.get? b = some u → h'.get? b = some u) →
      Q (.ref (s.heap.objs.size + 1)) { s with heap := h' }) : wpAny (model prog w) A (call (.type "enumerate") [v]) Q E s := by
  have m := enum_new1 B
  refine callType_new F.called_enumerate (by decide) (F.typeCall_enumerate_1 _) (F.newCall_enumerate_1 _) (fun obj => F.args_object_init_2 obj _) F.entry_enumerate_new m ⟨hv, ?_⟩
  have hsz : (s.heap.push o).objs.size = s.heap.objs.size + 1 := Heap.size_push ..
  show _ ∧ _
  rw [hsz]
  have hat : ((s.heap.push o).push (enObj s.heap.objs.size)).get? (s.heap.objs.size + 1) = some (enObj s.heap.objs.size) := by
    have z := Heap.get?_push_size (s.heap.push o) (o := enObj s.heap.objs.size) rfl
    rw [hsz] at z
    exact z
  exact ⟨⟨_, hat, rfl⟩, h _ hat (Heap.get?_push_of_some _ (Heap.get?_push_size _ B.free)) fun b u x => Heap.get?_push_of_some _ (Heap.get?_push_of_some _ x)⟩
/-- the tuple at a as it stands at each turn, each item in a new pair -/
def Iten (K : PySem.W.Frag) (a : Addr) : It :=
  ⟨fun i H => ∃ (xs : List V) (x : V), SqT K H a xs ∧ xs[i]? = some x,
   fun i H v H' => ∃ T x, v = .ref T ∧ H T = none ∧ H' = upd H T (.tup [.int (i : Nat), x]) ∧ ∀ xs, SqT K H a xs → xs[i]? = some x,
   fun i H => ∃ xs : List V, SqT K H a xs ∧ xs.length ≤ i⟩
theorem turn_en {P : Program} {w : World} {K : PySem.W.Frag} {elts : List Expr} {kk : Nat} {tpos : Pos} (a e it : Addr) :
    Turn P w K (.Tuple elts kk tpos) (Iten K a) [e, it] e (fun i h => (∃ old, IsEnum h e it ((i : Nat) : Int) old) ∧ h.IsTupleIter it a i ∧ e ≠ it ∧ a ≠ it ∧ a ≠ e) where
  mem := List.mem_cons_self
  obj := by
    rintro i h ⟨⟨old, he⟩, ⟨o, ho, hc, hd⟩, _⟩ b hb
    rcases List.mem_cons.mp hb with rfl | hb
    · exact ⟨_, he, fun v q => by cases q⟩
    · obtain rfl := List.mem_singleton.mp hb
      exact ⟨o, ho, fun v q => by rw [hd] at q; cases q⟩
  keep := by
    rintro i h h' ⟨⟨old, he⟩, hi, hn⟩ k
    exact ⟨⟨old, k e (by simp) _ he⟩, hi.at fun o q => k it (by simp) o q, hn⟩
  item := by
    intro X hP hw hK hc i pins s σ H E I hf st hg
    subst hP hw hK
    obtain ⟨⟨old, he⟩, hit, hne, hai, hae⟩ := st
    obtain ⟨xs, x, hq, hx⟩ := hg
    obtain ⟨its, rv, p, hz⟩ := I.tuple hq
    obtain ⟨u, hu, ru⟩ := rv.get hx
    have hel : e < s.heap.objs.size := Heap.lt_size he
    have hil : it < s.heap.objs.size := by
      obtain ⟨_, q, _⟩ := hit
      exact Heap.lt_size q
    have hlt : i < its.toArray.size := by
      rw [List.size_toArray]
      exact (List.getElem?_eq_some_iff.mp hu).1
    have D := Draws.tuple (prog := X.prog) (w := X.w) (A := X.A.in1) (I.ok.hd hc) it a hai its.toArray
    refine wpAny_pyNext_enum_itemD D he ⟨hit, (show s.heap.IsTuple a its.toArray from p)⟩ hlt hne (by simp [hne, Ne.symm hae]) fun y h' tk hy ho hst hT hsz hk => ?_
    have ey : y = u := by
      have z : its.toArray[i]? = some y := hy
      rw [List.getElem?_toArray, hu] at z
      exact (Option.some.inj z).symm
    subst ey
    refine ⟨_, rfl, ?_⟩
    refine wpAny_letOwnedTupleGo_enum (s := ⟨h', s.gens, s.drawn, tk + 1, s.os⟩) ho ?_
    intro h2 he2 sb
    have at2 : h2.get? s.heap.objs.size = some { cls := .type "tuple", data := .seq #[.int i tk, y] } := by
      rw [sb.2 _ (Nat.ne_of_gt hel)]
      exact hT
    have cell : ObjOk X.prog X.w (upd H s.heap.objs.size (.tup [.int (i : Nat), x])) h2 s.heap.objs.size (.tup [.int (i : Nat), x]) := by
      refine ⟨by show 2 ≤ sizeLine; decide, [.int i tk, y], .cons ⟨_, rfl⟩ (.cons ru .nil), ⟨_, at2, rfl, _, rfl⟩⟩
    have far : ∀ b ob, b ∉ [e, it] → s.heap.get? b = some ob → h2.get? b = some ob := fun b ob hb q => by
      have n1 : b ≠ e := fun z => hb (by simp [z])
      have n2 : b ≠ it := fun z => hb (by simp [z])
      rw [sb.2 b n1]
      exact hk b ob n1 n2 q
    have J := I.turnedNew (ch := [e, it]) (t' := tk + 1) far hf (Nat.le_refl _) cell
    refine ⟨.ref s.heap.objs.size, _, J, rfl, ⟨_, x, rfl, I.hok.fresh (Nat.le_refl _), rfl, fun ys hy => by rw [I.tuple_inj hy hq]; exact hx⟩, ⟨⟨y, ?_⟩, ?_, hne, hai, hae⟩, fun b hb => ?_⟩
    · have e1 : ((i + 1 : Nat) : Int) = (i : Int) + 1 := by omega
      rw [e1]
      exact he2
    · exact hst.1.at fun o q => by
        rw [sb.2 it (Ne.symm hne)]
        exact q
    · have lt : b < s.heap.objs.size := by
        rcases List.mem_cons.mp hb with rfl | hb
        · exact hel
        · obtain rfl := List.mem_singleton.mp hb
          exact hil
      rw [upd_ne (Nat.ne_of_lt lt)]
      exact (hf b hb).1
  done := by
    intro X hP hw hK hc i pins s σ H E I hf st hg
    subst hP hw hK
    obtain ⟨⟨old, he⟩, hit, hne, hai, hae⟩ := st
    obtain ⟨xs, hq, hx⟩ := hg
    obtain ⟨its, rv, p, hz⟩ := I.tuple hq
    obtain ⟨f0, f1, f2, f3, f4, f5⟩ := hf it (by simp)
    have hl := rv.length
    have none_i : its.toArray[i]? = none := by
      rw [List.getElem?_toArray, List.getElem?_eq_none_iff]
      omega
    have D : Draws X.prog X.w X.A.in1 it [it, a] i (fun j v => its.toArray[j]? = some v) (fun j h => (h.IsTupleIter it a j ∧ h.IsTuple a its.toArray) ∧ i ≤ j) :=
      { live := fun _ _ st => let ⟨o, ho, _⟩ := st.1.1; ⟨o, ho⟩
        frame := fun _ _ _ st hk => ⟨⟨st.1.1.at fun o e => hk it (by simp) o e, st.1.2.at fun o e => hk a (by simp) o e⟩, st.2⟩
        item := fun j _ _ _ hj st _ => absurd st.2 (by omega)
        done := fun s Q E st hE => wpAny_nextOf_tuple_end (I.ok.hd hc) st.1.1 st.1.2 none_i hE }
    refine wpAny_pyNext_enum_endD D he ⟨⟨hit, (show s.heap.IsTuple a its.toArray from p)⟩, Nat.le_refl _⟩ fun h' eb => ⟨rfl, ?_⟩
    exact I.turned (t' := s.toks) (fun b o hb q => eb b o hb q) f0 f1 f3 f4 f5
  self := fun A i s Q E st h => by
    obtain ⟨⟨_, he⟩, _⟩ := st
    exact wpAny_pyIter_enum he h
def iEnumT (K : PySem.W.Frag) (ta : TA) : TI := fun σ H R => ta σ H fun vs H1 => ∃ a xs, vs = [.ref a] ∧ SqT K H1 a xs ∧ R (Iten K a) H1
theorem pi_enumT {X : Cx} {e : Expr} {ta : TA} {p pos tpos : Pos} {elts : List Expr} {kk : Nat} (hg : Gl X "enumerate") (hm : X.mg "enumerate" = none) (ha : PA X [e] ta) (hs : starEach [e] X.env = [(false, eval e X.env)] := by rfl) :
    PI X (.Tuple elts kk tpos) (.Call (.Name "enumerate" p) [e] [] pos) (iEnumT X.K ta) := by
  constructor
  intro pins s σ H R I h
  refine Call_ (ld_blt I hg hm boot_enumerate (PyProof.Rows.callWith_type1 (thn (ha.run pos pins s σ H _ I h) ?_) hs rfl))
  rintro us s1 ⟨vs, H1, I1, r1, a, xs, rfl, hq, q⟩
  obtain ⟨u, rfl, ru⟩ := vals1 r1
  cases ru
  obtain ⟨its, rv, p', hz⟩ := I1.tuple hq
  have hal : a < s1.heap.objs.size := by
    obtain ⟨o, ho, _⟩ := p'
    exact Heap.lt_size ho
  refine enum_call (begins_tuple a its.toArray) (show s1.heap.IsTuple a its.toArray from p') fun h' he hit hk => wpAny_pyIter_enum he ?_
  have I2 : Inv X pins σ H1 { s1 with heap := h' } := I1.kept (t' := s1.toks) hk
  refine ⟨s1.heap.objs.size + 1, [s1.heap.objs.size + 1, s1.heap.objs.size], _, _, H1, rfl, I2, turn_en a (s1.heap.objs.size + 1) s1.heap.objs.size, ⟨⟨.none, he⟩, ⟨_, hit, rfl, rfl⟩, Nat.succ_ne_self _, Nat.ne_of_lt hal, Nat.ne_of_lt (Nat.lt_succ_of_lt hal)⟩, fun b hb => ?_, q⟩
  have hle : s1.heap.objs.size ≤ b := by
    rcases List.mem_cons.mp hb with rfl | hb
    · exact Nat.le_succ _
    · obtain rfl := List.mem_singleton.mp hb
      exact Nat.le_refl _
  exact I1.fpOk hle (I1.hok.fresh hle)
/-- for i, x in enumerate(t) -/
theorem for_enT {K : PySem.W.Frag} {a : Addr} {xs : List V} {g : TG} {tb : TS} {D : Ends} {σ : L2.St} {H : Hp} (Pv : Nat → L2.St → Hp → Prop) (h0 : Pv 0 σ H) (hl : ∀ i σ H, Pv i σ H → SqT K H a xs)
    (hs : ∀ (i : Nat) x σ H, xs[i]? = some x → Pv i σ H → ∀ T, H T = none → g (.ref T) σ (upd H T (.tup [.int (i : Nat), x])) fun σ2 H2 => tb { D with nx := Pv (i + 1), ct := Pv (i + 1), bk := D.nx } σ2 H2) (hd : ∀ σ H, Pv xs.length σ H → D.nx σ H) :
    ∃ W : Nat → Nat → L2.St → Hp → Prop, (∃ m, W 0 m σ H) ∧ ∀ i m σ H, W i m σ H →
      ((Iten K a).stop i H ∧ D.nx σ H) ∨ ((Iten K a).go i H ∧ ∃ N : L2.St → Hp → Prop, (∀ σ' H', N σ' H' → ∃ m', m' < m ∧ W (i + 1) m' σ' H') ∧ ∀ x H', (Iten K a).yld i H x H' → g x σ H' fun σ2 H2 => tb { D with nx := N, ct := N, bk := D.nx } σ2 H2) := by
  refine ⟨fun i m σ H => m = xs.length - i ∧ i ≤ xs.length ∧ Pv i σ H, ⟨xs.length, by simp, Nat.zero_le _, h0⟩, ?_⟩
  rintro i m σ H ⟨rfl, hi, p⟩
  have q := hl i σ H p
  by_cases hlt : i < xs.length
  · refine .inr ⟨⟨xs, xs[i], q, List.getElem?_eq_getElem hlt⟩, Pv (i + 1), fun σ' H' p' => ⟨xs.length - (i + 1), by omega, rfl, hlt, p'⟩, fun v H' y => ?_⟩
    obtain ⟨T, x, rfl, nT, rfl, hx⟩ := y
    exact hs i x σ H (hx xs q) p T nT
  · have e : i = xs.length := by omega
    subst e
    exact .inl ⟨⟨xs, q, Nat.le_refl _⟩, hd σ H p⟩
end Ev
set_option maxHeartbeats 4000000
/-! Own errors whose __init__ says super().__init__() and nothing else. -/
namespace Ev
open PySem PySem.W PySem.Calls PyProof.Rows L2

abbrev supArgs (p : Pos) : Arguments := { posonlyargs := [], args := [{ arg := "self", annotation := none, pos := p }], vararg := none, kwonlyargs := [], kw_defaults := [], kwarg := none, defaults := [] }
abbrev supBody (p0 p1 p2 p3 p4 : Pos) : List Stmt := [.Expr (.Call (.Attribute (.Call (.Name "super" p0) [] [] p1) "__init__" p2) [] [] p3) p4]

abbrev supScope : Scope := { kind := .function, names := [(PySem.Str.ofString "self", .local), (PySem.Str.ofString "__class__", .free), (PySem.Str.ofString "super", .globalImplicit)], isGenerator := false, isCoroutine := false, more := [] }
theorem sup_l1 : supScope.names.lookup ("self" : Str) = some .local := by decide +kernel
theorem sup_l2 : supScope.names.lookup ("super" : Str) = some .globalImplicit := by decide +kernel
theorem sup_l3 : supScope.names.lookup ("__class__" : Str) = some .free := by decide +kernel
/-- what the written part tells of such a class at C, whose __init__ stands at fI -/
structure SupC (P : Program) (K : Frag) (mg : Str → Option Value) (C fI : Addr) : Prop where
  oex : OexC K C
  ini : findIn K (.ref C) "__init__" = some (some (.ref fI))
  tyI : typeIn K (.ref fI) = some (.type "function")
  fn : ∃ (oc : Value) (od : Option Addr) (qual : Str) (kV doc pm ct : Value) (an : Option Addr) (cda cc : Addr) (osl : Array (Option Value)) (p p0 p1 p2 p3 p4 : Pos) (ccl : Value) (cdd : Option Addr) (vs : Array Value) (ccs : Array (Option Value)) (file : Str) (tf : Tok) (cl : Value) (cld : Option Addr) (csl : Array (Option Value)),
    K.lookup fI = some ⟨oc, od, .func (ksFn "__init__" qual (supArgs p) (supBody p0 p1 p2 p3 p4) supScope .none kV doc pm an (.ref cda) ct cc), osl⟩ ∧ codeIn K (.ref cda) qual = true ∧
    K.lookup cda = some ⟨ccl, cdd, .fields vs, ccs⟩ ∧ vs[2]? = some (.str file tf) ∧ ((P.main.file : Str) == file) = true ∧ K.lookup cc = some ⟨cl, cld, .cell (some (.ref C)), csl⟩ ∧
    (p2.endLine == p3.line) = true
  gs : mg "super" = none
  top : (P.main.scope.names.lookup ("super" : Str)).isSome = false
  third : nsIn K cStatics "thirdparty.any" = some none
  sup : ks_superIn K C C "__init__" = some (some (.builtin "ValueError.__init__"))
  ve : subIn K (.ref C) (.type "ValueError") = some true
  me : mroIn K C (.ref C) = some true

theorem sup_eval {env : Env} {p0 p1 p2 p3 : Pos} (h : (p2.endLine == p3.line) = true) : eval (.Call (.Attribute (.Call (.Name "super" p0) [] [] p1) "__init__" p2) [] [] p3) env = (do
      let ov ← attributeBase (.Call (.Name "super" p0) [] [] p1) "__init__" env (eval (.Call (.Name "super" p0) [] [] p1) env)
      standAt p2.atName
      let (f, first) ← holding [ov] (getMethod ov "__init__" (do return (← importBound (.Call (.Name "super" p0) [] [] p1) env).getD true))
      callWith p3 f first (backTo p3 (starEach [] env)) []) := by
  have e : methodCallPos true (.Call (.Name "super" p0) [] [] p1) env p2 p3 = pure p3 := by
    unfold methodCallPos
    rw [h]
    rfl
  show (do
    let ov ← attributeBase (.Call (.Name "super" p0) [] [] p1) "__init__" env (eval (.Call (.Name "super" p0) [] [] p1) env)
    standAt p2.atName
    let (f, first) ← holding [ov] (getMethod ov "__init__" (do return (← importBound (.Call (.Name "super" p0) [] [] p1) env).getD true))
    let callPos ← methodCallPos true (.Call (.Name "super" p0) [] [] p1) env p2 p3
    callWith callPos f first (backTo p3 (starEach [] env)) []) = _
  rw [e]
  rfl
theorem boot_super : bootBuiltins "super" = some (.type "super") := by first | boot_by_name | rfl | kernel_rfl

section
variable {P : Program} {w : World} {A : Around} {E : Value → Shared → Prop} {K : Frag} {mg mb : Str → Option Value} {C fI x t0 : Addr} {h : Heap} {g : Array GenState} {d : Drawn} {tk : Nat} {os : OsState}

/-- the wrapper that super().__init__ gives, called: the args are laid anew -/
theorem bound_init {u : Addr} {Q : Value → Shared → Prop} (T : OexC K C) (X : K.In h) (hu : h.get? u = some (kxs_mw "ValueError.__init__" x)) (hx : h.get? x = some (PySem.HandSPX.excO C t0))
    (hq : ∀ h' t1, (∀ b o, b ≠ x → h.get? b = some o → h'.get? b = some o) → h'.get? x = some (PySem.HandSPX.excO C t1) → Q .none ⟨h', g, d, tk, os⟩) :
    wpAny (model P w) A (call (.ref u) []) Q E ⟨h, g, d, tk, os⟩ := by
  obtain ⟨nm, q, N, bs, bm, sn, sub, ab, col, dd, k0, k1, k2, k3, k5, hC, hbm⟩ := T.cls
  refine wpAny_call (codeAny_of_tree ?_)
  show wpAny _ A.in1 (callAny (.ref u) ⟨[], []⟩) _ _ _
  simp only [callAny]
  refine wpAny_bind (wpAny_load hu ?_)
  simp only [kxs_mw, show (Value.type "method-wrapper" == Value.type "method" || Value.type "method-wrapper" == Value.type "builtin_function_or_method" || Value.type "method-wrapper" == Value.type "method-wrapper") = true by decide, if_true]
  refine KFB.if_so (by decide) ?_
  refine wpAny_bind (check_bound_init F.excBase_ValueError.toExcCallFacts (X _ _ hC) hx rfl ?_)
  refine wpAny_bind (wpAny_pure (wpAny_pure ?_))
  refine ⟨plainId_quiet F.excBase_ValueError.init.plain _, codeAny_builtin F.excBase_ValueError.initEntry ?_⟩
  exact exc_init_tree (cls := .ref C) (t0 := t0) (dv := none) (c2 := .none) (c3 := .none) (b4 := .bool false) hx (by rw [sizeLine_eq]; exact Nat.zero_le _) fun h' k e _ => hq h' h.objs.size k e

theorem sup_init {R : Result → Shared → Prop} {s : Shared} (T : SupC P K mg C fI) (hroom : A.depth < recursionLimit) (X : K.In s.heap) (hlim : s.heap.NoLimit) (G : s.heap.Ns mainGlobals mg) (B : s.heap.Ns builtinsNs mb)
    (hbb : ∀ y : Str, y ≠ "__name__" → mb y = bootBuiltins y) (hx : s.heap.get? x = some (PySem.HandSPX.excO C t0))
    (hq : ∀ h' t' t1, (∀ b o, b ≠ x → s.heap.get? b = some o → h'.get? b = some o) → h'.get? x = some (PySem.HandSPX.excO C t1) → R (.ok (.ret .none)) { s with heap := h', toks := t' }) :
    codeAny (model P w) A (.call (.ref fI) ⟨[.ref x], []⟩) R s := by
  obtain ⟨oc, od, qual, kV, doc, pm, ct, an, cda, cc, osl, p, p0, p1, p2, p3, p4, ccl, cdd, vs, ccs, file, tf, cl, cld, csl, ho, hcd, hcode, hvs, hfile, hcell, hline⟩ := T.fn
  refine ks_codeAny_call_defAt (fd := ksFn "__init__" qual (supArgs p) (supBody p0 p1 p2 p3 p4) supScope .none kV doc pm an (.ref cda) ct cc) (body := supBody p0 p1 p2 p3 p4) (binds := [("self", .ref x)]) hroom (X _ _ ho) rfl hlim (codeRec_of X hcd) rfl
    (BindsTo.of_eq rfl) (by show ∀ y ∈ supScope.names, y.2 ≠ .cell; decide) (fun y hy => ?_) (fun h₁ hns k₁ => ?_)
  · obtain rfl : y = (("self" : Str), Value.ref x) := List.mem_singleton.mp hy
    exact sup_l1
  obtain ⟨hp, g, d, tk, os⟩ := s
  have X₁ : K.In h₁ := X.keeps k₁
  have hx₁ : h₁.get? x = some (PySem.HandSPX.excO C t0) := k₁ _ _ hx
  have G₁ : h₁.Ns mainGlobals mg := G.keeps k₁
  have B₁ : h₁.Ns builtinsNs mb := B.keeps k₁
  obtain ⟨nm, q, N, bs, bm, sn, sub, ab, col, dd, q0, q1, q2, q3, q5, hC, hbm⟩ := T.oex.cls
  show _root_.PySem.wpAt _ _ _ (execs (supBody p0 p1 p2 p3 p4) (ksEnv qual supScope hp.objs.size fI (.ref cda) cc)) _ _ _
  refine ks_wpAt_execs_cons (ks_wpAt_Expr_any (ks_wpAt_MethodCall ?_ (sup_eval hline)))
  refine ks_wpAt_super_base (env := ksEnv qual supScope hp.objs.size fI (.ref cda) cc) sup_l2 sup_l3 (by decide) rfl (X₁ _ _ ho) rfl rfl rfl (X₁ _ _ hcode) rfl hvs hfile T.top ?_
  refine ks_loadName_global rfl sup_l2 (loadGlobal_builtin (env := ksEnv qual supScope hp.objs.size fI (.ref cda) cc) G₁ T.gs B₁ ((hbb _ (by decide +kernel)).trans boot_super) ⟨rfl, ?_⟩)
  refine wpAny_loadName_free rfl sup_l3 rfl ⟨_, X₁ _ _ hcell, rfl⟩ ?_
  refine wpAny_loadName_local rfl sup_l1 hns (v := .ref x) (by show List.lookup ("self" : Str) [(("self" : Str), Value.ref x)] = some (Value.ref x); simp [List.lookup]) ?_
  refine ks_wpAny_isType_cls (X₁ _ _ hC) rfl ⟨rfl, ?_⟩
  have I : InstAt h₁ x (PySem.HandSPX.excO C t0) C none := ⟨hx₁, rfl, rfl, trivial⟩
  refine ks_wpAny_call_super (X₁ _ _ hC) rfl I.at_ I.cls (fun c e => by cases e) (looks_mroIn X₁ T.me) (fun h' e k => ?_)
  have X₂ : K.In h' := X₁.keeps k
  have hx₂ : h'.get? x = some (PySem.HandSPX.excO C t0) := k _ _ hx₁
  have I₂ : InstAt h' x (PySem.HandSPX.excO C t0) C none := ⟨hx₂, rfl, rfl, trivial⟩
  have hsu := T.sup
  unfold ks_superIn at hsu
  have hcl : clsIn K C = some { name := nm, bases := bs, mro := .ref C :: bm, ns := N, qualname := q, hasDict := true, slotNames := sn, subclasses := sub, abstract := ab, collection := col, hasDel := false } := by unfold clsIn; rw [hC] <;> rfl
  rw [hcl] at hsu
  refine kxs_getMethod kxs_ValueError e (looks_opaque X₂ T.third) (l₀ := .ref C :: bm) ?_ rfl X₂ hsu (I₂.type.andThen (looks_subIn X₂ T.ve)) (ks_ne X₂ I₂ hcl) (by decide) ?_
  · exact fun A Q E s k q => wpAny_bind ((looks_clsIn X₂ hcl) A _ E s k (wpAny_pure q))
  have hne : h'.objs.size ≠ x := Nat.ne_of_gt (Heap.lt_size hx₂)
  have k2 : ∀ b o, h'.get? b = some o → (h'.push (kxs_mw "ValueError.__init__" x)).get? b = some o := fun b o z => Heap.get?_push_of_some _ z
  have hmw : (h'.push (kxs_mw "ValueError.__init__" x)).get? h'.objs.size = some (kxs_mw "ValueError.__init__" x) := Heap.get?_push_at rfl rfl
  refine kxs_callWith (i := "ValueError.__init__") (x := x) rfl (evalArgs_empty ⟨hmw, ?_⟩)
  refine bound_init T.oex (X₂.keeps k2) hmw (k2 _ _ hx₂) fun h3 t1 k3 hx3 => ?_
  exact wpAt_of_wpAny (wpAny_execs_nil (hq h3 _ t1 (fun b o hb z => k3 b o hb (k2 b o (k b o (k₁ b o z)))) hx3))
end
end Ev
set_option maxHeartbeats 4000000
/-! Rules for own errors as values: made, asked by isinstance, their fields read. -/
namespace Ev
open PySem PySem.Spec PyProof.Rows L2

section
variable {X : Cx} {x : Str} {C fI : Addr} {p pos : Pos}
theorem make_room {k : Nat} {A : Around} (hr : Room k A) {us : List Value} : (A.under (.builtin "type.__call__" ⟨.ref C :: us, []⟩)).depth < recursionLimit := by
  rw [make_depth]
  have := hr.dp
  omega
/-- C() of a class whose __init__ is super().__init__(): what stands behind it -/
theorem run_exc0 {pins : List (Addr × Obj)} {s : Shared} {σ : L2.St} {H : Hp} {k : Nat} {Q : Value → Shared → Prop} (T : SupC X.prog X.K X.mg C fI) (hr : Room k X.A) (I : Inv X pins σ H s)
    (h : ∀ h' tk a t1, s.heap.objs.size ≤ a → (∀ b o, s.heap.get? b = some o → h'.get? b = some o) → h'.get? a = some (PySem.HandSPX.excO C t1) → Q (.ref a) { s with heap := h', toks := tk }) :
    wpAny (model X.prog X.w) X.A (call (.ref C) []) Q X.xe s := by
  obtain ⟨nm, q, N, bs, bm, sn, sub, ab, col, dd, k0, k1, k2, k3, k5, hC, hbm⟩ := T.oex.cls
  obtain ⟨mb, hb1, hb2⟩ := I.mod.blt
  have kX := I.kIn
  have lim := I.nolimit
  have g1 := I.mod.glob.keeps I.bk
  have b1 := hb1.keeps I.bk
  obtain ⟨hp, g, dr, tk, os⟩ := s
  have kk : ∀ b o, hp.get? b = some o → ((hp.push (PySem.W.kdv_tup [])).push (PySem.HandSPX.excO C hp.objs.size)).get? b = some o := fun b o e => Heap.get?_push_of_some _ (Heap.get?_push_of_some _ e)
  have hget : ((hp.push (PySem.W.kdv_tup [])).push (PySem.HandSPX.excO C hp.objs.size)).get? (hp.objs.size + 1) = some (PySem.HandSPX.excO C hp.objs.size) := by heap_get
  refine wpAny_call (PySem.HandSPX.call_own F.excBase_ValueError (fun Y => PySem.HandSPX.refsVE_contains Y bm hbm) (kX _ _ hC) (PySem.W.looks_findIn kX T.ini) (fun self => PySem.W.bind_fn kX self T.tyI) (by rw [sizeLine_eq]; exact Nat.zero_le _)
    (sup_init (s := ⟨(hp.push (PySem.W.kdv_tup [])).push (PySem.HandSPX.excO C hp.objs.size), g, dr, tk, os⟩) T (make_room hr) (kX.keeps kk) (lim.keeps kk) (g1.keeps kk) (b1.keeps kk) hb2 hget fun h' t' t1 k' hx => ⟨rfl, ?_⟩))
  exact h h' t' (hp.objs.size + 1) t1 (Nat.le_succ _) (fun b o e => k' b o (Nat.ne_of_lt (Nat.lt_succ_of_lt (Heap.lt_size e))) (kk b o e)) hx
def tExc0 (C : Addr) : TE := fun _ H Q => ∀ a, H a = none → Q (.ref a) (upd H a (exo a C none))
theorem pe_exc0 {k : Nat} (T : SupC X.prog X.K X.mg C fI) (hr : Room k X.A) (hg : Gl X x) (hm : X.mg x = some (.ref C)) (hdb : (x == ("__debug__" : Str)) = false := by decide) : PE X (.Call (.Name x p) [] [] pos) (tExc0 C) := by
  refine ⟨fun pins s σ H Q I h => ?_⟩
  refine wpAny_Call_Name_kw (ld_glob I hg hm ?_ hdb)
  refine PySem.W.callWith_K0 I.kIn T.oex.kC ?_
  show wpAny _ _ (call (.ref C) []) _ _ _
  refine run_exc0 T hr I fun h' tk a t1 ha k e => ?_
  exact ⟨.ref a, upd H a (exo a C none), I.laid k ha (exo_ok e), rfl, h a (I.hok.fresh ha)⟩
/-- raised at once -/
theorem pmk_exc0 {k : Nat} (T : SupC X.prog X.K X.mg C fI) (hr : Room k X.A) (hg : Gl X x) (hm : X.mg x = some (.ref C)) (hdb : (x == ("__debug__" : Str)) = false := by decide) : PMk X (.Call (.Name x p) [] [] pos) (fun _ H Q => Q (.ref C) none H) := by
  intro pins s σ H Q I h
  refine wpAny_Call_Name_kw (ld_glob I hg hm ?_ hdb)
  refine PySem.W.callWith_K0 I.kIn T.oex.kC ?_
  show wpAny _ _ (call (.ref C) []) _ _ _
  refine run_exc0 T hr I fun h' tk a t1 ha k e => ?_
  refine ⟨a, _, _, s, H, .ref C, none, rfl, I, k, ?_, e, ⟨rfl, rfl⟩, rfl, rfl, I.hok.fresh ha, rfl, I.bare, raises_own T.oex.exC T.oex.tyC, h⟩
  exact Heap.get?_none_of_le ha
end

/-! ### __init__(self, f): self.f = f -/
structure Ini1 (st : Stmt) (f : Str) : Prop where
  body : ∃ q1 q2 q3 q4, defBody st = [.Assign [.Attribute (.Name "self" q1) f q2] (.Name f q3) q4]
  sc : FnScope ["self", f] ["self", f] (defScope st)
  l0 : (defScope st).names.lookup ("self" : Str) = some .local
  l1 : (defScope st).names.lookup f = some .local
  d1 : (f == ("__debug__" : Str)) = false
  d2 : (f == ("__classdict__" : Str)) = false
def spIni1 (C : Addr) (f : Str) : Sp := fun vs H Q _ => ∃ (a : Addr) (v : V), vs = [.ref a, v] ∧ H a = some (exo a C none) ∧ ∀ dx, H dx = none → dx ≠ a → Q .non (upd (upd H dx (exd dx [(f, v)])) a (exo a C (some dx)))
section
variable {P : Program} {w : World} {K : PySem.W.Frag} {mg : Str → Option Value} {base : Heap} {C : Addr}
theorem ok_ini1 {qual f : Str} {st : Stmt} {fI : Addr} {fd : FuncData} (F : Fun K "__init__" qual st fI fd) (S : Ini1 st f) (T : OexC K C) (hno : PySem.W.findIn K (.ref C) f = some none) : FnOk P w K mg base CX0 1 fI fd ["self", f] (spIni1 C f) := by
  refine F.ok S.sc (fun vs H Q E h => ?_) (fun cdv A outer s H vs Q E hr h => ?_)
  · obtain ⟨a, v, rfl, _⟩ := h
    rfl
  · obtain ⟨a, v, rfl, ha, q⟩ := h
    obtain ⟨q1, q2, q3, q4, hb⟩ := S.body
    rw [hb]
    refine ⟨_, pss_one (ps_ost (pv 0 rfl (.inl S.l0)) (pv 1 rfl (.inl S.l1) S.d1 S.d2)), ?_⟩
    exact ⟨v, rfl, .ref a, rfl, a, C, rfl, T, hno, .inl ⟨ha, fun dx n ne => q dx n ne⟩⟩
end
theorem upd3 {H : Hp} {a d : Addr} {o1 o2 o3 : HO} (h : d ≠ a) : upd (upd (upd H a o1) d o2) a o3 = upd (upd H d o2) a o3 := by
  funext b
  by_cases e : b = a
  · rw [e, upd_same, upd_same]
  · rw [upd_ne e, upd_ne e]
    by_cases e2 : b = d
    · rw [e2, upd_same, upd_same]
    · rw [upd_ne e2, upd_ne e2, upd_ne e]
def tExc1 (C : Addr) (f : Str) (ta : TA) : TE := fun σ H Q => ta σ H fun vs H1 => ∃ v, vs = [v] ∧ ∀ a d, H1 a = none → H1 d = none → d ≠ a → Q (.ref a) (upd (upd H1 d (exd d [(f, v)])) a (exo a C (some d)))
section
variable {X : Cx} {x f : Str} {C fI : Addr} {p pos : Pos} {e : Expr} {ta : TA} {fd : FuncData}
theorem pe_exc1 {k : Nat} (T : OexC X.K C) (iC : PySem.W.findIn X.K (.ref C) "__init__" = some (some (.ref fI))) (tI : PySem.W.typeIn X.K (.ref fI) = some (.type "function")) (F1 : FnOk X.prog X.w X.K X.mg X.base CX0 1 fI fd ["self", f] (spIni1 C f)) (hr : Room (k + 2) X.A)
    (hb : Binds X.K fd ["self", f] []) (hg : Gl X x) (hm : X.mg x = some (.ref C)) (ha : PA X [e] ta) (hdb : (x == ("__debug__" : Str)) = false := by decide) (he : starEach (e :: []) X.env = (false, eval e X.env) :: starEach [] X.env := by rfl)
    (hpl : (backTo pos (starEach [] X.env)).any (·.1) = false := by rfl) : PE X (.Call (.Name x p) [e] [] pos) (tExc1 C f ta) := by
  refine ⟨fun pins s σ H Q I h => ?_⟩
  obtain ⟨nm, q, N, bs, bm, sn, sub, ab, col, dd, k0, k1, k2, k3, k5, hC, hbm⟩ := T.cls
  refine wpAny_Call_Name_kw (ld_glob I hg hm ?_ hdb)
  refine PySem.W.callWith_K (h₀ := X.base) I.ok.mod.kin T.kC (thn (ha.run pos pins s σ H _ I h) fun us s1 ⟨vs, H1, I1, r1, v, ev, q1⟩ => ⟨I1.kIn, ?_⟩) he hpl
  subst ev
  show wpAny _ _ (call (.ref C) us) _ _ _
  obtain ⟨hp, g, dr, tk, os⟩ := s1
  have hsz : hp.objs.size ≤ hp.objs.size + 1 := Nat.le_succ _
  have hn : H1 (hp.objs.size + 1) = none := I1.hok.fresh hsz
  have kk : ∀ b o, hp.get? b = some o → ((hp.push (PySem.W.kdv_tup us)).push (PySem.HandSPX.excO C hp.objs.size)).get? b = some o := fun b o e => Heap.get?_push_of_some _ (Heap.get?_push_of_some _ e)
  have hget : ((hp.push (PySem.W.kdv_tup us)).push (PySem.HandSPX.excO C hp.objs.size)).get? (hp.objs.size + 1) = some (PySem.HandSPX.excO C hp.objs.size) := by heap_get
  have I2 : Inv X pins σ (upd H1 (hp.objs.size + 1) (exo (hp.objs.size + 1) C none)) ⟨(hp.push (PySem.W.kdv_tup us)).push (PySem.HandSPX.excO C hp.objs.size), g, dr, tk, os⟩ :=
    I1.laid (t' := tk) (a := hp.objs.size + 1) (o := exo (hp.objs.size + 1) C none) (h' := (hp.push (PySem.W.kdv_tup us)).push (PySem.HandSPX.excO C hp.objs.size)) kk hsz (exo_ok hget)
  have r2 : Vals [V.ref (hp.objs.size + 1), v] (Value.ref (hp.objs.size + 1) :: us) := .cons rfl r1
  have hl1 : us.length = 1 := by rw [← Paired.length r1] <;> rfl
  have hl : (Value.ref (hp.objs.size + 1) :: us ++ []).length = (["self", f] : List Str).length := by
    rw [List.append_nil, List.length_cons, hl1] <;> rfl
  have hus : us.length ≤ sizeLine := by
    rw [hl1, sizeLine_eq]
    omega
  have b2 := hb _ (Value.ref (hp.objs.size + 1) :: us) I2.kIn hl
  rw [List.append_nil] at b2
  have hq : spIni1 C f [V.ref (hp.objs.size + 1), v] (upd H1 (hp.objs.size + 1) (exo (hp.objs.size + 1) C none)) (fun z H2 => z = .non ∧ Q (.ref (hp.objs.size + 1)) H2) E0 := by
    refine ⟨_, v, rfl, upd_same, fun dx n ne => ⟨rfl, ?_⟩⟩
    rw [upd_ne ne] at n
    rw [upd3 ne]
    exact q1 _ dx hn n ne
  refine wpAny_call (PySem.HandSPX.call_own F.excBase_ValueError (fun Y => PySem.HandSPX.refsVE_contains Y bm hbm) (I1.kIn _ _ hC) (PySem.W.looks_findIn I1.kIn iC) (fun self => PySem.W.bind_fn I1.kIn self tI) hus
    (codeAny_mono (F1.run _ X.stack _ _ ⟨Value.ref (hp.objs.size + 1) :: us, []⟩ (Value.ref (hp.objs.size + 1) :: us) _ _ E0 ((hr.mono (by omega : 1 + 1 ≤ k + 2)).make C us []) (I2.env0.make C us []) b2 r2 hq) fun r s' hq' => ?_))
  cases r with
  | error er => exact False.elim hq'
  | ok fl =>
    cases fl with
    | ret u =>
      obtain ⟨z, H', I3, rz, ez, q3⟩ := I2.after hq'
      subst ez
      exact ⟨rz, ⟨V.ref (hp.objs.size + 1), H', I3, rfl, q3⟩⟩
    | next => exact False.elim hq'
    | brk => exact False.elim hq'
    | cont => exact False.elim hq'
end

/-! ### isinstance -/
/-- at a stands an own error of the class at C -/
def ErrAt (H : Hp) (a C : Addr) : Prop := H a = some (exo a C none) ∨ ∃ d fs, H a = some (exo a C (some d)) ∧ H d = some (exd d fs)
theorem err_inst {X : Cx} {pins : List (Addr × Obj)} {σ : L2.St} {H : Hp} {s : Shared} {a C : Addr} (I : Inv X pins σ H s) (h : ErrAt H a C) : ∃ ox od, PySem.W.InstAt s.heap a ox C od := by
  rcases h with h | ⟨d, fs, h, hd⟩
  · obtain ⟨t1, e⟩ := exo_at I.hok h
    exact ⟨_, none, e, rfl, rfl, trivial⟩
  · obtain ⟨t1, e⟩ := exo_at I.hok h
    obtain ⟨mA, ⟨o, es, ep, ho, _⟩, _⟩ := exd_at I.hok hd
    exact ⟨_, some o, e, rfl, rfl, ho⟩
/-- isinstance(e, c), e an own error -/
def rIsX (K : PySem.W.Frag) : List V → Hp → VK → Prop := fun xs H Q => ∃ (a C : Addr) (c : V) (cv : Value) (b : Bool), xs = [.ref a, c] ∧ ErrAt H a C ∧ ExcC K C ∧ ClsV c cv ∧ PySem.W.kitOne K (.ref C) cv = some b ∧ Q (.bl b) H
theorem call_isX {X : Cx} : CallR X (.builtin "isinstance") (rIsX X.K) := by
  intro pins s σ H xs us Q I r h
  obtain ⟨a, C, c, cv, b, rfl, ea, T, k, e, q⟩ := h
  obtain ⟨u1, u2, rfl, r1, r2⟩ := vals2 r
  have e2 := k.eq r2
  subst e2
  obtain rfl : u1 = Value.ref a := r1
  obtain ⟨ox, od, J⟩ := err_inst I ea
  have hcl : (PySem.W.clsIn X.K C).isSome = true := by
    obtain ⟨cd, hc, _⟩ := PySem.W.any_some T.hd
    rw [hc]
    rfl
  exact PySem.W.kia_one (PySem.W.kitx_exc hcl T.hg T.hk T.hs T.ha T.hn T.ht T.hm) I.kIn J e (fun z => nomatch z) fun tk => ⟨.bl b, H, I.tok tk, rfl, q⟩
/-- e.n, e an own error -/
def tErrF (K : PySem.W.Frag) (n : Str) (te : TE) : TE := fun σ H Q => te σ H fun x H1 => ∃ (a C d : Addr) (fs : List (Str × V)) (v : V), x = .ref a ∧ H1 a = some (exo a C (some d)) ∧ H1 d = some (exd d fs) ∧ fs.lookup n = some v ∧ XfC K C ∧ PySem.W.findIn K (.ref C) n = some none ∧ Q v H1
theorem pe_errF {X : Cx} {e : Expr} {te : TE} {pos : Pos} {n : Str} (he : PE X e te) (hb : attributeBase e n X.env (eval e X.env) = eval e X.env := by rfl) : PE X (.Attribute e n pos) (tErrF X.K n te) := by
  refine ⟨fun pins s σ H Q I h => ?_⟩
  refine attr_of hb (thn (he.run pins s σ H _ I h) fun u s1 hh => ?_)
  obtain ⟨x, H1, I1, rx, a, C, d, fs, v, ex, ea, ed, l, T, hno, q⟩ := hh
  subst ex
  obtain rfl : u = Value.ref a := rx
  obtain ⟨t1, e1⟩ := exo_at I1.hok ea
  obtain ⟨mA, hns, hr⟩ := exd_at I1.hok ed
  obtain ⟨od, ho, hl⟩ := lookIn_ns hns
  obtain ⟨u, hu, ru⟩ := RelO.some_of (v := v) (o := mA n) (by rw [← l]; exact hr n)
  have J : PySem.W.InstAt s1.heap a _ C (some od) := ⟨e1, rfl, rfl, ho⟩
  exact HandSPX.exc_get I1.kIn J T.ga T.gg T.exC (PySem.W.findObj_own T.hdC hno rfl (by rw [hl, hu])) (handed_of ru) ⟨v, H1, I1.tok _, ru, q⟩
end Ev
set_option maxHeartbeats 4000000
/-! try with several clauses «except X as n», the name the same in all of them. -/
namespace Ev
open PySem PySem.Spec PyProof.Rows L2
/-- behind a suite the name's slot (i) is empty -/
def offS (i : Nat) (D : Ends) : Ends := { nx := fun σ' H' => D.nx (σ'.set i none) H', rt := D.rt, bk := fun σ' H' => D.bk (σ'.set i none) H', ct := fun σ' H' => D.ct (σ'.set i none) H' }
def wManyAs (K : PySem.W.Frag) (i : Nat) (Wout : WX) (D : Ends) : List (Value × (Addr → Value → Option Addr → TS)) → WX
  | [] => Wout
  | (c, ts) :: r => fun cls d σ H => ∃ b, PySem.W.exmOne K cls c = some b ∧ (b = true → ∀ a, H a = none → ts a cls d (offS i D) (σ.set i (some (.ref a))) H) ∧ (b = false → wManyAs K i Wout D r cls d σ H)
inductive HdsAs (X : Cx) (n : Str) : List ExceptHandler → List (Value × (Addr → Value → Option Addr → TS)) → Prop
  | nil : HdsAs X n [] []
  | cons {x : Str} {c : Value} {ts : Addr → Value → Option Addr → TS} {b₀ : Stmt} {suite : List Stmt} {np pos' : Pos} {hds : List ExceptHandler} {l : List (Value × (Addr → Value → Option Addr → TS))} (hc : Names X x c)
      (hsu : ∀ (a : Addr) (oe : Obj) (cls : Value) (d : Option Addr) (pn : List (Addr × Obj)), Zc cls d oe → (∃ vs, oe.data = .fields vs) → PSs (X.suite a ((a, oe) :: pn)) (b₀ :: suite) (ts a cls d)) (r : HdsAs X n hds l) :
      HdsAs X n (.ExceptHandler (some (.Name x np)) (some n) (b₀ :: suite) pos' :: hds) ((c, ts) :: l)
section
variable {X : Cx} {body : List Stmt} {h₀ : ExceptHandler} {hds : List ExceptHandler} {l : List (Value × (Addr → Value → Option Addr → TS))} {pos : Pos} {tb : WX → TS} {Wout : WX} {n : Str} {i : Nat}
theorem ps_try_manyAs (hs : X.stack = X.env :: X.outer) (hf : X.env.frame = some X.env.locals) (hN : X.N.Nodup) (hi : X.N[i]? = some n) (hln : X.env.kindOf n = some .local) (tk : Takes X Wout)
    (hb : ∀ (W : WX) (pn : List (Addr × Obj)) (xe : Value → Shared → Prop), Takes (X.tr pn xe) W → PassesOwn (model X.prog X.w) X.A X.env xe → PSs (X.tr pn xe) body (tb W))
    (hh : HdsAs X n (h₀ :: hds) l) : PS X (.Try body (h₀ :: hds) [] [] pos) (fun D σ H => tb (wManyAs X.K i Wout D l) D σ H) := by
  refine ⟨fun pins s σ H D I h => ?_⟩
  have ok := I.ok
  have hfr : X.A.frames = some (X.env :: X.outer) := by rw [ok.frames, hs]
  have hloc : Loc X.env.scope n := .inl hln
  refine wpAny_Try_except (wpAny_mono ((hb (wManyAs X.K i Wout D l) (X.pn ++ pins) (fun e s₁ => wpAny (model X.prog X.w) X.A (noteFrame e X.env) (fun _ s₂ => wpAny (model X.prog X.w) X.A (setFlight e none) (fun _ s₃ =>
    wpAny (model X.prog X.w) X.A (handleBy e X.env (h₀ :: hds)) (SP X pins D) X.xe s₃) X.xe s₂) X.xe s₁) (fun u s' xx => ?_) PassesOwn.looking).run [] s σ H D (I.toTry _) h) (fun f s1 hsp => ?_) (fun e s1 he => he))
  · obtain ⟨a, B, sI, pins', σ', H', cls, d, rfl, J', nb, up, sky, na, os, ag, w⟩ := xx
    have J : L2.Inv X pins σ' H' sI := J'.ofTry ok
    have sky' : Sky B (X.env :: X.outer) a (Zc cls d) X.env.locals s'.heap := by rw [← hs]; exact sky
    refine Sky.land Zc.steady hfr hf sky' fun h3 fl3 up3 => ?_
    have J3 : L2.Inv X pins σ' H' { s' with heap := h3 } := J.landed nb fl3.1 (up.trans up3) os ag
    obtain ⟨oe3, vs3, he3, hz3, hd3⟩ := fl3.there
    have nfr : a ∉ frs (X.env :: X.outer) := fun hm => by
      obtain ⟨_, o', e', hnf⟩ := fl3.2.2.1.mem hm
      rw [he3] at e'; cases e'
      exact hnf _ hd3
    have nL : a ≠ X.env.locals := fun z => nfr (List.mem_filterMap.mpr ⟨X.env, List.mem_cons_self, by rw [hf, z]⟩)
    have nF : a ∉ X.fs := fun hm => by
      obtain ⟨e, he, q⟩ := List.mem_filterMap.mp hm
      exact nfr (List.mem_filterMap.mpr ⟨e, List.mem_cons_of_mem _ he, q⟩)
    have S3 := J3.suite he3 hd3 na nL nF
    have LT : PySem.W.Looks (model X.prog X.w) h3 (typeOf (.ref a)) cls := fun A Q E s k q => wpAny_typeOf_ref (k _ _ he3) (by rw [hz3.1]; exact q)
    have go : ∀ {hds' : List ExceptHandler} {l' : List (Value × (Addr → Value → Option Addr → TS))}, HdsAs X n hds' l' → wManyAs X.K i Wout D l' cls d σ' H' →
        wpAny (model X.prog X.w) X.A (handleBy (.ref a) X.env hds') (SP X pins D) X.xe { s' with heap := h3 } := by
      intro hds' l' hk
      induction hk with
      | nil =>
        intro w
        refine wpAny_handleBy_nil ?_
        obtain ⟨k1, k2, k3, oe, vs, T, oT, ts', he, hz, hd, h1, hr⟩ := id fl3
        unfold PySem.passOn
        refine wpAny_bind (wpAny_field he hd h1 ?_)
        rw [if_neg (show ¬ ((Value.ref T == Value.none) = true) from by simp)]
        have fin : wpAny (model X.prog X.w) X.A (setFlight (.ref a) X.env.frame) (fun _ s4 => wpAny (model X.prog X.w) X.A (throw (.ref a) : Sem Flow) (SP X pins D) X.xe s4) X.xe { s' with heap := h3 } := by
          rw [hf]
          refine HandSPX.setFlight_upZ fl3 fun h4 hh4 up4 => wpAny_throw (tk _ _ ?_)
          exact ⟨a, B, sI, pins, σ', H', cls, d, rfl, J, nb, (up.trans up3).trans up4, .inr (.inr (by rw [hs]; exact hh4)), na, os, ag, w⟩
        first
          | exact wpAny_bind (wpAny_pure (wpAny_bind fin))
          | exact wpAny_bind fin
      | @cons x c ts b₀ suite np pos' hds2 l2 hc hsu r ih =>
        intro w
        obtain ⟨b, hb1, hyes, hno⟩ := w
        refine wpAny_handleBy_cons (codeAny_handlers_test ?_) (by intro q; cases q)
        have LM := PySem.W.exm_one (M := model X.prog X.w) (J3.kIn) LT hb1
        have test : ∀ {Q : Value → Shared → Prop} {E : Value → Shared → Prop}, Q c { s' with heap := h3 } → wpAny (model X.prog X.w) (X.A.mark (some (.ref a))) (eval (.Name x np) X.env) Q E { s' with heap := h3 } := fun {Q E} q => by
          obtain ⟨hg, hdbg, hm | ⟨hm, hv, hnn⟩⟩ := hc
          · exact ld_glob (X := X.suite a ((a, oe3) :: (X.pn ++ pins))) S3 hg hm q hdbg
          · exact ld_blt (X := X.suite a ((a, oe3) :: (X.pn ++ pins))) S3 hg hm hv q hnn hdbg
        refine test (LM.here ?_)
        cases b with
        | true =>
          refine codeAny_handlers_suite_as (HandSPX.lands_againZ fl3 fun h4 fl4 up4 => ?_)
          have J4 : L2.Inv X pins σ' H' { s' with heap := h4 } := J.landed nb fl4.1 ((up.trans up3).trans up4) os ag
          obtain ⟨oe4, vs4, he4, hz4, hd4⟩ := fl4.there
          refine store_ok (X := X.suite a ((a, oe4) :: (X.pn ++ pins))) (v := .ref a) (J4.suite he4 hd4 na nL nF) hN hi hloc rfl (fun s5 S5 => ?_) (.inr hln)
          refine wpAny_mono ((hsu a oe4 cls d (X.pn ++ pins) hz4 ⟨_, hd4⟩).run [] s5 _ H' _ S5 (hyes rfl a na)) (fun f s6 hsp => ?_) (fun _ _ z => False.elim z)
          cases f with
          | next =>
            obtain ⟨σ6, H6, S6, q6⟩ := hsp
            exact gone_ok (S6.unsuite ok) hN hi hln fun s7 J7 => ⟨_, _, J7, q6⟩
          | brk =>
            obtain ⟨σ6, H6, S6, q6⟩ := hsp
            exact gone_ok (S6.unsuite ok) hN hi hln fun s7 J7 => ⟨_, _, J7, q6⟩
          | cont =>
            obtain ⟨σ6, H6, S6, q6⟩ := hsp
            exact gone_ok (S6.unsuite ok) hN hi hln fun s7 J7 => ⟨_, _, J7, q6⟩
          | ret u =>
            obtain ⟨v6, σ6, H6, S6, r6, q6⟩ := hsp
            exact gone_ok (S6.unsuite ok) hN hi hln fun s7 J7 => ⟨_, _, _, J7, r6, q6⟩
        | false => exact ih (hno rfl)
    exact go hh w
  · cases f with
    | next =>
      obtain ⟨σ', H', J', q⟩ := hsp
      exact wpAny_execs_nil ⟨σ', H', J'.ofTry ok, q⟩
    | brk =>
      obtain ⟨σ', H', J', q⟩ := hsp
      exact ⟨σ', H', J'.ofTry ok, q⟩
    | cont =>
      obtain ⟨σ', H', J', q⟩ := hsp
      exact ⟨σ', H', J'.ofTry ok, q⟩
    | ret u =>
      obtain ⟨v, σ', H', J', r, q⟩ := hsp
      exact ⟨v, σ', H', J'.ofTry ok, r, q⟩
end
end Ev
set_option maxHeartbeats 8000000
namespace LawK
open PySem PySem.Spec PyProof.Rows L2 Ev
abbrev veT : List Value := [.type "ValueError", .type "Exception", .type "BaseException", .type "object"]
/-- an own error class at C, over the one at PE -/
structure ErC (K : PySem.W.Frag) (PE C : Addr) : Prop where
  oex : OexC K C
  isx : ExcC K C
  xf : XfC K C
  mro : ∃ cd, PySem.W.clsIn K C = some cd ∧ cd.mro = .ref C :: .ref PE :: veT
  isT : PySem.W.typeIn K (.ref C) = some (.type "type")
section
variable {K : PySem.W.Frag} {PE C D : Addr}
theorem ErC.sub (T : ErC K PE C) (b : Value) : PySem.W.subIn K (.ref C) b = some ((Value.ref C :: .ref PE :: veT).contains b) := by
  obtain ⟨cd, h1, h2⟩ := T.mro
  show (PySem.W.clsIn K C).bind _ = _
  rw [h1, Option.bind_some, h2]
  rfl
theorem kit_at (TD : ErC K PE D) (T : ErC K PE C) (n : D ≠ PE) : PySem.W.kitOne K (.ref C) (.ref D) = some (decide (C = D)) := by
  unfold PySem.W.kitOne
  by_cases e : C = D
  · subst e
    rw [if_pos (by simp), decide_eq_true rfl]
  · rw [if_neg (by simpa using e), decide_eq_false e]
    obtain ⟨cd, h1, h2⟩ := TD.mro
    show (if ((PySem.W.clsIn K D).isSome && PySem.W.typeIn K (.ref D) == some (.type "type")) = true then PySem.W.subIn K (.ref C) (.ref D) else none) = some false
    rw [if_pos (by rw [h1, TD.isT]; rfl), T.sub]
    have e2 : D ≠ C := fun z => e z.symm
    simp [veT, e2, n]
end
/-- an error class without a field -/
structure Cls0 (P : Program) (K : PySem.W.Frag) (mg : Str → Option Value) (PE : Addr) (x : Str) (C : Addr) : Prop where
  er : ErC K PE C
  ne : C ≠ PE
  sup : ∃ fI, SupC P K mg C fI
  g : mg x = some (.ref C)
/-- an error class with the field f -/
structure Cls1 (K : PySem.W.Frag) (mg : Str → Option Value) (PE : Addr) (x f : Str) (C : Addr) : Prop where
  er : ErC K PE C
  ne : C ≠ PE
  g : mg x = some (.ref C)
  ini : ∃ (fI : Addr) (fd : FuncData) (st : Stmt) (qual : Str), Fun K "__init__" qual st fI fd ∧ Ini1 st f ∧ Binds K fd ["self", f] [] ∧ PySem.W.findIn K (.ref C) "__init__" = some (some (.ref fI)) ∧ PySem.W.typeIn K (.ref fI) = some (.type "function")
  hno : PySem.W.findIn K (.ref C) f = some none
section
variable {X : Cx} {x f : Str} {PE C : Addr} {p pos : Pos} {e : Expr} {ta : TA} {k : Nat}
theorem pe_c0 (T : Cls0 X.prog X.K X.mg PE x C) (hr : Room k X.A) (hg : Gl X x := by rfl) (hdb : (x == ("__debug__" : Str)) = false := by decide) : L2.PE X (.Call (.Name x p) [] [] pos) (tExc0 C) := by
  obtain ⟨fI, S⟩ := T.sup
  exact pe_exc0 S hr hg T.g hdb
theorem pe_c1 (T : Cls1 X.K X.mg PE x f C) (hr : Room (k + 2) X.A) (ha : PA X [e] ta) (hg : Gl X x := by rfl) (hdb : (x == ("__debug__" : Str)) = false := by decide) (he : starEach (e :: []) X.env = (false, eval e X.env) :: starEach [] X.env := by rfl)
    (hpl : (backTo pos (starEach [] X.env)).any (·.1) = false := by rfl) : L2.PE X (.Call (.Name x p) [e] [] pos) (tExc1 C f ta) := by
  obtain ⟨fI, fd, st, qual, F1, S1, b1, iC, tI⟩ := T.ini
  exact pe_exc1 T.er.oex iC tI (ok_ini1 F1 S1 T.er.oex T.hno) hr b1 hg T.g ha hdb he hpl
def tMk1 (C : Addr) (f : Str) (ta : TA) : L2.St → Hp → XK → Prop := fun σ H Q => ta σ H fun vs H1 => ∃ v, vs = [v] ∧ ∀ d, H1 d = none → Q (.ref C) (some d) (upd H1 d (.xd [(f, v)]))
theorem del_upd {H : Hp} {a d : Addr} {o1 o2 o3 u : HO} (ha : H a = none) (hd : d ≠ a) : upd (del (upd (upd (upd H a o1) d o2) a o3) a) d u = upd H d u := by
  funext b
  by_cases e : b = d
  · rw [e, upd_same, upd_same]
  · rw [upd_ne e, upd_ne e]
    by_cases e2 : b = a
    · rw [e2, del_same, ha]
    · rw [del_ne e2, upd_ne e2, upd_ne e, upd_ne e2]
theorem pmk_c1 (T : Cls1 X.K X.mg PE x f C) (hr : Room (k + 2) X.A) (ha : PA X [e] ta) (hg : Gl X x := by rfl) (hdb : (x == ("__debug__" : Str)) = false := by decide) (he : starEach (e :: []) X.env = (false, eval e X.env) :: starEach [] X.env := by rfl)
    (hpl : (backTo pos (starEach [] X.env)).any (·.1) = false := by rfl) (hm : ∀ {σ : L2.St} {H : Hp} {Q1 Q2 : List V → Hp → Prop}, (∀ vs H1, Q1 vs H1 → Q2 vs H1) → ta σ H Q1 → ta σ H Q2) : PMk X (.Call (.Name x p) [e] [] pos) (tMk1 C f ta) := by
  obtain ⟨fI, fd, st, qual, F1, S1, b1, iC, tI⟩ := T.ini
  intro pins s σ H Q I h
  refine pmk_oex (CX := CX0) (k := 1) (sp := spIni1 C f) (ds := []) (dvs := []) T.er.oex iC tI (ok_ini1 F1 S1 T.er.oex T.hno) (hr.mono (by omega)) b1 .nil (fun _ _ _ _ _ _ _ z => z.elim) hg T.g ha hdb he hpl pins s σ H Q I (hm (fun vs H1 q => ?_) h)
  obtain ⟨v, rfl, q⟩ := q
  refine ⟨by show 1 ≤ 1000; decide, fun a na => ⟨a, v, rfl, upd_same, fun dx n ne => ⟨rfl, dx, _, upd_same, by rw [upd_ne ne, upd_same], ?_, ?_⟩⟩⟩
  · rw [upd_ne ne] at n
    exact n
  · rw [del_upd na ne]
    rw [upd_ne ne] at n
    exact q dx n
end
structure BaseX (K : PySem.W.Frag) (PE : Addr) : Prop where
  sub : PySem.W.subIn K (.ref PE) (.type "BaseException") = some true
  hd : PySem.W.hasDictIn K PE = true
  isT : PySem.W.typeIn K (.ref PE) = some (.type "type")
section
variable {K : PySem.W.Frag} {PE : Addr}
theorem exm_at {C D : Addr} (TD : ErC K PE D) (T : ErC K PE C) (n : D ≠ PE) : PySem.W.exmOne K (.ref C) (.ref D) = some (decide (C = D)) := by
  refine PySem.W.exm_ref TD.isx.hs TD.isx.hd TD.isT ?_
  rw [T.sub]
  by_cases e : C = D
  · subst e
    simp
  · have e2 : D ≠ C := fun z => e z.symm
    rw [decide_eq_false e]
    simp [veT, e2, n]
theorem exm_base {C : Addr} (B : BaseX K PE) (T : ErC K PE C) : PySem.W.exmOne K (.ref C) (.ref PE) = some true := by
  refine PySem.W.exm_ref B.sub B.hd B.isT ?_
  rw [T.sub]
  simp [veT]
theorem tCons1 {i j : Nat} {σ : L2.St} {H : Hp} {Q1 Q2 : List V → Hp → Prop} (h : ∀ vs H1, Q1 vs H1 → Q2 vs H1) : tCons (tVar i) tNil σ H Q1 → tCons (tVar i) tNil σ H Q2 := fun ⟨v, e, q⟩ => ⟨v, e, h _ _ q⟩
end
def chkE (K : PySem.W.Frag) (C : Addr) : Bool := xfB K C && (decide (PySem.W.typeIn K (.ref C) = some (.type "type")) && (PySem.W.keepIn K (.ref C) && (decide (PySem.W.findIn K (.ref C) "__class__" = some (some (.builtin "object.__class__"))) && decide (PySem.W.mroIn K C (.type "object") = some true))))
def chkC (K : PySem.W.Frag) (PE C : Addr) : Bool := chkE K C && (decide (PySem.W.findIn K (.ref C) "__setattr__" = some (some (.builtin "object.__setattr__"))) && decide (C ≠ PE))
structure Sh (K : PySem.W.Frag) : Prop where
  hn : PySem.W.specialIn K (.builtin "object.__class__") "__get__" = some (some (.builtin "getset_descriptor.__get__"))
  ht : PySem.W.takesIn K (.builtin "object.__class__") = some true
structure Sh0 (P : Program) (K : PySem.W.Frag) (mg : Str → Option Value) : Prop extends Sh K where
  gs : mg "super" = none
  top : (P.main.scope.names.lookup ("super" : Str)).isSome = false
  third : PySem.W.nsIn K cStatics "thirdparty.any" = some none
structure CkE (K : PySem.W.Frag) (C : Addr) : Prop where
  xf : XfC K C
  isT : PySem.W.typeIn K (.ref C) = some (.type "type")
  kp : PySem.W.keepIn K (.ref C) = true
  ha : PySem.W.findIn K (.ref C) "__class__" = some (some (.builtin "object.__class__"))
  hm : PySem.W.mroIn K C (.type "object") = some true
theorem chkE_ok {K : PySem.W.Frag} {C : Addr} (h : chkE K C = true) : CkE K C := by
  obtain ⟨h1, h⟩ := Bool.and_eq_true_iff.mp h
  obtain ⟨h2, h⟩ := Bool.and_eq_true_iff.mp h
  obtain ⟨h3, h⟩ := Bool.and_eq_true_iff.mp h
  obtain ⟨h4, h5⟩ := Bool.and_eq_true_iff.mp h
  exact ⟨xfB_ok h1, of_decide_eq_true h2, h3, of_decide_eq_true h4, of_decide_eq_true h5⟩
theorem CkE.isx {K : PySem.W.Frag} {C : Addr} (T : CkE K C) (S : Sh K) : ExcC K C := ⟨T.xf.ga, T.xf.gg, T.xf.exC, T.xf.hdC, T.ha, S.hn, S.ht, T.hm⟩
section
variable {P : Program} {w : World} {K : PySem.W.Frag} {mg : Str → Option Value} {h : Heap} {PE C fI : Addr} {x f qual : Str} {nm q : Str} {N : Addr} {bs : List Value} {sn : List Str} {sub : List Value} {ab : Bool} {col : Option Bool} {dd : Option Addr} {k0 k1 k2 k3 k5 : Option Value}
theorem mro_of {bm : List Value} {id : String} (lC : K.lookup C = some (excClassObj nm q C N bs bm true sn sub ab col dd k0 k1 k2 k3 k5 id)) : ∃ cd, PySem.W.clsIn K C = some cd ∧ cd.mro = .ref C :: bm := by
  have e : PySem.W.clsIn K C = some { name := nm, bases := bs, mro := .ref C :: bm, ns := N, qualname := q, hasDict := true, slotNames := sn, subclasses := sub, abstract := ab, collection := col, hasDel := false } := by
    unfold PySem.W.clsIn
    rw [lC]
  exact ⟨_, e, rfl⟩
theorem er_mk (S : Sh K) (lC : K.lookup C = some (excClassObj nm q C N bs (.ref PE :: veT) true sn sub ab col dd k0 k1 k2 k3 k5 "ValueError.__new__")) (ck : chkC K PE C = true) : ErC K PE C ∧ C ≠ PE := by
  obtain ⟨c1, c2⟩ := Bool.and_eq_true_iff.mp ck
  obtain ⟨c2, c3⟩ := Bool.and_eq_true_iff.mp c2
  have T := chkE_ok c1
  exact ⟨⟨⟨⟨nm, q, N, bs, _, sn, sub, ab, col, dd, k0, k1, k2, k3, k5, lC, (show PySem.HandSPX.refsVE veT = true by decide +kernel)⟩, of_decide_eq_true c2, T.xf.exC, T.isT, T.kp⟩, T.isx S, T.xf, mro_of lC, T.isT⟩, of_decide_eq_true c3⟩
theorem say {K : PySem.W.Frag} {h : Heap} (X : K.In h) (T : PySem.W.Frag → Prop) {g : Prop} (a : T K) (k : T K → g) : g := k a
def chk1 (K : PySem.W.Frag) (PE C fI : Addr) (f : Str) (cd : Value) (qual : Str) : Bool := chkC K PE C && (decide (PySem.W.typeIn K (.ref fI) = some (.type "function")) && (PySem.W.codeIn K cd qual && (PySem.W.keepIn K (.ref fI) && decide (PySem.W.findIn K (.ref C) f = some none))))
theorem cls1_mk {st : Stmt} {oc kV dc pm cd ct : Value} {od an : Option Addr} {sl : Array (Option Value)} (X : K.In h) (G : h.Ns mainGlobals mg) (S : Sh K)
    (i1 : Ini1 st f) (hb : ∀ (kV doc pm : Value) (an : Option Addr) (cdv ct : Value) (us : List Value), us.length = 2 → bindArgs (PySem.W.fnOf "__init__" qual (defArgs st) (defBody st) (defScope st) .none kV doc pm an cdv ct) ⟨us, []⟩ = pure ((["self", f] : List Str).zip us))
    (aC : PySem.W.nsIn K mainGlobals x = some (some (.ref C))) (lC : K.lookup C = some (excClassObj nm q C N bs (.ref PE :: veT) true sn sub ab col dd k0 k1 k2 k3 k5 "ValueError.__new__"))
    (iC : PySem.W.findIn K (.ref C) "__init__" = some (some (.ref fI))) (lI : K.lookup fI = some ⟨oc, od, .func (PySem.W.fnOf "__init__" qual (defArgs st) (defBody st) (defScope st) .none kV dc pm an cd ct), sl⟩)
    (ck : chk1 K PE C fI f cd qual = true) : Cls1 K mg PE x f C := by
  obtain ⟨c1, c2⟩ := Bool.and_eq_true_iff.mp ck
  obtain ⟨c2, c3⟩ := Bool.and_eq_true_iff.mp c2
  obtain ⟨c3, c4⟩ := Bool.and_eq_true_iff.mp c3
  obtain ⟨c4, c5⟩ := Bool.and_eq_true_iff.mp c4
  obtain ⟨e, n⟩ := er_mk S lC c1
  have F1 := fun_mk (st := st) lI c3 c4
  exact ⟨e, n, PySem.W.mg_of X G aC, ⟨fI, _, st, qual, F1, i1, F1.binds (ps := ["self", f]) hb, iC, of_decide_eq_true c2⟩, of_decide_eq_true c5⟩
def chk0 (K : PySem.W.Frag) (PE C fI : Addr) (cd : Value) (qual : Str) : Bool := chkC K PE C && (decide (PySem.W.typeIn K (.ref fI) = some (.type "function")) && (PySem.W.codeIn K cd qual && (decide (PySem.W.ks_superIn K C C "__init__" = some (some (.builtin "ValueError.__init__"))) && (decide (PySem.W.subIn K (.ref C) (.type "ValueError") = some true) && decide (PySem.W.mroIn K C (.ref C) = some true)))))
theorem cls0_mk {oc kV dc pm ct : Value} {od an : Option Addr} {cda cc : Addr} {osl : Array (Option Value)} {p p0 p1 p2 p3 p4 : Pos} {ccl : Value} {cdd : Option Addr} {vs : Array Value} {ccs : Array (Option Value)} {file : Str} {tf : Tok} {cl : Value} {cld : Option Addr} {csl : Array (Option Value)}
    (X : K.In h) (G : h.Ns mainGlobals mg) (S : Sh0 P K mg)
    (aC : PySem.W.nsIn K mainGlobals x = some (some (.ref C))) (lC : K.lookup C = some (excClassObj nm q C N bs (.ref PE :: veT) true sn sub ab col dd k0 k1 k2 k3 k5 "ValueError.__new__"))
    (iC : PySem.W.findIn K (.ref C) "__init__" = some (some (.ref fI)))
    (lI : K.lookup fI = some ⟨oc, od, .func (PySem.W.ksFn "__init__" qual (supArgs p) (supBody p0 p1 p2 p3 p4) supScope .none kV dc pm an (.ref cda) ct cc), osl⟩)
    (lD : K.lookup cda = some ⟨ccl, cdd, .fields vs, ccs⟩) (lc : K.lookup cc = some ⟨cl, cld, .cell (some (.ref C)), csl⟩)
    (v2 : vs[2]? = some (.str file tf)) (vf : ((P.main.file : Str) == file) = true) (pl : (p2.endLine == p3.line) = true)
    (ck : chk0 K PE C fI (.ref cda) qual = true) : Cls0 P K mg PE x C := by
  obtain ⟨c1, c2⟩ := Bool.and_eq_true_iff.mp ck
  obtain ⟨c2, c3⟩ := Bool.and_eq_true_iff.mp c2
  obtain ⟨c3, c4⟩ := Bool.and_eq_true_iff.mp c3
  obtain ⟨c4, c5⟩ := Bool.and_eq_true_iff.mp c4
  obtain ⟨c5, c6⟩ := Bool.and_eq_true_iff.mp c5
  obtain ⟨e, n⟩ := er_mk S.toSh lC c1
  exact ⟨e, n, ⟨fI, e.oex, iC, of_decide_eq_true c2, ⟨oc, od, qual, kV, dc, pm, ct, an, cda, cc, osl, p, p0, p1, p2, p3, p4, ccl, cdd, vs, ccs, file, tf, cl, cld, csl, lI, c3, lD, v2, vf, lc, pl⟩, S.gs, S.top, S.third, of_decide_eq_true c4, of_decide_eq_true c5, of_decide_eq_true c6⟩, PySem.W.mg_of X G aC⟩
theorem sh0_mk (X : K.In h) (G : h.Ns mainGlobals mg) (hn : PySem.W.specialIn K (.builtin "object.__class__") "__get__" = some (some (.builtin "getset_descriptor.__get__"))) (ht : PySem.W.takesIn K (.builtin "object.__class__") = some true)
    (gs : PySem.W.nsIn K mainGlobals "super" = some none) (top : (P.main.scope.names.lookup ("super" : Str)).isSome = false) (third : PySem.W.nsIn K cStatics "thirdparty.any" = some none) : Sh0 P K mg := ⟨⟨hn, ht⟩, PySem.W.mg_none_of X G gs, top, third⟩
end
end LawK
set_option maxHeartbeats 4000000
namespace LawK
open PySem PySem.Spec PyProof.Rows L2 Ev

theorem dec_int {a b : Int} : decide (V.int a = V.int b) = decide (a = b) := by
  by_cases h : a = b
  · rw [h, decide_eq_true rfl, decide_eq_true rfl]
  · rw [decide_eq_false h, decide_eq_false (fun e => h (V.int.inj e))]
theorem dec_str {a b : Str} : decide (V.str a = V.str b) = decide (a = b) := by
  by_cases h : a = b
  · rw [h, decide_eq_true rfl, decide_eq_true rfl]
  · rw [decide_eq_false h, decide_eq_false (fun e => h (V.str.inj e))]
/-- what is never reached -/
theorem ps_dead {X : Cx} {st : Stmt} : PS X st (fun _ _ _ => False) := ⟨fun pins s σ H D I q => q.elim⟩
/-- the class of libraries, as it stands at C -/
structure LibC (K : PySem.W.Frag) (mg : Str → Option Value) (C fI : Addr) (fdI : FuncData) : Prop where
  mak : Mk K C fI
  cl : Cls K C
  nt : NoAttr K C "texts"
  FI : Fun K "__init__" "Library.__init__" (inClass (topS 12) 0) fI fdI
  bI : Binds K fdI ["self", "texts"] []
  g : mg "Library" = some (.ref C)
/-- a library of these texts, at s -/
structure LibAt (H : Hp) (C s : Addr) (ts : List Str) : Prop where
  ex : ∃ dx a, H s = some (.ins C dx [("texts", .ref a)]) ∧ H a = some (.tup (ts.map V.str))
  few : ts.length ≤ 8
  sg : ∀ t ∈ ts, sgB t = true
  len : ∀ t ∈ ts, t.length ≤ 200
theorem LibAt.same {H H' : Hp} {C s : Addr} {ts : List Str} (k : Same H H') (h : LibAt H C s ts) : LibAt H' C s ts := by
  obtain ⟨⟨dx, a, h1, h2⟩, h3, h4, h5⟩ := h
  exact ⟨⟨dx, a, k _ _ h1, k _ _ h2⟩, h3, h4, h5⟩
theorem lk1 {a : V} : ([("texts", a)] : List (Str × V)).lookup ("texts" : Str) = some a := by simp [List.lookup]
/-- a text by its number -/
abbrev tx (ts : List Str) (i : Nat) : Str := ts.getD i Str.empty
abbrev Pl := Nat × Nat
structure InT (ts : List Str) (p : Pl) : Prop where
  text : p.1 < ts.length
  at_ : p.2 < (tx ts p.1).length
/-- a pair of numbers -/
def PAt (H : Hp) (v : V) (p : Pl) : Prop := ∃ b, v = .ref b ∧ H b = some (.tup [.int (p.1 : Nat), .int (p.2 : Nat)])
theorem PAt.same {H H' : Hp} {v : V} {p : Pl} (k : Same H H') (h : PAt H v p) : PAt H' v p := let ⟨b, e, q⟩ := h; ⟨b, e, k _ _ q⟩
def spLInit (C : Addr) : Sp := fun vs H Q E => ∃ (s dx a : Addr) (ts : List Str), vs = [.ref s, .ref a] ∧ H s = some (.ins C dx []) ∧ H a = some (.tup (ts.map V.str)) ∧ ts.length ≤ 8 ∧ (∀ t ∈ ts, sgB t = true) ∧ (∀ t ∈ ts, t.length ≤ 200) ∧
  ∀ H', H' s = some (.ins C dx [("texts", .ref a)]) → (∀ b u, b ≠ s → H b = some u → H' b = some u) → Q .non H'
def spPPlace (C : Addr) : Sp := fun vs H Q _ => ∃ (s : Addr) (ts : List Str) (v : V) (p : Pl), vs = [.ref s, v] ∧ LibAt H C s ts ∧ PAt H v p ∧ InT ts p ∧ Q (.bl true) H
theorem sum_le {ts : List Str} (h : ∀ t ∈ ts, t.length ≤ 200) : (ts.map fun t => (t.length : Int)).sum ≤ 200 * (ts.length : Int) := by
  induction ts with
  | nil => exact Int.le_refl _
  | cons t ts ih =>
    have a := ih fun u hu => h u (List.mem_cons_of_mem _ hu)
    have b := h t List.mem_cons_self
    simp only [List.map_cons, List.sum_cons, List.length_cons]
    omega
theorem tx_mem {ts : List Str} {i : Nat} (h : i < ts.length) : tx ts i ∈ ts := by
  unfold tx
  rw [List.getD_eq_getElem?_getD, List.getElem?_eq_getElem h]
  exact List.getElem_mem h
theorem tx_at {ts : List Str} {i : Nat} (h : i < ts.length) : (ts.map V.str)[i]? = some (.str (tx ts i)) := by
  unfold tx
  rw [List.getElem?_map, List.getD_eq_getElem?_getD, List.getElem?_eq_getElem h]
  rfl
section
variable {P : Program} {w : World} {K : PySem.W.Frag} {mg : Str → Option Value} {base : Heap}
variable {C fI : Addr} {fdI : FuncData}
abbrev sPSigns : Stmt := topS 7
theorem scPSigns : FnScope ["thing"] ["thing"] (defScope sPSigns) := ⟨rfl, rfl, rfl, by decide +kernel, rfl, by decide +kernel, by decide +kernel⟩
theorem ok_PSigns {f : Addr} {fd : FuncData} (F : Fun K "is_signs" "is_signs" sPSigns f fd)  (T : Glob mg) : FnOk P w K mg base CX0 1 f fd ["thing"] spSg := by
  refine F.ok scPSigns (fun vs H Q E h => ?_) (fun cdv A outer s H vs Q E hr h => ?_)
  · obtain ⟨x, k, rfl, _⟩ := h
    rfl
  · refine ⟨_, (pss_one (ps_ret (pe_and (pe_callB call_isi (by rfl) T.isinstance PyProof.Rows.boot_isinstance (pa_cons (pv 0) (pa_cons (pe_bltn (v := .ty "str") (by rfl) T.str (by decide +kernel) rfl) pa_nil))) (pe_and (pe_bm0 PySem.F.plainAttrs_str PySem.F.slot_str_isascii PySem.F.type_str_isascii mt_isascii (pv 0)) (pe_one (pe_bm0 PySem.F.plainAttrs_str PySem.F.slot_str_isprintable PySem.F.type_str_isprintable mt_isprintable (pv 0))))))), ?_⟩
    obtain ⟨x, k, rfl, hk, hz, q⟩ := h
    refine ⟨x, rfl, x, .ty "str", .type (Kn.name k), .type "str", kitB k .str, rfl, .ty _, Kd.tyx hk, kit_kn k .str, _, rfl, ?_⟩
    cases hk with
    | str z =>
      refine iteT ⟨.str z, rfl, rfl, z, rfl, rfl, trivial, _, rfl, ite2 (fun e => ⟨.str z, rfl, rfl, z, rfl, rfl, trivial, ?_⟩) (fun e => ?_)⟩
      · have q' : Q (.bl (sgB z)) H := q
        rw [← sgB_of, e, Bool.true_and] at q'
        exact q'
      · have e' : Txt.isascii z = false := by simpa using e
        have q' : Q (.bl (sgB z)) H := q
        rw [← sgB_of, e', Bool.false_and] at q'
        exact q'
    | non => exact iteF q
    | bl b => exact iteF q
    | int i => exact iteF q
    | lst e => exact iteF q
    | tup e => exact iteF q
    | dic e => exact iteF q
abbrev sPNumber : Stmt := topS 6
theorem scPNumber : FnScope ["thing"] ["thing"] (defScope sPNumber) := ⟨rfl, rfl, rfl, by decide +kernel, rfl, by decide +kernel, by decide +kernel⟩
theorem ok_PNumber {f : Addr} {fd : FuncData} (F : Fun K "is_number" "is_number" sPNumber f fd)   (T : Glob mg) : FnOk P w K mg base CX0 1 f fd ["thing"] spNum := by
  refine F.ok scPNumber (fun vs H Q E h => ?_) (fun cdv A outer s H vs Q E hr h => ?_)
  · obtain ⟨x, k, rfl, _⟩ := h
    rfl
  · refine ⟨_, (pss_one (ps_ret (pe_and (pe_callB call_isi (by rfl) T.isinstance PyProof.Rows.boot_isinstance (pa_cons (pv 0) (pa_cons (pe_bltn (v := .ty "int") (by rfl) T.int (by decide +kernel) rfl) pa_nil))) (pe_and (pe_not (pe_callB call_isi (by rfl) T.isinstance PyProof.Rows.boot_isinstance (pa_cons (pv 0) (pa_cons (pe_bltn (v := .ty "bool") (by rfl) T.bool (by decide +kernel) rfl) pa_nil)))) (pe_one (pe_cmpR op_ge (pv 0) pe_int (nomark _))))))), ?_⟩
    obtain ⟨x, k, rfl, hk, q⟩ := h
    refine ⟨x, rfl, x, .ty "int", .type (Kn.name k), .type "int", kitB k .int, rfl, .ty _, Kd.tyx hk, kit_kn k .int, _, rfl, ?_⟩
    cases hk with
    | int i => exact iteT ⟨.int i, rfl, .int i, .ty "bool", .type (Kn.name .int), .type "bool", kitB .int .bl, rfl, .ty _, Kd.tyx (.int i), kit_kn .int .bl, _, rfl, _, rfl, iteT ⟨.int i, rfl, _, _, rfl, rfl, q⟩⟩
    | bl b => exact iteT ⟨.bl b, rfl, .bl b, .ty "bool", .type (Kn.name .bl), .type "bool", kitB .bl .bl, rfl, .ty _, Kd.tyx (.bl b), kit_kn .bl .bl, _, rfl, _, rfl, iteF q⟩
    | str z => exact iteF q
    | non => exact iteF q
    | lst e => exact iteF q
    | tup e => exact iteF q
    | dic e => exact iteF q
abbrev sPWord : Stmt := topS 8
theorem scPWord : FnScope ["thing"] ["thing"] (defScope sPWord) := ⟨rfl, rfl, rfl, by decide +kernel, rfl, by decide +kernel, by decide +kernel⟩
theorem ok_PWord {f : Addr} {fd : FuncData} (F : Fun K "is_word" "is_word" sPWord f fd)  {fPSigns : Addr} {fdPSigns : FuncData} (DPSigns : Dk P w K mg base "is_signs" sPSigns ["thing"] 1 spSg fPSigns fdPSigns) (T : Glob mg) : FnOk P w K mg base CX0 2 f fd ["thing"] spWd := by
  refine F.ok scPWord (fun vs H Q E h => ?_) (fun cdv A outer s H vs Q E hr h => ?_)
  · obtain ⟨x, k, rfl, _⟩ := h
    rfl
  · refine ⟨_, (pss_one (ps_ret (pe_and (pe_call DPSigns.ok (hr.mono (by decide)) (by rfl) DPSigns.g DPSigns.F.kp DPSigns.b .nil pass0 (pa_cons (pv 0) pa_nil)) (pe_one (pe_cmpR op_gt (pe_callB call_lenZ (by rfl) T.len PySem.boot_len (pa_cons (pv 0) pa_nil)) pe_int (nomark _)))))), ?_⟩
    obtain ⟨x, k, rfl, hk, hz, q⟩ := h
    refine ⟨x, rfl, x, k, rfl, hk, hz, _, rfl, ite2 (fun e => ?_) (fun e => ?_)⟩
    · cases hk with
      | str z =>
        refine ⟨.str z, rfl, z, rfl, len5 (hz z rfl), _, _, rfl, rfl, ?_⟩
        have e' : sgB z = true := e
        have q' : Q (.bl (sgB z && decide ((0 : Int) < (z.length : Int)))) H := q
        rw [e', Bool.true_and] at q'
        exact q'
      | non => exact Bool.noConfusion e
      | bl b => exact Bool.noConfusion e
      | int i => exact Bool.noConfusion e
      | lst e2 => exact Bool.noConfusion e
      | tup e2 => exact Bool.noConfusion e
      | dic e2 => exact Bool.noConfusion e
    · have e' : sgV x = false := by simpa using e
      cases hk with
      | str z =>
        have e2 : sgB z = false := e'
        have q' : Q (.bl (sgB z && decide ((0 : Int) < (z.length : Int)))) H := q
        rw [e2, Bool.false_and] at q'
        exact q'
      | non => exact q
      | bl b => exact q
      | int i => exact q
      | lst e2 => exact q
      | tup e2 => exact q
      | dic e2 => exact q
abbrev sPPlace : Stmt := topS 13
theorem scPPlace : FnScope ["library", "thing", "text", "at"] ["library", "thing"] (defScope sPPlace) := ⟨rfl, rfl, rfl, by decide +kernel, rfl, by decide +kernel, by decide +kernel⟩
theorem ok_PPlace {f : Addr} {fd : FuncData} (F : Fun K "is_place" "is_place" sPPlace f fd) (L : LibC K mg C fI fdI) {fPNumber : Addr} {fdPNumber : FuncData} (DPNumber : Dk P w K mg base "is_number" sPNumber ["thing"] 1 spNum fPNumber fdPNumber) (T : Glob mg) : FnOk P w K mg base CX0 2 f fd ["library", "thing"] (spPPlace C) := by
  refine F.ok scPPlace (fun vs H Q E h => ?_) (fun cdv A outer s H vs Q E hr h => ?_)
  · obtain ⟨s, ts, v, p, rfl, _⟩ := h
    rfl
  · refine ⟨_, (pss_cons (ps_if (PW.pt (pw_or (pt_not (pt_val (pe_callB call_isi (by rfl) T.isinstance PyProof.Rows.boot_isinstance (pa_cons (pv 1) (pa_cons (pe_bltn (v := .ty "tuple") (by rfl) T.tuple (by decide +kernel) rfl) pa_nil))))) (pw_or1 (pt_cmpR op_ne (pe_callB call_len_seq (by rfl) T.len PySem.boot_len (pa_cons (pv 1) pa_nil)) pe_int (nomark _)))))
      (pss_one (ps_ret pe_bl))
      pss_nil)
      (pss_cons (ps_asg (pv 1) (pg_tup (by rfl) (pgs_cons (pg_name (i := 2) scPPlace.nd rfl (.inl rfl)) (pgs_cons (pg_name (i := 3) scPPlace.nd rfl (.inl rfl)) pgs_nil))))
      (pss_cons (ps_if (PW.pt (pw_or (pt_not (pt_val (pe_call DPNumber.ok (hr.mono (by decide)) (by rfl) DPNumber.g DPNumber.F.kp DPNumber.b .nil pass0 (pa_cons (pv 2) pa_nil)))) (pw_or1 (pt_not (pt_val (pe_call DPNumber.ok (hr.mono (by decide)) (by rfl) DPNumber.g DPNumber.F.kp DPNumber.b .nil pass0 (pa_cons (pv 3) pa_nil)))))))
      (pss_one (ps_ret pe_bl))
      pss_nil)
      (pss_one (ps_ret (pe_and (pe_cmpR op_lt (pv 2) (pe_callB call_len_seq (by rfl) T.len PySem.boot_len (pa_cons (pe_fld (pv 0) rfl) pa_nil)) (nomark _)) (pe_one (pe_cmpR op_lt (pv 3) (pe_callB call_lenZ (by rfl) T.len PySem.boot_len (pa_cons (pe_ix ix_tup (pe_fld (pv 0) rfl) (pv 2) (fun _ _ => rfl)) pa_nil)) (nomark _))))))))), ?_⟩
    obtain ⟨s, ts, v, p, rfl, hl, hp, hi, q⟩ := h
    obtain ⟨⟨dx, a, h1, h2⟩, few, sg1, len1⟩ := hl
    obtain ⟨b, rfl, e⟩ := hp
    obtain ⟨i1, i2⟩ := hi
    refine ⟨.ref b, rfl, .ref b, .ty "tuple", .type (Kn.name .tup), .type "tuple", kitB .tup .tup, rfl, .ty _, Kd.tyx (.tup e), kit_kn .tup .tup, _, rfl, iteF ?_⟩
    refine ⟨.ref b, rfl, b, _, rfl, .inr (SqT.of e), rfl, _, rfl, iteF ?_⟩
    refine ⟨.ref b, rfl, b, _, rfl, SqT.of e, rfl, _, _, rfl, _, _, rfl, rfl, ?_⟩
    have n1 : (!(numV (.int (p.1 : Nat)))) = false := by
      show (!decide (0 ≤ ((p.1 : Nat) : Int))) = false
      rw [decide_eq_true (Int.natCast_nonneg _)]
      rfl
    have n2 : (!(numV (.int (p.2 : Nat)))) = false := by
      show (!decide (0 ≤ ((p.2 : Nat) : Int))) = false
      rw [decide_eq_true (Int.natCast_nonneg _)]
      rfl
    refine ⟨_, rfl, _, .int, rfl, .int _, _, rfl, ite2 (fun c => Bool.noConfusion (c.symm.trans n1)) (fun _ => ?_)⟩
    refine ⟨_, rfl, _, .int, rfl, .int _, _, rfl, ite2 (fun c => Bool.noConfusion (c.symm.trans n2)) (fun _ => ?_)⟩
    have lm : (ts.map V.str).length = ts.length := List.length_map ..
    refine ⟨_, rfl, .ref s, rfl, s, C, dx, _, .ref a, rfl, h1, L.cl, L.nt, lk1, a, _, rfl, .inr (SqT.of h2), _, _, rfl, rfl, _, rfl, ite2 (fun _ => ?_) (fun c => absurd (decide_eq_true (show ((p.1 : Nat) : Int) < (((ts.map V.str).length : Nat) : Int) by omega)) c)⟩
    refine ⟨_, rfl, .ref s, rfl, s, C, dx, _, .ref a, rfl, h1, L.cl, L.nt, lk1, _, rfl, a, _, _, _, rfl, rfl, SqT.of h2, atI_nat (tx_at i1), _, rfl, len5 (Nat.le_trans (len1 _ (tx_mem i1)) (by decide)), _, _, rfl, rfl, ?_⟩
    dsimp only
    rw [decide_eq_true (show ((p.2 : Nat) : Int) < (((tx ts p.1).length : Nat) : Int) by omega)]
    exact q
abbrev sLInit : Stmt := inClass (topS 12) 0
theorem scLInit : FnScope ["self", "texts", "part", "text"] ["self", "texts"] (defScope sLInit) := ⟨rfl, rfl, rfl, by decide +kernel, rfl, by decide +kernel, by decide +kernel⟩
theorem ok_LInit (L : LibC K mg C fI fdI) {t8 t2000 : Tok} (g8 : mg "MOST_TEXTS" = some (.int 8 t8)) (g2000 : mg "MOST_SIGNS" = some (.int 2000 t2000))
    {fPSigns : Addr} {fdPSigns : FuncData} (DPSigns : Dk P w K mg base "is_signs" sPSigns ["thing"] 1 spSg fPSigns fdPSigns) (T : Glob mg) : FnOk P w K mg base (L2.CX P w) 4 fI fdI ["self", "texts"] (spLInit C) := by
  refine L.FI.okX scLInit (fun vs H Q E h => ?_) (fun cdv A outer s H vs Q E hr h => ?_)
  · obtain ⟨s, dx, a, ts, rfl, _⟩ := h
    rfl
  · obtain ⟨p, dx, a, ts, rfl, hp, ha, few, sg, lens, q⟩ := h
    refine ⟨_, (pss_cons (ps_if (PW.pt (pw_or (pt_not (pt_val (pe_callB call_isi (by rfl) T.isinstance PyProof.Rows.boot_isinstance (pa_cons (pv 1) (pa_cons (pe_bltn (v := .ty "tuple") (by rfl) T.tuple (by decide +kernel) rfl) pa_nil))))) (pw_or1 (pt_cmpR op_gt (pe_callB call_len_seq (by rfl) T.len PySem.boot_len (pa_cons (pv 1) pa_nil)) (pe_glob (v := .int 8) (by rfl) g8 ⟨_, rfl⟩) (nomark _))))) (pss_one ps_dead) pss_nil)
      (pss_cons (ps_for (passes_of rfl) rfl (pi_enumT (by rfl) T.enumerate (pa_cons (pv 1) pa_nil)) (pg_tup (by rfl) (pgs_cons (pg_name (i := 2) scLInit.nd rfl (.inl rfl)) (pgs_cons (pg_name (i := 3) scLInit.nd rfl (.inl rfl)) pgs_nil)))
        (pss_one (ps_if (pt_not (pt_val (pe_call DPSigns.ok (hr.mono (by decide)) (by rfl) DPSigns.g DPSigns.F.kp DPSigns.b .nil pass0 (pa_cons (pv 3) pa_nil)))) (pss_one ps_dead) pss_nil)))
      (pss_cons (ps_if (pt_cmpR op_gt (pe_callB (cr_sum rfl) (by rfl) T.sum (by decide +kernel) (pa_cons (pe_lc (own := [("text", 3)]) (g := gName 3) (by rfl) scLInit.nd (pi_tup (pv 1)) (blkOk_by (N := ["self", "texts", "part", "text"]) (sc := defScope sLInit) (by decide +kernel)) (fun _ _ _ _ _ => pg_name (i := 3) scLInit.nd rfl (.inl rfl)) (fun _ _ _ _ _ => pts_nil) (fun _ _ _ _ _ => (pe_callB call_lenZ (by rfl) T.len PySem.boot_len (pa_cons (pv 3) pa_nil)))) pa_nil)) (pe_glob (v := .int 2000) (by rfl) g2000 ⟨_, rfl⟩) (nomark _)) (pss_one ps_dead) pss_nil)
      (pss_one (ps_fld (pv 0) (pv 1) rfl))))), ?_⟩
    have lm : (ts.map V.str).length = ts.length := List.length_map ..
    refine ⟨.ref a, rfl, .ref a, .ty "tuple", .type (Kn.name .tup), .type "tuple", kitB .tup .tup, rfl, .ty _, Kd.tyx (.tup ha), kit_kn .tup .tup, _, rfl, iteF ?_⟩
    refine ⟨.ref a, rfl, a, _, rfl, .inr (SqT.of ha), _, _, rfl, rfl, _, rfl, ?_⟩
    rw [decide_eq_false (show ¬ (8 : Int) < (((ts.map V.str).length : Nat) : Int) by omega)]
    refine iteF ?_
    refine ⟨.ref a, rfl, a, _, rfl, SqT.of ha, for_enT (fun i σ H' => (∃ y z, σ = [some (.ref p), some (.ref a), y, z]) ∧ Same H H') ⟨⟨_, _, rfl⟩, Same.refl H⟩ (fun i σ H' q => SqT.of (q.2 _ _ ha)) ?_ ?_⟩
    · rintro i c σ H' hxi ⟨⟨y, z, rfl⟩, kH⟩ t nt
      obtain ⟨u, hu, rfl⟩ := List.mem_map.mp (List.mem_of_getElem? hxi)
      have k2 := kH.trans (Same.new (o := .tup [.int (i : Nat), .str u]) nt)
      refine ⟨t, [.int (i : Nat), .str u], rfl, SqT.of upd_same, rfl, .int (i : Nat), [.str u], rfl, .str u, [], rfl, rfl, ?_⟩
      refine ⟨.str u, rfl, .str u, .str, rfl, .str u, (fun w e => by cases e; exact Nat.le_trans (lens _ hu) (by decide)), _, rfl, ?_⟩
      rw [show sgV (.str u) = true from sg u hu]
      exact iteF ⟨⟨_, _, rfl⟩, k2⟩
    · rintro σ H' ⟨⟨y, z, rfl⟩, kH⟩
      refine ⟨.ref a, rfl, a, rfl, ⟨_, SqT.of (kH _ _ ha)⟩, fun D nD => lc_lens (i := 3) (show 3 < 4 by decide) (kH _ _ ha) nD (fun t ht => Nat.le_trans (lens t ht) (by decide)) (by omega) fun H2 hD hs => ?_⟩
      refine ⟨D, _, rfl, sq_of hD, _, _, rfl, rfl, _, rfl, ?_⟩
      have := sum_le lens
      rw [decide_eq_false (show ¬ (2000 : Int) < (ts.map fun t => (t.length : Int)).sum by omega)]
      refine iteF ?_
      have k2 := kH.trans hs
      refine ⟨.ref a, rfl, .ref p, rfl, p, C, dx, [], rfl, k2 _ _ hp, L.cl, L.nt, by decide, ?_⟩
      refine q _ upd_same fun b u nb hb => ?_
      rw [upd_ne nb]
      exact k2 _ _ hb
end
end LawK
set_option maxHeartbeats 4000000
namespace LawK
open PySem PySem.Spec PyProof.Rows L2 Ev

def spAnySign : Sp := fun vs H Q _ => ∃ (p : Addr), vs = [.ref p] ∧ ∃ l, HandL H p l ∧ ∀ c H', sgC c = true → HandL H' p l → But p H H' → Q (.str (SX.S [c])) H'
def spSign : Sp := fun vs H Q _ => ∃ (p : Addr) (k : Int), vs = [.ref p, .int k] ∧ 0 ≤ k ∧ k < 5 ∧ ∃ l, HandL H p l ∧ ∀ c H', sgC c = true → HandL H' p l → But p H H' → Q (.str (SX.S [c])) H'
def spLText : Sp := fun vs H Q _ => ∃ (p : Addr) (m : Int), vs = [.ref p, .int m] ∧ 0 ≤ m ∧ m ≤ 200 ∧ ∃ l, HandL H p l ∧ ∀ y H', sgB y = true → (y.length : Int) ≤ m → HandL H' p l → But p H H' → Q (.str y) H'
def spLWord : Sp := fun vs H Q _ => ∃ (p : Addr) (m : Int), vs = [.ref p, .int m] ∧ 1 ≤ m ∧ m ≤ 200 ∧ ∃ l, HandL H p l ∧ ∀ y H', sgB y = true → (y.length : Int) ≤ m → 1 ≤ y.length → HandL H' p l → But p H H' → Q (.str y) H'
def spLTexts : Sp := fun vs H Q _ => ∃ (p : Addr) (m : Int), vs = [.ref p, .int m] ∧ 0 ≤ m ∧ m ≤ 200 ∧ ∃ l, HandL H p l ∧
  ∀ a (ts : List Str) H', H' a = some (.tup (ts.map V.str)) → ts.length ≤ 8 → (∀ t ∈ ts, sgB t = true) → (∀ t ∈ ts, (t.length : Int) ≤ m) → HandL H' p l → But p H H' → Q (.ref a) H'
theorem len_S1 (cs : List Nat) : (SX.S cs).length = cs.length := rfl
theorem sum_one (cs : List Nat) : ((cs.map fun c => SX.S [c]).map (·.length)).sum ≤ cs.length := by
  induction cs with
  | nil => exact Nat.le_refl _
  | cons c cs ih =>
    simp only [List.map_cons, List.sum_cons, List.length_cons]
    have : (SX.S [c]).length = 1 := rfl
    omega
section
variable {P : Program} {w : World} {K : PySem.W.Frag} {mg : Str → Option Value} {base : Heap}
abbrev sAnySign : Stmt := topS 30
theorem scAnySign : FnScope ["hand", "signs"] ["hand"] (defScope sAnySign) := ⟨rfl, rfl, rfl, by decide +kernel, rfl, by decide +kernel, by decide +kernel⟩
theorem ok_AnySign {f : Addr} {fd : FuncData} (F : Fun K "_law_any_sign" "_law_any_sign" sAnySign f fd)  {fDraw : Addr} {fdDraw : FuncData} (DDraw : Dk P w K mg base "_law_draw" sDraw ["hand", "many"] 1 spDraw fDraw fdDraw) (T : Glob mg) : FnOk P w K mg base CX0 2 f fd ["hand"] spAnySign := by
  refine F.ok scAnySign (fun vs H Q E h => ?_) (fun cdv A outer s H vs Q E hr h => ?_)
  · obtain ⟨p, rfl, _⟩ := h
    rfl
  · refine ⟨_, (pss_cons (ps_set (i := 1) scAnySign.nd rfl (.inl rfl) pe_str)
      (pss_cons (ps_set (i := 1) scAnySign.nd rfl (.inl rfl) (pe_op op_add_str (pv 1) pe_str))
      (pss_one (ps_ret (pe_ix ix_str (pv 1) (pe_call DDraw.ok (hr.mono (by decide)) (by rfl) DDraw.g DDraw.F.kp DDraw.b .nil pass0 (pa_cons (pv 0) (pa_cons (pe_callB call_lenZ (by rfl) T.len PySem.boot_len (pa_cons (pv 1) pa_nil)) pa_nil))) (fun _ _ => rfl)))))), ?_⟩
    obtain ⟨p, rfl, lh, hH, q⟩ := h
    refine ⟨_, rfl, _, _, rfl, rfl, by decide +kernel, ?_⟩
    dsimp only
    refine ⟨_, rfl, .ref p, rfl, _, rfl, _, rfl, by decide +kernel, p, _, rfl, by decide +kernel, by decide +kernel, lh, hH, fun v H1 v0 v1 h2 b2 => ?_⟩
    obtain ⟨c, ec, hc⟩ := sg_at (by decide +kernel) v0 v1
    exact ⟨_, v, c, rfl, rfl, by decide +kernel, ec, q c H1 hc h2 b2⟩
abbrev sSign : Stmt := topS 31
theorem scSign : FnScope ["hand", "kind", "some"] ["hand", "kind"] (defScope sSign) := ⟨rfl, rfl, rfl, by decide +kernel, rfl, by decide +kernel, by decide +kernel⟩
theorem ok_Sign {f : Addr} {fd : FuncData} (F : Fun K "_law_sign" "_law_sign" sSign f fd)  {fDraw : Addr} {fdDraw : FuncData} (DDraw : Dk P w K mg base "_law_draw" sDraw ["hand", "many"] 1 spDraw fDraw fdDraw) {fAnySign : Addr} {fdAnySign : FuncData} (DAnySign : Dk P w K mg base "_law_any_sign" sAnySign ["hand"] 2 spAnySign fAnySign fdAnySign) (T : Glob mg) : FnOk P w K mg base CX0 3 f fd ["hand", "kind"] spSign := by
  refine F.ok scSign (fun vs H Q E h => ?_) (fun cdv A outer s H vs Q E hr h => ?_)
  · obtain ⟨p, k, rfl, _⟩ := h
    rfl
  · refine ⟨_, (pss_cons (ps_if (pt_cmpR op_eq (pv 1) pe_int (nomark _))
      (pss_one (ps_ret (pe_call DAnySign.ok (hr.mono (by decide)) (by rfl) DAnySign.g DAnySign.F.kp DAnySign.b .nil pass0 (pa_cons (pv 0) pa_nil))))
      pss_nil)
      (pss_cons (ps_set (i := 2) scSign.nd rfl (.inl rfl) (pe_ix ix_list (pe_lst (pa_cons pe_str (pa_cons pe_str (pa_cons pe_str (pa_cons pe_str pa_nil))))) (pv 1) (fun _ _ => rfl)))
      (pss_one (ps_ret (pe_ix ix_str (pv 2) (pe_call DDraw.ok (hr.mono (by decide)) (by rfl) DDraw.g DDraw.F.kp DDraw.b .nil pass0 (pa_cons (pv 0) (pa_cons (pe_callB call_lenZ (by rfl) T.len PySem.boot_len (pa_cons (pv 2) pa_nil)) pa_nil))) (fun _ _ => rfl)))))), ?_⟩
    obtain ⟨p, k, rfl, k0, k4, lh, hH, q⟩ := h
    refine ⟨.int k, rfl, rfl, _, rfl, ite2 (fun e => ?_) (fun e => ?_)⟩
    · exact ⟨.ref p, rfl, p, rfl, lh, hH, q⟩
    · rw [dec_int] at e
      have k3 : k < 4 := by
        have : ¬ k = 4 := fun z => e (decide_eq_true z)
        omega
      dsimp only [tNext, tDrop]
      refine ⟨by show 4 ≤ sizeLine; decide, fun a na => ?_⟩
      have h1 := hH.same (Same.new (o := .lst [.str "ab", .str "abc", .str "a", .str "ab~ "]) na)
      have b1 := But.same (p := p) (Same.new (H := H) (o := .lst [.str "ab", .str "abc", .str "a", .str "ab~ "]) na)
      have hA : upd H a (.lst [.str "ab", .str "abc", .str "a", .str "ab~ "]) a = some (.lst [.str "ab", .str "abc", .str "a", .str "ab~ "]) := upd_same
      revert h1 b1 hA
      generalize upd H a (.lst [.str "ab", .str "abc", .str "a", .str "ab~ "]) = H1
      intro h1 b1 hA
      have e4 : k = 0 ∨ k = 1 ∨ k = 2 ∨ k = 3 := by omega
      obtain ⟨z, w, e2⟩ : ∃ z : Str, (sgB z = true ∧ 0 < z.length ∧ z.length ≤ 100) ∧ atI [V.str "ab", .str "abc", .str "a", .str "ab~ "] k = some (.str z) := by
        rcases e4 with rfl | rfl | rfl | rfl
        · exact ⟨"ab", ⟨by decide +kernel, by decide +kernel, by decide +kernel⟩, rfl⟩
        · exact ⟨"abc", ⟨by decide +kernel, by decide +kernel, by decide +kernel⟩, rfl⟩
        · exact ⟨"a", ⟨by decide +kernel, by decide +kernel, by decide +kernel⟩, rfl⟩
        · exact ⟨"ab~ ", ⟨by decide +kernel, by decide +kernel, by decide +kernel⟩, rfl⟩
      refine ⟨_, rfl, a, _, k, .str z, rfl, rfl, sq_of hA, e2, .str z, rfl, .ref p, rfl, .str z, rfl, z, rfl, len6 w.2.2, p, (z.length : Int), rfl, by omega, by omega, lh, h1, fun v H2 v0 v1 h2 b2 => ?_⟩
      obtain ⟨c, ec, hc⟩ := sg_at w.1 v0 v1
      exact ⟨z, v, c, rfl, rfl, len6 w.2.2, ec, q c H2 hc h2 (b1.trans b2)⟩
abbrev sText : Stmt := topS 32
theorem scText : FnScope ["hand", "most", "kind", "way", "many", "one", "other", "turn"] ["hand", "most"] (defScope sText) := ⟨rfl, rfl, rfl, by decide +kernel, rfl, by decide +kernel, by decide +kernel⟩
theorem ok_Text {f : Addr} {fd : FuncData} (F : Fun K "_law_text" "_law_text" sText f fd)  {fDraw : Addr} {fdDraw : FuncData} (DDraw : Dk P w K mg base "_law_draw" sDraw ["hand", "many"] 1 spDraw fDraw fdDraw) {fSign : Addr} {fdSign : FuncData} (DSign : Dk P w K mg base "_law_sign" sSign ["hand", "kind"] 3 spSign fSign fdSign) (T : Glob mg) : FnOk P w K mg base CX0 4 f fd ["hand", "most"] spLText := by
  refine F.ok scText (fun vs H Q E h => ?_) (fun cdv A outer s H vs Q E hr h => ?_)
  · obtain ⟨p, m, rfl, _⟩ := h
    rfl
  · refine ⟨_, (pss_cons (ps_set (i := 2) scText.nd rfl (.inr rfl) (pe_call DDraw.ok (hr.mono (by decide)) (by rfl) DDraw.g DDraw.F.kp DDraw.b .nil pass0 (pa_cons (pv 0) (pa_cons pe_int pa_nil))))
      (pss_cons (ps_set (i := 3) scText.nd rfl (.inl rfl) (pe_call DDraw.ok (hr.mono (by decide)) (by rfl) DDraw.g DDraw.F.kp DDraw.b .nil pass0 (pa_cons (pv 0) (pa_cons pe_int pa_nil))))
      (pss_cons (ps_set (i := 4) scText.nd rfl (.inl rfl) (pe_call DDraw.ok (hr.mono (by decide)) (by rfl) DDraw.g DDraw.F.kp DDraw.b .nil pass0 (pa_cons (pv 0) (pa_cons (pe_op op_add (pv 1) pe_int) pa_nil))))
      (pss_cons (ps_if (pt_cmpR op_gt (pv 3) pe_int (nomark _))
      (pss_one (ps_ret (pe_join pe_str (pe_lc (own := [("turn", 7)]) (g := gName 7) (by rfl) scText.nd (pi_range1 (by rfl) T.range (pa_cons (pv 4) pa_nil)) (blkOk_by (N := ["hand", "most", "kind", "way", "many", "one", "other", "turn"]) (sc := defScope sText) (by decide +kernel)) (fun _ _ _ _ _ => pg_name (i := 7) scText.nd rfl (.inl rfl)) (fun _ _ _ _ _ => pts_nil) (fun _ _ _ _ _ => (pe_call DSign.ok (hr.mono (by decide)) (by rfl) DSign.g DSign.F.kp DSign.b .nil pass0 (pa_cons (pv 0) (pa_cons (pv 2) pa_nil))))))))
      pss_nil)
      (pss_cons (ps_set (i := 5) scText.nd rfl (.inl rfl) (pe_join pe_str (pe_lc (own := [("turn", 7)]) (g := gName 7) (by rfl) scText.nd (pi_range1 (by rfl) T.range (pa_cons (pe_op op_add pe_int (pe_call DDraw.ok (hr.mono (by decide)) (by rfl) DDraw.g DDraw.F.kp DDraw.b .nil pass0 (pa_cons (pv 0) (pa_cons pe_int pa_nil)))) pa_nil)) (blkOk_by (N := ["hand", "most", "kind", "way", "many", "one", "other", "turn"]) (sc := defScope sText) (by decide +kernel)) (fun _ _ _ _ _ => pg_name (i := 7) scText.nd rfl (.inl rfl)) (fun _ _ _ _ _ => pts_nil) (fun _ _ _ _ _ => (pe_call DSign.ok (hr.mono (by decide)) (by rfl) DSign.g DSign.F.kp DSign.b .nil pass0 (pa_cons (pv 0) (pa_cons (pv 2) pa_nil)))))))
      (pss_cons (ps_if (pt_cmpR op_eq (pv 3) pe_int (nomark _))
      (pss_one (ps_ret (pe_slice sl_str (pe_op op_mulS (pv 5) (pv 4)) po_none (po_some (pv 4)))))
      pss_nil)
      (pss_cons (ps_set (i := 6) scText.nd rfl (.inl rfl) (pe_call DSign.ok (hr.mono (by decide)) (by rfl) DSign.g DSign.F.kp DSign.b .nil pass0 (pa_cons (pv 0) (pa_cons (pv 2) pa_nil))))
      (pss_cons (ps_for PassesOwn.never rfl (pi_range1 (by rfl) T.range (pa_cons pe_int pa_nil)) (pg_name (i := 7) scText.nd rfl (.inl rfl))
      (pss_cons (ps_if (pt_cmpR op_ge (pe_callB call_lenZ (by rfl) T.len PySem.boot_len (pa_cons (pv 5) pa_nil)) (pv 4) (nomark _))
        (pss_one ps_break)
        pss_nil)
        (pss_one (ps_par (i := 5) (j := 6) (by rfl) scText.nd rfl rfl (by decide) rfl rfl (pa_cons (pe_op op_add_str (pv 5) (pv 6)) (pa_cons (pv 5) pa_nil)) (by rfl)))))
      (pss_one (ps_ret (pe_slice sl_str (pv 5) po_none (po_some (pv 4))))))))))))), ?_⟩
    obtain ⟨p, m, rfl, m0, m1, lh, hH, q⟩ := h
    refine ⟨.ref p, rfl, p, 5, rfl, by decide, by decide, lh, hH, fun kk H1 k0 k4 h1 b1 => ?_⟩
    refine ⟨.ref p, rfl, p, 4, rfl, by decide, by decide, lh, h1, fun wy H2 w0 w4 h2 b2 => ?_⟩
    refine ⟨.ref p, rfl, _, rfl, _, _, rfl, rfl, p, m + 1, rfl, by omega, by omega, lh, h2, fun n H3 n0 n1 h3 b3 => ?_⟩
    have b13 := (b1.trans b2).trans b3
    refine ⟨_, rfl, _, _, rfl, rfl, _, rfl, ite2 (fun e => ?_) (fun e => ?_)⟩
    · refine ⟨⟨_, rfl⟩, _, rfl, n, rfl, by omega, by omega, fun D nD => lc_range (fun i H' => ∃ cs : List Nat, H' D = some (.lst (cs.map fun c => V.str (SX.S [c]))) ∧ cs.length = i ∧ (∀ c ∈ cs, sgC c = true) ∧ Hn p lh H3 H') ⟨[], upd_same, rfl, fun c hc => absurd hc (by simp), (Hn.refl h3).new nD⟩ ?_ ?_⟩
      · rintro i H' hi ⟨cs, hD, hl, hs, hn⟩
        refine ⟨rfl, .ref p, rfl, .int kk, rfl, p, kk, rfl, k0, k4, lh, hn.at_, fun c H2 hc h2 b2 => ?_⟩
        have nDp := (h3.ne nD).1
        refine ⟨_, b2 _ _ nDp hD, ?_, cs ++ [c], ?_, ?_, ?_, (hn.go h2 b2).at h3 nD⟩
        · rw [List.length_map, hl, sizeLine_eq]
          omega
        · rw [upd_same, List.map_append]
          rfl
        · rw [List.length_append, hl]
          rfl
        · intro d hd
          rcases List.mem_append.mp hd with g | g
          · exact hs d g
          · rw [List.mem_singleton.mp g]
            exact hc
      · rintro H' ⟨cs, hD, hl, hs, hn⟩
        have e1 : (cs.map fun c => V.str (SX.S [c])) = (cs.map fun c => SX.S [c]).map V.str := by rw [List.map_map]; rfl
        have hln : (cs.length : Int) ≤ n := by omega
        have hsum := sum_one cs
        have sj : sgB (SX.S cs) = true := by rw [sgB_S]; exact List.all_eq_true.mpr hs
        have lj : (SX.S cs).length = cs.length := rfl
        refine ⟨_, D, cs.map (fun c => SX.S [c]), rfl, rfl, .inl (sq_of (e1 ▸ hD)), ?_, ?_⟩
        · rw [List.length_map]
          have : (Str.ofString "").length = 0 := by decide +kernel
          rw [this]
          omega
        · rw [join1]
          exact q _ H' sj (by omega) hn.at_ (b13.trans hn.but)
    · dsimp only [tNext, tDrop]
      refine ⟨⟨_, rfl⟩, .ref p, rfl, p, 4, rfl, by decide, by decide, lh, h3, fun u H4 u0 u1 h4 b4 => ?_⟩
      have b14 := b13.trans b4
      refine ⟨_, _, rfl, rfl, 1 + u, rfl, by omega, by omega, fun D nD => lc_range (fun i H' => ∃ cs : List Nat, H' D = some (.lst (cs.map fun c => V.str (SX.S [c]))) ∧ cs.length = i ∧ (∀ c ∈ cs, sgC c = true) ∧ Hn p lh H4 H') ⟨[], upd_same, rfl, fun c hc => absurd hc (by simp), (Hn.refl h4).new nD⟩ ?_ ?_⟩
      · rintro i H' hi ⟨cs, hD, hl, hs, hn⟩
        refine ⟨rfl, .ref p, rfl, .int kk, rfl, p, kk, rfl, k0, k4, lh, hn.at_, fun c H2 hc h2 b2 => ?_⟩
        have nDp := (h4.ne nD).1
        refine ⟨_, b2 _ _ nDp hD, ?_, cs ++ [c], ?_, ?_, ?_, (hn.go h2 b2).at h4 nD⟩
        · rw [List.length_map, hl, sizeLine_eq]
          omega
        · rw [upd_same, List.map_append]
          rfl
        · rw [List.length_append, hl]
          rfl
        · intro d hd
          rcases List.mem_append.mp hd with g | g
          · exact hs d g
          · rw [List.mem_singleton.mp g]
            exact hc
      · rintro H' ⟨cs, hD, hl, hs, hn⟩
        have e1 : (cs.map fun c => V.str (SX.S [c])) = (cs.map fun c => SX.S [c]).map V.str := by rw [List.map_map]; rfl
        have hln : (cs.length : Int) ≤ 4 := by omega
        have hsum := sum_one cs
        have sj : sgB (SX.S cs) = true := by rw [sgB_S]; exact List.all_eq_true.mpr hs
        have lj : (SX.S cs).length = cs.length := rfl
        refine ⟨_, D, cs.map (fun c => SX.S [c]), rfl, rfl, .inl (sq_of (e1 ▸ hD)), ?_, ?_⟩
        · rw [List.length_map]
          have : (Str.ofString "").length = 0 := by decide +kernel
          rw [this]
          omega
        · rw [join1]
          have h5 := hn.at_
          have b15 := b14.trans hn.but
          have l4 : (SX.S cs).length ≤ 4 := by omega
          clear hD hl hs hsum e1 hn lj
          revert sj l4 h5 b15
          generalize SX.S cs = one
          clear nD
          intro sj h5 b15 l4
          refine ⟨.int wy, rfl, rfl, _, rfl, ite2 (fun e => ?_) (fun e => ?_)⟩
          · obtain ⟨l2, s2⟩ := mul_facts one n
            have c1 := cut_hi (z := Txt.mul one n) (lo := none) (u := n) (by omega)
            have lm : (Txt.mul one n).length ≤ 5000 := by
              have : one.length * n.toNat ≤ 4 * 201 := Nat.mul_le_mul l4 (by omega)
              omega
            exact ⟨_, rfl, _, rfl, one, n, rfl, rfl, by omega, by omega, by omega, .int n, rfl, n, rfl, _, rfl, len5 lm, q _ _ (sgB_cut (s2 sj) _ _) (by omega) h5 b15⟩
          · dsimp only [tNext, tDrop]
            refine ⟨.ref p, rfl, .int kk, rfl, p, kk, rfl, k0, k4, lh, h5, fun c H6 hc h6 b6 => ?_⟩
            have so : sgB (SX.S [c]) = true := by rw [sgB_S]; exact List.all_eq_true.mpr fun d hd => by rw [List.mem_singleton.mp hd]; exact hc
            have b16 := b15.trans b6
            refine ⟨8, rfl, by decide, by decide, for_range (fun i σ H' => ∃ (x y : Str) (u : Option V), σ = [some (.ref p), some (.int m), some (.int kk), some (.int wy), some (.int n), some (.str x), some (.str y), u] ∧ sgB x = true ∧ sgB y = true ∧ x.length ≤ 4 * 2 ^ i ∧ y.length ≤ 4 * 2 ^ i ∧ H' = H6) ⟨_, _, _, rfl, sj, so, by simpa using l4, by show 1 ≤ 4 * 2 ^ 0; decide, rfl⟩ ?_ ?_⟩
            · rintro i σ H' hi ⟨x, y, u, rfl, sx, sy, lx, ly, rfl⟩
              have hi2 : i < 8 := by omega
              have p2 : 4 * 2 ^ i ≤ 512 := by
                have : 2 ^ i ≤ 2 ^ 7 := Nat.pow_le_pow_right (by decide) (by omega)
                omega
              have c1 := cut_hi (z := x) (lo := none) (u := n) (by omega)
              refine ⟨.str x, rfl, x, rfl, len5 (by omega), .int n, rfl, _, _, rfl, rfl, _, rfl, ite2 (fun e => ?_) (fun e => ?_)⟩
              · exact ⟨_, rfl, .int n, rfl, n, rfl, _, rfl, len5 (by omega), q _ _ (sgB_cut sx _ _) (by omega) h6 b16⟩
              · dsimp only [tNext, tDrop]
                refine ⟨.str x, rfl, .str y, rfl, x, y, rfl, rfl, by rw [sizeLine_eq]; omega, .str x, rfl, _, _, rfl, x ++ y, x, _, rfl, sgB_app sx sy, sx, by rw [app_len, Nat.pow_succ]; omega, by rw [Nat.pow_succ]; omega, rfl⟩
            · rintro σ H' ⟨x, y, u, rfl, sx, sy, lx, ly, rfl⟩
              have lx2 : x.length ≤ 1024 := lx
              have c1 := cut_hi (z := x) (lo := none) (u := n) (by omega)
              exact ⟨_, rfl, .int n, rfl, n, rfl, _, rfl, len5 (by omega), q _ _ (sgB_cut sx _ _) (by omega) h6 b16⟩
abbrev sTexts : Stmt := topS 33
theorem scTexts : FnScope ["hand", "most", "many", "found", "turn"] ["hand", "most"] (defScope sTexts) := ⟨rfl, rfl, rfl, by decide +kernel, rfl, by decide +kernel, by decide +kernel⟩
theorem ok_Texts {f : Addr} {fd : FuncData} (F : Fun K "_law_texts" "_law_texts" sTexts f fd)  {fDraw : Addr} {fdDraw : FuncData} (DDraw : Dk P w K mg base "_law_draw" sDraw ["hand", "many"] 1 spDraw fDraw fdDraw) {fText : Addr} {fdText : FuncData} (DText : Dk P w K mg base "_law_text" sText ["hand", "most"] 4 spLText fText fdText) (T : Glob mg) : FnOk P w K mg base CX0 5 f fd ["hand", "most"] spLTexts := by
  refine F.ok scTexts (fun vs H Q E h => ?_) (fun cdv A outer s H vs Q E hr h => ?_)
  · obtain ⟨p, m, rfl, _⟩ := h
    rfl
  · refine ⟨_, (pss_cons (ps_set (i := 2) scTexts.nd rfl (.inl rfl) (pe_ix ix_list (pe_lst (pa_cons pe_int (pa_cons pe_int (pa_cons pe_int (pa_cons pe_int (pa_cons pe_int (pa_cons pe_int (pa_cons pe_int (pa_cons pe_int pa_nil))))))))) (pe_call DDraw.ok (hr.mono (by decide)) (by rfl) DDraw.g DDraw.F.kp DDraw.b .nil pass0 (pa_cons (pv 0) (pa_cons pe_int pa_nil))) (fun _ _ => rfl)))
      (pss_cons (ps_set (i := 3) scTexts.nd rfl (.inl rfl) (pe_lst pa_nil))
      (pss_cons (ps_for PassesOwn.never rfl (pi_range1 (by rfl) T.range (pa_cons (pv 2) pa_nil)) (pg_name (i := 4) scTexts.nd rfl (.inl rfl))
      (pss_one (ps_if (PW.pt (pw_and (pt_cmpR op_gt (pv 4) pe_int (nomark _)) (pw_and1 (pt_cmpR op_eq (pe_call DDraw.ok (hr.mono (by decide)) (by rfl) DDraw.g DDraw.F.kp DDraw.b .nil pass0 (pa_cons (pv 0) (pa_cons pe_int pa_nil))) pe_int (nomark _)))))
        (pss_one (ps_expr (pe_bm PySem.F.plainAttrs_list PySem.F.slot_list_append PySem.F.type_list_append mt_append (pv 3) (pa_cons (pe_ix ix_list (pv 3) (pe_call DDraw.ok (hr.mono (by decide)) (by rfl) DDraw.g DDraw.F.kp DDraw.b .nil pass0 (pa_cons (pv 0) (pa_cons (pv 4) pa_nil))) (fun _ _ => rfl)) pa_nil))))
        (pss_one (ps_expr (pe_bm PySem.F.plainAttrs_list PySem.F.slot_list_append PySem.F.type_list_append mt_append (pv 3) (pa_cons (pe_call DText.ok (hr.mono (by decide)) (by rfl) DText.g DText.F.kp DText.b .nil pass0 (pa_cons (pv 0) (pa_cons (pv 1) pa_nil))) pa_nil)))))))
      (pss_one (ps_ret (pe_callTy call_tuple_of (by rfl) T.tuple (by decide +kernel) (pa_cons (pv 3) pa_nil))))))), ?_⟩
    obtain ⟨p, m, rfl, m0, m1, lh, hH, q⟩ := h
    refine ⟨by show 8 ≤ sizeLine; decide, fun o no => ?_⟩
    have h1 := hH.same (Same.new (o := .lst [.int 0, .int 1, .int 1, .int 1, .int 2, .int 2, .int 3, .int 8]) no)
    have b1 := But.same (p := p) (Same.new (H := H) (o := .lst [.int 0, .int 1, .int 1, .int 1, .int 2, .int 2, .int 3, .int 8]) no)
    have hO : upd H o (.lst [.int 0, .int 1, .int 1, .int 1, .int 2, .int 2, .int 3, .int 8]) o = some (.lst [.int 0, .int 1, .int 1, .int 1, .int 2, .int 2, .int 3, .int 8]) := upd_same
    have nop := (hH.ne no).1
    revert h1 b1 hO
    generalize upd H o (.lst [.int 0, .int 1, .int 1, .int 1, .int 2, .int 2, .int 3, .int 8]) = H1
    intro h1 b1 hO
    refine ⟨.ref p, rfl, p, 8, rfl, by decide, by decide, lh, h1, fun v H2 v0 v1 h2 b2 => ?_⟩
    obtain ⟨x, ex, hx⟩ := atI_in (xs := [V.int 0, .int 1, .int 1, .int 1, .int 2, .int 2, .int 3, .int 8]) v0 v1
    obtain ⟨n, rfl, hn8⟩ : ∃ n : Nat, x = .int (n : Int) ∧ n ≤ 8 := by
      simp only [List.mem_cons, List.not_mem_nil, or_false] at hx
      rcases hx with e | e | e | e | e | e | e | e
      · exact ⟨0, e, by decide⟩
      · exact ⟨1, e, by decide⟩
      · exact ⟨1, e, by decide⟩
      · exact ⟨1, e, by decide⟩
      · exact ⟨2, e, by decide⟩
      · exact ⟨2, e, by decide⟩
      · exact ⟨3, e, by decide⟩
      · exact ⟨8, e, by decide⟩
    refine ⟨o, _, v, _, rfl, rfl, sq_of (b2 _ _ nop hO), ex, ?_⟩
    refine ⟨by show 0 ≤ sizeLine; decide, fun f nf => ?_⟩
    have nfp := (h2.ne nf).1
    have b12 := b1.trans b2
    refine ⟨.int (n : Int), rfl, _, rfl, by omega, by omega, for_range (fun i σ H' => ∃ (x : Option V) (ts : List Str), σ = [some (.ref p), some (.int m), some (.int (n : Int)), some (.ref f), x] ∧ H' f = some (.lst (ts.map V.str)) ∧ ts.length = i ∧ (∀ t ∈ ts, sgB t = true ∧ (t.length : Int) ≤ m) ∧ Hn p lh H2 H') ⟨none, [], rfl, upd_same, rfl, fun t ht => absurd ht (by simp), (Hn.refl h2).new nf⟩ ?_ ?_⟩
    · rintro i σ H' hi ⟨x, ts, rfl, hf, hl, ht, hn⟩
      have hi2 : i < n := by omega
      have put : ∀ {H4 : Hp} {y : Str}, Hn p lh H2 H4 → H4 f = some (.lst (ts.map V.str)) → sgB y = true → (y.length : Int) ≤ m → Hn p lh H2 (upd H4 f (.lst (ts.map V.str ++ [V.str y]))) ∧ upd H4 f (.lst (ts.map V.str ++ [V.str y])) f = some (.lst ((ts ++ [y]).map V.str)) ∧ (ts ++ [y]).length = i + 1 ∧ ∀ t ∈ ts ++ [y], sgB t = true ∧ (t.length : Int) ≤ m := fun {H4 y} g1 g2 g3 g4 => by
        refine ⟨g1.at h2 nf, by rw [upd_same, List.map_append]; rfl, by rw [List.length_append, hl]; rfl, fun t hm => ?_⟩
        rcases List.mem_append.mp hm with e | e
        · exact ht t e
        · rw [List.mem_singleton.mp e]
          exact ⟨g3, g4⟩
      have lts : (ts.map V.str).length < sizeLine := by
        rw [List.length_map, hl, sizeLine_eq]
        omega
      refine (?_ : ∀ Q : Bool → Hp → Prop, (∀ b H3, Hn p lh H2 H3 → H3 f = some (.lst (ts.map V.str)) → (b = true → 0 < i) → Q b H3) → tAnd _ _ _ H' Q) _ ?_
      · intro Q0 kk
        refine ⟨_, rfl, _, _, rfl, rfl, _, rfl, ite2 (fun e => ?_) (fun e => kk _ _ hn hf (fun w => Bool.noConfusion w))⟩
        have i0 : 0 < (0 + (i : Int)) := of_decide_eq_true e
        exact ⟨.ref p, rfl, p, 5, rfl, by decide, by decide, lh, hn.at_, fun w H3 w0 w1 h3 b3 => ⟨rfl, _, rfl, kk _ _ (hn.go h3 b3) (b3 _ _ nfp hf) (fun _ => by omega)⟩⟩
      · intro b H3 hn3 hf3 hb
        cases b with
        | true =>
          have i0 := hb rfl
          refine iteT ⟨.ref f, rfl, .inl ⟨rfl, _, sq_of hf3⟩, .ref f, rfl, .ref p, rfl, _, rfl, p, (0 + (i : Int)), rfl, by omega, by omega, lh, hn3.at_, fun v H4 v0 v1 h4 b4 => ?_⟩
          have hf4 := b4 _ _ nfp hf3
          obtain ⟨x4, e4, hx4⟩ := atI_in (xs := ts.map V.str) v0 (by rw [List.length_map, hl]; omega)
          obtain ⟨t, htm, rfl⟩ := List.mem_map.mp hx4
          obtain ⟨g1, g2, g3, g4⟩ := put (y := t) (hn3.go h4 b4) hf4 (ht t htm).1 (ht t htm).2
          exact ⟨f, _, v, _, rfl, rfl, sq_of hf4, e4, f, _, _, rfl, rfl, hf4, lts, _, _, rfl, g2, g3, g4, g1⟩
        | false =>
          refine iteF ⟨.ref f, rfl, .inl ⟨rfl, _, sq_of hf3⟩, .ref p, rfl, .int m, rfl, p, m, rfl, m0, m1, lh, hn3.at_, fun u H5 su lu h5 b5 => ?_⟩
          have hf5 := b5 _ _ nfp hf3
          obtain ⟨g1, g2, g3, g4⟩ := put (y := u) (hn3.go h5 b5) hf5 su lu
          exact ⟨f, _, _, rfl, rfl, hf5, lts, _, _, rfl, g2, g3, g4, g1⟩
    · rintro σ H' ⟨x, ts, rfl, hf, hl, ht, hn⟩
      refine ⟨.ref f, rfl, f, _, rfl, .inl ⟨sq_of hf, fun a na => ?_⟩⟩
      exact q a ts _ upd_same (by omega) (fun t hm => (ht t hm).1) (fun t hm => (ht t hm).2) (hn.at_.same (Same.new na)) ((b12.trans hn.but).and (Same.new na))
abbrev sWord : Stmt := topS 34
theorem scWord : FnScope ["hand", "most", "kind", "turn"] ["hand", "most"] (defScope sWord) := ⟨rfl, rfl, rfl, by decide +kernel, rfl, by decide +kernel, by decide +kernel⟩
theorem ok_Word {f : Addr} {fd : FuncData} (F : Fun K "_law_word" "_law_word" sWord f fd)  {fDraw : Addr} {fdDraw : FuncData} (DDraw : Dk P w K mg base "_law_draw" sDraw ["hand", "many"] 1 spDraw fDraw fdDraw) {fSign : Addr} {fdSign : FuncData} (DSign : Dk P w K mg base "_law_sign" sSign ["hand", "kind"] 3 spSign fSign fdSign) (T : Glob mg) : FnOk P w K mg base CX0 4 f fd ["hand", "most"] spLWord := by
  refine F.ok scWord (fun vs H Q E h => ?_) (fun cdv A outer s H vs Q E hr h => ?_)
  · obtain ⟨p, m, rfl, _⟩ := h
    rfl
  · refine ⟨_, (pss_cons (ps_set (i := 2) scWord.nd rfl (.inr rfl) (pe_call DDraw.ok (hr.mono (by decide)) (by rfl) DDraw.g DDraw.F.kp DDraw.b .nil pass0 (pa_cons (pv 0) (pa_cons pe_int pa_nil))))
      (pss_one (ps_ret (pe_join pe_str (pe_lc (own := [("turn", 3)]) (g := gName 3) (by rfl) scWord.nd (pi_range1 (by rfl) T.range (pa_cons (pe_op op_add pe_int (pe_call DDraw.ok (hr.mono (by decide)) (by rfl) DDraw.g DDraw.F.kp DDraw.b .nil pass0 (pa_cons (pv 0) (pa_cons (pv 1) pa_nil)))) pa_nil)) (blkOk_by (N := ["hand", "most", "kind", "turn"]) (sc := defScope sWord) (by decide +kernel)) (fun _ _ _ _ _ => pg_name (i := 3) scWord.nd rfl (.inl rfl)) (fun _ _ _ _ _ => pts_nil) (fun _ _ _ _ _ => (pe_call DSign.ok (hr.mono (by decide)) (by rfl) DSign.g DSign.F.kp DSign.b .nil pass0 (pa_cons (pv 0) (pa_cons (pv 2) pa_nil))))))))), ?_⟩
    obtain ⟨p, m, rfl, m0, m1, lh, hH, q⟩ := h
    refine ⟨.ref p, rfl, p, 5, rfl, by decide, by decide, lh, hH, fun kk H1 k0 k4 h1 b1 => ?_⟩
    refine ⟨⟨_, rfl⟩, .ref p, rfl, .int m, rfl, p, m, rfl, by omega, by omega, lh, h1, fun u H4 u0 u1 h4 b4 => ?_⟩
    refine ⟨_, _, rfl, rfl, 1 + u, rfl, by omega, by omega, fun D nD => lc_range (fun i H' => ∃ cs : List Nat, H' D = some (.lst (cs.map fun c => V.str (SX.S [c]))) ∧ cs.length = i ∧ (∀ c ∈ cs, sgC c = true) ∧ Hn p lh H4 H') ⟨[], upd_same, rfl, fun c hc => absurd hc (by simp), (Hn.refl h4).new nD⟩ ?_ ?_⟩
    · rintro i H' hi ⟨cs, hD, hl, hs, hn⟩
      refine ⟨rfl, .ref p, rfl, .int kk, rfl, p, kk, rfl, k0, k4, lh, hn.at_, fun c H2 hc h2 b2 => ?_⟩
      have nDp := (h4.ne nD).1
      refine ⟨_, b2 _ _ nDp hD, ?_, cs ++ [c], ?_, ?_, ?_, (hn.go h2 b2).at h4 nD⟩
      · rw [List.length_map, hl, sizeLine_eq]
        omega
      · rw [upd_same, List.map_append]
        rfl
      · rw [List.length_append, hl]
        rfl
      · intro d hd
        rcases List.mem_append.mp hd with g | g
        · exact hs d g
        · rw [List.mem_singleton.mp g]
          exact hc
    · rintro H' ⟨cs, hD, hl, hs, hn⟩
      have e1 : (cs.map fun c => V.str (SX.S [c])) = (cs.map fun c => SX.S [c]).map V.str := by rw [List.map_map]; rfl
      have hln : (cs.length : Int) ≤ m := by omega
      have hsum := sum_one cs
      have sj : sgB (SX.S cs) = true := by rw [sgB_S]; exact List.all_eq_true.mpr hs
      have lj : (SX.S cs).length = cs.length := rfl
      refine ⟨_, D, cs.map (fun c => SX.S [c]), rfl, rfl, .inl (sq_of (e1 ▸ hD)), ?_, ?_⟩
      · rw [List.length_map]
        have : (Str.ofString "").length = 0 := by decide +kernel
        rw [this]
        omega
      · rw [join1]
        exact q _ H' sj (by omega) (by omega) hn.at_ ((b1.trans b4).trans hn.but)
end
end LawK
set_option linter.all false
set_option maxRecDepth 100000
set_option maxHeartbeats 4000000
/-! Texts in order, what neighbours have in common, and their pieces in order. -/
namespace LawK
abbrev LN := List Nat
theorem ltc {a b : Nat} {x y : LN} : (a :: x < b :: y) ↔ (a < b ∨ a = b ∧ x < y) := List.cons_lt_cons_iff
theorem ltn {x : LN} : ¬ x < ([] : LN) := List.not_lt_nil x
theorem nlc {a : Nat} {x : LN} : ([] : LN) < a :: x := List.nil_lt_cons a x
theorem lirr (x : LN) : ¬ x < x := List.lt_irrefl x
theorem ltr {x y z : LN} (h : x < y) (k : y < z) : x < z := List.lt_trans h k
theorem ltri (x y : LN) : x < y ∨ x = y ∨ y < x := by
  induction x generalizing y with
  | nil => cases y with
    | nil => exact .inr (.inl rfl)
    | cons b y => exact .inl nlc
  | cons a x ih => cases y with
    | nil => exact .inr (.inr nlc)
    | cons b y =>
      rcases Nat.lt_trichotomy a b with h | h | h
      · exact .inl (ltc.mpr (.inl h))
      · subst h
        rcases ih y with k | k | k
        · exact .inl (ltc.mpr (.inr ⟨rfl, k⟩))
        · exact .inr (.inl (by rw [k]))
        · exact .inr (.inr (ltc.mpr (.inr ⟨rfl, k⟩)))
      · exact .inr (.inr (ltc.mpr (.inl h)))
theorem lle {x y z : LN} (h : ¬ y < x) (k : ¬ z < y) : ¬ z < x := fun e => by
  rcases ltri x y with a | a | a
  · exact k (ltr e a)
  · rw [a] at e; exact k e
  · exact h a
theorem llt {x y z : LN} (h : ¬ y < x) (k : y < z) : x < z := by
  rcases ltri x z with a | a | a
  · exact a
  · rw [← a] at k; exact absurd k h
  · exact absurd (ltr k a) h
theorem pre_le {x y : LN} (h : x <+: y) : ¬ y < x := by
  obtain ⟨t, rfl⟩ := h
  induction x with
  | nil => exact ltn
  | cons a x ih =>
    intro e
    rcases ltc.mp e with k | ⟨_, k⟩
    · exact absurd k (Nat.lt_irrefl _)
    · exact ih k
theorem pre_lt {x y : LN} (h : x <+: y) (n : x ≠ y) : x < y := by
  rcases ltri x y with a | a | a
  · exact a
  · exact absurd a n
  · exact absurd a (pre_le h)
theorem between {w x y : LN} (h : ¬ x < w) (k : ¬ y < x) (p : w <+: y) : w <+: x := by
  induction w generalizing x y with
  | nil => exact List.nil_prefix
  | cons c w ih =>
    obtain ⟨t, rfl⟩ := p
    cases x with
    | nil => exact absurd nlc h
    | cons d x =>
      have h1 : ¬ (d < c ∨ d = c ∧ x < w) := fun e => h (ltc.mpr e)
      have k1 : ¬ (c < d ∨ c = d ∧ w ++ t < x) := fun e => k (ltc.mpr e)
      have e : c = d := by omega
      subst e
      exact List.cons_prefix_cons.mpr ⟨rfl, ih (fun z => h1 (.inr ⟨rfl, z⟩)) (fun z => k1 (.inr ⟨rfl, z⟩)) ⟨t, rfl⟩⟩
def lcp : LN → LN → Nat
  | a :: x, b :: y => if a = b then lcp x y + 1 else 0
  | _, _ => 0
theorem lcp_le (x y : LN) : lcp x y ≤ x.length ∧ lcp x y ≤ y.length := by
  induction x generalizing y with
  | nil => exact ⟨Nat.zero_le _, Nat.zero_le _⟩
  | cons a x ih => cases y with
    | nil => exact ⟨Nat.zero_le _, Nat.zero_le _⟩
    | cons b y =>
      show (if a = b then lcp x y + 1 else 0) ≤ x.length + 1 ∧ (if a = b then lcp x y + 1 else 0) ≤ y.length + 1
      have := ih y
      split <;> omega
theorem lcp_take (x y : LN) {m : Nat} (hx : m ≤ x.length) (hy : m ≤ y.length) : x.take m = y.take m ↔ m ≤ lcp x y := by
  induction x generalizing y m with
  | nil =>
    have : m = 0 := by simpa using hx
    subst this
    simp
  | cons a x ih => cases y with
    | nil =>
      have : m = 0 := by simpa using hy
      subst this
      simp
    | cons b y => cases m with
      | zero => simp
      | succ m =>
        have q := ih y (m := m) (by simpa using hx) (by simpa using hy)
        show a :: x.take m = b :: y.take m ↔ m + 1 ≤ (if a = b then lcp x y + 1 else 0)
        rw [List.cons.injEq, q]
        split
        · rename_i e
          exact ⟨fun h => by omega, fun h => ⟨e, by omega⟩⟩
        · rename_i e
          exact ⟨fun h => absurd h.1 e, fun h => by omega⟩
theorem lcp_lt {x y : LN} (h : ¬ y < x) {m : Nat} (l : lcp x y < m) (k : m ≤ y.length) : x < y.take m := by
  induction x generalizing y m with
  | nil => cases y with
    | nil => exact absurd k (by simp; omega)
    | cons b y => cases m with
      | zero => exact absurd l (by omega)
      | succ m => exact nlc
  | cons a x ih => cases y with
    | nil => exact absurd nlc h
    | cons b y => cases m with
      | zero => exact absurd l (by omega)
      | succ m =>
        show a :: x < b :: y.take m
        have l' : (if a = b then lcp x y + 1 else 0) < m + 1 := l
        have h1 : ¬ (b < a ∨ b = a ∧ y < x) := fun e => h (ltc.mpr e)
        by_cases e : a = b
        · rw [if_pos e] at l'
          exact ltc.mpr (.inr ⟨e, ih (fun z => h1 (.inr ⟨e.symm, z⟩)) (by omega) (by simpa using k)⟩)
        · exact ltc.mpr (.inl (by omega))
/-- what the i-th has in common with the one ahead -/
def ln (s : Nat → LN) (i : Nat) : Nat := if i = 0 then 0 else lcp (s (i - 1)) (s i)
theorem ln_le (s : Nat → LN) (i : Nat) : ln s i ≤ (s i).length := by
  unfold ln
  split
  · exact Nat.zero_le _
  · exact (lcp_le _ _).2
/-- the pieces that come first with the i-th -/
def grp (s : Nat → LN) (i : Nat) : List LN := (List.range ((s i).length - ln s i)).map fun k => (s i).take (ln s i + k + 1)
def pcs (s : Nat → LN) (n : Nat) : List LN := (List.range n).flatMap (grp s)
theorem pcs_succ (s : Nat → LN) (n : Nat) : pcs s (n + 1) = pcs s n ++ grp s n := by
  unfold pcs
  rw [List.range_succ, List.flatMap_append]
  simp
def Srt (s : Nat → LN) (n : Nat) : Prop := ∀ i j, i < j → j < n → ¬ s j < s i
theorem Srt.less {s : Nat → LN} {n m : Nat} (h : Srt s n) (l : m ≤ n) : Srt s m := fun i j a b => h i j a (by omega)
theorem grp_mem {s : Nat → LN} {i : Nat} {x : LN} : x ∈ grp s i ↔ x <+: s i ∧ ln s i < x.length := by
  unfold grp
  rw [List.mem_map]
  constructor
  · rintro ⟨k, hk, rfl⟩
    have hk := List.mem_range.mp hk
    exact ⟨List.take_prefix _ _, by rw [List.length_take]; omega⟩
  · rintro ⟨p, l⟩
    have := p.length_le
    refine ⟨x.length - ln s i - 1, List.mem_range.mpr (by omega), ?_⟩
    rw [List.prefix_iff_eq_take.mp p]
    congr 1
    rw [List.length_take]
    omega
theorem pcs_le {s : Nat → LN} {n : Nat} (h : Srt s (n + 1)) {x : LN} (hx : x ∈ pcs s (n + 1)) : ¬ s n < x := by
  unfold pcs at hx
  obtain ⟨i, hi, hm⟩ := List.mem_flatMap.mp hx
  have hi := List.mem_range.mp hi
  have p := pre_le (grp_mem.mp hm).1
  rcases Nat.lt_or_ge i n with l | l
  · exact lle p (h i n l (by omega))
  · rw [show n = i by omega]
    exact p
theorem pcs_asc {s : Nat → LN} {n : Nat} (h : Srt s n) : (pcs s n).Pairwise (· < ·) := by
  induction n with
  | zero => exact List.Pairwise.nil
  | succ n ih =>
    rw [pcs_succ]
    refine List.pairwise_append.mpr ⟨ih (h.less (Nat.le_succ n)), ?_, fun x hx y hy => ?_⟩
    · unfold grp
      refine List.pairwise_map.mpr (List.Pairwise.imp_of_mem (fun {a b} ha hb l => ?_) List.pairwise_lt_range)
      have ha := List.mem_range.mp ha
      have hb := List.mem_range.mp hb
      have e : (s n).take (ln s n + a + 1) = ((s n).take (ln s n + b + 1)).take (ln s n + a + 1) := by
        rw [List.take_take, Nat.min_eq_left (by omega)]
      refine pre_lt (by rw [e]; exact List.take_prefix _ _) fun z => ?_
      have := congrArg List.length z
      rw [List.length_take, List.length_take] at this
      omega
    · obtain ⟨p, l⟩ := grp_mem.mp hy
      cases n with
      | zero => exact absurd hx (by simp [pcs])
      | succ n =>
        have q := pcs_le (h.less (Nat.le_succ _)) hx
        have l2 : lcp (s n) (s (n + 1)) < y.length := l
        have := lcp_lt (h n (n + 1) (by omega) (by omega)) l2 p.length_le
        rw [← List.prefix_iff_eq_take.mp p] at this
        exact llt q this
theorem pcs_mem {s : Nat → LN} {n : Nat} {x : LN} : x ∈ pcs s n ↔ x ≠ [] ∧ ∃ i, i < n ∧ x <+: s i := by
  constructor
  · intro h
    obtain ⟨i, hi, hm⟩ := List.mem_flatMap.mp h
    obtain ⟨p, l⟩ := grp_mem.mp hm
    exact ⟨fun e => by rw [e] at l; exact absurd l (by simp), i, List.mem_range.mp hi, p⟩
  · rintro ⟨ne, i, hi, p⟩
    induction i with
    | zero =>
      refine List.mem_flatMap.mpr ⟨0, List.mem_range.mpr hi, grp_mem.mpr ⟨p, ?_⟩⟩
      have : ln s 0 = 0 := rfl
      rw [this]
      exact List.length_pos_iff.mpr ne
    | succ i ih =>
      by_cases l : ln s (i + 1) < x.length
      · exact List.mem_flatMap.mpr ⟨i + 1, List.mem_range.mpr hi, grp_mem.mpr ⟨p, l⟩⟩
      · have l2 : x.length ≤ lcp (s i) (s (i + 1)) := Nat.le_of_not_lt l
        have q := lcp_le (s i) (s (i + 1))
        have e := (lcp_take (s i) (s (i + 1)) (m := x.length) (by omega) (by omega)).mpr l2
        refine ih (by omega) ?_
        rw [List.prefix_iff_eq_take.mp p]
        have : ((s (i + 1)).take x.length).length = x.length := by rw [List.length_take]; omega
        rw [← e]
        exact List.take_prefix _ _
theorem pcs_pre (s : Nat → LN) {m n : Nat} (h : m ≤ n) : pcs s m <+: pcs s n := by
  induction n with
  | zero =>
    rw [show m = 0 by omega]
    exact List.prefix_rfl
  | succ n ih =>
    rcases Nat.lt_or_ge m (n + 1) with l | l
    · rw [pcs_succ]
      exact (ih (by omega)).trans (List.prefix_append _ _)
    · rw [show m = n + 1 by omega]
      exact List.prefix_rfl
theorem pcs_at (s : Nat → LN) {n i k : Nat} (h : i < n) (l : k < (s i).length - ln s i) : (pcs s n)[(pcs s i).length + k]? = some ((s i).take (ln s i + k + 1)) := by
  obtain ⟨t, ht⟩ := pcs_pre s (show i + 1 ≤ n from h)
  rw [← ht, pcs_succ, List.append_assoc, List.getElem?_append_right (Nat.le_add_right _ _), Nat.add_sub_cancel_left]
  have lg : (grp s i).length = (s i).length - ln s i := by unfold grp; rw [List.length_map, List.length_range]
  rw [List.getElem?_append_left (by rw [lg]; exact l)]
  unfold grp
  rw [List.getElem?_map, List.getElem?_range l]
  rfl
theorem pcs_len (s : Nat → LN) (n : Nat) : (pcs s (n + 1)).length = (pcs s n).length + ((s n).length - ln s n) := by
  rw [pcs_succ, List.length_append]
  unfold grp
  rw [List.length_map, List.length_range]
/-- how many are less than w -/
def cntLt (s : Nat → LN) (w : LN) (n : Nat) : Nat := ((List.range n).filter fun i => decide (s i < w)).length
theorem cnt_down {s : Nat → LN} {n : Nat} (h : Srt s n) (w : LN) : cntLt s w n ≤ n ∧ ∀ i, i < n → (s i < w ↔ i < cntLt s w n) := by
  induction n with
  | zero => exact ⟨Nat.le_refl _, fun i h => absurd h (by omega)⟩
  | succ n ih =>
    obtain ⟨l, q⟩ := ih (h.less (Nat.le_succ n))
    have e : cntLt s w (n + 1) = cntLt s w n + (if s n < w then 1 else 0) := by
      unfold cntLt
      rw [List.range_succ, List.filter_append, List.length_append]
      congr 1
      by_cases z : s n < w <;> simp [z]
    by_cases z : s n < w
    · rw [if_pos z] at e
      have all : cntLt s w n = n := by
        rcases Nat.lt_or_ge (cntLt s w n) n with g | g
        · have : ¬ s (cntLt s w n) < w := fun z => Nat.lt_irrefl _ ((q _ g).mp z)
          exact absurd (llt (h _ n g (by omega)) z) this
        · omega
      refine ⟨by omega, fun i hi => ?_⟩
      rcases Nat.lt_or_ge i n with g | g
      · exact ⟨fun _ => by omega, fun _ => (q i g).mpr (by omega)⟩
      · rw [show i = n by omega]
        exact ⟨fun _ => by omega, fun _ => z⟩
    · rw [if_neg z] at e
      refine ⟨by omega, fun i hi => ?_⟩
      rcases Nat.lt_or_ge i n with g | g
      · rw [e]; exact q i g
      · rw [show i = n by omega]
        exact ⟨fun y => absurd y z, fun y => by omega⟩
/-- the number of a piece -/
theorem pcs_no {s : Nat → LN} {n : Nat} (h : Srt s n) {w : LN} (ne : w ≠ []) {i : Nat} (hi : i < n) (p : w <+: s i) :
    cntLt s w n < n ∧ ln s (cntLt s w n) < w.length ∧ w.length ≤ (s (cntLt s w n)).length ∧ (pcs s n)[(pcs s (cntLt s w n)).length + (w.length - ln s (cntLt s w n) - 1)]? = some w := by
  obtain ⟨l, q⟩ := cnt_down h w
  have ni : ¬ i < cntLt s w n := fun z => pre_le p ((q i hi).mpr z)
  have lt : cntLt s w n < n := by omega
  have nf : ¬ s (cntLt s w n) < w := fun z => Nat.lt_irrefl _ ((q _ lt).mp z)
  have pf : w <+: s (cntLt s w n) := by
    rcases Nat.lt_or_ge (cntLt s w n) i with g | g
    · exact between nf (h _ _ g hi) p
    · rw [show cntLt s w n = i by omega]; exact p
  have lnf : ln s (cntLt s w n) < w.length := by
    rcases Nat.eq_zero_or_pos (cntLt s w n) with z | z
    · rw [z]; exact List.length_pos_iff.mpr ne
    · refine Nat.lt_of_not_le fun c => ?_
      have e : ln s (cntLt s w n) = lcp (s (cntLt s w n - 1)) (s (cntLt s w n)) := by
        unfold ln
        rw [if_neg (by omega)]
      rw [e] at c
      have ll := lcp_le (s (cntLt s w n - 1)) (s (cntLt s w n))
      have tk := (lcp_take (s (cntLt s w n - 1)) (s (cntLt s w n)) (m := w.length) (by omega) (by omega)).mpr c
      have pw : w <+: s (cntLt s w n - 1) := by
        have tp : (s (cntLt s w n - 1)).take w.length <+: s (cntLt s w n - 1) := List.take_prefix _ _
        rw [tk, ← List.prefix_iff_eq_take.mp pf] at tp
        exact tp
      exact pre_le pw ((q _ (by omega)).mpr (by omega))
  refine ⟨lt, lnf, pf.length_le, ?_⟩
  have := pf.length_le
  rw [pcs_at s lt (by omega)]
  rw [show ln s (cntLt s w n) + (w.length - ln s (cntLt s w n) - 1) + 1 = w.length by omega]
  exact congrArg some (List.prefix_iff_eq_take.mp pf).symm
end LawK
set_option maxHeartbeats 4000000
namespace Ev
open PySem PySem.Spec PyProof.Rows L2
/-! sets of keys of one kind whose table can be walked -/
section
variable {P : Program} {w : World} {K : Type} [DecidableEq K]
/-- no two of them are one key -/
def Apart (κ : KeyKind P w K) (l : List (Int × Value)) : Prop := l.Pairwise fun e f => ∀ k, κ.is k e.2 = true → κ.is k f.2 = true → False
/-- the set at a, S its members, n their number; its table rises and can be walked -/
def SetG (κ : KeyKind P w K) (h : Heap) (a : Addr) (S : K → Bool) (n : Nat) : Prop :=
  ∃ o es ep t, h.get? a = some o ∧ (o.ExactSet ∧ o.data = .set es ep t) ∧ (ElemsOf κ es.toList ∧ Apart κ es.toList) ∧ (∀ k, S k = true ↔ ∃ e ∈ es.toList, κ.is k e.2 = true) ∧ (es.size < scanBound ∧ t.fits es.size = true ∧ es.size = n) ∧ (Ris t.place.toList ∧ (w.params.followText "set-order" = true ∨ t.led = true))
variable {κ : KeyKind P w K} {h h' : Heap} {a : Addr} {S : K → Bool} {n : Nat}
theorem SetG.keep (R : SetG κ h a S n) (k : ∀ o, h.get? a = some o → h'.get? a = some o) : SetG κ h' a S n := let ⟨o, es, ep, t, ho, r⟩ := R; ⟨o, es, ep, t, k o ho, r⟩
theorem SetG.of (R : SetG κ h a S n) : h.SetOf κ a S n := let ⟨o, es, ep, t, ho, x, g, m, b, _⟩ := R; ⟨o, es, ep, t, ho, x.1, x.2, g.1, m, b⟩
theorem Apart.perm {l m : List (Int × Value)} (p : l.Perm m) (x : Apart κ l) : Apart κ m := List.Perm.pairwise p x fun {e f} q k h1 h2 => q k h2 h1
variable {A : Around} {E : Value → Shared → Prop} {s : Shared}
theorem setG_tail {g : Bool → Sem Unit} (gg : ∀ (b : Bool) (z : Shared) (W : Unit → Shared → Prop), W () z → wpAny (model P w) A (g b) W E z)
    {o : Obj} {es fs : Array (Int × Value)} {ep : Nat} {t u : SetTable} (ho : s.heap.get? a = some o) (xs : o.ExactSet) (hd : o.data = .set es ep t) (g1 : ElemsOf κ fs.toList) (n1 : Apart κ fs.toList) (m1 : ∀ k, S k = true ↔ ∃ e ∈ fs.toList, κ.is k e.2 = true)
    (b1 : fs.size < scanBound) (f1 : u.fits fs.size = true) (r1 : Ris u.place.toList) (l1 : w.params.followText "set-order" = true ∨ u.led = true) {wd : Bool} {R : Option Bool → Shared → Prop}
    (fin : ∀ z, Heap.SameBut a s.heap z → SetG κ z a S fs.size → R (some true) { s with heap := z }) :
    wpAny (model P w) A (storeSet a fs u >>= fun _ => if (!wd && u.tooFull) = true then (g (relayAll u fs (SetTable.grown fs.size)).2.2 >>= fun _ => storeSet a (relayAll u fs (SetTable.grown fs.size)).1 (relayAll u fs (SetTable.grown fs.size)).2.1 >>= fun _ => pure (some true)) else pure (some true)) R E s := by
  have put : ∀ {z : Heap} {o : Obj} {es : Array (Int × Value)} {ep : Nat} {t : SetTable} (fs : Array (Int × Value)) (u : SetTable), z.get? a = some o → o.data = .set es ep t → (z.update a (Obj.putSet fs u)).get? a = some { o with data := .set fs (ep + 1) u } := fun {z o es ep t} fs u e d => by
    have q := Heap.get?_update_self (Obj.putSet fs u) e (by rw [putSet_of fs u d] <;> rfl); rw [putSet_of fs u d] at q; exact q
  refine wpAny_bind (wpAny_storeSet_of ho hd ?_ (fits_of_scanBound b1))
  have o1 := put fs u ho hd
  have s1 := Heap.SameBut.update s.heap a (Obj.putSet fs u)
  split
  · have p2 := relayAll_perm u fs (SetTable.grown fs.size); have f2 := relayAll_fits u fs (SetTable.grown fs.size)
    have r2 := relayAll_ris u fs (SetTable.grown fs.size); have l2 := relayAll_led u fs (SetTable.grown fs.size)
    revert p2 f2 r2 l2
    generalize relayAll u fs (SetTable.grown fs.size) = Z
    obtain ⟨gs, v, gv⟩ := Z
    intro p2 f2 r2 l2; dsimp only at p2 f2 r2 l2 ⊢
    have sz : gs.size = fs.size := by have := p2.length_eq; rw [Array.length_toList, Array.length_toList] at this; exact this
    refine wpAny_bind (gg _ _ _ (wpAny_bind (wpAny_storeSet_of o1 rfl ?_ (fits_of_scanBound (by rw [sz] <;> exact b1)))))
    refine wpAny_pure (fin _ (s1.trans (Heap.SameBut.update _ a _)) ⟨_, gs, _, v, put gs v o1 rfl, ⟨xs, rfl⟩, ⟨fun e q => g1 e (p2.mem_iff.mp q), Apart.perm p2.symm n1⟩, fun k => (m1 k).trans ⟨fun ⟨e, q, z⟩ => ⟨e, p2.mem_iff.mpr q, z⟩, fun ⟨e, q, z⟩ => ⟨e, p2.mem_iff.mp q, z⟩⟩, ⟨by rw [sz] <;> exact b1, f2, sz⟩, r2, l1.imp id fun z => l2.trans z⟩)
  · exact wpAny_pure (fin _ s1 ⟨_, fs, _, u, o1, ⟨xs, rfl⟩, ⟨g1, n1⟩, m1, ⟨b1, f1, rfl⟩, r1, l1⟩)
theorem setG_hashed {k : K} {v : Value} {Q : Bool → Shared → Prop} (hv : κ.is k v = true) (sc : v.scannable = true) (R : SetG κ s.heap a S n) (room : n + 1 < scanBound)
    (q : ∀ z, Heap.SameBut a s.heap z → SetG κ z a (fun j => S j || decide (j = k)) (if S k = true then n else n + 1) → Q (!S k) { s with heap := z }) :
    wpAny (model P w) A (setAddHashed a v (κ.hash k)) Q E s := by
  obtain ⟨o, es, ep, t, ho, ⟨xs, hd⟩, ⟨hel, nd⟩, hm, ⟨hb, hf, hn⟩, hr, hl⟩ := R
  unfold setAddHashed; unfold setAddHashedIn
  refine wpAny_holding (wpAny_bind (wpAny_setState_of ho hd hf ?_)); dsimp only
  rw [byScan_of sc hb hel]; simp only [↓reduceIte]
  unfold setAddByScan
  refine wpAny_bind (wpAny_bind (wpAny_rule (wpAny_bind (wpAny_setScan_of hv ho hd hf hel ?_))))
  cases hfi : List.findIdx? (fun e => κ.is k e.2) es.toList with
  | some j =>
    dsimp only
    obtain ⟨hj, pj, _⟩ := List.findIdx?_eq_some_iff_getElem.mp hfi
    have hk : S k = true := (hm k).mpr ⟨es.toList[j], List.getElem_mem hj, pj⟩
    have q1 := q s.heap (Heap.SameBut.refl a s.heap) ⟨o, es, ep, t, ho, ⟨xs, hd⟩, ⟨hel, nd⟩, fun i => by
      rw [Bool.or_eq_true, decide_eq_true_eq, ← hm i]; exact ⟨fun z => z.elim id fun e => by rw [e] <;> exact hk, .inl⟩, ⟨hb, hf, by rw [if_pos hk] <;> exact hn⟩, hr, hl⟩
    rw [hk] at q1; exact wpAny_pure (wpAny_pure q1)
  | none =>
    dsimp only
    have nk : ∀ e ∈ es.toList, κ.is k e.2 = true → False := fun e he z => by
      have c := List.findIdx?_eq_none_iff.mp hfi e he; rw [z] at c; cases c
    have hk : S k = false := Bool.eq_false_iff.mpr fun z => let ⟨e, he, y⟩ := (hm k).mp z; nk e he y
    have gw : ∀ (b : Bool) {z : Shared} {W : Unit → Shared → Prop}, W () z → wpAny (model P w) A (match b with | true => rule "set.scan.the-table-gave-way" | false => pure ()) W E z := fun b {z W} y => by cases b <;> first | exact wpAny_pure y | exact wpAny_rule y
    have pm := layNew_perm t es (κ.hash k) v; have f1 := layNew_fits t es (κ.hash k) v
    have r1 := layNew_ris t es (κ.hash k) v hr; have l1 := layNew_led t es (κ.hash k) v
    revert pm f1 r1 l1
    generalize layNew t es (κ.hash k) v = Z
    obtain ⟨fs, u, wd, gv⟩ := Z
    intro pm f1 r1 l1; dsimp only at pm f1 r1 l1 ⊢
    rw [Array.toList_push] at pm
    have pc : fs.toList.Perm ((κ.hash k, v) :: es.toList) := pm.trans (List.perm_append_singleton _ _)
    have g1 : ElemsOf κ fs.toList := fun e he => by
      rcases List.mem_cons.mp (pc.mem_iff.mp he) with z | z
      · rw [z]; exact ⟨⟨k, hv, rfl⟩, sc⟩
      · exact hel e z
    have n1 : Apart κ fs.toList := Apart.perm pc.symm (List.pairwise_cons.mpr ⟨fun e he j x y => nk e he (by rw [← κ.inj v j k x hv] <;> exact y), nd⟩)
    have m1 : ∀ i, (S i || decide (i = k)) = true ↔ ∃ e ∈ fs.toList, κ.is i e.2 = true := fun i => by
      rw [Bool.or_eq_true, decide_eq_true_eq, hm i]
      constructor
      · rintro (⟨e, he, y⟩ | y)
        · exact ⟨e, pc.mem_iff.mpr (List.mem_cons_of_mem _ he), y⟩
        · exact ⟨_, pc.mem_iff.mpr List.mem_cons_self, by rw [y] <;> exact hv⟩
      · rintro ⟨e, he, y⟩
        rcases List.mem_cons.mp (pc.mem_iff.mp he) with z | z
        · rw [z] at y; exact .inr (κ.inj v i k y hv)
        · exact .inl ⟨e, z, y⟩
    have sz : fs.size = n + 1 := by have := pc.length_eq; rw [Array.length_toList, List.length_cons, Array.length_toList, hn] at this; exact this
    have b1 : fs.size < scanBound := by rw [sz] <;> exact room
    have ld : w.params.followText "set-order" = true ∨ u.led = true := hl.imp id fun z => l1.trans z
    have fin : ∀ z, Heap.SameBut a s.heap z → SetG κ z a (fun j => S j || decide (j = k)) fs.size → Q true { s with heap := z } := fun z sb r => by
      have q1 := q z sb; rw [hk] at q1; rw [sz] at r; exact q1 r
    have last : ∀ {u' : SetTable} {R : Option Bool → Shared → Prop} {g : Bool → Sem Unit}, (∀ (b : Bool) (z : Shared) (W : Unit → Shared → Prop), W () z → wpAny (model P w) A (g b) W E z) → u'.fits fs.size = true → Ris u'.place.toList → (w.params.followText "set-order" = true ∨ u'.led = true) → (∀ z, Heap.SameBut a s.heap z → SetG κ z a (fun j => S j || decide (j = k)) fs.size → R (some true) { s with heap := z }) → _ := fun {u' R g} gg a1 a2 a3 a4 => setG_tail (κ := κ) (wd := wd) (A := A) (E := E) (s := s) (R := R) gg ho xs hd g1 n1 m1 b1 a1 a2 a3 a4
    refine wpAny_bind (gw _ ?_)
    split
    · rw [hashByValue_scannable 8 sc]
      refine wpAny_bind (wpAny_pure (last ?_ ?_ ?_ ?_ ?_))
      · intro b z W y; cases b <;> first | exact wpAny_pure y | exact wpAny_rule y
      · first | (split <;> first | exact f1 | exact SetTable.fits_plain_off f1) | exact f1
      · first | (split <;> exact r1) | exact r1
      · first | (split <;> exact ld) | exact ld
      · intro z sb r; dsimp only; exact wpAny_pure (fin z sb r)
    · refine wpAny_bind (wpAny_pure ?_); simp only [↓reduceIte]
      refine last ?_ f1 r1 ld ?_
      · intro b z W y; cases b <;> first | exact wpAny_pure y | exact wpAny_rule y
      · intro z sb r; dsimp only; exact wpAny_pure (fin z sb r)
end
end Ev
set_option maxHeartbeats 4000000
namespace Ev
open PySem PySem.Spec PyProof.Rows L2
/-- one turn of a block's loop: the next thing, its store, the tests, then the body -/
def oneTurn (c : Code) (ip : Pos) (tg : Expr) (ifs : List Expr) (it : Value) (env : Env) (body : Sem PySem.Fin) : Sem PySem.Fin := standAt ip >>= fun _ => pyNext it >>= fun r => match r with
  | none => pure (.done .next)
  | some v => letOwnedTupleGo tg it v >>= fun _ => assign tg env v >>= fun _ => (forIn ifs true fun c r => if r = true then (do let ok ← isTrue c env (eval c env); pure (ForInStep.yield ok)) else pure (ForInStep.yield r)) >>= fun ok => if ok = true then body else again c
theorem turn_set1 (elt tg iter : Expr) (ifs : List Expr) (scope : Scope) (pos : Pos) (it acc : Value) (env : Env) :
    compTurn (.SetComp elt [⟨tg, iter, ifs, 0⟩] scope pos) 0 it acc env = oneTurn (.compLoop (.SetComp elt [⟨tg, iter, ifs, 0⟩] scope pos) 0 it acc env) iter.pos tg ifs it env ((eval elt env >>= fun v => standAt elt.pos >>= fun _ => call (.builtin "set.add") [acc, v] >>= fun _ => pure ()) >>= fun _ => again (.compLoop (.SetComp elt [⟨tg, iter, ifs, 0⟩] scope pos) 0 it acc env)) := by
  unfold oneTurn
  rfl
theorem turn_set2i (elt t0 i0 t1 i1 : Expr) (ifs0 ifs1 : List Expr) (scope : Scope) (pos : Pos) (it acc : Value) (env : Env) :
    compTurn (.SetComp elt [⟨t0, i0, ifs0, 0⟩, ⟨t1, i1, ifs1, 0⟩] scope pos) 1 it acc env = oneTurn (.compLoop (.SetComp elt [⟨t0, i0, ifs0, 0⟩, ⟨t1, i1, ifs1, 0⟩] scope pos) 1 it acc env) i1.pos t1 ifs1 it env ((eval elt env >>= fun v => standAt elt.pos >>= fun _ => call (.builtin "set.add") [acc, v] >>= fun _ => pure ()) >>= fun _ => again (.compLoop (.SetComp elt [⟨t0, i0, ifs0, 0⟩, ⟨t1, i1, ifs1, 0⟩] scope pos) 1 it acc env)) := by
  unfold oneTurn
  rfl
theorem turn_set2o (elt t0 i0 t1 i1 : Expr) (ifs0 ifs1 : List Expr) (scope : Scope) (pos : Pos) (it acc : Value) (env : Env) :
    compTurn (.SetComp elt [⟨t0, i0, ifs0, 0⟩, ⟨t1, i1, ifs1, 0⟩] scope pos) 0 it acc env = oneTurn (.compLoop (.SetComp elt [⟨t0, i0, ifs0, 0⟩, ⟨t1, i1, ifs1, 0⟩] scope pos) 0 it acc env) i0.pos t0 ifs0 it env
      (eval i1 env >>= fun x => standAt i1.pos >>= fun _ => foldedSetIterable i1 env x >>= fun x => holding [x] (pyIter x) >>= fun j => runOwn (.compStart (.SetComp elt [⟨t0, i0, ifs0, 0⟩, ⟨t1, i1, ifs1, 0⟩] scope pos) 1 j acc env) env >>= fun _ => again (.compLoop (.SetComp elt [⟨t0, i0, ifs0, 0⟩, ⟨t1, i1, ifs1, 0⟩] scope pos) 0 it acc env)) := by
  unfold oneTurn
  rfl
section
variable {Y : Cx} {e : Expr} {ci : Nat} {it : Addr} {acc : Value} {ip : Pos} {tg : Expr} {ifs : List Expr} {body : Sem PySem.Fin} {J : It} {fp : List Addr} {tn : Nat → Heap → Prop} {R : Result → Shared → Prop} {pins : List (Addr × Obj)} {σ : L2.St} {vs : List Nat} {g : TG} {tt : TT}
/-- what a body says of the slots: those that were wiped may be anything -/
def Slots (σ τ : L2.St) (vs : List Nat) : Prop := τ.length = σ.length ∧ ∀ (j : Nat) v, (wipe σ vs)[j]? = some (some v) → τ[j]? = some (some v)
/-- a block's loop over what is walked: W at each turn, and the body's own word B -/
theorem loop_any (B : L2.St → Hp → (Hp → Prop) → Prop) (hden : (model Y.prog Y.w).den (.compLoop e ci (.ref it) acc Y.env) = (oneTurn (.compLoop e ci (.ref it) acc Y.env) ip tg ifs (.ref it) Y.env body).onRaise (fun x => do noteFrame x Y.env; theTreesLotGoes x))
    (hu : Y.A.under (.compLoop e ci (.ref it) acc Y.env) = Y.A) (hq : (Code.compLoop e ci (.ref it) acc Y.env).quiet = true) (hc : Y.calm = true) (T : Turn Y.prog Y.w Y.K tg J fp it tn) (pg : PG Y tg g) (pt : PTs Y ifs tt) (hA : ∀ x s, ¬ Y.xe x s)
    (hb : ∀ (pins' : List (Addr × Obj)) s τ H (N : Hp → Prop), (∀ p ∈ pins, p ∈ pins') → Inv Y pins' τ H s → B τ H N → wpAny (model Y.prog Y.w) Y.A body (fun r s' => r = .again (.compLoop e ci (.ref it) acc Y.env) ∧ ∃ τ' H', Inv Y pins' τ' H' s' ∧ Slots τ τ' vs ∧ N H') Y.xe s)
    (fok : ∀ {H : Hp}, (∀ b ∈ fp, H b = none) → ∀ b ∈ fp, FpOk Y pins H b) (W : Nat → Nat → Hp → Prop) (F : Hp → Prop)
    (turn : ∀ i m H, W i m H → (J.stop i H ∧ F H) ∨ (J.go i H ∧ ∃ N : Hp → Prop, (∀ H', N H' → ∃ m', m' < m ∧ W (i + 1) m' H') ∧ ∀ x H', J.yld i H x H' → g x (wipe σ vs) H' fun σ2 H2 => wipe σ2 vs = wipe σ vs ∧ tt σ2 H2 fun b H3 => if b = true then B σ2 H3 N else N H3))
    (fin : ∀ s' H', Inv Y pins (wipe σ vs) H' s' → F H' → R (.ok .next) s') (m0 : Nat) (s : Shared) (H : Hp) (w0 : W 0 m0 H) (I : Inv Y pins (wipe σ vs) H s) (t0 : tn 0 s.heap) (n0 : ∀ b ∈ fp, H b = none) :
    codeAny (model Y.prog Y.w) Y.A (.compLoop e ci (.ref it) acc Y.env) R s := by
  have th : ∀ {α : Type} {t : Sem α} {Q Q' : α → Shared → Prop} {E : Value → Shared → Prop} {s : Shared}, wpAny (model Y.prog Y.w) Y.A t Q Y.xe s → (∀ a s, Q a s → Q' a s) → wpAny (model Y.prog Y.w) Y.A t Q' E s := fun h q => wpAny_mono h q fun x s z => (hA x s z).elim
  refine codeAny_loop hq (fun m s' => ∃ i H', W i m H' ∧ Inv Y pins (wipe σ vs) H' s' ∧ tn i s'.heap ∧ ∀ b ∈ fp, H' b = none) (fun m s1 hI => ?_) m0 ⟨0, H, w0, I, t0, n0⟩
  obtain ⟨i, H1, w1, I1, t1, n1⟩ := hI
  rw [hden, hu]
  refine wpAny_noted ?_
  unfold oneTurn
  refine wpAny_bind (wpAny_standAt (wpAny_bind ?_))
  rcases turn i m H1 w1 with ⟨stop, f1⟩ | ⟨go, N, hN, step⟩
  · refine thnF (T.done Y rfl rfl rfl hc i pins s1 _ H1 (fun _ _ => False) I1 (fok n1) t1 stop) fun r s2 ⟨er, I2⟩ => ?_
    subst er
    exact wpAny_pure (fin s2 H1 I2 f1)
  · refine thnF (T.item Y rfl rfl rfl hc i pins s1 _ H1 (fun _ _ => False) I1 (fok n1) t1 go) fun r s2 ⟨u, er, h2⟩ => ?_
    subst er
    refine wpAny_bind (thnF h2 fun _ s3 ⟨x, H3, I3, r3, y3, t3, n3⟩ => wpAny_bind ?_)
    have J3 := I3.pinned (fok n3) (T.obj _ _ t3)
    refine th (pg.run _ s3 _ H3 x u _ J3 r3 (step x H3 y3)) fun _ s4 ⟨τ, H4, I4, e4, q4⟩ => wpAny_bind ?_
    refine th (pt.run _ s4 τ H4 _ I4 q4) fun b s5 ⟨H5, I5, q5⟩ => ?_
    have back : ∀ {τ' : L2.St} {s' : Shared} {H' : Hp}, Inv Y (pins ++ pinsAt fp s3.heap) τ' H' s' → Slots τ τ' vs → N H' → ∃ m', m' < m ∧ ∃ i H', W i m' H' ∧ Inv Y pins (wipe σ vs) H' s' ∧ tn i s'.heap ∧ ∀ b ∈ fp, H' b = none := fun {τ' s' H'} I' sl nx => by
      obtain ⟨m', lm, w'⟩ := hN H' nx
      have pin : ∀ b ∈ fp, ∀ o, s3.heap.get? b = some o → s'.heap.get? b = some o ∧ H' b = none := fun b hb o eo => let z := I'.pin (b, o) (List.mem_append_right _ (List.mem_append_right _ (mem_pinsAt hb eo))); ⟨z.1, z.2.1⟩
      refine ⟨m', lm, i + 1, H', w', I'.unpinned.weak ?_ (fun j v ev => sl.2 j v (by rw [e4] <;> exact ev)), T.keep _ _ _ t3 fun b hb o eo => (pin b hb o eo).1, fun b hb => ?_⟩
      · rw [sl.1, ← wipe_length τ vs, e4] <;> rfl
      · obtain ⟨o, eo, _⟩ := T.obj _ _ t3 b hb
        exact (pin b hb o eo).2
    cases b with
    | false =>
      simp only [Bool.false_eq_true, if_false] at q5 ⊢
      exact wpAny_pure ⟨rfl, back I5 ⟨rfl, fun j v ev => (wipe_some ev).1⟩ q5⟩
    | true =>
      simp only [if_true] at q5 ⊢
      exact th (hb _ s5 τ H5 N (fun p hp => List.mem_append_left _ hp) I5 q5) fun r s6 ⟨er, τ', H6, I6, sl, q6⟩ => by subst er; exact ⟨rfl, back I6 sl q6⟩
end
end Ev
set_option maxHeartbeats 4000000
namespace Ev
open PySem PySem.Spec PyProof.Rows L2
theorem setG_add {P : Program} {w : World} {K : Type} [DecidableEq K] {κ : KeyKind P w K} {A : Around} {E : Value → Shared → Prop} {s : Shared} {a : Addr} {S : K → Bool} {n : Nat} {k : K} {v : Value} {Q : Value → Shared → Prop} (hv : κ.is k v = true) (sc : v.scannable = true) (R : SetG κ s.heap a S n) (room : n + 1 < scanBound)
    (q : ∀ z, Heap.SameBut a s.heap z → SetG κ z a (fun j => S j || decide (j = k)) (if S k = true then n else n + 1) → Q .none { s with heap := z, toks := s.toks + 1 }) : wpAny (model P w) A (call (.builtin "set.add") [.ref a, v]) Q E s := by
  refine wpAny_call_entry F.slot_set_add R.of.typeIs F.entry_set_add ?_ (F.args_set_add_2 _ _)
  unfold Builtin.«set.add»; unfold Builtin.Frozenset.oneOther
  simp only [List.isEmpty_nil, bind_assoc]; unfold Builtin.Frozenset.addrOf; unfold setAdd
  refine wpAny_bind (wpAny_pure ?_); try dsimp only
  refine wpAny_bind (wpAny_pure ?_); try dsimp only
  refine wpAny_bind (wpAny_holding (wpAny_bind (κ.pyHash hv (setG_hashed (s := { s with toks := s.toks + 1 }) hv sc R room fun z sb r => ?_))))
  show wpAny _ _ (ret Value.none) _ _ _; exact wpAny_pure ⟨_, rfl, q z sb r⟩
/-- the set of keys at a, that can be walked -/
def SetX (P : Program) (w : World) (a : Addr) (S : Key → Bool) (n : Nat) : HO := .ext fun h => SetG (mixKind P w) h a S n
theorem setX_new {P : Program} {w : World} {H : Hp} {h : Heap} {a : Addr} {S : Key → Bool} {n : Nat} (R : SetG (mixKind P w) h a S n) : ObjOk P w H h a (SetX P w a S n) := by
  have ⟨o, _, _, _, ho, _⟩ := R
  exact ⟨R, ⟨o, ho⟩, fun h1 h2 p k => SetG.keep p k⟩
/-- the set with one more -/
def put1 (P : Program) (w : World) (D : Addr) (S : Key → Bool) (n : Nat) (k : Key) : HO := SetX P w D (fun j => S j || decide (j = k)) (if S k = true then n else n + 1)
section
variable {X : Cx} {pins : List (Addr × Obj)} {σ : L2.St} {H : Hp} {s : Shared}
theorem setX_get {a : Addr} {S : Key → Bool} {n : Nat} (I : Inv X pins σ H s) (ha : H a = some (SetX X.prog X.w a S n)) : SetG (mixKind X.prog X.w) s.heap a S n := (I.hok a _ ha).1
/-- set.add of a key -/
theorem addX_ok {E : Value → Shared → Prop} {D : Addr} {S : Key → Bool} {n : Nat} {k : Key} {v : Value} {Q : Value → Shared → Prop} (I : Inv X pins σ H s) (r : RelV (kV k) v) (hD : H D = some (SetX X.prog X.w D S n)) (room : n + 1 < scanBound)
    (h : ∀ s', Inv X pins σ (upd H D (put1 X.prog X.w D S n k)) s' → Q .none s') : wpAny (model X.prog X.w) X.A (call (.builtin "set.add") [.ref D, v]) Q E s := by
  refine setG_add (kV_is r) (key_scan r) (setX_get I hD) room fun z sb new => ?_
  have ⟨o, _, _, _, ho, _⟩ := new
  exact h _ (I.write (e := D) (t' := s.toks + 1) (by rw [hD] <;> trivial) (.inl rfl) (fun b u hb hu => (sb.2 b hb).trans hu) ⟨o, ho⟩ (setX_new new))
end
/-- what a body asks that puts one key more into D -/
def bAdd (P : Program) (w : World) (D : Addr) (te : TE) : L2.St → Hp → (Hp → Prop) → Prop := fun τ H N => te τ H fun y H4 => ∃ (k : Key) (S : Key → Bool) (n : Nat), y = kV k ∧ H4 D = some (SetX P w D S n) ∧ n + 1 < scanBound ∧ N (upd H4 D (put1 P w D S n k))
theorem body_add {Y : Cx} {elt : Expr} {te : TE} {c : Code} {D : Addr} {vs : List Nat} (pe : PE Y elt te) (pins' : List (Addr × Obj)) (s : Shared) (τ : L2.St) (H : Hp) (N : Hp → Prop) (I : Inv Y pins' τ H s) (h : bAdd Y.prog Y.w D te τ H N) :
    wpAny (model Y.prog Y.w) Y.A ((eval elt Y.env >>= fun v => standAt elt.pos >>= fun _ => call (.builtin "set.add") [.ref D, v] >>= fun _ => pure ()) >>= fun _ => again c) (fun r s' => r = .again c ∧ ∃ τ' H', Inv Y pins' τ' H' s' ∧ Slots τ τ' vs ∧ N H') Y.xe s := by
  refine wpAny_bind (wpAny_bind (thn (pe.run pins' s τ H _ I h) fun v s1 ⟨y, H1, I1, r1, k, S, n, ey, hD, room, nx⟩ => wpAny_bind (wpAny_standAt (wpAny_bind ?_))))
  subst ey
  exact addX_ok I1 r1 hD room fun s2 I2 => wpAny_pure (wpAny_pure ⟨rfl, τ, _, I2, ⟨rfl, fun j v e => (wipe_some e).1⟩, nx⟩)
/-- over anything that is walked -/
theorem wk {J : It} {n : Nat} {G : Hp → Prop} {Y : Nat → Hp → V → Hp → Prop} (w : Walk J n G Y) {F : Hp → Prop} {H0 : Hp} {T : V → Hp → (Hp → Prop) → Prop} (Pv : Nat → Hp → Prop) (h0 : Pv 0 H0) (hG : ∀ i H, i ≤ n → Pv i H → G H)
    (hs : ∀ i x H H', i < n → Pv i H → Y i H x H' → T x H' (Pv (i + 1))) (hd : ∀ H, Pv n H → F H) :
    ∃ W : Nat → Nat → Hp → Prop, (∃ m, W 0 m H0) ∧ ∀ i m H, W i m H → (J.stop i H ∧ F H) ∨ (J.go i H ∧ ∃ N : Hp → Prop, (∀ H', N H' → ∃ m', m' < m ∧ W (i + 1) m' H') ∧ ∀ x H', J.yld i H x H' → T x H' N) := by
  refine ⟨fun i m H => i ≤ n ∧ m + i = n ∧ Pv i H, ⟨n, Nat.zero_le _, rfl, h0⟩, fun i m H ⟨hi, em, p⟩ => ?_⟩
  rcases Nat.lt_or_ge i n with hlt | hge
  · exact .inr ⟨w.goes i H hlt (hG i H hi p), Pv (i + 1), fun H' p' => ⟨m - 1, by omega, hlt, by omega, p'⟩, fun x H' y => hs i x H H' hlt p (w.yields i H x H' hlt (hG i H hi p) y)⟩
  · obtain rfl : i = n := Nat.le_antisymm hi hge
    exact .inl ⟨w.stops H (hG i H hi p), hd H p⟩
end Ev
set_option maxHeartbeats 4000000
namespace Ev
open PySem PySem.Spec PyProof.Rows L2
/-- an empty set, new at the heap's end -/
abbrev emptyS (w : World) : Obj := { cls := .type "set", dict := none, data := .set #[] 0 (.fresh 0 0 (!w.params.followText "set-order")) }
theorem setG_new {P : Program} {w : World} {K : Type} [DecidableEq K] {κ : KeyKind P w K} {h : Heap} : SetG κ (h.push (emptyS w)) h.objs.size (fun _ => false) 0 := by
  refine ⟨_, #[], 0, _, Heap.get?_push_size _ rfl, ⟨⟨rfl, rfl, rfl⟩, rfl⟩, ⟨fun e he => by simp at he, List.Pairwise.nil⟩, fun k => by simp, ⟨by decide, by rfl, rfl⟩, List.Pairwise.nil, ?_⟩
  show _ ∨ (!w.params.followText "set-order") = true
  cases w.params.followText "set-order" with
  | true => exact .inl rfl
  | false => exact .inr rfl
/-- {.. for tg in iter if ..}, B: what each turn's body asks, D the new set -/
def tScG (P : Program) (w : World) (wi : TI) (g : TG) (tt : TT) (B : Addr → L2.St → Hp → (Hp → Prop) → Prop) (vs : List Nat) : TE := fun σ H Q => wi σ H fun J H1 => ∀ D, H1 D = none → ∃ W : Nat → Nat → Hp → Prop, (∃ m, W 0 m (upd H1 D (SetX P w D (fun _ => false) 0))) ∧ ∀ i m H, W i m H → (J.stop i H ∧ Q (.ref D) H) ∨ (J.go i H ∧ ∃ N : Hp → Prop, (∀ H', N H' → ∃ m', m' < m ∧ W (i + 1) m' H') ∧ ∀ x H', J.yld i H x H' → g x (wipe σ vs) H' fun σ2 H2 => wipe σ2 vs = wipe σ vs ∧ tt σ2 H2 fun b H3 => if b = true then B D σ2 H3 N else N H3)
/-- what an inner clause asks -/
def bIn (P : Program) (w : World) (wi1 : TI) (g1 : TG) (tt1 : TT) (te : TE) (vs1 : List Nat) (D : Addr) : L2.St → Hp → (Hp → Prop) → Prop := fun τ H N => wi1 τ H fun J1 H4 => ∃ W1 : Nat → Nat → Hp → Prop, (∃ m, W1 0 m H4) ∧ ∀ j k H, W1 j k H → (J1.stop j H ∧ N H) ∨ (J1.go j H ∧ ∃ N1 : Hp → Prop, (∀ H', N1 H' → ∃ k', k' < k ∧ W1 (j + 1) k' H') ∧ ∀ x H', J1.yld j H x H' → g1 x (wipe τ vs1) H' fun σ3 H5 => wipe σ3 vs1 = wipe τ vs1 ∧ tt1 σ3 H5 fun b H6 => if b = true then bAdd P w D te σ3 H6 N1 else N1 H6)
/-- the block that a comprehension runs in -/
abbrev blkC (X : Cx) (s : Shared) (H : Hp) (scope : Scope) (fp : List Addr) : Cx := X.blk s H scope (compEnvC scope (cellsFrom (s.heap.objs.size + 1) scope.names (cloFrom X.env.cells scope.names [])) s.heap.objs.size X.env) fp
section
variable {X : Cx} {elt tg iter : Expr} {ifs : List Expr} {rest : List Comprehension} {scope : Scope} {own : List (Str × Nat)} {pos pos' : Pos} {wi : TI} {g : TG} {tt : TT} {B : Addr → L2.St → Hp → (Hp → Prop) → Prop}
theorem scG_core (bodyK : Addr → Addr → Env → Sem PySem.Fin) (hc : X.calm = true) (hN : X.N.Nodup) (hi : PI X tg iter wi) (ok : BlkOk X.N X.env.scope scope own)
    (hg : ∀ s H fp, PG (blkC X s H scope fp) tg g) (ht : ∀ s H fp, PTs (blkC X s H scope fp) ifs tt) (hs : ∀ x, foldedSetIterable iter X.env x = pure x)
    (hden : ∀ (it D : Addr) (env : Env), compTurn (.SetComp elt (⟨tg, iter, ifs, 0⟩ :: rest) scope pos) 0 (.ref it) (.ref D) env = oneTurn (.compLoop (.SetComp elt (⟨tg, iter, ifs, 0⟩ :: rest) scope pos) 0 (.ref it) (.ref D) env) iter.pos tg ifs (.ref it) env (bodyK it D env))
    (hb : ∀ (s0 : Shared) (H0 : Hp) (fp : List Addr) (it D : Addr) pins' s τ H (N : Hp → Prop), Inv (blkC X s0 H0 scope fp) pins' τ H s → B D τ H N →
      wpAny (model X.prog X.w) X.A (bodyK it D (blkC X s0 H0 scope fp).env) (fun r s' => r = .again (.compLoop (.SetComp elt (⟨tg, iter, ifs, 0⟩ :: rest) scope pos) 0 (.ref it) (.ref D) (blkC X s0 H0 scope fp).env) ∧ ∃ τ' H', Inv (blkC X s0 H0 scope fp) pins' τ' H' s' ∧ Slots τ τ' (own.map (·.2)) ∧ N H') (blkC X s0 H0 scope fp).xe s) :
    PE X (.SetComp elt (⟨tg, iter, ifs, 0⟩ :: rest) scope pos) (tScG X.prog X.w wi g tt B (own.map (·.2))) := by
  refine ⟨fun pins s σ H Q I h => ?_⟩
  show wpAny _ _ (comprehension (.SetComp elt (⟨tg, iter, ifs, 0⟩ :: rest) scope pos) scope X.env _ (newSet (.type "set")) false (eval iter X.env) none) _ _ _
  have free : ∀ y ∈ scope.names, y.2 = .free → ∃ c, X.env.cells.lookup y.1 = some c := fun y hy e => (ok.free y hy e).elim (fun k => I.ok.has _ (.inl k)) fun k => I.ok.has _ (.inr k)
  refine wpAny_comprehension_free (use := none) rfl hs (closure_ok free) ok.kind (fun y hy e => by rw [ok.uniq y hy, e]) (thn (hi.run pins s σ H _ I h) fun xv s1 hx => thn hx fun itv s2 ⟨it, fp, tn, J, H2, eit, I2, T, t2, f2, q⟩ => PpSet.newSet_ok (newEnv_comp ?_))
  subst eit
  have fresh : H2 s2.heap.objs.size = none := I2.hok.fresh (Nat.le_refl _)
  obtain ⟨W, ⟨m0, w0⟩, turn⟩ := q _ fresh
  have old : ∀ b ∈ fp, b < s2.heap.objs.size := fun b hb => let ⟨o, e, _⟩ := T.obj _ _ t2 b hb; Heap.lt_size e
  -- with the new set
  obtain ⟨D, eD⟩ : ∃ D, s2.heap.objs.size = D := ⟨_, rfl⟩
  obtain ⟨s3, e3⟩ : ∃ s3 : Shared, s3 = { s2 with heap := s2.heap.push (emptyS X.w) } := ⟨_, rfl⟩
  have h3 : s3.heap = s2.heap.push (emptyS X.w) := by rw [e3]
  obtain ⟨H3, eH⟩ : ∃ H3, H3 = upd H2 s2.heap.objs.size (SetX X.prog X.w s2.heap.objs.size (fun _ => false) 0) := ⟨_, rfl⟩
  have I3 : Inv X pins σ H3 s3 := by
    rw [eH, e3]
    exact I2.laid (t' := s2.toks) (fun b o e => Heap.get?_push_of_some _ e) (Nat.le_refl _) (setX_new setG_new)
  have f3 : ∀ b ∈ fp, FpOk X pins H3 b ∧ b < s3.heap.objs.size := fun b hb => by
    have lt := old b hb
    refine ⟨⟨?_, (f2 b hb).2⟩, by rw [h3, Heap.size_push] <;> exact Nat.lt_succ_of_lt lt⟩
    rw [eH, upd_ne (Nat.ne_of_lt lt)] <;> exact (f2 b hb).1
  have t3 : tn 0 s3.heap := T.keep _ _ _ t2 fun b _ o e => by rw [h3] <;> exact Heap.get?_push_of_some _ e
  rw [← eH] at w0
  rw [eD] at turn
  show codeAny _ _ (.compStart (.SetComp elt (⟨tg, iter, ifs, 0⟩ :: rest) scope pos) 0 (.ref it) (.ref s2.heap.objs.size) _) (compPost _ _ _ _ _ (.ref s2.heap.objs.size) _) _
  rw [eD]
  have I4 := block_start I3 ok hN f3
  have goal : codeAny (model X.prog X.w) X.A (.compStart (.SetComp elt (⟨tg, iter, ifs, 0⟩ :: rest) scope pos) 0 (.ref it) (.ref D) (blkC X s3 H3 scope fp).env) (compPost (model X.prog X.w) X.A X.xe none (EP X pins σ Q) (.ref D) s3.heap.objs.size) { s3 with heap := pushCells (s3.heap.push { cls := .type "dict", data := .dict #[] }) scope.names } := by
    have t4 : tn 0 ({ s3 with heap := pushCells (s3.heap.push { cls := .type "dict", data := .dict #[] }) scope.names } : Shared).heap := T.keep _ _ _ t3 fun b _ o e => pushCells_keeps _ _ _ _ (Heap.get?_push_of_some _ e)
    revert I4 t4
    generalize ({ s3 with heap := pushCells (s3.heap.push { cls := .type "dict", data := .dict #[] }) scope.names } : Shared) = s4
    intro I4 t4
    have stat : ∀ {H' : Hp}, (∀ b ∈ fp, H' b = none) → ∀ b ∈ fp, FpOk (blkC X s3 H3 scope fp) [] H' b := fun hn b hb =>
      ⟨hn b hb, (I4.ok.exf b hb).1, I4.ok.exfs b hb, .inl hb, fun x c e => (I4.ok.exf b hb).2 x c e, fun p hp => nomatch (show p ∈ ([] : List (Addr × Obj)) from hp)⟩
    have loop := loop_any (Y := blkC X s3 H3 scope fp) (e := .SetComp elt (⟨tg, iter, ifs, 0⟩ :: rest) scope pos) (ci := 0) (it := it) (acc := .ref D) (ip := iter.pos) (body := bodyK it D (blkC X s3 H3 scope fp).env) (R := compPost (model X.prog X.w) X.A X.xe none (EP X pins σ Q) (.ref D) s3.heap.objs.size) (σ := σ) (vs := own.map (·.2)) (pins := []) (B D)
      (by show (compTurn _ 0 (.ref it) (.ref D) _).onRaise _ = _; rw [hden]) rfl rfl hc T (hg s3 H3 fp) (ht s3 H3 fp) (fun _ _ z => z) (fun pins' s τ H N _ I' b => hb s3 H3 fp it D pins' s τ H N I' b) stat W (fun H => Q (.ref D) H) turn (fun s' H' I' qq => ?_) m0 s4 H3 w0 I4 t4 (fun b hb => (f3 b hb).1.1)
    · exact PpSet.codeAny_compStart_set loop (T.self X.A 0 _ _ _ t4 loop)
    · have J' : Inv X pins σ H' s' := I3.call' (ch := fp) I'.os I'.base I'.hok I'.bare fun b hb => let z := (f3 b hb).1.2; ⟨z.2.2.1, z.1, z.2.2.2.1, z.2.2.2.2⟩
      obtain ⟨m, hm, _⟩ := I'.loc
      have f := I3.fpOk (H' := H') (Nat.le_refl _) I'.free
      exact ⟨m, hm, fun z sb => ⟨.ref D, H', J'.turned (t' := s'.toks) (fun b o hb e => (sb.2 b hb).trans e) f.1 f.2.1 f.2.2.2.1 f.2.2.2.2.1 f.2.2.2.2.2, rfl, qq⟩⟩
  subst e3
  exact goal
/-- one clause -/
theorem pe_sc1 {te : TE} (hc : X.calm = true) (hN : X.N.Nodup) (hi : PI X tg iter wi) (ok : BlkOk X.N X.env.scope scope own) (hg : ∀ s H fp, PG (blkC X s H scope fp) tg g) (ht : ∀ s H fp, PTs (blkC X s H scope fp) ifs tt) (he : ∀ s H fp, PE (blkC X s H scope fp) elt te)
    (hs : ∀ x, foldedSetIterable iter X.env x = pure x := by intro _; rfl) : PE X (.SetComp elt [⟨tg, iter, ifs, 0⟩] scope pos) (tScG X.prog X.w wi g tt (fun D => bAdd X.prog X.w D te) (own.map (·.2))) :=
  scG_core (B := fun D => bAdd X.prog X.w D te) _ hc hN hi ok hg ht hs (fun it D env => turn_set1 elt tg iter ifs scope pos (.ref it) (.ref D) env) fun s0 H0 fp it D pins' s τ H N I b => body_add (Y := blkC X s0 H0 scope fp) (he s0 H0 fp) pins' s τ H N I b
end
end Ev
set_option maxHeartbeats 4000000
namespace Ev
open PySem PySem.Spec PyProof.Rows L2
theorem start_in {prog : Program} {w : World} {A : Around} {R : Result → Shared → Prop} {s : Shared} {env : Env} {elt t0 i0 t1 i1 : Expr} {ifs0 ifs1 : List Expr} {scope : Scope} {pos : Pos} {it acc : Value}
    (h0 : codeAny (model prog w) A (.compLoop (.SetComp elt [⟨t0, i0, ifs0, 0⟩, ⟨t1, i1, ifs1, 0⟩] scope pos) 1 it acc env) R s)
    (h : wpAny (model prog w) A (pyIter it) (fun j s' => codeAny (model prog w) A (.compLoop (.SetComp elt [⟨t0, i0, ifs0, 0⟩, ⟨t1, i1, ifs1, 0⟩] scope pos) 1 j acc env) R s') (notedBy (model prog w) A env fun x s' => R (.error x) s') s) :
    codeAny (model prog w) A (.compStart (.SetComp elt [⟨t0, i0, ifs0, 0⟩, ⟨t1, i1, ifs1, 0⟩] scope pos) 1 it acc env) R s := by
  refine codeAny_of_tree ?_
  show wpAny _ _ ((compStart _ 1 it acc env).onRaise (fun x => do noteFrame x env; standAt theWindowsPlace)) _ _ s
  refine wpAny_notedAt ?_; unfold compStart
  show wpAny _ _ (ask >>= _) _ _ s
  refine wpAny_bind (wpAny_askSetting (wpAny_ite ?_)); split
  · first | exact wpAny_bind (wpAny_pure (wpAny_pure ⟨rfl, h0⟩)) | exact wpAny_pure ⟨rfl, h0⟩
  · have go : ∀ {W : PySem.Fin → Shared → Prop}, (∀ j s', codeAny (model prog w) A (.compLoop (.SetComp elt [⟨t0, i0, ifs0, 0⟩, ⟨t1, i1, ifs1, 0⟩] scope pos) 1 j acc env) R s' → W (.again (.compLoop (.SetComp elt [⟨t0, i0, ifs0, 0⟩, ⟨t1, i1, ifs1, 0⟩] scope pos) 1 j acc env)) s') → wpAny (model prog w) A (pyIter it >>= fun j => again (.compLoop (.SetComp elt [⟨t0, i0, ifs0, 0⟩, ⟨t1, i1, ifs1, 0⟩] scope pos) 1 j acc env)) W (notedBy (model prog w) A env fun x s' => R (.error x) s') s := fun k => wpAny_bind (wpAny_mono h (fun j s' z => wpAny_pure (k j s' z)) fun _ _ x => x)
    refine wpAny_bind (wpAny_rule ?_)
    show wpAny _ _ (standAt i1.pos >>= _) _ _ s
    exact wpAny_bind (wpAny_standAt (go fun j s' z => ⟨rfl, z⟩))
section
variable {X : Cx} {elt tg iter tg1 iter1 : Expr} {ifs ifs1 : List Expr} {scope : Scope} {own : List (Str × Nat)} {vs1 : List Nat} {pos : Pos} {wi wi1 : TI} {g g1 : TG} {tt tt1 : TT} {te : TE}
theorem body_in (hc : X.calm = true) (hv : ∀ i ∈ vs1, i ∈ own.map (·.2)) (hi1 : ∀ s H fp, PI (blkC X s H scope fp) tg1 iter1 wi1) (hg1 : ∀ s H fp, PG (blkC X s H scope fp) tg1 g1) (ht1 : ∀ s H fp, PTs (blkC X s H scope fp) ifs1 tt1) (he : ∀ s H fp, PE (blkC X s H scope fp) elt te) (hs1 : ∀ env x, foldedSetIterable iter1 env x = pure x)
    (s0 : Shared) (H0 : Hp) (fp : List Addr) (it D : Addr) pins' s τ H (N : Hp → Prop) (I : Inv (blkC X s0 H0 scope fp) pins' τ H s) (b : bIn X.prog X.w wi1 g1 tt1 te vs1 D τ H N) :
    wpAny (model X.prog X.w) X.A (eval iter1 (blkC X s0 H0 scope fp).env >>= fun x => standAt iter1.pos >>= fun _ => foldedSetIterable iter1 (blkC X s0 H0 scope fp).env x >>= fun x => holding [x] (pyIter x) >>= fun j => runOwn (.compStart (.SetComp elt [⟨tg, iter, ifs, 0⟩, ⟨tg1, iter1, ifs1, 0⟩] scope pos) 1 j (.ref D) (blkC X s0 H0 scope fp).env) (blkC X s0 H0 scope fp).env >>= fun _ => again (.compLoop (.SetComp elt [⟨tg, iter, ifs, 0⟩, ⟨tg1, iter1, ifs1, 0⟩] scope pos) 0 (.ref it) (.ref D) (blkC X s0 H0 scope fp).env))
      (fun r s' => r = .again (.compLoop (.SetComp elt [⟨tg, iter, ifs, 0⟩, ⟨tg1, iter1, ifs1, 0⟩] scope pos) 0 (.ref it) (.ref D) (blkC X s0 H0 scope fp).env) ∧ ∃ τ' H', Inv (blkC X s0 H0 scope fp) pins' τ' H' s' ∧ Slots τ τ' (own.map (·.2)) ∧ N H') (blkC X s0 H0 scope fp).xe s := by
  refine wpAny_bind (thn ((hi1 s0 H0 fp).run pins' s τ H _ I b) fun x s1 hx => wpAny_bind (wpAny_standAt (wpAny_bind (wpAny_of_eq (hs1 _ x) (wpAny_bind (wpAny_holding (thn hx fun j s2 h2 => ?_)))))))
  obtain ⟨it1, fp1, tn1, J1, H2, ej, I2, T1, t2, f2, W1, ⟨m1, w1⟩, turn1⟩ := h2
  subst ej
  have loop := loop_any (Y := blkC X s0 H0 scope fp) (e := .SetComp elt [⟨tg, iter, ifs, 0⟩, ⟨tg1, iter1, ifs1, 0⟩] scope pos) (ci := 1) (it := it1) (acc := .ref D) (ip := iter1.pos) (R := fun r s' => match r with | .ok _ => ∃ τ' H', Inv (blkC X s0 H0 scope fp) pins' τ' H' s' ∧ Slots τ τ' (own.map (·.2)) ∧ N H' | .error _ => False) (σ := τ) (vs := vs1) (pins := pins') (bAdd X.prog X.w D te)
    (by show (compTurn _ 1 (.ref it1) (.ref D) _).onRaise _ = _; rw [turn_set2i]) rfl rfl hc T1 (hg1 s0 H0 fp) (ht1 s0 H0 fp) (fun _ _ z => z) (fun pins' s τ H N _ I' b => body_add (Y := blkC X s0 H0 scope fp) (he s0 H0 fp) pins' s τ H N I' b) (fun hn b hb => ⟨hn b hb, (f2 b hb).2⟩) W1 N turn1 (fun s' H' I' nx => ⟨wipe τ vs1, H', I', ⟨wipe_length τ vs1, fun i v e => ?_⟩, nx⟩) m1 s2 H2 w1 (I2.weak (wipe_length _ _) fun i v e => (wipe_some e).1) t2 (fun b hb => (f2 b hb).1)
  · refine wpAny_bind (wpAny_runOwn ?_)
    rw [Around.mark_none]
    refine codeAny_mono (start_in loop (T1.self X.A 0 _ _ _ t2 loop)) fun r s' hr => ?_
    cases r with
    | ok f => first | exact wpAny_pure ⟨rfl, hr⟩ | exact wpAny_bind (wpAny_pure (wpAny_pure ⟨rfl, hr⟩))
    | error x => exact hr.elim
  · obtain ⟨e1, e2⟩ := wipe_some e
    rw [wipe_out fun z => e2 (hv i z)] <;> exact e1
/-- two clauses -/
theorem pe_sc2 (hc : X.calm = true) (hN : X.N.Nodup) (hi : PI X tg iter wi) (ok : BlkOk X.N X.env.scope scope own) (hv : ∀ i ∈ vs1, i ∈ own.map (·.2)) (hg : ∀ s H fp, PG (blkC X s H scope fp) tg g) (ht : ∀ s H fp, PTs (blkC X s H scope fp) ifs tt)
    (hi1 : ∀ s H fp, PI (blkC X s H scope fp) tg1 iter1 wi1) (hg1 : ∀ s H fp, PG (blkC X s H scope fp) tg1 g1) (ht1 : ∀ s H fp, PTs (blkC X s H scope fp) ifs1 tt1) (he : ∀ s H fp, PE (blkC X s H scope fp) elt te)
    (hs : ∀ x, foldedSetIterable iter X.env x = pure x := by intro _; rfl) (hs1 : ∀ env x, foldedSetIterable iter1 env x = pure x := by intro _ _; rfl) :
    PE X (.SetComp elt [⟨tg, iter, ifs, 0⟩, ⟨tg1, iter1, ifs1, 0⟩] scope pos) (tScG X.prog X.w wi g tt (bIn X.prog X.w wi1 g1 tt1 te vs1) (own.map (·.2))) :=
  scG_core (B := bIn X.prog X.w wi1 g1 tt1 te vs1) _ hc hN hi ok hg ht hs (fun it D env => turn_set2o elt tg iter tg1 iter1 ifs ifs1 scope pos (.ref it) (.ref D) env) (body_in hc hv hi1 hg1 ht1 he hs1)
end
end Ev
set_option maxHeartbeats 4000000
namespace Ev
open PySem PySem.Spec PyProof.Rows L2
/-! sorted, any number: texts, and the members of a set -/
abbrev ltC (x y : Str) : Prop := x.cps.toList < y.cps.toList
def ltSv (v u : Value) : Bool := decide (ltC (strOf v) (strOf u))
theorem swo_str : SrtO.Swo ltSv := by
  refine ⟨fun x y h => decide_eq_false fun z => ?_, fun x y z h1 h2 => decide_eq_false fun h => ?_⟩
  · exact List.lt_irrefl _ (List.lt_trans (of_decide_eq_true h : ltC (strOf x) (strOf y)) z)
  · have a : ¬ ltC (strOf y) (strOf x) := of_decide_eq_false h1
    have b : ¬ ltC (strOf z) (strOf y) := of_decide_eq_false h2
    exact absurd h (List.not_lt.mpr (List.le_trans (List.not_lt.mp a) (List.not_lt.mp b)))
section
variable {prog : Program} {w : World} {A : Around} {E : Value → Shared → Prop} {s : Shared}
theorem str_cmp {vs : List Value} (hI : ∀ v ∈ vs, ∃ x t, v = Value.str x t) : SrtO.Cmp prog w A s oneType' (fun p => p.1 ∈ vs) (SrtO.lt2 ltSv) := fun p q hm hm' => by
  obtain ⟨a, t, e⟩ := hI _ hm
  obtain ⟨b, u, e'⟩ := hI _ hm'
  show wpAny (model prog w) A (keyLt' oneType' p.1 q.1) (fun r s' => s' = s ∧ r = ltSv p.1 q.1) (fun _ _ => False) s
  rw [e, e']
  exact PySem.W.kas_lt_str ⟨rfl, rfl⟩
theorem strs_sortable {a : Addr} {vs : List Value} (hI : ∀ v ∈ vs, ∃ x t, v = Value.str x t) (h2 : 2 ≤ vs.length) : SrtO.SortableO prog w A s a vs ltSv := fun h' _ => by
  refine ⟨oneType', fun Q E hq => ?_, str_cmp hI⟩
  have hS := strsAre_map vs hI
  revert hS h2
  rcases vs with _ | ⟨v, _ | ⟨u, r⟩⟩
  · intro h2; exact absurd h2 (by decide)
  · intro h2; exact absurd h2 (by simp)
  · intro h2 hS; rw [keyKind_strs hS]; exact wpAny_pure hq
theorem ints_sortable2 {a : Addr} {vs : List Value} (hI : ∀ v ∈ vs, ∃ i t, v = Value.int i t) (h2 : 2 ≤ vs.length) : SrtO.SortableO prog w A s a vs SrtO.ltIv := SrtO.ints_sortable (SrtO.ints_iv hI) h2
/-- sorted of a set: its members by ltv, at a new place -/
theorem sorted_setG {K : Type} [DecidableEq K] {κ : KeyKind prog w K} {a : Addr} {S : K → Bool} {n : Nat} {ltv : Value → Value → Bool} {Q : Value → Shared → Prop} (O : SrtO.Swo ltv) (R : SetG κ s.heap a S n) (hh : A.handled = none)
    (so : ∀ (vs : List Value), (∀ v ∈ vs, ∃ k, κ.is k v = true ∧ S k = true) → 2 ≤ vs.length → ∀ (A' : Around) (z : Shared) (d : Addr), SrtO.SortableO prog w A' z d vs ltv)
    (q : ∀ (z : Shared) (p : Addr) (out : List Value) (c : Nat), (∀ b o, s.heap.get? b = some o → z.heap.get? b = some o) → z.gens = s.gens → z.os = s.os → s.heap.objs.size ≤ p → z.heap.get? p = some (seqObj "list" out.toArray c) → SrtO.Srtd ltv out →
      (∀ v ∈ out, ∃ k, κ.is k v = true ∧ S k = true) → (∀ k, S k = true → ∃ v ∈ out, κ.is k v = true) → out.Pairwise (fun u v => ∀ k, κ.is k u = true → κ.is k v = true → False) → out.length = n → Q (.ref p) z) :
    wpAny (model prog w) A (call (.builtin "sorted") [.ref a]) Q E s := by
  obtain ⟨o, es, ep, t, ho, ⟨xs, hd⟩, ⟨hel, nd⟩, hm, ⟨hb, hf, hn⟩, hr, hl⟩ := R
  refine Calls.call_function_entry kind_sorted plain_sorted entry_sorted (args_sorted1 _) ?_; unfold Builtin.«sorted»
  refine wpAny_bind (m := checkCount "sorted" 1 1 _) (wpAny_pure (wpAny_bind (collect_set (A := A.in1) hh ⟨o, ho, xs.1, hd⟩ hf hb hr hl fun s1 vs k1 hz g1 o1 pm => ?_)))
  have len : vs.length = n := by rw [pm.length_eq, List.length_map, Array.length_toList] <;> exact hn
  have small : vs.length ≤ sizeLine := by rw [len, ← hn] <;> exact fits_of_scanBound hb
  have mem : ∀ v ∈ vs, ∃ k, κ.is k v = true ∧ S k = true := fun v hv => by
    obtain ⟨e, he, ev⟩ := List.mem_map.mp (pm.mem_iff.mp hv)
    obtain ⟨⟨k, hk, _⟩, _⟩ := hel e he
    exact ⟨k, by rw [← ev] <;> exact hk, (hm k).mpr ⟨e, he, hk⟩⟩
  have all : ∀ k, S k = true → ∃ v ∈ vs, κ.is k v = true := fun k hk => let ⟨e, he, z⟩ := (hm k).mp hk; ⟨e.2, pm.mem_iff.mpr (List.mem_map.mpr ⟨e, he, rfl⟩), z⟩
  have apart : vs.Pairwise (fun u v => ∀ k, κ.is k u = true → κ.is k v = true → False) := List.Perm.pairwise pm.symm (List.pairwise_map.mpr nd) fun {u v} z k h1 h2 => z k h2 h1
  refine wpAny_bind (wpAny_newList ?_ small)
  have hoL : (s1.heap.push (seqObj "list" vs.toArray 0)).get? s1.heap.objs.size = some (seqObj "list" vs.toArray 0) := Heap.get?_push_size _ rfl
  refine wpAny_bind (wpAny_holding (wpAny_call_entry slot_list_sort ⟨_, hoL, rfl⟩ entry_list_sort (SrtO.list_sort_ord O hoL small (fun h2 => so vs mem h2 _ _ _) fun out h1 h2 => ⟨_, rfl, ?_⟩) (args_list_sort _)))
  obtain ⟨c, hc⟩ := sortedHeap_at (vs := vs) (out := out.toArray) hoL
  have p2 : out.Perm vs := h2.perm
  refine wpAny_pure ⟨_, rfl, q _ s1.heap.objs.size out c (fun b u e => ?_) g1 o1 hz hc h1 (fun v hv => mem v (p2.mem_iff.mp hv)) (fun k hk => let ⟨v, hv, z⟩ := all k hk; ⟨v, p2.mem_iff.mpr hv, z⟩) (List.Perm.pairwise p2.symm apart fun {u v} z k h1 h2 => z k h2 h1) (by rw [p2.length_eq] <;> exact len)⟩
  have e1 := k1 b u e
  have lt := Heap.lt_size e1
  show (sortedHeap (s1.heap.push (seqObj "list" vs.toArray 0)) s1.heap.objs.size vs out.toArray).get? b = some u
  rw [sortedHeap_old (Nat.ne_of_lt lt) (by rw [size_push'] <;> exact Nat.lt_succ_of_lt lt)]; exact Heap.get?_push_of_some _ e1
end
section
variable {X : Cx}
/-- sorted(xs), texts, any number of them -/
def rSortedTx (K : PySem.W.Frag) : List V → Hp → VK → Prop := fun vs H Q => ∃ (a : Addr) (ss : List Str), vs = [V.ref a] ∧ SqL K H a (ss.map V.str) ∧ ∀ (zs : List Str) (p : Addr), zs.Perm ss → zs.Pairwise (fun x y => ¬ ltC y x) → H p = none → Q (.ref p) (upd H p (.lst (zs.map V.str)))
theorem vals_strs : ∀ {out : List Value}, (∀ v ∈ out, ∃ x t, v = Value.str x t) → Vals ((out.map strOf).map V.str) out
  | [], _ => .nil
  | v :: out, h => by
    obtain ⟨x, t, e⟩ := h v List.mem_cons_self
    subst e
    exact .cons ⟨t, rfl⟩ (vals_strs fun u hu => h u (List.mem_cons_of_mem _ hu))
theorem strs_vals : ∀ {ss : List Str} {us : List Value}, Vals (ss.map V.str) us → (∀ v ∈ us, ∃ x t, v = Value.str x t) ∧ us.map strOf = ss
  | [], _, .nil => ⟨fun v h => absurd h (by simp), rfl⟩
  | z :: ss, _, .cons r t => by
    obtain ⟨tk, rfl⟩ := r
    obtain ⟨h1, h2⟩ := strs_vals t
    exact ⟨fun v hv => (List.mem_cons.mp hv).elim (fun e => ⟨z, tk, e⟩) (h1 v), congrArg (z :: ·) h2⟩
theorem cr_sortedTx : CallR X (.builtin "sorted") (rSortedTx X.K) := fun pins s σ H vs us Q I r h => by
  obtain ⟨a, ss, rfl, hs, q⟩ := h
  obtain ⟨its, rv, hl, hz⟩ := I.list hs
  rw [Vals.ref1 r]
  obtain ⟨hI, es⟩ := strs_vals rv
  have lz : its.length ≤ sizeLine := by rw [← rv.length] <;> exact hz
  refine SrtO.sorted_ord swo_str hl.isList lz (fun h2 h₁ a' _ _ => strs_sortable hI h2) fun out h1 h2 => ?_
  obtain ⟨ep, he⟩ := PyProof.Rows.sortedAll_at s.heap its out.toArray
  have hO : ∀ v ∈ out, ∃ x t, v = Value.str x t := fun v hv => hI v (h2.perm.mem_iff.mp hv)
  have lo : ((out.map strOf).map V.str).length ≤ sizeLine := by rw [List.length_map, List.length_map, h2.perm.length_eq] <;> exact lz
  refine ⟨.ref _, upd H (s.heap.objs.size + 1) (.lst ((out.map strOf).map V.str)), I.laid (t' := s.toks) (fun _ _ => PyProof.Rows.sortedAll_old) (Nat.le_succ _) ⟨lo, out, ep, vals_strs hO, he⟩, rfl, q _ _ ?_ ?_ (I.hok.fresh (Nat.le_succ _))⟩
  · rw [← es] <;> exact h2.perm.map strOf
  · exact List.pairwise_map.mpr (h1.imp fun {x y} h => of_decide_eq_false h)
/-- sorted(s), s a set of texts: ascending -/
def rSortedSx (P : Program) (w : World) : List V → Hp → VK → Prop := fun vs H Q => ∃ (a : Addr) (S : Key → Bool) (n : Nat), vs = [V.ref a] ∧ H a = some (SetX P w a S n) ∧ (∀ k, S k = true → ∃ z, k = Sum.inr z) ∧
  ∀ (zs : List Str) (p : Addr), zs.Pairwise ltC → (∀ z, z ∈ zs ↔ S (Sum.inr z) = true) → zs.length = n → H p = none → Q (.ref p) (upd H p (.lst (zs.map V.str)))
theorem ltC_str {x y : Str} (h : ¬ ltC y x) (ne : x ≠ y) : ltC x y := by
  rcases Decidable.em (ltC x y) with z | z
  · exact z
  · refine absurd ?_ ne
    have e : x.cps.toList = y.cps.toList := List.le_antisymm (List.not_lt.mp h) (List.not_lt.mp z)
    cases x; cases y; exact congrArg Str.mk (Array.toList_inj.mp e)
theorem cr_sortedSx (hc : X.calm = true) : CallR X (.builtin "sorted") (rSortedSx X.prog X.w) := fun pins s σ H vs us Q I r h => by
  obtain ⟨a, S, n, rfl, ha, hS, q⟩ := h
  rw [Vals.ref1 r]
  have isS : ∀ v, (∃ k, (mixKind X.prog X.w).is k v = true ∧ S k = true) → ∃ x t, v = Value.str x t ∧ S (.inr x) = true := fun v ⟨k, h1, h2⟩ => by
    obtain ⟨z, rfl⟩ := hS k h2
    rcases keyIs_shape (show keyIs (.inr z) v = true from h1) with ⟨i, t, e1, e2⟩ | ⟨x, t, e1, e2⟩
    · cases e1
    · cases e1; exact ⟨z, t, e2, h2⟩
  refine sorted_setG swo_str (setX_get I ha) (I.ok.hd hc) (fun vs mem h2 A' z d => strs_sortable (fun v hv => let ⟨x, t, e, _⟩ := isS v (mem v hv); ⟨x, t, e⟩) h2) fun z p out c k g o hp hg hs mem all ap hl => ?_
  have hO : ∀ v ∈ out, ∃ x t, v = Value.str x t ∧ S (.inr x) = true := fun v hv => isS v (mem v hv)
  have hV := vals_strs fun v hv => let ⟨x, t, e, _⟩ := hO v hv; ⟨x, t, e⟩
  have lo : ((out.map strOf).map V.str).length ≤ sizeLine := by
    obtain ⟨o, es, ep, t, ho, _, _, _, ⟨hb, hf, hn⟩, _⟩ := setX_get I ha
    rw [List.length_map, List.length_map, hl, ← hn] <;> exact fits_of_scanBound hb
  have hn : H p = none := I.hok.fresh hp
  have J : Inv X pins σ (upd H p (.lst ((out.map strOf).map V.str))) z := I.call' (ch := []) o (Un.laid k hp hn) (I.hok.laid k hp ⟨lo, out, c, hV, hg⟩) (by rw [g] <;> exact I.bare) (fun _ z => nomatch z)
  refine ⟨.ref p, _, J, rfl, q _ p ?_ (fun y => ⟨fun hy => ?_, fun hy => ?_⟩) (by rw [List.length_map] <;> exact hl) hn⟩
  · refine List.pairwise_map.mpr (List.Pairwise.imp_of_mem (fun {u v} hu hv w => ?_) (hs.and ap))
    obtain ⟨x, t, rfl, _⟩ := hO u hu
    obtain ⟨y, t', rfl, _⟩ := hO v hv
    refine ltC_str (of_decide_eq_false w.1) fun e => w.2 (.inr x) (mixKind_str _ _ x t) ?_
    have e : x = y := e
    rw [e] <;> exact mixKind_str _ _ y t'
  · obtain ⟨v, hv, rfl⟩ := List.mem_map.mp hy
    obtain ⟨x, t, rfl, z⟩ := hO v hv
    exact z
  · obtain ⟨v, hv, z⟩ := all _ hy
    obtain ⟨x, t, rfl, _⟩ := hO v hv
    refine List.mem_map.mpr ⟨_, hv, ?_⟩
    have := (mixKind X.prog X.w).inj _ _ _ z (mixKind_str X.prog X.w x t)
    exact (Sum.inr.inj this).symm
/-- len(s) of a set -/
def rLenSx (P : Program) (w : World) : List V → Hp → VK → Prop := fun vs H Q => ∃ (a : Addr) (S : Key → Bool) (n : Nat), vs = [V.ref a] ∧ H a = some (SetX P w a S n) ∧ Q (.int (n : Nat)) H
theorem cr_lenSx : CallR X (.builtin "len") (rLenSx X.prog X.w) := fun pins s σ H vs us Q I r h => by
  obtain ⟨a, S, n, rfl, ha, q⟩ := h
  rw [Vals.ref1 r]
  obtain ⟨o, es, ep, t, ho, ⟨xs, hd⟩, _, _, ⟨hb, hf, hn⟩, _⟩ := setX_get I ha
  subst hn
  have lz : es.size ≤ 16777216 := fits_of_scanBound hb
  exact call_len_set ho xs hd hf (by omega) ⟨.int (es.size : Nat), H, I.tok _, ⟨_, rfl⟩, q⟩
end
end Ev
set_option maxHeartbeats 4000000
namespace Ev
open PySem PySem.Spec PyProof.Rows L2 PySem.W
/-! sorted, lists that read as data; < of data -/
/-- a value, and what it reads as -/
abbrev DV := V × PyData
section
variable {X : Cx}
theorem each_dp {pins : List (Addr × Obj)} {σ : L2.St} {H : Hp} {s : Shared} (I : Inv X pins σ H s) : ∀ {bs : List DV} {us : List Value}, Vals (bs.map (·.1)) us → (∀ b ∈ bs, Dp X.K H b.1 b.2) →
    EachIs (fun v (b : DV) => RelV b.1 v) us bs ∧ EachIs (fun v (b : DV) => ∃ as, Reads s.heap v b.2 as) us bs
  | [], _, .nil, _ => ⟨.nil, .nil⟩
  | b :: bs, _, .cons r t, h => by
    obtain ⟨e1, e2⟩ := each_dp I t fun c hc => h c (List.mem_cons_of_mem _ hc)
    exact ⟨.cons r e1, .cons (Dp.reads I b.2 _ _ (h b List.mem_cons_self) r) e2⟩
theorem each_vals : ∀ {bs : List DV} {us : List Value}, EachIs (fun v (b : DV) => RelV b.1 v) us bs → Vals (bs.map (·.1)) us
  | [], _, .nil => .nil
  | _ :: _, _, .cons r t => .cons r (each_vals t)
def leD (a b : DV) : Bool := dataLe false (fun b : DV => b.2) a b
def rSortedD (K : PySem.W.Frag) : List V → Hp → VK → Prop := fun vs H Q => ∃ (a : Addr) (bs : List DV), vs = [V.ref a] ∧ SqL K H a (bs.map (·.1)) ∧ (∀ b ∈ bs, Dp K H b.1 b.2) ∧ AllAlike (bs.map (·.2)) ∧ Sortable (bs.map (·.2)) ∧ (∀ b ∈ bs, b.2.depth ≤ 60) ∧
  ∀ p, H p = none → Q (.ref p) (upd H p (.lst ((bs.mergeSort leD).map (·.1))))
theorem cr_sortedD (hu : X.A.units + 64 < cLine) : CallR X (.builtin "sorted") (rSortedD X.K) := fun pins s σ H vs us Q I r h => by
  obtain ⟨a, bs, rfl, hs, hd, hal, hk, hdep, q⟩ := h
  obtain ⟨its, rv, hl, hz⟩ := I.list hs
  rw [Vals.ref1 r]
  obtain ⟨e1, e2⟩ := each_dp I rv hd
  have lz : bs.length ≤ sizeLine := by rw [List.length_map] at hz; exact hz
  refine sorted_data (R := fun v (b : DV) => RelV b.1 v) (enc := fun b : DV => b.2) hl.isList e1 e2 hal hk lz (fun b hb => by have := hdep b hb; omega) fun out h1 h2 => ?_
  obtain ⟨ep, he⟩ := PyProof.Rows.sortedAll_at s.heap its out.toArray
  have lo : ((bs.mergeSort leD).map (·.1)).length ≤ sizeLine := by rw [List.length_map, List.length_mergeSort]; exact lz
  exact ⟨.ref _, upd H (s.heap.objs.size + 1) (.lst ((bs.mergeSort leD).map (·.1))), I.laid (t' := s.toks) (fun _ _ => PyProof.Rows.sortedAll_old) (Nat.le_succ _) ⟨lo, out, ep, each_vals h2, he⟩, rfl, q _ (I.hok.fresh (Nat.le_succ _))⟩
/-- x < y of data -/
def rLtD (K : PySem.W.Frag) : R2 := fun x y H Q => ∃ d e, Dp K H x d ∧ Dp K H y e ∧ alike d e = true ∧ d ≠ .none ∧ min d.depth e.depth ≤ 60 ∧ Q (.bl (dataLt d e)) H
theorem op_ltD (hu : X.A.units + 64 < cLine) : OpR X (compareOp .Lt) (rLtD X.K) := by
  intro pins s σ H x y v u Q I rx ry h
  obtain ⟨d, e, hd, he, al, nn, dp, q⟩ := h
  obtain ⟨as, r1⟩ := Dp.reads I d x v hd rx
  obtain ⟨bs, r2⟩ := Dp.reads I e y u he ry
  exact lt_data r1 r2 al nn (by omega) ⟨.bl _, H, I, rfl, q⟩
end
end Ev
set_option maxHeartbeats 4000000
/-! Slices by natural bounds. -/
namespace Ev
open PySem PySem.Spec PyProof.Rows L2
theorem sIx_int {n d : Nat} {i : Int} (h : 0 ≤ i) : HT.sIx n d (some i) = min i.toNat n := by
  show (if i < 0 then (i + (n : Int)).toNat else min i.toNat n) = _
  rw [if_neg (by omega)]
theorem cutV_to {xs : List V} {i : Int} (h : 0 ≤ i) : cutV xs none (some i) = xs.take i.toNat := by
  unfold cutV
  rw [sIx_int h]
  show (xs.drop 0).take (min i.toNat xs.length - 0) = _
  rw [List.drop_zero, Nat.sub_zero, ← List.take_eq_take_min]
theorem cutV_from {xs : List V} {i : Int} (h : 0 ≤ i) : cutV xs (some i) none = xs.drop i.toNat := by
  unfold cutV
  rw [sIx_int h]
  show (xs.drop (min i.toNat xs.length)).take (xs.length - min i.toNat xs.length) = _
  rw [List.take_of_length_le (by rw [List.length_drop]; exact Nat.le_refl _)]
  by_cases g : i.toNat ≤ xs.length
  · rw [Nat.min_eq_left g]
  · rw [Nat.min_eq_right (by omega), List.drop_length, List.drop_of_length_le (by omega)]
theorem cutV_set {xs : List V} {i : Int} {z : V} (h : 0 ≤ i) (h2 : i < xs.length) : cutV xs none (some i) ++ [z] ++ cutV xs (some (i + 1)) none = xs.set i.toNat z := by
  rw [cutV_to h, cutV_from (by omega)]
  have e : (i + 1).toNat = i.toNat + 1 := by omega
  rw [e, List.set_eq_take_append_cons_drop, if_pos (by omega)]
  simp
theorem cutS_to {z : Str} {i : Int} (h : 0 ≤ i) : (cutS z none (some i)).cps.toList = z.cps.toList.take i.toNat := by
  have e : (cutS z none (some i)).cps.toList = (z.cps.toList.drop 0).take (HT.sIx z.length z.length (some i) - 0) := by simp [cutS, HT.sIx]
  rw [e, sIx_int h, List.drop_zero, Nat.sub_zero, len_S, ← List.take_eq_take_min]
theorem cutS_from {z : Str} {i : Int} (h : 0 ≤ i) : (cutS z (some i) none).cps.toList = z.cps.toList.drop i.toNat := by
  have e : (cutS z (some i) none).cps.toList = (z.cps.toList.drop (HT.sIx z.length 0 (some i))).take (z.length - HT.sIx z.length 0 (some i)) := by simp [cutS, HT.sIx]
  rw [e, sIx_int h, len_S]
  rw [List.take_of_length_le (by rw [List.length_drop]; exact Nat.le_refl _)]
  by_cases g : i.toNat ≤ z.cps.toList.length
  · rw [Nat.min_eq_left g]
  · rw [Nat.min_eq_right (by omega), List.drop_length, List.drop_of_length_le (by omega)]
theorem cutS_of {z : Str} {i j : Int} (h : 0 ≤ i) (h2 : i ≤ j) : (cutS z (some i) (some j)).cps.toList = (z.cps.toList.drop i.toNat).take (j - i).toNat := by
  have e : (cutS z (some i) (some j)).cps.toList = (z.cps.toList.drop (HT.sIx z.length 0 (some i))).take (HT.sIx z.length z.length (some j) - HT.sIx z.length 0 (some i)) := by simp [cutS]
  rw [e, sIx_int h, sIx_int (by omega), len_S]
  apply List.ext_getElem?
  intro k
  rw [List.getElem?_take, List.getElem?_take, List.getElem?_drop, List.getElem?_drop]
  by_cases g : i.toNat ≤ z.cps.toList.length
  · rw [Nat.min_eq_left g]
    by_cases a : k < (j - i).toNat
    · rw [if_pos a]
      by_cases b : k < min j.toNat z.cps.toList.length - i.toNat
      · rw [if_pos b]
      · rw [if_neg b]
        exact (List.getElem?_eq_none (by omega)).symm
    · rw [if_neg a, if_neg (by omega)]
  · rw [List.getElem?_eq_none (show z.cps.toList.length ≤ i.toNat + k by omega), if_neg (by omega)]
    split <;> rfl
end Ev
set_option maxHeartbeats 4000000
namespace LawK
open PySem PySem.Spec PyProof.Rows L2 Ev PySem.W
theorem dataLt_sii (x y : Str) (i j k l : Int) : dataLt (.tuple [.str x, .int i, .int j]) (.tuple [.str y, .int k, .int l]) = decide (x.cps.toList < y.cps.toList ∨ x = y ∧ (i < k ∨ i = k ∧ j < l)) := by
  rw [dataLt_tuple, dataLt_cons (by simp [alike]), dataLt_cons (by simp [alike]), dataLt_cons (by simp [alike])]
  have e0 : PyProof.Rows.lexLt itemOrd (keyToksAll []) (keyToksAll []) = false := lex_irrefl _
  rw [e0, dataLt_str, dataLt_int, dataLt_int]
  have e1 : PyData.eqv (.str x) (.str y) = decide (x = y) := by
    simp only [PyData.eqv]
    first | rfl | exact Bool.eq_iff_iff.mpr (by simp)
  have e2 : ∀ a b : Int, PyData.eqv (.int a) (.int b) = decide (a = b) := fun a b => by
    simp only [PyData.eqv]
    first | rfl | exact Bool.eq_iff_iff.mpr (by simp)
  rw [e1, e2, e2]
  by_cases hx : x = y
  · subst hx
    have nl : ¬ x.cps.toList < x.cps.toList := lirr _
    by_cases h1 : i = k
    · subst h1
      by_cases h2 : j = l
      · subst h2; simp [nl]
      · simp [nl, h2]
    · simp [nl, h1]
  · simp [hx]
abbrev cod (z : Str) : LN := z.cps.toList
theorem cod_inj {a b : Str} (h : cod a = cod b) : a = b := by rw [← S_eta a, ← S_eta b]; exact congrArg SX.S h
def row (ts : List Str) (i : Nat) : List Pl := (List.range (tx ts i).length).map fun j => (i, j)
def plN (ts : List Str) (n : Nat) : List Pl := (List.range n).flatMap (row ts)
def pl (ts : List Str) : List Pl := plN ts ts.length
theorem plN_succ (ts : List Str) (n : Nat) : plN ts (n + 1) = plN ts n ++ row ts n := by
  unfold plN
  rw [List.range_succ, List.flatMap_append]
  simp
theorem pl_mem {ts : List Str} {p : Pl} : p ∈ pl ts ↔ InT ts p := by
  unfold pl plN
  rw [List.mem_flatMap]
  constructor
  · rintro ⟨i, hi, h⟩
    obtain ⟨j, hj, rfl⟩ := List.mem_map.mp h
    exact ⟨List.mem_range.mp hi, List.mem_range.mp hj⟩
  · rintro ⟨h1, h2⟩
    exact ⟨p.1, List.mem_range.mpr h1, List.mem_map.mpr ⟨p.2, List.mem_range.mpr h2, rfl⟩⟩
theorem tx_len {ts : List Str} (h : ∀ t ∈ ts, t.length ≤ 200) (i : Nat) : (tx ts i).length ≤ 200 := by
  rcases Nat.lt_or_ge i ts.length with g | g
  · exact h _ (tx_mem g)
  · unfold tx
    rw [List.getD_eq_getElem?_getD, List.getElem?_eq_none (by omega)]
    exact Nat.zero_le _
theorem plN_len {ts : List Str} (h : ∀ t ∈ ts, t.length ≤ 200) (n : Nat) : (plN ts n).length ≤ 200 * n := by
  induction n with
  | zero => exact Nat.le_refl _
  | succ n ih =>
    rw [plN_succ, List.length_append]
    have : (row ts n).length = (tx ts n).length := by unfold row; rw [List.length_map, List.length_range]
    have := tx_len h n
    omega
/-- the ending from a place on -/
def sfx (ts : List Str) (p : Pl) : Str := cutS (tx ts p.1) (some ((p.2 : Nat) : Int)) none
theorem sfx_cod (ts : List Str) (p : Pl) : cod (sfx ts p) = (cod (tx ts p.1)).drop p.2 := cutS_from (Int.natCast_nonneg _)
theorem sfx_len (ts : List Str) (p : Pl) : (sfx ts p).length = (tx ts p.1).length - p.2 := by rw [len_S, len_S, ← List.length_drop]; exact congrArg List.length (sfx_cod ts p)
def enc (ts : List Str) (p : Pl) : PyData := .tuple [.str (sfx ts p), .int (p.1 : Nat), .int (p.2 : Nat)]
def leE (d e : PyData) : Bool := !dataLt e d
def leP (ts : List Str) (p q : Pl) : Bool := leE (enc ts p) (enc ts q)
theorem leP_eq (ts : List Str) (p q : Pl) : leP ts p q = true ↔ ¬ (cod (sfx ts q) < cod (sfx ts p) ∨ sfx ts q = sfx ts p ∧ ((q.1 : Int) < p.1 ∨ (q.1 : Int) = p.1 ∧ (q.2 : Int) < p.2)) := by
  unfold leP leE enc
  rw [dataLt_sii, Bool.not_eq_true', decide_eq_false_iff_not]
theorem leP_trans (ts : List Str) (a b c : Pl) (h : leP ts a b = true) (k : leP ts b c = true) : leP ts a c = true := by
  rw [leP_eq] at *
  rintro (e | ⟨e, f⟩)
  · exact lle (fun z => h (.inl z)) (fun z => k (.inl z)) e
  · have e1 : cod (sfx ts a) = cod (sfx ts b) := by
      rcases ltri (cod (sfx ts a)) (cod (sfx ts b)) with z | z | z
      · exact absurd (.inl (by rw [e]; exact z)) k
      · exact z
      · exact absurd (.inl z) h
    have e2 := cod_inj e1
    have n1 : ¬ ((b.1 : Int) < a.1 ∨ (b.1 : Int) = a.1 ∧ (b.2 : Int) < a.2) := fun z => h (.inr ⟨e2.symm, z⟩)
    have n2 : ¬ ((c.1 : Int) < b.1 ∨ (c.1 : Int) = b.1 ∧ (c.2 : Int) < b.2) := fun z => k (.inr ⟨e.trans e2, z⟩)
    omega
theorem leP_total (ts : List Str) (a b : Pl) : (leP ts a b || leP ts b a) = true := by
  rw [Bool.or_eq_true, leP_eq, leP_eq]
  refine Classical.byContradiction fun c => ?_
  rw [not_or, Classical.not_not, Classical.not_not] at c
  obtain ⟨x | ⟨x, f⟩, y | ⟨y, g⟩⟩ := c
  · exact lirr _ (ltr x y)
  · rw [y] at x; exact lirr _ x
  · rw [x] at y; exact lirr _ y
  · omega
/-- all places, by their endings -/
def ord (ts : List Str) : List Pl := (pl ts).mergeSort (leP ts)
theorem ord_perm (ts : List Str) : (ord ts).Perm (pl ts) := List.mergeSort_perm _ _
theorem ord_mem {ts : List Str} {p : Pl} : p ∈ ord ts ↔ InT ts p := by rw [← pl_mem]; exact (ord_perm ts).mem_iff
/-- the codes of the i-th ending -/
def sOf (ts : List Str) (i : Nat) : LN := cod (sfx ts ((ord ts).getD i (0, 0)))
theorem ordD {ts : List Str} {i : Nat} (h : i < (ord ts).length) : (ord ts)[i]? = some ((ord ts).getD i (0, 0)) ∧ InT ts ((ord ts).getD i (0, 0)) := by
  have e : (ord ts).getD i (0, 0) = (ord ts)[i] := by rw [List.getD_eq_getElem?_getD, List.getElem?_eq_getElem h]; rfl
  rw [e]
  exact ⟨List.getElem?_eq_getElem h, ord_mem.mp (List.getElem_mem h)⟩
theorem ord_srt (ts : List Str) : Srt (sOf ts) (ord ts).length := by
  intro i j hij hj e
  have p : (ord ts).Pairwise fun a b => leP ts a b = true := List.pairwise_mergeSort (leP_trans ts) (leP_total ts) (pl ts)
  have q := List.pairwise_iff_getElem.mp p i j (by omega) hj hij
  rw [leP_eq] at q
  unfold sOf at e
  rw [List.getD_eq_getElem?_getD, List.getD_eq_getElem?_getD, List.getElem?_eq_getElem hj, List.getElem?_eq_getElem (show i < (ord ts).length by omega)] at e
  exact q (.inl e)
/-! ### lists of pairs in the heap -/
def PsL (H : Hp) (a : Addr) (ps : List Pl) : Prop := ∃ vs, H a = some (.lst vs) ∧ All2 (PAt H) vs ps
theorem PsL.same {H H' : Hp} {a : Addr} {ps : List Pl} (k : Same H H') (h : PsL H a ps) : PsL H' a ps := let ⟨vs, e, q⟩ := h; ⟨vs, k _ _ e, q.imp fun _ _ r => r.same k⟩
/-- an ending and its place -/
def RAt (ts : List Str) (H : Hp) (v : V) (p : Pl) : Prop := ∃ b, v = .ref b ∧ H b = some (.tup [.str (sfx ts p), .int (p.1 : Nat), .int (p.2 : Nat)])
theorem RAt.same {ts : List Str} {H H' : Hp} {v : V} {p : Pl} (k : Same H H') (h : RAt ts H v p) : RAt ts H' v p := let ⟨b, e, q⟩ := h; ⟨b, e, k _ _ q⟩
theorem All2.zs {α β : Type} {R : α → β → Prop} {xs : List α} {ys : List β} (h : All2 R xs ys) : ∃ zs : List (α × β), xs = zs.map (·.1) ∧ ys = zs.map (·.2) ∧ ∀ z ∈ zs, R z.1 z.2 := by
  induction h with
  | nil => exact ⟨[], rfl, rfl, fun z h => absurd h (by simp)⟩
  | @cons x y xs ys r _ ih =>
    obtain ⟨zs, e1, e2, h⟩ := ih
    refine ⟨(x, y) :: zs, by rw [e1]; rfl, by rw [e2]; rfl, fun z hz => ?_⟩
    rcases List.mem_cons.mp hz with e | e
    · rw [e]; exact r
    · exact h z e
theorem All2.ofZ {α β : Type} {R : α → β → Prop} : ∀ {zs : List (α × β)}, (∀ z ∈ zs, R z.1 z.2) → All2 R (zs.map (·.1)) (zs.map (·.2))
  | [], _ => .nil
  | z :: zs, h => .cons (h z List.mem_cons_self) (All2.ofZ fun y hy => h y (List.mem_cons_of_mem _ hy))
theorem enc_depth (ts : List Str) (p : Pl) : (enc ts p).depth ≤ 60 := by
  unfold enc
  simp [PyData.depth, PyData.depthAll]
theorem enc_alike (ts : List Str) (p q : Pl) : alike (enc ts p) (enc ts q) = true := by
  unfold enc
  simp [alike, alikeAll]
theorem enc_dp {ts : List Str} {K : PySem.W.Frag} {H : Hp} {v : V} {p : Pl} (h : RAt ts H v p) : Dp K H v (enc ts p) := by
  obtain ⟨b, rfl, e⟩ := h
  exact .tup (SqT.of e) (.cons (.str _) (.cons (.int _) (.cons (.int _) .nil)))
/-- sorted of a list of rows -/
theorem sorted_rows {ts : List Str} {K : PySem.W.Frag} {H : Hp} {a : Addr} {vs : List V} {ps : List Pl} {Q : VK} (ha : H a = some (.lst vs)) (h : All2 (RAt ts H) vs ps)
    (q : ∀ p vs', H p = none → All2 (RAt ts H) vs' (ps.mergeSort (leP ts)) → Q (.ref p) (upd H p (.lst vs'))) : rSortedD K [.ref a] H Q := by
  obtain ⟨zs, rfl, rfl, hz⟩ := h.zs
  have em : ∀ z : V × Pl, z ∈ zs → z ∈ zs := fun _ h => h
  refine ⟨a, zs.map (fun z => (z.1, enc ts z.2)), rfl, ?_, ?_, ?_, ?_, ?_, fun p np => ?_⟩
  · rw [List.map_map]; exact sq_of ha
  · intro b hb
    obtain ⟨z, hz', rfl⟩ := List.mem_map.mp hb
    exact enc_dp (hz z hz')
  · rw [List.map_map]
    exact AllAlike.of (enc := fun z : V × Pl => enc ts z.2) fun b b' => enc_alike ts _ _
  · rw [List.map_map]
    exact Sortable.tuples (enc := fun z : V × Pl => enc ts z.2) fun b => ⟨_, _, rfl⟩
  · intro b hb
    obtain ⟨z, hz', rfl⟩ := List.mem_map.mp hb
    exact enc_depth ts z.2
  · have e1 : (zs.map fun z => ((z.1, enc ts z.2) : DV)).mergeSort leD = (zs.mergeSort fun z w => leP ts z.2 w.2).map fun z => (z.1, enc ts z.2) := (List.map_mergeSort (r := fun z w : V × Pl => leP ts z.2 w.2) (s := leD) (f := fun z : V × Pl => ((z.1, enc ts z.2) : DV)) (l := zs) fun x _ y _ => rfl).symm
    have e2 : (zs.map (·.2)).mergeSort (leP ts) = (zs.mergeSort fun z w => leP ts z.2 w.2).map (·.2) := (List.map_mergeSort (r := fun z w : V × Pl => leP ts z.2 w.2) (s := leP ts) (f := fun z : V × Pl => z.2) (l := zs) fun x _ y _ => rfl).symm
    rw [e2] at q
    rw [e1, List.map_map]
    exact q p _ np (All2.ofZ fun z hz' => hz z ((List.mergeSort_perm _ _).mem_iff.mp hz'))
end LawK
set_option maxHeartbeats 4000000
namespace LawK
open PySem PySem.Spec PyProof.Rows L2 Ev

theorem walk_en {K : PySem.W.Frag} {a : Addr} {xs : List V} : Walk (Iten K a) xs.length (fun H => SqT K H a xs) (YPair (fun i => some (.int (i : Nat))) (fun i => xs[i]?)) := by
  refine ⟨fun i _ hi q => ⟨xs, xs[i], q, by simp [hi]⟩, fun _ q => ⟨xs, q, Nat.le_refl _⟩, fun i H v H' _ q y => ?_⟩
  obtain ⟨T, x, h1, h2, h3, h4⟩ := y
  exact ⟨T, .int (i : Nat), x, h1, h2, h3, rfl, h4 xs q⟩
def spAllPlaces (C : Addr) : Sp := fun vs H Q _ => ∃ (s : Addr) (ts : List Str), vs = [.ref s] ∧ LibAt H C s ts ∧ ∀ a H', Same H H' → H a = none → PsL H' a (pl ts) → Q (.ref a) H'
def spInOrder (C : Addr) : Sp := fun vs H Q _ => ∃ (s f : Addr) (ts : List Str) (ps : List Pl), vs = [.ref s, .ref f] ∧ LibAt H C s ts ∧ PsL H f ps ∧ ps.length ≤ 2000 ∧ (∀ p ∈ ps, InT ts p) ∧ ∀ a H', Same H H' → H a = none → PsL H' a (ps.mergeSort (leP ts)) → Q (.ref a) H'
def spEndings (C : Addr) : Sp := fun vs H Q _ => ∃ (s : Addr) (ts : List Str), vs = [.ref s] ∧ LibAt H C s ts ∧ ∀ a H', Same H H' → H a = none → PsL H' a (ord ts) → Q (.ref a) H'
def spEnding (C : Addr) : Sp := fun vs H Q _ => ∃ (s : Addr) (ts : List Str) (v : V) (p : Pl), vs = [.ref s, v] ∧ LibAt H C s ts ∧ PAt H v p ∧ InT ts p ∧ Q (.str (sfx ts p)) H
/-- the law's texts -/
structure TsAt (H : Hp) (a : Addr) (ts : List Str) : Prop where
  at_ : H a = some (.tup (ts.map V.str))
  few : ts.length ≤ 8
  sg : ∀ t ∈ ts, sgB t = true
  len : ∀ t ∈ ts, t.length ≤ 200
theorem TsAt.same {H H' : Hp} {a : Addr} {ts : List Str} (k : Same H H') (h : TsAt H a ts) : TsAt H' a ts := ⟨k _ _ h.at_, h.few, h.sg, h.len⟩
def spLOrder : Sp := fun vs H Q _ => ∃ (a : Addr) (ts : List Str), vs = [.ref a] ∧ TsAt H a ts ∧ ∀ b H', Same H H' → H b = none → PsL H' b (ord ts) → Q (.ref b) H'
def spLPlaces : Sp := fun vs H Q _ => ∃ (a : Addr) (ts : List Str), vs = [.ref a] ∧ TsAt H a ts ∧ ∀ b H', Same H H' → H b = none → PsL H' b (pl ts) → Q (.ref b) H'
def spLEnding : Sp := fun vs H Q _ => ∃ (a : Addr) (ts : List Str) (v : V) (p : Pl), vs = [.ref a, v] ∧ TsAt H a ts ∧ PAt H v p ∧ InT ts p ∧ Q (.str (sfx ts p)) H
theorem add_pair {H : Hp} {D b : Addr} {us : List V} {ps : List Pl} {i j : Nat} {y : V} (nb : H b = none) (hD : H D = some (.lst us)) (hu : All2 (PAt H) us ps) (hy : y = .int (j : Nat)) : All2 (PAt (upd (upd H b (.tup [.int (i : Nat), y])) D (.lst (us ++ [.ref b])))) (us ++ [.ref b]) (ps ++ [(i, j)]) := by
  have nDb : b ≠ D := fun e => by rw [e, hD] at nb; cases nb
  subst hy
  refine All2.snoc (hu.imp fun _ _ ⟨c, e, r⟩ => ⟨c, e, ?_⟩) ⟨b, rfl, ?_⟩
  · rw [upd_ne nDb, upd_same]
  · have ncD : c ≠ D := fun e => by rw [e, hD] at r; cases r
    rw [upd_ne ncD]
    exact (Same.new nb) _ _ r
theorem row_take (ts : List Str) (i j : Nat) (h : j < (tx ts i).length) : (List.range (j + 1)).map (fun k => ((i, k) : Pl)) = (List.range j).map (fun k => (i, k)) ++ [(i, j)] := by
  rw [List.range_succ, List.map_append]
  rfl
theorem All2.app {α β : Type} {R : α → β → Prop} {xs zs : List α} {ys us : List β} (h : All2 R xs ys) (k : All2 R zs us) : All2 R (xs ++ zs) (ys ++ us) := by
  induction h with
  | nil => exact k
  | cons r _ ih => exact .cons r ih
theorem All2.of_at {α β : Type} {R : α → β → Prop} {xs : List α} {ys : List β} (h : All2 R xs ys) {i : Nat} {y : β} (e : ys[i]? = some y) : ∃ x, xs[i]? = some x ∧ R x y := by
  induction h generalizing i with
  | nil => simp at e
  | cons r _ ih => cases i with
    | zero => cases e; exact ⟨_, rfl, r⟩
    | succ i => exact ih e
section
variable {P : Program} {w : World} {K : PySem.W.Frag} {mg : Str → Option Value} {base : Heap}
variable {C fI : Addr} {fdI : FuncData}
abbrev sPAllPlaces : Stmt := topS 14
theorem scPAllPlaces : FnScope ["library", "number", "text", "at"] ["library"] (defScope sPAllPlaces) := ⟨rfl, rfl, rfl, by decide +kernel, rfl, by decide +kernel, by decide +kernel⟩
theorem ok_PAllPlaces {f : Addr} {fd : FuncData} (F : Fun K "all_places" "all_places" sPAllPlaces f fd) (L : LibC K mg C fI fdI)  (T : Glob mg) : FnOk P w K mg base CX0 1 f fd ["library"] (spAllPlaces C) := by
  refine F.ok scPAllPlaces (fun vs H Q E h => ?_) (fun cdv A outer s H vs Q E hr h => ?_)
  · obtain ⟨s, ts, rfl, _⟩ := h
    rfl
  · refine ⟨_, (pss_one (ps_ret (pe_lc2 (own := [("number", 1), ("text", 2), ("at", 3)]) (vs1 := [3]) (g := (gTup K 2 (gCons (gName 1) (gCons (gName 2) gNil)))) (g1 := gName 3) (by rfl) scPAllPlaces.nd (pi_enumT (by rfl) T.enumerate (pa_cons (pe_fld (pv 0) rfl) pa_nil)) (blkOk_by (N := ["library", "number", "text", "at"]) (sc := defScope sPAllPlaces) (by decide +kernel)) (by decide) (fun _ _ _ _ _ => pg_tup (by rfl) (pgs_cons (pg_name (i := 1) scPAllPlaces.nd rfl (.inl rfl)) (pgs_cons (pg_name (i := 2) scPAllPlaces.nd rfl (.inl rfl)) pgs_nil))) (fun _ _ _ _ _ => pts_nil) (fun _ _ _ _ _ => (pi_range1 (by rfl) T.range (pa_cons (pe_callB call_lenZ (by rfl) T.len PySem.boot_len (pa_cons (pv 2) pa_nil)) pa_nil))) (fun _ _ _ _ _ => pg_name (i := 3) scPAllPlaces.nd rfl (.inl rfl)) (fun _ _ _ _ _ => pts_nil) (fun _ _ _ _ _ => (pe_tup (pa_cons (pv 1) (pa_cons (pv 3) pa_nil))))))), ?_⟩
    obtain ⟨p, ts, rfl, hl, q⟩ := h
    have hl0 := hl
    obtain ⟨⟨dx, a, h1, h2⟩, few, sg1, len1⟩ := hl
    refine ⟨.ref p, rfl, p, C, dx, _, .ref a, rfl, h1, L.cl, L.nt, lk1, a, _, rfl, SqT.of h2, fun D nD => wk walk_en (fun i H' => Same H H' ∧ ∃ vs, H' D = some (.lst vs) ∧ All2 (PAt H') vs (plN ts i)) ⟨Same.new nD, [], upd_same, .nil⟩ (fun i H' _ w => SqT.of (w.1 _ _ h2)) ?_ ?_⟩
    · rintro i x H1 H2 hi ⟨k1, vs, hD, hv⟩ ⟨T, x1, x2, rfl, nT, rfl, e1, e2⟩
      rw [List.length_map] at hi
      cases e1
      obtain rfl : V.str (tx ts i) = x2 := Option.some.inj ((tx_at hi).symm.trans e2)
      have k2 : Same H1 (upd H1 T (.tup [.int (i : Nat), .str (tx ts i)])) := Same.new nT
      have hT : upd H1 T (.tup [.int (i : Nat), .str (tx ts i)]) T = some (.tup [.int (i : Nat), .str (tx ts i)]) := upd_same
      revert k2 hT
      generalize upd H1 T (.tup [.int (i : Nat), .str (tx ts i)]) = H2
      intro k2 hT
      have ln1 : (tx ts i).length ≤ 200 := tx_len len1 i
      refine ⟨T, _, rfl, SqT.of hT, rfl, _, _, rfl, _, _, rfl, rfl, rfl, _, rfl, _, rfl, len5 (by omega), _, rfl, by omega, by omega, wk walk_range (fun j H' => Same H H' ∧ ∃ vs, H' D = some (.lst vs) ∧ All2 (PAt H') vs (plN ts i ++ (List.range j).map (fun k => (i, k)))) ⟨k1.trans k2, vs, k2 _ _ hD, by simpa using hv.imp fun _ _ r => r.same k2⟩ (fun _ _ _ _ => trivial) ?_ ?_⟩
      · rintro j y H3 H4 hj ⟨k3, us, hD3, hu⟩ ⟨rfl, rfl⟩
        have hj2 : j < (tx ts i).length := by omega
        refine ⟨rfl, _, rfl, _, rfl, by show 2 ≤ sizeLine; decide, fun b nb => ⟨us, ?_, ?_, sameAt (k3.trans (Same.new nb)) nD, us ++ [.ref b], upd_same, ?_⟩⟩
        · exact (Same.new nb) _ _ hD3
        · have z1 := hu.len
          have z2 := plN_len len1 i
          rw [List.length_append, List.length_map, List.length_range] at z1
          have h3 : sizeLine = 16777216 := sizeLine_eq
          omega
        · rw [row_take ts i j hj2, ← List.append_assoc]
          exact add_pair nb hD3 hu (by show V.int (0 + (j : Int)) = V.int (j : Nat); rw [show (0 + (j : Int)) = (j : Nat) by omega])
      · rintro H3 ⟨k3, us, hD3, hu⟩
        refine ⟨k3, us, hD3, ?_⟩
        rw [plN_succ]
        have e : row ts i = (List.range ((((tx ts i).length : Nat) : Int) - 0).toNat).map (fun k => (i, k)) := by
          unfold row
          rw [show ((((tx ts i).length : Nat) : Int) - 0).toNat = (tx ts i).length by omega]
        rw [e]
        exact hu
    · rintro H1 ⟨k1, vs, hD, hv⟩
      rw [List.length_map] at hv
      exact q D H1 k1 nD ⟨vs, hD, hv⟩
end
end LawK
set_option maxHeartbeats 4000000
namespace LawK
open PySem PySem.Spec PyProof.Rows L2 Ev

theorem take_snoc {α : Type} {xs : List α} {i : Nat} {x : α} (h : xs[i]? = some x) : xs.take (i + 1) = xs.take i ++ [x] := by rw [List.take_succ, h]; rfl
theorem add_row {ts : List Str} {H : Hp} {D b : Addr} {us : List V} {ps : List Pl} {p : Pl} {z : Str} (hz : z = sfx ts p) (nb : H b = none) (hD : H D = some (.lst us)) (hu : All2 (RAt ts H) us ps) : All2 (RAt ts (upd (upd H b (.tup [.str z, .int (p.1 : Nat), .int (p.2 : Nat)])) D (.lst (us ++ [.ref b])))) (us ++ [.ref b]) (ps ++ [p]) := by
  have nDb : b ≠ D := fun e => by rw [e, hD] at nb; cases nb
  subst hz
  refine All2.snoc (hu.imp fun _ _ ⟨c, e, r⟩ => ⟨c, e, ?_⟩) ⟨b, rfl, ?_⟩
  · rw [upd_ne nDb, upd_same]
  · have ncD : c ≠ D := fun e => by rw [e, hD] at r; cases r
    rw [upd_ne ncD]
    exact (Same.new nb) _ _ r
theorem all_at {α β : Type} {R : α → β → Prop} {xs : List α} {ys : List β} (h : All2 R xs ys) {i : Nat} {x : α} (e : xs[i]? = some x) : ∃ y, ys[i]? = some y ∧ R x y := h.at e
/-- from rows in order to their places -/
def tRows (K : PySem.W.Frag) (ts : List Str) (H0 : Hp) (D : Addr) (qs : List Pl) (i : Nat) (H' : Hp) : Prop := Same H0 H' ∧ ∃ us, H' D = some (.lst us) ∧ All2 (PAt H') us (qs.take i)
section
variable {P : Program} {w : World} {K : PySem.W.Frag} {mg : Str → Option Value} {base : Heap}
variable {C fI : Addr} {fdI : FuncData}
abbrev sPInOrder : Stmt := topS 16
theorem scPInOrder : FnScope ["library", "found", "rows", "text", "at", "_"] ["library", "found"] (defScope sPInOrder) := ⟨rfl, rfl, rfl, by decide +kernel, rfl, by decide +kernel, by decide +kernel⟩
theorem ok_PInOrder {f : Addr} {fd : FuncData} (F : Fun K "in_order" "in_order" sPInOrder f fd) (L : LibC K mg C fI fdI)  (T : Glob mg) : FnOk P w K mg base CX0 1 f fd ["library", "found"] (spInOrder C) := by
  refine F.ok scPInOrder (fun vs H Q E h => ?_) (fun cdv A outer s H vs Q E hr h => ?_)
  · obtain ⟨s, f, ts, ps, rfl, _⟩ := h
    rfl
  · refine ⟨_, (pss_cons (ps_setLc (i := 2) (own := [("text", 3), ("at", 4)]) (g := (gTup K 2 (gCons (gName 3) (gCons (gName 4) gNil)))) (by rfl) scPInOrder.nd rfl rfl (sw_true rfl rfl rfl (by decide +kernel)) (pi_list (pv 1)) (blkOk_by (N := ["library", "found", "rows", "text", "at", "_"]) (sc := defScope sPInOrder) (by decide +kernel)) (fun _ _ _ _ _ => pg_tup (by rfl) (pgs_cons (pg_name (i := 3) scPInOrder.nd rfl (.inl rfl)) (pgs_cons (pg_name (i := 4) scPInOrder.nd rfl (.inl rfl)) pgs_nil))) (fun _ _ _ _ _ => pts_nil) (fun _ _ _ _ _ => (pe_tup (pa_cons (pe_slice sl_str (pe_ix (r := rIxT K) (ta := tFld K (tVar 0) "texts") ix_tup (pe_fld (pv 0) rfl) (pv 3) (fun _ _ => rfl)) (po_some (pv 4)) po_none) (pa_cons (pv 3) (pa_cons (pv 4) pa_nil))))))
      (pss_one (ps_ret (pe_lc (own := [("_", 5), ("text", 3), ("at", 4)]) (g := (gTup K 3 (gCons (gName 5) (gCons (gName 3) (gCons (gName 4) gNil))))) (by rfl) scPInOrder.nd (pi_list (pe_callB (cr_sortedD hr.units) (by rfl) T.sorted (by decide +kernel) (pa_cons (pv 2) pa_nil))) (blkOk_by (N := ["library", "found", "rows", "text", "at", "_"]) (sc := defScope sPInOrder) (by decide +kernel)) (fun _ _ _ _ _ => pg_tup (by rfl) (pgs_cons (pg_name (i := 5) scPInOrder.nd rfl (.inl rfl)) (pgs_cons (pg_name (i := 3) scPInOrder.nd rfl (.inl rfl)) (pgs_cons (pg_name (i := 4) scPInOrder.nd rfl (.inl rfl)) pgs_nil)))) (fun _ _ _ _ _ => pts_nil) (fun _ _ _ _ _ => (pe_tup (pa_cons (pv 3) (pa_cons (pv 4) pa_nil)))))))), ?_⟩
    obtain ⟨s, f, ts, ps, rfl, hl, ⟨vs, hf, hv⟩, few, hin, q⟩ := h
    obtain ⟨⟨dx, a, h1, h2⟩, few1, sg1, len1⟩ := hl
    refine ⟨.ref f, rfl, f, rfl, ⟨_, sq_of hf⟩, fun D nD => lc_list (xs := vs) (fun i H' => Same H H' ∧ ∃ us, H' D = some (.lst us) ∧ All2 (RAt ts H') us (ps.take i)) ⟨Same.new nD, [], upd_same, .nil⟩ (fun i H' _ w => sq_of (w.1 _ _ hf)) ?_ ?_⟩
    · rintro i x H2 hx ⟨k2, us, hD, hu⟩
      obtain ⟨p, ep, b, rfl, eb⟩ := hv.at hx
      have ip := hin p (List.mem_of_getElem? ep)
      have eb2 := k2 _ _ eb
      refine ⟨b, _, rfl, SqT.of eb2, rfl, _, _, rfl, _, _, rfl, rfl, rfl, .ref s, rfl, s, C, dx, _, .ref a, rfl, k2 _ _ h1, L.cl, L.nt, lk1, _, rfl, a, _, _, _, rfl, rfl, SqT.of (k2 _ _ h2), atI_nat (tx_at ip.text), _, rfl, _, rfl, _, rfl, len5 (Nat.le_trans (tx_len len1 _) (by decide)), _, rfl, _, rfl, by show 3 ≤ sizeLine; decide, fun c nc => ⟨us, (Same.new nc) _ _ hD, ?_, sameAt (k2.trans (Same.new nc)) nD, us ++ [.ref c], upd_same, ?_⟩⟩
      · have z1 := hu.len
        rw [List.length_take] at z1
        have h3 : sizeLine = 16777216 := sizeLine_eq
        omega
      · rw [take_snoc ep]
        exact add_row rfl nc hD hu
    · rintro H2 ⟨k2, us, hD, hu⟩
      rw [hv.len, List.take_length] at hu
      refine ⟨.ref D, rfl, ?_⟩
      dsimp only [tNil]
      refine sorted_rows hD hu fun A ws nA hw => ?_
      have kA : Same H (upd H2 A (.lst ws)) := k2.trans (Same.new nA)
      have hw := hw.imp fun _ _ r => r.same (Same.new (o := .lst ws) nA)
      have hA : upd H2 A (.lst ws) A = some (.lst ws) := upd_same
      clear nD hD
      revert kA hw hA
      generalize upd H2 A (.lst ws) = HX
      intro kA hw hA
      have lq : (ps.mergeSort (leP ts)).length ≤ 2000 := by rw [List.length_mergeSort]; exact few
      revert q lq hw
      generalize ps.mergeSort (leP ts) = qs
      intro q hw lq
      refine ⟨A, rfl, ⟨_, sq_of hA⟩, fun D nD => lc_list (xs := ws) (fun i H' => Same HX H' ∧ ∃ us, H' D = some (.lst us) ∧ All2 (PAt H') us (qs.take i)) ⟨Same.new nD, [], upd_same, .nil⟩ (fun i H' _ w => sq_of (w.1 _ _ hA)) ?_ ?_⟩
      · rintro i x H2 hx ⟨k2, us, hD, hu⟩
        obtain ⟨p, ep, b, rfl, eb⟩ := hw.at hx
        have eb2 := k2 _ _ eb
        refine ⟨b, _, rfl, SqT.of eb2, rfl, _, _, rfl, _, _, rfl, _, _, rfl, rfl, rfl, _, rfl, _, rfl, by show 2 ≤ sizeLine; decide, fun c nc => ⟨us, (Same.new nc) _ _ hD, ?_, sameAt (k2.trans (Same.new nc)) nD, us ++ [.ref c], upd_same, ?_⟩⟩
        · have z1 := hu.len
          rw [List.length_take] at z1
          have h3 : sizeLine = 16777216 := sizeLine_eq
          have h4 : i < qs.length := (List.getElem?_eq_some_iff.mp ep).1
          omega
        · rw [take_snoc ep]
          exact add_pair nc hD hu rfl
      · rintro H2 ⟨k2, us, hD, hu⟩
        rw [hw.len, List.take_length] at hu
        exact q D H2 (kA.trans k2) (Same.free kA nD) ⟨us, hD, hu⟩
end
end LawK
set_option maxHeartbeats 4000000
namespace LawK
open PySem PySem.Spec PyProof.Rows L2 Ev
section
variable {P : Program} {w : World} {K : PySem.W.Frag} {mg : Str → Option Value} {base : Heap}
variable {C fI : Addr} {fdI : FuncData}
abbrev sPEndings : Stmt := topS 17
theorem scPEndings : FnScope ["library"] ["library"] (defScope sPEndings) := ⟨rfl, rfl, rfl, by decide +kernel, rfl, by decide +kernel, by decide +kernel⟩
theorem ok_PEndings {f : Addr} {fd : FuncData} (F : Fun K "endings" "endings" sPEndings f fd)  {fPAllPlaces : Addr} {fdPAllPlaces : FuncData} (DPAllPlaces : Dk P w K mg base "all_places" sPAllPlaces ["library"] 1 (spAllPlaces C) fPAllPlaces fdPAllPlaces) {fPInOrder : Addr} {fdPInOrder : FuncData} (DPInOrder : Dk P w K mg base "in_order" sPInOrder ["library", "found"] 1 (spInOrder C) fPInOrder fdPInOrder) (T : Glob mg) : FnOk P w K mg base CX0 2 f fd ["library"] (spEndings C) := by
  refine F.ok scPEndings (fun vs H Q E h => ?_) (fun cdv A outer s H vs Q E hr h => ?_)
  · obtain ⟨s, ts, rfl, _⟩ := h
    rfl
  · refine ⟨_, (pss_one (ps_ret (pe_call DPInOrder.ok (hr.mono (by decide)) (by rfl) DPInOrder.g DPInOrder.F.kp DPInOrder.b .nil pass0 (pa_cons (pv 0) (pa_cons (pe_call DPAllPlaces.ok (hr.mono (by decide)) (by rfl) DPAllPlaces.g DPAllPlaces.F.kp DPAllPlaces.b .nil pass0 (pa_cons (pv 0) pa_nil)) pa_nil))))), ?_⟩
    obtain ⟨s, ts, rfl, hl, q⟩ := h
    refine ⟨.ref s, rfl, .ref s, rfl, s, ts, rfl, hl, fun a H1 k1 na hp => ?_⟩
    refine ⟨s, a, ts, pl ts, rfl, hl.same k1, hp, ?_, fun p h => pl_mem.mp h, fun b H2 k2 nb h2 => q b H2 (k1.trans k2) (Same.free k1 nb) h2⟩
    have := plN_len hl.len ts.length
    have := hl.few
    show (plN ts ts.length).length ≤ 2000
    omega
abbrev sPEnding : Stmt := topS 18
theorem scPEnding : FnScope ["library", "place", "text", "at"] ["library", "place"] (defScope sPEnding) := ⟨rfl, rfl, rfl, by decide +kernel, rfl, by decide +kernel, by decide +kernel⟩
theorem ok_PEnding {f : Addr} {fd : FuncData} (F : Fun K "ending" "ending" sPEnding f fd) (L : LibC K mg C fI fdI) {fPPlace : Addr} {fdPPlace : FuncData} (DPPlace : Dk P w K mg base "is_place" sPPlace ["library", "thing"] 2 (spPPlace C) fPPlace fdPPlace) (T : Glob mg) : FnOk P w K mg base CX0 3 f fd ["library", "place"] (spEnding C) := by
  refine F.ok scPEnding (fun vs H Q E h => ?_) (fun cdv A outer s H vs Q E hr h => ?_)
  · obtain ⟨s, ts, v, p, rfl, _⟩ := h
    rfl
  · refine ⟨_, (pss_cons (ps_if (pt_not (pt_val (pe_call DPPlace.ok (hr.mono (by decide)) (by rfl) DPPlace.g DPPlace.F.kp DPPlace.b .nil pass0 (pa_cons (pv 0) (pa_cons (pv 1) pa_nil)))))
      (pss_one ps_dead)
      pss_nil)
      (pss_cons (ps_asg (pv 1) (pg_tup (by rfl) (pgs_cons (pg_name (i := 2) scPEnding.nd rfl (.inl rfl)) (pgs_cons (pg_name (i := 3) scPEnding.nd rfl (.inl rfl)) pgs_nil))))
      (pss_one (ps_ret (pe_slice sl_str (pe_ix ix_tup (pe_fld (pv 0) rfl) (pv 2) (fun _ _ => rfl)) (po_some (pv 3)) po_none))))), ?_⟩
    obtain ⟨s, ts, v, p, rfl, hl, hp, hi, q⟩ := h
    have hl0 := hl
    obtain ⟨⟨dx, a, h1, h2⟩, few, sg1, len1⟩ := hl
    obtain ⟨b, rfl, e⟩ := hp
    refine ⟨.ref s, rfl, .ref b, rfl, s, ts, .ref b, p, rfl, hl0, ⟨b, rfl, e⟩, hi, _, rfl, iteF ?_⟩
    refine ⟨.ref b, rfl, b, _, rfl, SqT.of e, rfl, _, _, rfl, _, _, rfl, rfl, ?_⟩
    exact ⟨.ref s, rfl, s, C, dx, _, .ref a, rfl, h1, L.cl, L.nt, lk1, _, rfl, a, _, _, _, rfl, rfl, SqT.of h2, atI_nat (tx_at hi.text), _, rfl, _, rfl, _, rfl, len5 (Nat.le_trans (tx_len len1 _) (by decide)), q⟩
abbrev sEnding : Stmt := topS 36
theorem scEnding : FnScope ["texts", "place"] ["texts", "place"] (defScope sEnding) := ⟨rfl, rfl, rfl, by decide +kernel, rfl, by decide +kernel, by decide +kernel⟩
theorem ok_Ending {f : Addr} {fd : FuncData} (F : Fun K "_law_ending" "_law_ending" sEnding f fd)   (T : Glob mg) : FnOk P w K mg base CX0 1 f fd ["texts", "place"] spLEnding := by
  refine F.ok scEnding (fun vs H Q E h => ?_) (fun cdv A outer s H vs Q E hr h => ?_)
  · obtain ⟨a, ts, v, p, rfl, _⟩ := h
    rfl
  · refine ⟨_, (pss_one (ps_ret (pe_slice sl_str (pe_ix ix_tup (pv 0) (pe_ix ix_tup (pv 1) pe_int (fun _ _ => rfl)) (fun _ _ => rfl)) (po_some (pe_ix ix_tup (pv 1) pe_int (fun _ _ => rfl))) po_none))), ?_⟩
    obtain ⟨a, ts, v, p, rfl, ht, ⟨b, rfl, e⟩, hi, q⟩ := h
    exact ⟨.ref a, rfl, .ref b, rfl, b, _, 0, _, rfl, rfl, SqT.of e, rfl, a, _, _, _, rfl, rfl, SqT.of ht.at_, atI_nat (tx_at hi.text), .ref b, rfl, b, _, 1, _, rfl, rfl, SqT.of e, rfl, _, rfl, _, rfl, len5 (Nat.le_trans (tx_len ht.len _) (by decide)), q⟩
abbrev sPlaces : Stmt := topS 37
theorem scPlaces : FnScope ["texts", "found", "number", "at"] ["texts"] (defScope sPlaces) := ⟨rfl, rfl, rfl, by decide +kernel, rfl, by decide +kernel, by decide +kernel⟩
theorem ok_Places {f : Addr} {fd : FuncData} (F : Fun K "_law_places" "_law_places" sPlaces f fd)   (T : Glob mg) : FnOk P w K mg base CX0 1 f fd ["texts"] spLPlaces := by
  refine F.ok scPlaces (fun vs H Q E h => ?_) (fun cdv A outer s H vs Q E hr h => ?_)
  · obtain ⟨a, ts, rfl, _⟩ := h
    rfl
  · refine ⟨_, (pss_cons (ps_set (i := 1) scPlaces.nd rfl (.inl rfl) (pe_lst pa_nil))
      (pss_cons (ps_for PassesOwn.never rfl (pi_range1 (by rfl) T.range (pa_cons (pe_callB call_len_seq (by rfl) T.len PySem.boot_len (pa_cons (pv 0) pa_nil)) pa_nil)) (pg_name (i := 2) scPlaces.nd rfl (.inr rfl))
      (pss_one (ps_set (i := 1) scPlaces.nd rfl (.inl rfl) (pe_op op_cat (pv 1) (pe_lc (own := [("at", 3)]) (g := gName 3) (by rfl) scPlaces.nd (pi_range1 (by rfl) T.range (pa_cons (pe_callB call_lenZ (by rfl) T.len PySem.boot_len (pa_cons (pe_ix ix_tup (pv 0) (pv 2) (fun _ _ => rfl)) pa_nil)) pa_nil)) (blkOk_by (N := ["texts", "found", "number", "at"]) (sc := defScope sPlaces) (by decide +kernel)) (fun _ _ _ _ _ => pg_name (i := 3) scPlaces.nd rfl (.inl rfl)) (fun _ _ _ _ _ => pts_nil) (fun _ _ _ _ _ => (pe_tup (pa_cons (pv 2) (pa_cons (pv 3) pa_nil)))))))))
      (pss_one (ps_ret (pv 1))))), ?_⟩
    obtain ⟨a, ts, rfl, ht, q⟩ := h
    refine ⟨by show 0 ≤ sizeLine; decide, fun f nf => ?_⟩
    have lm : (ts.map V.str).length = ts.length := List.length_map ..
    have few8 := ht.few
    refine ⟨.ref a, rfl, a, _, rfl, .inr (SqT.of ((Same.new nf) _ _ ht.at_)), _, rfl, by omega, by omega, for_range (fun i σ H' => ∃ (x y : Option V) (g : Addr) (us : List V), σ = [some (.ref a), some (.ref g), x, y] ∧ H g = none ∧ Same H H' ∧ H' g = some (.lst us) ∧ All2 (PAt H') us (plN ts i)) ⟨_, _, f, [], rfl, nf, Same.new nf, upd_same, .nil⟩ ?_ ?_⟩
    · rintro i σ H1 hi ⟨x, y, g, us, rfl, ng, k1, hg, hu⟩
      rw [lm] at hi
      have hi : i < ts.length := by omega
      have ln1 : (tx ts i).length ≤ 200 := tx_len ht.len i
      have e0 : (0 + (i : Int)) = (i : Nat) := by omega
      rw [e0]
      refine ⟨_, rfl, .ref a, rfl, .int (i : Nat), rfl, a, _, _, _, rfl, rfl, SqT.of (k1 _ _ ht.at_), atI_nat (tx_at hi), _, rfl, len5 (by omega), _, rfl, by omega, by omega, fun D nD => lc_range (fun j H' => Same H1 H' ∧ ∃ vs, H' D = some (.lst vs) ∧ All2 (PAt H') vs ((List.range j).map (fun k => (i, k)))) ⟨Same.new nD, [], upd_same, .nil⟩ ?_ ?_⟩
      · rintro j H2 hj ⟨k2, vs, hD, hv⟩
        have hj2 : j < (tx ts i).length := by omega
        refine ⟨rfl, _, rfl, _, rfl, by show 2 ≤ sizeLine; decide, fun b nb => ⟨vs, (Same.new nb) _ _ hD, ?_, sameAt (k2.trans (Same.new nb)) nD, vs ++ [.ref b], upd_same, ?_⟩⟩
        · have z1 := hv.len
          rw [List.length_map, List.length_range] at z1
          have h3 : sizeLine = 16777216 := sizeLine_eq
          omega
        · rw [row_take ts i j hj2]
          exact add_pair nb hD hv (by show V.int (0 + (j : Int)) = V.int (j : Nat); rw [show (0 + (j : Int)) = (j : Nat) by omega])
      · rintro H2 ⟨k2, vs, hD, hv⟩
        have kk := k1.trans k2
        have e : (List.range (((tx ts i).length : Nat) : Int).toNat).map (fun k => ((i, k) : Pl)) = row ts i := by
          unfold row
          rw [show (((tx ts i).length : Nat) : Int).toNat = (tx ts i).length by omega]
        rw [e] at hv
        refine ⟨g, D, us, vs, rfl, rfl, k2 _ _ hg, hD, ?_, fun G nG => ?_⟩
        · rw [hu.len, hv.len]
          have z2 := plN_len ht.len i
          have : (row ts i).length = (tx ts i).length := by unfold row; rw [List.length_map, List.length_range]
          have h3 : sizeLine = 16777216 := sizeLine_eq
          have := ht.few
          omega
        · refine ⟨_, _, G, us ++ vs, rfl, Same.free kk nG, kk.trans (Same.new nG), upd_same, ?_⟩
          rw [plN_succ]
          have ks : Same H2 (upd H2 G (.lst (us ++ vs))) := Same.new nG
          exact (hu.imp fun _ _ r => r.same (k2.trans ks)).app (hv.imp fun _ _ r => r.same ks)
    
    · rintro σ H1 ⟨x, y, g, us, rfl, ng, k1, hg, hu⟩
      have e2 : (((ts.map V.str).length : Nat) : Int).toNat = ts.length := by omega
      rw [e2] at hu
      exact ⟨.ref g, rfl, q g H1 k1 ng ⟨us, hg, hu⟩⟩
abbrev sOrder : Stmt := topS 35
theorem scOrder : FnScope ["texts", "found", "number", "at", "signs"] ["texts"] (defScope sOrder) := ⟨rfl, rfl, rfl, by decide +kernel, rfl, by decide +kernel, by decide +kernel⟩
theorem ok_Order {f : Addr} {fd : FuncData} (F : Fun K "_law_order" "_law_order" sOrder f fd)   (T : Glob mg) : FnOk P w K mg base CX0 1 f fd ["texts"] spLOrder := by
  refine F.ok scOrder (fun vs H Q E h => ?_) (fun cdv A outer s H vs Q E hr h => ?_)
  · obtain ⟨a, ts, rfl, _⟩ := h
    rfl
  · refine ⟨_, (pss_cons (ps_set (i := 1) scOrder.nd rfl (.inl rfl) (pe_lst pa_nil))
      (pss_cons (ps_for PassesOwn.never rfl (pi_range1 (by rfl) T.range (pa_cons (pe_callB call_len_seq (by rfl) T.len PySem.boot_len (pa_cons (pv 0) pa_nil)) pa_nil)) (pg_name (i := 2) scOrder.nd rfl (.inr rfl))
      (pss_one (ps_set (i := 1) scOrder.nd rfl (.inl rfl) (pe_op op_cat (pv 1) (pe_lc (own := [("at", 3)]) (g := gName 3) (by rfl) scOrder.nd (pi_range1 (by rfl) T.range (pa_cons (pe_callB call_lenZ (by rfl) T.len PySem.boot_len (pa_cons (pe_ix ix_tup (pv 0) (pv 2) (fun _ _ => rfl)) pa_nil)) pa_nil)) (blkOk_by (N := ["texts", "found", "number", "at", "signs"]) (sc := defScope sOrder) (by decide +kernel)) (fun _ _ _ _ _ => pg_name (i := 3) scOrder.nd rfl (.inl rfl)) (fun _ _ _ _ _ => pts_nil) (fun _ _ _ _ _ => (pe_tup (pa_cons (pe_slice sl_str (pe_ix (r := rIxT K) ix_tup (pv 0) (pv 2) (fun _ _ => rfl)) (po_some (pv 3)) po_none) (pa_cons (pv 2) (pa_cons (pv 3) pa_nil))))))))))
      (pss_one (ps_ret (pe_lc (own := [("signs", 4), ("number", 2), ("at", 3)]) (g := (gTup K 3 (gCons (gName 4) (gCons (gName 2) (gCons (gName 3) gNil))))) (by rfl) scOrder.nd (pi_list (pe_callB (cr_sortedD hr.units) (by rfl) T.sorted (by decide +kernel) (pa_cons (pv 1) pa_nil))) (blkOk_by (N := ["texts", "found", "number", "at", "signs"]) (sc := defScope sOrder) (by decide +kernel)) (fun _ _ _ _ _ => pg_tup (by rfl) (pgs_cons (pg_name (i := 4) scOrder.nd rfl (.inl rfl)) (pgs_cons (pg_name (i := 2) scOrder.nd rfl (.inl rfl)) (pgs_cons (pg_name (i := 3) scOrder.nd rfl (.inl rfl)) pgs_nil)))) (fun _ _ _ _ _ => pts_nil) (fun _ _ _ _ _ => (pe_tup (pa_cons (pv 2) (pa_cons (pv 3) pa_nil))))))))), ?_⟩
    obtain ⟨a, ts, rfl, ht, q⟩ := h
    refine ⟨by show 0 ≤ sizeLine; decide, fun f nf => ?_⟩
    have lm : (ts.map V.str).length = ts.length := List.length_map ..
    have few8 := ht.few
    refine ⟨.ref a, rfl, a, _, rfl, .inr (SqT.of ((Same.new nf) _ _ ht.at_)), _, rfl, by omega, by omega, for_range (fun i σ H' => ∃ (x y : Option V) (g : Addr) (us : List V), σ = [some (.ref a), some (.ref g), x, y, none] ∧ H g = none ∧ Same H H' ∧ H' g = some (.lst us) ∧ All2 (RAt ts H') us (plN ts i)) ⟨_, _, f, [], rfl, nf, Same.new nf, upd_same, .nil⟩ ?_ ?_⟩
    · rintro i σ H1 hi ⟨x, y, g, us, rfl, ng, k1, hg, hu⟩
      rw [lm] at hi
      have hi : i < ts.length := by omega
      have ln1 : (tx ts i).length ≤ 200 := tx_len ht.len i
      have e0 : (0 + (i : Int)) = (i : Nat) := by omega
      rw [e0]
      refine ⟨_, rfl, .ref a, rfl, .int (i : Nat), rfl, a, _, _, _, rfl, rfl, SqT.of (k1 _ _ ht.at_), atI_nat (tx_at hi), _, rfl, len5 (by omega), _, rfl, by omega, by omega, fun D nD => lc_range (fun j H' => Same H1 H' ∧ ∃ vs, H' D = some (.lst vs) ∧ All2 (RAt ts H') vs ((List.range j).map (fun k => (i, k)))) ⟨Same.new nD, [], upd_same, .nil⟩ ?_ ?_⟩
      · rintro j H2 hj ⟨k2, vs, hD, hv⟩
        have hj2 : j < (tx ts i).length := by omega
        refine ⟨rfl, .ref a, rfl, .int (i : Nat), rfl, a, _, _, _, rfl, rfl, SqT.of (k2 _ _ (k1 _ _ ht.at_)), atI_nat (tx_at hi), _, rfl, _, rfl, _, rfl, len5 (by omega), _, rfl, _, rfl, by show 3 ≤ sizeLine; decide, fun b nb => ⟨vs, (Same.new nb) _ _ hD, ?_, sameAt (k2.trans (Same.new nb)) nD, vs ++ [.ref b], upd_same, ?_⟩⟩
        · have z1 := hv.len
          rw [List.length_map, List.length_range] at z1
          have h3 : sizeLine = 16777216 := sizeLine_eq
          omega
        · rw [row_take ts i j hj2]
          show All2 (RAt ts (upd (upd H2 b (.tup [.str (cutS (tx ts i) (some (0 + (j : Int))) none), .int (i : Nat), .int (0 + (j : Int))])) D (.lst (vs ++ [.ref b])))) _ _
          rw [show (0 + (j : Int)) = (j : Nat) by omega]
          exact add_row (p := (i, j)) rfl nb hD hv
      · rintro H2 ⟨k2, vs, hD, hv⟩
        have kk := k1.trans k2
        have e : (List.range (((tx ts i).length : Nat) : Int).toNat).map (fun k => ((i, k) : Pl)) = row ts i := by
          unfold row
          rw [show (((tx ts i).length : Nat) : Int).toNat = (tx ts i).length by omega]
        rw [e] at hv
        refine ⟨g, D, us, vs, rfl, rfl, k2 _ _ hg, hD, ?_, fun G nG => ?_⟩
        · rw [hu.len, hv.len]
          have z2 := plN_len ht.len i
          have : (row ts i).length = (tx ts i).length := by unfold row; rw [List.length_map, List.length_range]
          have h3 : sizeLine = 16777216 := sizeLine_eq
          have := ht.few
          omega
        · refine ⟨_, _, G, us ++ vs, rfl, Same.free kk nG, kk.trans (Same.new nG), upd_same, ?_⟩
          rw [plN_succ]
          have ks : Same H2 (upd H2 G (.lst (us ++ vs))) := Same.new nG
          exact (hu.imp fun _ _ r => r.same (k2.trans ks)).app (hv.imp fun _ _ r => r.same ks)
    
    · rintro σ H1 ⟨x, y, g, us, rfl, ng, k1, hg, hu⟩
      have e2 : (((ts.map V.str).length : Nat) : Int).toNat = ts.length := by omega
      rw [e2] at hu
      refine ⟨.ref g, rfl, ?_⟩
      dsimp only [tNil]
      refine sorted_rows hg hu fun A ws nA hw => ?_
      have kA : Same H (upd H1 A (.lst ws)) := k1.trans (Same.new nA)
      have hw := hw.imp fun _ _ r => r.same (Same.new (o := .lst ws) nA)
      have hA : upd H1 A (.lst ws) A = some (.lst ws) := upd_same
      have few : (plN ts ts.length).length ≤ 2000 := by
        have := plN_len ht.len ts.length
        have := ht.few
        omega
      revert kA hw hA
      generalize upd H1 A (.lst ws) = HX
      intro kA hw hA
      have lq : ((plN ts ts.length).mergeSort (leP ts)).length ≤ 2000 := by rw [List.length_mergeSort]; exact few
      have q : ∀ b H', Same H H' → H b = none → PsL H' b ((plN ts ts.length).mergeSort (leP ts)) → Q (.ref b) H' := q
      revert q lq hw
      generalize (plN ts ts.length).mergeSort (leP ts) = qs
      intro hw lq q
      refine ⟨A, rfl, ⟨_, sq_of hA⟩, fun D nD => lc_list (xs := ws) (fun i H' => Same HX H' ∧ ∃ us, H' D = some (.lst us) ∧ All2 (PAt H') us (qs.take i)) ⟨Same.new nD, [], upd_same, .nil⟩ (fun i H' _ w => sq_of (w.1 _ _ hA)) ?_ ?_⟩
      · rintro i x H2 hx ⟨k2, us, hD, hu⟩
        obtain ⟨p, ep, b, rfl, eb⟩ := hw.at hx
        have eb2 := k2 _ _ eb
        refine ⟨b, _, rfl, SqT.of eb2, rfl, _, _, rfl, _, _, rfl, _, _, rfl, rfl, rfl, _, rfl, _, rfl, by show 2 ≤ sizeLine; decide, fun c nc => ⟨us, (Same.new nc) _ _ hD, ?_, sameAt (k2.trans (Same.new nc)) nD, us ++ [.ref c], upd_same, ?_⟩⟩
        · have z1 := hu.len
          rw [List.length_take] at z1
          have h3 : sizeLine = 16777216 := sizeLine_eq
          have h4 : i < qs.length := (List.getElem?_eq_some_iff.mp ep).1
          omega
        · rw [take_snoc ep]
          exact add_pair nc hD hu rfl
      · rintro H2 ⟨k2, us, hD, hu⟩
        rw [hw.len, List.take_length] at hu
        exact q D H2 (kA.trans k2) (Same.free kA nD) ⟨us, hD, hu⟩
end
end LawK
set_option maxHeartbeats 4000000
namespace LawK
open PySem PySem.Spec PyProof.Rows L2 Ev

theorem cut_eq {x y : LN} {a m : Nat} (ha : a ≤ lcp x y) (h : a ≤ m) (hx : m ≤ x.length) (hy : m ≤ y.length) : ((x.drop a).take (m - a) = (y.drop a).take (m - a)) ↔ m ≤ lcp x y := by
  rw [← lcp_take x y hx hy]
  have e1 : ∀ z : LN, z.take m = z.take a ++ (z.drop a).take (m - a) := fun z => by
    rw [← List.take_add, show a + (m - a) = m by omega]
  have e2 := (lcp_take x y (m := a) (by omega) (by omega)).mpr ha
  rw [e1 x, e1 y, e2]
  exact ⟨fun h => by rw [h], fun h => List.append_cancel_left h⟩
theorem lcp_step {x y : LN} {i c d : Nat} (h : i ≤ lcp x y) (hx : x[i]? = some c) (hy : y[i]? = some d) : (c = d → i + 1 ≤ lcp x y) ∧ (c ≠ d → lcp x y = i) := by
  have lx := (List.getElem?_eq_some_iff.mp hx).1
  have ly := (List.getElem?_eq_some_iff.mp hy).1
  have e2 := (lcp_take x y (m := i) (by omega) (by omega)).mpr h
  have e3 := lcp_take x y (m := i + 1) (by omega) (by omega)
  rw [take_snoc hx, take_snoc hy, e2] at e3
  refine ⟨fun e => e3.mp (by rw [e]), fun n => Nat.le_antisymm (Nat.le_of_not_lt fun z => ?_) h⟩
  have := List.append_cancel_left (e3.mpr z)
  exact n (List.cons.inj this).1
def spCommonZ : Sp := fun vs H Q _ => ∃ (x y : Str), vs = [.str x, .str y] ∧ x.length ≤ 5000 ∧ y.length ≤ 5000 ∧ Q (.int (lcp (cod x) (cod y) : Nat)) H
def spCommonP (C : Addr) : Sp := fun vs H Q _ => ∃ (s : Addr) (ts : List Str) (v u : V) (p r : Pl), vs = [.ref s, v, u] ∧ LibAt H C s ts ∧ PAt H v p ∧ InT ts p ∧ PAt H u r ∧ InT ts r ∧ Q (.int (lcp (cod (sfx ts p)) (cod (sfx ts r)) : Nat)) H
abbrev iN (n : Nat) : V := .int (n : Nat)
/-- what neighbours in order have in common -/
def lensOf (ts : List Str) : List Nat := (List.range (ord ts).length).map (ln (sOf ts))
def spLengths (C : Addr) : Sp := fun vs H Q _ => ∃ (s : Addr) (ts : List Str), vs = [.ref s] ∧ LibAt H C s ts ∧ ∀ a H', Same H H' → H a = none → H' a = some (.lst ((lensOf ts).map iN)) → Q (.ref a) H'
def spLLengths : Sp := fun vs H Q _ => ∃ (a b : Addr) (ts : List Str), vs = [.ref a, .ref b] ∧ TsAt H a ts ∧ PsL H b (ord ts) ∧ ∀ d H', Same H H' → H d = none → H' d = some (.lst ((lensOf ts).map iN)) → Q (.ref d) H'
theorem sfx_len2 {ts : List Str} (h : ∀ t ∈ ts, t.length ≤ 200) (p : Pl) : (sfx ts p).length ≤ 200 := by
  have := tx_len h p.1
  rw [sfx_len]
  omega
theorem ord_len {ts : List Str} (h : ∀ t ∈ ts, t.length ≤ 200) (f : ts.length ≤ 8) : (ord ts).length ≤ 1600 := by
  have := plN_len h ts.length
  rw [(ord_perm ts).length_eq]
  show (plN ts ts.length).length ≤ 1600
  omega
theorem ord_at {ts : List Str} {i : Nat} {p : Pl} (h : (ord ts)[i]? = some p) : sOf ts i = cod (sfx ts p) := by
  unfold sOf
  rw [List.getD_eq_getElem?_getD, h]
  rfl
section
variable {P : Program} {w : World} {K : PySem.W.Frag} {mg : Str → Option Value} {base : Heap}
variable {C fI : Addr} {fdI : FuncData}
end
end LawK
set_option maxHeartbeats 4000000
/-! Where a text stands in another within bounds; a text so many times. -/
namespace Ev
open PySem PySem.Spec PyProof.Rows L2 PySem.Builtin.Str
theorem occ_size {x y : Str} {hi lim : Nat} : ∀ (l : List Nat) (a : Array Nat) (k : Nat), 0 < a.size → 0 < ((forIn (m := Id) l (a, k) (StrLaws.occBody x y hi lim)).run.fst).size := by
  intro l
  induction l with
  | nil => intro a k h; exact h
  | cons i r ih =>
    intro a k h
    simp only [List.forIn_cons, StrLaws.occBody]
    split
    · exact ih _ _ (by rw [Array.size_push]; omega)
    · exact ih _ _ h
theorem occ_some {x y : Str} {lo hi i : Nat} (h0 : lo ≤ i) (h1 : i + y.length ≤ hi) (h2 : subAt x y i = true) : occurrences x y lo hi 1 ≠ [] := by
  rw [StrLaws.occ_eq]
  have hm : i ∈ List.range' lo (hi + 1 - lo) := by
    rw [List.mem_range'_1]
    omega
  have hlo : ∀ j ∈ List.range' lo (hi + 1 - lo), lo ≤ j := fun j hj => (List.mem_range'_1.mp hj).1
  revert hm hlo
  generalize List.range' lo (hi + 1 - lo) = l
  suffices H : ∀ (l : List Nat), i ∈ l → (∀ j ∈ l, lo ≤ j) → 0 < ((forIn (m := Id) l ((#[] : Array Nat), lo) (StrLaws.occBody x y hi 1)).run.fst).size by
    intro hm hlo e
    have := H l hm hlo
    rw [← Array.length_toList, e] at this
    exact absurd this (by simp)
  intro l
  induction l with
  | nil => intro h; cases h
  | cons j r ih =>
    intro hm hlo
    simp only [List.forIn_cons, StrLaws.occBody]
    split
    · exact occ_size r _ _ (by rw [Array.size_push]; omega)
    · rename_i hn
      refine ih ?_ (fun j hj => hlo j (List.mem_cons_of_mem _ hj))
      rcases List.mem_cons.mp hm with e | e
      · subst e
        exact absurd ⟨⟨⟨by decide, hlo i (List.mem_cons_self ..)⟩, h1⟩, h2⟩ hn
      · exact e
theorem subAt_iff {x y : Str} {k : Nat} : subAt x y k = true ↔ (x.cps.toList.drop k).take y.length = y.cps.toList := by
  unfold subAt
  rw [beq_iff_eq, ← Array.toList_inj, Array.toList_extract, List.extract_eq_take_drop]
  have : k + y.length - k = y.length := by omega
  rw [this]
/-- the place of y in x ahead of j, or -1 -/
theorem findIn_of {x y : Str} {j : Int} (h : 0 ≤ j) : (∃ k : Nat, Txt.findIn x y 0 j = (k : Int) ∧ (k : Int) + (y.length : Int) ≤ j ∧ (x.cps.toList.drop k).take y.length = y.cps.toList) ∨
    (Txt.findIn x y 0 j = -1 ∧ ∀ k : Nat, (k : Int) + (y.length : Int) ≤ j → k + y.length ≤ x.length → (x.cps.toList.drop k).take y.length ≠ y.cps.toList) := by
  unfold Txt.findIn
  have e0 : fromIndex x.length 0 = 0 := rfl
  have e1 : toIndexW x.length j = min j.toNat x.length := by
    unfold toIndexW
    rw [if_neg (by omega), Int.max_eq_right h]
  rw [e0, e1]
  cases e : occurrences x y 0 (min j.toNat x.length) 1 with
  | nil =>
    refine .inr ⟨rfl, fun k h1 h2 h3 => ?_⟩
    exact occ_some (Nat.zero_le k) (by omega) (subAt_iff.mpr h3) e
  | cons k r =>
    have := StrLaws.occ_spec x y 0 (min j.toNat x.length) 1 k (by rw [e]; exact List.mem_cons_self ..)
    exact .inl ⟨k, rfl, by omega, subAt_iff.mp this.2⟩
theorem fold_rep (x : Array Nat) : ∀ (n : Nat) (acc : Array Nat), ((List.replicate n x).foldl (· ++ ·) acc).toList = acc.toList ++ (List.replicate n x.toList).flatten
  | 0, acc => by simp
  | n + 1, acc => by
    rw [List.replicate_succ, List.foldl_cons, fold_rep x n, Array.toList_append, List.replicate_succ, List.flatten_cons, List.append_assoc]
theorem mul_list {z : Str} {n : Int} (h : 0 ≤ n) : (Txt.mul z n).cps.toList = (List.replicate n.toNat z.cps.toList).flatten := by
  unfold Txt.mul
  by_cases h1 : n < 1
  · rw [if_pos h1]
    have : n.toNat = 0 := by omega
    rw [this]
    rfl
  · rw [if_neg h1]
    split
    · rename_i hc
      rw [Bool.or_eq_true, beq_iff_eq, beq_iff_eq] at hc
      rcases hc with e | e
      · rw [e]
        show _ = (List.replicate 1 _).flatten
        simp
      · have en : z.cps.toList = [] := List.eq_nil_of_length_eq_zero (by rw [← len_S]; exact e)
        rw [en]
        generalize n.toNat = m
        clear h h1
        induction m with
        | zero => rfl
        | succ m ih => rw [List.replicate_succ, List.flatten_cons, List.nil_append]; exact ih
    · show ((List.replicate n.toNat z.cps).foldl (· ++ ·) #[]).toList = _
      rw [fold_rep]
      rfl
theorem rep_at {l : List Nat} (hl : 0 < l.length) : ∀ (n i : Nat), i < n * l.length → ((List.replicate n l).flatten)[i]? = l[i % l.length]?
  | 0, i, h => by omega
  | n + 1, i, h => by
    rw [List.replicate_succ, List.flatten_cons]
    by_cases c : i < l.length
    · rw [List.getElem?_append_left c, Nat.mod_eq_of_lt c]
    · rw [List.getElem?_append_right (by omega), rep_at hl n (i - l.length) (by rw [Nat.succ_mul] at h; omega)]
      have e : i % l.length = (i - l.length) % l.length := Nat.mod_eq_sub_mod (by omega)
      rw [e]
theorem rep_len {l : List Nat} : ∀ (n : Nat), ((List.replicate n l).flatten).length = n * l.length
  | 0 => by simp
  | n + 1 => by rw [List.replicate_succ, List.flatten_cons, List.length_append, rep_len n, Nat.succ_mul]; omega
/-- a text so many times -/
def rMulL : R2 := fun x y H Q => ∃ (z : Str) (n : Int), x = .str z ∧ y = .int n ∧ 0 ≤ n ∧ n ≤ 3000 ∧ z.length ≤ 5000 ∧ Q (.str (Txt.mul z n)) H
theorem op_mulL {X : Cx} : OpR X (binaryOp .Mult) rMulL := by
  intro pins s σ H x y v u Q I rx ry h
  obtain ⟨z, n, rfl, rfl, h0, h1, h2, q⟩ := h
  obtain ⟨t, rfl⟩ := rx
  obtain ⟨t', rfl⟩ := ry
  exact SB.mul (mulOk_of 5000 3000 h2 h1 (by omega) (by decide) (by decide)) fun t' k => ⟨.str _, H, I.tok _, ⟨_, rfl⟩, q⟩
end Ev
set_option maxHeartbeats 4000000
namespace LawK
open PySem PySem.Spec PyProof.Rows L2 Ev
abbrev nP (ts : List Str) : Nat := (ord ts).length
/-- all unlike pieces, in order -/
def due (ts : List Str) : List Str := (pcs (sOf ts) (nP ts)).map SX.S
theorem cod_S (x : LN) : cod (SX.S x) = x := rfl
theorem due_cod (ts : List Str) : (due ts).map cod = pcs (sOf ts) (nP ts) := by
  unfold due
  rw [List.map_map]
  exact List.map_id _
/-- whether the ending from p on begins with w -/
def beg (ts : List Str) (w : Str) (p : Pl) : Bool := decide (cod w <+: cod (sfx ts p))
theorem sOf_ex {ts : List Str} {p : Pl} (h : InT ts p) : ∃ i, i < nP ts ∧ sOf ts i = cod (sfx ts p) := by
  obtain ⟨i, hi, e⟩ := List.mem_iff_getElem.mp (ord_mem.mpr h)
  exact ⟨i, hi, ord_at (by rw [List.getElem?_eq_getElem hi, e])⟩
theorem sOf_in {ts : List Str} {i : Nat} (h : i < nP ts) : ∃ p, InT ts p ∧ (ord ts)[i]? = some p ∧ sOf ts i = cod (sfx ts p) := by
  obtain ⟨e, q⟩ := ordD h
  exact ⟨_, q, e, ord_at e⟩
theorem due_mem {ts : List Str} {w : Str} : w ∈ due ts ↔ cod w ≠ [] ∧ ∃ p, InT ts p ∧ cod w <+: cod (sfx ts p) := by
  have : w ∈ due ts ↔ cod w ∈ pcs (sOf ts) (nP ts) := by
    unfold due
    rw [List.mem_map]
    exact ⟨fun ⟨x, hx, e⟩ => by rw [← e]; exact hx, fun h => ⟨_, h, S_eta w⟩⟩
  rw [this, pcs_mem]
  refine and_congr_right fun _ => ⟨fun ⟨i, hi, p⟩ => ?_, fun ⟨p, hp, q⟩ => ?_⟩
  · obtain ⟨p2, h1, _, h2⟩ := sOf_in hi
    exact ⟨p2, h1, by rw [← h2]; exact p⟩
  · obtain ⟨i, hi, e⟩ := sOf_ex hp
    exact ⟨i, hi, by rw [e]; exact q⟩
theorem due_asc (ts : List Str) : (due ts).Pairwise ltC := by
  have := pcs_asc (ord_srt ts)
  rw [← due_cod, List.pairwise_map] at this
  exact this
theorem ltC_irr (x : Str) : ¬ ltC x x := lirr _
theorem due_nodup (ts : List Str) : (due ts).Nodup := (due_asc ts).imp fun {a b} h e => by rw [e] at h; exact lirr _ h
/-- two lists that ascend, of the same texts -/
theorem asc_one : ∀ (xs ys : List Str), xs.Pairwise ltC → ys.Pairwise ltC → (∀ z, z ∈ xs ↔ z ∈ ys) → xs = ys
  | [], [], _, _, _ => rfl
  | [], y :: ys, _, _, h => absurd ((h y).mpr List.mem_cons_self) (by simp)
  | x :: xs, [], _, _, h => absurd ((h x).mp List.mem_cons_self) (by simp)
  | x :: xs, y :: ys, p, q, h => by
    obtain ⟨p1, p2⟩ := List.pairwise_cons.mp p
    obtain ⟨q1, q2⟩ := List.pairwise_cons.mp q
    have e : x = y := by
      rcases List.mem_cons.mp ((h x).mp List.mem_cons_self) with e | e
      · exact e
      · rcases List.mem_cons.mp ((h y).mpr List.mem_cons_self) with f | f
        · exact f.symm
        · exact absurd (ltr (p1 y f) (q1 x e)) (lirr _)
    subst e
    refine congrArg (x :: ·) (asc_one xs ys p2 q2 fun z => ?_)
    have hz := h z
    rw [List.mem_cons, List.mem_cons] at hz
    constructor
    · intro m
      rcases hz.mp (.inr m) with e | e
      · exact absurd (p1 z m) (by rw [e]; exact lirr _)
      · exact e
    · intro m
      rcases hz.mpr (.inr m) with e | e
      · exact absurd (q1 z m) (by rw [e]; exact lirr _)
      · exact e
theorem sumN {α : Type} (f : α → Nat) : ∀ l : List α, (l.map fun p => ((f p : Nat) : Int)).sum = (((l.map f).sum : Nat) : Int)
  | [] => rfl
  | a :: l => by
    simp only [List.map_cons, List.sum_cons]
    rw [sumN f l]
    omega
theorem perm_sum {α : Type} (f : α → Nat) {l m : List α} (h : l.Perm m) : (l.map f).sum = (m.map f).sum := by
  induction h with
  | nil => rfl
  | cons a _ ih => simp only [List.map_cons, List.sum_cons]; rw [ih]
  | swap a b l => simp only [List.map_cons, List.sum_cons]; omega
  | trans _ _ a b => exact a.trans b
theorem ord_map {α : Type} (ts : List Str) (f : Pl → α) (h : LN → α) (e : ∀ p, f p = h (cod (sfx ts p))) : (ord ts).map f = (List.range (nP ts)).map fun i => h (sOf ts i) := by
  refine List.ext_getElem? fun i => ?_
  rcases Nat.lt_or_ge i (nP ts) with g | g
  · obtain ⟨p, _, e1, e2⟩ := sOf_in g
    rw [List.getElem?_map, List.getElem?_map, List.getElem?_range g, e1]
    show some (f p) = some (h (sOf ts i))
    rw [e2, e]
  · rw [List.getElem?_eq_none (by rw [List.length_map]; exact g), List.getElem?_eq_none (by rw [List.length_map, List.length_range]; exact g)]
theorem pcs_sum (s : Nat → LN) : ∀ n, (pcs s n).length + ((List.range n).map (ln s)).sum = ((List.range n).map fun i => (s i).length).sum
  | 0 => rfl
  | n + 1 => by
    have a := pcs_sum s n
    have b := ln_le s n
    rw [pcs_len, List.range_succ, List.map_append, List.map_append, List.sum_append, List.sum_append]
    simp only [List.map_cons, List.map_nil, List.sum_cons, List.sum_nil]
    omega
/-- the signs of all endings less what neighbours have in common -/
theorem all_sum (ts : List Str) : ((pl ts).map fun p => (((sfx ts p).length : Nat) : Int)).sum - ((lensOf ts).map fun n => ((n : Nat) : Int)).sum = ((due ts).length : Nat) := by
  have a := pcs_sum (sOf ts) (nP ts)
  rw [sumN (fun p => (sfx ts p).length), sumN (fun n => n), perm_sum _ (ord_perm ts).symm]
  rw [ord_map ts (fun p => (sfx ts p).length) (fun x => x.length) (fun p => len_S _)]
  unfold due
  rw [List.length_map, List.map_id']
  have e : lensOf ts = (List.range (nP ts)).map (ln (sOf ts)) := rfl
  rw [e]
  omega
theorem cntIf {α : Type} (f : α → Bool) (l : List α) : (l.filter f).length = (l.map fun p => if f p = true then 1 else 0).sum := by
  induction l with
  | nil => rfl
  | cons a l ih =>
    simp only [List.map_cons, List.sum_cons]
    by_cases z : f a = true
    · rw [List.filter_cons_of_pos z, if_pos z, List.length_cons, ih]; omega
    · rw [List.filter_cons_of_neg z, if_neg z, ih]; omega
theorem filt_ord (ts : List Str) (f : Pl → Bool) (h : LN → Bool) (e : ∀ p, f p = h (cod (sfx ts p))) : ((pl ts).filter f).length = ((List.range (nP ts)).filter fun i => h (sOf ts i)).length := by
  rw [cntIf, cntIf (fun i => h (sOf ts i)), perm_sum _ (ord_perm ts).symm, ord_map ts _ (fun x => if h x = true then 1 else 0) (fun p => by rw [e])]
/-- how many endings are less than w, how many begin with it -/
def nLt (ts : List Str) (w : Str) : Nat := ((pl ts).filter fun p => decide (cod (sfx ts p) < cod w)).length
def nBeg (ts : List Str) (w : Str) : Nat := ((pl ts).filter (beg ts w)).length
theorem nLt_eq (ts : List Str) (w : Str) : nLt ts w = cntLt (sOf ts) (cod w) (nP ts) := filt_ord ts _ (fun x => decide (x < cod w)) fun _ => rfl
theorem nBeg_pos (ts : List Str) (w : Str) : 0 < nBeg ts w ↔ ∃ p, InT ts p ∧ cod w <+: cod (sfx ts p) := by
  unfold nBeg
  rw [List.length_pos_iff_exists_mem]
  refine ⟨fun ⟨p, h⟩ => ?_, fun ⟨p, h1, h2⟩ => ⟨p, List.mem_filter.mpr ⟨pl_mem.mpr h1, decide_eq_true h2⟩⟩⟩
  obtain ⟨a, b⟩ := List.mem_filter.mp h
  exact ⟨p, pl_mem.mp a, of_decide_eq_true b⟩
theorem due_at {ts : List Str} {i : Nat} : (due ts)[i]? = ((pcs (sOf ts) (nP ts))[i]?).map SX.S := by
  unfold due
  rw [List.getElem?_map]
/-- the number of a word that is a piece -/
theorem due_no {ts : List Str} {w : Str} (ne : cod w ≠ []) (h : 0 < nBeg ts w) :
    nLt ts w < nP ts ∧ ln (sOf ts) (nLt ts w) < w.length ∧ (due ts)[(pcs (sOf ts) (nLt ts w)).length + (w.length - ln (sOf ts) (nLt ts w) - 1)]? = some w := by
  obtain ⟨p, hp, q⟩ := (nBeg_pos ts w).mp h
  obtain ⟨i, hi, e⟩ := sOf_ex hp
  obtain ⟨h1, h2, _, h4⟩ := pcs_no (ord_srt ts) ne hi (by rw [e]; exact q)
  rw [nLt_eq]
  refine ⟨h1, by rw [len_S]; exact h2, ?_⟩
  rw [due_at, len_S w]
  rw [h4]
  exact congrArg some (S_eta w)
theorem due_w {ts : List Str} {w : Str} (ne : cod w ≠ []) : w ∈ due ts ↔ 0 < nBeg ts w := by
  rw [due_mem, nBeg_pos]
  exact ⟨fun h => h.2, fun h => ⟨ne, h⟩⟩
/-- the piece of a number, among those that come first with the i-th ending -/
theorem due_get {ts : List Str} {i k : Nat} {p : Pl} (hp : (ord ts)[i]? = some p) (l : k + ln (sOf ts) i < (sfx ts p).length) : (due ts)[(pcs (sOf ts) i).length + k]? = some (SX.S ((cod (sfx ts p)).take (ln (sOf ts) i + k + 1))) := by
  have hi := (List.getElem?_eq_some_iff.mp hp).1
  have e := ord_at hp
  rw [due_at, pcs_at (sOf ts) hi (k := k) (by rw [e, ← len_S]; omega), e]
  rfl
theorem due_few {ts : List Str} {i : Nat} {p : Pl} (hp : (ord ts)[i]? = some p) : (pcs (sOf ts) (i + 1)).length = (pcs (sOf ts) i).length + ((sfx ts p).length - ln (sOf ts) i) := by
  rw [pcs_len, ord_at hp, ← len_S]
theorem ln_le2 {ts : List Str} {i : Nat} {p : Pl} (hp : (ord ts)[i]? = some p) : ln (sOf ts) i ≤ (sfx ts p).length := by
  have := ln_le (sOf ts) i
  rw [ord_at hp, ← len_S] at this
  exact this
theorem starts3 {x y : Str} {j : Nat} (h : j ≤ x.length) : Txt.startswith3 x y (j : Nat) = decide (cod y <+: (cod x).drop j) := by
  unfold Txt.startswith3 PySem.fromIndex
  have e : (max 0 (if ((j : Nat) : Int) < 0 then ((j : Nat) : Int) + ((x.length : Nat) : Int) else ((j : Nat) : Int))).toNat = j := by
    rw [if_neg (by omega)]
    omega
  rw [e]
  by_cases p : cod y <+: (cod x).drop j
  · rw [decide_eq_true p]
    have l := p.length_le
    rw [List.length_drop, ← len_S, ← len_S] at l
    rw [Bool.and_eq_true]
    refine ⟨decide_eq_true (by omega), subAt_iff.mpr ?_⟩
    rw [len_S y]
    exact (List.prefix_iff_eq_take.mp p).symm
  · rw [decide_eq_false p, Bool.and_eq_false_iff]
    refine .inr (Bool.eq_false_iff.mpr fun z => p ?_)
    have this : ((cod x).drop j).take y.length = cod y := subAt_iff.mp z
    rw [← this]
    exact List.take_prefix _ _
end LawK
set_option maxHeartbeats 4000000
namespace LawK
open PySem PySem.Spec PyProof.Rows L2 Ev

def rStarts3 : V → List V → Hp → VK → Prop := fun x xs H Q => ∃ (a b : Str) (i : Int), x = .str a ∧ xs = [.str b, .int i] ∧ Q (.bl (Txt.startswith3 a b i)) H
theorem mt_st3 {X : Cx} : MtR X "str.startswith" rStarts3 := mt_startswith3
/-- a word -/
structure Wd (w : Str) : Prop where
  sg : sgB w = true
  pos : 1 ≤ w.length
  few : w.length ≤ 5000
def spPlaces (C : Addr) : Sp := fun vs H Q _ => ∃ (s : Addr) (w : Str) (ts : List Str), vs = [.ref s, .str w] ∧ LibAt H C s ts ∧ Wd w ∧ ∀ a H', Same H H' → H a = none → PsL H' a ((pl ts).filter (beg ts w)) → Q (.ref a) H'
def spCount (C : Addr) : Sp := fun vs H Q _ => ∃ (s : Addr) (w : Str) (ts : List Str), vs = [.ref s, .str w] ∧ LibAt H C s ts ∧ Wd w ∧ ∀ H', Same H H' → Q (iN (nBeg ts w)) H'
def spSpan (C : Addr) : Sp := fun vs H Q _ => ∃ (s : Addr) (w : Str) (ts : List Str), vs = [.ref s, .str w] ∧ LibAt H C s ts ∧ Wd w ∧ ∀ b H', Same H H' → H' b = some (.tup [iN (nLt ts w), iN (nLt ts w + nBeg ts w)]) → Q (.ref b) H'
def spAllPieces (C : Addr) : Sp := fun vs H Q _ => ∃ (s : Addr) (ts : List Str), vs = [.ref s] ∧ LibAt H C s ts ∧ ∀ H', Same H H' → Q (iN (due ts).length) H'
theorem filt_snoc {α : Type} (f : α → Bool) {xs : List α} {i : Nat} {x : α} (h : xs[i]? = some x) : (xs.take (i + 1)).filter f = (xs.take i).filter f ++ (if f x = true then [x] else []) := by
  rw [take_snoc h, List.filter_append]
  congr 1
  by_cases z : f x = true
  · rw [if_pos z, List.filter_cons_of_pos z, List.filter_nil]
  · rw [if_neg z, List.filter_cons_of_neg z, List.filter_nil]
theorem pl_len {ts : List Str} (h : ∀ t ∈ ts, t.length ≤ 200) (f : ts.length ≤ 8) : (pl ts).length ≤ 1600 := by
  rw [← (ord_perm ts).length_eq]
  exact ord_len h f
section
variable {P : Program} {w : World} {K : PySem.W.Frag} {mg : Str → Option Value} {base : Heap}
variable {C fI : Addr} {fdI : FuncData}
abbrev sPPlaces : Stmt := topS 20
theorem scPPlaces : FnScope ["library", "word", "text", "at"] ["library", "word"] (defScope sPPlaces) := ⟨rfl, rfl, rfl, by decide +kernel, rfl, by decide +kernel, by decide +kernel⟩
theorem ok_PPlaces {f : Addr} {fd : FuncData} (F : Fun K "places" "places" sPPlaces f fd) (L : LibC K mg C fI fdI) {fPAllPlaces : Addr} {fdPAllPlaces : FuncData} (DPAllPlaces : Dk P w K mg base "all_places" sPAllPlaces ["library"] 1 (spAllPlaces C) fPAllPlaces fdPAllPlaces) {fPWord : Addr} {fdPWord : FuncData} (DPWord : Dk P w K mg base "is_word" sPWord ["thing"] 2 spWd fPWord fdPWord) (T : Glob mg) : FnOk P w K mg base CX0 3 f fd ["library", "word"] (spPlaces C) := by
  refine F.ok scPPlaces (fun vs H Q E h => ?_) (fun cdv A outer s H vs Q E hr h => ?_)
  · obtain ⟨s, w, ts, rfl, _⟩ := h
    rfl
  · refine ⟨_, (pss_cons (ps_if (pt_not (pt_val (pe_call DPWord.ok (hr.mono (by decide)) (by rfl) DPWord.g DPWord.F.kp DPWord.b .nil pass0 (pa_cons (pv 1) pa_nil))))
      (pss_one ps_dead)
      pss_nil)
      (pss_one (ps_ret (pe_lc (own := [("text", 2), ("at", 3)]) (g := (gTup K 2 (gCons (gName 2) (gCons (gName 3) gNil)))) (by rfl) scPPlaces.nd (pi_list (pe_call DPAllPlaces.ok (hr.mono (by decide)) (by rfl) DPAllPlaces.g DPAllPlaces.F.kp DPAllPlaces.b .nil pass0 (pa_cons (pv 0) pa_nil))) (blkOk_by (N := ["library", "word", "text", "at"]) (sc := defScope sPPlaces) (by decide +kernel)) (fun _ _ _ _ _ => pg_tup (by rfl) (pgs_cons (pg_name (i := 2) scPPlaces.nd rfl (.inl rfl)) (pgs_cons (pg_name (i := 3) scPPlaces.nd rfl (.inl rfl)) pgs_nil))) (fun _ _ _ _ _ => (pts_one (pt_val (show PE _ _ (tBM K "str" rStarts3 (tOp (rIxT K) (tFld K (tVar 0) "texts") (tVar 2)) (tCons (tVar 1) (tCons (tVar 3) tNil))) from pe_bm PySem.F.plainAttrs_str PySem.F.slot_str_startswith PySem.F.type_str_startswith mt_st3 (pe_ix (r := rIxT K) (ta := tFld K (tVar 0) "texts") ix_tup (pe_fld (pv 0) rfl) (pv 2) (fun _ _ => rfl)) (pa_cons (pv 1) (pa_cons (pv 3) pa_nil)))))) (fun _ _ _ _ _ => (pe_tup (pa_cons (pv 2) (pa_cons (pv 3) pa_nil)))))))), ?_⟩
    obtain ⟨s, z, ts, rfl, hl, hw, q⟩ := h
    have hl0 := hl
    obtain ⟨⟨dx, a, h1, h2⟩, few, sg1, len1⟩ := hl
    have wv : wordV (.str z) = true := by
      show (sgB z && decide ((0 : Int) < (z.length : Int))) = true
      rw [hw.sg, decide_eq_true (show (0 : Int) < (z.length : Int) by have := hw.pos; omega)]
      rfl
    refine ⟨.str z, rfl, .str z, .str, rfl, .str z, (fun w e => by cases e; exact hw.few), _, rfl, ?_⟩
    refine ite2 (fun c => by rw [wv] at c; cases c) (fun _ => ?_)
    dsimp only [tNext, tDrop]
    refine ⟨.ref s, rfl, s, ts, rfl, hl0, fun A H1 k1 nA ⟨vs, hA, hv⟩ => ?_⟩
    have lp := pl_len len1 few
    refine ⟨A, rfl, ⟨_, sq_of hA⟩, fun D nD => lc_list (xs := vs) (fun i H' => Same H1 H' ∧ ∃ us, H' D = some (.lst us) ∧ All2 (PAt H') us (((pl ts).take i).filter (beg ts z))) ⟨Same.new nD, [], upd_same, .nil⟩ (fun i H' _ w => sq_of (w.1 _ _ hA)) ?_ ?_⟩
    · rintro i x H2 hx ⟨k2, us, hD, hu⟩
      obtain ⟨p, ep, b, rfl, eb⟩ := hv.at hx
      have ip := pl_mem.mp (List.mem_of_getElem? ep)
      have eb2 := k2 _ _ eb
      have k12 := k1.trans k2
      have lt := tx_len len1 p.1
      have sb : Txt.startswith3 (tx ts p.1) z ((p.2 : Nat) : Int) = beg ts z p := by
        rw [starts3 (Nat.le_of_lt ip.at_)]
        unfold beg
        rw [sfx_cod]
      refine ⟨b, _, rfl, SqT.of eb2, rfl, _, _, rfl, _, _, rfl, rfl, rfl, .ref s, rfl, s, C, dx, _, .ref a, rfl, k12 _ _ h1, L.cl, L.nt, lk1, _, rfl, a, _, _, _, rfl, rfl, SqT.of (k12 _ _ h2), atI_nat (tx_at ip.text), rfl, _, rfl, _, rfl, _, _, _, rfl, rfl, _, rfl, ?_⟩
      rw [sb, filt_snoc (beg ts z) ep]
      refine ite2 (fun c => ?_) (fun c => ?_)
      · rw [if_pos c]
        refine ⟨_, rfl, _, rfl, by show 2 ≤ sizeLine; decide, fun c nc => ⟨us, (Same.new nc) _ _ hD, ?_, sameAt (k2.trans (Same.new nc)) nD, us ++ [.ref c], upd_same, ?_⟩⟩
        · have z1 := hu.len
          have z2 := List.length_filter_le (beg ts z) ((pl ts).take i)
          rw [List.length_take] at z2
          have h3 : sizeLine = 16777216 := sizeLine_eq
          omega
        · exact add_pair nc hD hu rfl
      · rw [if_neg c, List.append_nil]
        exact ⟨k2, us, hD, hu⟩
    · rintro H2 ⟨k2, us, hD, hu⟩
      rw [hv.len, List.take_length] at hu
      exact q D H2 (k1.trans k2) (Same.free k1 nD) ⟨us, hD, hu⟩
abbrev sPCount : Stmt := topS 21
theorem scPCount : FnScope ["library", "word"] ["library", "word"] (defScope sPCount) := ⟨rfl, rfl, rfl, by decide +kernel, rfl, by decide +kernel, by decide +kernel⟩
theorem ok_PCount {f : Addr} {fd : FuncData} (F : Fun K "count" "count" sPCount f fd)  {fPPlaces : Addr} {fdPPlaces : FuncData} (DPPlaces : Dk P w K mg base "places" sPPlaces ["library", "word"] 3 (spPlaces C) fPPlaces fdPPlaces) (T : Glob mg) : FnOk P w K mg base CX0 4 f fd ["library", "word"] (spCount C) := by
  refine F.ok scPCount (fun vs H Q E h => ?_) (fun cdv A outer s H vs Q E hr h => ?_)
  · obtain ⟨s, w, ts, rfl, _⟩ := h
    rfl
  · refine ⟨_, (pss_one (ps_ret (pe_callB call_len_seq (by rfl) T.len PySem.boot_len (pa_cons (pe_call DPPlaces.ok (hr.mono (by decide)) (by rfl) DPPlaces.g DPPlaces.F.kp DPPlaces.b .nil pass0 (pa_cons (pv 0) (pa_cons (pv 1) pa_nil))) pa_nil)))), ?_⟩
    obtain ⟨s, z, ts, rfl, hl, hw, q⟩ := h
    refine ⟨.ref s, rfl, .str z, rfl, s, z, ts, rfl, hl, hw, fun A H1 k1 nA ⟨vs, hA, hv⟩ => ?_⟩
    refine ⟨A, vs, rfl, .inl (sq_of hA), ?_⟩
    rw [hv.len]
    exact q H1 k1
abbrev sPSpan : Stmt := topS 22
theorem scPSpan : FnScope ["library", "word", "many", "ahead", "place"] ["library", "word"] (defScope sPSpan) := ⟨rfl, rfl, rfl, by decide +kernel, rfl, by decide +kernel, by decide +kernel⟩
theorem ok_PSpan {f : Addr} {fd : FuncData} (F : Fun K "span" "span" sPSpan f fd)  {fPAllPlaces : Addr} {fdPAllPlaces : FuncData} (DPAllPlaces : Dk P w K mg base "all_places" sPAllPlaces ["library"] 1 (spAllPlaces C) fPAllPlaces fdPAllPlaces) {fPEnding : Addr} {fdPEnding : FuncData} (DPEnding : Dk P w K mg base "ending" sPEnding ["library", "place"] 3 (spEnding C) fPEnding fdPEnding) {fPCount : Addr} {fdPCount : FuncData} (DPCount : Dk P w K mg base "count" sPCount ["library", "word"] 4 (spCount C) fPCount fdPCount) (T : Glob mg) : FnOk P w K mg base CX0 5 f fd ["library", "word"] (spSpan C) := by
  refine F.ok scPSpan (fun vs H Q E h => ?_) (fun cdv A outer s H vs Q E hr h => ?_)
  · obtain ⟨s, w, ts, rfl, _⟩ := h
    rfl
  · refine ⟨_, (pss_cons (ps_set (i := 2) scPSpan.nd rfl (.inl rfl) (pe_call DPCount.ok (hr.mono (by decide)) (by rfl) DPCount.g DPCount.F.kp DPCount.b .nil pass0 (pa_cons (pv 0) (pa_cons (pv 1) pa_nil))))
      (pss_cons (ps_set (i := 3) scPSpan.nd rfl (.inl rfl) (pe_callB call_len_seq (by rfl) T.len PySem.boot_len (pa_cons (pe_lc (own := [("place", 4)]) (g := gName 4) (by rfl) scPSpan.nd (pi_list (pe_call DPAllPlaces.ok (hr.mono (by decide)) (by rfl) DPAllPlaces.g DPAllPlaces.F.kp DPAllPlaces.b .nil pass0 (pa_cons (pv 0) pa_nil))) (blkOk_by (N := ["library", "word", "many", "ahead", "place"]) (sc := defScope sPSpan) (by decide +kernel)) (fun _ _ _ _ _ => pg_name (i := 4) scPSpan.nd rfl (.inl rfl)) (fun _ _ _ _ _ => (pts_one (pt_cmpR op_lt_str (pe_call DPEnding.ok (hr.mono (by decide)) (by rfl) DPEnding.g DPEnding.F.kp DPEnding.b .nil pass0 (pa_cons (pv 0) (pa_cons (pv 4) pa_nil))) (pv 1) (nomark _)))) (fun _ _ _ _ _ => (pv 4))) pa_nil)))
      (pss_one (ps_ret (pe_tup (pa_cons (pv 3) (pa_cons (pe_op op_add (pv 3) (pv 2)) pa_nil))))))), ?_⟩
    obtain ⟨s, z, ts, rfl, hl, hw, q⟩ := h
    refine ⟨.ref s, rfl, .str z, rfl, s, z, ts, rfl, hl, hw, fun H0 k0 => ?_⟩
    have hl := hl.same k0
    have lp := pl_len hl.len hl.few
    refine ⟨.ref s, rfl, s, ts, rfl, hl, fun A H1 k1 nA ⟨vs, hA, hv⟩ => ?_⟩
    refine ⟨A, rfl, ⟨_, sq_of hA⟩, fun D nD => lc_list (xs := vs) (fun i H' => Same H1 H' ∧ ∃ us, H' D = some (.lst us) ∧ us.length = (((pl ts).take i).filter fun p => decide (cod (sfx ts p) < cod z)).length) ⟨Same.new nD, [], upd_same, rfl⟩ (fun i H' _ w => sq_of (w.1 _ _ hA)) ?_ ?_⟩
    · rintro i x H2 hx ⟨k2, us, hD, hu⟩
      obtain ⟨p, ep, rp⟩ := hv.at hx
      have ip := pl_mem.mp (List.mem_of_getElem? ep)
      refine ⟨rfl, .ref s, rfl, x, rfl, s, ts, x, p, rfl, hl.same (k1.trans k2), rp.same k2, ip, .str z, rfl, _, _, rfl, rfl, _, rfl, ?_⟩
      rw [filt_snoc _ ep]
      refine ite2 (fun c => ?_) (fun c => ?_)
      · have c : decide (cod (sfx ts p) < cod z) = true := c
        rw [if_pos c]
        refine ⟨x, rfl, us, hD, ?_, sameAt k2 nD, us ++ [x], upd_same, by rw [List.length_append, List.length_append, hu]; rfl⟩
        have z2 := List.length_filter_le (fun p => decide (cod (sfx ts p) < cod z)) ((pl ts).take i)
        rw [List.length_take] at z2
        have h3 : sizeLine = 16777216 := sizeLine_eq
        omega
      · have c : ¬ decide (cod (sfx ts p) < cod z) = true := c
        rw [if_neg c, List.append_nil]
        exact ⟨k2, us, hD, hu⟩
    · rintro H2 ⟨k2, us, hD, hu⟩
      rw [hv.len, List.take_length] at hu
      refine ⟨D, us, rfl, .inl (sq_of hD), ?_⟩
      refine ⟨_, rfl, _, rfl, _, rfl, _, _, rfl, rfl, by show 2 ≤ sizeLine; decide, fun b nb => ?_⟩
      refine q b _ ((k0.trans (k1.trans k2)).trans (Same.new nb)) ?_
      rw [upd_same, hu]
      rfl
end
end LawK
set_option maxHeartbeats 4000000
namespace Ev
open PySem PySem.Spec PyProof.Rows L2
/-! list(d.keys()) -/
def tListKeys (te : TE) : TE := fun σ H Q => te σ H fun x H1 => ∃ (d : Addr) (kvs : List (Key × V)), x = .ref d ∧ H1 d = some (.dK kvs) ∧ ∀ q, H1 q = none → Q (.ref q) (upd H1 q (.lst (kvs.map fun kv => kV kv.1)))
section
variable {X : Cx} {e : Expr} {te : TE} {p apos cpos pos : Pos}
theorem pe_listKeys (hc : X.calm = true) (he : PE X e te) (hg : Gl X "list") (hm : X.mg "list" = none) (hbase : attributeBase e "keys" X.env (eval e X.env) = eval e X.env := by rfl) (hline : (apos.endLine == cpos.line) = true := by rfl)
    (hs : starEach [.Call (.Attribute e "keys" apos) [] [] cpos] X.env = (false, eval (.Call (.Attribute e "keys" apos) [] [] cpos) X.env) :: starEach [] X.env := by rfl) : PE X (.Call (.Name "list" p) [.Call (.Attribute e "keys" apos) [] [] cpos] [] pos) (tListKeys te) := by
  refine ⟨fun pins s σ H Q I hq => wpAny_Call_Name_kw (ld_blt I hg hm boot_list (PyProof.Rows.callWith_type1 ?_ hs rfl))⟩
  rw [hs]; refine Calls.spliced_cons ?_
  refine wpAny_Call_method (T := "dict") (id := "dict.keys") hbase rfl hline F.plainAttrs_dict F.slot_dict_keys F.type_dict_keys (thn (he.run pins s σ H _ I hq) fun u s1 ⟨x, H1, I1, rx, d, kvs, ex, hd, q⟩ => ?_)
  subst ex
  obtain rfl : u = Value.ref d := rx
  obtain ⟨hz, lo, vs, kv, hdo⟩ := I1.hok d _ hd
  obtain ⟨ep, hat⟩ := hdo.dictAt
  have lk : kvs.length = vs.length := Paired.length kv
  have I2 : Inv X pins σ H1 { s1 with heap := s1.heap.push { cls := .type "dict_keys", data := .fields #[.ref d] } } := I1.kept (t' := s1.toks) fun b ob w => Heap.get?_push_of_some _ w
  refine ⟨hdo.typeIs, hdo.mapOf.noDict, ?_⟩
  show wpAny _ _ (callWith cpos (.builtin "dict.keys") [.ref d] [] []) _ X.xe s1
  refine method_meetsIn F.slot_dict_keys F.entry_dict_keys rfl (PySem.evalArgs_none ⟨rfl, hdo.typeIs, F.args_dict_keys_1 _, _, PySem.W.kdl_meets_keys (mixKind X.prog X.w) d lo, ⟨⟨vs, hdo⟩, Calls.spliced_nil ?_⟩⟩)
  refine PySem.W.kdl_call (PySem.W.kdl_keys (knd := mixKind X.prog X.w) (kvs := vs) (ep := ep)) (I1.ok.hd hc) ⟨⟨_, Heap.get?_push_size _ rfl, rfl, rfl⟩, hat.push _⟩ (by omega) fun h' tk acc c' hk hS hacc => ?_
  have ek : (kvs.map fun kv => kV kv.1) = (vs.map (·.1)).map kV := by rw [← KV.keys kv, List.map_map] <;> rfl
  have la : acc.toList.length = vs.length := by rw [Array.length_toList] <;> exact hacc.1
  have rel : Vals (kvs.map fun kv => kV kv.1) acc.toList := by
    rw [ek]
    refine vals_of_at (by rw [List.length_map, List.length_map, la]) fun j x u h1 h2 => ?_
    obtain ⟨k, y, hky, hi⟩ := hacc.2 j u (by rw [← Array.getElem?_toList] <;> exact h2)
    rw [List.getElem?_map, List.getElem?_map, hky] at h1
    cases h1; exact keyIs_rel hi
  exact ⟨.ref _, upd H1 _ (.lst (kvs.map fun kv => kV kv.1)), I2.laid hk (Nat.le_refl _) ⟨by rw [List.length_map] <;> exact hz, acc.toList, c', rel, by rw [Array.toArray_toList] <;> exact hS⟩, rfl, q _ (I2.hok.fresh (Nat.le_refl _))⟩
end
end Ev
set_option maxHeartbeats 4000000
namespace Ev
open PySem PySem.Spec PyProof.Rows L2
/-- either way to walk -/
theorem PI.or {X : Cx} {tg e : Expr} {u v : TI} (h : PI X tg e u) (k : PI X tg e v) : PI X tg e (fun σ H R => u σ H R ∨ v σ H R) :=
  ⟨fun pins s σ H R I q => q.elim (fun z => h.run pins s σ H R I z) (fun z => k.run pins s σ H R I z)⟩
theorem for_enL {K : PySem.W.Frag} {a : Addr} {xs : List V} {g : TG} {tb : TS} {D : Ends} {σ : L2.St} {H : Hp} (Pv : Nat → L2.St → Hp → Prop) (h0 : Pv 0 σ H) (hl : ∀ i σ H, Pv i σ H → SqL K H a xs)
    (hs : ∀ (i : Nat) x σ H, xs[i]? = some x → Pv i σ H → ∀ T, H T = none → g (.ref T) σ (upd H T (.tup [.int (i : Nat), x])) fun σ2 H2 => tb { D with nx := Pv (i + 1), ct := Pv (i + 1), bk := D.nx } σ2 H2) (hd : ∀ σ H, Pv xs.length σ H → D.nx σ H) :
    ∃ W : Nat → Nat → L2.St → Hp → Prop, (∃ m, W 0 m σ H) ∧ ∀ i m σ H, W i m σ H →
      ((Ite K a).stop i H ∧ D.nx σ H) ∨ ((Ite K a).go i H ∧ ∃ N : L2.St → Hp → Prop, (∀ σ' H', N σ' H' → ∃ m', m' < m ∧ W (i + 1) m' σ' H') ∧ ∀ x H', (Ite K a).yld i H x H' → g x σ H' fun σ2 H2 => tb { D with nx := N, ct := N, bk := D.nx } σ2 H2) :=
  for_it walk_enum Pv h0 (fun i σ H _ p => hl i σ H p) (fun i x σ H H' _ p y => by
    obtain ⟨T, x1, x2, rfl, nT, rfl, e1, e2⟩ := y
    cases e1
    exact hs i x2 σ H e2 p T nT) hd
theorem kit_seq {K : PySem.W.Frag} (k : Kn) : PySem.W.kitAny K (.type k.name) [.type "list", .type "tuple"] = some (decide (k = .lst) || decide (k = .tup)) := by
  cases k <;> rfl
end Ev
set_option maxHeartbeats 4000000
namespace Ev
open PySem PySem.Spec PyProof.Rows L2
/-- the entries of a written dict with texts as keys -/
inductive Ents (P : Params) : List DictEntry → List (Str × V) → Prop
  | nil : Ents P [] []
  | cons {x : Str} {t : Tok} {u : Value} {v : V} {es : List DictEntry} {kvs : List (Str × V)} (r : RelV v u) (h : Ents P es kvs) : Ents P (⟨PyData.keyHash P x, .str x t, u⟩ :: es) ((x, v) :: kvs)
/-- a dict of the module at a -/
structure KD (K : PySem.W.Frag) (w : World) (a : Addr) (kvs : List (Str × V)) : Prop where
  lk : ∃ (es : List DictEntry) (n : Nat), K.lookup a = some ⟨.type "dict", none, .dict es.toArray n, #[]⟩ ∧ Ents w.params es kvs
  ne : (a == sysModules) = false
theorem Ents.lit {P : Params} {es : List DictEntry} {kvs : List (Str × V)} (h : Ents P es kvs) : PySem.W.KeysLit P es := by
  induction h with
  | nil => trivial
  | cons r h ih => exact ⟨⟨_, _, rfl, rfl⟩, ih⟩
theorem Ents.find {P : Params} {es : List DictEntry} {kvs : List (Str × V)} (h : Ents P es kvs) (z : Str) :
    (kvs.lookup z = none ∧ findBy Value.isStrOf es.toArray z = none) ∨ ∃ v u, kvs.lookup z = some v ∧ findBy Value.isStrOf es.toArray z = some u ∧ RelV v u := by
  induction h with
  | nil => exact .inl ⟨rfl, rfl⟩
  | @cons x t u v es kvs r h ih =>
    unfold findBy at ih ⊢
    rw [List.find?_toArray, List.find?_cons, List.lookup_cons]
    by_cases e : z = x
    · subst e
      have e1 : Value.isStrOf z (.str z t) = true := by simp [Value.isStrOf]
      rw [e1, beq_self_eq_true]
      exact .inr ⟨v, u, rfl, rfl, r⟩
    · have e1 : Value.isStrOf z (.str x t) = false := by
        cases q : Value.isStrOf z (.str x t) with
        | false => rfl
        | true =>
          obtain ⟨t', q⟩ := Value.isStrOf_shape q
          injection q with q1 _
          exact absurd q1.symm e
      rw [e1, beq_false_of_ne e]
      rw [List.find?_toArray] at ih
      exact ih
theorem kd_mk {K : PySem.W.Frag} {w : World} {a : Addr} {es : List DictEntry} {n : Nat} {kvs : List (Str × V)} (l : K.lookup a = some ⟨.type "dict", none, .dict es.toArray n, #[]⟩) (ne : (a == sysModules) = false) (h : Ents w.params es kvs) : KD K w a kvs := ⟨⟨es, n, l, h⟩, ne⟩
def rNotInKD (K : PySem.W.Frag) (w : World) : R2 := fun x y H Q => ∃ a z kvs, x = .str z ∧ y = .ref a ∧ KD K w a kvs ∧ Q (.bl (!(kvs.lookup z).isSome)) H
def rIxKD (K : PySem.W.Frag) (w : World) : R2 := fun x y H Q => ∃ a z kvs v, x = .ref a ∧ y = .str z ∧ KD K w a kvs ∧ kvs.lookup z = some v ∧ Q v H
section
variable {X : Cx}
theorem op_notInKD : OpR X (compareOp .NotIn) (rNotInKD X.K X.w) := by
  intro pins s σ H x y v u Q I rx ry h
  obtain ⟨a, z, kvs, rfl, rfl, ⟨⟨es, n, hl, en⟩, ne⟩, q⟩ := h
  obtain ⟨t, rfl⟩ := (show ∃ t, v = Value.str z t from rx)
  obtain rfl : u = Value.ref a := ry
  have hm := PySem.W.mapOf_K (prog := X.prog) (w := X.w) I.kIn hl en.lit
  refine wpAny_notIn_of (strKind_is X.prog X.w z t) ne hm ⟨.bl (!(findBy Value.isStrOf es.toArray z).isSome), H, I.tok _, rfl, ?_⟩
  rcases en.find z with ⟨e1, e2⟩ | ⟨v0, u0, e1, e2, _⟩
  · rw [e1] at q
    rw [e2]
    exact q
  · rw [e1] at q
    rw [e2]
    exact q
theorem ix_KD : IxR X (rIxKD X.K X.w) := by
  intro value slice pins s σ H x y v u Q I rx ry h hs
  obtain ⟨a, z, kvs, r, rfl, rfl, ⟨⟨es, n, hl, en⟩, ne⟩, e, q⟩ := h
  obtain rfl : v = Value.ref a := rx
  obtain ⟨t, rfl⟩ := ry
  have hm := PySem.W.mapOf_K (prog := X.prog) (w := X.w) I.kIn hl en.lit
  rcases en.find z with ⟨e1, e2⟩ | ⟨v0, u0, e1, e2, ru⟩
  · rw [e1] at e
    cases e
  · rw [e1] at e
    cases e
    exact tail_any hm.typeIs slot_dict_getitem.lookup (wpAny_getItem_of (strKind_is X.prog X.w z t) hm e2 ⟨r, H, I.tok _, ru, q⟩) hs
end
/-- a local name that holds one of several defs -/
def tCallR (i : Nat) (S : Addr → Sp → Prop) (t : TA) : TE := fun σ H Q => ∃ f sp, σ[i]? = some (some (.ref f)) ∧ S f sp ∧ t σ H fun vs H1 => sp vs H1 Q (fun _ _ _ => False)
theorem pe_callR {X : Cx} {k i : Nat} {x : Str} {p pos : Pos} {e : Expr} {es : List Expr} {t : TA} {S : Addr → Sp → Prop} (A : ∀ f sp, S f sp → Held X.prog X.w X.K X.mg X.base k f sp) (hr : Room k X.A) (hN : X.N[i]? = some x) (hv : Vis X.env.scope x) (ha : PA X (e :: es) t)
    (hdb : (x == ("__debug__" : Str)) = false := by decide) (hcd : (x == ("__classdict__" : Str)) = false := by decide)
    (he : starEach (e :: es) X.env = (false, eval e X.env) :: starEach es X.env := by rfl) (hpl : (backTo pos (starEach es X.env)).any (·.1) = false := by rfl) : PE X (.Call (.Name x p) (e :: es) [] pos) (tCallR i S t) := by
  refine ⟨fun pins s σ H Q I h => ?_⟩
  obtain ⟨f, sp, hs, hS, ht⟩ := h
  obtain ⟨fd, ps, F, hk, hb⟩ := (A f sp hS).ex
  refine (pe_callL (i := i) (f := f) (sp := sp) (dvs := []) (E := fun _ _ _ => False) F hr hN hv hk hb .nil (fun _ _ _ _ _ _ _ z => z.elim) ha hdb hcd he hpl).run pins s σ H Q I ⟨hs, ?_⟩
  have e0 : (fun (vs : List V) (H1 : Hp) => sp (vs ++ []) H1 Q (fun _ _ _ => False)) = fun vs H1 => sp vs H1 Q (fun _ _ _ => False) := by
    funext vs H1
    rw [List.append_nil]
  show t σ H (fun vs H1 => sp (vs ++ []) H1 Q (fun _ _ _ => False))
  rw [e0]
  exact ht
end Ev
set_option maxHeartbeats 4000000
namespace LawK
open PySem PySem.Spec PyProof.Rows L2 Ev

theorem kit_tl {K : PySem.W.Frag} (k : Kn) : PySem.W.kitAny K (.type k.name) [.type "tuple", .type "list"] = some (decide (k = .tup) || decide (k = .lst)) := by
  cases k <;> rfl
/-- a number, a text or None -/
inductive Sc : V → Prop
  | int (i : Int) : Sc (.int i)
  | str (z : Str) : Sc (.str z)
  | non : Sc .non
def spIs : Sp := fun vs H Q _ => ∃ x, vs = [x, x] ∧ Sc x ∧ ∀ H', Same H H' → Q (.bl true) H'
theorem PAt.but {H H' : Hp} {p l : Addr} {v : V} {q : Pl} (h : PAt H v q) (h0 : HandL H p l) (b : But p H H') : PAt H' v q := let ⟨c, e, r⟩ := h; ⟨c, e, b _ _ (tup_ne h0 r) r⟩
theorem PsL.but {H H' : Hp} {p l a : Addr} {ps : List Pl} (h : PsL H a ps) (h0 : HandL H p l) (n : a ≠ p) (b : But p H H') : PsL H' a ps := let ⟨vs, e, q⟩ := h; ⟨vs, b _ _ n e, q.imp fun _ _ r => r.but h0 b⟩
theorem TsAt.but {H H' : Hp} {p l a : Addr} {ts : List Str} (h : TsAt H a ts) (h0 : HandL H p l) (b : But p H H') : TsAt H' a ts := ⟨b _ _ (tup_ne h0 h.at_) h.at_, h.few, h.sg, h.len⟩
def spPiece : Sp := fun vs H Q _ => ∃ (p a : Addr) (ts : List Str), vs = [.ref p, .ref a] ∧ TsAt H a ts ∧ ∃ l, HandL H p l ∧ ∀ y H', Wd y → HandL H' p l → But p H H' → Q (.str y) H'
def spLPieces : Sp := fun vs H Q _ => ∃ (a : Addr) (ts : List Str), vs = [.ref a] ∧ TsAt H a ts ∧ ∀ b H', Same H H' → H b = none → H' b = some (.lst ((due ts).map V.str)) → Q (.ref b) H'
theorem asc_of {zs ss : List Str} (p : zs.Perm ss) (h : zs.Pairwise (fun x y => ¬ ltC y x)) (nd : ss.Nodup) : zs.Pairwise ltC := by
  have nd2 : zs.Nodup := p.nodup_iff.mpr nd
  exact (h.and nd2).imp fun {x y} w => ltC_str w.1 w.2
section
variable {P : Program} {w : World} {K : PySem.W.Frag} {mg : Str → Option Value} {base : Heap}
abbrev sIs : Stmt := topS 28
theorem scIs : FnScope ["told", "due", "one", "two"] ["told", "due"] (defScope sIs) := ⟨rfl, rfl, rfl, by decide +kernel, rfl, by decide +kernel, by decide +kernel⟩
theorem ok_Is {f : Addr} {fd : FuncData} (F : Fun K "_law_is" "_law_is" sIs f fd)   (T : Glob mg) : FnOk P w K mg base CX0 5 f fd ["told", "due"] spIs := by
  refine F.ok scIs (fun vs H Q E h => ?_) (fun cdv A outer s H vs Q E hr h => ?_)
  · obtain ⟨x, rfl, _⟩ := h
    rfl
  · refine ⟨_, (pss_cons (ps_if (pt_val (pe_callB call_isiT (by rfl) T.isinstance PyProof.Rows.boot_isinstance (pa_cons (pv 1) (pa_cons (pe_tup (pa_cons (pe_bltn (v := .ty "tuple") (by rfl) T.tuple (by decide +kernel) rfl) (pa_cons (pe_bltn (v := .ty "list") (by rfl) T.list (by decide +kernel) rfl) pa_nil))) pa_nil))))
      (pss_cons ps_dead
        (pss_one ps_dead))
      pss_nil)
      (pss_one (ps_ret (pe_and (pe_cmpR op_eq (pe_callB call_isi (by rfl) T.isinstance PyProof.Rows.boot_isinstance (pa_cons (pv 0) (pa_cons (pe_bltn (v := .ty "bool") (by rfl) T.bool (by decide +kernel) rfl) pa_nil))) (pe_callB call_isi (by rfl) T.isinstance PyProof.Rows.boot_isinstance (pa_cons (pv 1) (pa_cons (pe_bltn (v := .ty "bool") (by rfl) T.bool (by decide +kernel) rfl) pa_nil))) (nomark _)) (pe_one (pe_cmpR op_eq (pv 0) (pv 1) (nomark _))))))), ?_⟩
    obtain ⟨x, rfl, hx, q⟩ := h
    have pc : Paired ClsV [V.ty "tuple", V.ty "list"] [.type "tuple", .type "list"] := .cons (.ty _) (.cons (.ty _) .nil)
    obtain ⟨k, hk, n1, n2, n3, sx⟩ : ∃ k, (∀ H, Kd H x k) ∧ k ≠ .tup ∧ k ≠ .lst ∧ k ≠ .bl ∧ scal x x = true := by
      cases hx with
      | int i => exact ⟨.int, fun _ => .int i, by decide, by decide, by decide, rfl⟩
      | str z => exact ⟨.str, fun _ => .str z, by decide, by decide, by decide, rfl⟩
      | non => exact ⟨.non, fun _ => .non, by decide, by decide, by decide, rfl⟩
    refine ⟨x, rfl, by show 2 ≤ sizeLine; decide, fun c nc => ⟨x, c, _, _, _, _, rfl, upd_same, pc, Kd.tyx (hk _), kit_tl k, _, rfl, ?_⟩⟩
    rw [decide_eq_false n1, decide_eq_false n2]
    refine iteF ?_
    have kb : kitB k .bl = false := by cases hx <;> (cases hk (fun _ => none); rfl)
    refine ⟨x, rfl, x, .ty "bool", .type (Kn.name k), .type "bool", kitB k .bl, rfl, .ty _, Kd.tyx (hk _), kit_kn k .bl, x, rfl, x, .ty "bool", .type (Kn.name k), .type "bool", kitB k .bl, rfl, .ty _, Kd.tyx (hk _), kit_kn k .bl, rfl, _, rfl, ?_⟩
    rw [decide_eq_true rfl]
    refine iteT ⟨x, rfl, x, rfl, sx, ?_⟩
    rw [decide_eq_true rfl]
    exact q _ (Same.new nc)
abbrev sPiece : Stmt := topS 38
theorem scPiece : FnScope ["hand", "texts", "spots", "number", "at", "found", "way"] ["hand", "texts"] (defScope sPiece) := ⟨rfl, rfl, rfl, by decide +kernel, rfl, by decide +kernel, by decide +kernel⟩
theorem ok_Piece {f : Addr} {fd : FuncData} (F : Fun K "_law_piece" "_law_piece" sPiece f fd)  {fDraw : Addr} {fdDraw : FuncData} (DDraw : Dk P w K mg base "_law_draw" sDraw ["hand", "many"] 1 spDraw fDraw fdDraw) {fSign : Addr} {fdSign : FuncData} (DSign : Dk P w K mg base "_law_sign" sSign ["hand", "kind"] 3 spSign fSign fdSign) {fWord : Addr} {fdWord : FuncData} (DWord : Dk P w K mg base "_law_word" sWord ["hand", "most"] 4 spLWord fWord fdWord) {fPlaces : Addr} {fdPlaces : FuncData} (DPlaces : Dk P w K mg base "_law_places" sPlaces ["texts"] 1 spLPlaces fPlaces fdPlaces) (T : Glob mg) : FnOk P w K mg base CX0 5 f fd ["hand", "texts"] spPiece := by
  refine F.ok scPiece (fun vs H Q E h => ?_) (fun cdv A outer s H vs Q E hr h => ?_)
  · obtain ⟨p, a, ts, rfl, _⟩ := h
    rfl
  · refine ⟨_, (pss_cons (ps_set (i := 2) scPiece.nd rfl (.inl rfl) (pe_call DPlaces.ok (hr.mono (by decide)) (by rfl) DPlaces.g DPlaces.F.kp DPlaces.b .nil pass0 (pa_cons (pv 1) pa_nil)))
      (pss_cons (ps_if (PW.pt (pw_or (pt_cmpR op_eq (pe_callB call_len_seq (by rfl) T.len PySem.boot_len (pa_cons (pv 2) pa_nil)) pe_int (nomark _)) (pw_or1 (pt_cmpR op_eq (pe_call DDraw.ok (hr.mono (by decide)) (by rfl) DDraw.g DDraw.F.kp DDraw.b .nil pass0 (pa_cons (pv 0) (pa_cons pe_int pa_nil))) pe_int (nomark _)))))
      (pss_one (ps_ret (pe_call DWord.ok (hr.mono (by decide)) (by rfl) DWord.g DWord.F.kp DWord.b .nil pass0 (pa_cons (pv 0) (pa_cons pe_int pa_nil)))))
      pss_nil)
      (pss_cons (ps_asg (pe_ix ix_list (pv 2) (pe_call DDraw.ok (hr.mono (by decide)) (by rfl) DDraw.g DDraw.F.kp DDraw.b .nil pass0 (pa_cons (pv 0) (pa_cons (pe_callB call_len_seq (by rfl) T.len PySem.boot_len (pa_cons (pv 2) pa_nil)) pa_nil))) (fun _ _ => rfl)) (pg_tup (by rfl) (pgs_cons (pg_name (i := 3) scPiece.nd rfl (.inl rfl)) (pgs_cons (pg_name (i := 4) scPiece.nd rfl (.inl rfl)) pgs_nil))))
      (pss_cons (ps_set (i := 5) scPiece.nd rfl (.inl rfl) (pe_slice sl_str (pe_ix ix_tup (pv 1) (pv 3) (fun _ _ => rfl)) (po_some (pv 4)) (po_some (pe_op op_add (pe_op op_add (pv 4) pe_int) (pe_call DDraw.ok (hr.mono (by decide)) (by rfl) DDraw.g DDraw.F.kp DDraw.b .nil pass0 (pa_cons (pv 0) (pa_cons pe_int pa_nil)))))))
      (pss_cons (ps_set (i := 6) scPiece.nd rfl (.inl rfl) (pe_call DDraw.ok (hr.mono (by decide)) (by rfl) DDraw.g DDraw.F.kp DDraw.b .nil pass0 (pa_cons (pv 0) (pa_cons pe_int pa_nil))))
      (pss_cons (ps_if (pt_cmpR op_eq (pv 6) pe_int (nomark _))
      (pss_one (ps_ret (pe_op op_add_str (pv 5) (pe_call DSign.ok (hr.mono (by decide)) (by rfl) DSign.g DSign.F.kp DSign.b .nil pass0 (pa_cons (pv 0) (pa_cons pe_int pa_nil))))))
      pss_nil)
      (pss_cons (ps_if (pt_cmpR op_eq (pv 6) pe_int (nomark _))
      (pss_one (ps_ret (pe_op op_add_str (pe_call DSign.ok (hr.mono (by decide)) (by rfl) DSign.g DSign.F.kp DSign.b .nil pass0 (pa_cons (pv 0) (pa_cons pe_int pa_nil))) (pv 5))))
      pss_nil)
      (pss_cons (ps_if (pt_cmpR op_eq (pv 6) pe_int (nomark _))
      (pss_one (ps_ret (pe_slice sl_str (pe_ix ix_tup (pv 1) (pv 3) (fun _ _ => rfl)) (po_some (pv 4)) po_none)))
      pss_nil)
      (pss_one (ps_ret (pv 5))))))))))), ?_⟩
    obtain ⟨p, a, ts, rfl, ht, l, hH, q⟩ := h
    refine ⟨.ref a, rfl, a, ts, rfl, ht, fun s H1 k1 ns hp1 => ?_⟩
    have h1 := hH.same k1
    have nsp := (hH.ne ns).1
    have b1 := But.same (p := p) k1
    obtain ⟨vs, hs1, hv1⟩ := hp1
    have lv := hv1.len
    dsimp only [tSeq, tIfS, gName]
    refine (?_ : ∀ Q : Bool → Hp → Prop, (∀ b H2, HandL H2 p l → But p H1 H2 → (b = false → 0 < vs.length) → Q b H2) → tOr _ _ _ H1 Q) _ ?_
    · intro Q0 k0
      refine ⟨.ref s, rfl, s, vs, rfl, .inl (sq_of hs1), rfl, _, rfl, ite2 (fun e => k0 _ _ h1 (But.refl p H1) (fun w => Bool.noConfusion w)) (fun e => ?_)⟩
      rw [dec_int] at e
      have pos : 0 < vs.length := by
        have : ¬ ((vs.length : Nat) : Int) = 0 := fun z => e (decide_eq_true z)
        omega
      exact ⟨.ref p, rfl, p, 4, rfl, by decide, by decide, l, h1, fun w H2 w0 w1 h2 b2 => ⟨rfl, _, rfl, k0 _ _ h2 b2 (fun _ => pos)⟩⟩
    · intro b H2 h2 b2 hb
      have b12 := b1.trans b2
      cases b with
      | true =>
        exact iteT ⟨.ref p, rfl, p, 4, rfl, by decide, by decide, l, h2, fun y H3 sy ly py h3 b3 => q y H3 ⟨sy, py, by omega⟩ h3 (b12.trans b3)⟩
      | false =>
        have pos := hb rfl
        refine iteF ⟨.ref s, rfl, .ref p, rfl, .ref s, rfl, s, vs, rfl, .inl (sq_of (b2 _ _ nsp hs1)), p, (vs.length : Int), rfl, by omega, by have := pl_len ht.len ht.few; omega, l, h2, fun v H3 v0 v1 h3 b3 => ?_⟩
        obtain ⟨i, rfl⟩ := Int.eq_ofNat_of_zero_le v0
        have hi : i < vs.length := by omega
        obtain ⟨q1, eq1, d, ed, hd⟩ := hv1.at (List.getElem?_eq_getElem hi)
        have iq := pl_mem.mp (List.mem_of_getElem? eq1)
        have hd3 := b3 _ _ (tup_ne h2 (b2 _ _ (tup_ne h1 hd) hd)) (b2 _ _ (tup_ne h1 hd) hd)
        have ht3 := ((ht.same k1).but h1 b2).but h2 b3
        have eat : atI vs ((i : Nat) : Int) = some (.ref d) := atI_nat (by rw [List.getElem?_eq_getElem hi, ed])
        refine ⟨s, _, _, _, rfl, rfl, sq_of (b3 _ _ nsp (b2 _ _ nsp hs1)), eat, d, _, rfl, SqT.of hd3, rfl, _, _, rfl, _, _, rfl, rfl, ?_⟩
        have lt := tx_len ht.len q1.1
        refine ⟨.ref a, rfl, _, rfl, a, _, _, _, rfl, rfl, SqT.of ht3.at_, atI_nat (tx_at iq.text), _, rfl, _, rfl, _, rfl, _, _, rfl, rfl, .ref p, rfl, p, 6, rfl, by decide, by decide, l, h3, fun u H4 u0 u1 h4 b4 => ?_⟩
        refine ⟨_, _, rfl, rfl, _, rfl, _, rfl, len5 (by omega), ?_⟩
        have ht4 := ht3.but h3 b4
        have b14 := (b12.trans b3).trans b4
        dsimp only
        obtain ⟨f, ef⟩ : ∃ f, f = cutS (tx ts q1.1) (some ((q1.2 : Nat) : Int)) (some (((q1.2 : Nat) : Int) + 1 + u)) := ⟨_, rfl⟩
        rw [← ef]
        have sgt := ht.sg _ (tx_mem iq.text)
        have wf : Wd f := by
          have c := cutS_of (z := tx ts q1.1) (i := ((q1.2 : Nat) : Int)) (j := ((q1.2 : Nat) : Int) + 1 + u) (by omega) (by omega)
          have l2 := congrArg List.length c
          rw [List.length_take, List.length_drop, ← len_S, ← len_S] at l2
          have ia := iq.at_
          have e8 : ((q1.2 : Nat) : Int).toNat = q1.2 := Int.toNat_natCast _
          rw [e8, ← ef] at l2
          refine ⟨by rw [ef]; exact sgB_cut sgt _ _, by omega, by omega⟩
        have lf : f.length ≤ 200 := by
          rw [ef]
          exact Nat.le_trans (cut_len _ _) lt
        refine ⟨.ref p, rfl, p, 6, rfl, by decide, by decide, l, h4, fun wy H5 w0 w6 h5 b5 => ?_⟩
        have b15 := b14.trans b5
        have ht5 := ht4.but h4 b5
        have so : ∀ c, sgC c = true → sgB (SX.S [c]) = true := fun c hc => by rw [sgB_S]; exact List.all_eq_true.mpr fun d hd => by rw [List.mem_singleton.mp hd]; exact hc
        refine ⟨.int wy, rfl, rfl, _, rfl, ite2 (fun e => ?_) (fun e => ?_)⟩
        · refine ⟨_, rfl, .ref p, rfl, p, 3, rfl, by decide, by decide, l, h5, fun c H6 hc h6 b6 => ⟨_, _, rfl, rfl, ?_, q _ _ ⟨sgB_app wf.sg (so c hc), ?_, ?_⟩ h6 (b15.trans b6)⟩⟩
          · rw [sizeLine_eq, len_S1]
            show f.length + 1 ≤ _
            omega
          · rw [app_len]; have := wf.pos; omega
          · rw [app_len, len_S1]
            show f.length + 1 ≤ _
            omega
        · dsimp only [tNext, tDrop]
          refine ⟨.int wy, rfl, rfl, _, rfl, ite2 (fun e => ?_) (fun e => ?_)⟩
          · refine ⟨.ref p, rfl, p, 3, rfl, by decide, by decide, l, h5, fun c H6 hc h6 b6 => ⟨_, rfl, _, _, rfl, rfl, ?_, q _ _ ⟨sgB_app (so c hc) wf.sg, ?_, ?_⟩ h6 (b15.trans b6)⟩⟩
            · rw [sizeLine_eq, len_S1]
              show 1 + f.length ≤ _
              omega
            · rw [app_len]; have := wf.pos; omega
            · rw [app_len, len_S1]
              show 1 + f.length ≤ _
              omega
          · dsimp only [tNext, tDrop]
            refine ⟨.int wy, rfl, rfl, _, rfl, ite2 (fun e => ?_) (fun e => ?_)⟩
            · refine ⟨.ref a, rfl, _, rfl, a, _, _, _, rfl, rfl, SqT.of ht5.at_, atI_nat (tx_at iq.text), _, rfl, _, rfl, _, rfl, len5 (by omega), q _ _ ⟨sgB_cut sgt _ _, ?_, ?_⟩ h5 b15⟩
              · have := sfx_len ts q1
                have ia := iq.at_
                show 1 ≤ (sfx ts q1).length
                omega
              · have := sfx_len2 ht.len q1
                show (sfx ts q1).length ≤ 5000
                omega
            · dsimp only [tNext, tDrop]
              exact ⟨_, rfl, q _ _ wf h5 b15⟩
end
end LawK
set_option maxHeartbeats 4000000
namespace LawK
open PySem PySem.Spec PyProof.Rows L2 Ev

inductive SameX (S : Hp → V → V → Prop) (H : Hp) : V → V → Prop
  | sc {x : V} (h : Sc x) : SameX S H x x
  | bl (b : Bool) : SameX S H (.bl b) (.bl b)
  | tup {a b : Addr} {xs ys : List V} (ha : H a = some (.tup xs)) (hb : H b = some (.tup ys)) (hl : xs.length = ys.length) (few : xs.length ≤ 5000) (hp : ∀ (i : Nat) x y, xs[i]? = some x → ys[i]? = some y → S H x y) : SameX S H (.ref a) (.ref b)
  | lst {a b : Addr} {xs ys : List V} (ha : H a = some (.lst xs)) (hb : H b = some (.lst ys)) (hl : xs.length = ys.length) (few : xs.length ≤ 5000) (hp : ∀ (i : Nat) x y, xs[i]? = some x → ys[i]? = some y → S H x y) : SameX S H (.ref a) (.ref b)
theorem SameX.mono {S : Hp → V → V → Prop} (hm : ∀ H H' x y, Same H H' → S H x y → S H' x y) : ∀ H H' x y, Same H H' → SameX S H x y → SameX S H' x y := fun H H' x y k h => by
  cases h with
  | sc h => exact .sc h
  | bl b => exact .bl b
  | tup ha hb hl few hp => exact .tup (k _ _ ha) (k _ _ hb) hl few fun i x y e1 e2 => hm _ _ _ _ k (hp i x y e1 e2)
  | lst ha hb hl few hp => exact .lst (k _ _ ha) (k _ _ hb) hl few fun i x y e1 e2 => hm _ _ _ _ k (hp i x y e1 e2)
def R0 : Hp → V → V → Prop := fun _ _ _ => False
def R1 := SameX R0
def R2 := SameX R1
def R3 := SameX R2
theorem R0.mono : ∀ H H' x y, Same H H' → R0 H x y → R0 H' x y := fun _ _ _ _ _ h => h
theorem R1.mono : ∀ H H' x y, Same H H' → R1 H x y → R1 H' x y := SameX.mono R0.mono
theorem R2.mono : ∀ H H' x y, Same H H' → R2 H x y → R2 H' x y := SameX.mono R1.mono
theorem R3.mono : ∀ H H' x y, Same H H' → R3 H x y → R3 H' x y := SameX.mono R2.mono
def spIsR (S : Hp → V → V → Prop) : Sp := fun vs H Q _ => ∃ x y, vs = [x, y] ∧ S H x y ∧ ∀ H', Same H H' → Q (.bl true) H'
theorem walk_zipT2 {K : PySem.W.Frag} {a b : Addr} {xs ys : List V} {n : Nat} (hn : n = min xs.length ys.length) : Walk (RZ.ItzT K a b) n (fun H => SqT K H a xs ∧ SqT K H b ys) (YPair (fun i => xs[i]?) (fun i => ys[i]?)) := by
  subst hn
  refine ⟨fun i _ hi q => ?_, fun _ q => ⟨xs, ys, q.1, q.2, by omega⟩, fun i H v H' _ q y => ?_⟩
  · have h1 : i < xs.length := by omega
    have h2 : i < ys.length := by omega
    exact ⟨xs, ys, xs[i], ys[i], q.1, q.2, by simp [h1], by simp [h2]⟩
  · obtain ⟨T, x, z, h1, h2, h3, h4, h5⟩ := y
    exact ⟨T, x, z, h1, h2, h3, h4 xs q.1, h5 ys q.2⟩
theorem kitL {K : PySem.W.Frag} (k : Kn) : PySem.W.kitAny K (.type k.name) [.type "tuple", .type "list"] = some (decide (k = .tup) || decide (k = .lst)) := kit_tl k
section
variable {P : Program} {w : World} {K : PySem.W.Frag} {mg : Str → Option Value} {base : Heap}

theorem ok_is_step {S : Hp → V → V → Prop} (hm : ∀ H H' x y, Same H H' → S H x y → S H' x y) {k : Nat} {f : Addr} {fd : FuncData} (F : Fun K "_law_is" "_law_is" sIs f fd) (bS : Binds K fd ["told", "due"] []) (gS : mg "_law_is" = some (.ref f)) (G : FnOk P w K mg base CX0 k f fd ["told", "due"] (spIsR S)) (T : Glob mg) : FnOk P w K mg base CX0 (k + 1) f fd ["told", "due"] (spIsR (SameX S)) := by
  refine F.ok scIs (fun vs H Q E h => ?_) (fun cdv A outer s H vs Q E hr h => ?_)
  · obtain ⟨x, y, rfl, _⟩ := h
    rfl
  · refine ⟨_, (pss_cons (ps_if (pt_val (pe_callB call_isiT (by rfl) T.isinstance PyProof.Rows.boot_isinstance (pa_cons (pv 1) (pa_cons (pe_tup (pa_cons (pe_bltn (v := .ty "tuple") (by rfl) T.tuple (by decide +kernel) rfl) (pa_cons (pe_bltn (v := .ty "list") (by rfl) T.list (by decide +kernel) rfl) pa_nil))) pa_nil))))
      (pss_cons (ps_if (PW.pt (pw_or (pt_cmpR op_ne (pe_callB call_isi (by rfl) T.isinstance PyProof.Rows.boot_isinstance (pa_cons (pv 0) (pa_cons (pe_bltn (v := .ty "tuple") (by rfl) T.tuple (by decide +kernel) rfl) pa_nil))) (pe_callB call_isi (by rfl) T.isinstance PyProof.Rows.boot_isinstance (pa_cons (pv 1) (pa_cons (pe_bltn (v := .ty "tuple") (by rfl) T.tuple (by decide +kernel) rfl) pa_nil))) (nomark _)) (pw_or1 (pt_not (pt_val (pe_callB call_isiT (by rfl) T.isinstance PyProof.Rows.boot_isinstance (pa_cons (pv 0) (pa_cons (pe_tup (pa_cons (pe_bltn (v := .ty "tuple") (by rfl) T.tuple (by decide +kernel) rfl) (pa_cons (pe_bltn (v := .ty "list") (by rfl) T.list (by decide +kernel) rfl) pa_nil))) pa_nil))))))))
        (pss_one (ps_ret pe_bl))
        pss_nil)
        (pss_one (ps_ret (pe_and (pe_cmpR op_eq (pe_callB call_len_seq (by rfl) T.len PySem.boot_len (pa_cons (pv 0) pa_nil)) (pe_callB call_len_seq (by rfl) T.len PySem.boot_len (pa_cons (pv 1) pa_nil)) (nomark _)) (pe_one (pe_callB (cr_all rfl) (by rfl) T.all (by decide +kernel) (pa_cons (pe_lc (own := [("one", 2), ("two", 3)]) (g := (gTup K 2 (gCons (gName 2) (gCons (gName 3) gNil)))) (by rfl) scIs.nd (RZ.pi_zipA (by rfl) T.zip (pa_cons (pv 0) (pa_cons (pv 1) pa_nil))) (blkOk_by (N := ["told", "due", "one", "two"]) (sc := defScope sIs) (by decide +kernel)) (fun _ _ _ _ _ => pg_tup (by rfl) (pgs_cons (pg_name (i := 2) scIs.nd rfl (.inl rfl)) (pgs_cons (pg_name (i := 3) scIs.nd rfl (.inl rfl)) pgs_nil))) (fun _ _ _ _ _ => pts_nil) (fun _ _ _ _ _ => (pe_call G (hr.mono (by omega)) (by rfl) gS F.kp bS .nil pass0 (pa_cons (pv 2) (pa_cons (pv 3) pa_nil))))) pa_nil)))))))
      pss_nil)
      (pss_one (ps_ret (pe_and (pe_cmpR op_eq (pe_callB call_isi (by rfl) T.isinstance PyProof.Rows.boot_isinstance (pa_cons (pv 0) (pa_cons (pe_bltn (v := .ty "bool") (by rfl) T.bool (by decide +kernel) rfl) pa_nil))) (pe_callB call_isi (by rfl) T.isinstance PyProof.Rows.boot_isinstance (pa_cons (pv 1) (pa_cons (pe_bltn (v := .ty "bool") (by rfl) T.bool (by decide +kernel) rfl) pa_nil))) (nomark _)) (pe_one (pe_cmpR op_eq (pv 0) (pv 1) (nomark _))))))), ?_⟩
    obtain ⟨x, y, rfl, hS, q⟩ := h
    have pc : Paired ClsV [V.ty "tuple", V.ty "list"] [.type "tuple", .type "list"] := .cons (.ty _) (.cons (.ty _) .nil)
    have hq : (∃ k, (∀ H, Kd H x k) ∧ k ≠ .tup ∧ k ≠ .lst ∧ scal x x = true ∧ x = y) ∨ (∃ a b xs ys, x = .ref a ∧ y = .ref b ∧ xs.length = ys.length ∧ xs.length ≤ 5000 ∧ (∀ (i : Nat) x y, xs[i]? = some x → ys[i]? = some y → S H x y) ∧ (H a = some (.tup xs) ∧ H b = some (.tup ys) ∨ H a = some (.lst xs) ∧ H b = some (.lst ys))) := by
      cases hS with
      | sc h =>
        cases h with
        | int i => exact .inl ⟨.int, fun _ => .int i, by decide, by decide, rfl, rfl⟩
        | str z => exact .inl ⟨.str, fun _ => .str z, by decide, by decide, rfl, rfl⟩
        | non => exact .inl ⟨.non, fun _ => .non, by decide, by decide, rfl, rfl⟩
      | bl b => exact .inl ⟨.bl, fun _ => .bl b, by decide, by decide, rfl, rfl⟩
      | tup ha hb hl few hp => exact .inr ⟨_, _, _, _, rfl, rfl, hl, few, hp, .inl ⟨ha, hb⟩⟩
      | lst ha hb hl few hp => exact .inr ⟨_, _, _, _, rfl, rfl, hl, few, hp, .inr ⟨ha, hb⟩⟩
    rcases hq with ⟨k, hk, n1, n2, sx, rfl⟩ | ⟨a, b, xs, ys, rfl, rfl, hl, few, hp, ⟨ha, hb⟩ | ⟨ha, hb⟩⟩
    · refine ⟨x, rfl, by show 2 ≤ sizeLine; decide, fun c nc => ⟨x, c, _, _, _, _, rfl, upd_same, pc, Kd.tyx (hk _), kit_tl k, _, rfl, ?_⟩⟩
      rw [decide_eq_false n1, decide_eq_false n2]
      refine iteF ?_
      refine ⟨x, rfl, x, .ty "bool", .type (Kn.name k), .type "bool", kitB k .bl, rfl, .ty _, Kd.tyx (hk _), kit_kn k .bl, x, rfl, x, .ty "bool", .type (Kn.name k), .type "bool", kitB k .bl, rfl, .ty _, Kd.tyx (hk _), kit_kn k .bl, rfl, _, rfl, ?_⟩
      rw [decide_eq_true rfl]
      refine iteT ⟨x, rfl, x, rfl, sx, ?_⟩
      rw [decide_eq_true rfl]
      exact q _ (Same.new nc)
    · refine ⟨.ref b, rfl, by show 2 ≤ sizeLine; decide, fun c nc => ⟨.ref b, c, _, _, _, _, rfl, upd_same, pc, Kd.tyx (Kd.same (Same.new nc) (.tup hb)), kit_tl .tup, _, rfl, iteT ?_⟩⟩
      have k1 := Same.new (H := H) (o := .tup [V.ty "tuple", .ty "list"]) nc
      have ha1 := k1 _ _ ha
      have hb1 := k1 _ _ hb
      revert k1 ha1 hb1
      generalize upd H c (.tup [V.ty "tuple", .ty "list"]) = H1
      intro k1 ha1 hb1
      refine ⟨.ref a, rfl, .ref a, .ty "tuple", .type (Kn.name .tup), .type "tuple", kitB .tup .tup, rfl, .ty _, Kd.tyx (.tup ha1), kit_kn .tup .tup, .ref b, rfl, .ref b, .ty "tuple", .type (Kn.name .tup), .type "tuple", kitB .tup .tup, rfl, .ty _, Kd.tyx (.tup hb1), kit_kn .tup .tup, rfl, _, rfl, iteF ?_⟩
      refine ⟨.ref a, rfl, by show 2 ≤ sizeLine; decide, fun d nd => ⟨.ref a, d, _, _, _, _, rfl, upd_same, pc, Kd.tyx (Kd.same (Same.new nd) (.tup ha1)), kit_tl .tup, _, rfl, iteF ?_⟩⟩
      have k2 := k1.trans (Same.new (H := H1) (o := .tup [V.ty "tuple", .ty "list"]) nd)
      have ha2 := k2 _ _ ha
      have hb2 := k2 _ _ hb
      revert k2 ha2 hb2
      generalize upd H1 d (.tup [V.ty "tuple", .ty "list"]) = H2
      intro k2 ha2 hb2
      clear nc nd ha1 hb1 k1
      dsimp only [tNext, tDrop]
      refine ⟨.ref a, rfl, a, xs, rfl, .inr (SqT.of ha2), .ref b, rfl, b, ys, rfl, .inr (SqT.of hb2), rfl, _, rfl, ?_⟩
      rw [hl, decide_eq_true rfl]
      refine iteT ⟨.ref a, rfl, .ref b, rfl, a, b, xs, ys, rfl, .inr ⟨SqT.of ha2, SqT.of hb2, fun D nD => lc_it (walk_zipT2 (K := K) (a := a) (b := b) (xs := xs) (ys := ys) (n := xs.length) (by rw [hl, Nat.min_self])) (fun i H' => Same H2 H' ∧ H' D = some (.lst (List.replicate i (V.bl true)))) ⟨Same.new nD, upd_same⟩ (fun i H' _ g => ⟨SqT.of (g.1 _ _ ha2), SqT.of (g.1 _ _ hb2)⟩) ?_ ?_⟩⟩
      · rintro i v H3 H4 hi ⟨k3, hD⟩ ⟨t, y1, y2, rfl, nt, rfl, e1, e2⟩
        have kt := Same.new (H := H3) (o := .tup [y1, y2]) nt
        refine ⟨t, [y1, y2], rfl, SqT.of upd_same, rfl, y1, [y2], rfl, y2, [], rfl, rfl, rfl, y1, rfl, y2, rfl, y1, y2, rfl, hm _ _ _ _ ((k2.trans k3).trans kt) (hp i y1 y2 e1 e2), fun H5 k5 => ⟨_, (kt.trans k5) _ _ hD, ?_, sameAt ((k3.trans kt).trans k5) nD, ?_⟩⟩
        · rw [List.length_replicate]
          have h3 : sizeLine = 16777216 := sizeLine_eq
          omega
        · rw [upd_same, List.replicate_succ']
      · rintro H3 ⟨k3, hD⟩
        refine ⟨D, List.replicate xs.length true, rfl, sq_of (by rw [hD, List.map_replicate]), ?_⟩
        rw [show (List.replicate xs.length true).all id = true from List.all_eq_true.mpr fun b hb => (List.mem_replicate.mp hb).2]
        exact q _ (k2.trans k3)

    · refine ⟨.ref b, rfl, by show 2 ≤ sizeLine; decide, fun c nc => ⟨.ref b, c, _, _, _, _, rfl, upd_same, pc, Kd.tyx (Kd.same (Same.new nc) (.lst hb)), kit_tl .lst, _, rfl, iteT ?_⟩⟩
      have k1 := Same.new (H := H) (o := .tup [V.ty "tuple", .ty "list"]) nc
      have ha1 := k1 _ _ ha
      have hb1 := k1 _ _ hb
      revert k1 ha1 hb1
      generalize upd H c (.tup [V.ty "tuple", .ty "list"]) = H1
      intro k1 ha1 hb1
      refine ⟨.ref a, rfl, .ref a, .ty "tuple", .type (Kn.name .lst), .type "tuple", kitB .lst .tup, rfl, .ty _, Kd.tyx (.lst ha1), kit_kn .lst .tup, .ref b, rfl, .ref b, .ty "tuple", .type (Kn.name .lst), .type "tuple", kitB .lst .tup, rfl, .ty _, Kd.tyx (.lst hb1), kit_kn .lst .tup, rfl, _, rfl, iteF ?_⟩
      refine ⟨.ref a, rfl, by show 2 ≤ sizeLine; decide, fun d nd => ⟨.ref a, d, _, _, _, _, rfl, upd_same, pc, Kd.tyx (Kd.same (Same.new nd) (.lst ha1)), kit_tl .lst, _, rfl, iteF ?_⟩⟩
      have k2 := k1.trans (Same.new (H := H1) (o := .tup [V.ty "tuple", .ty "list"]) nd)
      have ha2 := k2 _ _ ha
      have hb2 := k2 _ _ hb
      revert k2 ha2 hb2
      generalize upd H1 d (.tup [V.ty "tuple", .ty "list"]) = H2
      intro k2 ha2 hb2
      clear nc nd ha1 hb1 k1
      dsimp only [tNext, tDrop]
      refine ⟨.ref a, rfl, a, xs, rfl, .inl (sq_of ha2), .ref b, rfl, b, ys, rfl, .inl (sq_of hb2), rfl, _, rfl, ?_⟩
      rw [hl, decide_eq_true rfl]
      refine iteT ⟨.ref a, rfl, .ref b, rfl, a, b, xs, ys, rfl, .inl ⟨sq_of ha2, sq_of hb2, fun D nD => lc_it (walk_zip (K := K) (a := a) (b := b) (xs := xs) (ys := ys) (n := xs.length) (by rw [hl, Nat.min_self])) (fun i H' => Same H2 H' ∧ H' D = some (.lst (List.replicate i (V.bl true)))) ⟨Same.new nD, upd_same⟩ (fun i H' _ g => ⟨sq_of (g.1 _ _ ha2), sq_of (g.1 _ _ hb2)⟩) ?_ ?_⟩⟩
      · rintro i v H3 H4 hi ⟨k3, hD⟩ ⟨t, y1, y2, rfl, nt, rfl, e1, e2⟩
        have kt := Same.new (H := H3) (o := .tup [y1, y2]) nt
        refine ⟨t, [y1, y2], rfl, SqT.of upd_same, rfl, y1, [y2], rfl, y2, [], rfl, rfl, rfl, y1, rfl, y2, rfl, y1, y2, rfl, hm _ _ _ _ ((k2.trans k3).trans kt) (hp i y1 y2 e1 e2), fun H5 k5 => ⟨_, (kt.trans k5) _ _ hD, ?_, sameAt ((k3.trans kt).trans k5) nD, ?_⟩⟩
        · rw [List.length_replicate]
          have h3 : sizeLine = 16777216 := sizeLine_eq
          omega
        · rw [upd_same, List.replicate_succ']
      · rintro H3 ⟨k3, hD⟩
        refine ⟨D, List.replicate xs.length true, rfl, sq_of (by rw [hD, List.map_replicate]), ?_⟩
        rw [show (List.replicate xs.length true).all id = true from List.all_eq_true.mpr fun b hb => (List.mem_replicate.mp hb).2]
        exact q _ (k2.trans k3)

end
end LawK
set_option maxHeartbeats 4000000
namespace Ev
open PySem PySem.Spec PyProof.Rows L2 PySem.W
/-! min and max of data with default=None; > of data; sorted of a set of numbers -/
section
variable {X : Cx}
/-- x > y of data -/
def rGtD (K : PySem.W.Frag) : R2 := fun x y H Q => ∃ d e, Dp K H x d ∧ Dp K H y e ∧ alike d e = true ∧ d ≠ .none ∧ min d.depth e.depth ≤ 60 ∧ Q (.bl (dataLt e d)) H
theorem op_gtD (hu : X.A.units + 64 < cLine) : OpR X (compareOp .Gt) (rGtD X.K) := by
  intro pins s σ H x y v u Q I rx ry h
  obtain ⟨d, e, hd, he, al, nn, dp, q⟩ := h
  obtain ⟨as, r1⟩ := Dp.reads I d x v hd rx
  obtain ⟨bs, r2⟩ := Dp.reads I e y u he ry
  exact gt_data r1 r2 al nn (by omega) ⟨.bl _, H, I, rfl, q⟩
theorem dpAll_of {K : PySem.W.Frag} {H : Hp} : ∀ {bs : List DV}, (∀ b ∈ bs, Dp K H b.1 b.2) → DpAll K H (bs.map (·.1)) (bs.map (·.2))
  | [], _ => .nil
  | b :: bs, h => .cons (h b List.mem_cons_self) (dpAll_of fun c hc => h c (List.mem_cons_of_mem _ hc))
def rMinDf (K : PySem.W.Frag) (best : PyData → List PyData → PyData) : List V → List V → Hp → VK → Prop := fun vs zs H Q => ∃ (a : Addr) (bs : List DV), vs = [V.ref a] ∧ zs = [.non] ∧ SqL K H a (bs.map (·.1)) ∧ (∀ b ∈ bs, Dp K H b.1 b.2) ∧ AlikeAll (bs.map (·.2)) ∧ PyData.depthAll (bs.map (·.2)) ≤ 60 ∧
  (bs = [] → Q .non H) ∧ ∀ (y : PyData) (ys : List PyData) (i : Nat) (b : DV), bs.map (·.2) = y :: ys → bs[i]? = some b → b.2 = best y ys → Q b.1 H
theorem at_bs {K : PySem.W.Frag} {H : Hp} {pins : List (Addr × Obj)} {σ : L2.St} {s : Shared} (I : Inv X pins σ H s) {bs : List DV} {us : List Value} (rv : Vals (bs.map (·.1)) us) (hd : ∀ b ∈ bs, Dp X.K H b.1 b.2) {i : Nat} {v : Value} (e : us[i]? = some v) :
    ∃ b, bs[i]? = some b ∧ RelV b.1 v ∧ ∃ as, Reads s.heap v b.2 as := by
  have hi : i < bs.length := by
    have := (List.getElem?_eq_some_iff.mp e).1
    rw [← rv.length, List.length_map] at this
    exact this
  obtain ⟨u, hu, ru⟩ := rv.get (i := i) (x := (bs[i]).1) (by rw [List.getElem?_map, List.getElem?_eq_getElem hi]; rfl)
  have eu : u = v := Option.some.inj (hu.symm.trans e)
  subst eu
  exact ⟨bs[i], List.getElem?_eq_getElem hi, ru, Dp.reads I _ _ _ (hd _ (List.getElem_mem hi)) ru⟩
theorem cr_minDf (hc : X.calm = true) (hu : X.A.units + 64 < cLine) : CallRK X (.builtin "min") [Str.ofString "default"] (rMinDf X.K minD) := by
  intro pins s σ H vs zs us ws Q I r rz h
  obtain ⟨a, bs, rfl, rfl, hs, hd, al, dp, q0, q1⟩ := h
  obtain rfl := Vals.ref1 r
  obtain ⟨w1, rfl, e1⟩ := vals1 rz
  obtain rfl : w1 = Value.none := e1
  obtain ⟨its, rv, hl, hz⟩ := I.list hs
  obtain ⟨as, ra⟩ := Dp.readsAll I _ _ _ (dpAll_of hd) rv
  refine min_list_default (I.ok.hd hc) hl.isList (by simpa using ra) al (by omega) (fun e h' tk hk => ?_) fun y ys i v h' tk bs' e hv hr hk => ?_
  · exact ⟨.non, H, I.kept (t' := tk) hk, rfl, q0 (List.map_eq_nil_iff.mp e)⟩
  · obtain ⟨b, hb, rb, as', r'⟩ := at_bs (K := X.K) I rv hd (i := i) (v := v) (by simpa using hv)
    exact ⟨b.1, H, I.kept (t' := tk) hk, rb, q1 y ys i b e hb (reads_det (fun b o w _ => hk b o w) r' hr).1.symm⟩
theorem cr_maxDf (hc : X.calm = true) (hu : X.A.units + 64 < cLine) : CallRK X (.builtin "max") [Str.ofString "default"] (rMinDf X.K maxD) := by
  intro pins s σ H vs zs us ws Q I r rz h
  obtain ⟨a, bs, rfl, rfl, hs, hd, al, dp, q0, q1⟩ := h
  obtain rfl := Vals.ref1 r
  obtain ⟨w1, rfl, e1⟩ := vals1 rz
  obtain rfl : w1 = Value.none := e1
  obtain ⟨its, rv, hl, hz⟩ := I.list hs
  obtain ⟨as, ra⟩ := Dp.readsAll I _ _ _ (dpAll_of hd) rv
  refine max_list_default (I.ok.hd hc) hl.isList (by simpa using ra) al (by omega) (fun e h' tk hk => ?_) fun y ys i v h' tk bs' e hv hr hk => ?_
  · exact ⟨.non, H, I.kept (t' := tk) hk, rfl, q0 (List.map_eq_nil_iff.mp e)⟩
  · obtain ⟨b, hb, rb, as', r'⟩ := at_bs (K := X.K) I rv hd (i := i) (v := v) (by simpa using hv)
    exact ⟨b.1, H, I.kept (t' := tk) hk, rb, q1 y ys i b e hb (reads_det (fun b o w _ => hk b o w) r' hr).1.symm⟩
end
end Ev
set_option maxHeartbeats 4000000
namespace Ev
open PySem PySem.Spec PyProof.Rows L2
section
variable {X : Cx}
theorem vals_ints2 : ∀ {out : List Value}, (∀ v ∈ out, ∃ i t, v = Value.int i t) → Vals ((out.map SrtO.iv).map V.int) out
  | [], _ => .nil
  | v :: out, h => by
    obtain ⟨i, t, e⟩ := h v List.mem_cons_self
    subst e
    exact .cons ⟨t, rfl⟩ (vals_ints2 fun u hu => h u (List.mem_cons_of_mem _ hu))
/-- sorted(s), s a set of numbers: ascending -/
def rSortedSi (P : Program) (w : World) : List V → Hp → VK → Prop := fun vs H Q => ∃ (a : Addr) (S : Key → Bool) (n : Nat), vs = [V.ref a] ∧ H a = some (SetX P w a S n) ∧ (∀ k, S k = true → ∃ z, k = Sum.inl z) ∧
  ∀ (zs : List Int) (p : Addr), zs.Pairwise (· < ·) → (∀ z, z ∈ zs ↔ S (Sum.inl z) = true) → zs.length = n → H p = none → Q (.ref p) (upd H p (.lst (zs.map V.int)))
theorem cr_sortedSi (hc : X.calm = true) : CallR X (.builtin "sorted") (rSortedSi X.prog X.w) := fun pins s σ H vs us Q I r h => by
  obtain ⟨a, S, n, rfl, ha, hS, q⟩ := h
  rw [Vals.ref1 r]
  have isI : ∀ v, (∃ k, (mixKind X.prog X.w).is k v = true ∧ S k = true) → ∃ i t, v = Value.int i t ∧ S (.inl i) = true := fun v ⟨k, h1, h2⟩ => by
    obtain ⟨z, rfl⟩ := hS k h2
    rcases keyIs_shape (show keyIs (.inl z) v = true from h1) with ⟨i, t, e1, e2⟩ | ⟨x, t, e1, e2⟩
    · cases e1; exact ⟨z, t, e2, h2⟩
    · cases e1
  refine sorted_setG SrtO.swo_int (setX_get I ha) (I.ok.hd hc) (fun vs mem h2 A' z d => ints_sortable2 (fun v hv => let ⟨i, t, e, _⟩ := isI v (mem v hv); ⟨i, t, e⟩) h2) fun z p out c k g o hp hg hs mem all ap hl => ?_
  have hO : ∀ v ∈ out, ∃ i t, v = Value.int i t ∧ S (.inl i) = true := fun v hv => isI v (mem v hv)
  have hV := vals_ints2 fun v hv => let ⟨i, t, e, _⟩ := hO v hv; ⟨i, t, e⟩
  have lo : ((out.map SrtO.iv).map V.int).length ≤ sizeLine := by
    obtain ⟨o, es, ep, t, ho, _, _, _, ⟨hb, hf, hn⟩, _⟩ := setX_get I ha
    rw [List.length_map, List.length_map, hl, ← hn]; exact fits_of_scanBound hb
  have hn : H p = none := I.hok.fresh hp
  have J : Inv X pins σ (upd H p (.lst ((out.map SrtO.iv).map V.int))) z := I.call' (ch := []) o (Un.laid k hp hn) (I.hok.laid k hp ⟨lo, out, c, hV, hg⟩) (by rw [g]; exact I.bare) (fun _ z => nomatch z)
  refine ⟨.ref p, _, J, rfl, q _ p ?_ (fun y => ⟨fun hy => ?_, fun hy => ?_⟩) (by rw [List.length_map]; exact hl) hn⟩
  · refine List.pairwise_map.mpr (List.Pairwise.imp_of_mem (fun {u v} hu hv w => ?_) (hs.and ap))
    obtain ⟨x, t, rfl, _⟩ := hO u hu
    obtain ⟨y, t', rfl, _⟩ := hO v hv
    have e1 : ¬ y < x := of_decide_eq_false w.1
    have e2 : x ≠ y := fun e => w.2 (.inl x) (mixKind_int _ _ x t) (by rw [e]; exact mixKind_int _ _ y t')
    show x < y
    omega
  · obtain ⟨v, hv, rfl⟩ := List.mem_map.mp hy
    obtain ⟨x, t, rfl, z⟩ := hO v hv
    exact z
  · obtain ⟨v, hv, z⟩ := all _ hy
    obtain ⟨x, t, rfl, _⟩ := hO v hv
    refine List.mem_map.mpr ⟨_, hv, ?_⟩
    have := (mixKind X.prog X.w).inj _ _ _ z (mixKind_int X.prog X.w x t)
    exact (Sum.inl.inj this).symm
end
end Ev
set_option maxHeartbeats 4000000
namespace LawK
open PySem PySem.Spec PyProof.Rows L2 Ev PySem.W
/-- the order of places -/
def ltP (p q : Pl) : Prop := p.1 < q.1 ∨ p.1 = q.1 ∧ p.2 < q.2
instance (p q : Pl) : Decidable (ltP p q) := inferInstanceAs (Decidable (_ ∨ _))
theorem ltP_irr (p : Pl) : ¬ ltP p p := fun h => by unfold ltP at h; omega
theorem ltP_tr {p q r : Pl} (h : ltP p q) (k : ltP q r) : ltP p r := by unfold ltP at *; omega
theorem ltP_tri (p q : Pl) : ltP p q ∨ p = q ∨ ltP q p := by
  have e : p = q ↔ p.1 = q.1 ∧ p.2 = q.2 := ⟨fun h => by rw [h]; exact ⟨rfl, rfl⟩, fun h => Prod.ext h.1 h.2⟩
  rw [e]
  unfold ltP
  omega
theorem pl_asc (ts : List Str) : (pl ts).Pairwise ltP := by
  have : ∀ n, (plN ts n).Pairwise ltP := fun n => by
    induction n with
    | zero => exact List.Pairwise.nil
    | succ n ih =>
      rw [plN_succ]
      refine List.pairwise_append.mpr ⟨ih, ?_, fun x hx y hy => ?_⟩
      · unfold row
        exact List.pairwise_map.mpr (List.pairwise_lt_range.imp fun h => .inr ⟨rfl, h⟩)
      · obtain ⟨i, hi, hx⟩ := List.mem_flatMap.mp hx
        obtain ⟨j, _, rfl⟩ := List.mem_map.mp hx
        obtain ⟨k, _, rfl⟩ := List.mem_map.mp hy
        exact .inl (List.mem_range.mp hi)
  exact this _
/-- the places of a word -/
def fnd (ts : List Str) (w : Str) : List Pl := (pl ts).filter (beg ts w)
theorem fnd_asc (ts : List Str) (w : Str) : (fnd ts w).Pairwise ltP := (pl_asc ts).sublist List.filter_sublist
theorem fnd_mem {ts : List Str} {w : Str} {p : Pl} : p ∈ fnd ts w ↔ InT ts p ∧ cod w <+: cod (sfx ts p) := by
  unfold fnd
  rw [List.mem_filter, pl_mem]
  refine and_congr_right fun _ => ?_
  unfold beg
  rw [decide_eq_true_eq]
def encP (p : Pl) : PyData := .tuple [.int (p.1 : Nat), .int (p.2 : Nat)]
theorem encP_lt (p q : Pl) : dataLt (encP p) (encP q) = decide (ltP p q) := by
  unfold encP
  rw [dataLt_ii]
  by_cases h : ltP p q
  · rw [decide_eq_true h]
    exact decide_eq_true (by unfold ltP at h; omega)
  · rw [decide_eq_false h]
    exact decide_eq_false fun z => h (by unfold ltP; omega)
theorem encP_inj {p q : Pl} (h : encP p = encP q) : p = q := by
  unfold encP at h
  injection h with h
  injection h with h1 h2
  injection h2 with h2 _
  injection h1 with h1
  injection h2 with h2
  exact Prod.ext (Int.ofNat.inj h1) (Int.ofNat.inj h2)
theorem encP_dp {K : PySem.W.Frag} {H : Hp} {v : V} {p : Pl} (h : PAt H v p) : Dp K H v (encP p) := by
  obtain ⟨b, rfl, e⟩ := h
  exact .tup (SqT.of e) (.cons (.int _) (.cons (.int _) .nil))
theorem encP_alike (p q : Pl) : alike (encP p) (encP q) = true := by
  unfold encP
  simp [alike, alikeAll]
theorem encP_depth (p : Pl) : (encP p).depth = 1 := by
  unfold encP
  simp [PyData.depth, PyData.depthAll]
theorem encs_depth : ∀ ps : List Pl, PyData.depthAll (ps.map encP) ≤ 1
  | [] => by simp [PyData.depthAll]
  | p :: ps => by
    have := encs_depth ps
    have e := encP_depth p
    show PyData.depthAll (encP p :: ps.map encP) ≤ 1
    rw [PyData.depthAll, e]
    omega
theorem encs_alike (ps : List Pl) : AlikeAll (ps.map encP) := by
  refine ⟨fun x hx y hy => ?_, fun x hx => ?_⟩
  · obtain ⟨p, _, rfl⟩ := List.mem_map.mp hx
    obtain ⟨q, _, rfl⟩ := List.mem_map.mp hy
    exact encP_alike p q
  · obtain ⟨p, _, rfl⟩ := List.mem_map.mp hx
    exact fun e => by unfold encP at e; cases e
theorem min_asc {p : Pl} {ps : List Pl} (h : (p :: ps).Pairwise ltP) : minD (encP p) (ps.map encP) = encP p := by
  have h1 := (List.pairwise_cons.mp h).1
  unfold minD
  have : ∀ qs : List Pl, (∀ q ∈ qs, ltP p q) → (qs.map encP).foldl (fun a y => if dataLt y a then y else a) (encP p) = encP p := fun qs hq => by
    induction qs with
    | nil => rfl
    | cons q qs ih =>
      rw [List.map_cons, List.foldl_cons, encP_lt, decide_eq_false (fun z => ltP_irr _ (ltP_tr z (hq q List.mem_cons_self)))]
      exact ih fun r hr => hq r (List.mem_cons_of_mem _ hr)
  exact this ps h1
theorem max_asc : ∀ {ps : List Pl} {p : Pl}, (p :: ps).Pairwise ltP → maxD (encP p) (ps.map encP) = encP ((p :: ps).getLast (by simp))
  | [], p, _ => rfl
  | q :: ps, p, h => by
    obtain ⟨h1, h2⟩ := List.pairwise_cons.mp h
    have := max_asc h2
    unfold maxD at this ⊢
    rw [List.map_cons, List.foldl_cons, encP_lt, decide_eq_true (h1 q List.mem_cons_self)]
    rw [List.getLast_cons (by simp)]
    exact this
/-- a place or None -/
def PO (H : Hp) (v : V) : Option Pl → Prop
  | none => v = .non
  | some p => PAt H v p
theorem PO.same {H H' : Hp} {v : V} {o : Option Pl} (k : Same H H') (h : PO H v o) : PO H' v o := by
  cases o with
  | none => exact h
  | some p => exact PAt.same k h
theorem bs_of {H : Hp} {vs : List V} {ps : List Pl} (h : All2 (PAt H) vs ps) : ∃ zs : List (V × Pl), vs = zs.map (·.1) ∧ ps = zs.map (·.2) ∧ ∀ z ∈ zs, PAt H z.1 z.2 := h.zs
theorem min_pls {K : PySem.W.Frag} {H : Hp} {a : Addr} {vs : List V} {ps : List Pl} {Q : VK} (ha : H a = some (.lst vs)) (h : All2 (PAt H) vs ps) (asc : ps.Pairwise ltP) (q : ∀ v, PO H v ps.head? → Q v H) : rMinDf K minD [.ref a] [.non] H Q := by
  obtain ⟨zs, rfl, rfl, hz⟩ := h.zs
  refine ⟨a, zs.map fun z => (z.1, encP z.2), rfl, rfl, by rw [List.map_map]; exact sq_of ha, ?_, ?_, ?_, ?_, ?_⟩
  · intro b hb
    obtain ⟨z, hz', rfl⟩ := List.mem_map.mp hb
    exact encP_dp (hz z hz')
  · have := encs_alike (zs.map (·.2))
    rw [List.map_map] at this ⊢
    exact this
  · have := encs_depth (zs.map (·.2))
    rw [List.map_map] at this ⊢
    exact Nat.le_trans this (by decide)
  · intro e
    rw [List.map_eq_nil_iff] at e
    subst e
    exact q .non rfl
  · intro y ys i b e hb e2
    cases zs with
    | nil => cases e
    | cons z zs =>
      simp only [List.map_cons] at e asc q
      obtain ⟨e3, e4⟩ := List.cons.inj e
      rw [List.getElem?_map] at hb
      obtain ⟨z', hz', rfl⟩ := Option.map_eq_some_iff.mp hb
      have mn := min_asc asc
      rw [List.map_map] at mn
      rw [List.map_map] at e4
      rw [← e3, ← e4] at e2
      have : encP z'.2 = encP z.2 := e2.trans mn
      refine q z'.1 ?_
      show PAt H z'.1 z.2
      rw [← encP_inj this]
      exact hz z' (List.mem_of_getElem? hz')
theorem max_pls {K : PySem.W.Frag} {H : Hp} {a : Addr} {vs : List V} {ps : List Pl} {Q : VK} (ha : H a = some (.lst vs)) (h : All2 (PAt H) vs ps) (asc : ps.Pairwise ltP) (q : ∀ v, PO H v ps.getLast? → Q v H) : rMinDf K maxD [.ref a] [.non] H Q := by
  obtain ⟨zs, rfl, rfl, hz⟩ := h.zs
  refine ⟨a, zs.map fun z => (z.1, encP z.2), rfl, rfl, by rw [List.map_map]; exact sq_of ha, ?_, ?_, ?_, ?_, ?_⟩
  · intro b hb
    obtain ⟨z, hz', rfl⟩ := List.mem_map.mp hb
    exact encP_dp (hz z hz')
  · have := encs_alike (zs.map (·.2))
    rw [List.map_map] at this ⊢
    exact this
  · have := encs_depth (zs.map (·.2))
    rw [List.map_map] at this ⊢
    exact Nat.le_trans this (by decide)
  · intro e
    rw [List.map_eq_nil_iff] at e
    subst e
    exact q .non rfl
  · intro y ys i b e hb e2
    cases zs with
    | nil => cases e
    | cons z zs =>
      simp only [List.map_cons] at e asc q
      obtain ⟨e3, e4⟩ := List.cons.inj e
      rw [List.getElem?_map] at hb
      obtain ⟨z', hz', rfl⟩ := Option.map_eq_some_iff.mp hb
      have mn := max_asc asc
      rw [List.map_map] at mn
      rw [List.map_map] at e4
      rw [← e3, ← e4] at e2
      have : encP z'.2 = _ := e2.trans mn
      refine q z'.1 ?_
      rw [List.getLast?_eq_some_getLast (by simp)]
      show PAt H z'.1 _
      rw [← encP_inj this]
      exact hz z' (List.mem_of_getElem? hz')
/-- two lists that ascend, of the same places -/
theorem pl_one : ∀ (xs ys : List Pl), xs.Pairwise ltP → ys.Pairwise ltP → (∀ z, z ∈ xs ↔ z ∈ ys) → xs = ys
  | [], [], _, _, _ => rfl
  | [], y :: ys, _, _, h => absurd ((h y).mpr List.mem_cons_self) (by simp)
  | x :: xs, [], _, _, h => absurd ((h x).mp List.mem_cons_self) (by simp)
  | x :: xs, y :: ys, p, q, h => by
    obtain ⟨p1, p2⟩ := List.pairwise_cons.mp p
    obtain ⟨q1, q2⟩ := List.pairwise_cons.mp q
    have e : x = y := by
      rcases List.mem_cons.mp ((h x).mp List.mem_cons_self) with e | e
      · exact e
      · rcases List.mem_cons.mp ((h y).mpr List.mem_cons_self) with f | f
        · exact f.symm
        · exact absurd (ltP_tr (p1 y f) (q1 x e)) (ltP_irr _)
    subst e
    refine congrArg (x :: ·) (pl_one xs ys p2 q2 fun z => ?_)
    have hz := h z
    rw [List.mem_cons, List.mem_cons] at hz
    constructor
    · intro m
      rcases hz.mp (.inr m) with e | e
      · exact absurd (p1 z m) (by rw [e]; exact ltP_irr _)
      · exact e
    · intro m
      rcases hz.mpr (.inr m) with e | e
      · exact absurd (q1 z m) (by rw [e]; exact ltP_irr _)
      · exact e
/-- which texts have the word -/
def lotN (ts : List Str) (w : Str) : List Nat := (List.range ts.length).filter fun i => decide (0 < ((fnd ts w).filter fun p => decide (p.1 = i)).length)
theorem lot_mem {ts : List Str} {w : Str} {i : Nat} : i ∈ lotN ts w ↔ ∃ p ∈ fnd ts w, p.1 = i := by
  unfold lotN
  rw [List.mem_filter, List.mem_range, decide_eq_true_eq, List.length_pos_iff_exists_mem]
  constructor
  · rintro ⟨_, p, hp⟩
    obtain ⟨a, b⟩ := List.mem_filter.mp hp
    exact ⟨p, a, of_decide_eq_true b⟩
  · rintro ⟨p, hp, rfl⟩
    exact ⟨(fnd_mem.mp hp).1.text, p, List.mem_filter.mpr ⟨hp, decide_eq_true rfl⟩⟩
theorem int_one : ∀ (xs ys : List Int), xs.Pairwise (· < ·) → ys.Pairwise (· < ·) → (∀ z, z ∈ xs ↔ z ∈ ys) → xs = ys
  | [], [], _, _, _ => rfl
  | [], y :: ys, _, _, h => absurd ((h y).mpr List.mem_cons_self) (by simp)
  | x :: xs, [], _, _, h => absurd ((h x).mp List.mem_cons_self) (by simp)
  | x :: xs, y :: ys, p, q, h => by
    obtain ⟨p1, p2⟩ := List.pairwise_cons.mp p
    obtain ⟨q1, q2⟩ := List.pairwise_cons.mp q
    have e : x = y := by
      rcases List.mem_cons.mp ((h x).mp List.mem_cons_self) with e | e
      · exact e
      · rcases List.mem_cons.mp ((h y).mpr List.mem_cons_self) with f | f
        · exact f.symm
        · have a := p1 y f
          have b := q1 x e
          omega
    subst e
    refine congrArg (x :: ·) (int_one xs ys p2 q2 fun z => ?_)
    have hz := h z
    rw [List.mem_cons, List.mem_cons] at hz
    constructor
    · intro m
      have := p1 z m
      rcases hz.mp (.inr m) with e | e
      · omega
      · exact e
    · intro m
      have := q1 z m
      rcases hz.mpr (.inr m) with e | e
      · omega
      · exact e
theorem lot_asc (ts : List Str) (w : Str) : ((lotN ts w).map fun i => ((i : Nat) : Int)).Pairwise (· < ·) := by
  refine List.pairwise_map.mpr ?_
  have : (lotN ts w).Pairwise (· < ·) := List.pairwise_lt_range.sublist List.filter_sublist
  exact this.imp fun h => by omega
/-- where a word stands, its end is cut so -/
theorem cut_beg {z w : Str} : decide (V.str (cutS z none (some (w.length : Int))) = V.str w) = decide (cod w <+: cod z) := by
  rw [dec_str, Bool.eq_iff_iff, decide_eq_true_eq, decide_eq_true_eq]
  have e : cod (cutS z none (some (w.length : Int))) = (cod z).take w.length := by
    have := cutS_to (z := z) (i := (w.length : Int)) (by omega)
    rw [Int.toNat_natCast] at this
    exact this
  rw [List.prefix_iff_eq_take, ← len_S w]
  constructor
  · intro h
    rw [← e, h]
  · intro h
    exact cod_inj (e.trans h.symm)
theorem cut_beg2 {z w : Str} {j : Nat} : decide (V.str (cutS z (some ((j : Nat) : Int)) (some (((j : Nat) : Int) + (w.length : Int)))) = V.str w) = decide (cod w <+: (cod z).drop j) := by
  rw [dec_str, Bool.eq_iff_iff, decide_eq_true_eq, decide_eq_true_eq]
  have e : cod (cutS z (some ((j : Nat) : Int)) (some (((j : Nat) : Int) + (w.length : Int)))) = ((cod z).drop j).take w.length := by
    have e := cutS_of (z := z) (i := ((j : Nat) : Int)) (j := ((j : Nat) : Int) + (w.length : Int)) (by omega) (by omega)
    rw [show (((j : Nat) : Int) + (w.length : Int) - (j : Nat)).toNat = w.length by omega] at e
    exact e
  rw [List.prefix_iff_eq_take, ← len_S w]
  constructor
  · intro h
    rw [← e, h]
  · intro h
    exact cod_inj (e.trans h.symm)
end LawK
set_option maxHeartbeats 4000000
namespace LawK
open PySem PySem.Spec PyProof.Rows L2 Ev

theorem kit_no {K : PySem.W.Frag} {k : Kn} (n : k ≠ .tup) : PySem.W.kitOne K (.type k.name) (.type "tuple") = some false := by
  have e : kitB k .tup = false := by cases k <;> first | rfl | exact absurd rfl n
  have z := kit_kn (K := K) k .tup
  rw [e] at z
  exact z
def spPPlaceG (C : Addr) : Sp := fun vs H Q _ => ∃ (s : Addr) (ts : List Str) (x : V) (o : Option (List V)), vs = [.ref s, x] ∧ LibAt H C s ts ∧ Tg H x o ∧ Q (.bl (placeV ts o)) H
/-- what a word may be -/
structure Wy (H : Hp) (y : V) : Prop where
  kd : ∃ k, Kd H y k
  vs : Vs y
theorem Wy.same {H H' : Hp} {y : V} (k : Same H H') (h : Wy H y) : Wy H' y := ⟨let ⟨n, q⟩ := h.kd; ⟨n, q.same k⟩, h.vs⟩
theorem wd_of {y : V} (h : wordV y = true) (v : Vs y) : ∃ w, y = .str w ∧ Wd w := by
  cases y with
  | str z =>
    have h' : (sgB z && decide ((0 : Int) < (z.length : Int))) = true := h
    obtain ⟨h1, h2⟩ := Bool.and_eq_true_iff.mp h'
    have := of_decide_eq_true h2
    exact ⟨z, rfl, h1, by omega, v z rfl⟩
  | _ => exact Bool.noConfusion h
theorem fnd_len {ts : List Str} (h : ∀ t ∈ ts, t.length ≤ 200) (f : ts.length ≤ 8) (w : Str) : (fnd ts w).length ≤ 1600 := Nat.le_trans (List.length_filter_le _ _) (pl_len h f)
section
variable {P : Program} {w : World} {K : PySem.W.Frag} {mg : Str → Option Value} {base : Heap}
variable {C fI : Addr} {fdI : FuncData}
variable {PE cW cP cN : Addr}
theorem okg_PPlace {f : Addr} {fd : FuncData} (F : Fun K "is_place" "is_place" sPPlace f fd) {fPNumber : Addr} {fdPNumber : FuncData} (DPNumber : Dk P w K mg base "is_number" sPNumber ["thing"] 1 spNum fPNumber fdPNumber) (L : LibC K mg C fI fdI) (T : Glob mg) : FnOk P w K mg base CX0 2 f fd ["library", "thing"] (spPPlaceG C) := by
  refine F.ok scPPlace (fun vs H Q E h => ?_) (fun cdv A outer s H vs Q E hr h => ?_)
  · obtain ⟨s, ts, x, o, rfl, _⟩ := h
    rfl
  · obtain ⟨p, ts, x, o, rfl, ⟨⟨dx, a, h1, h2⟩, few, sg1, len1⟩, hT, q⟩ := h
    refine ⟨_, (pss_cons (ps_if (PW.pt (pw_or (pt_not (pt_val (pe_callB call_isi (by rfl) T.isinstance PyProof.Rows.boot_isinstance (pa_cons (pv 1) (pa_cons (pe_bltn (v := .ty "tuple") (by rfl) T.tuple (by decide +kernel) rfl) pa_nil))))) (pw_or1 (pt_cmpR op_ne (pe_callB call_len_seq (by rfl) T.len PySem.boot_len (pa_cons (pv 1) pa_nil)) pe_int (nomark _)))))
      (pss_one (ps_ret pe_bl))
      pss_nil)
      (pss_cons (ps_asg (pv 1) (pg_tup (by rfl) (pgs_cons (pg_name (i := 2) scPPlace.nd rfl (.inl rfl)) (pgs_cons (pg_name (i := 3) scPPlace.nd rfl (.inl rfl)) pgs_nil))))
      (pss_cons (ps_if (PW.pt (pw_or (pt_not (pt_val (pe_call DPNumber.ok (hr.mono (by decide)) (by rfl) DPNumber.g DPNumber.F.kp DPNumber.b .nil pass0 (pa_cons (pv 2) pa_nil)))) (pw_or1 (pt_not (pt_val (pe_call DPNumber.ok (hr.mono (by decide)) (by rfl) DPNumber.g DPNumber.F.kp DPNumber.b .nil pass0 (pa_cons (pv 3) pa_nil)))))))
      (pss_one (ps_ret pe_bl))
      pss_nil)
      (pss_one (ps_ret (pe_and (pe_cmpR op_lt (pv 2) (pe_callB call_len_seq (by rfl) T.len PySem.boot_len (pa_cons (pe_fld (pv 0) rfl) pa_nil)) (nomark _)) (pe_one (pe_cmpR op_lt (pv 3) (pe_callB call_lenZ (by rfl) T.len PySem.boot_len (pa_cons (pe_ix ix_tup (pe_fld (pv 0) rfl) (pv 2) (fun _ _ => rfl)) pa_nil)) (nomark _))))))))), ?_⟩
    cases hT with
    | @no _ k hk n s =>
      exact ⟨x, rfl, x, .ty "tuple", .type (Kn.name k), .type "tuple", false, rfl, .ty _, Kd.tyx hk, kit_no n, _, rfl, iteT q⟩
    | @tup b xs e n hy =>
      refine ⟨.ref b, rfl, .ref b, .ty "tuple", .type (Kn.name .tup), .type "tuple", kitB .tup .tup, rfl, .ty _, Kd.tyx (.tup e), kit_kn .tup .tup, _, rfl, iteF ?_⟩
      refine ⟨.ref b, rfl, b, xs, rfl, .inr (SqT.of e), rfl, _, rfl, ite2 (fun g => ?_) (fun g => ?_)⟩
      · have g' : ¬ xs.length = 2 := fun z => by
          rw [z] at g
          exact absurd g (by decide)
        have ez : placeV ts (some xs) = false := by
          match xs, g' with
          | [], _ => rfl
          | [x], _ => rfl
          | [x, y], g' => exact absurd rfl g'
          | x :: y :: z :: r, _ => rfl
        rw [ez] at q
        exact q
      have g' : xs.length = 2 := Classical.byContradiction fun z => g (by
        have : ¬ V.int (xs.length : Int) = V.int 2 := fun e => z (by
          have := V.int.inj e
          omega)
        rw [decide_eq_false this]
        rfl)
      obtain ⟨x, y, rfl⟩ : ∃ x y, xs = [x, y] := by
        match xs, g' with
        | [], g' => cases g'
        | [x], g' => cases g'
        | [x, y], _ => exact ⟨x, y, rfl⟩
        | x :: y :: z :: r, g' => simp at g'
      obtain ⟨⟨k1, hk1⟩, hv1⟩ := hy x (by simp)
      obtain ⟨⟨k2, hk2⟩, hv2⟩ := hy y (by simp)
      refine ⟨.ref b, rfl, b, [x, y], rfl, SqT.of e, rfl, x, [y], rfl, y, [], rfl, rfl, ?_⟩
      refine ⟨x, rfl, x, k1, rfl, hk1, _, rfl, ite2 (fun c => ?_) (fun c => ?_)⟩
      · have c' : numV x = false := by simpa using c
        have ez : placeV ts (some [x, y]) = false := by
          cases x with
          | int i =>
            have c2 : decide (0 ≤ i) = false := c'
            show (decide (0 ≤ i) && _ && _) = false
            rw [c2, Bool.false_and, Bool.false_and]
          | non => rfl
          | bl b => rfl
          | str b => rfl
          | byt b => rfl
          | flt b => rfl
          | ref b => rfl
          | ty b => rfl
        rw [ez] at q
        exact q
      have c' : numV x = true := by simpa using c
      refine ⟨y, rfl, y, k2, rfl, hk2, _, rfl, ite2 (fun d => ?_) (fun d => ?_)⟩
      · have d' : numV y = false := by simpa using d
        have ez : placeV ts (some [x, y]) = false := by
          have e2 : ∀ m : Int, inV2 0 m y = false := fun m => by
            cases y with
            | int j =>
              have c2 : decide (0 ≤ j) = false := d'
              show (decide (0 ≤ j) && _) = false
              rw [c2, Bool.false_and]
            | non => rfl
            | bl b => rfl
            | str b => rfl
            | byt b => rfl
            | flt b => rfl
            | ref b => rfl
            | ty b => rfl
          cases x with
          | int i =>
            show (inV2 0 ((ts.length : Int) - 1) (.int i) && inV2 0 (((ts.getD i.toNat Str.empty).length : Int) - 1) y) = false
            rw [e2, Bool.and_false]
          | non => cases c'
          | bl b => cases c'
          | str b => cases c'
          | byt b => cases c'
          | flt b => cases c'
          | ref b => cases c'
          | ty b => cases c'
        rw [ez] at q
        exact q
      have d' : numV y = true := by simpa using d
      obtain ⟨i, rfl, hi⟩ : ∃ i, x = .int i ∧ 0 ≤ i := by
        cases x with
        | int i => exact ⟨i, rfl, of_decide_eq_true c'⟩
        | non => cases c'
        | bl b => cases c'
        | str b => cases c'
        | byt b => cases c'
        | flt b => cases c'
        | ref b => cases c'
        | ty b => cases c'
      obtain ⟨j, rfl, hj⟩ : ∃ j, y = .int j ∧ 0 ≤ j := by
        cases y with
        | int i => exact ⟨i, rfl, of_decide_eq_true d'⟩
        | non => cases d'
        | bl b => cases d'
        | str b => cases d'
        | byt b => cases d'
        | flt b => cases d'
        | ref b => cases d'
        | ty b => cases d'
      have ez : placeV ts (some [.int i, .int j]) = (decide (i < (ts.length : Int)) && decide (j < ((ts.getD i.toNat Str.empty).length : Int))) := by
        show ((decide (0 ≤ i) && decide (i ≤ (ts.length : Int) - 1)) && (decide (0 ≤ j) && decide (j ≤ ((ts.getD i.toNat Str.empty).length : Int) - 1))) = _
        rw [decide_eq_true hi, decide_eq_true hj, Bool.true_and, Bool.true_and]
        congr 1
        · exact decide_eq_decide.mpr (by omega)
        · exact decide_eq_decide.mpr (by omega)
      rw [ez] at q
      refine ⟨.int i, rfl, .ref p, rfl, p, C, dx, _, .ref a, rfl, h1, L.cl, L.nt, lk1, a, _, rfl, .inr (SqT.of h2), _, _, rfl, rfl, _, rfl, ?_⟩
      rw [List.length_map]
      refine ite2 (fun c => ?_) (fun c => ?_)
      · have hi2 : i < (ts.length : Int) := of_decide_eq_true c
        obtain ⟨et, hm⟩ := text_at hi hi2
        rw [c, Bool.true_and] at q
        exact ⟨.int j, rfl, .ref p, rfl, p, C, dx, _, .ref a, rfl, h1, L.cl, L.nt, lk1, .int i, rfl, a, _, i, _, rfl, rfl, SqT.of h2, et, _, rfl, len5 (Nat.le_trans (len1 _ hm) (by decide)), _, _, rfl, rfl, q⟩
      · have c2 : decide (i < (ts.length : Int)) = false := by simpa using c
        rw [c2, Bool.false_and] at q
        exact q
end
end LawK
set_option maxHeartbeats 4000000
/-! repr of data of any shape. -/
namespace Ev
open PySem PySem.Spec PyProof.Rows L2
mutual
/-- the datum d is told by v: lists and tuples of any length -/
inductive Dg (H : Hp) : V → PyData → Prop
  | non : Dg H .non .none
  | bl (b : Bool) : Dg H (.bl b) (.bool b)
  | int (i : Int) : Dg H (.int i) (.int i)
  | str (x : Str) : Dg H (.str x) (.str x)
  | lst {a : Addr} {vs : List V} {es : List PyData} (e : H a = some (.lst vs)) (n : a ≠ sysModules) (h : Dgs H vs es) : Dg H (.ref a) (.list es)
  | tup {a : Addr} {vs : List V} {es : List PyData} (e : H a = some (.tup vs)) (h : Dgs H vs es) : Dg H (.ref a) (.tuple es)
inductive Dgs (H : Hp) : List V → List PyData → Prop
  | nil : Dgs H [] []
  | cons {v : V} {vs : List V} {d : PyData} {es : List PyData} (h : Dg H v d) (t : Dgs H vs es) : Dgs H (v :: vs) (d :: es)
end
section
variable {X : Cx} {pins : List (Addr × Obj)} {σ : L2.St} {H : Hp} {s : Shared}
mutual
theorem Dg.reads (I : L2.Inv X pins σ H s) {v : V} {d : PyData} (h : Dg H v d) {u : Value} (r : RelV v u) : ∃ as, Reads s.heap u d as ∧ sysModules ∉ as := by
  cases h with
  | non => cases r; exact ⟨_, .none, by simp⟩
  | bl b => cases r; exact ⟨_, .bool b, by simp⟩
  | int i => obtain ⟨t, rfl⟩ := r; exact ⟨_, .int i t, by simp⟩
  | str x => obtain ⟨t, rfl⟩ := r; exact ⟨_, .str x t, by simp⟩
  | lst e n h =>
    cases r
    obtain ⟨its, m, rv, ho⟩ := lst_at I e
    obtain ⟨as, q, nq⟩ := Dgs.reads I h rv
    exact ⟨_, .list ho rfl rfl q, by simp [Ne.symm n, nq]⟩
  | tup e h =>
    cases r
    obtain ⟨its, o, m, rv, ho, hc, hd⟩ := tup_at I e
    obtain ⟨as, q, nq⟩ := Dgs.reads I h rv
    exact ⟨_, .tuple ho hc hd q, nq⟩
theorem Dgs.reads (I : L2.Inv X pins σ H s) {vs : List V} {es : List PyData} (h : Dgs H vs es) {us : List Value} (r : Vals vs us) : ∃ as, ReadsAll s.heap us es as ∧ sysModules ∉ as := by
  cases h with
  | nil => cases r; exact ⟨_, .nil, by simp⟩
  | cons h t =>
    cases r with
    | cons r1 rr =>
      obtain ⟨as, q, nq⟩ := Dg.reads I h r1
      obtain ⟨bs, q2, nq2⟩ := Dgs.reads I t rr
      exact ⟨_, .cons q q2, by simp [nq, nq2]⟩
end
end
/-- repr(x), x a list or tuple of data -/
def rReprG : List V → Hp → VK → Prop := fun xs H Q => ∃ (a : Addr) (d : PyData), xs = [.ref a] ∧ Dg H (.ref a) d ∧ d.showable = true ∧ d.depth ≤ 100 ∧ d.shown.length ≤ 1000000 ∧ Q (.str d.shown) H
theorem call_reprG {X : Cx} {k : Nat} (hg : X.A.guards = some []) (hr : Room k X.A) : CallR X (.builtin "repr") rReprG := by
  intro pins s σ H xs us Q I r h
  obtain ⟨a, d, rfl, hd, hs, hdp, hz, q⟩ := h
  obtain ⟨u, rfl, ru⟩ := vals1 r
  cases ru
  obtain ⟨as, rd, ns⟩ := hd.reads I rfl
  have deep : X.A.units + (d.depth + 1) < cLine := by have := hr.un; omega
  exact repr_of_reads' rd hs (fun _ => ns) hg deep (fun _ _ e => e) (fun h' u tk k => ⟨.str d.shown, H, I.kept k, ⟨_, rfl⟩, q⟩) (Nat.le_trans hz (by decide))
/-- what may be shown: no number of more than twelve figures -/
theorem show_int {i : Int} (h1 : -999999999999 ≤ i) (h2 : i ≤ 999999999999) : (PyData.int i).showable = true ∧ (PyData.int i).leavesShort 13 = true := by
  refine ⟨?_, ?_⟩
  · have := Nat.log2_lt (n := i.natAbs) (k := 1920)
    simp only [PyData.showable, decide_eq_true_eq]
    by_cases h0 : i.natAbs = 0
    · rw [h0]; decide
    · refine (Nat.log2_lt h0).mpr (Nat.lt_of_lt_of_le (show i.natAbs < 2 ^ 40 from ?_) (Nat.pow_le_pow_right (by decide) (by decide)))
      have : (2 : Nat) ^ 40 = 1099511627776 := by decide
      omega
  · simp only [PyData.leavesShort, decide_eq_true_eq]
    exact PyData.shown_int_le2 h1 h2
end Ev
set_option maxHeartbeats 4000000
/-! repr of data nested deep: tuples, lists, dicts of one. -/
namespace Ev
open PySem PySem.Spec PyProof.Rows L2
inductive Nd (H : Hp) : Nat → V → PyData → Prop
  | non : Nd H 0 .non .none
  | str (z : Str) (h : z = Str.ofString "a") : Nd H 0 (.str z) (.str z)
  | neg : Nd H 0 (.int (-1)) (.int (-1))
  | dic {a : Addr} (e : H a = some (.dK [])) : Nd H 0 (.ref a) (.dict [])
  | tup {a : Addr} {x : V} {d : PyData} {n : Nat} (e : H a = some (.tup [x])) (h : Nd H n x d) : Nd H (n + 1) (.ref a) (.tuple [d])
  | lst {a : Addr} {x : V} {d : PyData} {n : Nat} (e : H a = some (.lst [x])) (m : a ≠ sysModules) (h : Nd H n x d) : Nd H (n + 1) (.ref a) (.list [d])
  | dik {a : Addr} {x : V} {d : PyData} {n : Nat} (e : H a = some (.dK [(.inl 0, x)])) (h : Nd H n x d) : Nd H (n + 1) (.ref a) (.dict [(.int 0, d)])
theorem Nd.same {H H' : Hp} {n : Nat} {v : V} {d : PyData} (k : ∀ b o, H b = some o → H' b = some o) (h : Nd H n v d) : Nd H' n v d := by
  induction h with
  | non => exact .non
  | str z h => exact .str z h
  | neg => exact .neg
  | dic e => exact .dic (k _ _ e)
  | tup e _ ih => exact .tup (k _ _ e) ih
  | lst e m _ ih => exact .lst (k _ _ e) m ih
  | dik e _ ih => exact .dik (k _ _ e) ih
section
variable {X : Cx} {pins : List (Addr × Obj)} {σ : L2.St} {H : Hp} {s : Shared}
theorem Nd.reads (I : L2.Inv X pins σ H s) {n : Nat} {v : V} {d : PyData} (h : Nd H n v d) : ∀ {u : Value}, RelV v u → ∃ as, Reads s.heap u d as ∧ sysModules ∉ as := by
  induction h with
  | non => intro u r; cases r; exact ⟨_, .none, by simp⟩
  | str z h => intro u r; obtain ⟨t, rfl⟩ := r; exact ⟨_, .str z t, by simp⟩
  | neg => intro u r; obtain ⟨t, rfl⟩ := r; exact ⟨_, .int _ t, by simp⟩
  | @dic a e => intro u r; exact (Dt.dic e).reads I r
  | @tup a x d n e hx ih =>
    intro u r
    cases r
    obtain ⟨its, o, m, rv, ho, hc, hd⟩ := tup_at I e
    cases rv with
    | cons r1 rr =>
      cases rr
      obtain ⟨as, q, nq⟩ := ih r1
      exact ⟨_, .tuple ho hc hd (.cons q .nil), by simp [nq]⟩
  | @lst a x d n e m hx ih =>
    intro u r
    cases r
    obtain ⟨its, c, rv, ho⟩ := lst_at I e
    cases rv with
    | cons r1 rr =>
      cases rr
      obtain ⟨as, q, nq⟩ := ih r1
      exact ⟨_, .list ho rfl rfl (.cons q .nil), by simp [Ne.symm m, nq]⟩
  | @dik a x d n e hx ih =>
    intro u r
    cases r
    obtain ⟨_, hs, vs, kv, o, es, ep, ho, hxd, hd, hk, hp, _⟩ := (show ObjOk X.prog X.w H s.heap a (.dK [(.inl 0, x)]) from I.hok a _ e)
    cases kv with
    | @cons p q0 ps qs h1 h2 =>
      cases h2
      obtain ⟨k0, u⟩ := q0
      obtain ⟨h1, h3⟩ := h1
      have h1 : (Sum.inl 0 : Key) = k0 := h1
      subst h1
      have h3 : RelV x u := h3
      generalize hes : es.toList = l at hp
      cases hp with
      | @cons en q es' qs' gk gv g2 =>
        cases g2
        obtain ⟨as, rd, nq⟩ := ih h3
        obtain ⟨t, et⟩ : ∃ t, en.key = .int 0 t := by
          have rk := relV_key (show keyIs (.inl 0) en.key = true from gk)
          exact rk
        refine ⟨a :: ([] ++ []) ++ (as ++ []), .dict (as := [] ++ []) (bs := as ++ []) ho hxd.1 hd ?_ ?_, ?_⟩
        · rw [hes]
          show ReadsAll _ [en.key] [PyData.int 0] _
          rw [et]
          exact .cons (.int 0 t) .nil
        · rw [hes]
          show ReadsAll _ [en.val] [d] _
          rw [show en.val = u from gv]
          exact .cons rd .nil
        · have : a ≠ sysModules := by simpa using hs
          simp [Ne.symm this, nq]
end
/-- the signs that the text of a pair of numbers has -/
def pcode (c : Nat) : Bool := decide (c = 40) || decide (c = 41) || decide (c = 44) || decide (c = 32) || (decide (48 ≤ c) && decide (c ≤ 57))
def BadTx (z : Str) : Prop := ∃ c ∈ z.cps.toList, pcode c = false
theorem bad_app1 {x y : Str} (h : BadTx x) : BadTx (x ++ y) := let ⟨c, m, p⟩ := h; ⟨c, by rw [show (x ++ y).cps.toList = x.cps.toList ++ y.cps.toList from TL.tl_append x y]; exact List.mem_append_left _ m, p⟩
theorem bad_app2 {x y : Str} (h : BadTx y) : BadTx (x ++ y) := let ⟨c, m, p⟩ := h; ⟨c, by rw [show (x ++ y).cps.toList = x.cps.toList ++ y.cps.toList from TL.tl_append x y]; exact List.mem_append_right _ m, p⟩
theorem len_app (x y : Str) : (x ++ y).length = x.length + y.length := strLen_append x y
theorem Nd.facts {H : Hp} {n : Nat} {v : V} {d : PyData} (h : Nd H n v d) : d.showable = true ∧ d.depth ≤ n + 1 ∧ d.shown.length ≤ 10 + 6 * n ∧ BadTx d.shown := by
  induction h with
  | non => exact ⟨by simp [PyData.showable], by simp [PyData.depth], by simp only [PyData.shown]; decide, 78, by simp only [PyData.shown]; decide +kernel, by decide⟩
  | str z h =>
    subst h
    exact ⟨by simp [PyData.showable], by simp [PyData.depth], by simp only [PyData.shown]; decide +kernel, 39, by simp only [PyData.shown]; decide +kernel, by decide⟩
  | neg => exact ⟨by simp only [PyData.showable]; decide +kernel, by simp [PyData.depth], by simp only [PyData.shown]; decide +kernel, 45, by simp only [PyData.shown]; decide +kernel, by decide⟩
  | dic e => exact ⟨by simp [PyData.showable, PyData.showableKv], by simp [PyData.depth, PyData.depthKv], by simp only [PyData.shown, PyData.shownKv]; decide +kernel, 123, by simp only [PyData.shown, PyData.shownKv]; decide +kernel, by decide⟩
  | @tup a x d n e _ ih =>
    obtain ⟨i1, i2, i3, i4⟩ := ih
    have es : (PyData.tuple [d]).shown = ("(" : Str) ++ d.shown ++ (",)" : Str) := by simp [PyData.shown, PyData.shownAll, tupleText, Str.join]
    refine ⟨by simp [PyData.showable, PyData.showableAll, i1], by simp only [PyData.depth, PyData.depthAll]; omega, ?_, ?_⟩
    · rw [es, len_app, len_app, show ("(" : Str).length = 1 by decide +kernel, show (",)" : Str).length = 2 by decide +kernel]
      omega
    · rw [es]
      exact bad_app1 (bad_app2 i4)
  | @lst a x d n e m _ ih =>
    obtain ⟨i1, i2, i3, i4⟩ := ih
    have es : (PyData.list [d]).shown = ("[" : Str) ++ ("" : Str) ++ d.shown ++ ("]" : Str) := by simp [PyData.shown, PyData.shownAll, listText, textFrom]
    refine ⟨by simp [PyData.showable, PyData.showableAll, i1], by simp only [PyData.depth, PyData.depthAll]; omega, ?_, ?_⟩
    · rw [es, len_app, len_app, len_app, show ("[" : Str).length = 1 by decide +kernel, show ("]" : Str).length = 1 by decide +kernel, show ("" : Str).length = 0 by decide +kernel]
      omega
    · rw [es]
      exact bad_app1 (bad_app2 i4)
  | @dik a x d n e _ ih =>
    obtain ⟨i1, i2, i3, i4⟩ := ih
    have es : (PyData.dict [(.int 0, d)]).shown = ("{" : Str) ++ ((PyData.int 0).shown ++ (": " : Str) ++ d.shown) ++ ("}" : Str) := by simp [PyData.shown, PyData.shownKv, dictText, Str.join]
    have s0 : (PyData.int 0).showable = true := by simp only [PyData.showable]; decide +kernel
    refine ⟨by simp [PyData.showable, PyData.showableKv, i1, s0], by simp only [PyData.depth, PyData.depthKv]; omega, ?_, ?_⟩
    · rw [es, len_app, len_app, len_app, len_app, show ("{" : Str).length = 1 by decide +kernel, show ("}" : Str).length = 1 by decide +kernel, show (": " : Str).length = 2 by decide +kernel, show (PyData.int 0).shown.length = 1 by simp only [PyData.shown]; decide +kernel]
      omega
    · rw [es]
      exact bad_app1 (bad_app2 (bad_app2 i4))
/-- repr(x), x nested data -/
def rReprN : List V → Hp → VK → Prop := fun xs H Q => ∃ (a : Addr) (n : Nat) (d : PyData), xs = [.ref a] ∧ Nd H n (.ref a) d ∧ n ≤ 60 ∧ Q (.str d.shown) H
theorem call_reprN {X : Cx} {k : Nat} (hg : X.A.guards = some []) (hr : Room k X.A) : CallR X (.builtin "repr") rReprN := by
  intro pins s σ H xs us Q I r h
  obtain ⟨v, n, d, rfl, hd, hn, q⟩ := h
  obtain ⟨u, rfl, ru⟩ := vals1 r
  cases ru
  obtain ⟨f1, f2, f3, f4⟩ := hd.facts
  obtain ⟨as, rd, ns⟩ := hd.reads I rfl
  have deep : X.A.units + (d.depth + 1) < cLine := by have := hr.un; omega
  have sz := sizeLine_eq
  exact repr_of_reads' rd f1 (fun _ => ns) hg deep (fun _ _ e => e) (fun h' u tk k => ⟨.str d.shown, H, I.kept k, ⟨_, rfl⟩, q⟩) (by omega)
end Ev
set_option maxHeartbeats 4000000
/-! The index of a pair of numbers in a list of such pairs. -/
namespace Ev
open PySem PySem.Spec PyProof.Rows L2
def pI (p : Int × Int) : PyData := .tuple [.int p.1, .int p.2]
def rIxP (K : PySem.W.Frag) : V → List V → Hp → VK → Prop := fun x xs H Q => ∃ (a : Addr) (vs : List V) (ps : List (Int × Int)) (y : V) (p : Int × Int), x = .ref a ∧ xs = [y] ∧ SqL K H a vs ∧ DpAll K H vs (ps.map pI) ∧ Dp K H y (pI p) ∧ p ∈ ps ∧ ps.length ≤ sizeLine ∧ Q (.int ((@List.idxOf _ instBEqOfDecidableEq p ps : Nat) : Int)) H
section
variable {X : Cx}
theorem mt_indexP (hu : X.A.units + 64 < cLine) : MtR X "list.index" (rIxP X.K) := by
  intro pins s σ H x xs v us Q I rx rxs h
  obtain ⟨a, vs, ps, y, p, rfl, rfl, hs, hd, hy, hm, hn, q⟩ := h
  cases rx
  obtain ⟨u, rfl, ru⟩ := rxs.one
  obtain ⟨its, rv, hl, hz⟩ := I.list hs
  obtain ⟨as, ra⟩ := Dp.readsAll I _ _ _ hd rv
  obtain ⟨bs, rb⟩ := Dp.reads I _ _ _ hy ru
  exact PySem.W.index_list_datum (α := Int × Int) (xs := ps) (x := p) hl.isList ⟨as, ra⟩ ⟨bs, rb⟩ (by show X.A.units + 1 + 1 < cLine; omega) hn hm ⟨.int _, H, I.tok _, ⟨s.toks, rfl⟩, q⟩
end
end Ev
namespace Ev
open PySem PySem.Spec PyProof PyProof.Rows L2
def tIfT (t u v : TT) : TT := fun σ H Q => t σ H fun c H1 => if c = true then u σ H1 Q else v σ H1 Q
theorem pt_ifT {X : Cx} {c a b : Expr} {tC tA tB : TT} {pos : Pos} (hc : PT X c tC) (ha : PT X a tA) (hb : PT X b tB) : PT X (.IfExp c a b pos) (tIfT tC tA tB) := by
  refine ⟨fun pins s σ H Q I h => ?_⟩
  show wpAny (model X.prog X.w) X.A (do
    if ← PySem.isTrue c X.env (eval c X.env) then PySem.isTrue a X.env (eval a X.env) else PySem.isTrue b X.env (eval b X.env)) _ X.xe s
  refine wpAny_bind (wpAny_mono (hc.run pins s σ H _ I h) (fun d s1 ⟨H1, I1, q1⟩ => ?_) fun _ _ x => x)
  cases d with
  | true => exact ha.run pins s1 σ H1 Q I1 q1
  | false => exact hb.run pins s1 σ H1 Q I1 q1
end Ev
set_option maxHeartbeats 4000000
namespace LawK
open PySem PySem.Spec PyProof.Rows L2 Ev

/-- what stands at i among None, the endings in order, None -/
def eO (ts : List Str) : Nat → Option Pl
  | 0 => none
  | i + 1 => (ord ts)[i]?
def spGap (C : Addr) : Sp := fun vs H Q _ => ∃ (s : Addr) (w : Str) (ts : List Str), vs = [.ref s, .str w] ∧ LibAt H C s ts ∧ Wd w ∧ (0 < nBeg ts w → ∀ H', Same H H' → Q .non H') ∧ (nBeg ts w = 0 → ∀ b x y H', H' b = some (.tup [x, y]) → PO H' x (eO ts (nLt ts w)) → PO H' y (eO ts (nLt ts w + 1)) → Same H H' → Q (.ref b) H')
/-- a part of a thing: some o where it is none or a place -/
inductive Pt (H : Hp) (ts : List Str) : V → Option (Option Pl) → Prop
  | non : Pt H ts .non (some none)
  | pl {v : V} {p : Pl} (h : PAt H v p) (i : InT ts p) : Pt H ts v (some (some p))
  | bad {v : V} {o : Option (List V)} (h : Tg H v o) (n : placeV ts o = false) (m : v ≠ .non) (r : o ≠ none → (∃ (k : Nat) (d : PyData), Nd H k v d ∧ k ≤ 60) ∨ (∃ (a : Addr), v = .ref a ∧ (H a = some (.tup [.int 0, .bl true]) ∨ H a = some (.tup [.bl true, .int 0]))) ∨ (PAt H v (0, 0) ∧ ¬ InT ts (0, 0))) : Pt H ts v none
inductive ThG (H : Hp) (ts : List Str) : V → Option (List (Option (Option Pl))) → Prop
  | no {v : V} {k : Kn} (h : Kd H v k) (n : k ≠ .tup) : ThG H ts v none
  | tup {a : Addr} {xs : List V} {rs : List (Option (Option Pl))} (e : H a = some (.tup xs)) (few : xs.length ≤ 3) (h : All2 (Pt H ts) xs rs) : ThG H ts (.ref a) (some rs)
theorem Pt.same {H H' : Hp} {ts : List Str} {v : V} {r : Option (Option Pl)} (k : Same H H') (h : Pt H ts v r) : Pt H' ts v r := by
  cases h with
  | non => exact .non
  | pl h i => exact .pl (h.same k) i
  | bad h n m r =>
    refine .bad (h.same k) n m fun ne => ?_
    rcases r ne with ⟨j, d, g, l⟩ | ⟨a, e, ha⟩ | ⟨g, i⟩
    · exact .inl ⟨j, d, g.same k, l⟩
    · exact .inr (.inl ⟨a, e, ha.imp (k _ _) (k _ _)⟩)
    · exact .inr (.inr ⟨g.same k, i⟩)
theorem ThG.same {H H' : Hp} {ts : List Str} {v : V} {t : Option (List (Option (Option Pl)))} (k : Same H H') (h : ThG H ts v t) : ThG H' ts v t := by
  cases h with
  | no h n => exact .no (h.same k) n
  | tup e few h => exact .tup (k _ _ e) few (h.imp fun _ _ r => r.same k)
def encO : Option Pl → PyData
  | none => .none
  | some p => encP p
theorem encP_eqv (p q : Pl) : PyData.eqv (encP p) (encP q) = decide (p = q) := by
  obtain ⟨a, b⟩ := p
  obtain ⟨c, d⟩ := q
  unfold encP
  simp only [PyData.eqv, PyData.eqvAll, Bool.and_true]
  by_cases h1 : a = c <;> by_cases h2 : b = d <;> simp_all <;> omega
theorem encO_eqv (o r : Option Pl) : PyData.eqv (encO o) (encO r) = decide (o = r) := by
  cases o with
  | none => cases r with
    | none => rfl
    | some q => rfl
  | some p => cases r with
    | none => rfl
    | some q =>
      show PyData.eqv (encP p) (encP q) = _
      rw [encP_eqv]
      exact decide_eq_decide.mpr ⟨fun h => by rw [h], fun h => Option.some.inj h⟩
theorem encOs_eqv : ∀ os rs : List (Option Pl), PyData.eqvAll (os.map encO) (rs.map encO) = decide (os = rs)
  | [], [] => by simp [PyData.eqvAll]
  | [], _ :: _ => by simp [PyData.eqvAll]
  | _ :: _, [] => by simp [PyData.eqvAll]
  | o :: os, r :: rs => by
    simp only [List.map_cons, PyData.eqvAll, encO_eqv, encOs_eqv os rs]
    by_cases h1 : o = r <;> by_cases h2 : os = rs <;> simp [h1, h2]
theorem PO.dp {K : PySem.W.Frag} {H : Hp} {v : V} {o : Option Pl} (h : PO H v o) : Dp K H v (encO o) := by
  cases o with
  | none =>
    have h : v = .non := h
    rw [h]
    exact .non
  | some p => exact encP_dp h
theorem encO_lay (o : Option Pl) : (encO o).canLay0 = true ∧ (encO o).depth ≤ 1 := by
  cases o with
  | none => exact ⟨rfl, Nat.zero_le _⟩
  | some p => exact ⟨by show (encP p).canLay0 = true; unfold encP; simp [PyData.canLay0, PyData.canLayAll0], by show (encP p).depth ≤ 1; rw [encP_depth]; exact Nat.le_refl _⟩
theorem encOs_lay : ∀ os : List (Option Pl), PyData.canLayAll0 (os.map encO) = true ∧ PyData.depthAll (os.map encO) ≤ 1
  | [] => ⟨rfl, Nat.zero_le _⟩
  | o :: os => by
    obtain ⟨h1, h2⟩ := encO_lay o
    obtain ⟨h3, h4⟩ := encOs_lay os
    exact ⟨by simp [PyData.canLayAll0, h1, h3], by simp only [List.map_cons, PyData.depthAll]; omega⟩
theorem encO_shaped (o : Option Pl) : SeqAt.shaped (encO o) = true := by
  obtain ⟨h1, h2⟩ := encO_lay o
  unfold SeqAt.shaped
  rw [h1, decide_eq_true (by omega)]
  rfl
theorem encOs_shaped (os : List (Option Pl)) : SeqAt.shaped (.tuple (os.map encO)) = true := by
  obtain ⟨h1, h2⟩ := encOs_lay os
  unfold SeqAt.shaped
  have a : (PyData.tuple (os.map encO)).canLay0 = true := by simp only [PyData.canLay0]; exact h1
  have b : (PyData.tuple (os.map encO)).depth ≤ 64 := by simp only [PyData.depth]; omega
  rw [a, decide_eq_true b]
  rfl
theorem POs.dp {K : PySem.W.Frag} {H : Hp} : ∀ {xs : List V} {os : List (Option Pl)}, All2 (PO H) xs os → DpAll K H xs (os.map encO)
  | _, _, .nil => .nil
  | _, _, .cons h t => .cons h.dp (POs.dp t)
theorem placeV_in {ts : List Str} {p : Pl} (h : InT ts p) : placeV ts (some [.int (p.1 : Nat), .int (p.2 : Nat)]) = true := by
  obtain ⟨h1, h2⟩ := h
  show ((decide ((0 : Int) ≤ (p.1 : Int)) && decide ((p.1 : Int) ≤ (ts.length : Int) - 1)) && (decide ((0 : Int) ≤ (p.2 : Int)) && decide ((p.2 : Int) ≤ ((ts.getD ((p.1 : Int)).toNat Str.empty).length : Int) - 1))) = true
  rw [Int.toNat_natCast]
  have h2 : p.2 < (ts.getD p.1 Str.empty).length := h2
  rw [decide_eq_true (show (0 : Int) ≤ (p.1 : Int) by omega), decide_eq_true (show (p.1 : Int) ≤ (ts.length : Int) - 1 by omega), decide_eq_true (show (0 : Int) ≤ (p.2 : Int) by omega), decide_eq_true (show (p.2 : Int) ≤ ((ts.getD p.1 Str.empty).length : Int) - 1 by omega)]
  rfl
def isN : V → Bool
  | .non => true
  | _ => false
theorem isN_no {v : V} (h : v ≠ .non) : isN v = false := by
  cases v <;> first | rfl | exact absurd rfl h
theorem all_some : ∀ {rs : List (Option (Option Pl))}, (rs.map Option.isSome).all id = true → ∃ os : List (Option Pl), rs = os.map some
  | [], _ => ⟨[], rfl⟩
  | r :: rs, h => by
    rw [List.map_cons, List.all_cons] at h
    obtain ⟨h1, h2⟩ := Bool.and_eq_true_iff.mp h
    obtain ⟨os, e⟩ := all_some h2
    cases r with
    | none => cases h1
    | some o => exact ⟨o :: os, by rw [e]; rfl⟩
theorem some_inj : ∀ {os rs : List (Option Pl)}, os.map some = rs.map some → os = rs
  | [], [], _ => rfl
  | [], _ :: _, h => by cases h
  | _ :: _, [], h => by cases h
  | o :: os, r :: rs, h => by
    rw [List.map_cons, List.map_cons] at h
    injection h with h1 h2
    rw [Option.some.inj h1, some_inj h2]
theorem pts_po {H : Hp} {ts : List Str} : ∀ {xs : List V} {os : List (Option Pl)}, All2 (Pt H ts) xs (os.map some) → All2 (PO H) xs os
  | [], [], _ => .nil
  | _ :: _, [], h => by cases h
  | [], _ :: _, h => by cases h
  | x :: xs, o :: os, h => by
    rw [List.map_cons] at h
    cases h with
    | cons h1 h2 =>
      refine .cons ?_ (pts_po h2)
      cases h1 with
      | non => exact rfl
      | pl h i => exact h
def gapB (ts : List Str) (w : Str) (t : Option (List (Option (Option Pl)))) : Bool := decide (nBeg ts w = 0) && decide (t = some [some (eO ts (nLt ts w)), some (eO ts (nLt ts w + 1))])
def spIsGap (C : Addr) : Sp := fun vs H Q _ => ∃ (s : Addr) (w : Str) (ts : List Str) (v : V) (t : Option (List (Option (Option Pl)))), vs = [.ref s, .str w, v] ∧ LibAt H C s ts ∧ Wd w ∧ ThG H ts v t ∧ ∀ H', Same H H' → Q (.bl (gapB ts w t)) H'
section
variable {P : Program} {w : World} {K : PySem.W.Frag} {mg : Str → Option Value} {base : Heap}
variable {C fI : Addr} {fdI : FuncData}
abbrev sPGap : Stmt := topS 23
theorem scPGap : FnScope ["library", "word", "first", "behind", "order", "less", "greater"] ["library", "word"] (defScope sPGap) := ⟨rfl, rfl, rfl, by decide +kernel, rfl, by decide +kernel, by decide +kernel⟩
theorem ok_PGap {f : Addr} {fd : FuncData} (F : Fun K "gap" "gap" sPGap f fd)  {fPEndings : Addr} {fdPEndings : FuncData} (DPEndings : Dk P w K mg base "endings" sPEndings ["library"] 2 (spEndings C) fPEndings fdPEndings) {fPSpan : Addr} {fdPSpan : FuncData} (DPSpan : Dk P w K mg base "span" sPSpan ["library", "word"] 5 (spSpan C) fPSpan fdPSpan) (T : Glob mg) : FnOk P w K mg base CX0 6 f fd ["library", "word"] (spGap C) := by
  refine F.ok scPGap (fun vs H Q E h => ?_) (fun cdv A outer s H vs Q E hr h => ?_)
  · obtain ⟨s, w, ts, rfl, _⟩ := h
    rfl
  · refine ⟨_, (pss_cons (ps_asg (pe_call DPSpan.ok (hr.mono (by decide)) (by rfl) DPSpan.g DPSpan.F.kp DPSpan.b .nil pass0 (pa_cons (pv 0) (pa_cons (pv 1) pa_nil))) (pg_tup (by rfl) (pgs_cons (pg_name (i := 2) scPGap.nd rfl (.inl rfl)) (pgs_cons (pg_name (i := 3) scPGap.nd rfl (.inl rfl)) pgs_nil))))
      (pss_cons (ps_if (pt_cmpR op_lt (pv 2) (pv 3) (nomark _))
      (pss_one (ps_ret pe_non))
      pss_nil)
      (pss_cons (ps_set (i := 4) scPGap.nd rfl (.inl rfl) (pe_call DPEndings.ok (hr.mono (by decide)) (by rfl) DPEndings.g DPEndings.F.kp DPEndings.b .nil pass0 (pa_cons (pv 0) pa_nil)))
      (pss_cons (ps_set (i := 5) scPGap.nd rfl (.inl rfl) (pe_ifExp (pt_cmpR op_gt (pv 2) pe_int (nomark _)) (pe_ix ix_list (pv 4) (pe_op op_sub (pv 2) pe_int) (fun _ _ => rfl)) pe_non))
      (pss_cons (ps_set (i := 6) scPGap.nd rfl (.inl rfl) (pe_ifExp (pt_cmpR op_lt (pv 2) (pe_callB call_len_seq (by rfl) T.len PySem.boot_len (pa_cons (pv 4) pa_nil)) (nomark _)) (pe_ix ix_list (pv 4) (pv 2) (fun _ _ => rfl)) pe_non))
      (pss_one (ps_ret (pe_tup (pa_cons (pv 5) (pa_cons (pv 6) pa_nil)))))))))), ?_⟩
    obtain ⟨s, z, ts, rfl, hl, hw, q1, q2⟩ := h
    refine ⟨.ref s, rfl, .str z, rfl, s, z, ts, rfl, hl, hw, fun b H1 k1 hb => ?_⟩
    refine ⟨b, _, rfl, SqT.of hb, rfl, _, _, rfl, _, _, rfl, rfl, ?_⟩
    refine ⟨_, rfl, _, rfl, _, _, rfl, rfl, _, rfl, ite2 (fun c => ?_) (fun c => ?_)⟩
    · have c' : 0 < nBeg ts z := by
        have := of_decide_eq_true c
        omega
      exact q1 c' H1 k1
    have c' : nBeg ts z = 0 := by
      have : ¬ 0 < nBeg ts z := fun n => c (decide_eq_true (by omega))
      omega
    dsimp only [tNext, tDrop]
    have nle : nLt ts z ≤ nP ts := by rw [nLt_eq]; exact (cnt_down (ord_srt ts) (cod z)).1
    have ol := ord_len hl.len hl.few
    refine ⟨.ref s, rfl, s, ts, rfl, hl.same k1, fun A H2 k2 nA ⟨vs, hA, hv⟩ => ?_⟩
    have lv := hv.len
    have nPe : nP ts = (ord ts).length := rfl
    have sA := sq_of (K := K) hA
    dsimp only [tSeq, tAsg, gName]
    refine (?_ : ∀ Q : V → Hp → Prop, (∀ v, PO H2 v (eO ts (nLt ts z)) → Q v H2) → tIf _ _ _ _ H2 Q) _ fun x hx => ?_
    · intro Q hQ
      refine ⟨_, rfl, _, _, rfl, rfl, _, rfl, ite2 (fun d => ?_) (fun d => ?_)⟩
      · have d' : 0 < nLt ts z := by
          have := of_decide_eq_true d
          omega
        have e1 : (ord ts)[nLt ts z - 1]? = some ((ord ts).getD (nLt ts z - 1) (0, 0)) := (ordD (by omega)).1
        obtain ⟨u, eu, pu⟩ := hv.of_at e1
        have ei : atI vs (((nLt ts z : Nat) : Int) - 1) = some u := by
          rw [show ((nLt ts z : Nat) : Int) - 1 = ((nLt ts z - 1 : Nat) : Int) by omega]
          exact atI_nat eu
        refine ⟨.ref A, rfl, _, rfl, _, _, rfl, rfl, A, _, _, _, rfl, rfl, sA, ei, hQ u ?_⟩
        have : eO ts (nLt ts z) = some ((ord ts).getD (nLt ts z - 1) (0, 0)) := by
          obtain ⟨m, e⟩ : ∃ m, nLt ts z = m + 1 := ⟨nLt ts z - 1, by omega⟩
          rw [e] at e1 ⊢
          exact e1
        rw [this]
        exact pu
      · have d' : nLt ts z = 0 := by
          have : ¬ 0 < nLt ts z := fun n => d (decide_eq_true (by omega))
          omega
        rw [d'] at hQ
        exact hQ .non rfl
    refine (?_ : ∀ Q : V → Hp → Prop, (∀ v, PO H2 v (eO ts (nLt ts z + 1)) → Q v H2) → tIf _ _ _ _ H2 Q) _ fun y hy => ?_
    · intro Q hQ
      refine ⟨_, rfl, .ref A, rfl, A, _, rfl, .inl sA, _, _, rfl, rfl, _, rfl, ite2 (fun d => ?_) (fun d => ?_)⟩
      · have d' : nLt ts z < nP ts := by
          have := of_decide_eq_true d
          omega
        have e1 : (ord ts)[nLt ts z]? = some ((ord ts).getD (nLt ts z) (0, 0)) := (ordD d').1
        obtain ⟨u, eu, pu⟩ := hv.of_at e1
        refine ⟨.ref A, rfl, _, rfl, A, _, _, _, rfl, rfl, sA, atI_nat eu, hQ u ?_⟩
        show PO H2 u (ord ts)[nLt ts z]?
        rw [e1]
        exact pu
      · have d' : ¬ nLt ts z < nP ts := fun n => d (decide_eq_true (by omega))
        refine hQ .non ?_
        show PO H2 .non (ord ts)[nLt ts z]?
        rw [List.getElem?_eq_none (by omega)]
        rfl
    refine ⟨x, rfl, y, rfl, by show 2 ≤ sizeLine; decide, fun t nt => ?_⟩
    have kt := Same.new (o := .tup [x, y]) nt
    exact q2 c' t x y _ upd_same (hx.same kt) (hy.same kt) ((k1.trans k2).trans kt)
abbrev sPIsGap : Stmt := topS 24
theorem scPIsGap : FnScope ["library", "word", "thing", "right", "part"] ["library", "word", "thing"] (defScope sPIsGap) := ⟨rfl, rfl, rfl, by decide +kernel, rfl, by decide +kernel, by decide +kernel⟩
theorem ok_PIsGap {f : Addr} {fd : FuncData} (F : Fun K "is_gap" "is_gap" sPIsGap f fd)  {fPPlace : Addr} {fdPPlace : FuncData} (DPPlace : Dk P w K mg base "is_place" sPPlace ["library", "thing"] 2 (spPPlaceG C) fPPlace fdPPlace) {fPGap : Addr} {fdPGap : FuncData} (DPGap : Dk P w K mg base "gap" sPGap ["library", "word"] 6 (spGap C) fPGap fdPGap) (T : Glob mg) : FnOk P w K mg base CX0 7 f fd ["library", "word", "thing"] (spIsGap C) := by
  refine F.ok scPIsGap (fun vs H Q E h => ?_) (fun cdv A outer s H vs Q E hr h => ?_)
  · obtain ⟨s, w, ts, v, t, rfl, _⟩ := h
    rfl
  · refine ⟨_, (pss_cons (ps_set (i := 3) scPIsGap.nd rfl (.inl rfl) (pe_call DPGap.ok (hr.mono (by decide)) (by rfl) DPGap.g DPGap.F.kp DPGap.b .nil pass0 (pa_cons (pv 0) (pa_cons (pv 1) pa_nil))))
      (pss_cons (ps_if (pt_not (pt_val (pe_callB call_isi (by rfl) T.isinstance PyProof.Rows.boot_isinstance (pa_cons (pv 2) (pa_cons (pe_bltn (v := .ty "tuple") (by rfl) T.tuple (by decide +kernel) rfl) pa_nil)))))
      (pss_one (ps_ret pe_bl))
      pss_nil)
      (pss_one (ps_ret (pe_and (pe_callB (cr_all rfl) (by rfl) T.all (by decide +kernel) (pa_cons (pe_lc (own := [("part", 4)]) (g := gName 4) (by rfl) scPIsGap.nd (pi_tup (pv 2)) (blkOk_by (N := ["library", "word", "thing", "right", "part"]) (sc := defScope sPIsGap) (by decide +kernel)) (fun _ _ _ _ _ => pg_name (i := 4) scPIsGap.nd rfl (.inl rfl)) (fun _ _ _ _ _ => pts_nil) (fun _ _ _ _ _ => (pe_or (pe_cmpR op_isN (pv 4) pe_non (nomark _)) (pe_one (pe_call DPPlace.ok (hr.mono (by decide)) (by rfl) DPPlace.g DPPlace.F.kp DPPlace.b .nil pass0 (pa_cons (pv 0) (pa_cons (pv 4) pa_nil))))))) pa_nil)) (pe_one (pe_cmpR (op_eqD hr.units) (pv 2) (pv 3) (nomark _)))))))), ?_⟩
    obtain ⟨s, z, ts, v, t, rfl, hl, hw, ht, q⟩ := h
    dsimp only [tSeq, tAsg, gName]
    refine (?_ : ∀ Q : V → Hp → Prop, (∀ r H', Same H H' → (0 < nBeg ts z ∧ r = .non ∨ nBeg ts z = 0 ∧ ∃ b x y, r = .ref b ∧ H' b = some (.tup [x, y]) ∧ PO H' x (eO ts (nLt ts z)) ∧ PO H' y (eO ts (nLt ts z + 1))) → Q r H') → tCall (spGap C) _ _ _ _ H Q) _ fun r H1 k1 hr1 => ?_
    · intro Q hQ
      exact ⟨.ref s, rfl, .str z, rfl, s, z, ts, rfl, hl, hw, fun g H' k => hQ _ H' k (.inl ⟨g, rfl⟩), fun g b x y H' hb hx hy k => hQ _ H' k (.inr ⟨g, b, x, y, rfl, hb, hx, hy⟩)⟩
    have ht1 := ht.same k1
    cases ht1 with
    | @no _ k hk n =>
      have e : gapB ts z none = false := by unfold gapB; simp
      rw [e] at q
      exact ⟨v, rfl, v, .ty "tuple", .type (Kn.name k), .type "tuple", false, rfl, .ty _, Kd.tyx hk, kit_no n, _, rfl, iteT (q H1 k1)⟩
    | @tup a xs rs ha few hx =>
      refine ⟨.ref a, rfl, .ref a, .ty "tuple", .type (Kn.name .tup), .type "tuple", kitB .tup .tup, rfl, .ty _, Kd.tyx (.tup ha), kit_kn .tup .tup, _, rfl, iteF ?_⟩
      dsimp only [tNext, tDrop]
      have okP : ∀ r : Option (Option Pl), (match r with | none => false | some _ => true) = r.isSome := fun r => by cases r <;> rfl
      refine ⟨.ref a, rfl, a, rfl, ⟨_, SqT.of ha⟩, fun D nD => lc_tup (K := K) (xs := xs) (fun i H' => H' D = some (.lst (((rs.take i).map Option.isSome).map V.bl)) ∧ Same H1 H') ⟨upd_same, Same.new nD⟩ (fun i H' _ g => SqT.of (g.2 _ _ ha)) ?_ ?_⟩
      · rintro i u H2 hu ⟨hD, k2⟩
        obtain ⟨r, er, pr⟩ := hx.at hu
        have pr2 := pr.same k2
        have li := (List.getElem?_eq_some_iff.mp hu).1
        have fin : ∀ b, b = r.isSome → ∃ acc, H2 D = some (.lst acc) ∧ acc.length < sizeLine ∧ upd H2 D (.lst (acc ++ [.bl b])) D = some (.lst (((rs.take (i + 1)).map Option.isSome).map V.bl)) ∧ Same H1 (upd H2 D (.lst (acc ++ [.bl b]))) := fun b hb => by
          refine ⟨_, hD, ?_, ?_, sameAt k2 nD⟩
          · rw [List.length_map, List.length_map, List.length_take]
            show _ < 16777216
            omega
          · rw [upd_same, take_snoc er, List.map_append, List.map_append, hb]
            rfl
        refine ⟨rfl, ?_⟩
        cases pr2 with
        | non => exact ⟨.non, rfl, rfl, _, rfl, ite2 (fun _ => fin true rfl) fun c => absurd rfl c⟩
        | @pl v p h ip =>
          obtain ⟨c, rfl, ec⟩ := h
          have tg : Tg H2 (.ref c) (some [.int (p.1 : Nat), .int (p.2 : Nat)]) := .tup ec (by show 2 ≤ 30; decide) fun y hy => by
            rcases List.mem_cons.mp hy with rfl | hy
            · exact ⟨⟨_, .int _⟩, fun z e => by cases e⟩
            · rw [List.mem_singleton.mp hy]
              exact ⟨⟨_, .int _⟩, fun z e => by cases e⟩
          have pv1 : placeV ts (some [.int (p.1 : Nat), .int (p.2 : Nat)]) = true := placeV_in ip
          exact ⟨.ref c, rfl, rfl, _, rfl, iteF ⟨.ref s, rfl, .ref c, rfl, s, ts, .ref c, _, rfl, hl.same (k1.trans k2), tg, by rw [pv1]; exact fin true rfl⟩⟩
        | @bad v o tg np nn rb =>
          refine ⟨u, rfl, rfl, _, rfl, ite2 (fun c => absurd (of_decide_eq_true c) nn) fun _ => ?_⟩
          exact ⟨.ref s, rfl, u, rfl, s, ts, u, o, rfl, hl.same (k1.trans k2), tg, by rw [np]; exact fin false rfl⟩
      · rintro H2 ⟨hD, k2⟩
        have lx := hx.len
        rw [lx, List.take_of_length_le (Nat.le_refl _)] at hD
        have k12 := k1.trans k2
        refine ⟨D, rs.map Option.isSome, rfl, sq_of hD, _, rfl, ?_⟩
        cases al : (rs.map Option.isSome).all id with
        | false =>
          have e : gapB ts z (some rs) = false := by
            unfold gapB
            have : ¬ (some rs = some [some (eO ts (nLt ts z)), some (eO ts (nLt ts z + 1))]) := fun e => by
              cases e
              cases al
            rw [decide_eq_false this, Bool.and_false]
          have q' := q H2 k12
          rw [e] at q'
          exact iteF q'
        | true =>
          obtain ⟨os, rfl⟩ := all_some al
          have hos : All2 (PO H2) xs os := pts_po (hx.imp fun _ _ r => r.same k2)
          refine iteT ?_
          have ge : gapB ts z (some (os.map some)) = (decide (nBeg ts z = 0) && decide (os = [eO ts (nLt ts z), eO ts (nLt ts z + 1)])) := by
            unfold gapB
            congr 1
            exact decide_eq_decide.mpr ⟨fun h => some_inj (Option.some.inj h), fun h => by rw [h]; rfl⟩
          rcases hr1 with ⟨g, rfl⟩ | ⟨g, b, x, y, rfl, hb, px, py⟩
          · refine ⟨.ref a, rfl, .non, rfl, .tuple (os.map encO), .none, .tup (SqT.of (k2 _ _ ha)) (POs.dp hos), .non, encOs_shaped os, rfl, ?_⟩
            have q' := q H2 k12
            rw [ge, decide_eq_false (show ¬ nBeg ts z = 0 by omega), Bool.false_and] at q'
            exact q'
          · refine ⟨.ref a, rfl, .ref b, rfl, .tuple (os.map encO), .tuple ([eO ts (nLt ts z), eO ts (nLt ts z + 1)].map encO), .tup (SqT.of (k2 _ _ ha)) (POs.dp hos), .tup (SqT.of (k2 _ _ hb)) (POs.dp (.cons (px.same k2) (.cons (py.same k2) .nil))), encOs_shaped os, encOs_shaped _, ?_⟩
            have q' := q H2 k12
            rw [ge, decide_eq_true g, Bool.true_and] at q'
            have ee : PyData.eqv (.tuple (os.map encO)) (.tuple ([eO ts (nLt ts z), eO ts (nLt ts z + 1)].map encO)) = decide (os = [eO ts (nLt ts z), eO ts (nLt ts z + 1)]) := by
              simp only [PyData.eqv]
              exact encOs_eqv _ _
            rw [ee]
            exact q'
end
end LawK
set_option maxHeartbeats 4000000
namespace LawK
open PySem PySem.Spec PyProof.Rows L2 Ev

def spLDeep : Sp := fun vs H Q _ => ∃ (p : Addr), vs = [.ref p] ∧ ∃ l, HandL H p l ∧ ∀ a d n H', Nd H' n (.ref a) d → n ≤ 31 → Hn p l H H' → Q (.ref a) H'
theorem Nd.but {H H' : Hp} {p l : Addr} {n : Nat} {v : V} {d : PyData} (h : Nd H n v d) (h0 : HandL H p l) (b : But p H H') : Nd H' n v d := by
  induction h with
  | non => exact .non
  | str z h => exact .str z h
  | neg => exact .neg
  | dic e => exact .dic (b _ _ (hand_ne h0 e fun _ _ _ _ _ z => by cases z) e)
  | tup e _ ih => exact .tup (b _ _ (hand_ne h0 e fun _ _ _ _ _ z => by cases z) e) ih
  | lst e m _ ih => exact .lst (b _ _ (hand_ne h0 e fun _ _ _ _ _ z => by cases z) e) m ih
  | dik e _ ih => exact .dik (b _ _ (hand_ne h0 e fun _ _ _ _ _ z => by cases z) e) ih
theorem but_write {q : Addr} {H H1 : Hp} {o o2 : HO} (n : H q = none) (k : Same (upd H q o) H1) : Same H (upd H1 q o2) := fun b u e => by
  have nb : b ≠ q := fun z => by rw [z, n] at e; cases e
  rw [upd_ne nb]
  exact k _ _ (by rw [upd_ne nb]; exact e)
section
variable {P : Program} {w : World} {K : PySem.W.Frag} {mg : Str → Option Value} {base : Heap}
abbrev sDeep : Stmt := topS 29
theorem scDeep : FnScope ["hand", "found", "turn"] ["hand"] (defScope sDeep) := ⟨rfl, rfl, rfl, by decide +kernel, rfl, by decide +kernel, by decide +kernel⟩
theorem ok_Deep {f : Addr} {fd : FuncData} (F : Fun K "_law_deep" "_law_deep" sDeep f fd)  {fDraw : Addr} {fdDraw : FuncData} (DDraw : Dk P w K mg base "_law_draw" sDraw ["hand", "many"] 1 spDraw fDraw fdDraw) (T : Glob mg) : FnOk P w K mg base CX0 2 f fd ["hand"] spLDeep := by
  refine F.ok scDeep (fun vs H Q E h => ?_) (fun cdv A outer s H vs Q E hr h => ?_)
  · obtain ⟨p, rfl, _⟩ := h
    rfl
  · refine ⟨_, (pss_cons (ps_set (i := 1) scDeep.nd rfl (.inl rfl) (pe_ix ix_list (pe_lst (pa_cons pe_non (pa_cons pe_str (pa_cons (pe_un un_neg pe_int) (pa_cons pe_dnewK pa_nil))))) (pe_call DDraw.ok (hr.mono (by decide)) (by rfl) DDraw.g DDraw.F.kp DDraw.b .nil pass0 (pa_cons (pv 0) (pa_cons pe_int pa_nil))) (fun _ _ => rfl)))
      (pss_cons (ps_for PassesOwn.never rfl (pi_range1 (by rfl) T.range (pa_cons (pe_op op_add pe_int (pe_call DDraw.ok (hr.mono (by decide)) (by rfl) DDraw.g DDraw.F.kp DDraw.b .nil pass0 (pa_cons (pv 0) (pa_cons pe_int pa_nil)))) pa_nil)) (pg_name (i := 2) scDeep.nd rfl (.inl rfl))
      (pss_one (ps_set (i := 1) scDeep.nd rfl (.inl rfl) (pe_ix ix_list (pe_lst (pa_cons (pe_tup (pa_cons (pv 1) pa_nil)) (pa_cons (pe_lstN (pa_cons (pv 1) pa_nil)) (pa_cons (pe_slice sl_tupM (pe_tup (pa_cons (pv 1) (pa_cons (pv 1) pa_nil))) po_none (po_some pe_int)) (pa_cons (pe_disp (pps_cons pe_int (pv 1) pps_nil) (by rfl) (by rfl) (by simp) (by decide)) pa_nil))))) (pe_call DDraw.ok (hr.mono (by decide)) (by rfl) DDraw.g DDraw.F.kp DDraw.b .nil pass0 (pa_cons (pv 0) (pa_cons pe_int pa_nil))) (fun _ _ => rfl)))))
      (pss_one (ps_ret (pv 1))))), ?_⟩
    obtain ⟨p, rfl, l, hH, q⟩ := h
    refine ⟨_, rfl, fun d nd => ⟨by show 4 ≤ sizeLine; decide, fun a na => ?_⟩⟩
    have k1 := (Same.new (o := .dK []) nd).trans (Same.new (o := .lst [.non, .str "a", .int (-1), .ref d]) na)
    have hA : upd (upd H d (.dK [])) a (.lst [.non, .str "a", .int (-1), .ref d]) a = some (.lst [.non, .str "a", .int (-1), .ref d]) := upd_same
    have hd : upd (upd H d (.dK [])) a (.lst [.non, .str "a", .int (-1), .ref d]) d = some (.dK []) := Same.new na _ _ upd_same
    have n1 := (Hn.refl hH).same k1
    revert n1 hA hd
    generalize upd (upd H d (.dK [])) a (.lst [.non, .str "a", .int (-1), .ref d]) = H1
    intro hA hd n1
    have nap : a ≠ p := hand_ne n1.at_ hA (fun x1 x2 x3 x4 x5 z => by cases z)
    have ndp : d ≠ p := hand_ne n1.at_ hd (fun x1 x2 x3 x4 x5 z => by cases z)
    refine ⟨.ref p, rfl, p, 4, rfl, by decide, by decide, l, n1.at_, fun v H2 v0 v1 h2 b2 => ?_⟩
    have hA2 := b2 _ _ nap hA
    have n2 := n1.go h2 b2
    obtain ⟨x, k, ex, hx⟩ : ∃ x k, atI [V.non, V.str "a", V.int (-1), V.ref d] v = some x ∧ Nd H2 0 x k := by
      have e4 : v = 0 ∨ v = 1 ∨ v = 2 ∨ v = 3 := by omega
      rcases e4 with rfl | rfl | rfl | rfl
      · exact ⟨_, _, rfl, .non⟩
      · exact ⟨_, _, rfl, .str _ rfl⟩
      · exact ⟨_, _, rfl, .neg⟩
      · exact ⟨_, _, rfl, .dic (b2 _ _ ndp hd)⟩
    refine ⟨a, _, v, x, rfl, rfl, sq_of hA2, ex, ?_⟩
    dsimp only [tNext, tDrop]
    refine ⟨.ref p, rfl, p, 30, rfl, by decide, by decide, l, n2.at_, fun m H3 m0 m1 h3 b3 => ?_⟩
    have n3 := n2.go h3 b3
    have hx3 := Nd.but hx h2 b3
    refine ⟨_, _, rfl, rfl, 1 + m, rfl, by omega, by omega, for_range (fun i σ H' => ∃ x u k, σ = [some (.ref p), some x, u] ∧ Nd H' i x k ∧ Hn p l H H' ∧ (0 < i → ∃ a, x = .ref a)) ⟨x, _, k, rfl, hx3, n3, fun z => absurd z (by omega)⟩ ?_ ?_⟩
    · rintro i σ H4 hi ⟨x, u, k, rfl, hx, n4, hr⟩
      have s1 : 1 ≤ sizeLine := by decide
      have s2 : 2 ≤ sizeLine := by decide
      refine ⟨x, rfl, s1, fun t1 nt1 => ⟨x, rfl, s1, fun t2 nt2 mt2 => ⟨x, rfl, x, rfl, s2, fun t3 nt3 => ?_⟩⟩⟩
      have ka := ((Same.new (o := .tup [x]) nt1).trans (Same.new (o := .lst [x]) nt2)).trans (Same.new (o := .tup [x, x]) nt3)
      refine ⟨_, rfl, t3, [x, x], rfl, upd_same, fun t4 H5 k5 h5 => ?_⟩
      refine fun d2 nd2 => ⟨x, rfl, ?_⟩
      refine ⟨upd_same, [(.inl 0, x)], rfl, by show 1 ≤ 15; decide, ?_⟩
      have kd := but_write (o := .dK []) (o2 := .dK (mergeK [] [(.inl 0, x)])) nd2 (Same.refl _)
      have kall := (ka.trans k5).trans kd
      refine ⟨by show 4 ≤ sizeLine; decide, fun b nb => ?_⟩
      have hx7 := hx.same kall
      have hx6 := hx7.same (Same.new (o := .lst [.ref t1, .ref t2, .ref t4, .ref d2]) nb)
      have kb := kall.trans (Same.new (o := .lst [.ref t1, .ref t2, .ref t4, .ref d2]) nb)
      have e1 := ((Same.new (o := .lst [x]) nt2).trans (Same.new (o := .tup [x, x]) nt3)).trans ((k5.trans kd).trans (Same.new (o := .lst [.ref t1, .ref t2, .ref t4, .ref d2]) nb)) _ _ (upd_same (H := H4) (a := t1) (o := .tup [x]))
      have e2 := ((Same.new (o := .tup [x, x]) nt3).trans ((k5.trans kd).trans (Same.new (o := .lst [.ref t1, .ref t2, .ref t4, .ref d2]) nb))) _ _ (upd_same (a := t2) (o := .lst [x]))
      have e3 := (kd.trans (Same.new (o := .lst [.ref t1, .ref t2, .ref t4, .ref d2]) nb)) _ _ h5
      have e4 := (Same.new (o := .lst [.ref t1, .ref t2, .ref t4, .ref d2]) nb) _ _ (upd_same (a := d2) (o := .dK (mergeK [] [(.inl 0, x)])))
      have eb : (upd (upd (upd H5 d2 (.dK [])) d2 (.dK (mergeK [] [(.inl 0, x)]))) b (.lst [.ref t1, .ref t2, .ref t4, .ref d2])) b = some (.lst [.ref t1, .ref t2, .ref t4, .ref d2]) := upd_same
      revert kb e1 e2 e3 e4 eb hx6
      generalize (upd (upd (upd H5 d2 (.dK [])) d2 (.dK (mergeK [] [(.inl 0, x)]))) b (.lst [.ref t1, .ref t2, .ref t4, .ref d2])) = H6
      intro hx6 kb e1 e2 e3 e4 eb
      have n6 := n4.same kb
      have nw : ∀ {a : Addr} {o : HO}, H6 a = some o → (∀ x1 x2 x3 x4 x5, o ≠ .lst [x1, x2, x3, x4, x5]) → a ≠ p := fun h n => hand_ne n6.at_ h n
      refine ⟨.ref p, rfl, p, 4, rfl, by decide, by decide, l, n6.at_, fun v H7 v0 v1 h7 b7 => ?_⟩
      have g1 := b7 _ _ (nw e1 (fun x1 x2 x3 x4 x5 z => by cases z)) e1
      have g2 := b7 _ _ (nw e2 (fun x1 x2 x3 x4 x5 z => by cases z)) e2
      have g3 := b7 _ _ (nw e3 (fun x1 x2 x3 x4 x5 z => by cases z)) e3
      have g4 := b7 _ _ (nw e4 (fun x1 x2 x3 x4 x5 z => by cases z)) e4
      have g5 := b7 _ _ (nw eb (fun x1 x2 x3 x4 x5 z => by cases z)) eb
      obtain ⟨y, k, ey, hy⟩ : ∃ y k, atI [V.ref t1, .ref t2, .ref t4, .ref d2] v = some (.ref y) ∧ Nd H7 (i + 1) (.ref y) k := by
        have hx7 := Nd.but hx6 n6.at_ b7
        have e4 : v = 0 ∨ v = 1 ∨ v = 2 ∨ v = 3 := by omega
        rcases e4 with rfl | rfl | rfl | rfl
        · exact ⟨_, _, rfl, .tup g1 hx7⟩
        · exact ⟨_, _, rfl, .lst g2 mt2 hx7⟩
        · exact ⟨_, _, rfl, .tup g3 hx7⟩
        · exact ⟨_, _, rfl, .dik g4 hx7⟩
      exact ⟨b, _, v, .ref y, rfl, rfl, sq_of g5, ey, .ref y, _, k, rfl, hy, n6.go h7 b7, fun _ => ⟨y, rfl⟩⟩
    · rintro σ H4 ⟨x, u, k, rfl, hx, n4, hr⟩
      obtain ⟨a, rfl⟩ := hr (by omega)
      exact ⟨.ref a, rfl, q a k _ H4 hx (by omega) n4⟩
end
end LawK
set_option maxHeartbeats 4000000
namespace LawK
open PySem PySem.Spec PyProof.Rows L2 Ev

def spBeside : Sp := fun vs H Q _ => ∃ (b : Addr) (ts : List Str) (x y : V) (o r : Option Pl), vs = [.ref b, x, y] ∧ PsL H b (ord ts) ∧ (ord ts).length ≤ 1600 ∧ PO H x o ∧ PO H y r ∧ (∀ p, o = some p → InT ts p) ∧ (∀ p, r = some p → InT ts p) ∧ ∀ c, (c = true ↔ ∃ i, i ≤ nP ts ∧ o = eO ts i ∧ r = eO ts (i + 1)) → Q (.bl c) H
theorem ord_nodup (ts : List Str) : (ord ts).Nodup := (ord_perm ts).nodup_iff.mpr ((pl_asc ts).imp fun {p q} h e => by rw [e] at h; exact ltP_irr _ h)
theorem eO_none {ts : List Str} {i : Nat} (h : i ≤ nP ts) (e : eO ts i = none) : i = 0 := by
  cases i with
  | zero => rfl
  | succ i =>
    have e' : (ord ts)[i]? = none := e
    have := List.getElem?_eq_none_iff.mp e'
    have nPe : nP ts = (ord ts).length := rfl
    omega
theorem eO_end (ts : List Str) : eO ts (nP ts + 1) = none := List.getElem?_eq_none (Nat.le_refl _)
theorem eO_pos {ts : List Str} {i : Nat} {p : Pl} (e : eO ts i = some p) : ∃ j, i = j + 1 ∧ (ord ts)[j]? = some p := by
  cases i with
  | zero => cases e
  | succ j => exact ⟨j, rfl, e⟩
theorem ord_ix {ts : List Str} {i j : Nat} {p : Pl} (h : (ord ts)[i]? = some p) (k : (ord ts)[j]? = some p) : i = j := by
  obtain ⟨l1, e1⟩ := List.getElem?_eq_some_iff.mp h
  obtain ⟨l2, e2⟩ := List.getElem?_eq_some_iff.mp k
  have nd := List.pairwise_iff_getElem.mp (ord_nodup ts)
  rcases Nat.lt_trichotomy i j with g | g | g
  · exact absurd (e1.trans e2.symm) (nd i j l1 l2 g)
  · exact g
  · exact absurd (e2.trans e1.symm) (nd j i l2 l1 g)
def pIp (p : Pl) : Int × Int := ((p.1 : Int), (p.2 : Int))
theorem pIp_inj {p q : Pl} (h : pIp p = pIp q) : p = q := by
  obtain ⟨a, b⟩ := p
  obtain ⟨c, d⟩ := q
  unfold pIp at h
  injection h with h1 h2
  exact Prod.ext (by exact Int.ofNat.inj h1) (by exact Int.ofNat.inj h2)
theorem pls_dp {K : PySem.W.Frag} {H : Hp} : ∀ {vs : List V} {ps : List Pl}, All2 (PAt H) vs ps → DpAll K H vs ((ps.map pIp).map pI)
  | _, _, .nil => .nil
  | _, _, .cons h t => .cons (encP_dp h) (pls_dp t)
theorem idx_of {ps : List Pl} (nd : ps.Nodup) {i : Nat} {p : Pl} (h : ps[i]? = some p) : @List.idxOf _ instBEqOfDecidableEq (pIp p) (ps.map pIp) = i := by
  obtain ⟨l, e⟩ := List.getElem?_eq_some_iff.mp h
  have nd2 : (ps.map pIp).Nodup := List.pairwise_map.mpr (nd.imp fun {a b} n e => n (pIp_inj e))
  have l2 : i < (ps.map pIp).length := by rw [List.length_map]; exact l
  have e2 : (ps.map pIp)[i] = pIp p := by rw [List.getElem_map, e]
  rw [← e2]
  exact @List.Nodup.idxOf_getElem _ instBEqOfDecidableEq _ _ nd2 i l2
theorem encP_shaped (p : Pl) : SeqAt.shaped (encP p) = true := encO_shaped (some p)
section
variable {P : Program} {w : World} {K : PySem.W.Frag} {mg : Str → Option Value} {base : Heap}
abbrev sBeside : Stmt := topS 39
theorem scBeside : FnScope ["order", "one", "other"] ["order", "one", "other"] (defScope sBeside) := ⟨rfl, rfl, rfl, by decide +kernel, rfl, by decide +kernel, by decide +kernel⟩
theorem ok_Beside {f : Addr} {fd : FuncData} (F : Fun K "_law_beside" "_law_beside" sBeside f fd)   (T : Glob mg) : FnOk P w K mg base CX0 1 f fd ["order", "one", "other"] spBeside := by
  refine F.ok scBeside (fun vs H Q E h => ?_) (fun cdv A outer s H vs Q E hr h => ?_)
  · obtain ⟨b, ts, x, y, o, r, rfl, _⟩ := h
    rfl
  · refine ⟨_, (pss_cons (ps_if (PW.pt (pw_and (pt_cmpR op_isN (pv 1) pe_non (nomark _)) (pw_and1 (pt_cmpR op_isN (pv 2) pe_non (nomark _)))))
      (pss_one (ps_ret (pe_cmpR op_eq (pe_callB call_len_seq (by rfl) T.len PySem.boot_len (pa_cons (pv 0) pa_nil)) pe_int (nomark _))))
      pss_nil)
      (pss_cons (ps_if (pt_cmpR op_isN (pv 1) pe_non (nomark _))
      (pss_one (ps_ret (pe_cmpR (op_eqD hr.units) (pe_ix ix_list (pv 0) pe_int (fun _ _ => rfl)) (pv 2) (nomark _))))
      pss_nil)
      (pss_cons (ps_if (pt_cmpR op_isN (pv 2) pe_non (nomark _))
      (pss_one (ps_ret (pe_cmpR (op_eqD hr.units) (pe_ix ix_list (pv 0) (pe_op op_sub (pe_callB call_len_seq (by rfl) T.len PySem.boot_len (pa_cons (pv 0) pa_nil)) pe_int) (fun _ _ => rfl)) (pv 1) (nomark _))))
      pss_nil)
      (pss_one (ps_ret (pe_cmpR op_eq (pe_bm PySem.F.plainAttrs_list PySem.F.slot_list_index PySem.F.type_list_index (mt_indexP hr.units) (pv 0) (pa_cons (pv 2) pa_nil)) (pe_op op_add (pe_bm PySem.F.plainAttrs_list PySem.F.slot_list_index PySem.F.type_list_index (mt_indexP hr.units) (pv 0) (pa_cons (pv 1) pa_nil)) pe_int) (nomark _))))))), ?_⟩
    obtain ⟨b, ts, x, y, o, r, rfl, ⟨vs, hb, hv⟩, few, hx, hy, io, ir, q⟩ := h
    have lv := hv.len
    have nPe : nP ts = (ord ts).length := rfl
    have sb := sq_of (K := K) hb
    refine ⟨x, rfl, rfl, _, rfl, ?_⟩
    cases o with
    | none =>
      have hx : x = .non := hx
      subst hx
      refine ite2 (fun _ => ?_) fun c => absurd (decide_eq_true rfl) c
      refine ⟨y, rfl, rfl, _, rfl, ?_⟩
      cases r with
      | none =>
        have hy : y = .non := hy
        subst hy
        refine ite2 (fun _ => ?_) fun c => absurd (decide_eq_true rfl) c
        refine ⟨.ref b, rfl, b, _, rfl, .inl sb, rfl, ?_⟩
        refine q _ ⟨fun c => ?_, fun ⟨i, hi, e1, e2⟩ => ?_⟩
        · have c' := V.int.inj (of_decide_eq_true c)
          refine ⟨0, Nat.zero_le _, rfl, ?_⟩
          show none = (ord ts)[0]?
          rw [List.getElem?_eq_none (by omega)]
        · have := eO_none hi e1.symm
          subst this
          have e2 : none = (ord ts)[0]? := e2
          have := List.getElem?_eq_none_iff.mp e2.symm
          refine decide_eq_true (congrArg V.int ?_)
          omega
      | some p =>
        obtain ⟨c0, rfl, ec⟩ := hy
        refine ite2 (fun c => absurd (of_decide_eq_true c) (fun e => by cases e)) fun _ => ?_
        dsimp only [tNext, tDrop]
        refine ⟨.non, rfl, rfl, _, rfl, ite2 (fun _ => ?_) fun c => absurd (decide_eq_true rfl) c⟩
        have ip := ir p rfl
        have nz : 0 < (ord ts).length := by
          have := List.length_pos_of_mem (ord_mem.mpr ip)
          exact this
        have e0 : (ord ts)[0]? = some ((ord ts).getD 0 (0, 0)) := (ordD nz).1
        obtain ⟨u, eu, pu⟩ := hv.of_at e0
        refine ⟨.ref b, rfl, b, _, _, _, rfl, rfl, sb, atI_nat (j := 0) eu, .ref c0, rfl, encP _, encP p, encP_dp pu, encP_dp ⟨c0, rfl, ec⟩, encP_shaped _, encP_shaped _, ?_⟩
        rw [encP_eqv]
        refine q _ ⟨fun c => ?_, fun ⟨i, hi, e1, e2⟩ => ?_⟩
        · have c' := of_decide_eq_true c
          refine ⟨0, Nat.zero_le _, rfl, ?_⟩
          show some p = (ord ts)[0]?
          rw [e0, c']
        · have := eO_none hi e1.symm
          subst this
          have e2 : some p = (ord ts)[0]? := e2
          rw [e0] at e2
          exact decide_eq_true (Option.some.inj e2).symm
    | some p =>
      have nx : x ≠ .non := by
        obtain ⟨c0, rfl, _⟩ := hx
        exact fun e => by cases e
      refine ite2 (fun c => absurd (of_decide_eq_true c) nx) fun _ => ?_
      dsimp only [tNext, tDrop]
      refine ⟨x, rfl, rfl, _, rfl, ite2 (fun c => absurd (of_decide_eq_true c) nx) fun _ => ?_⟩
      have hp : PAt H x p := hx
      have ip := io p rfl
      obtain ⟨i1, h1⟩ := List.getElem?_of_mem (ord_mem.mpr ip)
      have li1 := (List.getElem?_eq_some_iff.mp h1).1
      refine ⟨y, rfl, rfl, _, rfl, ?_⟩
      cases r with
      | none =>
        have hy : y = .non := hy
        subst hy
        refine ite2 (fun _ => ?_) fun c => absurd (decide_eq_true rfl) c
        have e0 : (ord ts)[(ord ts).length - 1]? = some ((ord ts).getD ((ord ts).length - 1) (0, 0)) := (ordD (by omega)).1
        obtain ⟨u, eu, pu⟩ := hv.of_at e0
        have ei : atI vs (((vs.length : Nat) : Int) - 1) = some u := by
          rw [show ((vs.length : Nat) : Int) - 1 = (((ord ts).length - 1 : Nat) : Int) by omega]
          exact atI_nat eu
        refine ⟨.ref b, rfl, .ref b, rfl, b, _, rfl, .inl sb, _, _, rfl, rfl, b, _, _, _, rfl, rfl, sb, ei, x, rfl, encP _, encP p, encP_dp pu, encP_dp hp, encP_shaped _, encP_shaped _, ?_⟩
        rw [encP_eqv]
        refine q _ ⟨fun c => ?_, fun ⟨i, hi, e1, e2⟩ => ?_⟩
        · have c' := of_decide_eq_true c
          refine ⟨nP ts, Nat.le_refl _, ?_, (eO_end ts).symm⟩
          obtain ⟨m, em⟩ : ∃ m, nP ts = m + 1 := ⟨nP ts - 1, by omega⟩
          rw [em]
          show some p = (ord ts)[m]?
          rw [show m = (ord ts).length - 1 by omega, e0, c']
        · obtain ⟨j, rfl, hj⟩ := eO_pos e1.symm
          have e2 : none = (ord ts)[j + 1]? := e2
          have l1 := List.getElem?_eq_none_iff.mp e2.symm
          have l2 := (List.getElem?_eq_some_iff.mp hj).1
          rw [show j = (ord ts).length - 1 by omega, e0] at hj
          exact decide_eq_true (Option.some.inj hj)
      | some r =>
        have ny : y ≠ .non := by
          obtain ⟨c0, rfl, _⟩ := hy
          exact fun e => by cases e
        refine ite2 (fun c => absurd (of_decide_eq_true c) ny) fun _ => ?_
        dsimp only [tNext, tDrop]
        have hr' : PAt H y r := hy
        have ir' := ir r rfl
        obtain ⟨i2, h2⟩ := List.getElem?_of_mem (ord_mem.mpr ir')
        have hl : ((ord ts).map pIp).length ≤ sizeLine := by rw [List.length_map, sizeLine_eq]; omega
        refine ⟨.ref b, rfl, .inl ⟨rfl, _, sb⟩, y, rfl, b, vs, _, y, pIp r, rfl, rfl, sb, pls_dp hv, encP_dp hr', List.mem_map.mpr ⟨r, ord_mem.mpr ir', rfl⟩, hl, .ref b, rfl, .inl ⟨rfl, _, sb⟩, x, rfl, b, vs, _, x, pIp p, rfl, rfl, sb, pls_dp hv, encP_dp hp, List.mem_map.mpr ⟨p, ord_mem.mpr ip, rfl⟩, hl, _, _, rfl, rfl, rfl, ?_⟩
        rw [idx_of (ord_nodup ts) h1, idx_of (ord_nodup ts) h2]
        refine q _ ⟨fun c => ?_, fun ⟨i, hi, e1, e2⟩ => ?_⟩
        · have c' := V.int.inj (of_decide_eq_true c)
          refine ⟨i1 + 1, by omega, h1.symm, ?_⟩
          show some r = (ord ts)[i1 + 1]?
          rw [show i1 + 1 = i2 by omega]
          exact h2.symm
        · obtain ⟨j, rfl, hj⟩ := eO_pos e1.symm
          have e2 : some r = (ord ts)[j + 1]? := e2
          have z1 := ord_ix hj h1
          have z2 := ord_ix e2.symm h2
          refine decide_eq_true (congrArg V.int ?_)
          omega
end
end LawK
set_option maxHeartbeats 4000000
/-! The law's own def, called by the caller of claims alone: what runs around it is known (no repr is under way). -/
namespace Ev
open PySem PySem.Spec PyProof.Rows L2
/-- the def at f keeps sp, called where A runs around it -/
structure FnAt (A : Around) (P : Program) (w : World) (K : PySem.W.Frag) (mg : Str → Option Value) (base : Heap) (CX : CXT) (f : Addr) (fd : FuncData) (ps : List Str) (sp : Sp) : Prop where
  len : ∀ vs H Q E, sp vs H Q E → vs.length = ps.length
  run : ∀ (outer : List Env) (s : Shared) (H : Hp) (args : Args) (us : List Value) (vs : List V) (Q : VK) (E : XK), Env0 P w K mg base A outer s H → BindsTo s fd args (ps.zip us) → Vals vs us → sp vs H Q E →
    codeAny (model P w) A (.call (.ref f) args) (CR CX outer P w H s Q E) s
section
variable {A : Around} {CX : CXT} {P : Program} {w : World} {K : PySem.W.Frag} {mg : Str → Option Value} {base : Heap} {k : Nat}
theorem fun_at {x qual : Str} {st : Stmt} {f : Addr} {fd : FuncData} {N ps : List Str} {sp : Sp} (F : Fun K x qual st f fd) (S : FnScope N ps (defScope st)) (hr : Room (k + 1) A) (len : ∀ vs H Q E, sp vs H Q E → vs.length = ps.length)
    (hbody : ∀ (cdv : Value) (outer : List Env) (s : Shared) (H : Hp) (vs : List V) (Q : VK) (E : XK), Room k (A.deeper (envOfC qual (defScope st) s.heap.objs.size f cdv)) → sp vs H Q E →
      ∃ t, PSs (cxOf CX P w K mg base N qual (defScope st) f cdv A outer s H E).nox (defBody st) t ∧ t { nx := fun _ H' => Q .non H', rt := Q } (start N vs) H) : FnAt A P w K mg base CX f fd ps sp := by
  obtain ⟨oc, od, kV, doc, pm, an, cdv, ct, osl, rfl, lk, hcd⟩ := F.ex
  refine ⟨len, fun outer s H args us vs Q E e0 hb r hsp => ?_⟩
  have lim : s.heap.NoLimit := e0.mod.nolimit.keeps fun b o e => (e0.bs b o e).1
  have KX : K.In s.heap := e0.mod.kin.keeps fun b o e => (e0.bs b o e).1
  have kinds : ∀ y ∈ ps.zip us, (defScope st).names.lookup y.1 = some .local ∨ ((defScope st).names.lookup y.1 = some .cell ∧ ((cellsFrom (s.heap.objs.size + 1) (defScope st).names []).lookup y.1).isSome = true) := by
    rintro ⟨n, v⟩ hy
    exact (S.par n (List.of_mem_zip hy).1).imp id fun q => ⟨q, PySem.W.cellsFrom_some _ _ _ (.inl q)⟩
  refine codeAny_call_function hr.depth (KX _ _ lk) rfl S.co S.gen rfl (PySem.W.codeRec_of KX hcd) (hb _ _ _ _ (wpAny_newFunctionEnv_cells S.kind kinds fun env he s1 x => ?_))
  subst he
  obtain ⟨t, ht, hq⟩ := hbody cdv outer s H vs Q E (hr.deeper _) hsp
  have I := inv_start (CX := CX) (P := P) (w := w) (mg := mg) (base := base) (E := E) S hr.hd e0 (len _ _ _ _ hsp) r x
  refine ⟨lim.keeps x.toInCall.keep, codeAny_func (wpAny_mono (ht.nox.run [] s1 (start N vs) H _ I hq) (fun fl s' hs => ?_) fun e s' hs => hs)⟩
  cases fl with
  | ret u =>
    obtain ⟨v, σ', H', J, rv, q⟩ := hs
    exact ⟨v, H', J.os, J.bare, J.base, J.hok, rv, q⟩
  | next =>
    obtain ⟨σ', H', J, q⟩ := hs
    exact ⟨V.non, H', J.os, J.bare, J.base, J.hok, rfl, q⟩
  | brk => exact hs.elim fun _ z => z.elim fun _ y => y.2.elim
  | cont => exact hs.elim fun _ z => z.elim fun _ y => y.2.elim
end
section
variable {P : Program} {w : World} {K : PySem.W.Frag} {mg mb : Str → Option Value} {fa a : Addr} {fd : FuncData} {x : Str} {sp : Sp} {s₁ : Shared} {vs : List Value} {ns : List Int}
/-- from one abstract heap: nothing is tracked but, perhaps, the script -/
theorem law_at0 {H : Hp} (KX : K.In s₁.heap) (hns : s₁.heap.Ns mainGlobals mg) (hb : s₁.heap.Ns builtinsNs mb) (hbb : ∀ y : Str, y ≠ "__name__" → mb y = bootBuiltins y) (hlim : s₁.heap.NoLimit) (hg : s₁.gens = #[])
    (ha : s₁.heap.get? a = some { cls := .type "list", data := .seq vs.toArray }) (F : ∀ base : Heap, K.In base → base.Ns mainGlobals mg → FnAt callerA P w K mg base CX0 fa fd [x] sp)
    (hbind : ∀ (s : Shared) (u : Value), BindsTo s fd ⟨[u], []⟩ [(x, u)]) (hO : Only H) (hok : HOk P w H s₁.heap) (hA : ∀ b, H b ≠ none → b = a) (hK : H a ≠ none → K.lookup a = none)
    (hsp : sp [.ref a] H (fun v _ => v = .bl true) fun _ _ _ => False) :
    codeAny (model P w) callerA (.call (.ref fa) ⟨[.ref a], []⟩) (fun r s' => r = .ok (.ret (.bool true)) ∧ OldK s₁.heap s'.heap ∧ s'.os = s₁.os ∧ AllBare s'.gens) s₁ := by
  have off : ∀ {b : Addr} {o : Obj}, s₁.heap.get? b = some o → o ≠ { cls := .type "list", data := .seq vs.toArray } → H b = none := fun {b o} e n => by
    refine Classical.byContradiction fun z => n ?_
    have eb := hA b z
    rw [eb, ha] at e
    exact (Option.some.inj e).symm
  have nsK : ∀ {b : Addr} {m : Str → Option Value}, s₁.heap.Ns b m → (hidT s₁.heap H).Ns b m := fun {b m} ⟨o, es, ep, e, d, r⟩ => ⟨o, es, ep, hidT_get e (off e fun z => by rw [z] at d; cases d), d, r⟩
  have hKb : K.In (hidT s₁.heap H) := fun b o e => hidT_get (KX b o e) (Classical.byContradiction fun z => by
    have eb := hA b z
    rw [eb] at e z
    rw [hK z] at e
    cases e)
  have hM : Mod K mg (hidT s₁.heap H) := ⟨hKb, nsK hns, ⟨mb, nsK hb, hbb⟩, hlim.elim fun mc z => ⟨mc, nsK z.1, z.2⟩⟩
  have e0 : Env0 P w K mg (hidT s₁.heap H) callerA [] s₁ H := ⟨rfl, hM, fun b o e => of_hidT e, Nat.le_of_eq (hidT_size _ _), trivial, fun b hb => absurd (show b ∈ ([] : List Addr) from hb) (by simp), hok, .of_eq hg⟩
  refine codeAny_mono ((F _ hKb (nsK hns)).run [] s₁ H ⟨[.ref a], []⟩ [.ref a] [.ref a] _ _ e0 (hbind s₁ (.ref a)) (.cons rfl .nil) hsp) fun r s' h => ?_
  rcases r with e | fl
  · exact False.elim h
  cases fl with
  | next => exact False.elim h
  | brk => exact False.elim h
  | cont => exact False.elim h
  | ret u =>
    obtain ⟨v, H', os, bare, un, hok', r', rfl⟩ := h
    obtain rfl : u = Value.bool true := r'
    refine ⟨rfl, OldK.of_keep fun b o e => ?_, os, bare⟩
    rcases hO b with z | ⟨ob, xs, z⟩
    · exact un.keep b o e z (fun y => absurd (show b ∈ ([] : List Addr) from y) (by simp)) (by simp)
    · have e1 := (hok b _ z).1
      rw [e] at e1
      cases e1
      exact (hok' b _ (un.frzs b _ _ z)).1
theorem law_at (KX : K.In s₁.heap) (hns : s₁.heap.Ns mainGlobals mg) (hb : s₁.heap.Ns builtinsNs mb) (hbb : ∀ y : Str, y ≠ "__name__" → mb y = bootBuiltins y) (hlim : s₁.heap.NoLimit) (hg : s₁.gens = #[])
    (ha : s₁.heap.get? a = some { cls := .type "list", data := .seq vs.toArray }) (hi : IntsAre vs ns) (hl : ns.length ≤ sizeLine)
    (F : ∀ base : Heap, K.In base → base.Ns mainGlobals mg → FnAt callerA P w K mg base CX0 fa fd [x] sp) (hbind : ∀ (s : Shared) (u : Value), BindsTo s fd ⟨[u], []⟩ [(x, u)])
    (hsp : ∀ H : Hp, Only H → SqL K H a (ns.map V.int) → sp [.ref a] H (fun v _ => v = .bl true) fun _ _ _ => False) :
    codeAny (model P w) callerA (.call (.ref fa) ⟨[.ref a], []⟩) (fun r s' => r = .ok (.ret (.bool true)) ∧ OldK s₁.heap s'.heap ∧ s'.os = s₁.os ∧ AllBare s'.gens) s₁ := by
  have rv := vals_ints hi
  cases hk : K.lookup a with
  | some o =>
    have e := KX a o hk
    rw [ha] at e
    cases e
    have hO : Only (fun _ => none) := fun _ => .inl rfl
    exact law_at0 KX hns hb hbb hlim hg ha F hbind hO (fun b u z => by cases z) (fun b z => absurd rfl z) (fun z => absurd rfl z)
      (hsp _ hO (.inr ⟨_, vs.toArray, _, hk, rfl, rfl, rfl, by rw [List.size_toArray, hi.length]; exact hl, by simpa using rv⟩))
  | none =>
    have same : upd (fun _ => none) a (.frz { cls := .type "list", data := .seq vs.toArray } (.lst (ns.map V.int))) a = some (.frz { cls := .type "list", data := .seq vs.toArray } (.lst (ns.map V.int))) := upd_same
    have hO : Only (upd (fun _ => none) a (.frz { cls := .type "list", data := .seq vs.toArray } (.lst (ns.map V.int)))) := fun b => by
      by_cases h : b = a
      · exact .inr ⟨_, _, by rw [h]; exact same⟩
      · exact .inl (by rw [upd_ne h])
    refine law_at0 KX hns hb hbb hlim hg ha F hbind hO (fun b u z => ?_) (fun b z => ?_) (fun _ => hk) (hsp _ hO (.inl (.inr ⟨_, same⟩)))
    · by_cases h : b = a
      · subst h
        rw [same] at z
        cases z
        exact ⟨ha, by rw [List.length_map]; exact hl, vs, _, rv, ha⟩
      · rw [upd_ne h] at z
        cases z
    · exact Classical.byContradiction fun h => z (by rw [upd_ne h])
end
/-- the end of a law's row -/
theorem walk_at {l : PySem.W.OpenLaw} {n : Nat} {q : Program} {loose : List Str} {XP : (Str → Option Value) → Heap → Prop} {YP : World → Heap → Prop} {d : DefRec} {K : Params → PySem.W.Frag} {sp : PySem.W.Frag → Sp} {x : Str}
    (hn : l.most = some n) (hn2 : n ≤ sizeLine) (hdf : d.params.defaults = []) (hY : ∀ (w : World) (h : Heap), YP w h → (K w.params).In h)
    (F : ∀ (w : World) (mg : Str → Option Value) (fa : Addr) (h : Heap), (K w.params).In h → h.Ns mainGlobals mg → mg d.name = some (.ref fa) →
      ∃ fd : FuncData, (∀ (s : Shared) (u : Value), BindsTo s fd ⟨[u], []⟩ [(x, u)]) ∧ ∀ base : Heap, (K w.params).In base → base.Ns mainGlobals mg → FnAt callerA l.prog w (K w.params) mg base CX0 fa fd [x] (sp (K w.params)))
    (hsp : ∀ (K : PySem.W.Frag) (H : Hp) (a : Addr) (ns : List Int), ns.length ≤ n → Only H → SqL K H a (ns.map V.int) → sp K [.ref a] H (fun v _ => v = .bl true) fun _ _ _ => False) :
    PySem.W.WalkO q loose XP YP l.row.toRowW d [] (fun f vs => PySem.call f vs) :=
  Att.attach_call hn hdf fun w s₀ s₁ mg mb fa o pm cd doc a vs ns G Y ho hd hcd hmg hobj hints hlen hg => by
    obtain ⟨fd, hb, hF⟩ := F w mg fa _ (hY w _ Y) G.T.g hmg
    exact law_at (hY w _ Y) G.T.g G.T.b G.T.builtins G.T.nolimit hg hobj hints (Nat.le_trans hlen hn2) hF hb fun H hO hS => hsp _ H a ns hlen hO hS
/-- C() of an own error class without an __init__ of its own -/
theorem pe_excP {X : Cx} {x : Str} {C : Addr} {p pos : Pos} {bmB : List Value} {B newId initId : String} (F : ExcBaseFacts B newId initId bmB) (q : PySem.W.excIn X.K C bmB newId = true) (kC : PySem.W.keepIn X.K (.ref C) = true) (hg : Gl X x) (hm : X.mg x = some (.ref C))
    (hdb : (x == ("__debug__" : Str)) = false := by decide) : PE X (.Call (.Name x p) [] [] pos) (fun _ H Q => ∀ a, H a = none → Q (.ref a) (upd H a (exo a C none))) := by
  refine ⟨fun pins s σ H Q I h => ?_⟩
  refine wpAny_Call_Name_kw (ld_glob I hg hm ?_ hdb)
  refine PySem.W.callWith_K0 I.kIn kC ?_
  show wpAny _ _ (call (.ref C) []) _ _ _
  obtain ⟨bm, N, nm, qn, bs, hdct, sn, sub, ab, col, dd, k0, k1, k2, k3, k5, mN, hC, hN, hni, T⟩ := exc_obj I.kIn q
  refine wpAny_call_exc_subT F T hC hN hni (fun h' a hm => ?_) (by show 0 ≤ sizeLine; decide)
  have hn : H a = none := I.hok.gone hm.new
  obtain ⟨t, ht, _, _⟩ := hm.there
  exact ⟨.ref a, upd H a (exo a C none), I.laidN hm.keeps hm.new hn (exo_ok ht), rfl, h a hn⟩
end Ev
set_option maxHeartbeats 4000000
/-! A helper def that calls repr: it is called where no repr is under way. -/
namespace Ev
open PySem PySem.Spec PyProof.Rows L2
/-- the def at f keeps sp, called where no repr is under way -/
structure FnG (P : Program) (w : World) (K : PySem.W.Frag) (mg : Str → Option Value) (base : Heap) (CX : CXT) (k : Nat) (f : Addr) (fd : FuncData) (ps : List Str) (sp : Sp) : Prop where
  ok : ∀ A : Around, Room k A → A.guards = some [] → FnAt A P w K mg base CX f fd ps sp
theorem fun_g {P : Program} {w : World} {K : PySem.W.Frag} {mg : Str → Option Value} {base : Heap} {CX : CXT} {k : Nat} {x qual : Str} {st : Stmt} {f : Addr} {fd : FuncData} {N ps : List Str} {sp : Sp} (F : Fun K x qual st f fd) (S : FnScope N ps (defScope st)) (len : ∀ vs H Q E, sp vs H Q E → vs.length = ps.length)
    (hbody : ∀ (cdv : Value) (A : Around) (outer : List Env) (s : Shared) (H : Hp) (vs : List V) (Q : VK) (E : XK), Room k (A.deeper (envOfC qual (defScope st) s.heap.objs.size f cdv)) → (A.deeper (envOfC qual (defScope st) s.heap.objs.size f cdv)).guards = some [] → sp vs H Q E →
      ∃ t, PSs (cxOf CX P w K mg base N qual (defScope st) f cdv A outer s H E).nox (defBody st) t ∧ t { nx := fun _ H' => Q .non H', rt := Q } (start N vs) H) : FnG P w K mg base CX (k + 1) f fd ps sp :=
  ⟨fun A hr hg => fun_at F S hr len fun cdv outer s H vs Q E hr' h => hbody cdv A outer s H vs Q E hr' (by show A.guards = some []; exact hg) h⟩
section
variable {X : Cx} {CX : CXT} {k : Nat} {f C : Addr} {fd : FuncData} {ps : List Str} {sp : Sp} {dvs : List V} {ds : List Value} {E : XK} {x m : Str} {p pos apos : Pos} {e o : Expr} {es : List Expr} {ta : TE} {t : TA}
theorem run_fnG {pins : List (Addr × Obj)} {σ : L2.St} {H : Hp} {s : Shared} {Q : VK} {us : List Value} {vs : List V} (F : FnG X.prog X.w X.K X.mg X.base CX k f fd ps sp) (hr : Room k X.A) (hg : X.A.guards = some []) (hb : Binds X.K fd ps []) (hx : Passes CX X E)
    (I : Inv X pins σ H s) (r : Vals vs us) (h : sp vs H Q E) : wpAny (model X.prog X.w) X.A (call (.ref f) us) (EP X pins σ Q) X.xe s := by
  have FA := F.ok X.A hr hg
  have hl : us.length = ps.length := by rw [← r.length]; exact FA.len _ _ _ _ h
  have hb' := hb s us I.kIn (by rw [List.append_nil]; exact hl)
  rw [List.append_nil] at hb'
  refine wpAny_call (codeAny_mono (FA.run X.stack s H ⟨us, []⟩ us vs Q E I.env0 hb' r h) fun r s' hq => ?_)
  cases r with
  | error e => exact hx pins σ H s e s' I hq
  | ok fl =>
    cases fl with
    | ret u => exact I.after hq
    | next => exact False.elim hq
    | brk => exact False.elim hq
    | cont => exact False.elim hq
theorem pe_callG (F : FnG X.prog X.w X.K X.mg X.base CX k f fd ps sp) (hr : Room k X.A) (hgu : X.A.guards = some []) (hg : Gl X x) (hm : X.mg x = some (.ref f)) (hk : PySem.W.keepIn X.K (.ref f) = true) (hb : Binds X.K fd ps []) (hx : Passes CX X E)
    (ha : PA X (e :: es) t) (hdb : (x == ("__debug__" : Str)) = false := by decide) (he : starEach (e :: es) X.env = (false, eval e X.env) :: starEach es X.env := by rfl) (hpl : (backTo pos (starEach es X.env)).any (·.1) = false := by rfl) :
    PE X (.Call (.Name x p) (e :: es) [] pos) (tCall sp [] E t) := by
  refine ⟨fun pins s σ H Q I h => ?_⟩
  refine wpAny_Call_Name_kw (ld_glob I hg hm ?_ hdb)
  refine PySem.W.callWith_K (h₀ := X.base) I.ok.mod.kin hk (thn (ha.run pos pins s σ H _ I h) fun us s1 ⟨vs, H1, I1, r, q⟩ => ⟨I1.kIn, ?_⟩) he hpl
  have q' : sp (vs ++ []) H1 Q E := q
  rw [List.append_nil] at q'
  exact run_fnG F hr hgu hb hx I1 r q'
end
end Ev
set_option maxHeartbeats 4000000
namespace LawK
open PySem PySem.Spec PyProof.Rows L2 Ev
/-- the text of a pair of numbers -/
def pT (i j : Nat) : Str := ("(" : Str) ++ Str.join ", " [((toString ((i : Nat) : Int) : String) : Str), ((toString ((j : Nat) : Int) : String) : Str)] ++ (")" : Str)
theorem shP (p : Pl) : (encP p).shown = pT p.1 p.2 := by
  unfold encP pT
  simp [PyData.shown, PyData.shownAll, tupleText]
theorem pT_all : ∀ i < 8, ∀ j < 200, (pT i j).cps.toList.all pcode = true ∧ (pT i j).length ≤ 20 ∧ (pT i j = pT 0 0 → i = 0 ∧ j = 0) := by decide +kernel
theorem inT_le {ts : List Str} {p : Pl} (few : ts.length ≤ 8) (len : ∀ t ∈ ts, t.length ≤ 200) (h : InT ts p) : p.1 < 8 ∧ p.2 < 200 := by
  obtain ⟨h1, h2⟩ := h
  have := len _ (tx_mem h1)
  exact ⟨by omega, by omega⟩
theorem inT_sh {ts : List Str} {p : Pl} (few : ts.length ≤ 8) (len : ∀ t ∈ ts, t.length ≤ 200) (h : InT ts p) : ¬ BadTx (encP p).shown ∧ (encP p).shown.length ≤ 20 ∧ ((encP p).shown = (encP (0, 0)).shown → p = (0, 0)) := by
  obtain ⟨l1, l2⟩ := inT_le few len h
  obtain ⟨a, b, c⟩ := pT_all _ l1 _ l2
  rw [shP, shP]
  refine ⟨fun ⟨x, m, z⟩ => ?_, b, fun e => ?_⟩
  · rw [List.all_eq_true.mp a x m] at z
    cases z
  · obtain ⟨e1, e2⟩ := c e
    exact Prod.ext e1 e2
theorem dg_P {H : Hp} {v : V} {p : Pl} (h : PAt H v p) : Dg H v (encP p) := by
  obtain ⟨b, rfl, e⟩ := h
  exact .tup e (.cons (.int _) (.cons (.int _) .nil))
theorem sh_P {p : Pl} (h : p.1 < 8 ∧ p.2 < 200) : (encP p).showable = true ∧ (encP p).depth ≤ 100 ∧ (encP p).shown.length ≤ 1000000 := by
  have a := (show_int (i := (p.1 : Nat)) (by omega) (by omega)).1
  have b := (show_int (i := (p.2 : Nat)) (by omega) (by omega)).1
  simp [PyData.showable] at a b
  refine ⟨by unfold encP; simp [PyData.showable, PyData.showableAll, a, b], by rw [encP_depth]; omega, ?_⟩
  rw [shP]
  have := (pT_all _ h.1 _ h.2).2.1
  omega
theorem bad_0T : (PyData.tuple [.int 0, .bool true]).showable = true ∧ (PyData.tuple [.int 0, .bool true]).depth ≤ 100 ∧ (PyData.tuple [.int 0, .bool true]).shown.length ≤ 1000000 ∧ BadTx (PyData.tuple [.int 0, .bool true]).shown := by
  have a := (show_int (i := 0) (by omega) (by omega)).1
  have e : (PyData.tuple [.int 0, .bool true]).shown = (("(" : Str) ++ Str.join ", " [((toString (0 : Int) : String) : Str), ("True" : Str)] ++ (")" : Str)) := by simp [PyData.shown, PyData.shownAll, tupleText]
  refine ⟨by simp [PyData.showable, PyData.showableAll, a], by simp [PyData.depth, PyData.depthAll], by rw [e]; decide +kernel, 84, by rw [e]; decide +kernel, by decide⟩
theorem bad_T0 : (PyData.tuple [.bool true, .int 0]).showable = true ∧ (PyData.tuple [.bool true, .int 0]).depth ≤ 100 ∧ (PyData.tuple [.bool true, .int 0]).shown.length ≤ 1000000 ∧ BadTx (PyData.tuple [.bool true, .int 0]).shown := by
  have a := (show_int (i := 0) (by omega) (by omega)).1
  have e : (PyData.tuple [.bool true, .int 0]).shown = (("(" : Str) ++ Str.join ", " [("True" : Str), ((toString (0 : Int) : String) : Str)] ++ (")" : Str)) := by simp [PyData.shown, PyData.shownAll, tupleText]
  refine ⟨by simp [PyData.showable, PyData.showableAll, a], by simp [PyData.depth, PyData.depthAll], by rw [e]; decide +kernel, 84, by rw [e]; decide +kernel, by decide⟩
/-- repr of data, nested deep or not -/
def rReprX : List V → Hp → VK → Prop := fun xs H Q => rReprG xs H Q ∨ rReprN xs H Q
theorem call_reprX {X : Cx} {k : Nat} (hg : X.A.guards = some []) (hr : Room k X.A) : CallR X (.builtin "repr") rReprX := by
  intro pins s σ H xs us Q I r h
  rcases h with h | h
  · exact call_reprG hg hr pins s σ H xs us Q I r h
  · exact call_reprN hg hr pins s σ H xs us Q I r h
/-- the text of a part that is no place is not among those of the places -/
theorem bad_repr {H : Hp} {ts : List Str} (few : ts.length ≤ 8) (len : ∀ t ∈ ts, t.length ≤ 200) {v : V} {Q : VK} (rb : (∃ (k : Nat) (d : PyData), Nd H k v d ∧ k ≤ 60) ∨ (∃ (a : Addr), v = .ref a ∧ (H a = some (.tup [.int 0, .bl true]) ∨ H a = some (.tup [.bl true, .int 0]))) ∨ (PAt H v (0, 0) ∧ ¬ InT ts (0, 0))) (hv : ∃ a, v = .ref a)
    (q : ∀ z, z ∉ (ord ts).map (fun p => (encP p).shown) → Q (.str z) H) : rReprX [v] H Q := by
  have nb : ∀ z, BadTx z → z ∉ (ord ts).map (fun p => (encP p).shown) := fun z hz m => by
    obtain ⟨p, hp, rfl⟩ := List.mem_map.mp m
    exact (inT_sh few len (ord_mem.mp hp)).1 hz
  rcases rb with ⟨k, d, h, l⟩ | ⟨a, rfl, h | h⟩ | ⟨h, n⟩
  · obtain ⟨a, rfl⟩ := hv
    exact .inr ⟨a, k, d, rfl, h, l, q _ (nb _ h.facts.2.2.2)⟩
  · obtain ⟨a1, a2, a3, a4⟩ := bad_0T
    exact .inl ⟨a, _, rfl, .tup h (.cons (.int _) (.cons (.bl _) .nil)), a1, a2, a3, q _ (nb _ a4)⟩
  · obtain ⟨a1, a2, a3, a4⟩ := bad_T0
    exact .inl ⟨a, _, rfl, .tup h (.cons (.bl _) (.cons (.int _) .nil)), a1, a2, a3, q _ (nb _ a4)⟩
  · have d := dg_P h
    obtain ⟨b, rfl, e⟩ := h
    obtain ⟨a1, a2, a3⟩ := sh_P (p := (0, 0)) ⟨by decide, by decide⟩
    refine .inl ⟨b, _, rfl, d, a1, a2, a3, q _ fun m => ?_⟩
    obtain ⟨p, hp, ep⟩ := List.mem_map.mp m
    have ip := ord_mem.mp hp
    rw [(inT_sh few len ip).2.2 ep] at ip
    exact n ip
/-- a gap's sides -/
def sideB (ts : List Str) (w : Str) (b : Bool) : Option Pl → Bool
  | none => true
  | some p => !(decide (cod w <+: cod (sfx ts p)) || (decide (cod (sfx ts p) < cod w) != b))
theorem sideB_some (ts : List Str) (w : Str) (b : Bool) (p : Pl) : sideB ts w b (some p) = !(decide (cod w <+: cod (sfx ts p)) || (decide (cod (sfx ts p) < cod w) != b)) := rfl
def BesideP (ts : List Str) (o r : Option Pl) : Prop := ∃ i, i ≤ nP ts ∧ o = eO ts i ∧ r = eO ts (i + 1)
theorem nLt_down (ts : List Str) (w : Str) : nLt ts w ≤ nP ts ∧ ∀ i, i < nP ts → (sOf ts i < cod w ↔ i < nLt ts w) := by
  rw [nLt_eq]
  exact cnt_down (ord_srt ts) (cod w)
theorem eO_sfx {ts : List Str} {i : Nat} {p : Pl} (h : (ord ts)[i]? = some p) : sOf ts i = cod (sfx ts p) ∧ i < nP ts ∧ InT ts p := by
  obtain ⟨l, e⟩ := List.getElem?_eq_some_iff.mp h
  refine ⟨?_, l, ord_mem.mp (List.mem_of_getElem? h)⟩
  unfold sOf
  rw [List.getD_eq_getElem?_getD, h]
  rfl
/-- with no ending that begins with the word, just one gap stands beside it -/
theorem gap_one {ts : List Str} {w : Str} (g : nBeg ts w = 0) (o r : Option Pl) : (BesideP ts o r ∧ sideB ts w true o = true ∧ sideB ts w false r = true) ↔ (o = eO ts (nLt ts w) ∧ r = eO ts (nLt ts w + 1)) := by
  obtain ⟨le, dn⟩ := nLt_down ts w
  have nb : ∀ p, InT ts p → ¬ cod w <+: cod (sfx ts p) := fun p hp c => by
    have := (nBeg_pos ts w).mpr ⟨p, hp, c⟩
    omega
  constructor
  · rintro ⟨⟨i, hi, rfl, rfl⟩, s1, s2⟩
    have : i = nLt ts w := by
      have a : i ≤ nLt ts w := by
        cases i with
        | zero => omega
        | succ j =>
          have l : j < (ord ts).length := hi
          have e : (ord ts)[j]? = some (ord ts)[j] := List.getElem?_eq_getElem l
          obtain ⟨e1, e2, e3⟩ := eO_sfx e
          have s1 : sideB ts w true ((ord ts)[j]?) = true := s1
          rw [e] at s1
          rw [sideB_some, decide_eq_false (nb _ e3), Bool.false_or] at s1
          have : sOf ts j < cod w := by
            rw [e1]
            refine Classical.byContradiction fun c => ?_
            rw [decide_eq_false c] at s1
            cases s1
          have := (dn j l).mp this
          omega
      have b : nLt ts w ≤ i := by
        refine Classical.byContradiction fun c => ?_
        have l : i < (ord ts).length := by
          have : nLt ts w ≤ (ord ts).length := le
          omega
        have e : (ord ts)[i]? = some (ord ts)[i] := List.getElem?_eq_getElem l
        obtain ⟨e1, e2, e3⟩ := eO_sfx e
        have s2 : sideB ts w false ((ord ts)[i]?) = true := s2
        rw [e] at s2
        rw [sideB_some, decide_eq_false (nb _ e3), Bool.false_or] at s2
        have := (dn i l).mpr (by omega)
        rw [e1] at this
        rw [decide_eq_true this] at s2
        cases s2
      omega
    rw [this]
    exact ⟨rfl, rfl⟩
  · rintro ⟨rfl, rfl⟩
    refine ⟨⟨_, le, rfl, rfl⟩, ?_, ?_⟩
    · cases e : eO ts (nLt ts w) with
      | none => rfl
      | some p =>
        obtain ⟨j, ej, hj⟩ := eO_pos e
        obtain ⟨e1, e2, e3⟩ := eO_sfx hj
        have := (dn j e2).mpr (by omega)
        rw [e1] at this
        rw [sideB_some, decide_eq_false (nb _ e3), decide_eq_true this]
        rfl
    · cases e : eO ts (nLt ts w + 1) with
      | none => rfl
      | some p =>
        have e : (ord ts)[nLt ts w]? = some p := e
        obtain ⟨e1, e2, e3⟩ := eO_sfx e
        have : ¬ cod (sfx ts p) < cod w := fun c => by
          rw [← e1] at c
          have := (dn _ e2).mp c
          omega
        rw [sideB_some, decide_eq_false (nb _ e3), decide_eq_false this]
        rfl
end LawK
set_option maxHeartbeats 4000000
namespace LawK
open PySem PySem.Spec PyProof.Rows L2 Ev

def spDue : Sp := fun vs H Q _ => ∃ (a b : Addr) (ts : List Str) (z : Str) (v : V) (t : Option (List (Option (Option Pl)))), vs = [.ref a, .ref b, .str z, v] ∧ TsAt H a ts ∧ PsL H b (ord ts) ∧ Wd z ∧ ThG H ts v t ∧ ∀ bl H', Same H H' → (nBeg ts z = 0 → bl = gapB ts z t) → Q (.bl bl) H'
theorem in_strs {w : Str} (zs : List Str) : inV (.str w) (zs.map V.str) = decide (w ∈ zs) := by
  unfold inV
  rw [List.any_map, Bool.eq_iff_iff, List.any_eq_true, decide_eq_true_iff]
  constructor
  · rintro ⟨y, hy, e⟩
    have e : decide (y = w) = true := e
    rw [← of_decide_eq_true e]
    exact hy
  · intro h
    exact ⟨w, h, decide_eq_true rfl⟩
theorem tg_ref {H : Hp} {v : V} {xs : List V} (h : Tg H v (some xs)) : ∃ a, v = .ref a := by
  cases h with
  | tup e n h => exact ⟨_, rfl⟩
theorem strs_flat (zs : List Str) : (zs.map V.str).all flatV = true := by
  rw [List.all_map]
  exact List.all_eq_true.mpr fun _ _ => rfl
section
variable {P : Program} {w : World} {K : PySem.W.Frag} {mg : Str → Option Value} {base : Heap}
abbrev sIsDue : Stmt := topS 40
theorem scIsDue : FnScope ["texts", "order", "word", "thing", "place", "side", "signs", "here"] ["texts", "order", "word", "thing"] (defScope sIsDue) := ⟨rfl, rfl, rfl, by decide +kernel, rfl, by decide +kernel, by decide +kernel⟩
theorem ok_IsDue {f : Addr} {fd : FuncData} (F : Fun K "_law_is_due" "_law_is_due" sIsDue f fd)  {fEnding : Addr} {fdEnding : FuncData} (DEnding : Dk P w K mg base "_law_ending" sEnding ["texts", "place"] 1 spLEnding fEnding fdEnding) {fBeside : Addr} {fdBeside : FuncData} (DBeside : Dk P w K mg base "_law_beside" sBeside ["order", "one", "other"] 1 spBeside fBeside fdBeside) (T : Glob mg) : FnG P w K mg base CX0 3 f fd ["texts", "order", "word", "thing"] spDue := by
  refine fun_g F scIsDue (fun vs H Q E h => ?_) (fun cdv A outer s H vs Q E hr hgu h => ?_)
  · obtain ⟨a, b, ts, z, v, t, rfl, _⟩ := h
    rfl
  · refine ⟨_, (pss_cons (ps_if (PW.pt (pw_or (pt_not (pt_val (pe_callB call_isi (by rfl) T.isinstance PyProof.Rows.boot_isinstance (pa_cons (pv 3) (pa_cons (pe_bltn (v := .ty "tuple") (by rfl) T.tuple (by decide +kernel) rfl) pa_nil))))) (pw_or1 (pt_cmpR op_ne (pe_callB call_len_seq (by rfl) T.len PySem.boot_len (pa_cons (pv 3) pa_nil)) pe_int (nomark _)))))
      (pss_one (ps_ret pe_bl))
      pss_nil)
      (pss_cons (ps_for PassesOwn.never rfl (pi_tup (pv 3)) (pg_name (i := 4) scIsDue.nd rfl (.inl rfl))
      (pss_one (ps_if (PW.pt (pw_and (pt_cmpR op_notN (pv 4) pe_non (nomark _)) (pw_and1 (PW.pt (pw_or (pt_not (pt_val (pe_callB call_isi (by rfl) T.isinstance PyProof.Rows.boot_isinstance (pa_cons (pv 4) (pa_cons (pe_bltn (v := .ty "tuple") (by rfl) T.tuple (by decide +kernel) rfl) pa_nil))))) (pw_or1 (pt_cmpR op_notIn_seq (pe_callB (call_reprX hgu hr) (by rfl) T.repr PyProof.Rows.boot_repr (pa_cons (pv 4) pa_nil)) (pe_lc (own := [("here", 7)]) (g := gName 7) (by rfl) scIsDue.nd (pi_list (pv 1)) (blkOk_by (N := ["texts", "order", "word", "thing", "place", "side", "signs", "here"]) (sc := defScope sIsDue) (by decide +kernel)) (fun _ _ _ _ _ => pg_name (i := 7) scIsDue.nd rfl (.inl rfl)) (fun _ _ _ _ _ => pts_nil) (fun _ _ _ _ _ => (pe_callB (call_reprX hgu hr) (by rfl) T.repr PyProof.Rows.boot_repr (pa_cons (pv 7) pa_nil)))) rfl)))))))
        (pss_one (ps_ret pe_bl))
        pss_nil)))
      (pss_cons (ps_if (pt_not (pt_val (pe_call DBeside.ok (hr.mono (by decide)) (by rfl) DBeside.g DBeside.F.kp DBeside.b .nil pass0 (pa_cons (pv 1) (pa_cons (pe_ix ix_tup (pv 3) pe_int (fun _ _ => rfl)) (pa_cons (pe_ix ix_tup (pv 3) pe_int (fun _ _ => rfl)) pa_nil))))))
      (pss_one (ps_ret pe_bl))
      pss_nil)
      (pss_cons (ps_for PassesOwn.never rfl (pi_list (pe_lst (pa_cons pe_int (pa_cons pe_int pa_nil)))) (pg_name (i := 5) scIsDue.nd rfl (.inl rfl))
      (pss_one (ps_if (pt_cmpR op_notN (pe_ix ix_tup (pv 3) (pv 5) (fun _ _ => rfl)) pe_non (nomark _))
        (pss_cons (ps_set (i := 6) scIsDue.nd rfl (.inl rfl) (pe_call DEnding.ok (hr.mono (by decide)) (by rfl) DEnding.g DEnding.F.kp DEnding.b .nil pass0 (pa_cons (pv 0) (pa_cons (pe_ix ix_tup (pv 3) (pv 5) (fun _ _ => rfl)) pa_nil))))
          (pss_one (ps_if (PW.pt (pw_or (pt_cmpR op_eq (pe_slice sl_str (pv 6) po_none (po_some (pe_callB call_lenZ (by rfl) T.len PySem.boot_len (pa_cons (pv 2) pa_nil)))) (pv 2) (nomark _)) (pw_or1 (pt_cmpR op_ne (pe_cmpR op_lt_str (pv 6) (pv 2) (nomark _)) (pe_cmpR op_eq (pv 5) pe_int (nomark _)) (nomark _)))))
          (pss_one (ps_ret pe_bl))
          pss_nil)))
        pss_nil)))
      (pss_one (ps_ret pe_bl)))))), ?_⟩
    obtain ⟨a, b, ts, z, v, t, rfl, ht, hb, hw, hv, q⟩ := h
    have few : (ord ts).length ≤ 1600 := by
      rw [(ord_perm ts).length_eq]
      exact pl_len ht.len ht.few
    dsimp only [tSeq, tAsg, gName]
    cases hv with
    | @no _ k hk n =>
      have e : gapB ts z none = false := by unfold gapB; simp
      refine (?_ : ∀ Q : Bool → Hp → Prop, Q true H → tOr _ _ _ H Q) _ ?_
      · intro Q hQ
        refine ⟨v, rfl, v, .ty "tuple", .type (Kn.name k), .type "tuple", false, rfl, .ty _, Kd.tyx hk, kit_no n, _, rfl, iteT hQ⟩
      · exact iteT (q false H (Same.refl H) fun _ => e.symm)
    | @tup c xs rs hc few3 hx =>
      have hls := hx.len
      refine (?_ : ∀ Q : Bool → Hp → Prop, Q (decide (rs.length ≠ 2)) H → tOr _ _ _ H Q) _ ?_
      · intro Q hQ
        refine ⟨.ref c, rfl, .ref c, .ty "tuple", .type (Kn.name .tup), .type "tuple", kitB .tup .tup, rfl, .ty _, Kd.tyx (.tup hc), kit_kn .tup .tup, _, rfl, iteF ?_⟩
        refine ⟨.ref c, rfl, c, xs, rfl, .inr (SqT.of hc), rfl, ?_⟩
        have ee : (!decide (V.int ((xs.length : Nat) : Int) = V.int 2)) = decide (rs.length ≠ 2) := by
          rw [dec_int, ← decide_not]
          exact decide_eq_decide.mpr (by omega)
        rw [ee]
        exact ⟨_, rfl, hQ⟩
      refine ite2 (fun c2 => ?_) fun c2 => ?_
      · have n2 : rs.length ≠ 2 := of_decide_eq_true c2
        refine q false H (Same.refl H) fun _ => ?_
        unfold gapB
        rw [decide_eq_false (show ¬ (some rs = some [some (eO ts (nLt ts z)), some (eO ts (nLt ts z + 1))]) from fun e => n2 (by rw [Option.some.inj e]; rfl)), Bool.and_false]
      · have n2 : rs.length = 2 := Classical.byContradiction fun z => c2 (decide_eq_true z)
        dsimp only [tNext, tDrop]
        obtain ⟨x, y, rfl⟩ : ∃ x y, xs = [x, y] := by
          match xs, hls with
          | [x, y], _ => exact ⟨x, y, rfl⟩
          | [], e => simp at e; omega
          | [_], e => simp at e; omega
          | _ :: _ :: _ :: _, e => simp at e; omega
        obtain ⟨r1, r2, rfl⟩ : ∃ r1 r2, rs = [r1, r2] := by
          match rs, n2 with
          | [r1, r2], _ => exact ⟨r1, r2, rfl⟩
        clear c2 n2 hls few3
        refine ⟨.ref c, rfl, c, rfl, ⟨_, SqT.of hc⟩, for_tup (K := K) (xs := [x, y]) (fun i σ H' => ∃ u4 : Option V, σ = [some (.ref a), some (.ref b), some (.str z), some (.ref c), u4, none, none, none] ∧ Same H H' ∧ (([r1, r2] : List (Option (Option Pl))).take i).all Option.isSome = true) ⟨_, rfl, Same.refl H, rfl⟩ (fun i σ H' _ ⟨_, _, w, _⟩ => SqT.of (w _ _ hc)) ?_ ?_⟩
        · rintro i v σ H2 hi ⟨u4, rfl, k2, al⟩
          obtain ⟨r, er, pr⟩ := hx.at hi
          have pr2 := pr.same k2
          have snoc : ∀ H', Same H2 H' → r.isSome = true → ∃ u4 : Option V, [some (.ref a), some (.ref b), some (.str z), some (.ref c), some v, none, none, none] = [some (.ref a), some (.ref b), some (.str z), some (.ref c), u4, none, none, none] ∧ Same H H' ∧ (([r1, r2] : List (Option (Option Pl))).take (i + 1)).all Option.isSome = true := fun H' k e => ⟨_, rfl, k2.trans k, by rw [take_snoc er, List.all_append, al]; simp [e]⟩
          have ht2 := ht.same k2
          have forms : (v = .non ∧ r.isSome = true) ∨ (v ≠ .non ∧ ((∃ k, Kd H2 v k ∧ k ≠ .tup ∧ r.isSome = false) ∨ (Kd H2 v .tup ∧ ∀ Q : VK, (∀ zz, decide (zz ∉ (ord ts).map (fun p => (encP p).shown)) = !r.isSome → Q (.str zz) H2) → rReprX [v] H2 Q))) := by
            cases pr2 with
            | non => exact .inl ⟨rfl, rfl⟩
            | @pl v p h ip =>
              have hh := h
              obtain ⟨c1, e1, ec1⟩ := hh
              refine .inr ⟨fun e => (by rw [e1] at e; cases e), .inr ⟨(by rw [e1]; exact .tup ec1), fun Q hQ => ?_⟩⟩
              clear e1 ec1
              obtain ⟨a1, a2, a3⟩ := sh_P (inT_le ht.few ht.len ip)
              have d := dg_P h
              obtain ⟨c0, rfl, ec⟩ := h
              exact .inl ⟨c0, _, rfl, d, a1, a2, a3, hQ _ (decide_eq_false fun n => n (List.mem_map.mpr ⟨p, ord_mem.mpr ip, rfl⟩))⟩
            | @bad v o tg np nn rb =>
              refine .inr ⟨nn, ?_⟩
              cases o with
              | none =>
                obtain ⟨k, hk, e⟩ := tg.kd
                exact .inl ⟨k, hk, (fun z => by have := e.mp z; cases this), rfl⟩
              | some xs0 =>
                obtain ⟨k, hk, e⟩ := tg.kd
                have := e.mpr rfl
                subst this
                exact .inr ⟨hk, fun Q hQ => bad_repr ht.few ht.len (rb (fun e => by cases e)) (tg_ref tg) fun zz hz => hQ zz (decide_eq_true hz)⟩
          clear pr pr2
          refine (?_ : ∀ Q : Bool → Hp → Prop, (∀ H', Same H2 H' → Q (!r.isSome) H') → tAnd _ _ _ H2 Q) _ ?_
          · intro Q hQ
            rcases forms with ⟨rfl, e⟩ | ⟨nn, forms⟩
            · have := hQ H2 (Same.refl _)
              rw [e] at this
              exact ⟨.non, rfl, rfl, _, rfl, iteF this⟩
            · refine ⟨v, rfl, rfl, _, rfl, ite2 (fun _ => ?_) fun c => absurd ?_ c⟩
              · rcases forms with ⟨k, hk, n, e⟩ | ⟨hk, rd⟩
                · have := hQ H2 (Same.refl _)
                  rw [e] at this
                  exact ⟨v, rfl, v, .ty "tuple", .type (Kn.name k), .type "tuple", false, rfl, .ty _, Kd.tyx hk, kit_no n, _, rfl, iteT this⟩
                · refine ⟨v, rfl, v, .ty "tuple", .type (Kn.name .tup), .type "tuple", kitB .tup .tup, rfl, .ty _, Kd.tyx hk, kit_kn .tup .tup, _, rfl, iteF ?_⟩
                  refine ⟨v, rfl, rd _ fun zz ez => ?_⟩
                  obtain ⟨vs, hbv, hvs⟩ := hb.same k2
                  refine ⟨.ref b, rfl, b, rfl, ⟨_, sq_of hbv⟩, fun D nD => lc_list (K := K) (xs := vs) (fun i H' => H' D = some (.lst ((((ord ts).take i).map fun p => (encP p).shown).map V.str)) ∧ Same H2 H') ⟨upd_same, Same.new nD⟩ (fun i H' _ g => sq_of (g.2 _ _ hbv)) ?_ ?_⟩
                  · rintro i u H3 hu ⟨hD, k3⟩
                    obtain ⟨p, ep, pp⟩ := hvs.at hu
                    have pp3 := pp.same k3
                    have d := dg_P pp3
                    have ip := ord_mem.mp (List.mem_of_getElem? ep)
                    obtain ⟨a1, a2, a3⟩ := sh_P (inT_le ht.few ht.len ip)
                    obtain ⟨c0, rfl, ec⟩ := pp3
                    have li := (List.getElem?_eq_some_iff.mp ep).1
                    refine ⟨rfl, .ref c0, rfl, ?_⟩
                    refine Or.inl ⟨c0, _, rfl, d, a1, a2, a3, ?_⟩
                    refine ⟨_, hD, ?_, ?_, sameAt k3 nD⟩
                    · rw [List.length_map, List.length_map, List.length_take]
                      show _ < 16777216
                      omega
                    · rw [upd_same, take_snoc ep, List.map_append, List.map_append]
                      rfl
                  · rintro H3 ⟨hD, k3⟩
                    rw [hvs.len, List.take_of_length_le (Nat.le_refl _)] at hD
                    refine ⟨D, _, rfl, .inl (sq_of hD), rfl, strs_flat _, ?_⟩
                    refine ⟨_, rfl, ?_⟩
                    have := hQ H3 k3
                    rw [← ez] at this
                    rw [in_strs, if_pos rfl, ← decide_not]
                    exact this
              · rw [decide_eq_false nn]
                rfl
          · intro H' k
            cases e : r.isSome with
            | true => exact iteF (snoc H' k e)
            | false =>
              refine iteT (q false H' (k2.trans k) fun _ => ?_)
              unfold gapB
              rw [decide_eq_false (show ¬ (some [r1, r2] = some [some (eO ts (nLt ts z)), some (eO ts (nLt ts z + 1))]) from fun e2 => ?_), Bool.and_false]
              rw [Option.some.inj e2] at er
              have : i = 0 ∨ i = 1 := by
                have := (List.getElem?_eq_some_iff.mp er).1
                simp at this
                omega
              rcases this with rfl | rfl <;> (have er := Option.some.inj er; rw [← er] at e; cases e)
        · rintro σ H2 ⟨u4, rfl, k2, al⟩
          obtain ⟨os, eos⟩ : ∃ os : List (Option Pl), [r1, r2] = os.map some := all_some (by
            rw [show ([x, y] : List V).length = 2 from rfl] at al
            rw [List.all_map]
            exact al)
          obtain ⟨o, r, rfl⟩ : ∃ o r, os = [o, r] := by
            match os, eos with
            | [o, r], _ => exact ⟨o, r, rfl⟩
          injection eos with e1 e2
          injection e2 with e2 e3
          subst e1
          subst e2
          clear e3 al
          have hx2 := hx.imp fun _ _ r => r.same k2
          cases hx2 with
          | cons hx2 hy2 =>
          cases hy2 with
          | cons hy2 hz2 =>
          have inO : ∀ {v : V} {o : Option Pl}, Pt H2 ts v (some o) → ∀ p, o = some p → InT ts p := fun h p e => by
            cases h with
            | non => cases e
            | pl h i =>
              cases e
              exact i
          have pO : ∀ {v : V} {o : Option Pl}, Pt H2 ts v (some o) → PO H2 v o := fun h => by
            cases h with
            | non => rfl
            | pl h i => exact h
          have sc := SqT.of (K := K) (k2 _ _ hc)
          refine ⟨.ref b, rfl, .ref c, rfl, c, _, _, x, rfl, rfl, sc, rfl, .ref c, rfl, c, _, _, y, rfl, rfl, sc, rfl, ?_⟩
          refine ⟨b, ts, x, y, o, r, rfl, hb.same k2, few, pO hx2, pO hy2, inO hx2, inO hy2, fun bs ebs => ?_⟩
          have ge : nBeg ts z = 0 → gapB ts z (some [some o, some r]) = (bs && sideB ts z true o && sideB ts z false r) := fun g => by
            unfold gapB
            rw [decide_eq_true g, Bool.true_and]
            have go := gap_one g o r
            have e0 : (some [some o, some r] = some [some (eO ts (nLt ts z)), some (eO ts (nLt ts z + 1))]) ↔ (o = eO ts (nLt ts z) ∧ r = eO ts (nLt ts z + 1)) := by simp
            have ebs : bs = true ↔ BesideP ts o r := ebs
            rw [Bool.eq_iff_iff, decide_eq_true_iff, e0, ← go, Bool.and_eq_true, Bool.and_eq_true, ebs, and_assoc]
          refine ⟨_, rfl, ?_⟩
          cases bs with
          | false => exact iteT (q false H2 k2 fun g => by rw [ge g]; rfl)
          | true =>
            refine iteF ?_
            dsimp only [tNext, tDrop]
            refine ⟨by show 2 ≤ sizeLine; decide, fun D nD => ⟨D, rfl, ⟨_, sq_of upd_same⟩, for_list (K := K) (xs := [.int 0, .int 1]) (fun i σ H' => ∃ u5 u6 : Option V, σ = [some (.ref a), some (.ref b), some (.str z), some (.ref c), u4, u5, u6, none] ∧ Same H H' ∧ H' D = some (.lst [.int 0, .int 1]) ∧ (0 < i → sideB ts z true o = true) ∧ (1 < i → sideB ts z false r = true)) ⟨_, _, rfl, k2.trans (Same.new nD), upd_same, fun h => by omega, fun h => by omega⟩ (fun i σ H' _ ⟨_, _, _, _, w, _⟩ => sq_of w) ?_ ?_⟩⟩
            · rintro i v σ H3 hi ⟨u5, u6, rfl, k3, hD, s1, s2⟩
              have sc3 := SqT.of (K := K) (k3 _ _ hc)
              have hx3 := hx.imp fun _ _ r => r.same k3
              cases hx3 with
              | cons hx3 hy3 =>
              cases hy3 with
              | cons hy3 hz3 =>
              obtain ⟨m, xx, oo, bb, rfl, ex, px, eb, bad, good⟩ : ∃ (m : Int) (xx : V) (oo : Option Pl) (bb : Bool), v = .int m ∧ atI [x, y] m = some xx ∧ Pt H3 ts xx (some oo) ∧ decide (V.int m = V.int 0) = bb ∧ (sideB ts z bb oo = false → (sideB ts z true o && sideB ts z false r) = false) ∧ (sideB ts z bb oo = true → (0 < i + 1 → sideB ts z true o = true) ∧ (1 < i + 1 → sideB ts z false r = true)) := by
                have : i = 0 ∨ i = 1 := by
                  have := (List.getElem?_eq_some_iff.mp hi).1
                  simp at this
                  omega
                rcases this with rfl | rfl
                · cases Option.some.inj hi
                  exact ⟨0, x, o, true, rfl, rfl, hx3, by decide, fun e => by rw [e]; rfl, fun e => ⟨fun _ => e, fun h => by omega⟩⟩
                · cases Option.some.inj hi
                  exact ⟨1, y, r, false, rfl, rfl, hy3, by decide, fun e => by rw [e, Bool.and_false], fun e => ⟨fun _ => s1 (by decide), fun _ => e⟩⟩
              refine ⟨.ref c, rfl, .int m, rfl, c, _, _, xx, rfl, rfl, sc3, ex, rfl, _, rfl, ?_⟩
              have nxt : ∀ (u6 : Option V) (H' : Hp), Same H3 H' → sideB ts z bb oo = true → ∃ u5 u6' : Option V, [some (.ref a), some (.ref b), some (.str z), some (.ref c), u4, some (.int m), u6, none] = [some (.ref a), some (.ref b), some (.str z), some (.ref c), u4, u5, u6', none] ∧ Same H H' ∧ H' D = some (.lst [.int 0, .int 1]) ∧ (0 < i + 1 → sideB ts z true o = true) ∧ (1 < i + 1 → sideB ts z false r = true) := fun u6 H' k e => ⟨_, _, rfl, k3.trans k, k _ _ hD, (good e).1, (good e).2⟩
              cases px with
              | non => exact ite2 (fun c => by cases c) fun _ => nxt u6 H3 (Same.refl _) rfl
              | @pl _ p hp ip =>
                have nn : xx ≠ .non := by
                  obtain ⟨c0, rfl, _⟩ := hp
                  exact fun e => by cases e
                refine ite2 (fun _ => ?_) fun c => absurd (by rw [decide_eq_false nn]; rfl) c
                refine ⟨.ref a, rfl, .ref c, rfl, .int m, rfl, c, _, _, xx, rfl, rfl, sc3, ex, a, ts, xx, p, rfl, ht.same k3, hp, ip, ?_⟩
                dsimp only [tSeq, tAsg, gName]
                refine (?_ : ∀ Q : Bool → Hp → Prop, Q (!(sideB ts z bb (some p))) H3 → tOr _ _ _ H3 Q) _ ?_
                · intro Q hQ
                  have ls := sfx_len2 ht.len p
                  refine ⟨.str (sfx ts p), rfl, .str z, rfl, z, rfl, len5 hw.few, _, rfl, _, rfl, len5 (by omega), .str z, rfl, rfl, _, rfl, ?_⟩
                  rw [cut_beg]
                  rw [sideB_some, Bool.not_not] at hQ
                  cases e1 : decide (cod z <+: cod (sfx ts p)) with
                  | true =>
                    rw [e1, Bool.true_or] at hQ
                    exact iteT hQ
                  | false =>
                    rw [e1, Bool.false_or] at hQ
                    refine iteF ?_
                    refine ⟨.str (sfx ts p), rfl, .str z, rfl, _, _, rfl, rfl, .int m, rfl, rfl, ?_⟩
                    rw [eb]
                    have en : (!decide (V.bl (decide (cod (sfx ts p) < cod z)) = V.bl bb)) = (decide (cod (sfx ts p) < cod z) != bb) := by
                      cases decide (cod (sfx ts p) < cod z) <;> cases bb <;> rfl
                    rw [← en] at hQ
                    exact ⟨rfl, _, rfl, hQ⟩
                · cases e : sideB ts z bb (some p) with
                  | true => exact iteF (nxt _ H3 (Same.refl _) e)
                  | false =>
                    refine iteT (q false H3 k3 fun g => ?_)
                    rw [ge g, Bool.and_assoc, bad e]
                    rfl
            · rintro σ H3 ⟨u5, u6, rfl, k3, hD, s1, s2⟩
              refine q true H3 k3 fun g => ?_
              rw [ge g, s1 (by decide), s2 (by decide)]
              rfl
end
end LawK
set_option maxHeartbeats 4000000
namespace LawK
open PySem PySem.Spec PyProof.Rows L2 Ev

def EndsAt (H : Hp) (e : Addr) (ts : List Str) : Prop := ∃ xs, H e = some (.lst xs) ∧ All2 (PO H) xs ((List.range (nP ts + 2)).map (eO ts))
theorem EndsAt.same {H H' : Hp} {e : Addr} {ts : List Str} (k : Same H H') (h : EndsAt H e ts) : EndsAt H' e ts := let ⟨xs, a, b⟩ := h; ⟨xs, k _ _ a, b.imp fun _ _ r => r.same k⟩
theorem PO.but {H H' : Hp} {p l : Addr} {v : V} {o : Option Pl} (h : PO H v o) (h0 : HandL H p l) (b : But p H H') : PO H' v o := by
  cases o with
  | none => exact h
  | some q => exact PAt.but h h0 b
theorem EndsAt.but {H H' : Hp} {p l e : Addr} {ts : List Str} (h : EndsAt H e ts) (h0 : HandL H p l) (n : e ≠ p) (b : But p H H') : EndsAt H' e ts := let ⟨xs, a, c⟩ := h; ⟨xs, b _ _ n a, c.imp fun _ _ r => r.but h0 b⟩
theorem EndsAt.ix {K : PySem.W.Frag} {H : Hp} {e : Addr} {ts : List Str} (h : EndsAt H e ts) {i : Int} (h0 : 0 ≤ i) (h1 : i ≤ (nP ts : Int) + 1) : ∃ xs x, SqL K H e xs ∧ atI xs i = some x ∧ PO H x (eO ts i.toNat) := by
  obtain ⟨xs, a, b⟩ := h
  have lx := b.len
  rw [List.length_map, List.length_range] at lx
  obtain ⟨j, rfl⟩ : ∃ j : Nat, i = (j : Int) := ⟨i.toNat, by omega⟩
  have lj : j < xs.length := by omega
  obtain ⟨o, eo, px⟩ := b.at (List.getElem?_eq_getElem lj)
  rw [List.getElem?_map, List.getElem?_range (by omega)] at eo
  have eo := Option.some.inj eo
  rw [← eo] at px
  exact ⟨xs, _, sq_of a, atI_nat (List.getElem?_eq_getElem lj), px⟩
theorem pt_of {H : Hp} {ts : List Str} {x : V} {i : Nat} (h : PO H x (eO ts i)) : Pt H ts x (some (eO ts i)) := by
  cases e : eO ts i with
  | none =>
    rw [e] at h
    have h : x = .non := h
    rw [h]
    exact .non
  | some p =>
    rw [e] at h
    obtain ⟨j, rfl, hj⟩ := eO_pos e
    exact .pl h (ord_mem.mp (List.mem_of_getElem? hj))
theorem th_two {H : Hp} {ts : List Str} {t : Addr} {x y : V} {o r : Option (Option Pl)} (e : H t = some (.tup [x, y])) (hx : Pt H ts x o) (hy : Pt H ts y r) : ThG H ts (.ref t) (some [o, r]) := .tup e (by show 2 ≤ 3; decide) (.cons hx (.cons hy .nil))
def AllTh (H : Hp) (ts : List Str) (us : List V) : Prop := ∀ u ∈ us, ∃ t, ThG H ts u t
theorem AllTh.same {H H' : Hp} {ts : List Str} {us : List V} (k : Same H H') (h : AllTh H ts us) : AllTh H' ts us := fun u m => let ⟨t, q⟩ := h u m; ⟨t, q.same k⟩
theorem AllTh.app {H : Hp} {ts : List Str} {us vs : List V} (h : AllTh H ts us) (k : AllTh H ts vs) : AllTh H ts (us ++ vs) := fun u m => by
  rcases List.mem_append.mp m with m | m
  · exact h u m
  · exact k u m
theorem AllTh.one {H : Hp} {ts : List Str} {u : V} {t : Option (List (Option (Option Pl)))} (h : ThG H ts u t) : AllTh H ts [u] := fun v m => by
  rw [List.mem_singleton.mp m]
  exact ⟨_, h⟩
theorem AllTh.cons {H : Hp} {ts : List Str} {u : V} {us : List V} {t : Option (List (Option (Option Pl)))} (h : ThG H ts u t) (k : AllTh H ts us) : AllTh H ts (u :: us) := fun v m => by
  rcases List.mem_cons.mp m with rfl | m
  · exact ⟨_, h⟩
  · exact k v m
theorem AllTh.nil {H : Hp} {ts : List Str} : AllTh H ts [] := fun v m => by cases m
theorem Pt.but {H H' : Hp} {p l : Addr} {ts : List Str} {v : V} {r : Option (Option Pl)} (h : Pt H ts v r) (h0 : HandL H p l) (h1 : HandL H' p l) (b : But p H H') : Pt H' ts v r := by
  cases h with
  | non => exact .non
  | pl h i => exact .pl (h.but h0 b) i
  | bad h n m r =>
    refine .bad (Tg.but h h0 h1 b) n m fun ne => ?_
    rcases r ne with ⟨j, d, g, l⟩ | ⟨a, e, ha⟩ | ⟨g, i⟩
    · exact .inl ⟨j, d, Nd.but g h0 b, l⟩
    · exact .inr (.inl ⟨a, e, ha.imp (fun e => b _ _ (tup_ne h0 e) e) (fun e => b _ _ (tup_ne h0 e) e)⟩)
    · exact .inr (.inr ⟨g.but h0 b, i⟩)
theorem ThG.but {H H' : Hp} {p l : Addr} {ts : List Str} {v : V} {t : Option (List (Option (Option Pl)))} (h : ThG H ts v t) (h0 : HandL H p l) (h1 : HandL H' p l) (b : But p H H') : ThG H' ts v t := by
  cases h with
  | no h n => exact .no (Kd.but h h0 h1 b) n
  | tup e few h => exact .tup (b _ _ (tup_ne h0 e) e) few (h.imp fun _ _ r => r.but h0 h1 b)
theorem AllTh.but {H H' : Hp} {p l : Addr} {ts : List Str} {us : List V} (h : AllTh H ts us) (h0 : HandL H p l) (h1 : HandL H' p l) (b : But p H H') : AllTh H' ts us := fun u m => let ⟨t, q⟩ := h u m; ⟨t, q.but h0 h1 b⟩
theorem Nd.kd {H : Hp} {n : Nat} {v : V} {d : PyData} (h : Nd H n v d) : (∃ k, Kd H v k) ∧ Vs v := by
  have nr : ∀ a : Addr, Vs (.ref a) := fun a z e => by cases e
  cases h with
  | non => exact ⟨⟨_, .non⟩, fun z e => by cases e⟩
  | str z h =>
    refine ⟨⟨_, .str z⟩, fun y e => ?_⟩
    cases V.str.inj e
    rw [h]
    decide +kernel
  | neg => exact ⟨⟨_, .int _⟩, fun z e => by cases e⟩
  | dic e => exact ⟨⟨_, .dic e⟩, nr _⟩
  | tup e h => exact ⟨⟨_, .tup e⟩, nr _⟩
  | lst e m h => exact ⟨⟨_, .lst e⟩, nr _⟩
  | dik e h => exact ⟨⟨_, .dic e⟩, nr _⟩
theorem pt_deep {H : Hp} {ts : List Str} {n : Nat} {a : Addr} {d : PyData} (h : Nd H n (.ref a) d) (hn : n ≤ 60) : Pt H ts (.ref a) none := by
  have nr : Vs (.ref a) := fun z e => by cases e
  have nn : (V.ref a) ≠ .non := fun e => by cases e
  have h' := h
  cases h with
  | dic e => exact .bad (.no (.dic e) (fun e => by cases e) nr) rfl nn fun z => absurd rfl z
  | tup e hx =>
    refine .bad (.tup e (by show 1 ≤ 30; decide) fun y hy => ?_) rfl nn fun _ => .inl ⟨_, _, h', hn⟩
    rw [List.mem_singleton.mp hy]
    exact Nd.kd hx
  | lst e m hx => exact .bad (.no (.lst e) (fun e => by cases e) nr) rfl nn fun z => absurd rfl z
  | dik e hx => exact .bad (.no (.dic e) (fun e => by cases e) nr) rfl nn fun z => absurd rfl z
theorem pt_int {H : Hp} {ts : List Str} {i : Int} : Pt H ts (.int i) none := .bad (.no (.int i) (fun e => by cases e) (fun z e => by cases e)) rfl (fun e => by cases e) fun z => absurd rfl z
theorem pt_0T {H : Hp} {ts : List Str} {a : Addr} (e : H a = some (.tup [.int 0, .bl true])) : Pt H ts (.ref a) none := by
  refine .bad (.tup e (by show 2 ≤ 30; decide) fun y hy => ?_) ?_ (fun e => by cases e) fun _ => .inr (.inl ⟨a, rfl, .inl e⟩)
  · rcases List.mem_cons.mp hy with rfl | hy
    · exact int_ok
    · rw [List.mem_singleton.mp hy]
      exact ⟨⟨_, .bl _⟩, fun z e => by cases e⟩
  · unfold placeV
    exact Bool.and_false _
theorem pt_T0 {H : Hp} {ts : List Str} {a : Addr} (e : H a = some (.tup [.bl true, .int 0])) : Pt H ts (.ref a) none := by
  refine .bad (.tup e (by show 2 ≤ 30; decide) fun y hy => ?_) ?_ (fun e => by cases e) fun _ => .inr (.inl ⟨a, rfl, .inr e⟩)
  · rcases List.mem_cons.mp hy with rfl | hy
    · exact ⟨⟨_, .bl _⟩, fun z e => by cases e⟩
    · rw [List.mem_singleton.mp hy]
      exact int_ok
  · rfl
theorem pt_00 {H : Hp} {ts : List Str} {a : Addr} (e : H a = some (.tup [.int 0, .int 0])) : ∃ r, Pt H ts (.ref a) r := by
  have pa : PAt H (.ref a) (0, 0) := ⟨a, rfl, e⟩
  by_cases h : InT ts (0, 0)
  · exact ⟨_, .pl pa h⟩
  · refine ⟨none, .bad (.tup e (by decide) fun y hy => ?_) ?_ (fun e => by cases e) fun _ => .inr (.inr ⟨pa, h⟩)⟩
    · rcases List.mem_cons.mp hy with rfl | hy
      · exact int_ok
      · rw [List.mem_singleton.mp hy]
        exact int_ok
    · refine Bool.eq_false_iff.mpr fun c => h ?_
      have c : ((decide ((0 : Int) ≤ 0) && decide ((0 : Int) ≤ (ts.length : Int) - 1)) && (decide ((0 : Int) ≤ 0) && decide ((0 : Int) ≤ ((ts.getD (0 : Int).toNat Str.empty).length : Int) - 1))) = true := c
      rw [Bool.and_eq_true, Bool.and_eq_true, Bool.and_eq_true] at c
      obtain ⟨⟨_, c1⟩, _, c2⟩ := c
      have c1 := of_decide_eq_true c1
      have c2 := of_decide_eq_true c2
      exact ⟨by show 0 < ts.length; omega, by show 0 < (tx ts 0).length; have c2 : (0 : Int) ≤ ((ts.getD 0 Str.empty).length : Int) - 1 := c2; show 0 < (ts.getD 0 Str.empty).length; omega⟩
theorem ends_of {H : Hp} {ts : List Str} {vs : List V} (h : All2 (PAt H) vs (ord ts)) : All2 (PO H) (V.non :: vs ++ [V.non]) ((List.range (nP ts + 2)).map (eO ts)) := by
  have e : (List.range (nP ts + 2)).map (eO ts) = none :: (ord ts).map some ++ [none] := by
    refine List.ext_getElem? fun i => ?_
    rw [List.getElem?_map]
    by_cases hi : i < nP ts + 2
    · rw [List.getElem?_range hi]
      show some (eO ts i) = _
      cases i with
      | zero => rfl
      | succ j =>
        show some ((ord ts)[j]?) = ((ord ts).map some ++ [none])[j]?
        by_cases hj : j < (ord ts).length
        · rw [List.getElem?_append_left (by rw [List.length_map]; exact hj), List.getElem?_map, List.getElem?_eq_getElem hj]
          rfl
        · have nPe : nP ts = (ord ts).length := rfl
          have : j = (ord ts).length := by omega
          rw [List.getElem?_eq_none (by omega), this, List.getElem?_append_right (by rw [List.length_map]; exact Nat.le_refl _), List.length_map, Nat.sub_self]
          rfl
    · rw [List.getElem?_eq_none (by rw [List.length_range]; omega), List.getElem?_eq_none]
      · rfl
      · have nPe : nP ts = (ord ts).length := rfl
        simp
        omega
  rw [e]
  refine All2.snoc (.cons rfl ?_) rfl
  clear e
  generalize ord ts = ps at h
  induction h with
  | nil => exact .nil
  | cons r t ih => exact .cons r ih
def spThings : Sp := fun vs H Q _ => ∃ (p a b : Addr) (ts : List Str) (z : Str), vs = [.ref p, .ref a, .ref b, .str z] ∧ TsAt H a ts ∧ PsL H b (ord ts) ∧ b ≠ p ∧ ∃ l, HandL H p l ∧ ∀ D us H', H' D = some (.lst us) → us.length ≤ 100 → AllTh H' ts us → Hn p l H H' → Q (.ref D) H'
section
variable {P : Program} {w : World} {K : PySem.W.Frag} {mg : Str → Option Value} {base : Heap}
end
end LawK
set_option maxHeartbeats 4000000
namespace LawK
open PySem PySem.Spec PyProof.Rows L2 Ev
section
variable {P : Program} {w : World} {K : PySem.W.Frag} {mg : Str → Option Value} {base : Heap}
theorem hand_len {H : Hp} {p l a : Addr} {xs : List V} (h : HandL H p l) (e : H a = some (.lst xs)) (n : xs.length ≠ 5) : a ≠ p := fun z => by
  rw [z] at e
  obtain ⟨cells, i, r, s, m, hp, _⟩ := h
  rw [e] at hp
  cases Option.some.inj hp
  exact n rfl
theorem nLt_ord (ts : List Str) (z : Str) : ((ord ts).filter fun p => decide (cod (sfx ts p) < cod z)).length = nLt ts z := ((ord_perm ts).filter _).length_eq
abbrev sThings : Stmt := topS 41
theorem scThings : FnScope ["hand", "texts", "order", "word", "ahead", "ends", "one", "other", "found", "odd", "place"] ["hand", "texts", "order", "word"] (defScope sThings) := ⟨rfl, rfl, rfl, by decide +kernel, rfl, by decide +kernel, by decide +kernel⟩
theorem ok_Things {f : Addr} {fd : FuncData} (F : Fun K "_law_things" "_law_things" sThings f fd)  {fDraw : Addr} {fdDraw : FuncData} (DDraw : Dk P w K mg base "_law_draw" sDraw ["hand", "many"] 1 spDraw fDraw fdDraw) {fDeep : Addr} {fdDeep : FuncData} (DDeep : Dk P w K mg base "_law_deep" sDeep ["hand"] 2 spLDeep fDeep fdDeep) {fEnding : Addr} {fdEnding : FuncData} (DEnding : Dk P w K mg base "_law_ending" sEnding ["texts", "place"] 1 spLEnding fEnding fdEnding) (T : Glob mg) : FnOk P w K mg base CX0 4 f fd ["hand", "texts", "order", "word"] spThings := by
  refine F.ok scThings (fun vs H Q E h => ?_) (fun cdv A outer s H vs Q E hr h => ?_)
  · obtain ⟨p, a, b, ts, z, rfl, _⟩ := h
    rfl
  · refine ⟨_, (pss_cons (ps_set (i := 4) scThings.nd rfl (.inl rfl) (pe_callB call_len_seq (by rfl) T.len PySem.boot_len (pa_cons (pe_lc (own := [("place", 10)]) (g := gName 10) (by rfl) scThings.nd (pi_list (pv 2)) (blkOk_by (N := ["hand", "texts", "order", "word", "ahead", "ends", "one", "other", "found", "odd", "place"]) (sc := defScope sThings) (by decide +kernel)) (fun _ _ _ _ _ => pg_name (i := 10) scThings.nd rfl (.inl rfl)) (fun _ _ _ _ _ => (pts_one (pt_cmpR op_lt_str (pe_call DEnding.ok (hr.mono (by decide)) (by rfl) DEnding.g DEnding.F.kp DEnding.b .nil pass0 (pa_cons (pv 1) (pa_cons (pv 10) pa_nil))) (pv 3) (nomark _)))) (fun _ _ _ _ _ => (pv 10))) pa_nil)))
      (pss_cons (ps_set (i := 5) scThings.nd rfl (.inl rfl) (pe_op op_cat (pe_op op_cat (pe_lst (pa_cons pe_non pa_nil)) (pv 2)) (pe_lst (pa_cons pe_non pa_nil))))
      (pss_cons (ps_set (i := 6) scThings.nd rfl (.inl rfl) (pe_call DDraw.ok (hr.mono (by decide)) (by rfl) DDraw.g DDraw.F.kp DDraw.b .nil pass0 (pa_cons (pv 0) (pa_cons (pe_op op_add (pe_callB call_len_seq (by rfl) T.len PySem.boot_len (pa_cons (pv 2) pa_nil)) pe_int) pa_nil))))
      (pss_cons (ps_set (i := 7) scThings.nd rfl (.inl rfl) (pe_call DDraw.ok (hr.mono (by decide)) (by rfl) DDraw.g DDraw.F.kp DDraw.b .nil pass0 (pa_cons (pv 0) (pa_cons (pe_op op_add (pe_callB call_len_seq (by rfl) T.len PySem.boot_len (pa_cons (pv 2) pa_nil)) pe_int) pa_nil))))
      (pss_cons (ps_set (i := 8) scThings.nd rfl (.inl rfl) (pe_lst (pa_cons (pe_tup (pa_cons (pe_ix ix_list (pv 5) (pv 4) (fun _ _ => rfl)) (pa_cons (pe_ix ix_list (pv 5) (pe_op op_add (pv 4) pe_int) (fun _ _ => rfl)) pa_nil))) (pa_cons (pe_lst (pa_cons (pe_ix ix_list (pv 5) (pv 4) (fun _ _ => rfl)) (pa_cons (pe_ix ix_list (pv 5) (pe_op op_add (pv 4) pe_int) (fun _ _ => rfl)) pa_nil))) (pa_cons (pe_tup (pa_cons (pe_ix ix_list (pv 5) (pv 6) (fun _ _ => rfl)) (pa_cons (pe_ix ix_list (pv 5) (pe_op op_add (pv 6) pe_int) (fun _ _ => rfl)) pa_nil))) pa_nil)))))
      (pss_cons (ps_set (i := 8) scThings.nd rfl (.inl rfl) (pe_op op_cat (pv 8) (pe_lst (pa_cons (pe_tup (pa_cons (pe_ix ix_list (pv 5) (pv 6) (fun _ _ => rfl)) (pa_cons (pe_ix ix_list (pv 5) (pv 7) (fun _ _ => rfl)) pa_nil))) (pa_cons (pe_tup (pa_cons (pe_ix ix_list (pv 5) (pe_op op_add (pv 4) pe_int) (fun _ _ => rfl)) (pa_cons (pe_ix ix_list (pv 5) (pv 4) (fun _ _ => rfl)) pa_nil))) (pa_cons (pe_tup (pa_cons (pe_ix ix_list (pv 5) (pv 4) (fun _ _ => rfl)) (pa_cons pe_non pa_nil))) (pa_cons (pe_tup (pa_cons pe_non (pa_cons pe_non pa_nil))) pa_nil)))))))
      (pss_cons (ps_set (i := 9) scThings.nd rfl (.inl rfl) (pe_lst (pa_cons pe_non (pa_cons (pe_tup pa_nil) (pa_cons (pe_tup (pa_cons pe_int (pa_cons pe_int pa_nil))) (pa_cons (pe_tup (pa_cons (pe_tup (pa_cons pe_int (pa_cons pe_bl pa_nil))) (pa_cons pe_non pa_nil))) (pa_cons (pe_tup (pa_cons (pe_tup (pa_cons pe_bl (pa_cons pe_int pa_nil))) (pa_cons (pe_tup (pa_cons pe_int (pa_cons pe_int pa_nil))) pa_nil))) (pa_cons (pe_tup (pa_cons (pe_call DDeep.ok (hr.mono (by decide)) (by rfl) DDeep.g DDeep.F.kp DDeep.b .nil pass0 (pa_cons (pv 0) pa_nil)) (pa_cons pe_non pa_nil))) (pa_cons (pe_tup (pa_cons (pe_tup (pa_cons pe_int (pa_cons pe_int pa_nil))) (pa_cons (pe_tup (pa_cons pe_int (pa_cons pe_int pa_nil))) (pa_cons pe_non pa_nil)))) pa_nil)))))))))
      (pss_one (ps_ret (pe_op op_cat (pv 8) (pe_lst (pa_cons (pe_ix ix_list (pv 9) (pe_call DDraw.ok (hr.mono (by decide)) (by rfl) DDraw.g DDraw.F.kp DDraw.b .nil pass0 (pa_cons (pv 0) (pa_cons pe_int pa_nil))) (fun _ _ => rfl)) pa_nil)))))))))))), ?_⟩
    obtain ⟨p, a, b, ts, z, rfl, ht, hb, nb, l, h0, q⟩ := h
    obtain ⟨vs, hbv, hv⟩ := hb
    have few : (ord ts).length ≤ 1600 := by
      rw [(ord_perm ts).length_eq]
      exact pl_len ht.len ht.few
    have nPe : nP ts = (ord ts).length := rfl
    have lv := hv.len
    refine ⟨.ref b, rfl, b, rfl, ⟨_, sq_of hbv⟩, fun D nD => lc_list (K := K) (xs := vs) (fun i H' => Same H H' ∧ ∃ us, H' D = some (.lst us) ∧ us.length = (((ord ts).take i).filter fun p => decide (cod (sfx ts p) < cod z)).length) ⟨Same.new nD, [], upd_same, rfl⟩ (fun i H' _ w => sq_of (w.1 _ _ hbv)) ?_ ?_⟩
    · rintro i x H2 hx ⟨k2, us, hD, hu⟩
      obtain ⟨p, ep, rp⟩ := hv.at hx
      have ip := ord_mem.mp (List.mem_of_getElem? ep)
      have li := (List.getElem?_eq_some_iff.mp ep).1
      refine ⟨rfl, .ref a, rfl, x, rfl, a, ts, x, p, rfl, ht.same k2, rp.same k2, ip, .str z, rfl, _, _, rfl, rfl, _, rfl, ?_⟩
      rw [filt_snoc _ ep]
      refine ite2 (fun c => ?_) (fun c => ?_)
      · have c : decide (cod (sfx ts p) < cod z) = true := c
        rw [if_pos c]
        refine ⟨x, rfl, us, hD, ?_, sameAt k2 nD, us ++ [x], upd_same, by rw [List.length_append, List.length_append, hu]; rfl⟩
        have z2 := List.length_filter_le (fun p => decide (cod (sfx ts p) < cod z)) ((ord ts).take i)
        rw [List.length_take] at z2
        have h3 : sizeLine = 16777216 := sizeLine_eq
        omega
      · have c : ¬ decide (cod (sfx ts p) < cod z) = true := c
        rw [if_neg c, List.append_nil]
        exact ⟨k2, us, hD, hu⟩
    rintro H1 ⟨k1, us, hD, hu⟩
    rw [lv, List.take_of_length_le (Nat.le_refl _), nLt_ord] at hu
    refine ⟨D, us, rfl, .inl (sq_of hD), ?_⟩
    rw [hu]
    have n1 := (Hn.refl h0).same k1
    have hb1 := k1 _ _ hbv
    have hv1 := hv.imp fun _ _ r => r.same k1
    have ht1 := ht.same k1
    clear hD hu nD us
    obtain ⟨le, dn⟩ := nLt_down ts z
    refine ⟨by show 1 ≤ sizeLine; decide, fun e1 x1 => ?_⟩
    have A1 : upd H1 e1 (.lst [.non]) e1 = some (.lst [.non]) := upd_same
    have B1 := Same.new (o := .lst [.non]) x1 _ _ hb1
    have m1 := Same.new (o := .lst [.non]) x1
    refine ⟨.ref b, rfl, e1, b, _, _, rfl, rfl, A1, B1, by show 1 + vs.length ≤ 16777216; omega, fun e2 x2 => ?_⟩
    have m2 := m1.trans (Same.new (o := .lst ([V.non] ++ vs)) x2)
    have A2 : upd (upd H1 e1 (.lst [.non])) e2 (.lst ([V.non] ++ vs)) e2 = some (.lst ([V.non] ++ vs)) := upd_same
    revert m2 A2
    generalize upd (upd H1 e1 (.lst [.non])) e2 (.lst ([V.non] ++ vs)) = H2
    intro m2 A2
    refine ⟨by show 1 ≤ sizeLine; decide, fun e3 x3 => ?_⟩
    have A3 : upd H2 e3 (.lst [.non]) e3 = some (.lst [.non]) := upd_same
    have B3 := Same.new (o := .lst [.non]) x3 _ _ A2
    have m3 := m2.trans (Same.new (o := .lst [.non]) x3)
    refine ⟨e2, e3, _, _, rfl, rfl, B3, A3, by simp; show vs.length + 2 ≤ 16777216; omega, fun e x4 => ?_⟩
    have m4 := m3.trans (Same.new (o := .lst ([V.non] ++ vs ++ [V.non])) x4)
    have A4 : upd (upd H2 e3 (.lst [.non])) e (.lst ([V.non] ++ vs ++ [V.non])) e = some (.lst (.non :: vs ++ [.non])) := upd_same
    revert m4 A4
    generalize upd (upd H2 e3 (.lst [.non])) e (.lst ([V.non] ++ vs ++ [V.non])) = H4
    intro m4 A4
    have n4 := n1.same m4
    have he : EndsAt H4 e ts := ⟨_, A4, ends_of (hv1.imp fun _ _ r => r.same m4)⟩
    have ne : e ≠ p := fun z => by
      rw [z] at A4
      obtain ⟨cells, i, r, s, n, hp, _⟩ := n4.at_
      rw [A4] at hp
      injection hp with hp
      injection hp with hp
      have := congrArg List.head? hp
      cases this
    have hb4 := m4 _ _ hb1
    have ht4 := ht1.same m4
    clear A1 B1 m1 m2 A2 x1 x2 A3 B3 m3 x3 x4 A4 m4 n1 hb1 hv1 ht1 k1 hv
    refine ⟨.ref p, rfl, .ref b, rfl, b, vs, rfl, .inl (sq_of hb4), _, _, rfl, rfl, p, (vs.length : Int) + 1, rfl, by omega, by omega, l, n4.at_, fun u H5 u0 u1 h5 b5 => ?_⟩
    have n5 := n4.go h5 b5
    have he5 := he.but n4.at_ ne b5
    have hb5 := b5 _ _ nb hb4
    refine ⟨.ref p, rfl, .ref b, rfl, b, vs, rfl, .inl (sq_of hb5), _, _, rfl, rfl, p, (vs.length : Int) + 2, rfl, by omega, by omega, l, h5, fun u' H6 w0 w1 h6 b6 => ?_⟩
    have n6 := n5.go h6 b6
    have he6 := he5.but h5 ne b6
    clear he he5 hb4 hb5 n4 n5 b5 h5 b6 ht4
    obtain ⟨xs, hxs, px⟩ := he6
    have lx := px.len
    rw [List.length_map, List.length_range] at lx
    have ixx : ∀ i : Int, 0 ≤ i → i ≤ (nP ts : Int) + 1 → ∃ x, atI xs i = some x ∧ ∃ r, Pt H6 ts x (some r) := fun i h0 h1 => by
      obtain ⟨j, rfl⟩ : ∃ j : Nat, i = (j : Int) := ⟨i.toNat, by omega⟩
      have lj : j < xs.length := by omega
      obtain ⟨o, eo, px⟩ := px.at (List.getElem?_eq_getElem lj)
      rw [List.getElem?_map, List.getElem?_range (by omega)] at eo
      have eo := Option.some.inj eo
      rw [← eo] at px
      exact ⟨_, atI_nat (List.getElem?_eq_getElem lj), _, pt_of px⟩
    obtain ⟨xa, ea, ra, pa⟩ := ixx (nLt ts z : Int) (by omega) (by omega)
    obtain ⟨xb, eb, rb, pb⟩ := ixx ((nLt ts z : Int) + 1) (by omega) (by omega)
    obtain ⟨xo, eo, ro, po⟩ := ixx u (by omega) (by omega)
    obtain ⟨xp, ep, rp, pp⟩ := ixx (u + 1) (by omega) (by omega)
    obtain ⟨xq, eq, rq, pq⟩ := ixx u' (by omega) (by omega)
    clear ixx px lx
    have k0 := Same.refl H6
    refine ⟨.ref e, rfl, .int (nLt ts z : Int), rfl, e, xs, _, xa, rfl, rfl, sq_of hxs, ea, .ref e, rfl, .int (nLt ts z : Int), rfl, _, _, rfl, rfl, e, xs, _, xb, rfl, rfl, sq_of hxs, eb, by show 2 ≤ sizeLine; decide, fun t1 y1 => ?_⟩
    have k1 := k0.trans (Same.new (o := .tup [xa, xb]) y1)
    have T1 : upd H6 t1 (.tup [xa, xb]) t1 = some (.tup [xa, xb]) := upd_same
    revert k1 T1
    generalize upd H6 t1 (.tup [xa, xb]) = G1
    intro k1 T1
    have s1 := sq_of (K := K) (k1 _ _ hxs)
    refine ⟨.ref e, rfl, .int (nLt ts z : Int), rfl, e, xs, _, xa, rfl, rfl, s1, ea, .ref e, rfl, .int (nLt ts z : Int), rfl, _, _, rfl, rfl, e, xs, _, xb, rfl, rfl, s1, eb, by show 2 ≤ sizeLine; decide, fun t2 y2 => ?_⟩
    have j2 := Same.new (o := .lst [xa, xb]) y2
    have k2 := k1.trans j2
    have T2 : upd G1 t2 (.lst [xa, xb]) t2 = some (.lst [xa, xb]) := upd_same
    have T1 := j2 _ _ T1
    revert k2 T1 T2
    generalize upd G1 t2 (.lst [xa, xb]) = G2
    intro k2 T2 T1
    have s2 := sq_of (K := K) (k2 _ _ hxs)
    refine ⟨.ref e, rfl, .int u, rfl, e, xs, _, xo, rfl, rfl, s2, eo, .ref e, rfl, .int u, rfl, _, _, rfl, rfl, e, xs, _, xp, rfl, rfl, s2, ep, by show 2 ≤ sizeLine; decide, fun t3 y3 => ?_⟩
    refine ⟨by show 3 ≤ sizeLine; decide, fun L1 y4 => ?_⟩
    have j3 := (Same.new (o := .tup [xo, xp]) y3).trans (Same.new (o := .lst [.ref t1, .ref t2, .ref t3]) y4)
    have k3 := k2.trans j3
    have T3 := Same.new (o := .lst [.ref t1, .ref t2, .ref t3]) y4 _ _ (upd_same : upd G2 t3 (.tup [xo, xp]) t3 = some (.tup [xo, xp]))
    have F1 : upd (upd G2 t3 (.tup [xo, xp])) L1 (.lst [.ref t1, .ref t2, .ref t3]) L1 = some (.lst [.ref t1, .ref t2, .ref t3]) := upd_same
    have T1 := j3 _ _ T1
    have T2 := j3 _ _ T2
    revert k3 T1 T2 T3 F1
    generalize upd (upd G2 t3 (.tup [xo, xp])) L1 (.lst [.ref t1, .ref t2, .ref t3]) = G3
    intro k3 T3 F1 T1 T2
    have A1 : AllTh G3 ts [.ref t1, .ref t2, .ref t3] := .cons (th_two T1 (pa.same k3) (pb.same k3)) (.cons (.no (.lst T2) (fun e => by cases e)) (.one (th_two T3 (po.same k3) (pp.same k3))))
    clear T1 T2 T3 k1 k2 y1 y2 y3 y4 j2 j3 s1 s2
    have s3 := sq_of (K := K) (k3 _ _ hxs)
    refine ⟨.ref L1, rfl, ?_⟩
    refine ⟨.ref e, rfl, .int u, rfl, e, xs, _, xo, rfl, rfl, s3, eo, .ref e, rfl, .int u', rfl, e, xs, _, xq, rfl, rfl, s3, eq, by show 2 ≤ sizeLine; decide, fun t4 y4 => ?_⟩
    have j4 := Same.new (o := .tup [xo, xq]) y4
    have T4 : upd G3 t4 (.tup [xo, xq]) t4 = some (.tup [xo, xq]) := upd_same
    revert j4 T4
    generalize upd G3 t4 (.tup [xo, xq]) = G4
    intro j4 T4
    have k4 := k3.trans j4
    have s4 := sq_of (K := K) (k4 _ _ hxs)
    refine ⟨.ref e, rfl, .int (nLt ts z : Int), rfl, _, _, rfl, rfl, e, xs, _, xb, rfl, rfl, s4, eb, .ref e, rfl, .int (nLt ts z : Int), rfl, e, xs, _, xa, rfl, rfl, s4, ea, by show 2 ≤ sizeLine; decide, fun t5 y5 => ?_⟩
    have j5 := Same.new (o := .tup [xb, xa]) y5
    have T5 : upd G4 t5 (.tup [xb, xa]) t5 = some (.tup [xb, xa]) := upd_same
    revert j5 T5
    generalize upd G4 t5 (.tup [xb, xa]) = G5
    intro j5 T5
    have k5 := k4.trans j5
    have s5 := sq_of (K := K) (k5 _ _ hxs)
    refine ⟨.ref e, rfl, .int (nLt ts z : Int), rfl, e, xs, _, xa, rfl, rfl, s5, ea, by show 2 ≤ sizeLine; decide, fun t6 y6 => ?_⟩
    have j6 := Same.new (o := .tup [xa, .non]) y6
    have T6 : upd G5 t6 (.tup [xa, .non]) t6 = some (.tup [xa, .non]) := upd_same
    revert j6 T6
    generalize upd G5 t6 (.tup [xa, .non]) = G6
    intro j6 T6
    have k6 := k5.trans j6
    refine ⟨by show 2 ≤ sizeLine; decide, fun t7 y7 => ?_⟩
    have j7 := Same.new (o := .tup [.non, .non]) y7
    have T7 : upd G6 t7 (.tup [.non, .non]) t7 = some (.tup [.non, .non]) := upd_same
    revert j7 T7
    generalize upd G6 t7 (.tup [.non, .non]) = G7
    intro j7 T7
    have k7 := k6.trans j7
    have j67 := j6.trans j7
    have j57 := j5.trans j67
    have A7 : AllTh G7 ts [.ref t4, .ref t5, .ref t6, .ref t7] := .cons (th_two (j57 _ _ T4) (po.same k7) (pq.same k7)) (.cons (th_two (j67 _ _ T5) (pb.same k7) (pa.same k7)) (.cons (th_two (j7 _ _ T6) (pa.same k7) .non) (.one (th_two T7 .non .non))))
    have A17 := A1.same (j4.trans j57)
    have F17 := (j4.trans j57) _ _ F1
    clear A1 F1 T4 T5 T6 T7 s3 s4 s5 k3 k4 k5 k6 j4 j5 j6 j7 j67 j57 y4 y5 y6 y7
    refine ⟨by show 4 ≤ sizeLine; decide, fun L2 y8 => ?_⟩
    have j8 := Same.new (o := .lst [.ref t4, .ref t5, .ref t6, .ref t7]) y8
    have F2 : upd G7 L2 (.lst [.ref t4, .ref t5, .ref t6, .ref t7]) L2 = some (.lst [.ref t4, .ref t5, .ref t6, .ref t7]) := upd_same
    refine ⟨L1, L2, _, _, rfl, rfl, j8 _ _ F17, F2, by show 7 ≤ sizeLine; decide, fun L3 y9 => ?_⟩
    have j9 := j8.trans (Same.new (o := .lst ([.ref t1, .ref t2, .ref t3] ++ [.ref t4, .ref t5, .ref t6, .ref t7])) y9)
    have F3 : upd (upd G7 L2 (.lst [.ref t4, .ref t5, .ref t6, .ref t7])) L3 (.lst ([.ref t1, .ref t2, .ref t3] ++ [.ref t4, .ref t5, .ref t6, .ref t7])) L3 = some (.lst ([.ref t1, .ref t2, .ref t3] ++ [.ref t4, .ref t5, .ref t6, .ref t7])) := upd_same
    have A3 := (A17.same j9).app (A7.same j9)
    have k9 := k7.trans j9
    revert j9 F3 A3 k9
    generalize upd (upd G7 L2 (.lst [.ref t4, .ref t5, .ref t6, .ref t7])) L3 (.lst ([.ref t1, .ref t2, .ref t3] ++ [.ref t4, .ref t5, .ref t6, .ref t7])) = G9
    intro j9 F3 A3 k9
    have n9 := n6.same k9
    clear j9 A17 F17 A7 F2 y8 y9 k7 j8 pa pb po pp pq ea eb eo ep eq
    have ln7 : ([.ref t1, .ref t2, .ref t3] ++ [.ref t4, .ref t5, .ref t6, .ref t7] : List V).length = 7 := rfl
    generalize ([.ref t1, .ref t2, .ref t3] ++ [.ref t4, .ref t5, .ref t6, .ref t7] : List V) = fs at F3 A3 ln7
    refine ⟨by show 0 ≤ sizeLine; decide, fun c0 y_c0 => ?_⟩
    have j_c0 := Same.new (o := .tup []) y_c0
    have T_c0 : upd G9 c0 (.tup []) c0 = some (.tup []) := upd_same
    revert j_c0 T_c0
    generalize upd G9 c0 (.tup []) = Ga
    intro j_c0 T_c0
    refine ⟨by show 2 ≤ sizeLine; decide, fun c1 y_c1 => ?_⟩
    have j_c1 := Same.new (o := .tup [.int 0, .int 0]) y_c1
    have T_c1 : upd Ga c1 (.tup [.int 0, .int 0]) c1 = some (.tup [.int 0, .int 0]) := upd_same
    revert j_c1 T_c1
    generalize upd Ga c1 (.tup [.int 0, .int 0]) = Gb
    intro j_c1 T_c1
    refine ⟨by show 2 ≤ sizeLine; decide, fun c2 y_c2 => ?_⟩
    have j_c2 := Same.new (o := .tup [.int 0, .bl true]) y_c2
    have T_c2 : upd Gb c2 (.tup [.int 0, .bl true]) c2 = some (.tup [.int 0, .bl true]) := upd_same
    revert j_c2 T_c2
    generalize upd Gb c2 (.tup [.int 0, .bl true]) = Gc
    intro j_c2 T_c2
    refine ⟨by show 2 ≤ sizeLine; decide, fun c3 y_c3 => ?_⟩
    have j_c3 := Same.new (o := .tup [.ref c2, .non]) y_c3
    have T_c3 : upd Gc c3 (.tup [.ref c2, .non]) c3 = some (.tup [.ref c2, .non]) := upd_same
    revert j_c3 T_c3
    generalize upd Gc c3 (.tup [.ref c2, .non]) = Gd
    intro j_c3 T_c3
    refine ⟨by show 2 ≤ sizeLine; decide, fun c4 y_c4 => ?_⟩
    have j_c4 := Same.new (o := .tup [.bl true, .int 0]) y_c4
    have T_c4 : upd Gd c4 (.tup [.bl true, .int 0]) c4 = some (.tup [.bl true, .int 0]) := upd_same
    revert j_c4 T_c4
    generalize upd Gd c4 (.tup [.bl true, .int 0]) = Ge
    intro j_c4 T_c4
    refine ⟨by show 2 ≤ sizeLine; decide, fun c5 y_c5 => ?_⟩
    have j_c5 := Same.new (o := .tup [.int 0, .int 0]) y_c5
    have T_c5 : upd Ge c5 (.tup [.int 0, .int 0]) c5 = some (.tup [.int 0, .int 0]) := upd_same
    revert j_c5 T_c5
    generalize upd Ge c5 (.tup [.int 0, .int 0]) = Gf
    intro j_c5 T_c5
    refine ⟨by show 2 ≤ sizeLine; decide, fun c6 y_c6 => ?_⟩
    have j_c6 := Same.new (o := .tup [.ref c4, .ref c5]) y_c6
    have T_c6 : upd Gf c6 (.tup [.ref c4, .ref c5]) c6 = some (.tup [.ref c4, .ref c5]) := upd_same
    revert j_c6 T_c6
    generalize upd Gf c6 (.tup [.ref c4, .ref c5]) = Gg
    intro j_c6 T_c6
    have m9 : Same Ge Gg := j_c5.trans j_c6
    have m8 : Same Gc Gg := j_c3.trans (j_c4.trans m9)
    have m7 : Same Gb Gg := j_c2.trans m8
    have m6 : Same Ga Gg := j_c1.trans m7
    have m5 : Same G9 Gg := j_c0.trans m6
    have ng := n9.same m5
    obtain ⟨r5, p5⟩ := pt_00 (ts := ts) (j_c6 _ _ T_c5)
    have O1 : AllTh Gg ts [.non, .ref c0, .ref c1, .ref c3, .ref c6] := .cons (.no .non (fun e => by cases e)) (.cons (.tup (m6 _ _ T_c0) (by show 0 ≤ 3; decide) .nil) (.cons (th_two (m7 _ _ T_c1) pt_int pt_int) (.cons (th_two ((j_c4.trans m9) _ _ T_c3) (pt_0T (m8 _ _ T_c2)) .non) (.one (th_two T_c6 (pt_T0 (m9 _ _ T_c4)) p5)))))
    have F3 := m5 _ _ F3
    have A3 := A3.same m5
    clear m9 m8 m7 m6 m5 n9 p5 T_c0 T_c1 T_c2 T_c3 T_c4 T_c5 T_c6 j_c0 j_c1 j_c2 j_c3 j_c4 j_c5 j_c6 y_c0 y_c1 y_c2 y_c3 y_c4 y_c5 y_c6
    refine ⟨.ref p, rfl, p, rfl, l, ng.at_, fun dd d n Gh hd hn n' => ?_⟩
    have O1 := O1.but ng.at_ n'.at_ n'.but
    have A3 := A3.but ng.at_ n'.at_ n'.but
    have L3p : L3 ≠ p := hand_len ng.at_ F3 (by omega)
    have F3 := n'.but _ _ L3p F3
    have nh := ng.trans n'
    refine ⟨by show 2 ≤ sizeLine; decide, fun c7 y_c7 => ?_⟩
    have j_c7 := Same.new (o := .tup [.ref dd, .non]) y_c7
    have T_c7 : upd Gh c7 (.tup [.ref dd, .non]) c7 = some (.tup [.ref dd, .non]) := upd_same
    revert j_c7 T_c7
    generalize upd Gh c7 (.tup [.ref dd, .non]) = Gi
    intro j_c7 T_c7
    refine ⟨by show 2 ≤ sizeLine; decide, fun c8 y_c8 => ?_⟩
    have j_c8 := Same.new (o := .tup [.int 0, .int 0]) y_c8
    have T_c8 : upd Gi c8 (.tup [.int 0, .int 0]) c8 = some (.tup [.int 0, .int 0]) := upd_same
    revert j_c8 T_c8
    generalize upd Gi c8 (.tup [.int 0, .int 0]) = Gj
    intro j_c8 T_c8
    refine ⟨by show 2 ≤ sizeLine; decide, fun c9 y_c9 => ?_⟩
    have j_c9 := Same.new (o := .tup [.int 0, .int 0]) y_c9
    have T_c9 : upd Gj c9 (.tup [.int 0, .int 0]) c9 = some (.tup [.int 0, .int 0]) := upd_same
    revert j_c9 T_c9
    generalize upd Gj c9 (.tup [.int 0, .int 0]) = Gk
    intro j_c9 T_c9
    refine ⟨by show 3 ≤ sizeLine; decide, fun c10 y_c10 => ?_⟩
    have j_c10 := Same.new (o := .tup [.ref c8, .ref c9, .non]) y_c10
    have T_c10 : upd Gk c10 (.tup [.ref c8, .ref c9, .non]) c10 = some (.tup [.ref c8, .ref c9, .non]) := upd_same
    revert j_c10 T_c10
    generalize upd Gk c10 (.tup [.ref c8, .ref c9, .non]) = Gl
    intro j_c10 T_c10
    have m3 : Same Gi Gl := j_c8.trans (j_c9.trans j_c10)
    have m2 : Same Gh Gl := j_c7.trans m3
    obtain ⟨r8, p8⟩ := pt_00 (ts := ts) ((j_c9.trans j_c10) _ _ T_c8)
    obtain ⟨r9, p9⟩ := pt_00 (ts := ts) (j_c10 _ _ T_c9)
    have O2 : AllTh Gl ts ([.non, .ref c0, .ref c1, .ref c3, .ref c6] ++ [.ref c7, .ref c10]) := (O1.same m2).app (.cons (th_two (m3 _ _ T_c7) (pt_deep (Nd.same m2 hd) (by omega)) .non) (.one (.tup T_c10 (by show 3 ≤ 3; decide) (.cons p8 (.cons p9 (.cons .non .nil))))))
    have F3 := m2 _ _ F3
    have A3 := A3.same m2
    have nl := nh.same m2
    clear m2 m3 hd n' ng nh O1 p8 p9 T_c7 T_c8 T_c9 T_c10 j_c7 j_c8 j_c9 j_c10 y_c7 y_c8 y_c9 y_c10
    refine ⟨by show 7 ≤ sizeLine; decide, fun L4 z4 => ?_⟩
    have j4 := Same.new (o := .lst [.non, .ref c0, .ref c1, .ref c3, .ref c6, .ref c7, .ref c10]) z4
    have F4 : upd Gl L4 (.lst [.non, .ref c0, .ref c1, .ref c3, .ref c6, .ref c7, .ref c10]) L4 = some (.lst [.non, .ref c0, .ref c1, .ref c3, .ref c6, .ref c7, .ref c10]) := upd_same
    have O4 := O2.same j4
    have A4 := A3.same j4
    have F3 := j4 _ _ F3
    have nm := nl.same j4
    revert F4 O4 A4 F3 nm
    generalize upd Gl L4 (.lst [.non, .ref c0, .ref c1, .ref c3, .ref c6, .ref c7, .ref c10]) = Gm
    intro F4 O4 A4 F3 nm
    clear O2 A3 nl j4 z4
    have L4p : L4 ≠ p := hand_len nm.at_ F4 (by show 7 ≠ 5; decide)
    have O4 : AllTh Gm ts [.non, .ref c0, .ref c1, .ref c3, .ref c6, .ref c7, .ref c10] := O4
    generalize hos : ([.non, .ref c0, .ref c1, .ref c3, .ref c6, .ref c7, .ref c10] : List V) = os at F4 O4
    have lo : os.length = 7 := by rw [← hos]; rfl
    clear hos
    refine ⟨.ref L3, rfl, .ref L4, rfl, .ref p, rfl, p, 7, rfl, by decide, by decide, l, nm.at_, fun v Gn v0 v1 hn2 bn => ?_⟩
    have F3 := bn _ _ L3p F3
    have F4 := bn _ _ L4p F4
    have A4 := A4.but nm.at_ hn2 bn
    have O4 := O4.but nm.at_ hn2 bn
    have nn := nm.go hn2 bn
    obtain ⟨x, ex, mx⟩ := atI_in (xs := os) v0 (by omega)
    refine ⟨L4, os, v, x, rfl, rfl, sq_of F4, ex, by show 1 ≤ sizeLine; decide, fun L5 z5 => ?_⟩
    have j5 := Same.new (o := .lst [x]) z5
    refine ⟨L3, L5, _, _, rfl, rfl, j5 _ _ F3, upd_same, by rw [ln7]; show 8 ≤ sizeLine; decide, fun L6 z6 => ?_⟩
    have j6 := j5.trans (Same.new (o := .lst (fs ++ [x])) z6)
    refine q L6 (fs ++ [x]) _ upd_same (by rw [List.length_append, ln7]; show 8 ≤ 100; decide) ((A4.same j6).app ?_) (nn.same j6)
    obtain ⟨t, ht⟩ := O4 x mx
    exact .one (ht.same j6)
end
end LawK
set_option maxHeartbeats 4000000
/-! Objects of an own class, made where the making may raise; == by an own __eq__, with anything. -/
namespace Ev
open PySem PySem.Spec PyProof.Rows L2
section
variable {X : Cx} {CX : CXT} {k : Nat} {f C : Addr} {fd : FuncData} {ps : List Str} {sp : Sp} {x : Str} {p pos : Pos} {e : Expr} {es : List Expr} {t : TA}
theorem run_mkAt {pins : List (Addr × Obj)} {σ : L2.St} {H : Hp} {s : Shared} {Q : VK} {us : List Value} {vs : List V} {E : XK} (M : Mk X.K C f) (F : FnOk X.prog X.w X.K X.mg X.base CX k f fd ps sp) (hr : Room (k + 1) X.A) (hb : Binds X.K fd ps []) (hx : PassesAt CX X σ E) (I : Inv X pins σ H s) (r : Vals vs us)
    (h : ∀ a dx, H a = none → H dx = none → dx ≠ a → sp (.ref a :: vs) (upd (upd H dx (.own a)) a (.ins C dx [])) (fun v H2 => v = .non ∧ Q (.ref a) H2) E) :
    wpAny (model X.prog X.w) X.A (call (.ref C) us) (EP X pins σ Q) X.xe s := by
  have q := h (s.heap.objs.size + 1) s.heap.objs.size (I.hok.fresh (Nat.le_succ _)) (I.hok.fresh (Nat.le_refl _)) (Nat.ne_of_lt (Nat.lt_succ_self _))
  have J := Inv.made (C := C) I
  have rv : Vals (V.ref (s.heap.objs.size + 1) :: vs) (Value.ref (s.heap.objs.size + 1) :: us) := .cons rfl r
  have len := F.len _ _ _ _ q
  have lu : (Value.ref (s.heap.objs.size + 1) :: us ++ []).length = ps.length := by
    rw [List.append_nil, ← rv.length]
    exact len
  have bnd := hb _ (Value.ref (s.heap.objs.size + 1) :: us) J.kIn lu
  rw [List.append_nil] at bnd
  have go := F.run _ X.stack _ _ ⟨Value.ref (s.heap.objs.size + 1) :: us, []⟩ (Value.ref (s.heap.objs.size + 1) :: us) _ _ E (hr.make C us []) (J.env0.make C us []) bnd rv q
  refine wpAny_call (make_map (f := f) I.kIn M.makes M.init (beq_iff_eq.mp M.fn) (codeAny_mono go ?_))
  intro res s' got
  match res, got with
  | .error er, got => exact hx pins _ _ er s' J got
  | .ok (.ret u), got =>
    obtain ⟨v, H', I3, ru, rfl, q3⟩ := J.after got
    exact ⟨ru, ⟨V.ref (s.heap.objs.size + 1), H', I3, rfl, q3⟩⟩
  | .ok .next, got => exact got.elim
  | .ok .brk, got => exact got.elim
  | .ok .cont, got => exact got.elim
def tMkS (C : Addr) (sp : Sp) (E : L2.St → XK) (t : TA) : TE := fun σ H Q => t σ H fun vs H1 => ∀ a dx, H1 a = none → H1 dx = none → dx ≠ a →
  sp (.ref a :: vs) (upd (upd H1 dx (.own a)) a (.ins C dx [])) (fun v H2 => v = .non ∧ Q (.ref a) H2) (E σ)
theorem pe_mkS {E : L2.St → XK} (M : Mk X.K C f) (F : FnOk X.prog X.w X.K X.mg X.base CX k f fd ps sp) (hr : Room (k + 1) X.A) (hg : Gl X x) (hm : X.mg x = some (.ref C)) (hb : Binds X.K fd ps []) (hx : ∀ σ, PassesAt CX X σ (E σ)) (ha : PA X (e :: es) t)
    (hdb : (x == ("__debug__" : Str)) = false := by decide) (he : starEach (e :: es) X.env = (false, eval e X.env) :: starEach es X.env := by rfl) (hpl : (backTo pos (starEach es X.env)).any (·.1) = false := by rfl) :
    PE X (.Call (.Name x p) (e :: es) [] pos) (tMkS C sp E t) := by
  constructor
  intro pins s σ H Q I h
  refine wpAny_Call_Name_kw (ld_glob I hg hm ?_ hdb)
  refine PySem.W.callWith_K (h₀ := X.base) I.ok.mod.kin M.kp (thn (ha.run pos pins s σ H _ I h) ?_) he hpl
  rintro us s1 ⟨vs, H1, I1, r, q⟩
  exact ⟨I1.kIn, run_mkAt M F hr hb (hx σ) I1 r q⟩
theorem passL_at (σ : L2.St) : PassesAt (L2.CX X.prog X.w) X σ E0 := fun pins H s e s' I h => passL pins σ H s e s' I h
/-- x == y, x an object of the class at C -/
def rEqO (C : Addr) (K : PySem.W.Frag) (sp : Sp) (E : XK) : R2 := fun x y H Q => ∃ a dx fs t, x = .ref a ∧ H a = some (.ins C dx fs) ∧ TyX K H y t ∧ PySem.W.notFirst K C t = true ∧ sp [x, y] H (fun v H' => (∃ b, v = .bl b) ∧ Q v H') E
theorem op_eqO {E : XK} (F : FnOk X.prog X.w X.K X.mg X.base CX k f fd ps sp) (hs : PySem.W.findIn X.K (.ref C) "__eq__" = some (some (.ref f))) (hf : PySem.W.isFn X.K (.ref f) = true) (hb : Binds X.K fd ps []) (hx : Passes CX X E) (hr : Room k X.A) : OpR X (compareOp .Eq) (rEqO C X.K sp E) := by
  intro pins s σ H x y v u Q I rx ry h
  obtain ⟨a, dx, fs, t, rfl, ha, ty, nf, q⟩ := h
  cases rx
  obtain ⟨mA, J, _⟩ := ins_get I.hok ha
  obtain ⟨od, J, _⟩ := J.look
  obtain ⟨m, hF⟩ := I.fr
  obtain ⟨P, Z, hp, _⟩ := kit_of I ry ty
  show wpAny (model X.prog X.w) X.A (richCompare .Eq _ u) (EP X pins σ Q) X.xe s
  refine PySem.W.cmp_K (op := .Eq) (tb := t) hr.units0 hF I.ok.mod.kin J (Z.ty _ _ I.kIn hp) nf hs hf ?_
  have len := F.len _ _ _ _ q
  have rv : Vals [V.ref a, y] [Value.ref a, u] := .cons rfl (.cons ry .nil)
  have bnd := hb s [Value.ref a, u] I.kIn (by simpa using len)
  have go := F.run X.A X.stack s H ⟨[Value.ref a, u], []⟩ [Value.ref a, u] [V.ref a, y] _ E hr I.env0 (by simpa using bnd) rv q
  refine wpAny_call (codeAny_mono go ?_)
  intro res s' got
  match res, got with
  | .error er, got => exact hx pins σ H s er s' I got
  | .ok (.ret w), got =>
    obtain ⟨z, H', I', rz, ⟨b, rfl⟩, q'⟩ := I.after got
    cases rz
    exact ⟨.bl b, H', I', rfl, q'⟩
  | .ok .next, got => exact got.elim
  | .ok .brk, got => exact got.elim
  | .ok .cont, got => exact got.elim
end
end Ev
set_option maxHeartbeats 4000000
namespace LawK
open PySem PySem.Spec PyProof.Rows L2 Ev
theorem lib_new {H3 H4 : Hp} {C b s dx : Addr} {ts : List Str} (ht : TsAt H3 b ts) (ns : H3 s = none) (ndx : H3 dx = none) (ndxs : dx ≠ s)
    (ha : H4 s = some (.ins C dx [("texts", .ref b)])) (ho : ∀ c u, c ≠ s → upd (upd H3 dx (.own s)) s (.ins C dx []) c = some u → H4 c = some u) : Same H3 H4 ∧ LibAt H4 C s ts := by
  have ka := Same.new (o := .own s) ndx
  have ns2 : upd H3 dx (.own s) s = none := by
    rw [upd_ne (Ne.symm ndxs)]
    exact ns
  have kb := ka.trans (Same.new (o := .ins C dx []) ns2)
  have k4 : Same H3 H4 := fun c u hc => ho c u (ne_of_none (ka _ _ hc) ns2) (kb _ _ hc)
  exact ⟨k4, ⟨dx, b, ha, k4 _ _ ht.at_⟩, ht.few, ht.sg, ht.len⟩
theorem lib_in {H3 : Hp} {C b s dx : Addr} {ts : List Str} (ht : TsAt H3 b ts) (ns : H3 s = none) (ndx : H3 dx = none) (ndxs : dx ≠ s) : upd (upd H3 dx (.own s)) s (.ins C dx []) b = some (.tup (ts.map V.str)) := by
  have ka := Same.new (o := .own s) ndx
  have ns2 : upd H3 dx (.own s) s = none := by
    rw [upd_ne (Ne.symm ndxs)]
    exact ns
  exact (ka.trans (Same.new (o := .ins C dx []) ns2)) _ _ ht.at_

theorem LibAt.but {H H' : Hp} {C s p l : Addr} {ts : List Str} (h : LibAt H C s ts) (hp : HandL H p l) (b : But p H H') : LibAt H' C s ts := by
  obtain ⟨⟨dx, a, h1, h2⟩, h3, h4, h5⟩ := h
  exact ⟨⟨dx, a, b _ _ (hand_ne hp h1 fun _ _ _ _ _ z => by cases z) h1, b _ _ (tup_ne hp h2) h2⟩, h3, h4, h5⟩
structure DkG (P : Program) (w : World) (K : PySem.W.Frag) (mg : Str → Option Value) (base : Heap) (x : Str) (st : Stmt) (ps : List Str) (k : Nat) (sp : Sp) (f : Addr) (fd : FuncData) : Prop where
  F : Fun K x x st f fd
  b : Binds K fd ps []
  g : mg x = some (.ref f)
  ok : FnG P w K mg base CX0 k f fd ps sp
theorem po_is {H : Hp} {x y : V} {o : Option Pl} (h : PO H x o) (k : PO H y o) : R2 H x y := by
  cases o with
  | none =>
    have h : x = .non := h
    have k : y = .non := k
    rw [h, k]
    exact .sc .non
  | some q =>
    obtain ⟨a, rfl, e⟩ := h
    obtain ⟨b, rfl, f⟩ := k
    refine .tup e f rfl (by show 2 ≤ 5000; decide) fun i x y hx hy => ?_
    match i, hx, hy with
    | 0, hx, hy => cases hx; cases hy; exact .sc (.int _)
    | 1, hx, hy => cases hx; cases hy; exact .sc (.int _)
    | i + 2, hx, hy => cases hx
theorem pt_po {H : Hp} {ts : List Str} {v : V} {o : Option Pl} (h : Pt H ts v (some o)) : PO H v o := by
  cases h with
  | non => rfl
  | pl h i => exact h
theorem th_is {H : Hp} {ts : List Str} {v : V} {c : Addr} {x y : V} {o r : Option Pl} (h : ThG H ts v (some [some o, some r])) (hc : H c = some (.tup [x, y])) (hx : PO H x o) (hy : PO H y r) : R3 H v (.ref c) := by
  cases h with
  | @tup a xs _ e few h =>
    cases h with
    | cons h1 h2 =>
    cases h2 with
    | cons h2 h3 =>
    cases h3 with
    | nil =>
    refine .tup e hc rfl (by show 2 ≤ 5000; decide) fun i u w hu hw => ?_
    match i, hu, hw with
    | 0, hu, hw => cases hu; cases hw; exact po_is (pt_po h1) hx
    | 1, hu, hw => cases hu; cases hw; exact po_is (pt_po h2) hy
    | i + 2, hu, hw => cases hu
def spLaw (K : PySem.W.Frag) : Sp := fun vs H Q _ => ∃ (a : Addr) (ns : List Int), vs = [.ref a] ∧ SqL K H a (ns.map V.int) ∧ ∀ H', Q (.bl true) H'
abbrev sLaw : Stmt := topS 42
theorem scLaw : FnScope ["script", "hand", "texts", "library", "order", "turn", "word", "told", "is_piece", "thing", "due", "place"] ["script"] (defScope sLaw) := ⟨rfl, rfl, rfl, by decide +kernel, rfl, by decide +kernel, by decide +kernel⟩
section
variable {P : Program} {w : World} {K : PySem.W.Frag} {mg : Str → Option Value} {base : Heap}
variable {C fI : Addr} {fdI : FuncData}

theorem ok_law {f : Addr} {fd : FuncData} (F : Fun K "law" "law" sLaw f fd) {fPGap : Addr} {fdPGap : FuncData} (DPGap : Dk P w K mg base "gap" sPGap ["library", "word"] 6 (spGap C) fPGap fdPGap) {fPIsGap : Addr} {fdPIsGap : FuncData} (DPIsGap : Dk P w K mg base "is_gap" sPIsGap ["library", "word", "thing"] 7 (spIsGap C) fPIsGap fdPIsGap) {fHand : Addr} {fdHand : FuncData} (DHand : Dk P w K mg base "_law_hand" sHand ["script"] 1 (spHand K) fHand fdHand) {fDraw : Addr} {fdDraw : FuncData} (DDraw : Dk P w K mg base "_law_draw" sDraw ["hand", "many"] 1 spDraw fDraw fdDraw) {fIs : Addr} {fdIs : FuncData} (DIs : Dk P w K mg base "_law_is" sIs ["told", "due"] 4 (spIsR R3) fIs fdIs) {fTexts : Addr} {fdTexts : FuncData} (DTexts : Dk P w K mg base "_law_texts" sTexts ["hand", "most"] 5 spLTexts fTexts fdTexts) {fOrder : Addr} {fdOrder : FuncData} (DOrder : Dk P w K mg base "_law_order" sOrder ["texts"] 1 spLOrder fOrder fdOrder) {fEnding : Addr} {fdEnding : FuncData} (DEnding : Dk P w K mg base "_law_ending" sEnding ["texts", "place"] 1 spLEnding fEnding fdEnding) {fPiece : Addr} {fdPiece : FuncData} (DPiece : Dk P w K mg base "_law_piece" sPiece ["hand", "texts"] 5 spPiece fPiece fdPiece) {fIsDue : Addr} {fdIsDue : FuncData} (DIsDue : DkG P w K mg base "_law_is_due" sIsDue ["texts", "order", "word", "thing"] 3 spDue fIsDue fdIsDue) {fThings : Addr} {fdThings : FuncData} (DThings : Dk P w K mg base "_law_things" sThings ["hand", "texts", "order", "word"] 4 spThings fThings fdThings) (L : LibC K mg C fI fdI) (GI : FnOk P w K mg base (L2.CX P w) 4 fI fdI ["self", "texts"] (spLInit C))
    (T : Glob mg) : FnAt callerA P w K mg base CX0 f fd ["script"] (spLaw K) := by
  refine fun_at (k := 12) F scLaw ⟨rfl, by decide, by decide⟩ (fun vs H Q E h => ?_) (fun cdv outer s H vs Q E hr h => ?_)
  · obtain ⟨a, ns, rfl, _⟩ := h
    rfl
  · refine ⟨_, (pss_cons (ps_set (i := 1) scLaw.nd rfl (.inl rfl) (pe_call DHand.ok (hr.mono (by decide)) (by rfl) DHand.g DHand.F.kp DHand.b .nil pass0 (pa_cons (pv 0) pa_nil)))
      (pss_cons (ps_set (i := 2) scLaw.nd rfl (.inr rfl) (pe_call DTexts.ok (hr.mono (by decide)) (by rfl) DTexts.g DTexts.F.kp DTexts.b .nil pass0 (pa_cons (pv 1) (pa_cons pe_int pa_nil))))
      (pss_cons (ps_set (i := 3) scLaw.nd rfl (.inl rfl) (pe_mkS (E := fun _ => E0) L.mak GI (hr.mono (by decide)) (by rfl) L.g L.bI (fun σ => passL_at σ) (pa_cons (pv 2) pa_nil)))
      (pss_cons (ps_set (i := 4) scLaw.nd rfl (.inl rfl) (pe_call DOrder.ok (hr.mono (by decide)) (by rfl) DOrder.g DOrder.F.kp DOrder.b .nil pass0 (pa_cons (pv 2) pa_nil)))
      (pss_cons (ps_for PassesOwn.never rfl (pi_range1 (by rfl) T.range (pa_cons (pe_op op_add pe_int (pe_call DDraw.ok (hr.mono (by decide)) (by rfl) DDraw.g DDraw.F.kp DDraw.b .nil pass0 (pa_cons (pv 1) (pa_cons pe_int pa_nil)))) pa_nil)) (pg_name (i := 5) scLaw.nd rfl (.inl rfl))
      (pss_cons (ps_set (i := 6) scLaw.nd rfl (.inr rfl) (pe_call DPiece.ok (hr.mono (by decide)) (by rfl) DPiece.g DPiece.F.kp DPiece.b .nil pass0 (pa_cons (pv 1) (pa_cons (pv 2) pa_nil))))
        (pss_cons (ps_set (i := 7) scLaw.nd rfl (.inl rfl) (pe_call DPGap.ok (hr.mono (by decide)) (by rfl) DPGap.g DPGap.F.kp DPGap.b .nil pass0 (pa_cons (pv 3) (pa_cons (pv 6) pa_nil))))
        (pss_cons (ps_set (i := 8) scLaw.nd rfl (.inl rfl) (pe_cmpR op_gt (pe_callB call_len_seq (by rfl) T.len PySem.boot_len (pa_cons (pe_lc (own := [("place", 11)]) (g := gName 11) (by rfl) scLaw.nd (pi_list (pv 4)) (blkOk_by (N := ["script", "hand", "texts", "library", "order", "turn", "word", "told", "is_piece", "thing", "due", "place"]) (sc := defScope sLaw) (by decide +kernel)) (fun _ _ _ _ _ => pg_name (i := 11) scLaw.nd rfl (.inl rfl)) (fun _ _ _ _ _ => (pts_one (pt_cmpR op_eq (pe_slice sl_str (pe_call DEnding.ok (hr.mono (by decide)) (by rfl) DEnding.g DEnding.F.kp DEnding.b .nil pass0 (pa_cons (pv 2) (pa_cons (pv 11) pa_nil))) po_none (po_some (pe_callB call_lenZ (by rfl) T.len PySem.boot_len (pa_cons (pv 6) pa_nil)))) (pv 6) (nomark _)))) (fun _ _ _ _ _ => (pv 11))) pa_nil)) pe_int (nomark _)))
        (pss_cons (ps_if (PW.pt (pw_or (pt_cmpR op_ne (pv 8) (pe_cmpR op_isN (pv 7) pe_non (nomark _)) (nomark _)) (pw_or1 (PW.pt (pw_and (pt_not (pt_val (pv 8))) (pw_and1 (pt_not (pt_val (pe_callG DIsDue.ok (hr.mono (by decide)) rfl (by rfl) DIsDue.g DIsDue.F.kp DIsDue.b pass0 (pa_cons (pv 2) (pa_cons (pv 4) (pa_cons (pv 6) (pa_cons (pv 7) pa_nil)))))))))))))
        (pss_one (ps_ret pe_bl))
        pss_nil)
        (pss_one (ps_for PassesOwn.never rfl (pi_list (pe_call DThings.ok (hr.mono (by decide)) (by rfl) DThings.g DThings.F.kp DThings.b .nil pass0 (pa_cons (pv 1) (pa_cons (pv 2) (pa_cons (pv 4) (pa_cons (pv 6) pa_nil)))))) (pg_name (i := 9) scLaw.nd rfl (.inl rfl))
        (pss_cons (ps_set (i := 10) scLaw.nd rfl (.inl rfl) (pe_and (pe_callG DIsDue.ok (hr.mono (by decide)) rfl (by rfl) DIsDue.g DIsDue.F.kp DIsDue.b pass0 (pa_cons (pv 2) (pa_cons (pv 4) (pa_cons (pv 6) (pa_cons (pv 9) pa_nil))))) (pe_one (pe_not (pv 8)))))
          (pss_one (ps_if (PW.pt (pw_or (pt_not (pt_val (pe_call DIs.ok (hr.mono (by decide)) (by rfl) DIs.g DIs.F.kp DIs.b .nil pass0 (pa_cons (pe_call DPIsGap.ok (hr.mono (by decide)) (by rfl) DPIsGap.g DPIsGap.F.kp DPIsGap.b .nil pass0 (pa_cons (pv 3) (pa_cons (pv 6) (pa_cons (pv 9) pa_nil)))) (pa_cons (pv 10) pa_nil))))) (pw_or1 (PW.pt (pw_and (pt_val (pv 10)) (pw_and1 (pt_not (pt_val (pe_call DIs.ok (hr.mono (by decide)) (by rfl) DIs.g DIs.F.kp DIs.b .nil pass0 (pa_cons (pv 9) (pa_cons (pv 7) pa_nil)))))))))))
          (pss_one (ps_ret pe_bl))
          pss_nil))))))))))
      (pss_one (ps_ret pe_bl))))))), ?_⟩
    obtain ⟨a, ns, rfl, hS, q⟩ := h
    refine ⟨.ref a, rfl, a, ns, rfl, hS, fun p l H1 np nl h1 k1 => ?_⟩
    refine ⟨.ref p, rfl, p, 10, rfl, by decide, by decide, l, h1, fun ta ts H2 hta few2 sg2 len2 h2 b2 => ?_⟩
    have ht : TsAt H2 ta ts := ⟨hta, few2, sg2, fun t h => by have := len2 t h; omega⟩
    clear hta few2 sg2 len2
    refine ⟨.ref ta, rfl, fun s dx ns' ndx ndxs => ?_⟩
    refine ⟨s, dx, ta, ts, rfl, upd_same, lib_in ht ns' ndx ndxs, ht.few, ht.sg, ht.len, fun H5 ha5 ho5 => ⟨rfl, ?_⟩⟩
    obtain ⟨k5, hL⟩ := lib_new ht ns' ndx ndxs ha5 ho5
    have ht := ht.same k5
    have h5 := h2.same k5
    clear ha5 ho5 ns' ndx ndxs
    refine ⟨.ref ta, rfl, ta, ts, rfl, ht, fun b H6 k6 nb hb => ?_⟩
    have bp : b ≠ p := (h5.ne nb).1
    have ht := ht.same k6
    have hL := hL.same k6
    have h6 := h5.same k6
    clear k5 k6 nb h5 h2 b2
    have few : (ord ts).length ≤ 1600 := by
      rw [(ord_perm ts).length_eq]
      exact pl_len ht.len ht.few
    refine ⟨.ref p, rfl, p, 6, rfl, by decide, by decide, l, h6, fun v H7 w0 w1 h7 b7 => ?_⟩
    have ht := ht.but h6 b7
    have hL := hL.but h6 b7
    have hb := hb.but h6 bp b7
    clear h6 b7
    refine ⟨_, _, rfl, rfl, 1 + v, rfl, by omega, by omega, for_range (fun i σ H' => ∃ u5 u6 u7 u8 u9 u10 : Option V, σ = [some (.ref a), some (.ref p), some (.ref ta), some (.ref s), some (.ref b), u5, u6, u7, u8, u9, u10, none] ∧ HandL H' p l ∧ TsAt H' ta ts ∧ LibAt H' C s ts ∧ PsL H' b (ord ts)) ⟨_, _, _, _, _, _, rfl, h7, ht, hL, hb⟩ ?_ ?_⟩
    · clear h7 ht hL hb
      rintro i σ H7 hi ⟨u5, u6, u7, u8, u9, u10, rfl, h7, ht, hL, hb⟩
      refine ⟨.ref p, rfl, .ref ta, rfl, p, ta, ts, rfl, ht, l, h7, fun z H8 wz h8 b8 => ?_⟩
      have ht := ht.but h7 b8
      have hL := hL.but h7 b8
      have hb := hb.but h7 bp b8
      clear h7 b8
      dsimp only [tSeq, tAsg, gName]
      refine (?_ : ∀ Q : V → Hp → Prop, (∀ r H', Same H8 H' → (0 < nBeg ts z ∧ r = .non ∨ nBeg ts z = 0 ∧ ∃ b x y, r = .ref b ∧ H' b = some (.tup [x, y]) ∧ PO H' x (eO ts (nLt ts z)) ∧ PO H' y (eO ts (nLt ts z + 1))) → Q r H') → tCall (spGap C) _ _ _ _ H8 Q) _ fun r H9 k9 hr9 => ?_
      · intro Q hQ
        exact ⟨.ref s, rfl, .str z, rfl, s, z, ts, rfl, hL, wz, fun g H' k => hQ _ H' k (.inl ⟨g, rfl⟩), fun g b x y H' hb hx hy k => hQ _ H' k (.inr ⟨g, b, x, y, rfl, hb, hx, hy⟩)⟩
      have ht := ht.same k9
      have hL := hL.same k9
      have hb := hb.same k9
      have h9 := h8.same k9
      clear h8 k9
      obtain ⟨vs, hbv, hv⟩ := id hb
      refine ⟨.ref b, rfl, b, rfl, ⟨_, sq_of hbv⟩, fun D nD => lc_list (K := K) (xs := vs) (fun i H' => Same H9 H' ∧ ∃ us, H' D = some (.lst us) ∧ us.length = (((ord ts).take i).filter (beg ts z)).length) ⟨Same.new nD, [], upd_same, rfl⟩ (fun i H' _ w => sq_of (w.1 _ _ hbv)) ?_ ?_⟩
      · rintro i x H2 hx ⟨k2, us, hD, hu⟩
        obtain ⟨p, ep, rp⟩ := hv.at hx
        have ip := ord_mem.mp (List.mem_of_getElem? ep)
        have ls := sfx_len2 ht.len p
        refine ⟨rfl, .ref ta, rfl, x, rfl, ta, ts, x, p, rfl, ht.same k2, rp.same k2, ip, .str z, rfl, z, rfl, len5 wz.few, _, rfl, _, rfl, len5 (by omega), .str z, rfl, rfl, _, rfl, ?_⟩
        rw [cut_beg, filt_snoc (beg ts z) ep]
        refine ite2 (fun c => ?_) (fun c => ?_)
        · have c : beg ts z p = true := c
          rw [if_pos c]
          refine ⟨x, rfl, us, hD, ?_, sameAt k2 nD, us ++ [x], upd_same, by rw [List.length_append, List.length_append, hu]; rfl⟩
          have z2 := List.length_filter_le (beg ts z) ((ord ts).take i)
          rw [List.length_take] at z2
          have h3 : sizeLine = 16777216 := sizeLine_eq
          omega
        · have c : ¬ beg ts z p = true := c
          rw [if_neg c, List.append_nil]
          exact ⟨k2, us, hD, hu⟩
      rintro H10 ⟨k10, us, hD, hu⟩
      rw [hv.len, List.take_of_length_le (Nat.le_refl _), show ((ord ts).filter (beg ts z)).length = nBeg ts z from ((ord_perm ts).filter _).length_eq] at hu
      refine ⟨D, us, rfl, .inl (sq_of hD), _, _, rfl, rfl, ?_⟩
      rw [hu]
      have ht := ht.same k10
      have hL := hL.same k10
      have hb := hb.same k10
      have h10 := h9.same k10
      have hr10 : (0 < nBeg ts z ∧ r = .non ∨ nBeg ts z = 0 ∧ ∃ b x y, r = .ref b ∧ H10 b = some (.tup [x, y]) ∧ PO H10 x (eO ts (nLt ts z)) ∧ PO H10 y (eO ts (nLt ts z + 1))) := by
        rcases hr9 with g | ⟨g, c, x, y, e, hc, hx, hy⟩
        · exact .inl g
        · exact .inr ⟨g, c, x, y, e, k10 _ _ hc, hx.same k10, hy.same k10⟩
      clear hr9 k10 hD hu us h9 hbv hv nD
      dsimp only [tSeq, tAsg, gName]
      have eP : decide ((0 : Int) < ((nBeg ts z : Nat) : Int)) = decide (0 < nBeg ts z) := decide_eq_decide.mpr (by omega)
      refine (?_ : ∀ Q : Bool → Hp → Prop, (∀ H', Same H10 H' → Q false H') → tOr _ _ _ H10 Q) _ ?_
      · intro Q hQ
        rw [eP]
        rcases hr10 with ⟨g, rfl⟩ | ⟨g, c, x, y, rfl, hc, hx, hy⟩
        · rw [decide_eq_true g]
          refine ⟨_, rfl, .non, rfl, rfl, rfl, _, rfl, iteF ?_⟩
          exact ⟨_, rfl, _, rfl, iteF (hQ H10 (Same.refl _))⟩
        · rw [decide_eq_false (show ¬ 0 < nBeg ts z by omega)]
          refine ⟨_, rfl, .ref c, rfl, rfl, rfl, _, rfl, iteF ?_⟩
          refine ⟨_, rfl, _, rfl, iteT ?_⟩
          refine ⟨.ref ta, rfl, .ref b, rfl, .str z, rfl, .ref c, rfl, ta, b, ts, z, .ref c, _, rfl, ht, hb, wz, th_two hc (pt_of hx) (pt_of hy), fun bl H' k hbl => ?_⟩
          have e : bl = true := by
            rw [hbl g]
            unfold gapB
            rw [decide_eq_true g, decide_eq_true rfl]
            rfl
          rw [e]
          exact ⟨_, rfl, hQ H' k⟩
      intro H11 k11
      refine iteF ?_
      dsimp only [tNext, tDrop]
      have ht := ht.same k11
      have hL := hL.same k11
      have hb := hb.same k11
      have h11 := h10.same k11
      have hr11 : (0 < nBeg ts z ∧ r = .non ∨ nBeg ts z = 0 ∧ ∃ b x y, r = .ref b ∧ H11 b = some (.tup [x, y]) ∧ PO H11 x (eO ts (nLt ts z)) ∧ PO H11 y (eO ts (nLt ts z + 1))) := by
        rcases hr10 with g | ⟨g, c, x, y, e, hc, hx, hy⟩
        · exact .inl g
        · exact .inr ⟨g, c, x, y, e, k11 _ _ hc, hx.same k11, hy.same k11⟩
      clear hr10 k11 h10
      refine ⟨.ref p, rfl, .ref ta, rfl, .ref b, rfl, .str z, rfl, p, ta, b, ts, z, rfl, ht, hb, bp, l, h11, fun D us H12 hD lus hA nn => ?_⟩
      have ht := ht.but h11 nn.but
      have hL := hL.but h11 nn.but
      have hb := hb.but h11 bp nn.but
      have hr12 : (0 < nBeg ts z ∧ r = .non ∨ nBeg ts z = 0 ∧ ∃ b x y, r = .ref b ∧ H12 b = some (.tup [x, y]) ∧ PO H12 x (eO ts (nLt ts z)) ∧ PO H12 y (eO ts (nLt ts z + 1))) := by
        rcases hr11 with g | ⟨g, c, x, y, e, hc, hx, hy⟩
        · exact .inl g
        · exact .inr ⟨g, c, x, y, e, nn.but _ _ (tup_ne h11 hc) hc, hx.but h11 nn.but, hy.but h11 nn.but⟩
      have h12 := nn.at_
      clear hr11 h11 nn
      refine ⟨D, rfl, ⟨_, sq_of hD⟩, for_list (K := K) (xs := us) (fun j σ H' => ∃ u9 u10 : Option V, σ = [some (.ref a), some (.ref p), some (.ref ta), some (.ref s), some (.ref b), some (.int (0 + (i : Int))), some (.str z), some r, some (.bl (decide (0 < nBeg ts z))), u9, u10, none] ∧ Same H12 H') ⟨_, _, by rw [← eP]; rfl, Same.refl _⟩ (fun j σ H' _ ⟨_, _, _, w⟩ => sq_of (w _ _ hD)) ?_ ?_⟩
      · rintro j v σ H13 hj ⟨u9, u10, rfl, k13⟩
        obtain ⟨t, hT⟩ := hA v (List.mem_of_getElem? hj)
        have hT := hT.same k13
        refine ⟨.ref ta, rfl, .ref b, rfl, .str z, rfl, v, rfl, ta, b, ts, z, v, t, rfl, ht.same k13, hb.same k13, wz, hT, fun bl H14 k14 hbl => ?_⟩
        have hdu : (bl && !(decide (0 < nBeg ts z))) = gapB ts z t := by
          by_cases g : nBeg ts z = 0
          · rw [hbl g, decide_eq_false (show ¬ 0 < nBeg ts z by omega)]
            exact Bool.and_true _
          · unfold gapB
            rw [decide_eq_false g, decide_eq_true (show 0 < nBeg ts z by omega)]
            cases bl <;> rfl
        have hT := hT.same k14
        have k14 := k13.trans k14
        refine (?_ : ∀ Q : VK, Q (.bl (gapB ts z t)) H14 → (∃ c, V.bl bl = .bl c ∧ if c = true then tNotV (tVar 8) _ H14 Q else Q (.bl false) H14)) _ ?_
        · intro Q hQ
          refine ⟨bl, rfl, ?_⟩
          rw [← hdu] at hQ
          cases bl with
          | true => exact iteT ⟨_, rfl, _, rfl, hQ⟩
          | false => exact iteF hQ
        dsimp only [tSeq, tAsg, gName]
        refine (?_ : ∀ Q : Bool → Hp → Prop, (∀ H', Same H14 H' → Q false H') → tOr _ _ _ H14 Q) _ ?_
        · intro Q hQ
          refine ⟨.ref s, rfl, .str z, rfl, v, rfl, s, z, ts, v, t, rfl, hL.same k14, wz, hT, fun H15 k15 => ?_⟩
          refine ⟨_, rfl, _, _, rfl, .bl _, fun H16 k16 => ⟨_, rfl, iteF ?_⟩⟩
          refine ⟨_, rfl, _, rfl, ?_⟩
          cases eg : gapB ts z t with
          | false => exact iteF (hQ H16 (k15.trans k16))
          | true =>
            unfold gapB at eg
            obtain ⟨e1, e2⟩ := Bool.and_eq_true_iff.mp eg
            have e1 := of_decide_eq_true e1
            have e2 := of_decide_eq_true e2
            rcases hr12 with ⟨g, _⟩ | ⟨g, c, x, y, rfl, hc, hx, hy⟩
            · omega
            · have kk := k14.trans (k15.trans k16)
              rw [e2] at hT
              exact iteT ⟨v, rfl, .ref c, rfl, _, _, rfl, th_is (hT.same (k15.trans k16)) (kk _ _ hc) (hx.same kk) (hy.same kk), fun H17 k17 => ⟨_, rfl, hQ H17 ((k15.trans k16).trans k17)⟩⟩
        intro H15 k15
        exact iteF ⟨_, _, rfl, k14.trans k15⟩
      · rintro σ H13 ⟨u9, u10, rfl, k13⟩
        exact ⟨_, _, _, _, _, _, rfl, h12.same k13, ht.same k13, hL.same k13, hb.same k13⟩
    rintro σ H7 ⟨u5, u6, u7, u8, u9, u10, rfl, _⟩
    exact q H7
end
end LawK
set_option maxHeartbeats 8000000
namespace LawK
open PySem PySem.Spec PyProof.Rows L2 Ev
structure Df (K : PySem.W.Frag) (mg : Str → Option Value) (x : Str) (st : Stmt) (ps : List Str) (f : Addr) (fd : FuncData) : Prop where
  F : Fun K x x st f fd
  b : Binds K fd ps []
  g : mg x = some (.ref f)
section
variable {P : Program} {w : World} {K : PySem.W.Frag} {mg : Str → Option Value} {h : Heap} {x : Str}
theorem df_mk {st : Stmt} {ps : List Str} {oc kV dc pm cd ct : Value} {od an : Option Addr} {sl : Array (Option Value)} {fa : Addr} (X : K.In h) (G : h.Ns mainGlobals mg)
    (hb : ∀ (kV doc pm : Value) (an : Option Addr) (cdv ct : Value) (us : List Value), us.length = ps.length → bindArgs (PySem.W.fnOf x x (defArgs st) (defBody st) (defScope st) .none kV doc pm an cdv ct) ⟨us, []⟩ = pure (ps.zip us))
    (a : PySem.W.nsIn K mainGlobals x = some (some (.ref fa))) (l : K.lookup fa = some ⟨oc, od, .func (PySem.W.fnOf x x (defArgs st) (defBody st) (defScope st) .none kV dc pm an cd ct), sl⟩)
    (ck : (PySem.W.codeIn K cd x && PySem.W.keepIn K (.ref fa)) = true) : ∃ fd, Df K mg x st ps fa fd := by
  obtain ⟨c1, c2⟩ := Bool.and_eq_true_iff.mp ck
  have F1 := fun_mk (st := st) l c1 c2
  exact ⟨_, F1, F1.binds (ps := ps) hb, PySem.W.mg_of X G a⟩
end
def chkL (K : PySem.W.Frag) (C fI : Addr) : Bool := PySem.W.makesIn K C && (PySem.W.isFn K (.ref fI) && (PySem.W.keepIn K (.ref C) && (PySem.W.plainGet K C Str.empty && (PySem.W.hasDictIn K C && (PySem.W.plainOver K C &&
  (decide (PySem.W.findIn K (.ref C) "__setattr__" = some (some (.builtin "object.__setattr__"))) && decide (PySem.W.findIn K (.ref C) "texts" = some none)))))))
theorem lib_mk {K : PySem.W.Frag} {mg : Str → Option Value} {h : Heap} {oc1 kV1 dc1 pm1 cd1 ct1 : Value} {od1 an1 : Option Addr} {sl1 : Array (Option Value)} {C fI : Addr} (X : K.In h) (G : h.Ns mainGlobals mg)
    (aC : PySem.W.nsIn K mainGlobals "Library" = some (some (.ref C))) (iC : PySem.W.findIn K (.ref C) "__init__" = some (some (.ref fI)))
    (lI : K.lookup fI = some ⟨oc1, od1, .func (PySem.W.fnOf "__init__" "Library.__init__" (defArgs sLInit) (defBody sLInit) (defScope sLInit) .none kV1 dc1 pm1 an1 cd1 ct1), sl1⟩)
    (c1 : (PySem.W.codeIn K cd1 "Library.__init__" && PySem.W.keepIn K (.ref fI)) = true) (ck : chkL K C fI = true) : ∃ fI fdI, LibC K mg C fI fdI := by
  obtain ⟨i1, i2⟩ := Bool.and_eq_true_iff.mp c1
  have FI := fun_mk (st := sLInit) lI i1 i2
  obtain ⟨h1, ck⟩ := Bool.and_eq_true_iff.mp ck
  obtain ⟨h2, ck⟩ := Bool.and_eq_true_iff.mp ck
  obtain ⟨h3, ck⟩ := Bool.and_eq_true_iff.mp ck
  obtain ⟨h4, ck⟩ := Bool.and_eq_true_iff.mp ck
  obtain ⟨h5, ck⟩ := Bool.and_eq_true_iff.mp ck
  obtain ⟨h6, ck⟩ := Bool.and_eq_true_iff.mp ck
  obtain ⟨h7, h8⟩ := Bool.and_eq_true_iff.mp ck
  have h8' := of_decide_eq_true h8
  exact ⟨_, _, ⟨h1, iC, h2, h3⟩, ⟨h4, h5, h6, of_decide_eq_true h7⟩, h8',
    FI, FI.binds (ps := ["self", "texts"]) (fun _ _ _ _ _ _ us hl => match us, hl with | [_, _], _ => rfl), PySem.W.mg_of X G aC⟩
theorem end_mk {P : Program} {w : World} {K : PySem.W.Frag} {mg : Str → Option Value} {h : Heap} {fa f  C  fPNumber fPSigns fPWord fPPlace fPAllPlaces fPInOrder fPEndings fPEnding fPPlaces fPCount fPSpan fPGap fPIsGap fHand fDraw fIs fDeep fAnySign fSign fText fTexts fWord fOrder fEnding fPlaces fPiece fBeside fIsDue fThings : Addr} {oc kV dc pm cd ct : Value} {od an : Option Addr} {sl : Array (Option Value)} (X : K.In h) (G : h.Ns mainGlobals mg) (hfa : mg "law" = some (.ref fa))
    (aL : PySem.W.nsIn K mainGlobals "law" = some (some (.ref f))) (lL : K.lookup f = some ⟨oc, od, .func (PySem.W.fnOf "law" "law" (defArgs sLaw) (defBody sLaw) (defScope sLaw) .none kV dc pm an cd ct), sl⟩) (ck : (PySem.W.codeIn K cd "law" && PySem.W.keepIn K (.ref f)) = true)
    {tMOST_TEXTS : Tok} (aMOST_TEXTS : PySem.W.nsIn K mainGlobals "MOST_TEXTS" = some (some (.int 8 tMOST_TEXTS)))
    {tMOST_SIGNS : Tok} (aMOST_SIGNS : PySem.W.nsIn K mainGlobals "MOST_SIGNS" = some (some (.int 2000 tMOST_SIGNS)))
    (DPNumber : ∃ fd, Df K mg "is_number" sPNumber ["thing"] fPNumber fd)
    (DPSigns : ∃ fd, Df K mg "is_signs" sPSigns ["thing"] fPSigns fd)
    (DPWord : ∃ fd, Df K mg "is_word" sPWord ["thing"] fPWord fd)
    (DPPlace : ∃ fd, Df K mg "is_place" sPPlace ["library", "thing"] fPPlace fd)
    (DPAllPlaces : ∃ fd, Df K mg "all_places" sPAllPlaces ["library"] fPAllPlaces fd)
    (DPInOrder : ∃ fd, Df K mg "in_order" sPInOrder ["library", "found"] fPInOrder fd)
    (DPEndings : ∃ fd, Df K mg "endings" sPEndings ["library"] fPEndings fd)
    (DPEnding : ∃ fd, Df K mg "ending" sPEnding ["library", "place"] fPEnding fd)
    (DPPlaces : ∃ fd, Df K mg "places" sPPlaces ["library", "word"] fPPlaces fd)
    (DPCount : ∃ fd, Df K mg "count" sPCount ["library", "word"] fPCount fd)
    (DPSpan : ∃ fd, Df K mg "span" sPSpan ["library", "word"] fPSpan fd)
    (DPGap : ∃ fd, Df K mg "gap" sPGap ["library", "word"] fPGap fd)
    (DPIsGap : ∃ fd, Df K mg "is_gap" sPIsGap ["library", "word", "thing"] fPIsGap fd)
    (DHand : ∃ fd, Df K mg "_law_hand" sHand ["script"] fHand fd)
    (DDraw : ∃ fd, Df K mg "_law_draw" sDraw ["hand", "many"] fDraw fd)
    (DIs : ∃ fd, Df K mg "_law_is" sIs ["told", "due"] fIs fd)
    (DDeep : ∃ fd, Df K mg "_law_deep" sDeep ["hand"] fDeep fd)
    (DAnySign : ∃ fd, Df K mg "_law_any_sign" sAnySign ["hand"] fAnySign fd)
    (DSign : ∃ fd, Df K mg "_law_sign" sSign ["hand", "kind"] fSign fd)
    (DText : ∃ fd, Df K mg "_law_text" sText ["hand", "most"] fText fd)
    (DTexts : ∃ fd, Df K mg "_law_texts" sTexts ["hand", "most"] fTexts fd)
    (DWord : ∃ fd, Df K mg "_law_word" sWord ["hand", "most"] fWord fd)
    (DOrder : ∃ fd, Df K mg "_law_order" sOrder ["texts"] fOrder fd)
    (DEnding : ∃ fd, Df K mg "_law_ending" sEnding ["texts", "place"] fEnding fd)
    (DPlaces : ∃ fd, Df K mg "_law_places" sPlaces ["texts"] fPlaces fd)
    (DPiece : ∃ fd, Df K mg "_law_piece" sPiece ["hand", "texts"] fPiece fd)
    (DBeside : ∃ fd, Df K mg "_law_beside" sBeside ["order", "one", "other"] fBeside fd)
    (DIsDue : ∃ fd, Df K mg "_law_is_due" sIsDue ["texts", "order", "word", "thing"] fIsDue fd)
    (DThings : ∃ fd, Df K mg "_law_things" sThings ["hand", "texts", "order", "word"] fThings fd)
     (LL : ∃ fI fdI, LibC K mg C fI fdI) (T : Glob mg) :
    ∃ fd : FuncData, (∀ (s : Shared) (u : Value), BindsTo s fd ⟨[u], []⟩ [("script", u)]) ∧ ∀ base : Heap, K.In base → base.Ns mainGlobals mg → FnAt callerA P w K mg base CX0 fa fd ["script"] (spLaw K) := by
  have e := hfa.symm.trans (PySem.W.mg_of X G aL)
  cases e
  obtain ⟨fI, fdI, L⟩ := LL
  obtain ⟨fdPNumber, DPNumber⟩ := DPNumber
  obtain ⟨fdPSigns, DPSigns⟩ := DPSigns
  obtain ⟨fdPWord, DPWord⟩ := DPWord
  obtain ⟨fdPPlace, DPPlace⟩ := DPPlace
  obtain ⟨fdPAllPlaces, DPAllPlaces⟩ := DPAllPlaces
  obtain ⟨fdPInOrder, DPInOrder⟩ := DPInOrder
  obtain ⟨fdPEndings, DPEndings⟩ := DPEndings
  obtain ⟨fdPEnding, DPEnding⟩ := DPEnding
  obtain ⟨fdPPlaces, DPPlaces⟩ := DPPlaces
  obtain ⟨fdPCount, DPCount⟩ := DPCount
  obtain ⟨fdPSpan, DPSpan⟩ := DPSpan
  obtain ⟨fdPGap, DPGap⟩ := DPGap
  obtain ⟨fdPIsGap, DPIsGap⟩ := DPIsGap
  obtain ⟨fdHand, DHand⟩ := DHand
  obtain ⟨fdDraw, DDraw⟩ := DDraw
  obtain ⟨fdIs, DIs⟩ := DIs
  obtain ⟨fdDeep, DDeep⟩ := DDeep
  obtain ⟨fdAnySign, DAnySign⟩ := DAnySign
  obtain ⟨fdSign, DSign⟩ := DSign
  obtain ⟨fdText, DText⟩ := DText
  obtain ⟨fdTexts, DTexts⟩ := DTexts
  obtain ⟨fdWord, DWord⟩ := DWord
  obtain ⟨fdOrder, DOrder⟩ := DOrder
  obtain ⟨fdEnding, DEnding⟩ := DEnding
  obtain ⟨fdPlaces, DPlaces⟩ := DPlaces
  obtain ⟨fdPiece, DPiece⟩ := DPiece
  obtain ⟨fdBeside, DBeside⟩ := DBeside
  obtain ⟨fdIsDue, DIsDue⟩ := DIsDue
  obtain ⟨fdThings, DThings⟩ := DThings
  obtain ⟨c1, c2⟩ := Bool.and_eq_true_iff.mp ck
  have F1 := fun_mk (st := sLaw) lL c1 c2
  refine ⟨PySem.W.fnOf "law" "law" (defArgs sLaw) (defBody sLaw) (defScope sLaw) .none kV dc pm an cd ct, fun s u => .of_eq rfl, fun base _ _ => ?_⟩
  have TPSigns : Dk P w K mg base "is_signs" sPSigns ["thing"] 1 spSg fPSigns fdPSigns := ⟨DPSigns.F, DPSigns.b, DPSigns.g, ok_PSigns (DPSigns.F) (T)⟩
  have GI : FnOk P w K mg base (L2.CX P w) 4 fI fdI ["self", "texts"] (spLInit C) := ok_LInit L (PySem.W.mg_of X G aMOST_TEXTS) (PySem.W.mg_of X G aMOST_SIGNS) TPSigns T
  have TPAllPlaces : Dk P w K mg base "all_places" sPAllPlaces ["library"] 1 (spAllPlaces C) fPAllPlaces fdPAllPlaces := ⟨DPAllPlaces.F, DPAllPlaces.b, DPAllPlaces.g, ok_PAllPlaces (DPAllPlaces.F) (L) (T)⟩
  have TPInOrder : Dk P w K mg base "in_order" sPInOrder ["library", "found"] 1 (spInOrder C) fPInOrder fdPInOrder := ⟨DPInOrder.F, DPInOrder.b, DPInOrder.g, ok_PInOrder (DPInOrder.F) (L) (T)⟩
  have TPEndings : Dk P w K mg base "endings" sPEndings ["library"] 2 (spEndings C) fPEndings fdPEndings := ⟨DPEndings.F, DPEndings.b, DPEndings.g, ok_PEndings (DPEndings.F) (TPAllPlaces) (TPInOrder) (T)⟩
  have TPNumber : Dk P w K mg base "is_number" sPNumber ["thing"] 1 spNum fPNumber fdPNumber := ⟨DPNumber.F, DPNumber.b, DPNumber.g, ok_PNumber (DPNumber.F) (T)⟩
  have TPPlace : Dk P w K mg base "is_place" sPPlace ["library", "thing"] 2 (spPPlace C) fPPlace fdPPlace := ⟨DPPlace.F, DPPlace.b, DPPlace.g, ok_PPlace (DPPlace.F) (L) (TPNumber) (T)⟩
  have TPPlaceG : Dk P w K mg base "is_place" sPPlace ["library", "thing"] 2 (spPPlaceG C) fPPlace fdPPlace := ⟨DPPlace.F, DPPlace.b, DPPlace.g, okg_PPlace (DPPlace.F) (TPNumber) (L) (T)⟩
  have TPEnding : Dk P w K mg base "ending" sPEnding ["library", "place"] 3 (spEnding C) fPEnding fdPEnding := ⟨DPEnding.F, DPEnding.b, DPEnding.g, ok_PEnding (DPEnding.F) (L) (TPPlace) (T)⟩
  have TPWord : Dk P w K mg base "is_word" sPWord ["thing"] 2 spWd fPWord fdPWord := ⟨DPWord.F, DPWord.b, DPWord.g, ok_PWord (DPWord.F) (TPSigns) (T)⟩
  have TPPlaces : Dk P w K mg base "places" sPPlaces ["library", "word"] 3 (spPlaces C) fPPlaces fdPPlaces := ⟨DPPlaces.F, DPPlaces.b, DPPlaces.g, ok_PPlaces (DPPlaces.F) (L) (TPAllPlaces) (TPWord) (T)⟩
  have TPCount : Dk P w K mg base "count" sPCount ["library", "word"] 4 (spCount C) fPCount fdPCount := ⟨DPCount.F, DPCount.b, DPCount.g, ok_PCount (DPCount.F) (TPPlaces) (T)⟩
  have TPSpan : Dk P w K mg base "span" sPSpan ["library", "word"] 5 (spSpan C) fPSpan fdPSpan := ⟨DPSpan.F, DPSpan.b, DPSpan.g, ok_PSpan (DPSpan.F) (TPAllPlaces) (TPEnding) (TPCount) (T)⟩
  have TPGap : Dk P w K mg base "gap" sPGap ["library", "word"] 6 (spGap C) fPGap fdPGap := ⟨DPGap.F, DPGap.b, DPGap.g, ok_PGap (DPGap.F) (TPEndings) (TPSpan) (T)⟩
  have TPIsGap : Dk P w K mg base "is_gap" sPIsGap ["library", "word", "thing"] 7 (spIsGap C) fPIsGap fdPIsGap := ⟨DPIsGap.F, DPIsGap.b, DPIsGap.g, ok_PIsGap (DPIsGap.F) (TPPlaceG) (TPGap) (T)⟩
  have THand : Dk P w K mg base "_law_hand" sHand ["script"] 1 (spHand K) fHand fdHand := ⟨DHand.F, DHand.b, DHand.g, ok_Hand (DHand.F) (T)⟩
  have TDraw : Dk P w K mg base "_law_draw" sDraw ["hand", "many"] 1 spDraw fDraw fdDraw := ⟨DDraw.F, DDraw.b, DDraw.g, ok_Draw (DDraw.F) (T)⟩
  have S0 : FnOk P w K mg base CX0 1 fIs fdIs ["told", "due"] (spIsR R0) := ⟨fun vs H Q E z => z.elim fun _ z => z.elim fun _ z => z.2.1.elim, fun A outer s H args us vs Q E _ _ _ _ z => z.elim fun _ z => z.elim fun _ z => z.2.1.elim⟩
  have S1 := ok_is_step R0.mono DIs.F DIs.b DIs.g S0 T
  have S2 := ok_is_step R1.mono DIs.F DIs.b DIs.g S1 T
  have S3 := ok_is_step R2.mono DIs.F DIs.b DIs.g S2 T
  have TIs : Dk P w K mg base "_law_is" sIs ["told", "due"] 4 (spIsR R3) fIs fdIs := ⟨DIs.F, DIs.b, DIs.g, S3⟩
  have TAnySign : Dk P w K mg base "_law_any_sign" sAnySign ["hand"] 2 spAnySign fAnySign fdAnySign := ⟨DAnySign.F, DAnySign.b, DAnySign.g, ok_AnySign (DAnySign.F) (TDraw) (T)⟩
  have TSign : Dk P w K mg base "_law_sign" sSign ["hand", "kind"] 3 spSign fSign fdSign := ⟨DSign.F, DSign.b, DSign.g, ok_Sign (DSign.F) (TDraw) (TAnySign) (T)⟩
  have TText : Dk P w K mg base "_law_text" sText ["hand", "most"] 4 spLText fText fdText := ⟨DText.F, DText.b, DText.g, ok_Text (DText.F) (TDraw) (TSign) (T)⟩
  have TTexts : Dk P w K mg base "_law_texts" sTexts ["hand", "most"] 5 spLTexts fTexts fdTexts := ⟨DTexts.F, DTexts.b, DTexts.g, ok_Texts (DTexts.F) (TDraw) (TText) (T)⟩
  have TOrder : Dk P w K mg base "_law_order" sOrder ["texts"] 1 spLOrder fOrder fdOrder := ⟨DOrder.F, DOrder.b, DOrder.g, ok_Order (DOrder.F) (T)⟩
  have TEnding : Dk P w K mg base "_law_ending" sEnding ["texts", "place"] 1 spLEnding fEnding fdEnding := ⟨DEnding.F, DEnding.b, DEnding.g, ok_Ending (DEnding.F) (T)⟩
  have TWord : Dk P w K mg base "_law_word" sWord ["hand", "most"] 4 spLWord fWord fdWord := ⟨DWord.F, DWord.b, DWord.g, ok_Word (DWord.F) (TDraw) (TSign) (T)⟩
  have TPlaces : Dk P w K mg base "_law_places" sPlaces ["texts"] 1 spLPlaces fPlaces fdPlaces := ⟨DPlaces.F, DPlaces.b, DPlaces.g, ok_Places (DPlaces.F) (T)⟩
  have TPiece : Dk P w K mg base "_law_piece" sPiece ["hand", "texts"] 5 spPiece fPiece fdPiece := ⟨DPiece.F, DPiece.b, DPiece.g, ok_Piece (DPiece.F) (TDraw) (TSign) (TWord) (TPlaces) (T)⟩
  have TBeside : Dk P w K mg base "_law_beside" sBeside ["order", "one", "other"] 1 spBeside fBeside fdBeside := ⟨DBeside.F, DBeside.b, DBeside.g, ok_Beside (DBeside.F) (T)⟩
  have TIsDue : DkG P w K mg base "_law_is_due" sIsDue ["texts", "order", "word", "thing"] 3 spDue fIsDue fdIsDue := ⟨DIsDue.F, DIsDue.b, DIsDue.g, ok_IsDue (DIsDue.F) (TEnding) (TBeside) (T)⟩
  have TDeep : Dk P w K mg base "_law_deep" sDeep ["hand"] 2 spLDeep fDeep fdDeep := ⟨DDeep.F, DDeep.b, DDeep.g, ok_Deep (DDeep.F) (TDraw) (T)⟩
  have TThings : Dk P w K mg base "_law_things" sThings ["hand", "texts", "order", "word"] 4 spThings fThings fdThings := ⟨DThings.F, DThings.b, DThings.g, ok_Things (DThings.F) (TDraw) (TDeep) (TEnding) (T)⟩
  exact ok_law F1 (DPGap := TPGap) (DPIsGap := TPIsGap) (DHand := THand) (DDraw := TDraw) (DIs := TIs) (DTexts := TTexts) (DOrder := TOrder) (DEnding := TEnding) (DPiece := TPiece) (DIsDue := TIsDue) (DThings := TThings) (L := L) (GI := GI) (T := T)
end LawK
open PySem PySem.W PyProof.Rows L2
set_option maxRecDepth 100000 in
set_option maxHeartbeats 0 in
theorem PySem.Challenge.cw_everypiece_k19_whole_gaps_of_words_holds : PySem.Challenge.rw_everypiece_k19_whole_gaps_of_words.Holds := by
  w_on; o_law; k_head; (case hw => w_witness2)
  k_fill
  refine Ev.walk_at (l := PySem.Challenge.rw_everypiece_k19_whole_gaps_of_words) (n := 63) (x := "script") (sp := LawK.spLaw) rfl (by decide) rfl (fun w h Y => PySem.W.kIn_of Y) ?F (fun K H a ns hl _ hS => ⟨a, ns, rfl, hS, fun _ => rfl⟩)
  case F =>
    intro w mg fa h KX G hmg
    have hfa : mg "law" = some (.ref fa) := hmg
    clear hmg
    refine LawK.say KX (fun K => LawK.Sh0 (PySem.W.OpenLaw.prog PySem.Challenge.rw_everypiece_k19_whole_gaps_of_words) K mg) (by
      refine' LawK.sh0_mk KX G ?kq1a ?kq1b ?kq1c ?kq1d ?kq1e
      (case kq1a => k_is); (case kq1b => k_is); (case kq1c => k_is); (case kq1d => decide +kernel); (case kq1e => k_is)) ?_
    intro S
    refine LawK.say KX (fun K => ∃ fd, LawK.Df K mg "is_number" LawK.sPNumber ["thing"] 95 fd) (by
      refine' LawK.df_mk KX G (fun _ _ _ _ _ _ us hl => match us, hl with | [_], _ => rfl) ?kq2a ?kq2l ?kq2c
      (case kq2a => k_is); (case kq2l => k_is); (case kq2c => kernel_rfl)) ?_
    intro DPNumber
    refine LawK.say KX (fun K => ∃ fd, LawK.Df K mg "is_signs" LawK.sPSigns ["thing"] 102 fd) (by
      refine' LawK.df_mk KX G (fun _ _ _ _ _ _ us hl => match us, hl with | [_], _ => rfl) ?kq3a ?kq3l ?kq3c
      (case kq3a => k_is); (case kq3l => k_is); (case kq3c => kernel_rfl)) ?_
    intro DPSigns
    refine LawK.say KX (fun K => ∃ fd, LawK.Df K mg "is_word" LawK.sPWord ["thing"] 109 fd) (by
      refine' LawK.df_mk KX G (fun _ _ _ _ _ _ us hl => match us, hl with | [_], _ => rfl) ?kq4a ?kq4l ?kq4c
      (case kq4a => k_is); (case kq4l => k_is); (case kq4c => kernel_rfl)) ?_
    intro DPWord
    refine LawK.say KX (fun K => ∃ fd, LawK.Df K mg "is_place" LawK.sPPlace ["library", "thing"] 142 fd) (by
      refine' LawK.df_mk KX G (fun _ _ _ _ _ _ us hl => match us, hl with | [_, _], _ => rfl) ?kq5a ?kq5l ?kq5c
      (case kq5a => k_is); (case kq5l => k_is); (case kq5c => kernel_rfl)) ?_
    intro DPPlace
    refine LawK.say KX (fun K => ∃ fd, LawK.Df K mg "all_places" LawK.sPAllPlaces ["library"] 147 fd) (by
      refine' LawK.df_mk KX G (fun _ _ _ _ _ _ us hl => match us, hl with | [_], _ => rfl) ?kq6a ?kq6l ?kq6c
      (case kq6a => k_is); (case kq6l => k_is); (case kq6c => kernel_rfl)) ?_
    intro DPAllPlaces
    refine LawK.say KX (fun K => ∃ fd, LawK.Df K mg "in_order" LawK.sPInOrder ["library", "found"] 152 fd) (by
      refine' LawK.df_mk KX G (fun _ _ _ _ _ _ us hl => match us, hl with | [_, _], _ => rfl) ?kq7a ?kq7l ?kq7c
      (case kq7a => k_is); (case kq7l => k_is); (case kq7c => kernel_rfl)) ?_
    intro DPInOrder
    refine LawK.say KX (fun K => ∃ fd, LawK.Df K mg "endings" LawK.sPEndings ["library"] 159 fd) (by
      refine' LawK.df_mk KX G (fun _ _ _ _ _ _ us hl => match us, hl with | [_], _ => rfl) ?kq8a ?kq8l ?kq8c
      (case kq8a => k_is); (case kq8l => k_is); (case kq8c => kernel_rfl)) ?_
    intro DPEndings
    refine LawK.say KX (fun K => ∃ fd, LawK.Df K mg "ending" LawK.sPEnding ["library", "place"] 166 fd) (by
      refine' LawK.df_mk KX G (fun _ _ _ _ _ _ us hl => match us, hl with | [_, _], _ => rfl) ?kq9a ?kq9l ?kq9c
      (case kq9a => k_is); (case kq9l => k_is); (case kq9c => kernel_rfl)) ?_
    intro DPEnding
    refine LawK.say KX (fun K => ∃ fd, LawK.Df K mg "places" LawK.sPPlaces ["library", "word"] 171 fd) (by
      refine' LawK.df_mk KX G (fun _ _ _ _ _ _ us hl => match us, hl with | [_, _], _ => rfl) ?kq10a ?kq10l ?kq10c
      (case kq10a => k_is); (case kq10l => k_is); (case kq10c => kernel_rfl)) ?_
    intro DPPlaces
    refine LawK.say KX (fun K => ∃ fd, LawK.Df K mg "count" LawK.sPCount ["library", "word"] 178 fd) (by
      refine' LawK.df_mk KX G (fun _ _ _ _ _ _ us hl => match us, hl with | [_, _], _ => rfl) ?kq11a ?kq11l ?kq11c
      (case kq11a => k_is); (case kq11l => k_is); (case kq11c => kernel_rfl)) ?_
    intro DPCount
    refine LawK.say KX (fun K => ∃ fd, LawK.Df K mg "span" LawK.sPSpan ["library", "word"] 183 fd) (by
      refine' LawK.df_mk KX G (fun _ _ _ _ _ _ us hl => match us, hl with | [_, _], _ => rfl) ?kq12a ?kq12l ?kq12c
      (case kq12a => k_is); (case kq12l => k_is); (case kq12c => kernel_rfl)) ?_
    intro DPSpan
    refine LawK.say KX (fun K => ∃ fd, LawK.Df K mg "gap" LawK.sPGap ["library", "word"] 190 fd) (by
      refine' LawK.df_mk KX G (fun _ _ _ _ _ _ us hl => match us, hl with | [_, _], _ => rfl) ?kq13a ?kq13l ?kq13c
      (case kq13a => k_is); (case kq13l => k_is); (case kq13c => kernel_rfl)) ?_
    intro DPGap
    refine LawK.say KX (fun K => ∃ fd, LawK.Df K mg "is_gap" LawK.sPIsGap ["library", "word", "thing"] 195 fd) (by
      refine' LawK.df_mk KX G (fun _ _ _ _ _ _ us hl => match us, hl with | [_, _, _], _ => rfl) ?kq14a ?kq14l ?kq14c
      (case kq14a => k_is); (case kq14l => k_is); (case kq14c => kernel_rfl)) ?_
    intro DPIsGap
    refine LawK.say KX (fun K => ∃ fd, LawK.Df K mg "_law_hand" LawK.sHand ["script"] 200 fd) (by
      refine' LawK.df_mk KX G (fun _ _ _ _ _ _ us hl => match us, hl with | [_], _ => rfl) ?kq15a ?kq15l ?kq15c
      (case kq15a => k_is); (case kq15l => k_is); (case kq15c => kernel_rfl)) ?_
    intro DHand
    refine LawK.say KX (fun K => ∃ fd, LawK.Df K mg "_law_draw" LawK.sDraw ["hand", "many"] 207 fd) (by
      refine' LawK.df_mk KX G (fun _ _ _ _ _ _ us hl => match us, hl with | [_, _], _ => rfl) ?kq16a ?kq16l ?kq16c
      (case kq16a => k_is); (case kq16l => k_is); (case kq16c => kernel_rfl)) ?_
    intro DDraw
    refine LawK.say KX (fun K => ∃ fd, LawK.Df K mg "_law_is" LawK.sIs ["told", "due"] 212 fd) (by
      refine' LawK.df_mk KX G (fun _ _ _ _ _ _ us hl => match us, hl with | [_, _], _ => rfl) ?kq17a ?kq17l ?kq17c
      (case kq17a => k_is); (case kq17l => k_is); (case kq17c => kernel_rfl)) ?_
    intro DIs
    refine LawK.say KX (fun K => ∃ fd, LawK.Df K mg "_law_deep" LawK.sDeep ["hand"] 219 fd) (by
      refine' LawK.df_mk KX G (fun _ _ _ _ _ _ us hl => match us, hl with | [_], _ => rfl) ?kq18a ?kq18l ?kq18c
      (case kq18a => k_is); (case kq18l => k_is); (case kq18c => kernel_rfl)) ?_
    intro DDeep
    refine LawK.say KX (fun K => ∃ fd, LawK.Df K mg "_law_any_sign" LawK.sAnySign ["hand"] 226 fd) (by
      refine' LawK.df_mk KX G (fun _ _ _ _ _ _ us hl => match us, hl with | [_], _ => rfl) ?kq19a ?kq19l ?kq19c
      (case kq19a => k_is); (case kq19l => k_is); (case kq19c => kernel_rfl)) ?_
    intro DAnySign
    refine LawK.say KX (fun K => ∃ fd, LawK.Df K mg "_law_sign" LawK.sSign ["hand", "kind"] 233 fd) (by
      refine' LawK.df_mk KX G (fun _ _ _ _ _ _ us hl => match us, hl with | [_, _], _ => rfl) ?kq20a ?kq20l ?kq20c
      (case kq20a => k_is); (case kq20l => k_is); (case kq20c => kernel_rfl)) ?_
    intro DSign
    refine LawK.say KX (fun K => ∃ fd, LawK.Df K mg "_law_text" LawK.sText ["hand", "most"] 238 fd) (by
      refine' LawK.df_mk KX G (fun _ _ _ _ _ _ us hl => match us, hl with | [_, _], _ => rfl) ?kq21a ?kq21l ?kq21c
      (case kq21a => k_is); (case kq21l => k_is); (case kq21c => kernel_rfl)) ?_
    intro DText
    refine LawK.say KX (fun K => ∃ fd, LawK.Df K mg "_law_texts" LawK.sTexts ["hand", "most"] 245 fd) (by
      refine' LawK.df_mk KX G (fun _ _ _ _ _ _ us hl => match us, hl with | [_, _], _ => rfl) ?kq22a ?kq22l ?kq22c
      (case kq22a => k_is); (case kq22l => k_is); (case kq22c => kernel_rfl)) ?_
    intro DTexts
    refine LawK.say KX (fun K => ∃ fd, LawK.Df K mg "_law_word" LawK.sWord ["hand", "most"] 250 fd) (by
      refine' LawK.df_mk KX G (fun _ _ _ _ _ _ us hl => match us, hl with | [_, _], _ => rfl) ?kq23a ?kq23l ?kq23c
      (case kq23a => k_is); (case kq23l => k_is); (case kq23c => kernel_rfl)) ?_
    intro DWord
    refine LawK.say KX (fun K => ∃ fd, LawK.Df K mg "_law_order" LawK.sOrder ["texts"] 255 fd) (by
      refine' LawK.df_mk KX G (fun _ _ _ _ _ _ us hl => match us, hl with | [_], _ => rfl) ?kq24a ?kq24l ?kq24c
      (case kq24a => k_is); (case kq24l => k_is); (case kq24c => kernel_rfl)) ?_
    intro DOrder
    refine LawK.say KX (fun K => ∃ fd, LawK.Df K mg "_law_ending" LawK.sEnding ["texts", "place"] 262 fd) (by
      refine' LawK.df_mk KX G (fun _ _ _ _ _ _ us hl => match us, hl with | [_, _], _ => rfl) ?kq25a ?kq25l ?kq25c
      (case kq25a => k_is); (case kq25l => k_is); (case kq25c => kernel_rfl)) ?_
    intro DEnding
    refine LawK.say KX (fun K => ∃ fd, LawK.Df K mg "_law_places" LawK.sPlaces ["texts"] 267 fd) (by
      refine' LawK.df_mk KX G (fun _ _ _ _ _ _ us hl => match us, hl with | [_], _ => rfl) ?kq26a ?kq26l ?kq26c
      (case kq26a => k_is); (case kq26l => k_is); (case kq26c => kernel_rfl)) ?_
    intro DPlaces
    refine LawK.say KX (fun K => ∃ fd, LawK.Df K mg "_law_piece" LawK.sPiece ["hand", "texts"] 274 fd) (by
      refine' LawK.df_mk KX G (fun _ _ _ _ _ _ us hl => match us, hl with | [_, _], _ => rfl) ?kq27a ?kq27l ?kq27c
      (case kq27a => k_is); (case kq27l => k_is); (case kq27c => kernel_rfl)) ?_
    intro DPiece
    refine LawK.say KX (fun K => ∃ fd, LawK.Df K mg "_law_beside" LawK.sBeside ["order", "one", "other"] 281 fd) (by
      refine' LawK.df_mk KX G (fun _ _ _ _ _ _ us hl => match us, hl with | [_, _, _], _ => rfl) ?kq28a ?kq28l ?kq28c
      (case kq28a => k_is); (case kq28l => k_is); (case kq28c => kernel_rfl)) ?_
    intro DBeside
    refine LawK.say KX (fun K => ∃ fd, LawK.Df K mg "_law_is_due" LawK.sIsDue ["texts", "order", "word", "thing"] 286 fd) (by
      refine' LawK.df_mk KX G (fun _ _ _ _ _ _ us hl => match us, hl with | [_, _, _, _], _ => rfl) ?kq29a ?kq29l ?kq29c
      (case kq29a => k_is); (case kq29l => k_is); (case kq29c => kernel_rfl)) ?_
    intro DIsDue
    refine LawK.say KX (fun K => ∃ fd, LawK.Df K mg "_law_things" LawK.sThings ["hand", "texts", "order", "word"] 291 fd) (by
      refine' LawK.df_mk KX G (fun _ _ _ _ _ _ us hl => match us, hl with | [_, _, _, _], _ => rfl) ?kq30a ?kq30l ?kq30c
      (case kq30a => k_is); (case kq30l => k_is); (case kq30c => kernel_rfl)) ?_
    intro DThings
    refine LawK.say KX (fun K => ∃ fI fdI, LawK.LibC K mg 131 fI fdI) (by
      refine' LawK.lib_mk KX G ?kq31a ?kq31b ?kq31d ?kq31f ?kq31i
      (case kq31a => k_is); (case kq31b => k_is); (case kq31d => k_is); (case kq31f => kernel_rfl); (case kq31i => kernel_rfl)) ?_
    intro LL
    have GL : LawK.Glob mg := ⟨mg_none_of KX G (by k_is), mg_none_of KX G (by k_is), mg_none_of KX G (by k_is), mg_none_of KX G (by k_is), mg_none_of KX G (by k_is), mg_none_of KX G (by k_is), mg_none_of KX G (by k_is), mg_none_of KX G (by k_is), mg_none_of KX G (by k_is), mg_none_of KX G (by k_is), mg_none_of KX G (by k_is), mg_none_of KX G (by k_is), mg_none_of KX G (by k_is), mg_none_of KX G (by k_is), mg_none_of KX G (by k_is), mg_none_of KX G (by k_is), mg_none_of KX G (by k_is), mg_none_of KX G (by k_is), mg_none_of KX G (by k_is), mg_none_of KX G (by k_is)⟩
    refine' LawK.end_mk KX G hfa ?kq32a ?kq32l ?kq32c ?kq32b ?kq32d DPNumber DPSigns DPWord DPPlace DPAllPlaces DPInOrder DPEndings DPEnding DPPlaces DPCount DPSpan DPGap DPIsGap DHand DDraw DIs DDeep DAnySign DSign DText DTexts DWord DOrder DEnding DPlaces DPiece DBeside DIsDue DThings  LL GL
    (case kq32a => k_is); (case kq32l => k_is); (case kq32c => kernel_rfl); (case kq32b => k_is); (case kq32d => k_is)
